import PyProof.Rows.All
import Wide.All
import OpenK.AllK
import Wide.FinOn
import PyProof.EqAt
import PyProof.EqKinds
import PyProof.TupleCall
import KE.BitLaws
import Open.SpecLaws
import KE.OsHead
import KE.OsGo
import PyProof.Rows.FStr
import PyProof.Rows.StrIntSpec
import PyProof.Rows.StrPadWhole
import PyProof.StrCalls
import PyProof.StrOps2
import KE.KDictLaws
import KE.KDictList
import KE.KSortTupG
import PySem.Challenge.RW_vellumpages_s08_uncolumns
set_option Elab.async false
set_option linter.all false
section
set_option Elab.async false
set_option linter.all false
set_option maxRecDepth 100000
namespace L2
open PySem PySem.Spec PyProof.Rows
abbrev Key:=Sum Int Str
def keyIs:Key→Value→Bool
 | .inl k,v=>Value.isInt k v
 | .inr x,v=>Value.isStrOf x v
def keyH (w:World):Key→Int
 | .inl k=>hashInt k
 | .inr x=>hashStr w x
theorem keyIs_shape:∀ {k:Key}{v:Value},keyIs k v=true→(∃ i t,k=Sum.inl i∧v=Value.int i t)∨(∃ x t,k=Sum.inr x∧v=Value.str x t)
 | .inl i,v,h=>by
  obtain ⟨t,e⟩:=Value.isInt_shape (k:=i) (v:=v) h
  exact .inl ⟨i,t,rfl,e⟩
 | .inr x,v,h=>by
  obtain ⟨t,e⟩:=Value.isStrOf_shape (x:=x) (v:=v) h
  exact .inr ⟨x,t,rfl,e⟩
theorem key_ll (a b:Int):decide ((Sum.inl a:Key)=Sum.inl b)=(a==b):=by
 by_cases e:a=b
 ·subst e;simp
 ·have h:¬ (Sum.inl a:Key)=Sum.inl b:=fun q=>e (Sum.inl.inj q)
  rw [decide_eq_false h]
  exact (beq_eq_false_iff_ne.mpr e).symm
theorem key_rr (a b:Str):decide ((Sum.inr a:Key)=Sum.inr b)=decide (a=b):=by
 by_cases e:a=b
 ·subst e;simp
 ·have h:¬ (Sum.inr a:Key)=Sum.inr b:=fun q=>e (Sum.inr.inj q)
  rw [decide_eq_false h,decide_eq_false e]
theorem key_lr (a:Int) (b:Str):decide ((Sum.inl a:Key)=Sum.inr b)=false:=decide_eq_false (fun q=>nomatch q)
theorem key_rl (a:Str) (b:Int):decide ((Sum.inr a:Key)=Sum.inl b)=false:=decide_eq_false (fun q=>nomatch q)
def mixKind (prog:Program) (w:World):PySem.KeyKind prog w Key where
 is:=keyIs
 hash:=keyH w
 inj:=fun v a b ha hb=>by
  rcases keyIs_shape ha with ⟨i,t,rfl,rfl⟩ | ⟨x,t,rfl,rfl⟩
  ·rcases keyIs_shape hb with ⟨j,u,rfl,e⟩ | ⟨y,u,rfl,e⟩
   ·injection e with e1 _;rw [e1]
   ·exact nomatch e
  ·rcases keyIs_shape hb with ⟨j,u,rfl,e⟩ | ⟨y,u,rfl,e⟩
   ·exact nomatch e
   ·injection e with e1 _;rw [e1]
 byValue:=fun k v h=>by
  rcases keyIs_shape h with ⟨i,t,rfl,rfl⟩ | ⟨x,t,rfl,rfl⟩ <;> rfl
 pyHash:=fun hv h=>by
  rcases keyIs_shape hv with ⟨i,t,rfl,rfl⟩ | ⟨x,t,rfl,rfl⟩
  ·exact wpAny_pyHash_int h
  ·exact wpAny_pyHash_str h
 eqBool:=fun hu hv h=>by
  rcases keyIs_shape hu with ⟨i,t,rfl,rfl⟩ | ⟨x,t,rfl,rfl⟩
  ·rcases keyIs_shape hv with ⟨j,u,rfl,rfl⟩ | ⟨y,u,rfl,rfl⟩
   ·rw [key_ll] at h;exact wpAny_eqBool_int h
   ·rw [key_lr] at h;exact SeqAt.EqAt.int_str i t y u _ _ _ _ h
  ·rcases keyIs_shape hv with ⟨j,u,rfl,rfl⟩ | ⟨y,u,rfl,rfl⟩
   ·rw [key_rl] at h;exact SeqAt.EqAt.str_int x t j u _ _ _ _ h
   ·rw [key_rr] at h;exact wpAny_eqBool_str h
 «strs»:=fun k x t v h=>by
  rcases keyIs_shape h with ⟨i,u,rfl,e⟩ | ⟨y,u,rfl,e⟩
  ·exact nomatch e
  ·injection e with e1 _
   subst e1
   cases v <;> rfl
end L2
namespace L2
open PySem PySem.Spec PyProof.Rows
inductive V where
 | non | bl (b:Bool) | int (i:Int) | str (x:Str) | byt (b:Array UInt8) | flt (b:UInt64) | ref (a:Addr) | ty (n:String)
 deriving DecidableEq
def RelV:V→Value→Prop
 | .non,u=>u=Value.none
 | .bl b,u=>u=Value.bool b
 | .int i,u=>∃ t,u=Value.int i t
 | .str x,u=>∃ t,u=Value.str x t
 | .byt b,u=>∃ t,u=Value.bytes b t
 | .flt b,u=>∃ t,u=Value.float b t
 | .ref a,u=>u=Value.ref a
 | .ty n,u=>u=Value.type n
abbrev Vals:List V→List Value→Prop:=Paired RelV
theorem Vals.length {xs:List V}{us:List Value} (r:Vals xs us):xs.length=us.length:=Paired.length r
theorem Vals.get:∀ {xs:List V}{us:List Value}{i:Nat}{x:V},Vals xs us→xs[i]?=some x→∃ u,us[i]?=some u∧RelV x u
 | _,_,_,_,.nil,e=>by simp at e
 | _,_,0,_,.cons r _,e=>by simp at e;subst e;exact ⟨_,rfl,r⟩
 | _,_,i+1,x,.cons _ t,e=>by
  obtain ⟨u,h1,h2⟩:=Vals.get (i:=i) (x:=x) t (by simpa using e)
  exact ⟨u,by simpa using h1,h2⟩
theorem Vals.set {x:V}{u:Value} (r:RelV x u):∀ {xs:List V}{us:List Value} (i:Nat),Vals xs us→Vals (xs.set i x) (us.set i u)
 | _,_,_,.nil=>.nil
 | _,_,0,.cons _ t=>.cons r t
 | _,_,i+1,.cons q t=>.cons q (Vals.set r i t)
theorem Vals.append:∀ {xs ys:List V}{us ws:List Value},Vals xs us→Vals ys ws→Vals (xs++ys) (us++ws)
 | _,_,_,_,.nil,s=>s
 | _,_,_,_,.cons r t,s=>.cons r (Vals.append t s)
theorem Vals.take:∀ {xs:List V}{us:List Value} (n:Nat),Vals xs us→Vals (xs.take n) (us.take n)
 | _,_,0,_=>.nil
 | _,_,_+1,.nil=>.nil
 | _,_,n+1,.cons r t=>.cons r (Vals.take n t)
theorem Vals.drop:∀ {xs:List V}{us:List Value} (n:Nat),Vals xs us→Vals (xs.drop n) (us.drop n)
 | _,_,0,r=>r
 | _,_,_+1,.nil=>.nil
 | _,_,n+1,.cons _ t=>Vals.drop n t
def RelO:Option V→Option Value→Prop
 | some v,some u=>RelV v u
 | none,none=>True
 | _,_=>False
def KV {κ:Type}:List (κ×V)→List (κ×Value)→Prop:=Paired fun (p:κ×V) (q:κ×Value)=>p.1=q.1∧RelV p.2 q.2
def kV:Key→V
 | .inl i=>.int i
 | .inr x=>.str x
inductive HO where
 /-- a list -/
 | lst (xs:List V)
 /-- a tuple (never changes) -/
 | tup (xs:List V)
 /-- a dict whose keys are ints and texts;one whose keys are tuples of ints and texts (the empty one is both) -/
 | dK (kvs:List (Key×V)) | dT (kvs:List (List Key×V))
 /-- a set of ints: its members,its size -/
 | set (S:Int→Bool) (n:Nat)
 /-- an instance of the class at C,its dict at dx,its attributes -/
 | ins (C dx:Addr) (fs:List (Str×V))
 /-- the dict of the instance at x -/
 | own (x:Addr)
 /-- the dict of an exception -/
 | xd (fs:List (Str×V))
 /-- a bound method,f of x -/
 | met (f x:Addr)
 /-- a range object lo,lo+1,.. below hi -/
 | rng (lo hi:Int)
 /-- a thing that is known to the object (the script;a dict while a loop walks it): read,never written while it is so -/
 | frz (o:Obj) (u:HO)
 /-- a code object's table -/
 | tbl (ps:Array Value)
 /-- any other thing,by what is true of its one object (a def of one's own: SetO a S n:=HO.ext fun h=>..) -/
 | ext (φ:Heap→Prop)
abbrev Hp:=Addr→Option HO
def upd (H:Hp) (a:Addr) (o:HO):Hp:=fun b=>if b=a then some o else H b
theorem upd_same {H:Hp}{a:Addr}{o:HO}:upd H a o a=some o:=by unfold upd;rw [if_pos rfl]
theorem upd_ne {H:Hp}{a b:Addr}{o:HO} (h:b≠a):upd H a o b=H b:=by unfold upd;rw [if_neg h]
theorem upd_upd {H:Hp}{a:Addr}{o u:HO}:upd (upd H a o) a u=upd H a u:=by
 funext b;unfold upd;split <;> rfl
theorem ne_of {H:Hp}{a b:Addr}{o u:HO} (h:H a=some o) (h':H b=some u) (d:o≠u):a≠b:=by
 intro e;subst e;rw [h] at h';exact d (Option.some.inj h')
theorem ne_of_none {H:Hp}{a b:Addr}{o:HO} (h:H a=some o) (h':H b=none):a≠b:=by
 intro e;subst e;rw [h] at h';cases h'
section
variable (P:Program) (w:World)
def ObjOk (H:Hp) (h:Heap) (a:Addr):HO→Prop
 | .lst xs=>xs.length≤sizeLine∧∃ (its:List Value) (n:Nat),Vals xs its∧h.get? a=some { cls:=.type "list",data:=.seq its.toArray n }
 | .tup xs=>xs.length≤sizeLine∧∃ its:List Value,Vals xs its∧IsTup h a its.toArray
 | .dK kvs=>kvs.length≤sizeLine∧(a==sysModules)=false∧∃ vs,KV kvs vs∧h.DictOf (mixKind P w) a vs
 | .dT kvs=>kvs.length≤sizeLine∧(a==sysModules)=false∧∃ xs:List (List Key×Addr×Value),
   Paired (fun (p:List Key×V) (q:List Key×Addr×Value)=>p.1=q.1∧H q.2.1=some (.tup (p.1.map kV))∧RelV p.2 q.2.2) kvs xs ∧
   ∃ o es ep,h.get? a=some o∧o.ExactDict∧o.data=.dict es ep∧es.toList=xs.map (entryOfKey (tupleKind (mixKind P w)))∧(xs.map (·.1)).Nodup
 | .set S n=>h.SetOf (intKind P w) a S n
 | .ins C dx fs=>H dx=some (.own a)∧fs.length≤1000∧dx≠a∧h.get? a=some (PySem.W.instObj C dx) ∧
   ∃ mA,h.Ns1 dx mA∧(∀ f,RelO (fs.lookup f) (mA f))∧PySem.Within mA (fs.map (·.1))
 | .own _=>∃ o,h.get? a=some o
 | .xd fs=>∃ mA,h.Ns1 a mA∧∀ f,RelO (fs.lookup f) (mA f)
 | .rng lo hi=>∃ t u v,h.get? a=some { cls:=.type "range",data:=.fields #[.int lo t,.int hi u,.int 1 v] }
 | .frz o u=>h.get? a=some o∧ObjOk H h a u
 | .tbl ps=>h.get? a=some { cls:=.none,data:=.fields ps }
 | .met f x=>h.get? a=some (PySem.W.methodObj (.ref f) (.ref x))
 | .ext φ=>φ h∧(∃ o,h.get? a=some o)∧∀ h1 h2:Heap,φ h1→(∀ o,h1.get? a=some o→h2.get? a=some o)→φ h2
def HOk (H:Hp) (h:Heap):Prop:=∀ a o,H a=some o→ObjOk P w H h a o
end
section
variable {P:Program}{w:World}{H H':Hp}{h h':Heap}{a:Addr}{o:HO}
theorem ObjOk.lt (x:ObjOk P w H h a o):a<h.objs.size:=by
 cases o with
 | lst xs=>obtain ⟨_,_,_,_,e⟩:=x;exact Heap.lt_size e
 | tup xs=>obtain ⟨_,_,_,p⟩:=x;exact p.lt
 | dK kvs=>obtain ⟨_,_,_,_,o,_,_,e,_⟩:=x;exact Heap.lt_size e
 | dT kvs=>obtain ⟨_,_,_,_,o,_,_,e,_⟩:=x;exact Heap.lt_size e
 | set S n=>obtain ⟨o,_,_,_,e,_⟩:=x;exact Heap.lt_size e
 | ins C dx fs=>obtain ⟨_,_,_,e,_⟩:=x;exact Heap.lt_size e
 | own y=>obtain ⟨_,e⟩:=x;exact Heap.lt_size e
 | xd fs=>obtain ⟨_,⟨_,_,_,e,_⟩,_⟩:=x;exact Heap.lt_size e
 | rng lo hi=>obtain ⟨_,_,_,e⟩:=x;exact Heap.lt_size e
 | frz ob u=>obtain ⟨e,_⟩:=x;exact Heap.lt_size e
 | tbl ps=>exact Heap.lt_size (show h.get? a=some _ from x)
 | met f y=>exact Heap.lt_size (show h.get? a=some _ from x)
 | ext φ=>obtain ⟨_,⟨_,e⟩,_⟩:=x;exact Heap.lt_size e
theorem Paired.mapP {α β:Type}{F G:α→β→Prop}:∀ {l₁:List α}{l₂:List β},Paired F l₁ l₂→(∀ a b,F a b→G a b)→Paired G l₁ l₂
 | _,_,.nil,_=>.nil
 | _,_,.cons r t,f=>.cons (f _ _ r) (Paired.mapP t f)
theorem ObjOk.stay (x:ObjOk P w H h a o) (k:∀ b u,(b=a∨H b=some (.own a))→h.get? b=some u→h'.get? b=some u)
  (ho:∀ b,H b=some (.own a)→H' b=some (.own a)) (ht:∀ b xs,H b=some (.tup xs)→H' b=some (.tup xs)):ObjOk P w H' h' a o:=by
 induction o with
 | lst xs=>obtain ⟨z,its,n,r,e⟩:=x;exact ⟨z,its,n,r,k _ _ (.inl rfl) e⟩
 | tup xs=>obtain ⟨z,its,r,ob,e,c⟩:=x;exact ⟨z,its,r,ob,k _ _ (.inl rfl) e,c⟩
 | dK kvs=>obtain ⟨z,y,vs,r,ob,es,ep,e,c⟩:=x;exact ⟨z,y,vs,r,ob,es,ep,k _ _ (.inl rfl) e,c⟩
 | dT kvs =>
  obtain ⟨z,y,xs,r,ob,es,ep,e,c⟩:=x
  exact ⟨z,y,xs,Paired.mapP r fun p q z=>⟨z.1,ht _ _ z.2.1,z.2.2⟩,ob,es,ep,k _ _ (.inl rfl) e,c⟩
 | set S n=>obtain ⟨ob,es,ep,t,e,c⟩:=x;exact ⟨ob,es,ep,t,k _ _ (.inl rfl) e,c⟩
 | ins C dx fs =>
  obtain ⟨d,z,ne,e,mA,⟨od,es,ep,e2,c⟩,r⟩:=x
  exact ⟨ho _ d,z,ne,k _ _ (.inl rfl) e,mA,⟨od,es,ep,k _ _ (.inr d) e2,c⟩,r⟩
 | own y=>obtain ⟨ob,e⟩:=x;exact ⟨ob,k _ _ (.inl rfl) e⟩
 | xd fs=>obtain ⟨mA,⟨od,es,ep,e,c⟩,r⟩:=x;exact ⟨mA,⟨od,es,ep,k _ _ (.inl rfl) e,c⟩,r⟩
 | rng lo hi=>obtain ⟨t,u,v,e⟩:=x;exact ⟨t,u,v,k _ _ (.inl rfl) e⟩
 | frz ob u ih=>obtain ⟨e,q⟩:=x;exact ⟨k _ _ (.inl rfl) e,ih q⟩
 | tbl ps =>
  have e:h.get? a=some { cls:=.none,data:=.fields ps }:=x
  show h'.get? a=some { cls:=.none,data:=.fields ps }
  exact k a _ (.inl rfl) e
 | met f y =>
  have e:h.get? a=some (PySem.W.methodObj (.ref f) (.ref y)):=x
  show h'.get? a=some (PySem.W.methodObj (.ref f) (.ref y))
  exact k a _ (.inl rfl) e
 | ext φ=>obtain ⟨p,⟨o,e⟩,st⟩:=x;exact ⟨st _ _ p fun o q=>k _ _ (.inl rfl) q,⟨o,k _ _ (.inl rfl) e⟩,st⟩
theorem HOk.lt (x:HOk P w H h) (e:H a=some o):a<h.objs.size:=(x a o e).lt
theorem HOk.fresh (x:HOk P w H h) (e:h.objs.size≤a):H a=none:=by
 cases q:H a with
 | none=>rfl
 | some u=>exact absurd (Nat.lt_of_lt_of_le (x.lt q) e) (Nat.lt_irrefl _)
theorem HOk.kept (x:HOk P w H h) (k:∀ b u,h.get? b=some u→h'.get? b=some u):HOk P w H h':=fun a o e =>
 (x a o e).stay (fun b u _ q=>k b u q) (fun _ q=>q) fun _ _ q=>q
theorem HOk.laid (x:HOk P w H h) (k:∀ b u,h.get? b=some u→h'.get? b=some u) (hp:h.objs.size≤a) (new:ObjOk P w (upd H a o) h' a o):HOk P w (upd H a o) h':=fun b u e=>by
 have hn:=x.fresh hp
 by_cases hb:b=a
 ·subst hb;rw [upd_same] at e;cases e;exact new
 ·rw [upd_ne hb] at e
  exact (x b u e).stay (fun c v _ q=>k c v q) (fun c q=>by rw [upd_ne (ne_of_none q hn)];exact q) fun c xs q=>by rw [upd_ne (ne_of_none q hn)];exact q
end
def Rd (H:Hp) (a:Addr) (u:HO):Prop:=H a=some u∨∃ o,H a=some (.frz o u)
theorem Rd.ok {P:Program}{w:World}{H:Hp}{h:Heap}{a:Addr}{u:HO} (r:Rd H a u) (x:HOk P w H h):ObjOk P w H h a u:=by
 rcases r with r | ⟨o,r⟩
 ·exact x a u r
 ·obtain ⟨_,q⟩:=x a _ r
  exact q
def Mut:Option HO→Prop
 | some (.lst _)=>True
 | some (.dK _)=>True
 | some (.dT _)=>True
 | some (.set _ _)=>True
 | some (.ins _ _ _)=>True
 | some (.ext _)=>True
 | _=>False
section
variable {P:Program}{w:World}{H:Hp}{h h':Heap}{x e:Addr}{o':HO}
theorem HOk.write (ok:HOk P w H h) (mu:Mut (H x)) (he:e=x∨H e=some (.own x)) (k:∀ b u,b≠e→h.get? b=some u→h'.get? b=some u) (heo:∃ u,h'.get? e=some u)
  (new:ObjOk P w (upd H x o') h' x o'):HOk P w (upd H x o') h':=fun b u q=>by
 have nown:∀ c y,H c=some (.own y)→c≠x:=fun c y r z=>by subst z;rw [r] at mu;exact mu
 have ntup:∀ c xs,H c=some (.tup xs)→c≠x:=fun c xs r z=>by subst z;rw [r] at mu;exact mu
 by_cases hb:b=x
 ·subst hb;rw [upd_same] at q;cases q;exact new
 ·rw [upd_ne hb] at q
  by_cases hbe:b=e
  ·have q':H b=some (.own x):=by
    rcases he with z | z
    ·exact absurd (hbe.trans z) hb
    ·rw [hbe];exact z
   rw [q] at q';cases q'
   obtain ⟨v,hv⟩:=heo
   exact ⟨v,by rw [hbe];exact hv⟩
  ·refine (ok b u q).stay (fun c v hc r=>k c v ?_ r) (fun c r=>by rw [upd_ne (nown c b r)];exact r) fun c xs r=>by rw [upd_ne (ntup c xs r)];exact r
   rcases hc with rfl | hc
   ·exact hbe
   ·rintro rfl
    rcases he with z | z
    ·exact nown c b hc z
    ·rw [hc] at z;cases z;exact hb rfl
end
structure Un (fs ex:List Addr) (H H':Hp) (h h':Heap):Prop where
 keep:∀ b o,h.get? b=some o→H b=none→b ∉ fs→b ∉ ex→h'.get? b=some o
 slot:∀ b o,h.get? b=some o→H b=none→b∈fs→b ∉ ex→∃ sl,h'.get? b=some { o with slots:=sl }
 free:∀ b o,h.get? b=some o→H b=none→b ∉ ex→H' b=none
 there:∀ b o,h.get? b=some o→b ∉ ex→∃ o',h'.get? b=some o'
 tups:∀ b xs,H b=some (.tup xs)→H' b=some (.tup xs)
 frzs:∀ b o u,H b=some (.frz o u)→H' b=some (.frz o u)
 tbls:∀ b ps,H b=some (.tbl ps)→∃ more,H' b=some (.tbl (ps++more))
section
variable {fs fs' ex ex':List Addr}{H H1 H2:Hp}{h h1 h2 h':Heap}{a x e:Addr}{o:HO}
theorem Un.any (u:Un fs ex H H1 h h1) {b:Addr}{ob:Obj} (q:h.get? b=some ob) (n:H b=none) (hx:b ∉ ex):∃ sl,h1.get? b=some { ob with slots:=sl }:=by
 by_cases hb:b∈fs
 ·exact u.slot b ob q n hb hx
 ·exact ⟨ob.slots,u.keep b ob q n hb hx⟩
theorem Un.kept (k:∀ b u,h.get? b=some u→h'.get? b=some u):Un fs ex H H h h' :=
 ⟨fun b ob q _ _ _=>k b ob q,fun b ob q _ _ _=>⟨ob.slots,k b ob q⟩,fun _ _ _ n _=>n,fun b ob q _=>⟨ob,k b ob q⟩,fun _ _ q=>q,fun _ _ _ q=>q,fun _ ps q=>⟨#[],by rw [q];simp⟩⟩
theorem Un.refl:Un fs ex H H h h:=Un.kept fun _ _ q=>q
theorem Un.laid (k:∀ b u,h.get? b=some u→h'.get? b=some u) (hp:h.objs.size≤a) (hn:H a=none):Un fs ex H (upd H a o) h h' where
 keep:=fun b u q _ _ _=>k b u q
 slot:=fun b u q _ _ _=>⟨u.slots,k b u q⟩
 free:=fun b u q n _=>by rw [upd_ne (Nat.ne_of_lt (Nat.lt_of_lt_of_le (Heap.lt_size q) hp))];exact n
 there:=fun b u q _=>⟨u,k b u q⟩
 tups:=fun b xs q=>by rw [upd_ne (ne_of_none q hn)];exact q
 frzs:=fun b u xs q=>by rw [upd_ne (ne_of_none q hn)];exact q
 tbls:=fun b ps q=>⟨#[],by rw [upd_ne (ne_of_none q hn),q];simp⟩
theorem Un.write (mu:Mut (H x)) (he:e=x∨H e=some (.own x)) (k:∀ b u,b≠e→h.get? b=some u→h'.get? b=some u) (heo:∃ u,h'.get? e=some u):Un fs ex H (upd H x o) h h':=by
 have hx:∀ b,H b=none→b≠x:=fun b n z=>by subst z;rw [n] at mu;exact mu
 have hb:∀ b,H b=none→b≠e:=fun b n z=>by
  subst z
  rcases he with r | r
  ·exact hx b n r
  ·rw [n] at r;cases r
 have hm:∀ b u,H b=some u→¬ Mut (some u)→b≠x:=fun b u q nm z=>by subst z;rw [q] at mu;exact nm mu
 refine ⟨fun b u q n _ _=>k b u (hb b n) q,fun b u q n _ _=>⟨u.slots,k b u (hb b n) q⟩,fun b u q n _=>by rw [upd_ne (hx b n)];exact n,fun b u q _=>?_,
  fun b xs q=>by rw [upd_ne (hm b _ q fun z=>z)];exact q,fun b u xs q=>by rw [upd_ne (hm b _ q fun z=>z)];exact q,fun b ps q=>⟨#[],by rw [upd_ne (hm b _ q fun z=>z),q];simp⟩⟩
 by_cases hbe:b=e
 ·subst hbe;exact heo
 ·exact ⟨u,k b u hbe q⟩
end
def trk (h:Heap) (H:Hp):List Addr:=(List.range h.objs.size).filter fun a=>(H a).isSome
def hidT (h:Heap) (H:Hp):Heap:=PySem.W.hideAll h (trk h H)
theorem hidT_size (h:Heap) (H:Hp):(hidT h H).objs.size=h.objs.size:=PySem.W.hideAll_size _ _
theorem hidT_get {h:Heap}{H:Hp}{b:Addr}{o:Obj} (e:h.get? b=some o) (n:H b=none):(hidT h H).get? b=some o :=
 PySem.W.hideAll_get _ e fun hm=>by
  have q:(H b).isSome=true:=(List.mem_filter.mp hm).2
  rw [n] at q;simp at q
theorem of_hidT {h:Heap}{H:Hp}{b:Addr}{o:Obj} (e:(hidT h H).get? b=some o):h.get? b=some o∧H b=none:=by
 have e':h.get? b=some o:=PySem.W.of_hideAll (trk h H) e
 refine ⟨e',?_⟩
 cases q:H b with
 | none=>rfl
 | some x =>
  have hm:b∈trk h H:=List.mem_filter.mpr ⟨List.mem_range.mpr (Heap.lt_size e'),by simp [q]⟩
  have z:(hidT h H).get? b=none:=PySem.W.hideAll_none (trk h H) hm
  rw [z] at e;cases e
def allNews (g h:Heap) (L:Addr):List (Addr×Obj):=(List.range h.objs.size).filterMap fun a=>if a=L∨(g.get? a).isSome=true then none else (h.get? a).map fun o=>(a,o)
def rest (g h:Heap) (L d:Addr):List (Addr×Obj):=(allNews g h L).filter fun p=>decide (p.1≠d)
end L2
namespace L2
open PySem PySem.Spec PyProof.Rows
structure Mod (K:PySem.W.Frag) (mg:Str→Option Value) (base:Heap):Prop where
 kin:K.In base
 glob:base.Ns mainGlobals mg
 blt:∃ mb,base.Ns builtinsNs mb∧∀ x:Str,x≠"__name__"→mb x=bootBuiltins x
 nolimit:base.NoLimit
structure Cx where
 prog:Program
 w:World
 K:PySem.W.Frag
 mg:Str→Option Value
 base:Heap
 A:Around
 N:List Str
 s_0:Shared
 H_0:Hp
 env:Env
 outer:List Env
 stack:List Env
 ex:List Addr
 fn:Str→Bool
 calm:Bool
 pn:List (Addr×Obj)
 xe:Value→Shared→Prop
def frs (l:List Env):List Addr:=l.filterMap (·.frame)
abbrev Cx.fs (X:Cx):List Addr:=frs X.outer
def Vis (sc:Scope) (x:Str):Prop:=sc.names.lookup x=some .local∨sc.names.lookup x=some .cell∨sc.names.lookup x=some .free
def Loc (sc:Scope) (x:Str):Prop:=sc.names.lookup x=some .local∨sc.names.lookup x=some .cell
def Look (env:Env) (h:Heap) (m:Str→Option Value) (x:Str) (u:Value):Prop :=
 (env.kindOf x=some .local∧m x=some u)∨((env.kindOf x=some .cell∨env.kindOf x=some .free)∧∃ c,env.cells.lookup x=some c∧h.IsCell c (some u))
structure Cx.Ok (X:Cx):Prop where
 mod:Mod X.K X.mg X.base
 kind:X.env.scope.kind=.function
 glob:X.env.globals=mainGlobals
 blt:X.env.builtins=builtinsNs
 above:X.s_0.heap.objs.size≤X.env.locals
 inj:∀ x y c,X.env.cells.lookup x=some c→X.env.cells.lookup y=some c→x=y
 has:∀ x,(X.env.kindOf x=some .cell∨X.env.kindOf x=some .free)→∃ c,X.env.cells.lookup x=some c
 cab:∀ x c,X.fn x=true→X.env.cells.lookup x=some c→X.s_0.heap.objs.size≤c
 hd:X.calm=true→X.A.handled=none
 frames:X.A.frames=some X.stack
 stk:X.stack=X.outer∨(X.stack=X.env::X.outer∧X.env.frame=some X.env.locals)
 exf:∀ b∈X.ex,b≠X.env.locals∧∀ x c,X.env.cells.lookup x=some c→c≠b
 bs:∀ b o,X.base.get? b=some o→X.s_0.heap.get? b=some o∧X.H_0 b=none
 bsz:X.base.objs.size≤X.s_0.heap.objs.size
 noex:∀ b o,X.base.get? b=some o→b ∉ X.ex
 exfs:∀ b∈X.ex,b ∉ X.fs
 funs:X.s_0.heap.FunFrames X.base X.outer
 frf:∀ b∈X.fs,X.H_0 b=none
structure Inv (X:Cx) (pins:List (Addr×Obj)) (σ:List (Option V)) (H:Hp) (s:Shared):Prop where
 ok:X.Ok
 os:s.os=X.s_0.os
 bare:AllBare s.gens
 base:Un X.fs X.ex X.H_0 H X.s_0.heap s.heap
 loc:∃ m,s.heap.Ns X.env.locals m∧∀ (i:Nat) (x:Str) (v:V),X.N[i]?=some x→σ[i]?=some (some v)→Vis X.env.scope x→∃ u,RelV v u∧Look X.env s.heap m x u
 cell:∀ x c,X.env.cells.lookup x=some c→∃ v,s.heap.IsCell c v
 free:H X.env.locals=none
 freeC:∀ x c,X.env.cells.lookup x=some c→H c=none
 pin:∀ p∈X.pn++pins,s.heap.get? p.1=some p.2∧H p.1=none∧p.1≠X.env.locals∧p.1 ∉ X.fs∧∀ v,p.2.data≠.cell v
 hok:HOk X.prog X.w H s.heap
 len:σ.length=X.N.length
section
variable {X:Cx}{pins:List (Addr×Obj)}{σ:List (Option V)}{H H':Hp}{s:Shared}{h':Heap}
theorem Cx.Ok.nofr (ok:X.Ok) {b:Addr}{o:Obj} (e:X.base.get? b=some o):b ∉ X.fs:=fun hb=>by
 have:=(ok.funs.mem hb).1
 rw [e] at this;cases this
theorem Inv.bs (I:Inv X pins σ H s):∀ b o,X.base.get? b=some o→s.heap.get? b=some o∧H b=none:=fun b o e =>
 ⟨I.base.keep b o (I.ok.bs b o e).1 (I.ok.bs b o e).2 (I.ok.nofr e) (I.ok.noex b o e),I.base.free b o (I.ok.bs b o e).1 (I.ok.bs b o e).2 (I.ok.noex b o e)⟩
theorem Inv.bk (I:Inv X pins σ H s):∀ b o,X.base.get? b=some o→s.heap.get? b=some o:=fun b o e=>(I.bs b o e).1
theorem Inv.mod (I:Inv X pins σ H s):Mod X.K X.mg X.base:=I.ok.mod
theorem Inv.kIn (I:Inv X pins σ H s):X.K.In s.heap:=I.ok.mod.kin.keeps I.bk
theorem Inv.fr (I:Inv X pins σ H s):∃ m,Fr X.base X.env.locals s.heap m :=
 let ⟨m,hn,_⟩:=I.loc
 ⟨m,hn,I.bk,Nat.le_trans I.ok.bsz I.ok.above⟩
theorem Inv.lt (I:Inv X pins σ H s):X.env.locals<s.heap.objs.size:=let ⟨_,hn,_⟩:=I.loc;hn.lt
theorem Inv.sz (I:Inv X pins σ H s):X.s_0.heap.objs.size≤s.heap.objs.size:=Nat.le_trans I.ok.above (Nat.le_of_lt I.lt)
theorem Inv.nofs (I:Inv X pins σ H s) {a:Addr} (h:s.heap.objs.size≤a):a ∉ X.fs:=fun hb=>by
 obtain ⟨_,o,ho,_⟩:=I.ok.funs.mem hb
 exact absurd (Nat.lt_of_lt_of_le (Heap.lt_size ho) (Nat.le_trans I.sz h)) (Nat.lt_irrefl _)
theorem Inv.cne (I:Inv X pins σ H s):∀ x c,X.env.cells.lookup x=some c→c≠X.env.locals:=fun x c e z=>by
 obtain ⟨v,o,ho,hd⟩:=I.cell x c e
 obtain ⟨m,⟨o',es,ep,ho',hd',_⟩,_⟩:=I.loc
 rw [z,ho'] at ho;cases ho;rw [hd'] at hd;cases hd
theorem Inv.funs (I:Inv X pins σ H s):s.heap.FunFrames X.base X.outer:=by
 have all:∀ (l:List Env),(∀ b∈frs l,b∈X.fs)→X.s_0.heap.FunFrames X.base l→s.heap.FunFrames X.base l:=by
  intro l
  induction l with
  | nil=>intro _ _;trivial
  | cons env r ih =>
   intro hs hl
   obtain ⟨hk,⟨L,o,hf,hn,ho,hd⟩,hr⟩:=hl
   have hL:L∈X.fs:=hs L (by unfold frs;rw [List.filterMap_cons,hf];exact List.mem_cons_self)
   obtain ⟨sl,e⟩:=I.base.slot L o ho (I.ok.frf L hL) hL fun z=>I.ok.exfs L z hL
   exact ⟨hk,⟨L,_,hf,hn,e,hd⟩,ih (fun b hb=>hs b (by unfold frs;rw [List.filterMap_cons,hf];exact List.mem_cons_of_mem _ hb)) hr⟩
 exact all X.outer (fun _ hb=>hb) I.ok.funs
theorem Inv.stack (I:Inv X pins σ H s):s.heap.FunFrames X.base X.stack:=by
 rcases I.ok.stk with e | ⟨e,hf⟩
 ·rw [e];exact I.funs
 ·rw [e]
  obtain ⟨m,hn,_⟩:=I.loc
  refine .cons (by rw [I.ok.kind];decide) hf hn ?_ I.funs
  exact Heap.get?_none_of_le (Nat.le_trans I.ok.bsz I.ok.above)
theorem Inv.stkSub (I:Inv X pins σ H s):∀ b∈frs X.stack,b∈X.env.locals::X.fs:=fun b hb=>by
 rcases I.ok.stk with e | ⟨e,hf⟩
 ·rw [e] at hb;exact List.mem_cons_of_mem _ hb
 ·rw [e] at hb
  unfold frs at hb
  rw [List.filterMap_cons,hf] at hb
  exact hb
theorem Inv.stkFree (I:Inv X pins σ H s):∀ b∈frs X.stack,H b=none:=fun b hb=>by
 rcases List.mem_cons.mp (I.stkSub b hb) with e | hb
 ·rw [e];exact I.free
 ·obtain ⟨_,o,ho,_⟩:=I.ok.funs.mem hb
  exact I.base.free b o ho (I.ok.frf b hb) fun z=>I.ok.exfs b z hb
theorem Inv.step {g':Array GenState}{t':Nat}{d':Drawn}{ch:List Addr} (I:Inv X pins σ H s)
  (hch:∀ b∈ch,(b∈X.ex∨X.s_0.heap.objs.size≤b)∧b≠X.env.locals∧(∀ x c,X.env.cells.lookup x=some c→c≠b)∧∀ p∈X.pn++pins,p.1≠b)
  (keep:∀ b o,b≠X.env.locals→b ∉ X.fs→b ∉ ch→s.heap.get? b=some o→H b=none→h'.get? b=some o)
  (slot:∀ b o,b≠X.env.locals→b∈X.fs→b ∉ ch→s.heap.get? b=some o→H b=none→∃ sl,h'.get? b=some { o with slots:=sl }) (free:∀ b o,b ∉ ch→s.heap.get? b=some o→H b=none→H' b=none)
  (there:∀ b o,b ∉ ch→s.heap.get? b=some o→∃ o',h'.get? b=some o')
  (tups:∀ b xs,H b=some (.tup xs)→H' b=some (.tup xs)) (frzs:∀ b o u,H b=some (.frz o u)→H' b=some (.frz o u)) (tbls:∀ b ps,H b=some (.tbl ps)→∃ more,H' b=some (.tbl (ps++more)))
  (ns:∀ m,s.heap.Ns X.env.locals m→h'.Ns X.env.locals m) (hok:HOk X.prog X.w H' h') (hg:AllBare g') :
  Inv X pins σ H' { s with heap:=h',gens:=g',drawn:=d',toks:=t' }:=by
 have neL:∀ b o,X.s_0.heap.get? b=some o→b≠X.env.locals:=fun b o e=>Nat.ne_of_lt (Nat.lt_of_lt_of_le (Heap.lt_size e) I.ok.above)
 have neC:∀ b o,X.s_0.heap.get? b=some o→b ∉ X.ex→b ∉ ch:=fun b o e hx hb=>by
  rcases (hch b hb).1 with z | z
  ·exact hx z
  ·exact absurd (Nat.lt_of_lt_of_le (Heap.lt_size e) z) (Nat.lt_irrefl _)
 have cellK:∀ x c,X.env.cells.lookup x=some c→∀ v,s.heap.IsCell c v→h'.IsCell c v:=fun x c e v ⟨o,ho,hd⟩=>by
  have nch:c ∉ ch:=fun z=>(hch c z).2.2.1 x c e rfl
  by_cases hc:c∈X.fs
  ·obtain ⟨sl,q⟩:=slot c o (I.cne x c e) hc nch ho (I.freeC x c e)
   exact ⟨_,q,hd⟩
  ·exact ⟨o,keep c o (I.cne x c e) hc nch ho (I.freeC x c e),hd⟩
 refine ⟨I.ok,I.os,hg,⟨fun b o e n hb hx=>?_,fun b o e n hb hx=>?_,fun b o e n hx=>?_,fun b o e hx=>?_,fun b xs e=>tups b xs (I.base.tups b xs e),fun b o xs e=>frzs b o xs (I.base.frzs b o xs e),fun b ps e=>?_⟩,?_,fun x c e=>?_,?_,fun x c e=>?_,fun p hp=>?_,hok,I.len⟩
 ·exact keep b o (neL b o e) hb (neC b o e hx) (I.base.keep b o e n hb hx) (I.base.free b o e n hx)
 ·obtain ⟨sl,e1⟩:=I.base.slot b o e n hb hx
  obtain ⟨sl',e2⟩:=slot b _ (neL b o e) hb (neC b o e hx) e1 (I.base.free b o e n hx)
  exact ⟨sl',e2⟩
 ·obtain ⟨o',e1⟩:=I.base.there b o e hx
  exact free b o' (neC b o e hx) e1 (I.base.free b o e n hx)
 ·obtain ⟨o',e1⟩:=I.base.there b o e hx
  exact there b o' (neC b o e hx) e1
 ·obtain ⟨m1,e1⟩:=I.base.tbls b ps e
  obtain ⟨m2,e2⟩:=tbls b _ e1
  exact ⟨m1++m2,by rw [e2,Array.append_assoc]⟩
 ·obtain ⟨m,hn,hl⟩:=I.loc
  refine ⟨m,ns m hn,fun i x v e1 e2 e3=>?_⟩
  obtain ⟨u,r,l⟩:=hl i x v e1 e2 e3
  refine ⟨u,r,?_⟩
  rcases l with l | ⟨k,c,e,z⟩
  ·exact .inl l
  ·exact .inr ⟨k,c,e,cellK x c e _ z⟩
 ·obtain ⟨v,z⟩:=I.cell x c e
  exact ⟨v,cellK x c e v z⟩
 ·obtain ⟨m,⟨o,_,_,ho,_⟩,_⟩:=I.loc
  exact free _ o (fun z=>(hch _ z).2.1 rfl) ho I.free
 ·obtain ⟨v,o,ho,hd⟩:=I.cell x c e
  exact free c o (fun z=>(hch c z).2.2.1 x c e rfl) ho (I.freeC x c e)
 ·obtain ⟨e,n,ne,nf,d⟩:=I.pin p hp
  have nch:p.1 ∉ ch:=fun z=>(hch p.1 z).2.2.2 p hp rfl
  exact ⟨keep p.1 p.2 ne nf nch e n,free p.1 p.2 nch e n,ne,nf,d⟩
theorem Inv.un {t':Nat} (I:Inv X pins σ H s) (u:Un X.fs [] H H' s.heap h') (hok:HOk X.prog X.w H' h'):Inv X pins σ H' { s with heap:=h',toks:=t' }:=by
 obtain ⟨m,⟨o,es,ep,ho,r⟩,_⟩:=id I.loc
 obtain ⟨sl,hL⟩:=u.any ho I.free (by simp)
 exact I.step (g':=s.gens) (d':=s.drawn) (ch:=[]) (fun _ z=>nomatch z) (fun b o _ hb _ e n=>u.keep b o e n hb (by simp)) (fun b o _ hb _ e n=>u.slot b o e n hb (by simp)) (fun b o _ e n=>u.free b o e n (by simp)) (fun b o _ e=>u.there b o e (by simp)) u.tups u.frzs u.tbls (fun m' hm=>by
  obtain ⟨o',es',ep',ho',r'⟩:=hm
  rw [ho] at ho';cases ho'
  exact ⟨_,es',ep',hL,r'⟩) hok I.bare
theorem Inv.call {g':Array GenState}{t':Nat}{d':Drawn}{ch:List Addr} (I:Inv X pins σ H s) (u:Un (frs X.stack) ch H H' s.heap h') (hok:HOk X.prog X.w H' h') (hg:AllBare g')
  (hch:∀ b∈ch,(b∈X.ex∨X.s_0.heap.objs.size≤b)∧b≠X.env.locals∧(∀ x c,X.env.cells.lookup x=some c→c≠b)∧∀ p∈X.pn++pins,p.1≠b) :
  Inv X pins σ H' { s with heap:=h',gens:=g',drawn:=d',toks:=t' }:=by
 obtain ⟨m,⟨o,es,ep,ho,r⟩,_⟩:=id I.loc
 obtain ⟨sl,hL⟩:=u.any ho I.free fun z=>(hch _ z).2.1 rfl
 exact I.step (ch:=ch) hch (fun b o hL hb hc e n=>u.keep b o e n (fun z=>(List.mem_cons.mp (I.stkSub b z)).elim hL hb) hc) (fun b o _ _ hc e n=>u.any e n hc) (fun b o hc e n=>u.free b o e n hc) (fun b o hc e=>u.there b o e hc) u.tups u.frzs u.tbls (fun m' hm=>by
  obtain ⟨o',es',ep',ho',r'⟩:=hm
  rw [ho] at ho';cases ho'
  exact ⟨_,es',ep',hL,r'⟩) hok hg
theorem Inv.turned {t':Nat}{it:Addr} (I:Inv X pins σ H s) (k:∀ b o,b≠it→s.heap.get? b=some o→h'.get? b=some o) (hn:H it=none) (hL:it≠X.env.locals)
  (h1:it∈X.ex∨X.s_0.heap.objs.size≤it) (h2:∀ x c,X.env.cells.lookup x=some c→c≠it) (h3:∀ p∈X.pn++pins,p.1≠it):Inv X pins σ H { s with heap:=h',toks:=t' }:=by
 have nit:∀ b u,H b=some u→b≠it:=fun b u e z=>by rw [z,hn] at e;cases e
 refine I.step (g':=s.gens) (d':=s.drawn) (ch:=[it]) (fun b hb=>?_) (fun b o _ _ hc e _=>k b o (fun z=>hc (by simp [z])) e) (fun b o _ _ hc e _=>⟨o.slots,k b o (fun z=>hc (by simp [z])) e⟩) (fun _ _ _ _ n=>n)
  (fun b o hc e=>⟨o,k b o (fun z=>hc (by simp [z])) e⟩) (fun _ _ e=>e) (fun _ _ _ e=>e) (fun b ps e=>⟨#[],by rw [e];simp⟩) (fun m hm=>?_) (fun b u e=>?_) I.bare
 ·have e:b=it:=by simpa using hb
  subst e
  exact ⟨h1,hL,h2,h3⟩
 ·obtain ⟨o,es,ep,ho,r⟩:=hm
  exact ⟨o,es,ep,k _ o (Ne.symm hL) ho,r⟩
 ·refine (I.hok b u e).stay (fun c v hc q=>k c v ?_ q) (fun _ q=>q) fun _ _ q=>q
  rcases hc with z | z
  ·rw [z];exact nit b u e
  ·exact nit c _ z
theorem Inv.tok (I:Inv X pins σ H s) (t:Nat):Inv X pins σ H { s with toks:=t }:=I.un (h':=s.heap) (t':=t) Un.refl I.hok
theorem Inv.kept {t':Nat} (I:Inv X pins σ H s) (k:∀ b u,s.heap.get? b=some u→h'.get? b=some u):Inv X pins σ H { s with heap:=h',toks:=t' }:=I.un (Un.kept k) (I.hok.kept k)
theorem Inv.laid {a:Addr}{o:HO}{t':Nat} (I:Inv X pins σ H s) (k:∀ b u,s.heap.get? b=some u→h'.get? b=some u) (hp:s.heap.objs.size≤a) (new:ObjOk X.prog X.w (upd H a o) h' a o) :
  Inv X pins σ (upd H a o) { s with heap:=h',toks:=t' }:=I.un (Un.laid k hp (I.hok.fresh hp)) (I.hok.laid k hp new)
theorem Inv.write {x e:Addr}{o:HO}{t':Nat} (I:Inv X pins σ H s) (mu:Mut (H x)) (he:e=x∨H e=some (.own x)) (k:∀ b u,b≠e→s.heap.get? b=some u→h'.get? b=some u) (heo:∃ u,h'.get? e=some u)
  (new:ObjOk X.prog X.w (upd H x o) h' x o):Inv X pins σ (upd H x o) { s with heap:=h',toks:=t' }:=I.un (Un.write mu he k heo) (I.hok.write mu he k heo new)
theorem Inv.weak {σ':List (Option V)} (I:Inv X pins σ H s) (hl:σ'.length=σ.length) (w:∀ (i:Nat) v,σ'[i]?=some (some v)→σ[i]?=some (some v)):Inv X pins σ' H s :=
 ⟨I.ok,I.os,I.bare,I.base,let ⟨m,hn,hl'⟩:=I.loc;⟨m,hn,fun i x v e1 e2 e3=>hl' i x v e1 (w i v e2) e3⟩,I.cell,I.free,I.freeC,I.pin,I.hok,hl.trans I.len⟩
theorem Inv.pins_of {pins':List (Addr×Obj)} (I:Inv X pins σ H s) (h:∀ p∈pins',s.heap.get? p.1=some p.2∧H p.1=none∧p.1≠X.env.locals∧p.1 ∉ X.fs∧∀ v,p.2.data≠.cell v):Inv X pins' σ H s :=
 ⟨I.ok,I.os,I.bare,I.base,I.loc,I.cell,I.free,I.freeC,fun p hp=>(List.mem_append.mp hp).elim (fun z=>I.pin p (List.mem_append_left _ z)) (h p),I.hok,I.len⟩
theorem nodup_ix {N:List Str} (hN:N.Nodup) {i j:Nat}{x:Str} (a:N[i]?=some x) (b:N[j]?=some x):i=j:=by
 obtain ⟨h1,e1⟩:=List.getElem?_eq_some_iff.mp a
 obtain ⟨h2,e2⟩:=List.getElem?_eq_some_iff.mp b
 exact (List.getElem_inj hN).mp (e1.trans e2.symm)
theorem store_ok2 {M:Model}{A:Around}{E:Value→Shared→Prop}{i:Nat}{x:Str}{v:V}{u:Value}{Q:Unit→Shared→Prop} (I:Inv X pins σ H s) (hN:X.N.Nodup) (hi:X.N[i]?=some x) (hx:Loc X.env.scope x) (r:RelV v u)
  (h:∀ s',Inv X pins (σ.set i (some v)) H s'→(∃ a,Heap.SameBut a s.heap s'.heap∧(a=X.env.locals∨X.env.cells.lookup x=some a))→Q () s') (hf:X.fn x=true∨X.env.scope.names.lookup x=some .local:=by first | exact .inl rfl | exact .inr rfl | assumption):wpAny M A (storeName X.env x u) Q E s:=by
 obtain ⟨m,hn,hl⟩:=id I.loc
 have hcls:(X.env.scope.kind==.class || (X.env.scope.kind==.module && X.env.locals != X.env.globals))=false:=by rw [I.ok.kind];rfl
 have hiσ:i<σ.length:=by rw [I.len];exact (List.getElem?_eq_some_iff.mp hi).1
 have cne:=I.cne
 have tracked:∀ {a:Addr}{h':Heap},(∃ o,s.heap.get? a=some o∧H a=none)→Heap.SameBut a s.heap h'→HOk X.prog X.w H h':=fun {a h'} ha hs b ob e=>by
  obtain ⟨_,_,hfree⟩:=ha
  refine (I.hok b ob e).stay (fun c w' hc q=>(hs.2 c ?_).trans q) (fun _ q=>q) fun _ _ q=>q
  rintro rfl
  rcases hc with rfl | hc
  ·rw [hfree] at e;cases e
  ·rw [hfree] at hc;cases hc
 rcases hx with hk | hk
 ·refine wpAny_storeName_local hk hn (fun h' hn' hs=>?_) hcls
  obtain ⟨oL,_,_,hoL,_⟩:=id hn
  refine h _ ⟨I.ok,I.os,I.bare,⟨fun b o e n hb hx=>?_,fun b o e n hb hx=>?_,I.base.free,fun b o e hx=>?_,I.base.tups,I.base.frzs,I.base.tbls⟩,⟨_,hn',fun j y v' e1 e2 e3=>?_⟩,fun y c e=>?_,I.free,I.freeC,fun p hp=>?_,tracked ⟨oL,hoL,I.free⟩ hs,by simpa using I.len⟩ ⟨_,hs,.inl rfl⟩
  ·exact (hs.2 b (Nat.ne_of_lt (Nat.lt_of_lt_of_le (Heap.lt_size e) I.ok.above))).trans (I.base.keep b o e n hb hx)
  ·obtain ⟨sl,e1⟩:=I.base.slot b o e n hb hx
   exact ⟨sl,(hs.2 b (Nat.ne_of_lt (Nat.lt_of_lt_of_le (Heap.lt_size e) I.ok.above))).trans e1⟩
  ·obtain ⟨o',e1⟩:=I.base.there b o e hx
   exact ⟨o',(hs.2 b (Nat.ne_of_lt (Nat.lt_of_lt_of_le (Heap.lt_size e) I.ok.above))).trans e1⟩
  ·by_cases hj:j=i
   ·subst hj
    rw [hi] at e1;cases e1
    rw [List.getElem?_set_self hiσ] at e2
    cases e2
    exact ⟨u,r,.inl ⟨hk,by simp⟩⟩
   ·rw [List.getElem?_set_ne (Ne.symm hj)] at e2
    obtain ⟨u',r',q⟩:=hl j y v' e1 e2 e3
    refine ⟨u',r',?_⟩
    rcases q with ⟨k,e⟩ | ⟨k,c,e,z⟩
    ·refine .inl ⟨k,?_⟩
     have:y≠x:=fun e=>hj (nodup_ix hN e1 (e ▸ hi))
     simp [this,e]
    ·exact .inr ⟨k,c,e,z.sameBut hs (cne y c e)⟩
  ·obtain ⟨w',z⟩:=I.cell y c e
   exact ⟨w',z.sameBut hs (cne y c e)⟩
  ·obtain ⟨e,n,ne,nf,d⟩:=I.pin p hp
   exact ⟨(hs.2 p.1 ne).trans e,n,ne,nf,d⟩
 ·have hfn:X.fn x=true:=by
   rcases hf with z | z
   ·exact z
   ·rw [z] at hk;cases hk
  obtain ⟨c,hc⟩:=I.ok.has x (.inl hk)
  obtain ⟨w',z⟩:=I.cell x c hc
  refine wpAny_storeName_cell I.ok.kind hk hc z (fun h' hc' hs=>?_)
  obtain ⟨oc,hoc,hocd⟩:=id z
  refine h { s with heap:=h' } ⟨I.ok,I.os,I.bare,⟨fun b o e n hb hx=>?_,fun b o e n hb hx=>?_,I.base.free,fun b o e hx=>?_,I.base.tups,I.base.frzs,I.base.tbls⟩,⟨m,hn.sameBut hs (Ne.symm (cne x c hc)),fun j y v' e1 e2 e3=>?_⟩,fun y c' e=>?_,I.free,I.freeC,fun p hp=>?_,tracked ⟨oc,hoc,I.freeC x c hc⟩ hs,by simpa using I.len⟩ ⟨c,hs,.inr hc⟩
  ·exact (hs.2 b (Nat.ne_of_lt (Nat.lt_of_lt_of_le (Heap.lt_size e) (I.ok.cab x c hfn hc)))).trans (I.base.keep b o e n hb hx)
  ·obtain ⟨sl,e1⟩:=I.base.slot b o e n hb hx
   exact ⟨sl,(hs.2 b (Nat.ne_of_lt (Nat.lt_of_lt_of_le (Heap.lt_size e) (I.ok.cab x c hfn hc)))).trans e1⟩
  ·obtain ⟨o',e1⟩:=I.base.there b o e hx
   exact ⟨o',(hs.2 b (Nat.ne_of_lt (Nat.lt_of_lt_of_le (Heap.lt_size e) (I.ok.cab x c hfn hc)))).trans e1⟩
  ·by_cases hj:j=i
   ·subst hj
    rw [hi] at e1;cases e1
    rw [List.getElem?_set_self hiσ] at e2
    cases e2
    exact ⟨u,r,.inr ⟨.inl hk,c,hc,hc'⟩⟩
   ·rw [List.getElem?_set_ne (Ne.symm hj)] at e2
    obtain ⟨u',r',q⟩:=hl j y v' e1 e2 e3
    refine ⟨u',r',?_⟩
    rcases q with q | ⟨k,c',e,z'⟩
    ·exact .inl q
    ·refine .inr ⟨k,c',e,z'.sameBut hs ?_⟩
     rintro rfl
     exact hj (nodup_ix hN e1 (I.ok.inj _ _ _ e hc ▸ hi))
  ·by_cases hcc:c'=c
   ·subst hcc;exact ⟨_,hc'⟩
   ·obtain ⟨w2,z2⟩:=I.cell y c' e
    exact ⟨w2,z2.sameBut hs hcc⟩
  ·obtain ⟨e,n,ne,nf,d⟩:=I.pin p hp
   refine ⟨(hs.2 p.1 ?_).trans e,n,ne,nf,d⟩
   intro q
   rw [q,hoc] at e
   have q':oc=p.2:=Option.some.inj e
   exact d w' (by rw [← q'];exact hocd)
theorem store_ok {M:Model}{A:Around}{E:Value→Shared→Prop}{i:Nat}{x:Str}{v:V}{u:Value}{Q:Unit→Shared→Prop} (I:Inv X pins σ H s) (hN:X.N.Nodup) (hi:X.N[i]?=some x) (hx:Loc X.env.scope x) (r:RelV v u)
  (h:∀ s',Inv X pins (σ.set i (some v)) H s'→Q () s') (hf:X.fn x=true∨X.env.scope.names.lookup x=some .local:=by first | exact .inl rfl | exact .inr rfl | assumption):wpAny M A (storeName X.env x u) Q E s :=
 store_ok2 I hN hi hx r (fun s' I' _=>h s' I') hf
theorem Inv.call' {s':Shared}{ch:List Addr} (I:Inv X pins σ H s) (ho:s'.os=s.os) (u:Un (frs X.stack) ch H H' s.heap s'.heap) (hok:HOk X.prog X.w H' s'.heap) (hg:AllBare s'.gens)
  (hch:∀ b∈ch,(b∈X.ex∨X.s_0.heap.objs.size≤b)∧b≠X.env.locals∧(∀ x c,X.env.cells.lookup x=some c→c≠b)∧∀ p∈X.pn++pins,p.1≠b):Inv X pins σ H' s':=by
 obtain ⟨h',g',d',t',o'⟩:=s'
 have e:o'=s.os:=ho
 subst e
 exact I.call (g':=g') (t':=t') (d':=d') u hok hg hch
end
abbrev XK:=Value→Option Addr→Hp→Prop
abbrev St:=List (Option V)
abbrev VK:=V→Hp→Prop
abbrev TE:=St→Hp→VK→Prop
abbrev TT:=St→Hp→(Bool→Hp→Prop)→Prop
abbrev TA:=St→Hp→(List V→Hp→Prop)→Prop
structure Ends where
 nx:St→Hp→Prop
 rt:VK
 bk:St→Hp→Prop:=fun _ _=>False
 ct:St→Hp→Prop:=fun _ _=>False
abbrev TS:=Ends→St→Hp→Prop
def EP (X:Cx) (pins:List (Addr×Obj)) (σ:St) (Q:VK) (u:Value) (s':Shared):Prop:=∃ v H',Inv X pins σ H' s'∧RelV v u∧Q v H'
def TP (X:Cx) (pins:List (Addr×Obj)) (σ:St) (Q:Bool→Hp→Prop) (b:Bool) (s':Shared):Prop:=∃ H',Inv X pins σ H' s'∧Q b H'
def AP (X:Cx) (pins:List (Addr×Obj)) (σ:St) (Q:List V→Hp→Prop) (us:List Value) (s':Shared):Prop:=∃ vs H',Inv X pins σ H' s'∧Vals vs us∧Q vs H'
def SP (X:Cx) (pins:List (Addr×Obj)) (D:Ends) (f:Flow) (s':Shared):Prop :=
 match f with
 | .next=>∃ σ' H',Inv X pins σ' H' s'∧D.nx σ' H'
 | .brk=>∃ σ' H',Inv X pins σ' H' s'∧D.bk σ' H'
 | .cont=>∃ σ' H',Inv X pins σ' H' s'∧D.ct σ' H'
 | .ret u=>∃ v σ' H',Inv X pins σ' H' s'∧RelV v u∧D.rt v H'
def PE (X:Cx) (e:Expr) (t:TE):Prop :=
 ∀ (pins:List (Addr×Obj)) (s:Shared) (σ:St) (H:Hp) (Q:VK),Inv X pins σ H s→t σ H Q→wpAny (model X.prog X.w) X.A (eval e X.env) (EP X pins σ Q) X.xe s
def PT (X:Cx) (e:Expr) (t:TT):Prop :=
 ∀ (pins:List (Addr×Obj)) (s:Shared) (σ:St) (H:Hp) (Q:Bool→Hp→Prop),Inv X pins σ H s→t σ H Q→wpAny (model X.prog X.w) X.A (isTrue e X.env (eval e X.env)) (TP X pins σ Q) X.xe s
def PW (X:Cx) (e:Expr) (t:TT):Prop :=
 ∀ (whole:Sem Value) (pins:List (Addr×Obj)) (s:Shared) (σ:St) (H:Hp) (Q:Bool→Hp→Prop),Inv X pins σ H s→t σ H Q→wpAny (model X.prog X.w) X.A (isTrue e X.env whole) (TP X pins σ Q) X.xe s
theorem PW.pt {X:Cx}{e:Expr}{t:TT} (h:PW X e t):PT X e t:=h _
def PA (X:Cx) (es:List Expr) (t:TA):Prop :=
 ∀ (pos:Pos) (pins:List (Addr×Obj)) (s:Shared) (σ:St) (H:Hp) (Q:List V→Hp→Prop),Inv X pins σ H s→t σ H Q→wpAny (model X.prog X.w) X.A (spliced (backTo pos (starEach es X.env))) (AP X pins σ Q) X.xe s
def PS (X:Cx) (st:Stmt) (t:TS):Prop :=
 ∀ (pins:List (Addr×Obj)) (s:Shared) (σ:St) (H:Hp) (D:Ends),Inv X pins σ H s→t D σ H→wpAny (model X.prog X.w) X.A (exec st X.env) (SP X pins D) X.xe s
def PSs (X:Cx) (st:List Stmt) (t:TS):Prop :=
 ∀ (pins:List (Addr×Obj)) (s:Shared) (σ:St) (H:Hp) (D:Ends),Inv X pins σ H s→t D σ H→wpAny (model X.prog X.w) X.A (execs st X.env) (SP X pins D) X.xe s
theorem thn {α:Type}{t:Sem α}{Q Q':α→Shared→Prop}{M:Model}{A:Around}{E:Value→Shared→Prop}{s:Shared} (h:wpAny M A t Q E s) (hQ:∀ a s,Q a s→Q' a s):wpAny M A t Q' E s:=wpAny_mono h hQ fun _ _ x=>x
end L2
namespace L2
open PySem PySem.Spec PyProof.Rows
section
variable {X:Cx}
theorem bin {a b:Expr}{ta tb:TE} (ha:PE X a ta) (hb:PE X b tb) {pins:List (Addr×Obj)}{s:Shared}{σ:St}{H:Hp}{R:V→V→Hp→Prop} (I:Inv X pins σ H s) (h:ta σ H fun x H1=>tb σ H1 fun y H2=>R x y H2)
  {α:Type}{Q:α→Shared→Prop}{f:Value→Value→Sem α}
  (hf:∀ v u s2 x y H2,Inv X pins σ H2 s2→RelV x v→RelV y u→R x y H2→wpAny (model X.prog X.w) X.A (f v u) Q X.xe s2) :
  wpAny (model X.prog X.w) X.A (eval a X.env) (fun v s₁=>wpAny (model X.prog X.w) X.A (eval b X.env) (fun u s₂=>wpAny (model X.prog X.w) X.A (f v u) Q X.xe s₂) X.xe s₁) X.xe s:=by
 refine thn (ha pins s σ H _ I h) fun v s1 ⟨x,H1,I1,r1,q1⟩=>?_
 refine thn (hb pins s1 σ H1 _ I1 q1) fun u s2 ⟨y,H2,I2,r2,q2⟩=>?_
 exact hf v u s2 x y H2 I2 r1 r2 q2
def tVar (i:Nat):TE:=fun σ H Q=>∃ v,σ[i]?=some (some v)∧Q v H
def tC (v:V):TE:=fun _ H Q=>Q v H
theorem pe_var {i:Nat}{x:Str}{pos:Pos} (hN:X.N[i]?=some x) (hv:Vis X.env.scope x) (hd:(x==("__debug__":Str))=false:=by decide) (hcd:(x==("__classdict__":Str))=false:=by decide):PE X (.Name x pos) (tVar i):=by
 intro pins s σ H Q I h
 obtain ⟨v,e,h⟩:=h
 obtain ⟨m,hn,hl⟩:=I.loc
 obtain ⟨u,r,l⟩:=hl i x v hN e hv
 have fin:EP X pins σ Q u s:=⟨v,H,I,r,h⟩
 rcases l with ⟨hk,hm⟩ | ⟨hk,c,hc,hcell⟩
 ·exact wpAny_Name (wpAny_loadName_local I.ok.kind hk hn hm fin) hd
 ·rcases hk with hk | hk
  ·exact wpAny_Name (wpAny_loadName_cell I.ok.kind hk hc hcell fin) hd
  ·exact wpAny_Name (wpAny_loadName_free I.ok.kind hk hc hcell fin hcd) hd
theorem pe_int {i j pos}:PE X (.Constant (.int i) j pos) (tC (.int i)):=fun _ _ _ H _ I h=>wpAny_Constant_int ⟨.int i,H,I.tok _,⟨_,rfl⟩,h⟩
theorem pe_bl {b j pos}:PE X (.Constant (.bool b) j pos) (tC (.bl b)):=fun _ _ _ H _ I h=>Constant_bool ⟨.bl b,H,I,rfl,h⟩
theorem pe_str {x j pos}:PE X (.Constant (.str x) j pos) (tC (.str x)):=fun _ _ _ H _ I h=>Calls.Constant_str ⟨.str x,H,I.tok _,⟨_,rfl⟩,h⟩
def Gl (X:Cx) (x:Str):Prop:=X.env.kindOf x=some .globalImplicit
theorem ld_glob {E:Value→Shared→Prop}{pins:List (Addr×Obj)}{s:Shared}{σ:St}{H:Hp}{x:Str}{u:Value}{pos:Pos}{Q:Value→Shared→Prop} (I:Inv X pins σ H s) (hg:Gl X x) (hm:X.mg x=some u) (h:Q u s)
  (hd:(x==("__debug__":Str))=false:=by decide):wpAny (model X.prog X.w) X.A (eval (.Name x pos) X.env) Q E s :=
 Calls.Name_function_global I.ok.kind hg (Calls.loadGlobal_global (by rw [I.ok.glob];exact I.mod.glob.keeps I.bk) hm h) hd
theorem ld_blt {E:Value→Shared→Prop}{pins:List (Addr×Obj)}{s:Shared}{σ:St}{H:Hp}{x:Str}{u:Value}{pos:Pos}{Q:Value→Shared→Prop} (I:Inv X pins σ H s) (hg:Gl X x) (hm:X.mg x=none) (hv:bootBuiltins x=some u) (h:Q u s)
  (hn:x≠"__name__":=by decide) (hd:(x==("__debug__":Str))=false:=by decide):wpAny (model X.prog X.w) X.A (eval (.Name x pos) X.env) Q E s:=by
 obtain ⟨mb,h1,h2⟩:=I.mod.blt
 exact Calls.Name_function_global I.ok.kind hg (Calls.loadGlobal_builtin (by rw [I.ok.glob];exact I.mod.glob.keeps I.bk) hm (by rw [I.ok.blt];exact h1.keeps I.bk) ((h2 x hn).trans hv) h) hd
theorem pe_glob {x:Str}{v:V}{u:Value}{pos:Pos} (hg:Gl X x) (hm:X.mg x=some u) (r:RelV v u) (hd:(x==("__debug__":Str))=false:=by decide):PE X (.Name x pos) (tC v) :=
 fun _ _ _ H _ I h=>ld_glob I hg hm ⟨v,H,I,r,h⟩ hd
variable {a b:Expr}{ta tb:TE}{pos:Pos}
def PC (X:Cx) (op:CmpOp) (a b:Expr) (t:TE):Prop :=
 ∀ (pins:List (Addr×Obj)) (s:Shared) (σ:St) (H:Hp) (Q:VK),Inv X pins σ H s→t σ H Q →
  wpAny (model X.prog X.w) X.A (eval a X.env) (fun v s₁=>wpAny (model X.prog X.w) X.A (eval b X.env) (fun u s₂=>wpAny (model X.prog X.w) X.A (compareOp op v u) (EP X pins σ Q) X.xe s₂) X.xe s₁) X.xe s
theorem nobehind (b:Expr) {op:CmpOp} (h:op≠.In) (h2:op≠.NotIn):behindInMarks op b=false:=by
 have e1:(op==CmpOp.In)=false:=by cases op <;> first | rfl | exact absurd rfl h
 have e2:(op==CmpOp.NotIn)=false:=by cases op <;> first | rfl | exact absurd rfl h2
 cases b <;> simp [behindInMarks,e1,e2]
def tB (t:TE):TT:=fun σ H Q=>t σ H fun x H1=>∃ c,x=.bl c∧Q c H1
theorem pt_cmp {op:CmpOp}{t:TE} (h:PC X op a b t) (h1:behindInMarks op b=false:=by first | exact nobehind _ (by decide) (by decide) | rfl):PT X (.Compare a [op] [b] pos) (tB t):=by
 intro pins s σ H Q I hw
 refine wpAny_isTrue_Compare1 (thn (h pins s σ H _ I hw) fun v s1 h1=>thn h1 fun u s2 h2=>thn h2 fun c s3 ⟨x,H1,I1,r1,q1⟩=>?_) h1
 obtain ⟨d,rfl,q⟩:=q1
 cases r1
 exact wpAny_truthy_bool ⟨H1,I1,q⟩
theorem pt_val {e:Expr}{t:TE} (h:PE X e t) (he:∀ whole,isTrue e X.env whole=(do let v ← whole;standAt e.pos;holding [v] (truthy v)):=by intro _;rfl):PT X e (tB t):=by
 intro pins s σ H Q I hw
 refine isTrue_plain (thn (h pins s σ H _ I hw) fun v s1 ⟨x,H1,I1,r1,q1⟩=>?_) (he _)
 obtain ⟨d,rfl,q⟩:=q1
 cases r1
 exact wpAny_truthy_bool ⟨H1,I1,q⟩
variable {tA tB':TT}{rest:List Expr}
def tAnd (t u:TT):TT:=fun σ H Q=>t σ H fun c H1=>if c=true then u σ H1 Q else Q false H1
def tOr (t u:TT):TT:=fun σ H Q=>t σ H fun c H1=>if c=true then Q true H1 else u σ H1 Q
def tNot (t:TT):TT:=fun σ H Q=>t σ H fun c H1=>Q (!c) H1
theorem pw_and1 (ha:PT X a tA):PW X (.BoolOp .And [a] pos) tA:=by
 intro wh pins s σ H Q I h
 refine isTrue_and (thn (ha pins s σ H Q I h) fun c s1 e=>?_)
 cases c with
 | true=>exact isTrue_and_nil e
 | false=>exact e
theorem pw_or1 (ha:PT X a tA):PW X (.BoolOp .Or [a] pos) tA:=by
 intro wh pins s σ H Q I h
 refine isTrue_or (thn (ha pins s σ H Q I h) fun c s1 e=>?_)
 cases c with
 | false=>exact isTrue_or_nil e
 | true=>exact e
theorem pw_and (ha:PT X a tA) (hb:PW X (.BoolOp .And (b::rest) pos) tB'):PW X (.BoolOp .And (a::b::rest) pos) (tAnd tA tB'):=by
 intro wh pins s σ H Q I h
 refine isTrue_and (thn (ha pins s σ H _ I h) fun c s1 ⟨H1,I1,q1⟩=>?_)
 cases c with
 | true=>exact hb wh pins s1 σ H1 Q I1 q1
 | false=>exact ⟨H1,I1,q1⟩
theorem pw_or (ha:PT X a tA) (hb:PW X (.BoolOp .Or (b::rest) pos) tB'):PW X (.BoolOp .Or (a::b::rest) pos) (tOr tA tB'):=by
 intro wh pins s σ H Q I h
 refine isTrue_or (thn (ha pins s σ H _ I h) fun c s1 ⟨H1,I1,q1⟩=>?_)
 cases c with
 | true=>exact ⟨H1,I1,q1⟩
 | false=>exact hb wh pins s1 σ H1 Q I1 q1
theorem pt_not (ha:PT X a tA):PT X (.UnaryOp .Not a pos) (tNot tA):=by
 intro pins s σ H Q I h
 exact isTrue_not (ha pins s σ H (fun c H1=>Q (!c) H1) I h)
def tAndV (ta tb:TE):TE:=fun σ H Q=>ta σ H fun x H1=>∃ c,x=.bl c∧if c=true then tb σ H1 Q else Q (.bl false) H1
def tOrV (ta tb:TE):TE:=fun σ H Q=>ta σ H fun x H1=>∃ c,x=.bl c∧if c=true then Q (.bl true) H1 else tb σ H1 Q
def tNotV (ta:TE):TE:=fun σ H Q=>ta σ H fun x H1=>∃ c,x=.bl c∧Q (.bl (!c)) H1
theorem pe_one {op}{t:TE} (h:PE X a t):PE X (.BoolOp op [a] pos) t:=fun pins s σ H Q I hw=>BoolOp_one (h pins s σ H Q I hw)
theorem pe_and (ha:PE X a ta) (hb:PE X (.BoolOp .And (b::rest) pos) tb):PE X (.BoolOp .And (a::b::rest) pos) (tAndV ta tb):=by
 intro pins s σ H Q I h
 refine BoolOp_and (thn (ha pins s σ H _ I h) fun v s1 ⟨x,H1,I1,r1,q1⟩=>?_)
 obtain ⟨c,rfl,q1⟩:=q1
 cases r1
 refine wpAny_truthy_bool ?_
 cases c with
 | true=>exact hb pins s1 σ H1 Q I1 q1
 | false=>exact ⟨.bl false,H1,I1,rfl,q1⟩
theorem pe_or (ha:PE X a ta) (hb:PE X (.BoolOp .Or (b::rest) pos) tb):PE X (.BoolOp .Or (a::b::rest) pos) (tOrV ta tb):=by
 intro pins s σ H Q I h
 refine BoolOp_or (thn (ha pins s σ H _ I h) fun v s1 ⟨x,H1,I1,r1,q1⟩=>?_)
 obtain ⟨c,rfl,q1⟩:=q1
 cases r1
 refine wpAny_truthy_bool ?_
 cases c with
 | false=>exact hb pins s1 σ H1 Q I1 q1
 | true=>exact ⟨.bl true,H1,I1,rfl,q1⟩
def tIf (t:TT) (ta tb:TE):TE:=fun σ H Q=>t σ H fun c H1=>if c=true then ta σ H1 Q else tb σ H1 Q
theorem pe_ifExp {c:Expr} (hc:PT X c tA) (ha:PE X a ta) (hb:PE X b tb):PE X (.IfExp c a b pos) (tIf tA ta tb):=by
 intro pins s σ H Q I h
 refine wpAny_IfExp (thn (hc pins s σ H _ I h) fun d s1 ⟨H1,I1,q1⟩=>?_)
 cases d with
 | true=>exact ha pins s1 σ H1 Q I1 q1
 | false=>exact hb pins s1 σ H1 Q I1 q1
end
end L2
namespace L2
open PySem PySem.Spec PyProof.Rows
def SqL (K:PySem.W.Frag) (H:Hp) (a:Addr) (xs:List V):Prop :=
 Rd H a (.lst xs) ∨
  ∃ (o:Obj) (its:Array Value) (n:Nat),K.lookup a=some o∧o.cls=.type "list"∧o.dict=none∧o.data=.seq its n∧its.size≤sizeLine∧Vals xs its.toList
def SqT (K:PySem.W.Frag) (H:Hp) (a:Addr) (xs:List V):Prop :=
 Rd H a (.tup xs) ∨
  ∃ (o:Obj) (its:Array Value) (n:Nat),K.lookup a=some o∧o.cls=.type "tuple"∧o.data=.seq its n∧its.size≤sizeLine∧Vals xs its.toList
def absV:Value→Option V
 | .none=>some .non
 | .bool b=>some (.bl b)
 | .int i _=>some (.int i)
 | .str x _=>some (.str x)
 | .bytes b _=>some (.byt b)
 | .float b _=>some (.flt b)
 | .ref a=>some (.ref a)
 | .type n=>some (.ty n)
 | _=>none
theorem RelV.abs {x:V}{u:Value} (r:RelV x u):absV u=some x:=by
 cases x with
 | non=>cases r;rfl
 | bl _=>cases r;rfl
 | int _=>obtain ⟨t,rfl⟩:=r;rfl
 | str _=>obtain ⟨t,rfl⟩:=r;rfl
 | byt _=>obtain ⟨t,rfl⟩:=r;rfl
 | flt _=>obtain ⟨t,rfl⟩:=r;rfl
 | ref _=>cases r;rfl
 | ty _=>cases r;rfl
theorem RelV.inj {x y:V}{u:Value} (r:RelV x u) (q:RelV y u):x=y:=Option.some.inj (r.abs.symm.trans q.abs)
theorem Vals.inj:∀ {xs ys:List V}{us:List Value},Vals xs us→Vals ys us→xs=ys
 | _,_,_,.nil,.nil=>rfl
 | _,_,_,.cons r t,.cons r' t'=>by rw [r.inj r',Vals.inj t t']
section
variable {X:Cx}{pins:List (Addr×Obj)}{σ:St}{H:Hp}{s:Shared}{a:Addr}{xs ys:List V}
theorem SqL.of {K:PySem.W.Frag} (h:H a=some (.lst xs)):SqL K H a xs:=.inl (.inl h)
theorem Inv.list (I:Inv X pins σ H s) (h:SqL X.K H a xs):∃ its:List Value,Vals xs its∧PlainL s.heap a its.toArray∧xs.length≤sizeLine:=by
 rcases h with h | ⟨o,its,n,hk,hc,hd,hs,hz,r⟩
 ·obtain ⟨z,its,n,r,e⟩:=h.ok I.hok
  exact ⟨its,r,⟨_,n,e,rfl,rfl,rfl⟩,z⟩
 ·refine ⟨its.toList,r,⟨o,n,I.kIn a o hk,hc,hd,by simpa using hs⟩,?_⟩
  have e:=r.length
  simp only [Array.length_toList] at e
  omega
theorem Inv.tuple (I:Inv X pins σ H s) (h:SqT X.K H a xs):∃ its:List Value,Vals xs its∧IsTup s.heap a its.toArray∧xs.length≤sizeLine:=by
 rcases h with h | ⟨o,its,n,hk,hc,hs,hz,r⟩
 ·obtain ⟨z,its,r,p⟩:=h.ok I.hok
  exact ⟨its,r,p,z⟩
 ·refine ⟨its.toList,r,⟨o,I.kIn a o hk,hc,n,by simpa using hs⟩,?_⟩
  have e:=r.length
  simp only [Array.length_toList] at e
  omega
theorem Inv.list_inj (I:Inv X pins σ H s) (h:SqL X.K H a xs) (h':SqL X.K H a ys):xs=ys:=by
 obtain ⟨its,r,⟨o,n,e,_,_,d⟩,_⟩:=I.list h
 obtain ⟨its',r',⟨o',n',e',_,_,d'⟩,_⟩:=I.list h'
 rw [e] at e';cases e'
 rw [d] at d'
 injection d' with d1 _
 have:its=its':=by simpa using congrArg Array.toList d1
 subst this
 exact r.inj r'
theorem Inv.tuple_inj (I:Inv X pins σ H s) (h:SqT X.K H a xs) (h':SqT X.K H a ys):xs=ys:=by
 obtain ⟨its,r,⟨o,e,_,n,d⟩,_⟩:=I.tuple h
 obtain ⟨its',r',⟨o',e',_,n',d'⟩,_⟩:=I.tuple h'
 rw [e] at e';cases e'
 rw [d] at d'
 injection d' with d1 _
 have:its=its':=by simpa using congrArg Array.toList d1
 subst this
 exact r.inj r'
end
abbrev Cx.wish (X:Cx) (E:Value→Shared→Prop):Cx:={ X with xe:=E }
abbrev Cx.nox (X:Cx):Cx:=X.wish fun _ _=>False
theorem Cx.Ok.wish {X:Cx} (ok:X.Ok) (E:Value→Shared→Prop):(X.wish E).Ok :=
 ⟨ok.mod,ok.kind,ok.glob,ok.blt,ok.above,ok.inj,ok.has,ok.cab,ok.hd,ok.frames,ok.stk,ok.exf,ok.bs,ok.bsz,ok.noex,ok.exfs,ok.funs,ok.frf⟩
theorem Cx.Ok.unwish {X:Cx}{E:Value→Shared→Prop} (ok:(X.wish E).Ok):X.Ok :=
 ⟨ok.mod,ok.kind,ok.glob,ok.blt,ok.above,ok.inj,ok.has,ok.cab,ok.hd,ok.frames,ok.stk,ok.exf,ok.bs,ok.bsz,ok.noex,ok.exfs,ok.funs,ok.frf⟩
section
variable {X:Cx}{pins:List (Addr×Obj)}{σ:St}{H:Hp}{s:Shared}{E:Value→Shared→Prop}
theorem Inv.wish (I:Inv X pins σ H s) (E:Value→Shared→Prop):Inv (X.wish E) pins σ H s:=⟨I.ok.wish E,I.os,I.bare,I.base,I.loc,I.cell,I.free,I.freeC,I.pin,I.hok,I.len⟩
theorem Inv.unwish (I:Inv (X.wish E) pins σ H s):Inv X pins σ H s:=⟨I.ok.unwish,I.os,I.bare,I.base,I.loc,I.cell,I.free,I.freeC,I.pin,I.hok,I.len⟩
theorem SP.unwish {D:Ends}{f:Flow}{s':Shared} (h:SP (X.wish E) pins D f s'):SP X pins D f s':=by
 cases f with
 | next=>obtain ⟨σ',H',I,q⟩:=h;exact ⟨σ',H',I.unwish,q⟩
 | brk=>obtain ⟨σ',H',I,q⟩:=h;exact ⟨σ',H',I.unwish,q⟩
 | cont=>obtain ⟨σ',H',I,q⟩:=h;exact ⟨σ',H',I.unwish,q⟩
 | ret u=>obtain ⟨v,σ',H',I,r,q⟩:=h;exact ⟨v,σ',H',I.unwish,r,q⟩
theorem PSs.nox {st:List Stmt}{t:TS} (h:PSs X.nox st t):PSs X st t:=fun pins s σ H D I hw =>
 wpAny_mono (h pins s σ H D (I.wish _) hw) (fun _ _ q=>q.unwish) fun _ _ z=>False.elim z
end
section
variable {X:Cx}{st:Stmt}{rest:List Stmt}{t u:TS}{e:Expr}{te:TE}{pos:Pos}
def tNext:TS:=fun D σ H=>D.nx σ H
def tSeq (t u:TS):TS:=fun D σ H=>t { D with nx:=u D } σ H
theorem pss_nil:PSs X [] tNext:=fun _ _ σ H _ I h=>wpAny_execs_nil ⟨σ,H,I,h⟩
theorem pss_cons (h1:PS X st t) (h2:PSs X rest u):PSs X (st::rest) (tSeq t u):=by
 intro pins s σ H D I h
 refine wpAny_execs_cons (thn (h1 pins s σ H { D with nx:=u D } I h) fun f s1 q=>?_)
 cases f with
 | next =>
  obtain ⟨σ',H',I',q⟩:=q
  exact h2 pins s1 σ' H' D I' q
 | ret v=>exact q
 | brk=>exact q
 | cont=>exact q
theorem pss_one (h1:PS X st t):PSs X [st] t:=by
 intro pins s σ H D I h
 refine wpAny_execs_cons (thn (h1 pins s σ H D I h) fun f s1 q=>?_)
 cases f with
 | next=>exact wpAny_execs_nil q
 | ret v=>exact q
 | brk=>exact q
 | cont=>exact q
def tBreak:TS:=fun D σ H=>D.bk σ H
theorem ps_break:PS X (.Break pos) tBreak:=fun _ _ σ H _ I h=>wpAny_Break ⟨σ,H,I,h⟩
theorem Inv.quiet {pins:List (Addr×Obj)}{σ:St}{H:Hp}{s:Shared} (I:Inv X pins σ H s):interactive X.env=false:=by simp [interactive,I.ok.kind]
def tDrop (te:TE):TS:=fun D σ H=>te σ H fun _ H1=>D.nx σ H1
theorem ps_expr (he:PE X e te) (hs:swapsWith e none pos.line X.env=pure false:=by rfl):PS X (.Expr e pos) (tDrop te):=by
 intro pins s σ H D I h
 exact wpAny_Expr_any (thn (he pins s σ H _ I h) fun v s1 ⟨x,H1,I1,r1,q1⟩=>⟨σ,H1,I1,q1⟩) I.quiet hs
def tRet (te:TE):TS:=fun D σ H=>te σ H D.rt
theorem ps_ret (he:PE X e te):PS X (.Return (some e) pos) (tRet te):=by
 intro pins s σ H D I h
 exact wpAny_Return_some (thn (he pins s σ H _ I h) fun v s1 ⟨x,H1,I1,r1,q1⟩=>⟨x,σ,H1,I1,r1,q1⟩)
def tRetN:TS:=fun D _ H=>D.rt .non H
def tIfS (c:TT) (t u:TS):TS:=fun D σ H=>c σ H fun b H1=>if b=true then t D σ H1 else u D σ H1
theorem ps_if {c:Expr}{a b:List Stmt}{tc:TT} (hc:PT X c tc) (ha:PSs X a t) (hb:PSs X b u):PS X (.If c a b pos) (tIfS tc t u):=by
 intro pins s σ H D I h
 refine wpAny_If (thn (hc pins s σ H _ I h) fun d s1 ⟨H1,I1,q1⟩=>?_)
 cases d with
 | true=>exact ha pins s1 σ H1 D I1 q1
 | false=>exact hb pins s1 σ H1 D I1 q1
end
abbrev TG:=V→St→Hp→(St→Hp→Prop)→Prop
abbrev TGs:=List V→St→Hp→(St→Hp→Prop)→Prop
def PG (X:Cx) (target:Expr) (t:TG):Prop :=
 ∀ (pins:List (Addr×Obj)) (s:Shared) (σ:St) (H:Hp) (v:V) (u:Value) (Q:St→Hp→Prop),Inv X pins σ H s→RelV v u→t v σ H Q →
  wpAny (model X.prog X.w) X.A (assign target X.env u) (fun _ s'=>∃ σ' H',Inv X pins σ' H' s'∧Q σ' H') X.xe s
def PGs (X:Cx) (ts:List Expr) (t:TGs):Prop :=
 ∀ (pins:List (Addr×Obj)) (s:Shared) (σ:St) (H:Hp) (vs:List V) (us:List Value) (Q:St→Hp→Prop),Inv X pins σ H s→Vals vs us→t vs σ H Q →
  wpAny (model X.prog X.w) X.A (assignInOrder ((assignEach ts X.env).map (·.2)) us) (fun _ s'=>∃ σ' H',Inv X pins σ' H' s'∧Q σ' H') X.xe s
abbrev TSet:=V→V→V→Hp→(Hp→Prop)→Prop
def PSet (X:Cx) (t:TSet):Prop :=
 ∀ (pins:List (Addr×Obj)) (s:Shared) (σ:St) (H:Hp) (o i v:V) (ov iv u:Value) (Q:Hp→Prop),Inv X pins σ H s→RelV o ov→RelV i iv→RelV v u→t o i v H Q →
  wpAny (model X.prog X.w) X.A (setItem ov iv u) (fun _ s'=>∃ H',Inv X pins σ H' s'∧Q H') X.xe s
abbrev TIp:=V→V→Hp→VK→Prop
def PIp (X:Cx) (op:Operator) (t:TIp):Prop :=
 ∀ (pins:List (Addr×Obj)) (s:Shared) (σ:St) (H:Hp) (x y:V) (v u:Value) (Q:VK),Inv X pins σ H s→RelV x v→RelV y u→t x y H Q →
  wpAny (model X.prog X.w) X.A (inplaceOp op v u) (EP X pins σ Q) X.xe s
section
variable {X:Cx}{pos:Pos}
def gName (i:Nat):TG:=fun v σ H Q=>Q (σ.set i (some v)) H
theorem pg_name {i:Nat}{x:Str} (hN:X.N.Nodup) (hi:X.N[i]?=some x) (hx:Loc X.env.scope x) (hf:X.fn x=true∨X.env.scope.names.lookup x=some .local:=by first | exact .inl rfl | exact .inr rfl | assumption):PG X (.Name x pos) (gName i):=by
 intro pins s σ H v u Q I r h
 exact wpAny_assign_Name (store_ok I hN hi hx r (fun s' I'=>⟨_,H,I',h⟩) hf)
def gNil:TGs:=fun vs σ H Q=>vs=[]∧Q σ H
def gCons (t:TG) (u:TGs):TGs:=fun vs σ H Q=>∃ v r,vs=v::r∧t v σ H fun σ' H'=>u r σ' H' Q
theorem pgs_nil:PGs X [] gNil:=by
 intro pins s σ H vs us Q I r h
 obtain ⟨e,h⟩:=h
 subst e
 cases r
 exact assignInOrder_nil ⟨σ,H,I,h⟩
theorem pgs_cons {e:Expr}{es:List Expr}{t:TG}{u:TGs} (h1:PG X e t) (h2:PGs X es u)
  (hs:(assignEach (e::es) X.env).map (·.2)=assign e X.env::(assignEach es X.env).map (·.2):=by rfl):PGs X (e::es) (gCons t u):=by
 intro pins s σ H vs us Q I r h
 obtain ⟨v,vr,e1,h⟩:=h
 subst e1
 cases r with
 | cons r rr =>
  rw [hs]
  refine assignInOrder_cons (thn (h1 pins s σ H _ _ _ I r h) fun _ s1 ⟨σ1,H1,I1,q1⟩=>?_)
  exact h2 pins s1 σ1 H1 _ _ Q I1 rr q1
def gTup (K:PySem.W.Frag) (n:Nat) (t:TGs):TG:=fun v σ H Q=>∃ a xs,v=.ref a∧SqT K H a xs∧xs.length=n∧t xs σ H Q
theorem pg_tup {es:List Expr}{k:Nat}{t:TGs}{n:Nat} (hc:X.calm=true) (h:PGs X es t)
  (hn:(assignEach es X.env).length=n:=by rfl) (hst:(assignEach es X.env).findIdx? (·.1)=none:=by rfl):PG X (.Tuple es k pos) (gTup X.K n t):=by
 intro pins s σ H v u Q I r hw
 obtain ⟨a,xs,e1,hq,hl,hw⟩:=hw
 subst e1
 cases r
 obtain ⟨its,rv,ht,hz⟩:=I.tuple hq
 refine assign_Tuple_tuple (I.ok.hd hc) ht (by simp [hn,← hl,rv.length]) hst fun h' hx=>?_
 have I1:Inv X pins σ H { s with heap:=h' }:=I.kept (t':=s.toks) fun b o e=>hx b o (Nat.ne_of_lt (Heap.lt_size e)) e
 exact h pins _ σ H xs _ Q I1 (by simpa using rv) hw
def gSub (to ti:TE) (t:TSet):TG:=fun v σ H Q=>to σ H fun o H1=>ti σ H1 fun i H2=>t o i v H2 fun H3=>Q σ H3
theorem pg_sub {o i:Expr}{to ti:TE}{t:TSet} (ho:PE X o to) (hi:PE X i ti) (hs:PSet X t)
  (ha:∀ v,assign (.Subscript o i pos) X.env v=(do
   let ov ← holding [v] (eval o X.env)
   let iv ← holding [v,ov] (eval i X.env)
   standAt pos
   holding [v,ov,iv] (setItem ov iv v)
   release [v,ov,iv] []):=by intro _;rfl):PG X (.Subscript o i pos) (gSub to ti t):=by
 intro pins s σ H v u Q I r h
 rw [ha]
 refine wpAny_bind (wpAny_holding (thn (ho pins s σ H _ I h) fun ov s1 ⟨x,H1,I1,r1,q1⟩=>?_))
 refine wpAny_bind (wpAny_holding (thn (hi pins s1 σ H1 _ I1 q1) fun iv s2 ⟨y,H2,I2,r2,q2⟩=>?_))
 refine wpAny_bind (wpAny_standAt (wpAny_bind (wpAny_holding (thn (hs pins s2 σ H2 x y v ov iv u _ I2 r1 r2 r q2) fun _ s3 ⟨H3,I3,q3⟩=>?_))))
 exact wpAny_release ⟨σ,H3,I3,q3⟩
def tAsg (te:TE) (g:TG):TS:=fun D σ H=>te σ H fun x H1=>g x σ H1 D.nx
theorem ps_asg {tg e:Expr}{te:TE}{g:TG} (he:PE X e te) (hg:PG X tg g) (hs:swapsWithSole [tg] e pos.line X.env=pure false:=by rfl) (hw:swappedStores [tg] e X.env=pure none:=by rfl)
  (h1:(assignEach [tg] X.env).map (·.2)=[assign tg X.env]:=by rfl):PS X (.Assign [tg] e pos) (tAsg te g):=by
 intro pins s σ H D I h
 refine wpAny_Assign_stores (thn (he pins s σ H _ I h) fun v s1 ⟨x,H1,I1,r1,q1⟩=>?_) hs hw
 rw [h1]
 exact thn (hg pins s1 σ H1 x v _ I1 r1 q1) fun _ s2 q=>q
theorem ps_set {i:Nat}{x:Str}{e:Expr}{te:TE}{pos':Pos} (hN:X.N.Nodup) (hi:X.N[i]?=some x) (hx:Loc X.env.scope x) (he:PE X e te) (hs:swapsWith e (some (.Name x pos')) pos.line X.env=pure false:=by rfl) (hf:X.fn x=true∨X.env.scope.names.lookup x=some .local:=by first | exact .inl rfl | exact .inr rfl | assumption) :
  PS X (.Assign [.Name x pos'] e pos) (tAsg te (gName i)):=by
 intro pins s σ H D I h
 refine wpAny_Assign_Name (thn (he pins s σ H _ I h) fun v s1 ⟨y,H1,I1,r1,q1⟩=>?_) hs
 exact store_ok I1 hN hi hx r1 (fun s2 I2=>⟨_,H1,I2,q1⟩) hf
def tAug (i:Nat) (te:TE) (ti:TIp):TS:=fun D σ H=>∃ x,σ[i]?=some (some x)∧te σ H fun y H1=>ti x y H1 fun z H2=>D.nx (σ.set i (some z)) H2
theorem ps_aug {i:Nat}{x:Str}{e:Expr}{te:TE}{op:Operator}{ti:TIp}{pos':Pos} (hN:X.N.Nodup) (hi:X.N[i]?=some x) (hx:Loc X.env.scope x) (he:PE X e te) (ho:PIp X op ti) (hf:X.fn x=true∨X.env.scope.names.lookup x=some .local:=by first | exact .inl rfl | exact .inr rfl | assumption) :
  PS X (.AugAssign (.Name x pos') op e pos) (tAug i te ti):=by
 intro pins s σ H D I h
 obtain ⟨v,e1,h⟩:=h
 obtain ⟨m,hn,hl⟩:=I.loc
 have vis:Vis X.env.scope x:=by rcases hx with k | k;exact .inl k;exact .inr (.inl k)
 obtain ⟨u,r,l⟩:=hl i x v hi e1 vis
 refine wpAny_AugAssign_Name ?_
 have go:wpAny (model X.prog X.w) X.A (eval e X.env) (fun w s₂=>wpAny (model X.prog X.w) X.A (inplaceOp op u w) (fun r s₃=>wpAny (model X.prog X.w) X.A (storeName X.env x r) (fun _=>SP X pins D .next) X.xe s₃) X.xe s₂) X.xe s:=by
  refine thn (he pins s σ H _ I h) fun w s1 ⟨y,H1,I1,r1,q1⟩=>?_
  refine thn (ho pins s1 σ H1 v y u w _ I1 r r1 q1) fun z s2 ⟨zv,H2,I2,r2,q2⟩=>?_
  exact store_ok I2 hN hi hx r2 (fun s3 I3=>⟨_,H2,I3,q2⟩) hf
 rcases l with ⟨hk,hm⟩ | ⟨hk,c,hc,hcell⟩
 ·exact wpAny_loadName_local I.ok.kind hk hn hm go
 ·rcases hk with hk | hk
  ·exact wpAny_loadName_cell I.ok.kind hk hc hcell go
  ·rcases hx with k | k
   ·have:X.env.scope.names.lookup x=some .free:=hk
    rw [k] at this;cases this
   ·have:X.env.scope.names.lookup x=some .free:=hk
    rw [k] at this;cases this
def ipI (f:Int→Int→Int):TIp:=fun x y H Q=>∃ i j,x=.int i∧y=.int j∧Q (.int (f i j)) H
theorem ip_add:PIp X .Add (ipI fun i j=>i+j):=by
 intro pins s σ H x y v u Q I r1 r2 h
 obtain ⟨i,j,e1,e2,q⟩:=h
 subst e1;subst e2
 obtain ⟨t,rfl⟩:=r1
 obtain ⟨t',rfl⟩:=r2
 exact iadd_int ⟨.int _,H,I.tok _,⟨_,rfl⟩,q⟩
theorem ip_sub:PIp X .Sub (ipI fun i j=>i-j):=by
 intro pins s σ H x y v u Q I r1 r2 h
 obtain ⟨i,j,e1,e2,q⟩:=h
 subst e1;subst e2
 obtain ⟨t,rfl⟩:=r1
 obtain ⟨t',rfl⟩:=r2
 exact isub_int ⟨.int _,H,I.tok _,⟨_,rfl⟩,q⟩
end
section
variable {X:Cx}{pos:Pos}
def tWhile (c:TT) (tb:TS):TS:=fun D σ H=>∃ W:Nat→St→Hp→Prop,(∃ m,W m σ H)∧∀ m σ H,W m σ H →
 c σ H fun b H1=>if b=true then ∃ N:St→Hp→Prop,(∀ σ' H',N σ' H'→∃ m',m' < m∧W m' σ' H')∧tb { D with nx:=N,ct:=N,bk:=D.nx } σ H1 else D.nx σ H1
theorem ps_while {c:Expr}{body:List Stmt}{tc:TT}{tb:TS} (hp:PassesOwn (model X.prog X.w) X.A X.env X.xe) (hc:PT X c tc) (hb:PSs X body tb):PS X (.While c body [] pos) (tWhile tc tb):=by
 intro pins s σ H D I h
 obtain ⟨W,⟨m0,w0⟩,turn⟩:=h
 refine wpAny_While (codeAny_whileLoop (fun n s'=>∃ σ' H',Inv X pins σ' H' s'∧W n σ' H') ?_ m0 ⟨σ,H,I,w0⟩)
 rintro n s1 ⟨σ1,H1,I1,w1⟩
 refine wpAny_passesOwn hp (thn (hc pins s1 σ1 H1 _ I1 (turn n σ1 H1 w1)) fun b s2 ⟨H2,I2,q2⟩=>?_)
 cases b with
 | true =>
  obtain ⟨N,hN,q2⟩:=q2
  rw [if_pos rfl]
  refine wpAny_passesOwn hp (thn (hb pins s2 σ1 H2 _ I2 q2) fun f s3 q3=>?_)
  cases f with
  | next =>
   obtain ⟨σ3,H3,I3,n3⟩:=q3
   obtain ⟨m',hm,w3⟩:=hN σ3 H3 n3
   exact ⟨m',hm,σ3,H3,I3,w3⟩
  | cont =>
   obtain ⟨σ3,H3,I3,n3⟩:=q3
   obtain ⟨m',hm,w3⟩:=hN σ3 H3 n3
   exact ⟨m',hm,σ3,H3,I3,w3⟩
  | brk=>exact q3
  | ret v=>exact q3
 | false =>
  rw [if_neg Bool.false_ne_true]
  exact wpAny_execs_nil ⟨σ1,H2,I2,q2⟩
end
structure It where
 go:Nat→Hp→Prop
 yld:Nat→Hp→V→Hp→Prop
 stop:Nat→Hp→Prop
def FpOk (X:Cx) (pins:List (Addr×Obj)) (H:Hp) (b:Addr):Prop :=
 H b=none∧b≠X.env.locals∧b ∉ X.fs∧(b∈X.ex∨X.s_0.heap.objs.size≤b)∧(∀ x c,X.env.cells.lookup x=some c→c≠b)∧∀ p∈X.pn++pins,p.1≠b
theorem Inv.fpOk {X:Cx}{pins:List (Addr×Obj)}{σ:St}{H H':Hp}{s:Shared}{b:Addr} (I:Inv X pins σ H s) (hb:s.heap.objs.size≤b) (hn:H' b=none):FpOk X pins H' b:=by
 refine ⟨hn,Nat.ne_of_gt (Nat.lt_of_lt_of_le I.lt hb),I.nofs hb,.inr (Nat.le_trans I.sz hb),fun x c e z=>?_,fun p hp z=>?_⟩
 ·obtain ⟨v,q⟩:=I.cell x c e
  exact absurd (Nat.lt_of_lt_of_le q.lt (by rw [z];exact hb)) (Nat.lt_irrefl _)
 ·exact absurd (Nat.lt_of_lt_of_le (Heap.lt_size (I.pin p hp).1) (by rw [z];exact hb)) (Nat.lt_irrefl _)
structure Turn (P:Program) (w:World) (K:PySem.W.Frag) (tg:Expr) (J:It) (fp:List Addr) (it:Addr) (tn:Nat→Heap→Prop):Prop where
 mem:it∈fp
 obj:∀ i h,tn i h→∀ b∈fp,∃ o,h.get? b=some o∧∀ v,o.data≠.cell v
 keep:∀ i h h',tn i h→(∀ b∈fp,∀ o,h.get? b=some o→h'.get? b=some o)→tn i h'
 item:∀ (X:Cx),X.prog=P→X.w=w→X.K=K→X.calm=true→∀ (i:Nat) (pins:List (Addr×Obj)) (s:Shared) (σ:St) (H:Hp) (E:Value→Shared→Prop),Inv X pins σ H s→(∀ b∈fp,FpOk X pins H b)→tn i s.heap→J.go i H →
  wpAny (model P w) X.A (pyNext (.ref it)) (fun r s1=>∃ u,r=some u ∧
   wpAny (model P w) X.A (letOwnedTupleGo tg (.ref it) u) (fun _ s2=>∃ x H',Inv X pins σ H' s2∧RelV x u∧J.yld i H x H'∧tn (i+1) s2.heap∧∀ b∈fp,H' b=none) E s1) E s
 done:∀ (X:Cx),X.prog=P→X.w=w→X.K=K→X.calm=true→∀ (i:Nat) (pins:List (Addr×Obj)) (s:Shared) (σ:St) (H:Hp) (E:Value→Shared→Prop),Inv X pins σ H s→(∀ b∈fp,FpOk X pins H b)→tn i s.heap→J.stop i H →
  wpAny (model P w) X.A (pyNext (.ref it)) (fun r s1=>r=none∧Inv X pins σ H s1) E s
 self:∀ (A:Around) (i:Nat) (s:Shared) (Q:Value→Shared→Prop) (E:Value→Shared→Prop),tn i s.heap→Q (.ref it) s→wpAny (model P w) A (pyIter (.ref it)) Q E s
abbrev TI:=St→Hp→(It→Hp→Prop)→Prop
def PIE (X:Cx) (pins:List (Addr×Obj)) (σ:St) (tg:Expr) (R:It→Hp→Prop) (itv:Value) (s2:Shared):Prop :=
 ∃ (it:Addr) (fp:List Addr) (tn:Nat→Heap→Prop) (J:It) (H':Hp),itv=.ref it∧Inv X pins σ H' s2∧Turn X.prog X.w X.K tg J fp it tn∧tn 0 s2.heap∧(∀ b∈fp,FpOk X pins H' b)∧R J H'
def PI (X:Cx) (tg iter:Expr) (wi:TI):Prop :=
 ∀ (pins:List (Addr×Obj)) (s:Shared) (σ:St) (H:Hp) (R:It→Hp→Prop),Inv X pins σ H s→wi σ H R →
  wpAny (model X.prog X.w) X.A (eval iter X.env) (fun v s1=>wpAny (model X.prog X.w) X.A (pyIter v) (PIE X pins σ tg R) X.xe s1) X.xe s
theorem go_of {M:Model}{A:Around}{E:Value→Shared→Prop}{s:Shared}{tg:Expr}{it:Addr}{u:Value}{o:Obj}{n:String}{vs:Array Value}{Q:Unit→Shared→Prop} (ho:s.heap.get? it=some o) (hc:o.cls=.type n) (hd:o.data=.fields vs)
    (hn:["enumerate","zip","dict_itemiterator","dict_reverseitemiterator","odict_iterator","itertools.zip_longest","itertools.pairwise"].contains n=false) (hQ:Q () s):wpAny M A (letOwnedTupleGo tg (.ref it) u) Q E s:=by
  unfold letOwnedTupleGo
  cases tg <;> first
    | exact wpAny_pure hQ
    | (cases u <;> first
        | exact wpAny_pure hQ
        | (refine wpAny_bind (wpAny_load ho ?_)
           rw [hc,hd]
           show wpAny M A (if (["enumerate","zip","dict_itemiterator","dict_reverseitemiterator","odict_iterator","itertools.zip_longest","itertools.pairwise"].contains n && vs[0]?==some (rawInt _))=true then _ else _) Q E s
           rw [if_neg (by intro h;rw [hn,Bool.false_and] at h;cases h)]
           exact wpAny_pure hQ))
def Itl (K:PySem.W.Frag) (a:Addr):It :=
 ⟨fun i H=>∃ xs x,SqL K H a xs∧xs[i]?=some x,fun i H x H'=>H'=H∧∀ xs,SqL K H a xs→xs[i]?=some x,fun i H=>∃ xs,SqL K H a xs∧xs.length≤i⟩
def Itt (K:PySem.W.Frag) (a:Addr):It :=
 ⟨fun i H=>∃ xs x,SqT K H a xs∧xs[i]?=some x,fun i H x H'=>H'=H∧∀ xs,SqT K H a xs→xs[i]?=some x,fun i H=>∃ xs,SqT K H a xs∧xs.length≤i⟩
def Itr (lo:Int) (n:Nat):It:=⟨fun i _=>i<n,fun i H x H'=>H'=H∧x=.int (lo+i),fun i _=>n≤i⟩
theorem turn_list {P:Program}{w:World}{K:PySem.W.Frag}{tg:Expr} (a it:Addr):Turn P w K tg (Itl K a) [it] it (fun i h=>h.IsListIter it a i) where
 mem:=by simp
 obj:=fun i h st b hb=>by
  have e:b=it:=by simpa using hb
  subst e
  obtain ⟨o,e,c,d⟩:=st
  exact ⟨o,e,fun v z=>by rw [d] at z;cases z⟩
 keep:=fun i h h' st k=>st.at fun o e=>k it (by simp) o e
 item:=by
  intro X hP hw hK hc i pins s σ H E I hf st hg
  subst hP hw hK
  obtain ⟨xs,x,hq,hx⟩:=hg
  obtain ⟨its,rv,p,hz⟩:=I.list hq
  obtain ⟨u,hu,ru⟩:=rv.get hx
  obtain ⟨f0,f1,f2,f3,f4,f5⟩:=hf it (by simp)
  refine wpAny_pyNext_list_item st p.isList (x:=u) (by simpa using hu) fun h' st' sb=>?_
  have I1:Inv X pins σ H { s with heap:=h' }:=I.turned (t':=s.toks) (fun b o hb e=>(sb.2 b hb).trans e) f0 f1 f3 f4 f5
  obtain ⟨o,e,c,d⟩:=id st'
  exact ⟨u,rfl,go_of (s:={ s with heap:=h' }) e c d (by decide) ⟨x,H,I1,ru,⟨rfl,fun ys hy=>by rw [I.list_inj hy hq];exact hx⟩,st',fun b hb=>(hf b hb).1⟩⟩
 done:=by
  intro X hP hw hK hc i pins s σ H E I hf st hg
  subst hP hw hK
  obtain ⟨xs,hq,hx⟩:=hg
  obtain ⟨its,rv,p,hz⟩:=I.list hq
  obtain ⟨f0,f1,f2,f3,f4,f5⟩:=hf it (by simp)
  have hl:=rv.length
  exact wpAny_pyNext_list_end (I.ok.hd hc) st p.isList (by simp;omega) fun h' eb=>⟨rfl,I.turned (t':=s.toks) (fun b o hb e=>eb b o hb e) f0 f1 f3 f4 f5⟩
 self:=fun _ _ _ _ _ st h=>wpAny_pyIter_listiter st h
theorem turn_tuple {P:Program}{w:World}{K:PySem.W.Frag}{tg:Expr} (a it:Addr):Turn P w K tg (Itt K a) [it] it (fun i h=>h.IsTupleIter it a i) where
 mem:=by simp
 obj:=fun i h st b hb=>by
  have e:b=it:=by simpa using hb
  subst e
  obtain ⟨o,e,c,d⟩:=st
  exact ⟨o,e,fun v z=>by rw [d] at z;cases z⟩
 keep:=fun i h h' st k=>st.at fun o e=>k it (by simp) o e
 item:=by
  intro X hP hw hK hc i pins s σ H E I hf st hg
  subst hP hw hK
  obtain ⟨xs,x,hq,hx⟩:=hg
  obtain ⟨its,rv,p,hz⟩:=I.tuple hq
  obtain ⟨u,hu,ru⟩:=rv.get hx
  obtain ⟨f0,f1,f2,f3,f4,f5⟩:=hf it (by simp)
  refine wpAny_pyNext_tuple_item st (show s.heap.IsTuple a its.toArray from p) (x:=u) (by simpa using hu) fun h' st' sb=>?_
  have I1:Inv X pins σ H { s with heap:=h' }:=I.turned (t':=s.toks) (fun b o hb e=>(sb.2 b hb).trans e) f0 f1 f3 f4 f5
  obtain ⟨o,e,c,d⟩:=id st'
  exact ⟨u,rfl,go_of (s:={ s with heap:=h' }) e c d (by decide) ⟨x,H,I1,ru,⟨rfl,fun ys hy=>by rw [I.tuple_inj hy hq];exact hx⟩,st',fun b hb=>(hf b hb).1⟩⟩
 done:=by
  intro X hP hw hK hc i pins s σ H E I hf st hg
  subst hP hw hK
  obtain ⟨xs,hq,hx⟩:=hg
  obtain ⟨its,rv,p,hz⟩:=I.tuple hq
  obtain ⟨f0,f1,f2,f3,f4,f5⟩:=hf it (by simp)
  have hl:=rv.length
  exact wpAny_pyNext_tuple_end (I.ok.hd hc) st (show s.heap.IsTuple a its.toArray from p) (by simp;omega) fun h' eb=>⟨rfl,I.turned (t':=s.toks) (fun b o hb e=>eb b o hb e) f0 f1 f3 f4 f5⟩
 self:=fun _ _ _ _ _ st h=>wpAny_pyIter_tupleiter st h
theorem turn_range {P:Program}{w:World}{K:PySem.W.Frag}{tg:Expr} (it:Addr) (lo:Int) (n:Nat):Turn P w K tg (Itr lo n) [it] it (fun i h=>IsRangeIter h it (lo+(i:Nat) * 1) ((n:Int)-(i:Nat)) 1) where
 mem:=by simp
 obj:=fun i h st b hb=>by
  have e:b=it:=by simpa using hb
  subst e
  exact ⟨_,st,fun v z=>by
   have z':Data.fields _=Data.cell v:=z
   cases z'⟩
 keep:=fun i h h' st k=>k it (by simp) _ st
 item:=by
  intro X hP hw hK hc i pins s σ H E I hf st hg
  subst hP hw hK
  obtain ⟨f0,f1,f2,f3,f4,f5⟩:=hf it (by simp)
  have W:=Walks.range (prog:=X.prog) (w:=X.w) (I.ok.hd hc) it lo 1 n
  refine W.item i s _ _ hg st fun v h' tk hv st' kk=>?_
  obtain ⟨t,rfl⟩:=hv
  have I1:Inv X pins σ H { s with heap:=h',toks:=tk }:=I.turned (fun b o hb e=>kk b o (by simpa using hb) e) f0 f1 f3 f4 f5
  refine ⟨_,rfl,go_of (s:={ s with heap:=h',toks:=tk }) (n:="range_iterator") st' rfl rfl (by decide) ⟨.int (lo+i),H,I1,⟨t,?_⟩,⟨rfl,rfl⟩,st',fun b hb=>(hf b hb).1⟩⟩
  rw [Int.mul_one]
 done:=by
  intro X hP hw hK hc i pins s σ H E I hf st hg
  subst hP hw hK
  obtain ⟨f0,f1,f2,f3,f4,f5⟩:=hf it (by simp)
  exact wpAny_pyNext_range_end (I.ok.hd hc) st (by have:n≤i:=hg;omega) fun h' eb=>⟨rfl,I.turned (t':=s.toks) (fun b o hb e=>eb b o hb e) f0 f1 f3 f4 f5⟩
 self:=fun _ _ _ _ _ st h=>wpAny_pyIter_rangeiter st h
end L2
namespace L2
open PySem PySem.Spec PyProof.Rows
section
variable {X:Cx}{tg:Expr}
def iList (K:PySem.W.Frag) (tl:TE):TI:=fun σ H R=>tl σ H fun x H1=>∃ a,x=.ref a∧(∃ xs,SqL K H1 a xs)∧R (Itl K a) H1
def iTup (K:PySem.W.Frag) (tl:TE):TI:=fun σ H R=>tl σ H fun x H1=>∃ a,x=.ref a∧(∃ xs,SqT K H1 a xs)∧R (Itt K a) H1
theorem pi_list {l:Expr}{tl:TE} (hl:PE X l tl):PI X tg l (iList X.K tl):=by
 intro pins s σ H R I h
 refine thn (hl pins s σ H _ I h) fun v s1 ⟨x,H1,I1,r1,q1⟩=>?_
 obtain ⟨a,e,⟨xs,hq⟩,q⟩:=q1
 subst e
 cases r1
 obtain ⟨its,rv,p,hz⟩:=I1.list hq
 refine wpAny_pyIter_list p.isList ?_
 refine ⟨s1.heap.objs.size,[s1.heap.objs.size],_,_,H1,rfl,I1.kept (t':=s1.toks) fun b o e=>Heap.get?_push_of_some _ e,turn_list a _,⟨_,Heap.get?_push_size _ rfl,rfl,rfl⟩,fun b hb=>?_,q⟩
 have e:b=s1.heap.objs.size:=by simpa using hb
 subst e
 exact I1.fpOk (Nat.le_refl _) (I1.hok.fresh (Nat.le_refl _))
theorem pi_tup {l:Expr}{tl:TE} (hl:PE X l tl):PI X tg l (iTup X.K tl):=by
 intro pins s σ H R I h
 refine thn (hl pins s σ H _ I h) fun v s1 ⟨x,H1,I1,r1,q1⟩=>?_
 obtain ⟨a,e,⟨xs,hq⟩,q⟩:=q1
 subst e
 cases r1
 obtain ⟨its,rv,p,hz⟩:=I1.tuple hq
 refine wpAny_pyIter_tuple (show s1.heap.IsTuple a its.toArray from p) ?_
 refine ⟨s1.heap.objs.size,[s1.heap.objs.size],_,_,H1,rfl,I1.kept (t':=s1.toks) fun b o e=>Heap.get?_push_of_some _ e,turn_tuple a _,⟨_,Heap.get?_push_size _ rfl,rfl,rfl⟩,fun b hb=>?_,q⟩
 have e:b=s1.heap.objs.size:=by simpa using hb
 subst e
 exact I1.fpOk (Nat.le_refl _) (I1.hok.fresh (Nat.le_refl _))
theorem range_it {pins:List (Addr×Obj)}{σ:St}{H:Hp}{s:Shared}{R:It→Hp→Prop}{E:Value→Shared→Prop}{lo hi:Int}{t u v:Tok}{tk:Nat} (I:Inv X pins σ H s) (h1:-(2 ^ 62)≤lo) (h2:lo<2 ^ 62) (h3:-(2 ^ 62)≤hi) (h4:hi<2 ^ 62)
  (q:R (Itr lo (hi-lo).toNat) H):wpAny (model X.prog X.w) X.A (pyIter (.ref s.heap.objs.size)) (PIE X pins σ tg R) E { s with heap:=s.heap.push { cls:=.type "range",data:=.fields #[.int lo t,.int hi u,.int 1 v] },toks:=tk }:=by
 refine wpAny_pyIter_range (IsRange.new ..) (small_one h1 h2 h3 h4) ?_
 have I1:Inv X pins σ H { s with heap:=s.heap.push { cls:=.type "range",data:=.fields #[.int lo t,.int hi u,.int 1 v] },toks:=tk }:=I.kept fun b o e=>Heap.get?_push_of_some _ e
 refine ⟨(s.heap.push { cls:=.type "range",data:=.fields #[.int lo t,.int hi u,.int 1 v] }).objs.size,[(s.heap.push { cls:=.type "range",data:=.fields #[.int lo t,.int hi u,.int 1 v] }).objs.size],_,_,H,rfl,
  I1.kept (t':=tk) fun b o e=>Heap.get?_push_of_some _ e,turn_range _ lo (hi-lo).toNat,?_,fun b hb=>?_,q⟩
 ·have e1:lo+((0:Nat):Int) * 1=lo:=by simp
  have e2:(((hi-lo).toNat:Nat):Int)-((0:Nat):Int)=Builtin.Range.rangeSize lo hi 1:=by rw [rangeSize_one];split <;> omega
  show IsRangeIter _ _ (lo+((0:Nat):Int) * 1) ((((hi-lo).toNat:Nat):Int)-((0:Nat):Int)) 1
  rw [e1,e2]
  exact Heap.get?_push_size _ rfl
 ·have e:b=(s.heap.push { cls:=.type "range",data:=.fields #[.int lo t,.int hi u,.int 1 v] }).objs.size:=by simpa using hb
  subst e
  exact I1.fpOk (Nat.le_refl _) (I1.hok.fresh (Nat.le_refl _))
def iRng1 (ta:TA):TI:=fun σ H R=>ta σ H fun vs H1=>∃ j:Int,vs=[.int j]∧-(2 ^ 62)≤j∧j<2 ^ 62∧R (Itr 0 j.toNat) H1
theorem pi_range1 {a:Expr}{ta:TA}{p pos:Pos} (hg:Gl X "range") (hm:X.mg "range"=none) (ha:PA X [a] ta) (hs:starEach [a] X.env=[(false,eval a X.env)]:=by rfl):PI X tg (.Call (.Name "range" p) [a] [] pos) (iRng1 ta):=by
 intro pins s σ H R I h
 refine Call_ (ld_blt I hg hm boot_range (PyProof.Rows.callWith_type1 (thn (ha pos pins s σ H _ I h) fun us s1 ⟨vs,H1,I1,r1,q1⟩=>?_) hs rfl))
 obtain ⟨j,e,q1,q2,q⟩:=q1
 subst e
 cases r1 with
 | cons r rr =>
  cases rr
  obtain ⟨t,rfl⟩:=r
  exact call_range_1 (range_it I1 (by omega) (by omega) q1 q2 (by simpa using q))
def tFor (wi:TI) (g:TG) (tb:TS):TS:=fun D σ H=>wi σ H fun J H1=>∃ W:Nat→Nat→St→Hp→Prop,(∃ m,W 0 m σ H1)∧∀ i m σ H,W i m σ H →
 (J.stop i H∧D.nx σ H)∨(J.go i H∧∃ N:St→Hp→Prop,(∀ σ' H',N σ' H'→∃ m',m' < m∧W (i+1) m' σ' H')∧∀ x H',J.yld i H x H'→g x σ H' fun σ2 H2=>tb { D with nx:=N,ct:=N,bk:=D.nx } σ2 H2)
def pinsAt (fp:List Addr) (h:Heap):List (Addr×Obj):=fp.filterMap fun b=>(h.get? b).map fun o=>(b,o)
theorem mem_pinsAt {fp:List Addr}{h:Heap}{b:Addr}{o:Obj} (hb:b∈fp) (e:h.get? b=some o):(b,o)∈pinsAt fp h:=List.mem_filterMap.mpr ⟨b,hb,by rw [e];rfl⟩
theorem of_pinsAt {fp:List Addr}{h:Heap}{p:Addr×Obj} (hp:p∈pinsAt fp h):p.1∈fp∧h.get? p.1=some p.2:=by
 obtain ⟨b,hb,e⟩:=List.mem_filterMap.mp hp
 cases q:h.get? b with
 | none=>rw [q] at e;cases e
 | some o =>
  rw [q] at e
  have e':(b,o)=p:=Option.some.inj e
  subst e'
  exact ⟨hb,q⟩
theorem Inv.pinned {pins:List (Addr×Obj)}{σ:St}{H:Hp}{s:Shared}{fp:List Addr} (I:Inv X pins σ H s) (hf:∀ b∈fp,FpOk X pins H b) (ho:∀ b∈fp,∃ o,s.heap.get? b=some o∧∀ v,o.data≠.cell v):Inv X (pins++pinsAt fp s.heap) σ H s :=
 I.pins_of fun p hp=>(List.mem_append.mp hp).elim (fun z=>I.pin p (List.mem_append_right _ z)) fun z=>by
  obtain ⟨hb,e⟩:=of_pinsAt z
  obtain ⟨f0,f1,f2,_⟩:=hf p.1 hb
  obtain ⟨o,e',d⟩:=ho p.1 hb
  rw [e] at e';cases e'
  exact ⟨e,f0,f1,f2,d⟩
theorem Inv.unpinned {pins pl:List (Addr×Obj)}{σ:St}{H:Hp}{s:Shared} (I:Inv X (pins++pl) σ H s):Inv X pins σ H s:=I.pins_of fun p hp=>I.pin p (List.mem_append_right _ (List.mem_append_left _ hp))
theorem ps_for {iter:Expr}{body:List Stmt}{wi:TI}{g:TG}{tb:TS}{pos:Pos} (hp:PassesOwn (model X.prog X.w) X.A X.env X.xe) (hc:X.calm=true) (hi:PI X tg iter wi) (hg:PG X tg g) (hb:PSs X body tb)
  (hs:∀ x,foldedSetIterable iter X.env x=pure x:=by intro _;rfl):PS X (.For tg iter body [] pos) (tFor wi g tb):=by
 intro pins s σ H D I h
 refine wpAny_For (thn (hi pins s σ H _ I h) fun v s1 h1=>thn h1 fun itv s2 h2=>?_) hs
 obtain ⟨it,fp,tn,J,H2,e,I2,T,st2,f2,W,⟨m0,w0⟩,turn⟩:=h2
 subst e
 -- what stays true of the iterator's objects through the loop
 have stat:∀ {H':Hp},(∀ b∈fp,H' b=none)→∀ b∈fp,FpOk X pins H' b:=fun hn b hb=>⟨hn b hb,(f2 b hb).2⟩
 refine codeAny_forLoop_any (fun n s'=>∃ i σ' H',Inv X pins σ' H' s'∧tn i s'.heap∧(∀ b∈fp,H' b=none)∧W i n σ' H') ?_ m0 ⟨0,σ,H2,I2,st2,fun b hb=>(f2 b hb).1,w0⟩
 rintro n s3 ⟨i,σ3,H3,I3,st3,fr3,w3⟩
 rcases turn i n σ3 H3 w3 with ⟨stop,qn⟩ | ⟨go,N,hN,step⟩
 ·refine wpAny_passesOwn hp (thn (T.done X rfl rfl rfl hc i pins s3 σ3 H3 X.xe I3 (stat fr3) st3 stop) fun r s4 ⟨hr,I4⟩=>?_)
  subst hr
  exact wpAny_execs_nil ⟨σ3,H3,I4,qn⟩
 ·refine wpAny_passesOwn hp (thn (T.item X rfl rfl rfl hc i pins s3 σ3 H3 X.xe I3 (stat fr3) st3 go) fun r s4 ⟨u,hr,h4⟩=>?_)
  subst hr
  refine wpAny_passesOwn hp (thn h4 fun _ s5 ⟨x,H5,I5,r5,y5,st5,fr5⟩=>?_)
  have I5':=I5.pinned (stat fr5) (T.obj _ _ st5)
  refine wpAny_passesOwn hp (thn (hg _ s5 σ3 H5 x u _ I5' r5 (step x H5 y5)) fun _ s6 ⟨σ6,H6,I6,q6⟩=>?_)
  refine wpAny_passesOwn hp (thn (hb _ s6 σ6 H6 _ I6 q6) fun f s7 q7=>?_)
  have again:∀ {σ7:St}{H7:Hp},Inv X (pins++pinsAt fp s5.heap) σ7 H7 s7→N σ7 H7→∃ m,m<n∧∃ i σ' H',Inv X pins σ' H' s7∧tn i s7.heap∧(∀ b∈fp,H' b=none)∧W i m σ' H':=fun {σ7 H7} I7 n7=>by
   obtain ⟨m',hm,w7⟩:=hN σ7 H7 n7
   refine ⟨m',hm,i+1,σ7,H7,I7.unpinned,T.keep _ _ _ st5 fun b hb o e=>(I7.pin (b,o) (List.mem_append_right _ (List.mem_append_right _ (mem_pinsAt hb e)))).1,fun b hb=>?_,w7⟩
   obtain ⟨o,e,d⟩:=T.obj _ _ st5 b hb
   exact (I7.pin (b,o) (List.mem_append_right _ (List.mem_append_right _ (mem_pinsAt hb e)))).2.1
  cases f with
  | next=>obtain ⟨σ7,H7,I7,n7⟩:=q7;exact again I7 n7
  | cont=>obtain ⟨σ7,H7,I7,n7⟩:=q7;exact again I7 n7
  | brk=>obtain ⟨σ7,H7,I7,q7⟩:=q7;exact ⟨σ7,H7,I7.unpinned,q7⟩
  | ret v=>obtain ⟨x7,σ7,H7,I7,r7,q7⟩:=q7;exact ⟨x7,σ7,H7,I7.unpinned,r7,q7⟩
end
theorem for_list {K:PySem.W.Frag}{a:Addr}{xs:List V}{g:TG}{tb:TS}{D:Ends}{σ:St}{H:Hp} (Pv:Nat→St→Hp→Prop) (h0:Pv 0 σ H) (hl:∀ i σ H,i≤xs.length→Pv i σ H→SqL K H a xs)
  (hs:∀ i x σ H,xs[i]?=some x→Pv i σ H→g x σ H fun σ2 H2=>tb { D with nx:=Pv (i+1),ct:=Pv (i+1),bk:=D.nx } σ2 H2) (hd:∀ σ H,Pv xs.length σ H→D.nx σ H) :
  ∃ W:Nat→Nat→St→Hp→Prop,(∃ m,W 0 m σ H)∧∀ i m σ H,W i m σ H →
   ((Itl K a).stop i H∧D.nx σ H)∨((Itl K a).go i H∧∃ N:St→Hp→Prop,(∀ σ' H',N σ' H'→∃ m',m' < m∧W (i+1) m' σ' H')∧∀ x H',(Itl K a).yld i H x H'→g x σ H' fun σ2 H2=>tb { D with nx:=N,ct:=N,bk:=D.nx } σ2 H2):=by
 refine ⟨fun i m σ H=>m=xs.length-i∧i≤xs.length∧Pv i σ H,⟨xs.length,by simp,Nat.zero_le _,h0⟩,?_⟩
 rintro i m σ H ⟨rfl,hi,p⟩
 have q:=hl i σ H hi p
 by_cases hlt:i<xs.length
 ·refine .inr ⟨⟨xs,xs[i],q,by simp [hlt]⟩,Pv (i+1),fun σ' H' p'=>⟨xs.length-(i+1),by omega,rfl,hlt,p'⟩,fun x H' y=>?_⟩
  obtain ⟨e,y⟩:=y
  subst e
  exact hs i x σ _ (y xs q) p
 ·have e:i=xs.length:=by omega
  subst e
  exact .inl ⟨⟨xs,q,Nat.le_refl _⟩,hd σ H p⟩
theorem for_tup {K:PySem.W.Frag}{a:Addr}{xs:List V}{g:TG}{tb:TS}{D:Ends}{σ:St}{H:Hp} (Pv:Nat→St→Hp→Prop) (h0:Pv 0 σ H) (hl:∀ i σ H,i≤xs.length→Pv i σ H→SqT K H a xs)
  (hs:∀ i x σ H,xs[i]?=some x→Pv i σ H→g x σ H fun σ2 H2=>tb { D with nx:=Pv (i+1),ct:=Pv (i+1),bk:=D.nx } σ2 H2) (hd:∀ σ H,Pv xs.length σ H→D.nx σ H) :
  ∃ W:Nat→Nat→St→Hp→Prop,(∃ m,W 0 m σ H)∧∀ i m σ H,W i m σ H →
   ((Itt K a).stop i H∧D.nx σ H)∨((Itt K a).go i H∧∃ N:St→Hp→Prop,(∀ σ' H',N σ' H'→∃ m',m' < m∧W (i+1) m' σ' H')∧∀ x H',(Itt K a).yld i H x H'→g x σ H' fun σ2 H2=>tb { D with nx:=N,ct:=N,bk:=D.nx } σ2 H2):=by
 refine ⟨fun i m σ H=>m=xs.length-i∧i≤xs.length∧Pv i σ H,⟨xs.length,by simp,Nat.zero_le _,h0⟩,?_⟩
 rintro i m σ H ⟨rfl,hi,p⟩
 have q:=hl i σ H hi p
 by_cases hlt:i<xs.length
 ·refine .inr ⟨⟨xs,xs[i],q,by simp [hlt]⟩,Pv (i+1),fun σ' H' p'=>⟨xs.length-(i+1),by omega,rfl,hlt,p'⟩,fun x H' y=>?_⟩
  obtain ⟨e,y⟩:=y
  subst e
  exact hs i x σ _ (y xs q) p
 ·have e:i=xs.length:=by omega
  subst e
  exact .inl ⟨⟨xs,q,Nat.le_refl _⟩,hd σ H p⟩
theorem for_range {lo:Int}{n:Nat}{g:TG}{tb:TS}{D:Ends}{σ:St}{H:Hp} (Pv:Nat→St→Hp→Prop) (h0:Pv 0 σ H)
  (hs:∀ i σ H,i<n→Pv i σ H→g (.int (lo+i)) σ H fun σ2 H2=>tb { D with nx:=Pv (i+1),ct:=Pv (i+1),bk:=D.nx } σ2 H2) (hd:∀ σ H,Pv n σ H→D.nx σ H) :
  ∃ W:Nat→Nat→St→Hp→Prop,(∃ m,W 0 m σ H)∧∀ i m σ H,W i m σ H →
   ((Itr lo n).stop i H∧D.nx σ H)∨((Itr lo n).go i H∧∃ N:St→Hp→Prop,(∀ σ' H',N σ' H'→∃ m',m' < m∧W (i+1) m' σ' H')∧∀ x H',(Itr lo n).yld i H x H'→g x σ H' fun σ2 H2=>tb { D with nx:=N,ct:=N,bk:=D.nx } σ2 H2):=by
 refine ⟨fun i m σ H=>m=n-i∧i≤n∧Pv i σ H,⟨n,by simp,Nat.zero_le _,h0⟩,?_⟩
 rintro i m σ H ⟨rfl,hi,p⟩
 by_cases hlt:i<n
 ·refine .inr ⟨hlt,Pv (i+1),fun σ' H' p'=>⟨n-(i+1),by omega,rfl,hlt,p'⟩,fun x H' y=>?_⟩
  obtain ⟨e,y⟩:=y
  subst e y
  exact hs i σ _ hlt p
 ·have e:i=n:=by omega
  subst e
  exact .inl ⟨Nat.le_refl _,hd σ H p⟩
end L2
namespace L2
open PySem PySem.Spec PyProof.Rows
abbrev R2:=V→V→Hp→VK→Prop
def OpR (X:Cx) (f:Value→Value→Sem Value) (r:R2):Prop :=
 ∀ (pins:List (Addr×Obj)) (s:Shared) (σ:St) (H:Hp) (x y:V) (v u:Value) (Q:VK),Inv X pins σ H s→RelV x v→RelV y u→r x y H Q →
  wpAny (model X.prog X.w) X.A (f v u) (EP X pins σ Q) X.xe s
def UnR (X:Cx) (f:Value→Sem Value) (r:V→Hp→VK→Prop):Prop :=
 ∀ (pins:List (Addr×Obj)) (s:Shared) (σ:St) (H:Hp) (x:V) (v:Value) (Q:VK),Inv X pins σ H s→RelV x v→r x H Q →
  wpAny (model X.prog X.w) X.A (f v) (EP X pins σ Q) X.xe s
def CallR (X:Cx) (f:Value) (r:List V→Hp→VK→Prop):Prop :=
 ∀ (pins:List (Addr×Obj)) (s:Shared) (σ:St) (H:Hp) (xs:List V) (us:List Value) (Q:VK),Inv X pins σ H s→Vals xs us→r xs H Q →
  wpAny (model X.prog X.w) X.A (call f us) (EP X pins σ Q) X.xe s
def TruR (X:Cx) (r:V→Hp→(Bool→Hp→Prop)→Prop):Prop :=
 ∀ (pins:List (Addr×Obj)) (s:Shared) (σ:St) (H:Hp) (x:V) (v:Value) (Q:Bool→Hp→Prop),Inv X pins σ H s→RelV x v→r x H Q →
  wpAny (model X.prog X.w) X.A (truthy v) (TP X pins σ Q) X.xe s
def tOp (r:R2) (ta tb:TE):TE:=fun σ H Q=>ta σ H fun x H1=>tb σ H1 fun y H2=>r x y H2 Q
def tUn (r:V→Hp→VK→Prop) (ta:TE):TE:=fun σ H Q=>ta σ H fun x H1=>r x H1 Q
def rI (C:Int→Int→Prop) (g:Int→Int→V):R2:=fun x y H Q=>∃ i j,x=.int i∧y=.int j∧C i j∧Q (g i j) H
def rI0 (g:Int→Int→V):R2:=fun x y H Q=>∃ i j,x=.int i∧y=.int j∧Q (g i j) H
def rU (g:Int→V):V→Hp→VK→Prop:=fun x H Q=>∃ i,x=.int i∧Q (g i) H
section
variable {X:Cx}{a b c:Expr}{ta tb tc:TE}{pos:Pos}
theorem binT (ha:PE X a ta) (hb:PE X b tb) {pins:List (Addr×Obj)}{s:Shared}{σ:St}{H:Hp}{R:V→V→Hp→Prop} (I:Inv X pins σ H s)
  (h:ta σ H fun x H1=>tb σ H1 fun y H2=>R x y H2) {Q:Value→Shared→Prop}{f:Value→Value→Sem Value}
  (hf:∀ v u s2 x y H2,Inv X pins σ H2 s2→RelV x v→RelV y u→R x y H2→wpAny (model X.prog X.w) X.A (f v u) Q X.xe s2) :
  wpAny (model X.prog X.w) X.A (eval a X.env) (fun v s₁=>wpAny (model X.prog X.w) X.A (eval b X.env) (fun u s₂=>wpAny (model X.prog X.w) X.A (f v u) Q X.xe s₂) X.xe s₁) X.xe s:=by
 refine thn (ha pins s σ H _ I h) fun v s1 ⟨x,H1,I1,r1,q1⟩=>?_
 refine thn (hb pins s1 σ H1 _ I1 q1) fun u s2 ⟨y,H2,I2,r2,q2⟩=>?_
 exact hf v u s2 x y H2 I2 r1 r2 q2
theorem pe_op {op:Operator}{r:R2} (ho:OpR X (binaryOp op) r) (ha:PE X a ta) (hb:PE X b tb):PE X (.BinOp a op b pos) (tOp r ta tb):=by
 intro pins s σ H Q I h
 exact wpAny_BinOp (binT ha hb I h fun v u s2 x y H2 I2 rx ry q=>ho pins s2 σ H2 x y v u Q I2 rx ry q)
theorem pe_un {op:UnaryOp}{r:V→Hp→VK→Prop} (ho:UnR X (unaryOp op) r) (ha:PE X a ta):PE X (.UnaryOp op a pos) (tUn r ta):=by
 intro pins s σ H Q I h
 exact UnaryOp_ (thn (ha pins s σ H _ I h) fun v s1 ⟨x,H1,I1,r1,q1⟩=>ho pins s1 σ H1 x v Q I1 r1 q1)
theorem opI {f:Value→Value→Sem Value}{C:Int→Int→Prop}{g:Int→Int→Int}
  (rule:∀ (i j:Int) (t u:Tok) (s:Shared) (Q:Value→Shared→Prop) (E:Value→Shared→Prop),C i j→Q (.int (g i j) s.toks) { s with toks:=s.toks+1 }→wpAny (model X.prog X.w) X.A (f (.int i t) (.int j u)) Q E s) :
  OpR X f (rI C fun i j=>.int (g i j)):=by
 intro pins s σ H x y v u Q I rx ry h
 obtain ⟨i,j,rfl,rfl,hc,q⟩:=h
 obtain ⟨t,rfl⟩:=rx
 obtain ⟨t',rfl⟩:=ry
 exact rule i j t t' s _ _ hc ⟨.int (g i j),H,I.tok _,⟨_,rfl⟩,q⟩
theorem opI0 {f:Value→Value→Sem Value}{g:Int→Int→Int}
  (rule:∀ (i j:Int) (t u:Tok) (s:Shared) (Q:Value→Shared→Prop) (E:Value→Shared→Prop),Q (.int (g i j) s.toks) { s with toks:=s.toks+1 }→wpAny (model X.prog X.w) X.A (f (.int i t) (.int j u)) Q E s) :
  OpR X f (rI0 fun i j=>.int (g i j)):=by
 intro pins s σ H x y v u Q I rx ry h
 obtain ⟨i,j,rfl,rfl,q⟩:=h
 obtain ⟨t,rfl⟩:=rx
 obtain ⟨t',rfl⟩:=ry
 exact rule i j t t' s _ _ ⟨.int (g i j),H,I.tok _,⟨_,rfl⟩,q⟩
theorem opB0 {f:Value→Value→Sem Value}{g:Int→Int→Bool}
  (rule:∀ (i j:Int) (t u:Tok) (s:Shared) (Q:Value→Shared→Prop) (E:Value→Shared→Prop),Q (.bool (g i j)) s→wpAny (model X.prog X.w) X.A (f (.int i t) (.int j u)) Q E s) :
  OpR X f (rI0 fun i j=>.bl (g i j)):=by
 intro pins s σ H x y v u Q I rx ry h
 obtain ⟨i,j,rfl,rfl,q⟩:=h
 obtain ⟨t,rfl⟩:=rx
 obtain ⟨t',rfl⟩:=ry
 exact rule i j t t' s _ _ ⟨.bl (g i j),H,I,rfl,q⟩
def CDiv (i j:Int):Prop:=0<j∧j<1073741824
def CPow (i j:Int):Prop:=0≤j∧j≤1000000∧i.natAbs<2 ^ 64
def CMul (i j:Int):Prop:=(-(2 ^ 64)<i∧i<2 ^ 64)∨(-(2 ^ 64)<j∧j<2 ^ 64)
theorem CMul.ok {i j:Int} (h:CMul i j):IntMulOk i j:=by
 rcases h with ⟨h1,h2⟩ | ⟨h1,h2⟩
 ·exact .of_left (intBits_le_64 h1 h2)
 ·exact .of_right (intBits_le_64 h1 h2)
theorem op_add:OpR X (binaryOp .Add) (rI0 fun i j=>.int (i+j)):=opI0 fun _ _ _ _ _ _ _ q=>add_int q
theorem op_sub:OpR X (binaryOp .Sub) (rI0 fun i j=>.int (i-j)):=opI0 fun _ _ _ _ _ _ _ q=>sub_int q
theorem op_mul:OpR X (binaryOp .Mult) (rI CMul fun i j=>.int (i * j)):=opI fun _ _ _ _ _ _ _ hc q=>mul_int q hc.ok
theorem op_fdiv:OpR X (binaryOp .FloorDiv) (rI CDiv fun i j=>.int (i / j)):=opI fun i j _ _ _ _ _ hc q=>by
 have h1:(0:Int)<j:=hc.1
 have h2:j<1073741824:=hc.2
 exact floordiv_int (by omega) (by rw [Int.fdiv_eq_ediv_of_nonneg i (by omega)];exact q) (.inl (PyProof.noPylong_small (by omega)))
theorem op_mod:OpR X (binaryOp .Mod) (rI (fun _ j=>0<j) fun i j=>.int (i % j)):=opI fun i j _ _ _ _ _ hc q=>by
 have h1:(0:Int)<j:=hc
 exact mod_int' (by omega) (by rw [Int.fmod_eq_emod_of_nonneg i (by omega)];exact q)
theorem op_pow:OpR X (binaryOp .Pow) (rI CPow fun i j=>.int (i ^ j.toNat)):=opI fun _ _ _ _ _ _ _ hc q=>pow_int_small hc.1 hc.2.1 hc.2.2 q
theorem unI {f:Value→Sem Value}{g:Int→Int}
  (rule:∀ (i:Int) (t:Tok) (s:Shared) (Q:Value→Shared→Prop) (E:Value→Shared→Prop),Q (.int (g i) s.toks) { s with toks:=s.toks+1 }→wpAny (model X.prog X.w) X.A (f (.int i t)) Q E s) :
  UnR X f (rU fun i=>.int (g i)):=by
 intro pins s σ H x v Q I rx h
 obtain ⟨i,rfl,q⟩:=h
 obtain ⟨t,rfl⟩:=rx
 exact rule i t s _ _ ⟨.int (g i),H,I.tok _,⟨_,rfl⟩,q⟩
theorem un_neg:UnR X (unaryOp .USub) (rU fun i=>.int (-i)):=unI fun _ _ _ _ _ q=>neg_int q
end
def scal:V→V→Bool
 | .non,.non=>true | .non,.int _=>true | .int _,.non=>true | .non,.bl _=>true | .bl _,.non=>true | .non,.str _=>true | .str _,.non=>true
 | .int _,.int _=>true | .bl _,.bl _=>true | .str _,.str _=>true | .byt _,.byt _=>true
 | .int _,.str _=>true | .str _,.int _=>true | .bl _,.str _=>true | .str _,.bl _=>true
 | _,_=>false
def rEq:R2:=fun x y H Q=>scal x y=true∧Q (.bl (decide (x=y))) H
def rNe:R2:=fun x y H Q=>scal x y=true∧Q (.bl (!decide (x=y))) H
theorem dec_int {i j:Int}:decide (V.int i=V.int j)=(i==j):=by
 rw [Bool.eq_iff_iff]
 simp
theorem dec_bl {i j:Bool}:decide (V.bl i=V.bl j)=(i==j):=by
 rw [Bool.eq_iff_iff]
 simp
theorem dec_str {i j:Str}:decide (V.str i=V.str j)=(i==j):=by
 rw [Bool.eq_iff_iff]
 simp
theorem dec_byt {i j:Array UInt8}:decide (V.byt i=V.byt j)=(i.toList==j.toList):=by
 rw [Bool.eq_iff_iff]
 cases i
 cases j
 simp
section
variable {X:Cx}{a b c:Expr}{ta tb tc:TE}{pos:Pos}
theorem fin_bl {pins:List (Addr×Obj)}{σ:St}{H:Hp}{s:Shared}{Q:VK}{k k':Bool} (I:Inv X pins σ H s) (q:Q (.bl k) H) (e:k=k'):EP X pins σ Q (.bool k') s:=by
 subst e
 exact ⟨.bl k,H,I,rfl,q⟩
theorem op_eq:OpR X (compareOp .Eq) rEq:=by
 intro pins s σ H x y v u Q I rx ry h
 obtain ⟨hs,q⟩:=h
 cases x with
 | non =>
  cases rx
  cases y with
  | non=>cases ry;exact PySem.EqNone.eq_none_none (fin_bl I q (by simp))
  | bl j=>cases ry;exact PySem.EqNone.eq_none_bool (fin_bl I q (by simp))
  | int j=>obtain ⟨t',rfl⟩:=ry;exact PySem.EqNone.eq_none_int (fin_bl I q (by simp))
  | str j=>obtain ⟨t',rfl⟩:=ry;exact PySem.EqNone.eq_none_str (fin_bl I q (by simp))
  | _=>exact absurd (show false=true from hs) Bool.false_ne_true
 | bl i =>
  cases rx
  cases y with
  | non=>cases ry;exact PySem.EqNone.eq_bool_none (fin_bl I q (by simp))
  | bl j=>cases ry;exact eq_bool (fin_bl I q dec_bl)
  | str j=>obtain ⟨t',rfl⟩:=ry;exact PySem.EqMixed.eq_bool_str (fin_bl I q (by simp))
  | _=>exact absurd (show false=true from hs) Bool.false_ne_true
 | int i =>
  obtain ⟨t,rfl⟩:=rx
  cases y with
  | non=>cases ry;exact PySem.EqNone.eq_int_none (fin_bl I q (by simp))
  | int j=>obtain ⟨t',rfl⟩:=ry;exact eq_int (fin_bl I q dec_int)
  | str j=>obtain ⟨t',rfl⟩:=ry;exact PySem.EqMixed.eq_int_str (fin_bl I q (by simp))
  | _=>exact absurd (show false=true from hs) Bool.false_ne_true
 | str i =>
  obtain ⟨t,rfl⟩:=rx
  cases y with
  | non=>cases ry;exact PySem.EqNone.eq_str_none (fin_bl I q (by simp))
  | bl j=>cases ry;exact PySem.EqMixed.eq_str_bool (fin_bl I q (by simp))
  | int j=>obtain ⟨t',rfl⟩:=ry;exact PySem.EqMixed.eq_str_int (fin_bl I q (by simp))
  | str j=>obtain ⟨t',rfl⟩:=ry;exact eq_str (fin_bl I q dec_str)
  | _=>exact absurd (show false=true from hs) Bool.false_ne_true
 | byt i =>
  obtain ⟨t,rfl⟩:=rx
  cases y with
  | byt j=>obtain ⟨t',rfl⟩:=ry;exact PySem.W.eq_bytes (fin_bl I q dec_byt)
  | _=>exact absurd (show false=true from hs) Bool.false_ne_true
 | _=>cases y <;> exact absurd (show false=true from hs) Bool.false_ne_true
theorem op_ne:OpR X (compareOp .NotEq) rNe:=by
 intro pins s σ H x y v u Q I rx ry h
 obtain ⟨hs,q⟩:=h
 cases x with
 | non =>
  cases rx
  cases y with
  | non=>cases ry;exact PySem.EqNone.ne_none_none (fin_bl I q (by simp))
  | bl j=>cases ry;exact PySem.EqNone.ne_none_bool (fin_bl I q (by simp))
  | int j=>obtain ⟨t',rfl⟩:=ry;exact PySem.EqNone.ne_none_int (fin_bl I q (by simp))
  | str j=>obtain ⟨t',rfl⟩:=ry;exact PySem.EqNone.ne_none_str (fin_bl I q (by simp))
  | _=>exact absurd (show false=true from hs) Bool.false_ne_true
 | bl i =>
  cases rx
  cases y with
  | non=>cases ry;exact PySem.EqNone.ne_bool_none (fin_bl I q (by simp))
  | bl j=>cases ry;exact ne_bool (fin_bl I q (congrArg not dec_bl))
  | str j=>obtain ⟨t',rfl⟩:=ry;exact PySem.EqMixed.ne_bool_str (fin_bl I q (by simp))
  | _=>exact absurd (show false=true from hs) Bool.false_ne_true
 | int i =>
  obtain ⟨t,rfl⟩:=rx
  cases y with
  | non=>cases ry;exact PySem.EqNone.ne_int_none (fin_bl I q (by simp))
  | int j=>obtain ⟨t',rfl⟩:=ry;exact ne_int (fin_bl I q (congrArg not dec_int))
  | str j=>obtain ⟨t',rfl⟩:=ry;exact PySem.EqMixed.ne_int_str (fin_bl I q (by simp))
  | _=>exact absurd (show false=true from hs) Bool.false_ne_true
 | str i =>
  obtain ⟨t,rfl⟩:=rx
  cases y with
  | non=>cases ry;exact PySem.EqNone.ne_str_none (fin_bl I q (by simp))
  | bl j=>cases ry;exact PySem.EqMixed.ne_str_bool (fin_bl I q (by simp))
  | int j=>obtain ⟨t',rfl⟩:=ry;exact PySem.EqMixed.ne_str_int (fin_bl I q (by simp))
  | str j=>obtain ⟨t',rfl⟩:=ry;exact ne_str (fin_bl I q (congrArg not dec_str))
  | _=>exact absurd (show false=true from hs) Bool.false_ne_true
 | byt i =>
  obtain ⟨t,rfl⟩:=rx
  cases y with
  | byt j=>obtain ⟨t',rfl⟩:=ry;exact PySem.W.ne_bytes (fin_bl I q (congrArg not dec_byt))
  | _=>exact absurd (show false=true from hs) Bool.false_ne_true
 | _=>cases y <;> exact absurd (show false=true from hs) Bool.false_ne_true
theorem op_lt:OpR X (compareOp .Lt) (rI0 fun i j=>.bl (decide (i<j))):=opB0 fun _ _ _ _ _ _ _ q=>lt_int q
theorem op_le:OpR X (compareOp .LtE) (rI0 fun i j=>.bl (decide (i≤j))):=opB0 fun _ _ _ _ _ _ _ q=>le_int q
theorem op_gt:OpR X (compareOp .Gt) (rI0 fun i j=>.bl (decide (j<i))):=opB0 fun _ _ _ _ _ _ _ q=>gt_int q
theorem op_ge:OpR X (compareOp .GtE) (rI0 fun i j=>.bl (decide (j≤i))):=opB0 fun _ _ _ _ _ _ _ q=>ge_int q
theorem nomark (b:Expr) {op:CmpOp} (h:op≠.In:=by decide) (h2:op≠.NotIn:=by decide):behindInMarks op b=false:=by
 have e1:(op==CmpOp.In)=false:=by cases op <;> first | rfl | exact absurd rfl h
 have e2:(op==CmpOp.NotIn)=false:=by cases op <;> first | rfl | exact absurd rfl h2
 cases b <;> simp [behindInMarks,e1,e2]
theorem pe_cmpR {op:CmpOp}{r:R2} (ho:OpR X (compareOp op) r) (ha:PE X a ta) (hb:PE X b tb) (hm:behindInMarks op b=false):PE X (.Compare a [op] [b] pos) (tOp r ta tb):=by
 intro pins s σ H Q I h
 exact wpAny_Compare1 (binT ha hb I h fun v u s2 x y H2 I2 rx ry q=>ho pins s2 σ H2 x y v u Q I2 rx ry q) hm
def tTest (t:TE):TT:=fun σ H Q=>t σ H fun x H'=>∃ k,x=.bl k∧Q k H'
theorem pt_cmpR {op:CmpOp}{r:R2} (ho:OpR X (compareOp op) r) (ha:PE X a ta) (hb:PE X b tb) (hm:behindInMarks op b=false):PT X (.Compare a [op] [b] pos) (tTest (tOp r ta tb)):=by
 intro pins s σ H Q I h
 refine wpAny_isTrue_Compare1 (thn (ha pins s σ H _ I h) fun v s1 ⟨x,H1,I1,r1,q1⟩=>thn (hb pins s1 σ H1 _ I1 q1) fun u s2 ⟨y,H2,I2,r2,q2⟩ =>
  thn (ho pins s2 σ H2 x y v u _ I2 r1 r2 q2) fun c s3 ⟨z,H3,I3,r3,k,e,q3⟩=>?_) hm
 subst e
 cases r3
 exact wpAny_truthy_bool ⟨H3,I3,q3⟩
def tChain (r r':R2) (ta tb tc:TE):TE:=fun σ H Q=>ta σ H fun x H1=>tb σ H1 fun y H2=>r x y H2 fun z H3=>∃ k,z=.bl k ∧
 (if k=true then tc σ H3 fun w' H4=>r' y w' H4 Q else Q (.bl false) H3)
theorem pt_chain {op op':CmpOp}{r r':R2} (ho:OpR X (compareOp op) r) (ho':OpR X (compareOp op') r') (ha:PE X a ta) (hb:PE X b tb) (hc:PE X c tc)
  (hm:lastMarks [op,op'] [b,c]=false:=by with_unfolding_all rfl):PT X (.Compare a [op,op'] [b,c] pos) (tTest (tChain r r' ta tb tc)):=by
 intro pins s σ H Q I h
 refine isTrue_chain (thn (ha pins s σ H _ I h) fun v s1 ⟨x,H1,I1,r1,q1⟩=>test_link (thn (hb pins s1 σ H1 _ I1 q1) fun u s2 ⟨y,H2,I2,r2,q2⟩ =>
  thn (ho pins s2 σ H2 x y v u _ I2 r1 r2 q2) fun d s3 ⟨z,H3,I3,r3,k,e,q3⟩=>?_)) hm
 subst e
 cases r3
 refine wpAny_truthy_bool ?_
 cases k with
 | false =>
  obtain ⟨k',e',q'⟩:=q3
  cases e'
  exact ite_ff ⟨H3,I3,q'⟩
 | true =>
  refine ite_tt (test_last (thn (hc pins s3 σ H3 _ I3 q3) fun w' s4 ⟨z',H4,I4,r4,q4⟩=>thn (ho' pins s4 σ H4 y z' u w' _ I4 r2 r4 q4) fun d' s5 ⟨z2,H5,I5,r5,k2,e2,q5⟩=>?_))
  subst e2
  cases r5
  exact wpAny_truthy_bool ⟨H5,I5,q5⟩
def TruV (K:PySem.W.Frag) (x:V) (H:Hp) (k:Bool):Prop :=
 match x with
 | .non=>k=false
 | .bl b=>k=b
 | .int i=>k=(i != 0)
 | .str y=>y.length≤sizeLine∧k=((y.length:Int) != 0)
 | .byt y=>y.size≤sizeLine∧k=((y.size:Int) != 0)
 | .ref p=>(∃ xs,SqL K H p xs∧k=!xs.isEmpty)∨(∃ xs,SqT K H p xs∧k=!xs.isEmpty)∨∃ kvs,H p=some (.dK kvs)∧k=!kvs.isEmpty
 | _=>False
theorem isEmpty_kv {κ:Type}{kvs:List (κ×V)}{vs:List (κ×Value)} (r:KV kvs vs):(!vs.isEmpty)=!kvs.isEmpty:=by
 cases r <;> rfl
theorem isEmpty_of {xs:List V}{its:List Value} (r:Vals xs its):(!its.toArray.isEmpty)=!xs.isEmpty:=by
 cases r <;> simp
theorem line63:(sizeLine:Nat)<2 ^ 63:=by rw [sizeLine_eq];decide
theorem tru_ok:TruR X (fun x H Q=>∃ k,TruV X.K x H k∧Q k H):=by
 intro pins s σ H x v Q I rx h
 obtain ⟨k,e,q⟩:=h
 have hl:=line63
 have hs:sizeLine=16777216:=sizeLine_eq
 cases x with
 | non =>
  cases rx
  have e':k=false:=e
  subst e'
  exact truthy_none ⟨H,I,q⟩
 | bl b =>
  cases rx
  have e':k=b:=e
  subst e'
  exact wpAny_truthy_bool ⟨H,I,q⟩
 | int i =>
  obtain ⟨t,rfl⟩:=rx
  have e':k=(i != 0):=e
  subst e'
  exact PySem.P.truthy_int ⟨H,I,q⟩
 | str y =>
  obtain ⟨t,rfl⟩:=rx
  obtain ⟨hy,e'⟩:y.length≤sizeLine∧k=((y.length:Int) != 0):=e
  subst e'
  exact PySem.P.truthy_str (by omega) ⟨H,I.tok _,q⟩
 | byt y =>
  obtain ⟨t,rfl⟩:=rx
  obtain ⟨hy,e'⟩:y.size≤sizeLine∧k=((y.size:Int) != 0):=e
  subst e'
  exact PySem.W.truthy_bytes (by omega) ⟨H,I.tok _,q⟩
 | ref p =>
  cases rx
  have e':(∃ xs,SqL X.K H p xs∧k=!xs.isEmpty)∨(∃ xs,SqT X.K H p xs∧k=!xs.isEmpty)∨∃ kvs,H p=some (.dK kvs)∧k=!kvs.isEmpty:=e
  rcases e' with ⟨xs,hx,e'⟩ | ⟨xs,hx,e'⟩ | ⟨kvs,hx,e'⟩
  ·subst e'
   obtain ⟨its,r,pl,hz⟩:=I.list hx
   have hlen:=r.length
   exact wpAny_truthy_list pl.isList (by simp only [List.size_toArray];omega) ⟨H,I.tok _,by rw [isEmpty_of r];exact q⟩
  ·subst e'
   obtain ⟨its,r,pl,hz⟩:=I.tuple hx
   have hlen:=r.length
   exact truthy_tuple pl (by simp only [List.size_toArray];omega) ⟨H,I.tok _,by rw [isEmpty_of r];exact q⟩
  ·subst e'
   obtain ⟨hz,hS,vs,r,m⟩:kvs.length≤sizeLine∧(p==sysModules)=false∧∃ vs,KV kvs vs∧s.heap.DictOf (mixKind X.prog X.w) p vs:=I.hok p _ hx
   have hlen:kvs.length=vs.length:=Paired.length r
   exact wpAny_truthy_dict hS m (by omega) ⟨H,I.tok _,by rw [isEmpty_kv r];exact q⟩
 | _=>exact (show False from e).elim
theorem pt_truth (ha:PE X a ta) (he:∀ whole,isTrue a X.env whole=(do let v ← whole;standAt a.pos;holding [v] (truthy v))) :
  PT X a (fun σ H Q=>ta σ H fun x H'=>∃ k,TruV X.K x H' k∧Q k H'):=by
 intro pins s σ H Q I h
 exact isTrue_plain (thn (ha pins s σ H _ I h) fun v s1 ⟨x,H1,I1,r1,q1⟩=>tru_ok pins s1 σ H1 x v Q I1 r1 q1) (he _)
theorem vals1 {x:V}{us:List Value} (r:Vals [x] us):∃ u,us=[u]∧RelV x u:=by
 cases r with
 | cons r1 r2=>cases r2;exact ⟨_,rfl,r1⟩
theorem call_ord:CallR X (.builtin "ord") (fun xs H Q=>∃ x,xs=[.str x]∧x.length=1∧Q (.int (x.cps.getD 0 0:Nat)) H):=by
 intro pins s σ H xs us Q I r h
 obtain ⟨x,rfl,hz,q⟩:=h
 obtain ⟨u,rfl,t,rfl⟩:=vals1 r
 exact ord_of_one hz ⟨.int _,H,I.tok _,⟨_,rfl⟩,q⟩
end
end L2
namespace L2
open PySem PySem.Spec PyProof.Rows
structure ObjM (h:Heap) (x dx C:Addr) (mA:Str→Option Value):Prop where
 obj:h.get? x=some (PySem.W.instObj C dx)
 ns:h.Ns1 dx mA
 ne:dx≠x
theorem lookIn_ns {h:Heap}{dx:Addr}{mA:Str→Option Value} (n:h.Ns1 dx mA):∃ od,h.get? dx=some od∧∀ name,PySem.W.lookIn name od=some (mA name):=by
 obtain ⟨o,es,ep,ho,hd,hk,_,hm⟩:=n
 refine ⟨o,ho,fun name=>?_⟩
 have e:=hm name
 unfold nsFind findBy at e
 rw [← Array.find?_toList] at e
 unfold PySem.W.lookIn
 rw [hd]
 dsimp only
 split
 ·rename_i y q
  rw [q] at e
  exact congrArg some e
 ·rename_i q
  rw [q] at e
  have a:es.toList.any (·.refKey)=false:=by
   rw [List.any_eq_false]
   intro y hy
   obtain ⟨z,t,hkey⟩:=hk y (Array.mem_toList_iff.mp hy)
   simp [DictEntry.refKey,hkey]
  have a':¬ es.toList.any (·.refKey)=true:=by rw [a];exact Bool.false_ne_true
  rw [if_neg a']
  exact congrArg some e
theorem ObjM.look {h:Heap}{x dx C:Addr}{mA:Str→Option Value} (I:ObjM h x dx C mA):∃ od,PySem.W.InstAt h x (PySem.W.instObj C dx) C (some od)∧∀ name,PySem.W.lookIn name od=some (mA name) :=
 let ⟨od,ho,hl⟩:=lookIn_ns I.ns
 ⟨od,⟨I.obj,rfl,rfl,ho⟩,hl⟩
section
variable {prog:Program}{w:World}{A:Around}{E:Value→Shared→Prop}{s:Shared}{K:PySem.W.Frag}{x dx C f:Addr}{mA:Str→Option Value}{name:Str}{v:Value}
theorem get_map {expr:Bool}{Q:Value→Shared→Prop} (X:K.In s.heap) (I:ObjM s.heap x dx C mA) (hg:PySem.W.plainGet K C name=true) (hh:PySem.W.hasDictIn K C=true)
  (ha:PySem.W.findIn K (.ref C) name=some none) (hv:mA name=some v) (hv':PySem.W.handedIn v=true) (h:Q v { s with toks:=s.toks+1 }) :
  wpAny (model prog w) A (getAttr (.ref x) name expr) Q E s:=by
 obtain ⟨od,J,hl⟩:=I.look
 exact PySem.W.get_value X J (PySem.W.plainGet_of hg).1 (PySem.W.findObj_own hh ha rfl (by rw [hl,hv])) hv' h
theorem get_meth {pl:Sem Bool}{Q:Value×List Value→Shared→Prop} (X:K.In s.heap) (I:ObjM s.heap x dx C mA) (hg:PySem.W.plainGet K C name=true)
  (hf:PySem.W.findIn K (.ref C) name=some (some (.ref f))) (ht:PySem.W.isFn K (.ref f)=true) (hv:mA name=none) (h:Q (.ref f,[.ref x]) s) :
  wpAny (model prog w) A (getMethod (.ref x) name pl) Q E s:=by
 obtain ⟨od,J,hl⟩:=I.look
 exact PySem.W.method_fn X J (PySem.W.plainGet_of hg).1 (PySem.W.plainGet_of hg).2 hf (beq_iff_eq.mp ht) (by show (PySem.W.lookIn name od).map (·.isSome)=some false;rw [hl,hv];rfl) h
theorem set_map {ns:List Str}{Q:Unit→Shared→Prop} (X:K.In s.heap) (I:ObjM s.heap x dx C mA)
  (hs:PySem.W.findIn K (.ref C) "__setattr__"=some (some (.builtin "object.__setattr__"))) (hp:PySem.W.plainOver K C=true) (ht:PySem.W.takerIn K C name=some none) (hh:PySem.W.hasDictIn K C=true)
  (hw:PySem.Within mA ns) (hsz:ns.length≤sizeLine)
  (h:∀ h',ObjM h' x dx C (fun y=>if y=name then some v else mA y)→Heap.SameBut dx s.heap h'→Q () { s with heap:=h',toks:=s.toks+2 }) :
  wpAny (model prog w) A (setAttr (.ref x) name v) Q E s:=by
 obtain ⟨od,J,hl⟩:=I.look
 refine PySem.W.set_plain X J hs (PySem.W.osa_open (s:={ s with toks:=s.toks+1 }) (r:=none) X J hp ht fun b=>?_)
 obtain ⟨cd,hc,hd'⟩:=PySem.W.any_some hh
 have hx:s.heap.get? x=some ⟨.ref C,some dx,.plain,#[]⟩:=I.obj
 refine wpAny_bind (wpAny_pure (wpAny_bind (wpAny_bind (wpAny_loadPart hx (wpAny_bind (PySem.W.Looks.here (s:={ s with toks:=s.toks+1 }) (PySem.W.looks_clsIn X hc) ?_))))))
 rw [hd']
 refine wpAny_pure (a:=some dx) (wpAny_bind (wpAny_pure (wpAny_bind ?_)))
 refine wpAny_nsSet1 (s:={ s with toks:=s.toks+1 }) I.ns fun h' hn2 hs2=>?_
 obtain ⟨oD,esD,epD,hoD,hdD,hcD⟩:=hn2.count (PySem.Within.cons name v hw)
 refine wpAny_bind (wpAny_lookBehind hoD (by rw [hdD];exact pastItsLine_dict (Nat.le_trans hcD (by rw [List.length_cons];omega))) ?_)
 exact wpAny_pure (h _ ⟨(hs2.2 _ (Ne.symm I.ne)).trans I.obj,hn2,I.ne⟩ hs2)
theorem make_map {R:Result→Shared→Prop}{vs:List Value}{kw:List (Str×Value)} (X:K.In s.heap) (hm:PySem.W.makesIn K C=true)
  (hi:PySem.W.findIn K (.ref C) "__init__"=some (some (.ref f))) (hf:PySem.W.typeIn K (.ref f)=some (.type "function"))
  (h:codeAny (model prog w) (A.under (.builtin "type.__call__" ⟨.ref C::vs,kw⟩)) (.call (.ref f) ⟨.ref (s.heap.objs.size+1)::vs,kw⟩) (PySem.W.InitBack (s.heap.objs.size+1) R)
   { s with heap:=(s.heap.push PySem.W.emptyDict).push (PySem.W.instObj C s.heap.objs.size) }) :
  codeAny (model prog w) A (.call (.ref C) ⟨vs,kw⟩) R s:=by
 obtain ⟨hh,g,d,t,os⟩:=s
 exact PySem.W.make_core (PySem.W.makes_of X hm) (PySem.W.looks_findIn X hi) (fun self=>PySem.W.bind_fn X self hf) (.inl rfl) h
end
def putF (f:Str) (v:V):List (Str×V)→List (Str×V)
 | []=>[(f,v)]
 | (g,x)::r=>if g=f then (g,v)::r else (g,x)::putF f v r
theorem lookup_putF (f g:Str) (v:V):∀ fs:List (Str×V),(putF f v fs).lookup g=if g=f then some v else fs.lookup g
 | []=>by
  show List.lookup g [(f,v)]=_
  by_cases h:g=f
  ·have hb:(g==f)=true:=beq_iff_eq.mpr h
   simp only [List.lookup,hb,if_pos h]
  ·have hb:(g==f)=false:=beq_eq_false_iff_ne.mpr h
   simp only [List.lookup,hb,if_neg h]
 | (k,x)::r=>by
  have ih:=lookup_putF f g v r
  rw [show putF f v ((k,x)::r)=(if k=f then (k,v)::r else (k,x)::putF f v r) from rfl]
  by_cases hk:k=f
  ·rw [if_pos hk]
   by_cases h:g=k
   ·have hb:(g==k)=true:=beq_iff_eq.mpr h
    simp only [List.lookup,hb,if_pos (h.trans hk)]
   ·have hb:(g==k)=false:=beq_eq_false_iff_ne.mpr h
    simp only [List.lookup,hb,if_neg (fun e:g=f=>h (e.trans hk.symm))]
  ·rw [if_neg hk]
   by_cases h:g=k
   ·have hb:(g==k)=true:=beq_iff_eq.mpr h
    simp only [List.lookup,hb,if_neg (fun e:g=f=>hk (h.symm.trans e))]
   ·have hb:(g==k)=false:=beq_eq_false_iff_ne.mpr h
    simp only [List.lookup,hb]
    exact ih
theorem keys_putF (f:Str) (v:V):∀ fs:List (Str×V),f∈(putF f v fs).map (·.1)∧∀ g,g∈fs.map (·.1)→g∈(putF f v fs).map (·.1)
 | []=>⟨by simp [putF],fun g h=>by simp at h⟩
 | (k,x)::r=>by
  obtain ⟨i1,i2⟩:=keys_putF f v r
  rw [show putF f v ((k,x)::r)=(if k=f then (k,v)::r else (k,x)::putF f v r) from rfl]
  by_cases hk:k=f
  ·rw [if_pos hk]
   subst hk
   exact ⟨by simp,fun g h=>by simpa using h⟩
  ·rw [if_neg hk]
   refine ⟨?_,fun g h=>?_⟩
   ·rw [List.map_cons]
    exact List.mem_cons_of_mem _ i1
   ·rw [List.map_cons] at h ⊢
    rcases List.mem_cons.mp h with e | e
    ·exact List.mem_cons.mpr (.inl e)
    ·exact List.mem_cons_of_mem _ (i2 g e)
theorem length_putF (f:Str) (v:V):∀ fs:List (Str×V),(putF f v fs).length≤fs.length+1
 | []=>by simp [putF]
 | (k,x)::r=>by
  have ih:=length_putF f v r
  rw [show putF f v ((k,x)::r)=(if k=f then (k,v)::r else (k,x)::putF f v r) from rfl]
  by_cases hk:k=f
  ·rw [if_pos hk,List.length_cons,List.length_cons];omega
  ·rw [if_neg hk,List.length_cons,List.length_cons];omega
theorem RelO.some_of {v:V}{o:Option Value} (r:RelO (some v) o):∃ u,o=some u∧RelV v u:=by
 cases o with
 | none=>exact (show False from r).elim
 | some u=>exact ⟨u,rfl,r⟩
theorem RelO.none_of {o:Option Value} (r:RelO none o):o=none:=by
 cases o with
 | none=>rfl
 | some u=>exact (show False from r).elim
theorem handed_of {v:V}{u:Value} (r:RelV v u):PySem.W.handedIn u=true:=by
 cases v with
 | non=>cases (show u=Value.none from r);rfl
 | bl b=>cases (show u=Value.bool b from r);rfl
 | int i=>obtain ⟨t,e⟩:=(show ∃ t,u=Value.int i t from r);cases e;rfl
 | str x=>obtain ⟨t,e⟩:=(show ∃ t,u=Value.str x t from r);cases e;rfl
 | byt b=>obtain ⟨t,e⟩:=(show ∃ t,u=Value.bytes b t from r);cases e;rfl
 | flt b=>obtain ⟨t,e⟩:=(show ∃ t,u=Value.float b t from r);cases e;rfl
 | ref a=>cases (show u=Value.ref a from r);rfl
 | ty n=>cases (show u=Value.type n from r);rfl
section
variable {P:Program}{w:World}{H H':Hp}{h h':Heap}{a C dx:Addr}{fs fs':List (Str×V)}
theorem ins_get (hok:HOk P w H h) (e:H a=some (.ins C dx fs)):∃ mA,ObjM h a dx C mA∧(∀ f,RelO (fs.lookup f) (mA f))∧PySem.Within mA (fs.map (·.1))∧fs.length≤1000∧H dx=some (.own a):=by
 obtain ⟨d,z,ne,ob,mA,n,r,q⟩:=(show ObjOk P w H h a (.ins C dx fs) from hok a _ e)
 exact ⟨mA,⟨ob,n,ne⟩,r,q,z,d⟩
end
structure Cls (K:PySem.W.Frag) (C:Addr):Prop where
 pg:PySem.W.plainGet K C Str.empty=true
 hd:PySem.W.hasDictIn K C=true
 po:PySem.W.plainOver K C=true
 sa:PySem.W.findIn K (.ref C) "__setattr__"=some (some (.builtin "object.__setattr__"))
theorem Cls.get {K:PySem.W.Frag}{C:Addr} (c:Cls K C) (f:Str):PySem.W.plainGet K C f=true:=c.pg
def NoAttr (K:PySem.W.Frag) (C:Addr) (f:Str):Prop:=PySem.W.findIn K (.ref C) f=some none
theorem NoAttr.taker {K:PySem.W.Frag}{C:Addr}{f:Str} (n:NoAttr K C f):PySem.W.takerIn K C f=some none:=by
 unfold PySem.W.takerIn
 rw [show PySem.W.findIn K (.ref C) f=some none from n]
 rfl
structure Meth (K:PySem.W.Frag) (C:Addr) (m:Str) (f:Addr):Prop where
 at_:PySem.W.findIn K (.ref C) m=some (some (.ref f))
 fn:PySem.W.isFn K (.ref f)=true
 kp:PySem.W.keepIn K (.ref f)=true
section
variable {X:Cx}{pins:List (Addr×Obj)}{σ:St}{H:Hp}{s:Shared}{a C dx:Addr}{fs:List (Str×V)}{f:Str}{v:V}{A:Around}{E:Value→Shared→Prop}
theorem getattr_ok {b:Bool}{Q:Value→Shared→Prop} (I:Inv X pins σ H s) (e:H a=some (.ins C dx fs)) (c:Cls X.K C) (n:NoAttr X.K C f) (l:fs.lookup f=some v)
  (h:∀ u s',Inv X pins σ H s'→RelV v u→Q u s'):wpAny (model X.prog X.w) A (getAttr (.ref a) f b) Q E s:=by
 obtain ⟨mA,O,r,_,_,_⟩:=ins_get I.hok e
 obtain ⟨u,hu,ru⟩:=RelO.some_of (v:=v) (o:=mA f) (by rw [← l];exact r f)
 exact get_map I.kIn O (c.get f) c.hd n hu (handed_of ru) (h u _ (I.tok _) ru)
theorem getmeth_ok {m:Str}{g:Addr}{pl:Sem Bool}{Q:Value×List Value→Shared→Prop} (I:Inv X pins σ H s) (e:H a=some (.ins C dx fs)) (c:Cls X.K C) (k:Meth X.K C m g) (l:fs.lookup m=none)
  (h:Q (.ref g,[.ref a]) s):wpAny (model X.prog X.w) A (getMethod (.ref a) m pl) Q E s:=by
 obtain ⟨mA,O,r,_,_,_⟩:=ins_get I.hok e
 have hn:mA m=none:=RelO.none_of (by rw [← l];exact r m)
 exact get_meth I.kIn O (c.get m) k.at_ k.fn hn h
theorem setattr_ok {y:V}{u:Value}{Q:Unit→Shared→Prop} (I:Inv X pins σ H s) (e:H a=some (.ins C dx fs)) (c:Cls X.K C) (n:NoAttr X.K C f) (hl:fs.length<1000) (ry:RelV y u)
  (h:∀ s',Inv X pins σ (upd H a (.ins C dx (putF f y fs))) s'→Q () s'):wpAny (model X.prog X.w) A (setAttr (.ref a) f u) Q E s:=by
 obtain ⟨mA,O,r,wi,_,ho⟩:=ins_get I.hok e
 have hz:(fs.map (·.1)).length≤sizeLine:=by rw [List.length_map,sizeLine_eq];omega
 refine set_map I.kIn O c.sa c.po n.taker c.hd wi hz fun h' O' sb=>h _ ?_
 have hd:∃ o,h'.get? dx=some o:=let ⟨o,_,_,e',_⟩:=O'.ns;⟨o,e'⟩
 refine I.write (x:=a) (e:=dx) (by rw [e];exact True.intro) (.inr ho) (fun b q hb z=>(sb.2 b hb).trans z) hd ?_
 refine ⟨by rw [upd_ne O.ne];exact ho,?_,O.ne,O'.obj,_,O'.ns,fun g=>?_,fun g hg=>?_⟩
 ·have:=length_putF f y fs;omega
 ·show RelO ((putF f y fs).lookup g) (if g=f then some u else mA g)
  rw [lookup_putF]
  by_cases q:g=f
  ·rw [if_pos q,if_pos q];exact ry
  ·rw [if_neg q,if_neg q];exact r g
 ·by_cases q:g=f
  ·rw [q];exact (keys_putF f y fs).1
  ·refine (keys_putF f y fs).2 g (wi g fun z=>hg ?_)
   show (if g=f then some u else mA g)=none
   rw [if_neg q];exact z
theorem Inv.made (I:Inv X pins σ H s):Inv X pins σ (upd (upd H s.heap.objs.size (.own (s.heap.objs.size+1))) (s.heap.objs.size+1) (.ins C s.heap.objs.size []))
  { s with heap:=(s.heap.push PySem.W.emptyDict).push (PySem.W.instObj C s.heap.objs.size) }:=by
 have e1:(s.heap.push PySem.W.emptyDict).get? s.heap.objs.size=some PySem.W.emptyDict:=Heap.get?_push_size s.heap rfl
 have e2:((s.heap.push PySem.W.emptyDict).push (PySem.W.instObj C s.heap.objs.size)).get? (s.heap.objs.size+1)=some (PySem.W.instObj C s.heap.objs.size):=by
  have:=Heap.get?_push_size (s.heap.push PySem.W.emptyDict) (o:=PySem.W.instObj C s.heap.objs.size) rfl
  rwa [Heap.size_push] at this
 have e3:(s.heap.push PySem.W.emptyDict).Ns s.heap.objs.size (fun _=>none):=⟨PySem.W.emptyDict,#[],_,e1,rfl,(fun e he=>absurd he (by simp)),fun _=>rfl⟩
 have I1:=I.laid (a:=s.heap.objs.size) (o:=.own (s.heap.objs.size+1)) (h':=s.heap.push PySem.W.emptyDict) (t':=s.toks) (fun b u q=>Heap.get?_push_of_some _ q) (Nat.le_refl _) ⟨_,e1⟩
 refine I1.laid (a:=s.heap.objs.size+1) (o:=.ins C s.heap.objs.size []) (t':=s.toks) (fun b u q=>Heap.get?_push_of_some _ q) (Nat.le_of_eq (Heap.size_push _ _)) ?_
 have ne:s.heap.objs.size≠s.heap.objs.size+1:=Nat.ne_of_lt (Nat.lt_succ_self _)
 refine ⟨by rw [upd_ne ne,upd_same],Nat.zero_le _,ne,e2,fun _=>none,(Heap.Ns1.of_empty e3).at fun o q=>Heap.get?_push_of_some _ q,fun _=>True.intro,fun y hy=>absurd rfl hy⟩
theorem attr_of {prog:Program}{w:World}{env:Env}{e:Expr}{f:Str}{pos:Pos}{s:Shared}{Q:Value→Shared→Prop} (hb:attributeBase e f env (eval e env)=eval e env)
  (h:wpAny (model prog w) A (eval e env) (fun o s₁=>wpAny (model prog w) A (getAttr o f true) Q E s₁) E s):wpAny (model prog w) A (eval (.Attribute e f pos) env) Q E s :=
 Attribute_any_ h (by rw [arm_eval_Attribute,hb])
end
def tFld (K:PySem.W.Frag) (ta:TE) (f:Str):TE:=fun σ H Q=>ta σ H fun x H1=>∃ a C dx fs v,x=.ref a∧H1 a=some (.ins C dx fs)∧Cls K C∧NoAttr K C f∧fs.lookup f=some v∧Q v H1
def sFld (K:PySem.W.Frag) (ta tv:TE) (f:Str):TS:=fun D σ H=>tv σ H fun y H1=>ta σ H1 fun x H2=>∃ a C dx fs,x=.ref a∧H2 a=some (.ins C dx fs)∧Cls K C∧NoAttr K C f∧fs.length<1000 ∧
 D.nx σ (upd H2 a (.ins C dx (putF f y fs)))
def InOp (X:Cx) (op:Operator) (rd:V→V→Hp→VK→Prop):Prop :=
 ∀ (pins:List (Addr×Obj)) (s:Shared) (σ:St) (H:Hp) (x y:V) (u v:Value) (Q:VK),Inv X pins σ H s→RelV x u→RelV y v→rd x y H Q→wpAny (model X.prog X.w) X.A (inplaceOp op u v) (EP X pins σ Q) X.xe s
def sFldAug (K:PySem.W.Frag) (ta tv:TE) (rd:V→V→Hp→VK→Prop) (f:Str):TS:=fun D σ H=>ta σ H fun x H1=>∃ a C dx fs v,x=.ref a∧H1 a=some (.ins C dx fs)∧Cls K C∧NoAttr K C f∧fs.lookup f=some v ∧
 tv σ H1 fun y H2=>rd v y H2 fun z H3=>∃ dx' fs',H3 a=some (.ins C dx' fs')∧fs'.length<1000∧D.nx σ (upd H3 a (.ins C dx' (putF f z fs')))
section
variable {X:Cx}{o e value:Expr}{f:Str}{pos pos' tpos:Pos}{ta tv:TE}
theorem pe_fld (he:PE X e ta) (hb:attributeBase e f X.env (eval e X.env)=eval e X.env):PE X (.Attribute e f pos) (tFld X.K ta f):=by
 intro pins s σ H Q I h
 refine attr_of hb (thn (he pins s σ H _ I h) fun u s1 ⟨x,H1,I1,rx,a,C,dx,fs,v,ex,ea,c,n,l,q⟩=>?_)
 subst ex
 obtain rfl:u=Value.ref a:=rx
 exact getattr_ok I1 ea c n l fun u' s2 I2 ru=>⟨v,H1,I2,ru,q⟩
theorem ps_fld (ha:PE X o ta) (hv:PE X value tv) (hs:swapsWith value (some (.Attribute o f pos')) pos.line X.env=pure false):PS X (.Assign [.Attribute o f pos'] value pos) (sFld X.K ta tv f):=by
 intro pins s σ H D I h
 refine plainObj_wpAny_Assign_Attribute (thn (hv pins s σ H _ I h) fun u s1 ⟨y,H1,I1,ry,q⟩=>thn (ha pins s1 σ H1 _ I1 q) fun ov s2 ⟨x,H2,I2,rx,a,C,dx,fs,ex,ea,c,n,l,q2⟩=>?_) hs
 subst ex
 obtain rfl:ov=Value.ref a:=rx
 exact setattr_ok I2 ea c n l ry fun s3 I3=>⟨σ,_,I3,q2⟩
theorem ps_fldaug {op:Operator}{rd:V→V→Hp→VK→Prop} (ha:PE X o ta) (hv:PE X value tv) (hop:InOp X op rd):PS X (.AugAssign (.Attribute o f tpos) op value pos) (sFldAug X.K ta tv rd f):=by
 intro pins s σ H D I h
 refine wpAny_AugAssign_AttributeAny (thn (ha pins s σ H _ I h) fun ov s1 ⟨x,H1,I1,rx,a,C,dx,fs,v,ex,ea,c,n,l,q⟩=>?_)
 subst ex
 obtain rfl:ov=Value.ref a:=rx
 refine getattr_ok I1 ea c n l fun u s2 I2 ru=>thn (hv pins s2 σ H1 _ I2 q) fun w3 s3 ⟨y,H2,I3,ry,q3⟩=>thn (hop pins s3 σ H2 v y u w3 _ I3 ru ry q3) fun w4 s4 ⟨z,H3,I4,rz,dx',fs',ea',l',q4⟩=>?_
 exact setattr_ok I4 ea' c n l' rz fun s5 I5=>⟨σ,_,I5,q4⟩
def rAdd:V→V→Hp→VK→Prop:=fun x y H Q=>∃ i j,x=.int i∧y=.int j∧Q (.int (i+j)) H
theorem in_add:InOp X .Add rAdd:=by
 rintro pins s σ H x y u v Q I rx ry ⟨i,j,rfl,rfl,q⟩
 obtain ⟨t,rfl⟩:=(show ∃ t,u=Value.int i t from rx)
 obtain ⟨t',rfl⟩:=(show ∃ t',v=Value.int j t' from ry)
 exact PyProof.Rows.iadd_int ⟨.int (i+j),H,I.tok _,⟨_,rfl⟩,q⟩
theorem methcall_of {pl:Sem Bool}{m:Str}{apos:Pos}{args:List Expr}{pins:List (Addr×Obj)}{s:Shared}{σ:St}{H:Hp}{Q:Value→Shared→Prop}{te:TE} (he:PE X e te) (I:Inv X pins σ H s)
  (h:te σ H fun x H1=>∃ a C dx fs g,x=.ref a∧H1 a=some (.ins C dx fs)∧Cls X.K C∧Meth X.K C m g∧fs.lookup m=none ∧
   ∀ s1,Inv X pins σ H1 s1→wpAny (model X.prog X.w) X.A (callWith pos (.ref g) [.ref a] (backTo pos (starEach args X.env)) (backToKw pos (keywordEach [] X.env))) Q X.xe s1)
  (ht:eval (.Call (.Attribute e m apos) args [] pos) X.env=(do
   let ov ← eval e X.env
   standAt apos.atName
   let (f,first) ← holding [ov] (getMethod ov m pl)
   callWith pos f first (backTo pos (starEach args X.env)) (backToKw pos (keywordEach [] X.env)))) :
  wpAny (model X.prog X.w) X.A (eval (.Call (.Attribute e m apos) args [] pos) X.env) Q X.xe s:=by
 refine PySem.W.methodCall_KW (pl:=pl) (thn (he pins s σ H _ I h) fun u s1 ⟨x,H1,I1,rx,a,C,dx,fs,g,ex,ea,c,k,l,q⟩=>?_) ht
 subst ex
 obtain rfl:u=Value.ref a:=rx
 exact getmeth_ok I1 ea c k l (q s1 I1)
end
section
variable {X:Cx}{pins:List (Addr×Obj)}{σ:St}{H:Hp}{s:Shared}{A:Around}{E:Value→Shared→Prop}{Q:Value→Shared→Prop}{c:Value}{b:Bool}
end
end L2
namespace L2
open PySem PySem.Spec PyProof.Rows
structure Room (k:Nat) (A:Around):Prop where
 hd:A.handled=none
 dp:A.depth+3 * k+5<recursionLimit
 un:A.units+16 * k+200<cLine
theorem Room.mono {j k:Nat}{A:Around} (r:Room k A) (h:j≤k):Room j A:=⟨r.hd,by have:=r.dp;omega,by have:=r.un;omega⟩
theorem Room.deeper {k:Nat}{A:Around} (r:Room (k+1) A) (env:Env):Room k (A.deeper env) :=
 ⟨r.hd,by have:=r.dp;show A.depth+1+3 * k+5<_;omega,by have:=r.un;show A.units+3+16 * k+200<_;omega⟩
theorem make_depth {A:Around}{C:Addr}{us:List Value}{kw:List (Str×Value)}:(A.under (.builtin "type.__call__" ⟨.ref C::us,kw⟩)).depth=A.depth+1:=by
 first | rfl | simp [Around.under,Code.weight,Code.isCreation,Code.isGuard,Code.isCaller,Code.frames,Code.isFrame,guardIds]
theorem make_units {A:Around}{C:Addr}{us:List Value}{kw:List (Str×Value)}:(A.under (.builtin "type.__call__" ⟨.ref C::us,kw⟩)).units=A.units+1:=by
 first | rfl | simp [Around.under,Code.cUnits,Code.frames,Code.isFrame]
theorem Room.make {k:Nat}{A:Around} (r:Room (k+1) A) (C:Addr) (us:List Value) (kw:List (Str×Value)):Room k (A.under (.builtin "type.__call__" ⟨.ref C::us,kw⟩)) :=
 ⟨r.hd,by have:=r.dp;rw [make_depth];omega,by have:=r.un;rw [make_units];omega⟩
theorem Room.depth {k:Nat}{A:Around} (r:Room k A):A.depth<recursionLimit:=by have:=r.dp;omega
theorem Room.units {k:Nat}{A:Around} (r:Room k A):A.units+64<cLine:=by have:=r.un;omega
def tNil:TA:=fun _ H Q=>Q [] H
def tCons (ta:TE) (tr:TA):TA:=fun σ H Q=>ta σ H fun x H1=>tr σ H1 fun xs H2=>Q (x::xs) H2
section
variable {X:Cx}{e:Expr}{es:List Expr}{te:TE}{t:TA}{pos:Pos}
theorem pa_nil:PA X [] tNil:=fun _ _ _ _ H Q I h=>Calls.spliced_nil ⟨[],H,I,.nil,h⟩
theorem pa_cons (ha:PE X e te) (hr:PA X es t) (hs:starEach (e::es) X.env=(false,eval e X.env)::starEach es X.env:=by rfl):PA X (e::es) (tCons te t):=by
 intro pos pins s σ H Q I h
 rw [hs]
 show wpAny _ _ (spliced ((false,eval e X.env)::backTo pos (starEach es X.env))) _ _ s
 refine Calls.spliced_cons (thn (ha pins s σ H _ I h) fun u s1 ⟨x,H1,I1,r1,q1⟩=>?_)
 exact thn (hr pos pins s1 σ H1 _ I1 q1) fun us s2 ⟨xs,H2,I2,r2,q2⟩=>⟨x::xs,H2,I2,.cons r1 r2,q2⟩
def tTup (t:TA):TE:=fun σ H Q=>t σ H fun xs H1=>xs.length≤sizeLine∧∀ p,H1 p=none→Q (.ref p) (upd H1 p (.tup xs))
def tLst (t:TA):TE:=fun σ H Q=>t σ H fun xs H1=>xs.length≤sizeLine∧∀ p,H1 p=none→Q (.ref p) (upd H1 p (.lst xs))
theorem pe_tup {x1} (h:PA X es t):PE X (.Tuple es x1 pos) (tTup t):=by
 intro pins s σ H Q I hq
 refine wpAny_Tuple_spliced (thn (h pos pins s σ H _ I hq) fun us s1 ⟨xs,H1,I1,r,z,q⟩=>⟨by rw [← r.length];exact z,?_⟩)
 have hf:H1 s1.heap.objs.size=none:=I1.hok.fresh (Nat.le_refl _)
 refine ⟨.ref s1.heap.objs.size,upd H1 s1.heap.objs.size (.tup xs),I1.laid (t':=s1.toks) (fun b u e=>Heap.get?_push_of_some _ e) (Nat.le_refl _) ?_,rfl,q _ hf⟩
 exact ⟨z,us,r,⟨_,Heap.get?_push_size _ rfl,rfl,_,rfl⟩⟩
theorem pe_lst (h:PA X es t):PE X (.List es pos) (tLst t):=by
 intro pins s σ H Q I hq
 refine wpAny_List_spliced (thn (h pos pins s σ H _ I hq) fun us s1 ⟨xs,H1,I1,r,z,q⟩=>⟨by rw [← r.length];exact z,?_⟩)
 have hf:H1 s1.heap.objs.size=none:=I1.hok.fresh (Nat.le_refl _)
 refine ⟨.ref s1.heap.objs.size,upd H1 s1.heap.objs.size (.lst xs),I1.laid (t':=s1.toks) (fun b u e=>Heap.get?_push_of_some _ e) (Nat.le_refl _) ?_,rfl,q _ hf⟩
 exact ⟨z,us,0,r,Heap.get?_push_size _ rfl⟩
end
abbrev Sp:=List V→Hp→VK→XK→Prop
abbrev CXT:=List Env→Hp→Shared→XK→Value→Shared→Prop
structure Env0 (P:Program) (w:World) (K:PySem.W.Frag) (mg:Str→Option Value) (base:Heap) (A:Around) (outer:List Env) (s:Shared) (H:Hp):Prop where
 frames:A.frames=some outer
 mod:Mod K mg base
 bs:∀ b o,base.get? b=some o→s.heap.get? b=some o∧H b=none
 bsz:base.objs.size≤s.heap.objs.size
 funs:s.heap.FunFrames base outer
 frf:∀ b∈frs outer,H b=none
 hok:HOk P w H s.heap
 bare:AllBare s.gens
def CE (outer:List Env) (P:Program) (w:World) (H:Hp) (s:Shared) (Q:VK) (u:Value) (s':Shared):Prop :=
 ∃ v H',s'.os=s.os∧AllBare s'.gens∧Un (frs outer) [] H H' s.heap s'.heap∧HOk P w H' s'.heap∧RelV v u∧Q v H'
def CR (CX:CXT) (outer:List Env) (P:Program) (w:World) (H:Hp) (s:Shared) (Q:VK) (E:XK) (r:Result) (s':Shared):Prop :=
 match r with
 | .ok (.ret u)=>CE outer P w H s Q u s'
 | .ok _=>False
 | .error e=>CX outer H s E e s'
structure FnOk (P:Program) (w:World) (K:PySem.W.Frag) (mg:Str→Option Value) (base:Heap) (CX:CXT) (k:Nat) (f:Addr) (fd:FuncData) (ps:List Str) (sp:Sp):Prop where
 len:∀ vs H Q E,sp vs H Q E→vs.length=ps.length
 run:∀ (A:Around) (outer:List Env) (s:Shared) (H:Hp) (args:Args) (us:List Value) (vs:List V) (Q:VK) (E:XK),Room k A→Env0 P w K mg base A outer s H→BindsTo s fd args (ps.zip us)→Vals vs us→sp vs H Q E →
  codeAny (model P w) A (.call (.ref f) args) (CR CX outer P w H s Q E) s
theorem Env0.make {P:Program}{w:World}{K:PySem.W.Frag}{mg:Str→Option Value}{base:Heap}{A:Around}{outer:List Env}{s:Shared}{H:Hp} (e:Env0 P w K mg base A outer s H) (C:Addr) (us:List Value) (kw:List (Str×Value)) :
  Env0 P w K mg base (A.under (.builtin "type.__call__" ⟨.ref C::us,kw⟩)) outer s H:=⟨by first | exact e.frames | (simpa [Around.under,Code.envs,Code.isFrame,pushEnvs] using e.frames),e.mod,e.bs,e.bsz,e.funs,e.frf,e.hok,e.bare⟩
section
variable {X:Cx}{pins:List (Addr×Obj)}{σ:St}{H:Hp}{s s':Shared}
theorem Inv.env0 (I:Inv X pins σ H s):Env0 X.prog X.w X.K X.mg X.base X.A X.stack s H :=
 ⟨I.ok.frames,I.ok.mod,I.bs,Nat.le_trans I.ok.bsz I.sz,I.stack,I.stkFree,I.hok,I.bare⟩
theorem Inv.after {Q:VK}{u:Value} (I:Inv X pins σ H s) (h:CE X.stack X.prog X.w H s Q u s'):EP X pins σ Q u s':=by
 obtain ⟨v,H',os,bare,un,hok,r,q⟩:=h
 obtain ⟨hh,g,d,t,os'⟩:=s'
 obtain rfl:os'=s.os:=os
 exact ⟨v,H',I.call (h':=hh) (g':=g) (d':=d) (t':=t) (ch:=[]) un hok bare (fun b z=>absurd z (by simp)),r,q⟩
end
def tCall (sp:Sp) (dvs:List V) (E:XK) (t:TA):TE:=fun σ H Q=>t σ H fun vs H1=>sp (vs++dvs) H1 Q E
def tMeth (C:Addr) (m:Str) (sp:Sp) (dvs:List V) (E:XK) (ta:TE) (t:TA):TE:=fun σ H Q=>ta σ H fun x H1=>∃ a dx fs,x=.ref a∧H1 a=some (.ins C dx fs)∧fs.lookup m=none ∧
 t σ H1 fun vs H2=>sp (x::(vs++dvs)) H2 Q E
def tMake (C:Addr) (sp:Sp) (dvs:List V) (E:XK) (t:TA):TE:=fun σ H Q=>t σ H fun vs H1=>∀ x dx,H1 x=none→H1 dx=none→dx≠x →
 sp (.ref x::(vs++dvs)) (upd (upd H1 dx (.own x)) x (.ins C dx [])) (fun v H2=>v=.non∧Q (.ref x) H2) E
def Binds (K:PySem.W.Frag) (fd:FuncData) (ps:List Str) (ds:List Value):Prop :=
 ∀ (s:Shared) (us:List Value),K.In s.heap→(us++ds).length=ps.length→BindsTo s fd ⟨us,[]⟩ (ps.zip (us++ds))
theorem Binds.all {K:PySem.W.Frag}{fd:FuncData}{ps:List Str} (h:∀ us:List Value,us.length=ps.length→bindArgs fd ⟨us,[]⟩=pure (ps.zip us)):Binds K fd ps []:=fun s us _ hl=>by
 rw [List.append_nil] at hl ⊢
 exact .of_eq (h us hl)
def Passes (CX:CXT) (X:Cx) (E:XK):Prop:=∀ (pins:List (Addr×Obj)) (σ:St) (H:Hp) (s:Shared) (e:Value) (s':Shared),Inv X pins σ H s→CX X.stack H s E e s'→X.xe e s'
section
variable {X:Cx}{CX:CXT}{k:Nat}{f C:Addr}{fd:FuncData}{ps:List Str}{sp:Sp}{dvs:List V}{ds:List Value}{E:XK}{x m:Str}{p pos apos:Pos}{e o:Expr}{es:List Expr}{ta:TE}{t:TA}
theorem run_fn {pins:List (Addr×Obj)}{σ:St}{H:Hp}{s:Shared}{Q:VK}{us:List Value}{vs:List V} (F:FnOk X.prog X.w X.K X.mg X.base CX k f fd ps sp) (hr:Room k X.A) (hb:Binds X.K fd ps ds) (hd:Vals dvs ds) (hx:Passes CX X E)
  (I:Inv X pins σ H s) (r:Vals vs us) (h:sp (vs++dvs) H Q E):wpAny (model X.prog X.w) X.A (call (.ref f) us) (EP X pins σ Q) X.xe s:=by
 have r2:Vals (vs++dvs) (us++ds):=r.append hd
 have hl:(us++ds).length=ps.length:=by rw [← r2.length];exact F.len _ _ _ _ h
 refine wpAny_call (codeAny_mono (F.run X.A X.stack s H ⟨us,[]⟩ (us++ds) (vs++dvs) Q E hr I.env0 (hb s us I.kIn hl) r2 h) fun r s' hq=>?_)
 cases r with
 | error e=>exact hx pins σ H s e s' I hq
 | ok fl =>
  cases fl with
  | ret u=>exact I.after hq
  | next=>exact False.elim hq
  | brk=>exact False.elim hq
  | cont=>exact False.elim hq
theorem pe_call (F:FnOk X.prog X.w X.K X.mg X.base CX k f fd ps sp) (hr:Room k X.A) (hg:Gl X x) (hm:X.mg x=some (.ref f)) (hk:PySem.W.keepIn X.K (.ref f)=true) (hb:Binds X.K fd ps ds) (hd:Vals dvs ds) (hx:Passes CX X E)
  (ha:PA X (e::es) t) (hdb:(x==("__debug__":Str))=false:=by decide) (he:starEach (e::es) X.env=(false,eval e X.env)::starEach es X.env:=by rfl) (hpl:(backTo pos (starEach es X.env)).any (·.1)=false:=by rfl) :
  PE X (.Call (.Name x p) (e::es) [] pos) (tCall sp dvs E t):=by
 intro pins s σ H Q I h
 refine wpAny_Call_Name_kw (ld_glob I hg hm ?_ hdb)
 refine PySem.W.callWith_K (h₀:=X.base) I.ok.mod.kin hk (thn (ha pos pins s σ H _ I h) fun us s1 ⟨vs,H1,I1,r,q⟩=>⟨I1.kIn,?_⟩) he hpl
 exact run_fn F hr hb hd hx I1 r q
theorem pe_meth {pl:Sem Bool} (he:PE X o ta) (c:Cls X.K C) (hm:Meth X.K C m f) (F:FnOk X.prog X.w X.K X.mg X.base CX k f fd ps sp) (hr:Room k X.A) (hb:Binds X.K fd ps ds) (hd:Vals dvs ds) (hx:Passes CX X E) (ha:PA X (e::es) t)
  (hst:starEach (e::es) X.env=(false,eval e X.env)::starEach es X.env:=by rfl) (hpl:(backTo pos (starEach es X.env)).any (·.1)=false:=by rfl)
  (ht:eval (.Call (.Attribute o m apos) (e::es) [] pos) X.env=(do
   let ov ← eval o X.env
   standAt apos.atName
   let (f,first) ← holding [ov] (getMethod ov m pl)
   callWith pos f first (backTo pos (starEach (e::es) X.env)) (backToKw pos (keywordEach [] X.env))):=by rfl) :
  PE X (.Call (.Attribute o m apos) (e::es) [] pos) (tMeth C m sp dvs E ta t):=by
 intro pins s σ H Q I h
 refine PySem.W.methodCall_KW (pl:=pl) (thn (he pins s σ H _ I h) fun u s1 ⟨x,H1,I1,rx,a,dx,fs,ex,ea,l,q⟩=>?_) ht
 subst ex
 obtain rfl:u=Value.ref a:=rx
 refine getmeth_ok I1 ea c hm l ?_
 refine PySem.W.callWith_K (first:=[.ref a]) (h₀:=X.base) I.ok.mod.kin hm.kp (thn (ha pos pins s1 σ H1 _ I1 q) fun us s2 ⟨vs,H2,I2,r,q2⟩=>⟨I2.kIn,?_⟩) hst hpl
 exact run_fn (us:=.ref a::us) (vs:=.ref a::vs) F hr hb hd hx I2 (.cons rfl r) q2
theorem pe_meth0 {pl:Sem Bool} (he:PE X o ta) (c:Cls X.K C) (hm:Meth X.K C m f) (F:FnOk X.prog X.w X.K X.mg X.base CX k f fd ps sp) (hr:Room k X.A) (hb:Binds X.K fd ps ds) (hd:Vals dvs ds) (hx:Passes CX X E)
  (ht:eval (.Call (.Attribute o m apos) [] [] pos) X.env=(do
   let ov ← eval o X.env
   standAt apos.atName
   let (f,first) ← holding [ov] (getMethod ov m pl)
   callWith pos f first (backTo pos (starEach [] X.env)) (backToKw pos (keywordEach [] X.env))):=by rfl) :
  PE X (.Call (.Attribute o m apos) [] [] pos) (tMeth C m sp dvs E ta tNil):=by
 intro pins s σ H Q I h
 refine PySem.W.methodCall_KW (pl:=pl) (thn (he pins s σ H _ I h) fun u s1 ⟨x,H1,I1,rx,a,dx,fs,ex,ea,l,q⟩=>?_) ht
 subst ex
 obtain rfl:u=Value.ref a:=rx
 refine getmeth_ok I1 ea c hm l ?_
 exact PySem.W.callWith_K0 (first:=[.ref a]) I1.kIn hm.kp (run_fn (us:=[.ref a]) (vs:=[.ref a]) F hr hb hd hx I1 (.cons rfl .nil) q)
structure Mk (K:PySem.W.Frag) (C f:Addr):Prop where
 makes:PySem.W.makesIn K C=true
 init:PySem.W.findIn K (.ref C) "__init__"=some (some (.ref f))
 fn:PySem.W.isFn K (.ref f)=true
 kp:PySem.W.keepIn K (.ref C)=true
theorem run_make {pins:List (Addr×Obj)}{σ:St}{H:Hp}{s:Shared}{Q:VK}{us:List Value}{vs:List V} (M:Mk X.K C f) (F:FnOk X.prog X.w X.K X.mg X.base CX k f fd ps sp) (hr:Room (k+1) X.A) (hb:Binds X.K fd ps ds) (hd:Vals dvs ds)
  (hx:Passes CX X E) (I:Inv X pins σ H s) (r:Vals vs us)
  (h:∀ x dx,H x=none→H dx=none→dx≠x→sp (.ref x::(vs++dvs)) (upd (upd H dx (.own x)) x (.ins C dx [])) (fun v H2=>v=.non∧Q (.ref x) H2) E) :
  wpAny (model X.prog X.w) X.A (call (.ref C) us) (EP X pins σ Q) X.xe s:=by
 have hq:=h (s.heap.objs.size+1) s.heap.objs.size (I.hok.fresh (Nat.le_succ _)) (I.hok.fresh (Nat.le_refl _)) (Nat.ne_of_lt (Nat.lt_succ_self _))
 have I2:=Inv.made (C:=C) I
 have r2:Vals (V.ref (s.heap.objs.size+1)::(vs++dvs)) (Value.ref (s.heap.objs.size+1)::(us++ds)):=.cons rfl (r.append hd)
 have hl:(Value.ref (s.heap.objs.size+1)::us++ds).length=ps.length:=by
  have e:=r2.length
  rw [F.len _ _ _ _ hq] at e
  exact e.symm
 refine wpAny_call (make_map (f:=f) I.kIn M.makes M.init (beq_iff_eq.mp M.fn) (codeAny_mono (F.run _ X.stack _ _ ⟨Value.ref (s.heap.objs.size+1)::us,[]⟩ (Value.ref (s.heap.objs.size+1)::(us++ds)) _ _ E (hr.make C us [])
  (I2.env0.make C us []) (hb _ (Value.ref (s.heap.objs.size+1)::us) I2.kIn hl) r2 hq) fun r s' hq'=>?_))
 cases r with
 | error e=>exact hx pins σ _ _ e s' I2 hq'
 | ok fl =>
  cases fl with
  | ret u =>
   obtain ⟨v,H',I3,rv,ev,q3⟩:=I2.after hq'
   subst ev
   exact ⟨rv,⟨V.ref (s.heap.objs.size+1),H',I3,rfl,q3⟩⟩
  | next=>exact False.elim hq'
  | brk=>exact False.elim hq'
  | cont=>exact False.elim hq'
theorem pe_make (M:Mk X.K C f) (F:FnOk X.prog X.w X.K X.mg X.base CX k f fd ps sp) (hr:Room (k+1) X.A) (hg:Gl X x) (hm:X.mg x=some (.ref C)) (hb:Binds X.K fd ps ds) (hd:Vals dvs ds) (hx:Passes CX X E)
  (ha:PA X (e::es) t) (hdb:(x==("__debug__":Str))=false:=by decide) (he:starEach (e::es) X.env=(false,eval e X.env)::starEach es X.env:=by rfl) (hpl:(backTo pos (starEach es X.env)).any (·.1)=false:=by rfl) :
  PE X (.Call (.Name x p) (e::es) [] pos) (tMake C sp dvs E t):=by
 intro pins s σ H Q I h
 refine wpAny_Call_Name_kw (ld_glob I hg hm ?_ hdb)
 refine PySem.W.callWith_K (h₀:=X.base) I.ok.mod.kin M.kp (thn (ha pos pins s σ H _ I h) fun us s1 ⟨vs,H1,I1,r,q⟩=>⟨I1.kIn,?_⟩) he hpl
 exact run_make M F hr hb hd hx I1 r q
end
section
variable {X:Cx}{CX:CXT}{k:Nat}{f C:Addr}{fd:FuncData}{ps ks:List Str}{sp:Sp}{E:XK}{x m:Str}{p pos apos kpos:Pos}{e o:Expr}{es:List Expr}{kws:List Keyword}{te ta:TE}{t tk:TA}{nm:Option Str}
variable {g:List Value→List Value→List Value}{gV:List V→List V→List V}
end
structure FnScope (N P:List Str) (sc:Scope):Prop where
 kind:sc.kind=.function
 co:sc.isCoroutine=false
 gen:sc.isGenerator=false
 nd:N.Nodup
 pre:N.take P.length=P
 par:∀ x∈P,sc.names.lookup x=some .local∨sc.names.lookup x=some .cell
 nofree:∀ y∈sc.names,y.2≠.free
theorem bindL_out {kindOf:Str→Option NameKind}{x:Str}:∀ {binds:List (Str×Value)}{m:Str→Option Value},(∀ v,(x,v) ∉ binds)→bindL kindOf binds m x=m x
 | [],_,_=>rfl
 | (n,v)::r,m,h=>by
  unfold bindL
  rw [bindL_out fun w hw=>h w (List.mem_cons_of_mem _ hw)]
  split
  ·have:x≠n:=by rintro rfl;exact h v List.mem_cons_self
   simp [this]
  ·rfl
theorem bindC_out {kindOf:Str→Option NameKind}{x:Str}:∀ {binds:List (Str×Value)}{m:Str→Option Value},(∀ v,(x,v) ∉ binds)→bindC kindOf binds m x=m x
 | [],_,_=>rfl
 | (n,v)::r,m,h=>by
  unfold bindC
  rw [bindC_out fun w hw=>h w (List.mem_cons_of_mem _ hw)]
  split
  ·rfl
  ·have:x≠n:=by rintro rfl;exact h v List.mem_cons_self
   simp [this]
theorem bindL_get {kindOf:Str→Option NameKind}{x:Str}{v:Value}:∀ {P:List Str}{vs:List Value}{i:Nat}{m:Str→Option Value},P.Nodup→P[i]?=some x→vs[i]?=some v→kindOf x=some .local →
  bindL kindOf (P.zip vs) m x=some v
 | [],_,_,_,_,h,_,_=>by simp at h
 | _::_,[],_,_,_,_,h,_=>by simp at h
 | p::P,w::vs,0,m,nd,h1,h2,hk=>by
  simp at h1 h2;subst h1;subst h2
  show bindL kindOf ((p,w)::P.zip vs) m p=_
  unfold bindL
  rw [bindL_out fun v hv=>(List.nodup_cons.mp nd).1 (List.of_mem_zip hv).1,if_pos hk]
  simp
 | p::P,w::vs,i+1,m,nd,h1,h2,hk=>by
  show bindL kindOf ((p,w)::P.zip vs) m x=_
  unfold bindL
  exact bindL_get (i:=i) (List.nodup_cons.mp nd).2 (by simpa using h1) (by simpa using h2) hk
theorem bindC_get {kindOf:Str→Option NameKind}{x:Str}{v:Value}:∀ {P:List Str}{vs:List Value}{i:Nat}{m:Str→Option Value},P.Nodup→P[i]?=some x→vs[i]?=some v→kindOf x≠some .local →
  bindC kindOf (P.zip vs) m x=some v
 | [],_,_,_,_,h,_,_=>by simp at h
 | _::_,[],_,_,_,_,h,_=>by simp at h
 | p::P,w::vs,0,m,nd,h1,h2,hk=>by
  simp at h1 h2;subst h1;subst h2
  show bindC kindOf ((p,w)::P.zip vs) m p=_
  unfold bindC
  rw [bindC_out fun v hv=>(List.nodup_cons.mp nd).1 (List.of_mem_zip hv).1,if_neg hk]
  simp
 | p::P,w::vs,i+1,m,nd,h1,h2,hk=>by
  show bindC kindOf ((p,w)::P.zip vs) m x=_
  unfold bindC
  exact bindC_get (i:=i) (List.nodup_cons.mp nd).2 (by simpa using h1) (by simpa using h2) hk
def start (N:List Str) (vs:List V):St:=vs.map some++List.replicate (N.length-vs.length) none
def cxOf (CX:CXT) (P:Program) (w:World) (K:PySem.W.Frag) (mg:Str→Option Value) (base:Heap) (N:List Str) (qual:Str) (scope:Scope) (f:Addr) (cd:Value) (A:Around) (outer:List Env) (s:Shared) (H:Hp) (E:XK):Cx where
 prog:=P
 w:=w
 K:=K
 mg:=mg
 base:=base
 A:=A.deeper (envOfC qual scope s.heap.objs.size f cd)
 N:=N
 s_0:=s
 H_0:=H
 env:=envOfC qual scope s.heap.objs.size f cd
 outer:=outer
 stack:=envOfC qual scope s.heap.objs.size f cd::outer
 ex:=[]
 calm:=true
 fn:=fun _=>true
 pn:=[]
 xe:=fun e s'=>wpAny (model P w) (A.deeper (envOfC qual scope s.heap.objs.size f cd)) (leaving (envOfC qual scope s.heap.objs.size f cd) e) (fun _ s''=>CX outer H s E e s'') (fun e' s''=>CX outer H s E e' s'') s'
theorem cell_has {sc:Scope}{n:Nat}{x:Str} (h:sc.names.lookup x=some .cell):∃ c,(cellsFrom n sc.names []).lookup x=some c:=by
 have q:=PySem.W.cellsFrom_some sc.names n [] (.inl h)
 exact Option.isSome_iff_exists.mp q
theorem inv_start {CX:CXT}{P:Program}{w:World}{K:PySem.W.Frag}{mg:Str→Option Value}{base:Heap}{N ps:List Str}{qual:Str}{scope:Scope}{f:Addr}{cd:Value}{A:Around}{outer:List Env}{s s1:Shared}{H:Hp}{E:XK}{us:List Value}{vs:List V}
  (S:FnScope N ps scope) (hd:A.handled=none) (e0:Env0 P w K mg base A outer s H) (hl:vs.length=ps.length) (r:Vals vs us)
  (x:InCallC s s.heap.objs.size (bindL (envOfC qual scope s.heap.objs.size f cd).kindOf (ps.zip us) fun _=>none) (cellsFrom (s.heap.objs.size+1) scope.names []) (bindC (envOfC qual scope s.heap.objs.size f cd).kindOf (ps.zip us) fun _=>none) s1) :
  Inv (cxOf CX P w K mg base N qual scope f cd A outer s H E) [] (start N vs) H s1:=by
 have hpl:ps.length≤N.length:=by have:=congrArg List.length S.pre;rw [List.length_take] at this;omega
 obtain ⟨h1,tk,rfl,hk⟩:=x.done
 have noA:∀ b:Addr,b ∉ (cxOf CX P w K mg base N qual scope f cd A outer s H E).ex:=fun b z=>absurd (show b∈([]:List Addr) from z) (by simp)
 refine ⟨⟨e0.mod,S.kind,rfl,rfl,Nat.le_refl _,fun y z c h1 h2=>?_,fun y hy=>?_,fun y c _ h=>?_,fun _=>hd,Around.frames_deeper e0.frames,.inr ⟨rfl,rfl⟩,fun b z=>absurd z (noA b),e0.bs,e0.bsz,fun b _ _=>noA b,fun b z=>absurd z (noA b),e0.funs,e0.frf⟩,
  rfl,e0.bare,Un.kept hk,⟨_,x.toInCall.ns,fun i y v h1 h2 h3=>?_⟩,fun y c h=>⟨_,x.cell y c h⟩,e0.hok.fresh (Nat.le_refl _),fun y c h=>?_,fun p hp=>absurd (show p∈([]:List (Addr×Obj)) from hp) (by simp),e0.hok.kept hk,?_⟩
 ·exact name_of_addr x.apart (PySem.mem_of_lookup h1) (PySem.mem_of_lookup h2)
 ·have hy:scope.names.lookup y=some .cell∨scope.names.lookup y=some .free:=hy
  rcases hy with hy | hy
  ·exact cell_has hy
  ·exact absurd rfl (S.nofree _ (PySem.mem_of_lookup hy))
 ·exact Nat.le_of_lt (x.above y c (PySem.mem_of_lookup h))
 ·have hi:i<vs.length:=by
   unfold start at h2
   by_cases hi:i<vs.length
   ·exact hi
   ·rw [List.getElem?_append_right (by simpa using hi)] at h2
    rw [List.getElem?_replicate] at h2
    split at h2 <;> cases h2
  have ha:vs[i]?=some v:=by
   unfold start at h2
   rw [List.getElem?_append_left (by simpa using hi),List.getElem?_map] at h2
   cases e:vs[i]? with
   | none=>rw [e] at h2;cases h2
   | some a=>rw [e] at h2;cases h2;rfl
  obtain ⟨u,hu,rv⟩:=r.get ha
  have hp:ps[i]?=some y:=by
   rw [← S.pre,List.getElem?_take_of_lt (by omega)];exact h1
  have ndP:ps.Nodup:=by rw [← S.pre];exact S.nd.sublist (List.take_sublist _ _)
  refine ⟨u,rv,?_⟩
  rcases S.par y (List.mem_of_getElem? hp) with k | k
  ·exact .inl ⟨k,bindL_get ndP hp hu k⟩
  ·obtain ⟨c,e⟩:=cell_has (n:=s.heap.objs.size+1) k
   refine .inr ⟨.inl k,c,e,?_⟩
   have q:=x.cell y c e
   rw [bindC_get ndP hp hu (by show scope.names.lookup y≠_;rw [k];decide)] at q
   exact q
 ·exact e0.hok.fresh (Nat.le_of_lt (x.above y c (PySem.mem_of_lookup h)))
 ·unfold start
  show _=N.length
  rw [List.length_append,List.length_map,List.length_replicate]
  omega
theorem fn_of {CX:CXT}{P:Program}{w:World}{K:PySem.W.Frag}{mg:Str→Option Value}{base:Heap}{k:Nat}{f:Addr}{name qual:Str}{params:Arguments}{body:List Stmt}{scope:Scope}{dV kV doc pm cdv ct oc:Value}{an od:Option Addr}
  {osl:Array (Option Value)}{N ps:List Str}{sp:Sp} (lk:K.lookup f=some ⟨oc,od,.func (PySem.W.fnOf name qual params body scope dV kV doc pm an cdv ct),osl⟩) (hcd:PySem.W.codeIn K cdv qual=true) (S:FnScope N ps scope)
  (len:∀ vs H Q E,sp vs H Q E→vs.length=ps.length)
  (hbody:∀ (A:Around) (outer:List Env) (s:Shared) (H:Hp) (vs:List V) (Q:VK) (E:XK),Room k (A.deeper (envOfC qual scope s.heap.objs.size f cdv))→sp vs H Q E →
   ∃ t,PSs (cxOf CX P w K mg base N qual scope f cdv A outer s H E) body t∧t { nx:=fun _ H'=>Q .non H',rt:=Q } (start N vs) H) :
  FnOk P w K mg base CX (k+1) f (PySem.W.fnOf name qual params body scope dV kV doc pm an cdv ct) ps sp:=by
 refine ⟨len,fun A outer s H args us vs Q E hr e0 hb r hsp=>?_⟩
 have hl:=len _ _ _ _ hsp
 have KX:K.In s.heap:=e0.mod.kin.keeps fun b o e=>(e0.bs b o e).1
 have lim:s.heap.NoLimit:=e0.mod.nolimit.keeps fun b o e=>(e0.bs b o e).1
 have hkind:∀ y∈ps.zip us,scope.names.lookup y.1=some .local∨(scope.names.lookup y.1=some .cell∧((cellsFrom (s.heap.objs.size+1) scope.names []).lookup y.1).isSome=true):=fun ⟨n,v⟩ hy=>by
  rcases S.par n (List.of_mem_zip hy).1 with q | q
  ·exact .inl q
  ·exact .inr ⟨q,PySem.W.cellsFrom_some _ _ _ (.inl q)⟩
 refine codeAny_call_function hr.depth (KX _ _ lk) rfl S.co S.gen rfl (PySem.W.codeRec_of KX hcd) (hb _ _ _ _ ?_)
 refine wpAny_newFunctionEnv_cells S.kind hkind fun env he s1 x=>?_
 subst he
 refine ⟨lim.keeps x.toInCall.keep,codeAny_func ?_⟩
 obtain ⟨t,ht,hq⟩:=hbody A outer s H vs Q E (hr.deeper _) hsp
 have I:Inv (cxOf CX P w K mg base N qual scope f cdv A outer s H E) [] (start N vs) H s1:=inv_start S hr.hd e0 hl r x
 refine wpAny_mono (ht [] s1 (start N vs) H _ I hq) (fun fl s' hs=>?_) fun e s' hs=>hs
 have fin:∀ {σ':St}{H':Hp}{v:V}{u:Value},Inv (cxOf CX P w K mg base N qual scope f cdv A outer s H E) [] σ' H' s'→RelV v u→Q v H'→CE outer P w H s Q u s' :=
  fun {σ' H' v u} J rv q=>⟨v,H',J.os,J.bare,J.base,J.hok,rv,q⟩
 cases fl with
 | ret u =>
  obtain ⟨v,σ',H',J,rv,q⟩:=hs
  exact fin J rv q
 | next =>
  obtain ⟨σ',H',J,q⟩:=hs
  exact fin (v:=V.non) (u:=Value.none) J rfl q
 | brk =>
  obtain ⟨_,_,_,q⟩:=hs
  exact False.elim q
 | cont =>
  obtain ⟨_,_,_,q⟩:=hs
  exact False.elim q
end L2
namespace L2
open PySem PySem.Spec PyProof.Rows
section
variable {X:Cx}{x:Str}{p pos:Pos}{e:Expr}{es:List Expr}{t:TA}{id T:String}{r:List V→Hp→VK→Prop}
def tCB (r:List V→Hp→VK→Prop) (t:TA):TE:=fun σ H Q=>t σ H fun vs H1=>r vs H1 Q
theorem pe_callB (hc:CallR X (.builtin id) r) (hg:Gl X x) (hm:X.mg x=none) (hv:bootBuiltins x=some (.builtin id)) (ha:PA X (e::es) t) (hn:x≠"__name__":=by decide) (hdb:(x==("__debug__":Str))=false:=by decide)
  (he:starEach (e::es) X.env=(false,eval e X.env)::starEach es X.env:=by rfl) (hpl:(backTo pos (starEach es X.env)).any (·.1)=false:=by rfl):PE X (.Call (.Name x p) (e::es) [] pos) (tCB r t):=by
 intro pins s σ H Q I h
 refine wpAny_Call_Name_kw (ld_blt I hg hm hv ?_ hn hdb)
 exact PyProof.Rows.callWith_builtin1 (thn (ha pos pins s σ H _ I h) fun us s1 ⟨vs,H1,I1,r1,q1⟩=>hc pins s1 σ H1 vs us Q I1 r1 q1) he hpl
theorem pe_callTy (hc:CallR X (.type T) r) (hg:Gl X x) (hm:X.mg x=none) (hv:bootBuiltins x=some (.type T)) (ha:PA X (e::es) t) (hn:x≠"__name__":=by decide) (hdb:(x==("__debug__":Str))=false:=by decide)
  (he:starEach (e::es) X.env=(false,eval e X.env)::starEach es X.env:=by rfl) (hpl:(backTo pos (starEach es X.env)).any (·.1)=false:=by rfl):PE X (.Call (.Name x p) (e::es) [] pos) (tCB r t):=by
 intro pins s σ H Q I h
 refine wpAny_Call_Name_kw (ld_blt I hg hm hv ?_ hn hdb)
 exact PyProof.Rows.callWith_type1 (thn (ha pos pins s σ H _ I h) fun us s1 ⟨vs,H1,I1,r1,q1⟩=>hc pins s1 σ H1 vs us Q I1 r1 q1) he hpl
end
end L2
namespace HT
open PySem PyProof.Rows
section
open PySem.SeqAt
open PySem.AutoSeq1 (wpAny_loadPart')
open PySem.MeetsSeq PySem.MeetsSeq2 PySem.MeetsSeq3
end
section
variable {prog:Program}{w:World}{A:Around}{E:Value→Shared→Prop}{s:Shared}
def sIx (n d:Nat):Option Int→Nat
 | none=>d
 | some v=>if v<0 then (v+(n:Int)).toNat else min v.toNat n
theorem sIx_none (n d:Nat):sIx n d none=d:=rfl
theorem sIx_nat (n d k:Nat):sIx n d (some (k:Int))=min k n:=by
 show (if (k:Int)<0 then ((k:Int)+(n:Int)).toNat else min (k:Int).toNat n)=min k n
 rw [if_neg (by omega),Int.toNat_natCast]
end
end HT
namespace L2
open PySem PySem.Spec PyProof.Rows
abbrev TO:=St→Hp→(Option Int→Hp→Prop)→Prop
def PO (X:Cx) (e:Option Expr) (t:TO):Prop :=
 ∀ (pins:List (Addr×Obj)) (s:Shared) (σ:St) (H:Hp) (Q:Option Int→Hp→Prop),Inv X pins σ H s→t σ H Q →
  wpAny (model X.prog X.w) X.A (evalPart e X.env) (fun u s'=>∃ o H',Inv X pins σ H' s'∧IsPart u o∧Q o H') X.xe s
def tNoPart:TO:=fun _ H Q=>Q none H
def tPart (t:TE):TO:=fun σ H Q=>t σ H fun x H1=>∃ i,x=.int i∧Q (some i) H1
section
variable {X:Cx}{e:Expr}{te:TE}{lo hi:Option Expr}{tl th:TO}{pos p2:Pos}
theorem po_none:PO X none tNoPart:=by
 intro pins s σ H Q I h
 rw [evalPart_none]
 exact wpAny_pure ⟨none,H,I,.none,h⟩
theorem po_some (h:PE X e te):PO X (some e) (tPart te):=by
 intro pins s σ H Q I hw
 rw [evalPart_some]
 refine thn (h pins s σ H _ I hw) fun u s1 ⟨x,H1,I1,r1,q1⟩=>?_
 obtain ⟨i,rfl,q⟩:=q1
 obtain ⟨t,rfl⟩:=r1
 exact ⟨some i,H1,I1,.int i t,q⟩
def SlR (X:Cx) (r:V→Option Int→Option Int→Hp→VK→Prop):Prop :=
 ∀ (pins:List (Addr×Obj)) (s:Shared) (σ:St) (H:Hp) (x:V) (v vl vu:Value) (lo hi:Option Int) (sl:Addr) (Q:VK),Inv X pins σ H s→RelV x v→s.heap.IsSliceOf sl vl vu .none→IsPart vl lo→IsPart vu hi→r x lo hi H Q →
  ∃ T id,typeLookup (.type T) "__getitem__"=pure (some (.builtin id))∧s.TypeIs v T∧wpAny (model X.prog X.w) X.A (getItem v (.ref sl)) (EP X pins σ Q) X.xe s
def tSl (r:V→Option Int→Option Int→Hp→VK→Prop) (te:TE) (tl th:TO):TE:=fun σ H Q=>te σ H fun x H1=>tl σ H1 fun l H2=>th σ H2 fun u H3=>r x l u H3 Q
theorem pe_slice {r:V→Option Int→Option Int→Hp→VK→Prop} (hr:SlR X r) (he:PE X e te) (hl:PO X lo tl) (hu:PO X hi th):PE X (.Subscript e (.Slice lo hi none p2) pos) (tSl r te tl th):=by
 intro pins s σ H Q I h
 refine Subscript_ (thn (he pins s σ H _ I h) fun v s1 ⟨x,H1,I1,r1,q1⟩=>?_)
 refine wpAny_Slice (thn (hl pins s1 σ H1 _ I1 q1) fun vl s2 ⟨l,H2,I2,pl,q2⟩=>thn (hu pins s2 σ H2 _ I2 q2) fun vu s3 ⟨u,H3,I3,pu,q3⟩=>?_)
 rw [evalPart_none]
 refine wpAny_pure ?_
 have I4:Inv X pins σ H3 { s3 with heap:=s3.heap.push { cls:=.type "slice",data:=.fields #[vl,vu,.none] } }:=I3.kept (t':=s3.toks) fun b ob q=>Heap.get?_push_of_some _ q
 obtain ⟨T,id,hT,ht,hg⟩:=hr pins { s3 with heap:=s3.heap.push { cls:=.type "slice",data:=.fields #[vl,vu,.none] } } σ H3 x v vl vu l u s3.heap.objs.size Q I4 r1 (Heap.IsSliceOf.new ..) pl pu q3
 show wpAny (model X.prog X.w) X.A (subscriptTail e (.Slice lo hi none p2) v (.ref s3.heap.objs.size)) (EP X pins σ Q) X.xe { s3 with heap:=s3.heap.push { cls:=.type "slice",data:=.fields #[vl,vu,.none] } }
 exact tail_any (ops:=[.ref s3.heap.objs.size,v]) ht hT hg (by with_unfolding_all rfl)
def cutV (xs:List V) (lo hi:Option Int):List V:=(xs.drop (HT.sIx xs.length 0 lo)).take (HT.sIx xs.length xs.length hi-HT.sIx xs.length 0 lo)
theorem cutV_length (xs:List V) (lo hi:Option Int):(cutV xs lo hi).length≤xs.length:=by
 unfold cutV
 rw [List.length_take,List.length_drop]
 omega
end
end L2
namespace L2
open PySem PySem.Spec PyProof.Rows
def ixN (n:Nat) (i:Int):Option Nat:=if 0≤i then (if i<n then some i.toNat else none) else if -(n:Int)≤i then some (i+n).toNat else none
def atI {α:Type} (xs:List α) (i:Int):Option α:=(ixN xs.length i).bind fun j=>xs[j]?
theorem ixN_seq {n:Nat}{i:Int}{j:Nat} (h:ixN n i=some j):seqIndex? i n=some j∧j<n∧-(n:Int)≤i∧i<n:=by
 unfold ixN at h
 by_cases h0:0≤i
 ·rw [if_pos h0] at h
  by_cases h1:i<n
  ·rw [if_pos h1] at h
   have e:i.toNat=j:=Option.some.inj h
   exact ⟨by rw [seqIndex_of h0 h1,e],by omega,by omega,h1⟩
  ·rw [if_neg h1] at h;cases h
 ·rw [if_neg h0] at h
  by_cases h1:-(n:Int)≤i
  ·rw [if_pos h1] at h
   have e:(i+n).toNat=j:=Option.some.inj h
   exact ⟨by rw [seqIndex_neg (by omega) h1,e],by omega,h1,by omega⟩
  ·rw [if_neg h1] at h;cases h
theorem atI_get {α:Type}{xs:List α}{i:Int}{v:α} (h:atI xs i=some v):∃ j,seqIndex? i xs.length=some j∧xs[j]?=some v∧j<xs.length∧-(xs.length:Int)≤i∧i<xs.length:=by
 unfold atI at h
 cases e:ixN xs.length i with
 | none=>rw [e] at h;cases h
 | some j =>
  rw [e] at h
  obtain ⟨h1,h2,h3,h4⟩:=ixN_seq e
  exact ⟨j,h1,h,h2,h3,h4⟩
theorem atI_nat {α:Type}{xs:List α}{j:Nat}{v:α} (h:xs[j]?=some v):atI xs (j:Int)=some v:=by
 have hj:j<xs.length:=(List.getElem?_eq_some_iff.mp h).1
 have e:ixN xs.length (j:Int)=some j:=by
  unfold ixN
  rw [if_pos (by omega),if_pos (by omega)];simp
 unfold atI;rw [e];exact h
def PlainIx (b:Expr):Prop:=∀ o i,subscripted b false o i=operate [o,i] (getItem o i)
def IxR (X:Cx) (r:R2):Prop :=
 ∀ (value slice:Expr) (pins:List (Addr×Obj)) (s:Shared) (σ:St) (H:Hp) (x y:V) (v u:Value) (Q:VK),Inv X pins σ H s→RelV x v→RelV y u→r x y H Q →
  subscripted slice false v u=operate [v,u] (getItem v u)→wpAny (model X.prog X.w) X.A (subscriptTail value slice v u) (EP X pins σ Q) X.xe s
def MtR (X:Cx) (id:String) (r:V→List V→Hp→VK→Prop):Prop :=
 ∀ (pins:List (Addr×Obj)) (s:Shared) (σ:St) (H:Hp) (x:V) (xs:List V) (v:Value) (us:List Value) (Q:VK),Inv X pins σ H s→RelV x v→Vals xs us→r x xs H Q →
  wpAny (model X.prog X.w) X.A (call (.builtin id) (v::us)) (EP X pins σ Q) X.xe s
section
variable {X:Cx}{a b:Expr}{ta tb:TE}{pos:Pos}
theorem pe_ix {r:R2} (hr:IxR X r) (ha:PE X a ta) (hb:PE X b tb) (hs:PlainIx b):PE X (.Subscript a b pos) (tOp r ta tb):=by
 intro pins s σ H Q I h
 exact Subscript_ (binT ha hb I h fun v u s2 x y H2 I2 rx ry q=>hr a b pins s2 σ H2 x y v u Q I2 rx ry q (hs _ _))
def rIxL (K:PySem.W.Frag):R2:=fun x y H Q=>∃ p xs i v,x=.ref p∧y=.int i∧SqL K H p xs∧atI xs i=some v∧Q v H
def rIxT (K:PySem.W.Frag):R2:=fun x y H Q=>∃ p xs i v,x=.ref p∧y=.int i∧SqT K H p xs∧atI xs i=some v∧Q v H
theorem ix_list:IxR X (rIxL X.K):=by
 intro value slice pins s σ H x y v u Q I rx ry h hs
 obtain ⟨p,xs,i,z,rfl,rfl,hq,he,q⟩:=h
 cases rx
 obtain ⟨t,rfl⟩:=ry
 obtain ⟨its,r,pl,hz⟩:=I.list hq
 obtain ⟨j,h1,h2,h3,h4,h5⟩:=atI_get he
 obtain ⟨w,ew,rw'⟩:=r.get h2
 have hl:=r.length
 have hn:=line63
 have fin:EP X pins σ Q w s:=⟨z,H,I,rw',q⟩
 by_cases h0:0≤i
 ·have hj:i.toNat=j:=by
   rw [seqIndex_of h0 h5] at h1
   exact Option.some.inj h1
  exact item_listR pl.isList h0 (by omega) (by rw [hj];simpa using ew) fin hs
 ·have hj:(i+(its.toArray.size:Int)).toNat=j:=by
   rw [seqIndex_neg (by omega) h4] at h1
   rw [List.size_toArray,← hl]
   exact Option.some.inj h1
  exact subscriptTail_builtinR (x:=w) pl.isList.typeIs slot_list_getitem.lookup
   (wpAny_getItem_list_neg (Q:=fun r s'=>r=w∧EP X pins σ Q r s') pl.isList (by omega) (by rw [List.size_toArray] <;> omega) (by omega) (by rw [hj];simpa using ew) ⟨rfl,fin⟩) hs
theorem ix_tup:IxR X (rIxT X.K):=by
 intro value slice pins s σ H x y v u Q I rx ry h hs
 obtain ⟨p,xs,i,z,rfl,rfl,hq,he,q⟩:=h
 cases rx
 obtain ⟨t,rfl⟩:=ry
 obtain ⟨its,r,pl,hz⟩:=I.tuple hq
 obtain ⟨j,h1,h2,h3,h4,h5⟩:=atI_get he
 obtain ⟨w,ew,rw'⟩:=r.get h2
 have hl:=r.length
 have hn:=line63
 have fin:EP X pins σ Q w s:=⟨z,H,I,rw',q⟩
 exact subscriptTail_builtinR (x:=w) pl.typeIs slot_tuple_getitem.lookup
  (getItem_tuple (j:=j) (Q:=fun r s'=>r=w∧EP X pins σ Q r s') pl (by omega) (by omega) (by rw [List.size_toArray,← hl];exact h1) (by simpa using ew) ⟨rfl,fin⟩) hs
theorem mapSeq_set (its:List Value) (n j:Nat) (u:Value):Obj.mapSeq (·.setIfInBounds j u) { cls:=.type "list",data:=.seq its.toArray n }={ cls:=.type "list",data:=.seq (its.set j u).toArray n }:=by
 simp [Obj.mapSeq]
theorem Inv.lst {pins:List (Addr×Obj)}{σ:St}{H:Hp}{s:Shared}{p:Addr}{xs:List V} (I:Inv X pins σ H s) (h:H p=some (.lst xs)) :
  ∃ (its:List Value) (n:Nat),Vals xs its∧s.heap.get? p=some { cls:=.type "list",data:=.seq its.toArray n }∧xs.length≤sizeLine:=by
 obtain ⟨z,its,n,r,e⟩:=I.hok p _ h
 exact ⟨its,n,r,e,z⟩
theorem Inv.lstUpd {pins:List (Addr×Obj)}{σ:St}{H:Hp}{s:Shared}{p:Addr}{xs ys:List V}{its its':List Value}{n n':Nat}{f:Obj→Obj} (I:Inv X pins σ H s) (h:H p=some (.lst xs))
  (ho:s.heap.get? p=some { cls:=.type "list",data:=.seq its.toArray n }) (hf:f { cls:=.type "list",data:=.seq its.toArray n }={ cls:=.type "list",data:=.seq its'.toArray n' }) (r:Vals ys its') (hz:ys.length≤sizeLine) (t:Nat) :
  Inv X pins σ (upd H p (.lst ys)) { s with heap:=s.heap.update p f,toks:=t }:=by
 have e:(s.heap.update p f).get? p=some { cls:=.type "list",data:=.seq its'.toArray n' }:=by
  rw [Heap.get?_update_self f ho (by rw [hf] <;> rfl),hf]
 refine I.write (x:=p) (e:=p) (by rw [h];trivial) (.inl rfl) (fun b u hb q=>(Heap.get?_update_other _ _ (Ne.symm hb)).trans q) ⟨_,e⟩ ?_
 exact ⟨hz,its',n',r,e⟩
def rSetL:V→V→V→Hp→(Hp→Prop)→Prop:=fun o i v H Q=>∃ p xs k j,o=.ref p∧i=.int k∧H p=some (.lst xs)∧ixN xs.length k=some j∧Q (upd H p (.lst (xs.set j v)))
theorem set_list:PSet X rSetL:=by
 intro pins s σ H o i v ov iv u Q I ro ri rv h
 obtain ⟨p,xs,k,j,rfl,rfl,hp,hj,q⟩:=h
 cases ro
 obtain ⟨t,rfl⟩:=ri
 obtain ⟨its,n,r,ho,hz⟩:=I.lst hp
 obtain ⟨h1,h2,h3,h4⟩:=ixN_seq hj
 have hl:=r.length
 have hn:=line63
 have I':Inv X pins σ (upd H p (.lst (xs.set j v))) { s with heap:=s.heap.update p (Obj.mapSeq (·.setIfInBounds j u)) } :=
  I.lstUpd hp ho (mapSeq_set its n j u) (r.set rv j) (by rw [List.length_set];exact hz) s.toks
 by_cases h0:0≤k
 ·have hk:k.toNat=j:=by
   rw [seqIndex_of h0 h4] at h1
   exact Option.some.inj h1
  exact PySem.W.ki_setAt ho h0 (by omega) (by rw [List.size_toArray,← hl];exact h4) (by rw [hk];exact ⟨_,I',q⟩)
 ·have hk:(k+(its.toArray.size:Int)).toNat=j:=by
   rw [seqIndex_neg (by omega) h3] at h1
   rw [List.size_toArray,← hl]
   exact Option.some.inj h1
  exact PySem.W.ki_setBack ho (by omega) (by rw [List.size_toArray,← hl];exact h3) (by omega) (by rw [hk];exact ⟨_,I',q⟩)
theorem slice_bounds (lo hi:Option Int) (n:Nat):(sliceBounds lo hi none n).1=((HT.sIx n 0 lo:Nat):Int)∧(sliceBounds lo hi none n).2.1=((HT.sIx n n hi:Nat):Int)∧(sliceBounds lo hi none n).2.2=1:=by
 refine ⟨?_,?_,rfl⟩
 ·cases lo with
  | none=>simp [sliceBounds,HT.sIx]
  | some i =>
   simp only [sliceBounds,HT.sIx,Option.getD_none,show (1:Int) > 0 by decide,if_true]
   by_cases h:i<0
   ·simp only [h,if_true] <;> omega
   ·simp only [h,if_false] <;> omega
 ·cases hi with
  | none=>simp [sliceBounds,HT.sIx]
  | some i =>
   simp only [sliceBounds,HT.sIx,Option.getD_none,show (1:Int) > 0 by decide,if_true]
   by_cases h:i<0
   ·simp only [h,if_true] <;> omega
   ·simp only [h,if_false] <;> omega
theorem slicePick_cut (its:List Value) (lo hi:Option Int):slicePick its.toArray lo hi none=((its.drop (HT.sIx its.length 0 lo)).take (HT.sIx its.length its.length hi-HT.sIx its.length 0 lo)).toArray:=by
 obtain ⟨h1,h2,h3⟩:=slice_bounds lo hi its.toArray.size
 unfold slicePick
 rw [h1,h2,h3]
 simp only [sliceRange_one,pick_run,List.size_toArray] <;> rfl
def rSlL (K:PySem.W.Frag):V→Option Int→Option Int→Hp→VK→Prop:=fun x lo hi H Q=>∃ a xs,x=.ref a∧SqL K H a xs∧∀ p,H p=none→Q (.ref p) (upd H p (.lst (cutV xs lo hi)))
theorem sl_list:SlR X (rSlL X.K):=by
 intro pins s σ H x v vl vu lo hi sl Q I rx hs pl pu h
 obtain ⟨a,xs,rfl,hx,q⟩:=h
 cases rx
 obtain ⟨its,r,ht,hz⟩:=I.list hx
 have hlen:=r.length
 refine ⟨"list",_,slot_list_getitem.lookup,ht.isList.typeIs,?_⟩
 refine wpAny_getItem_list_slice ht.isList hs pl pu .none (by simp) ?_ (by rw [List.size_toArray] <;> omega)
 rw [slicePick_cut,← hlen]
 refine ⟨.ref s.heap.objs.size,_,I.laid (t':=s.toks) (o:=.lst (cutV xs lo hi)) (fun b ob q=>Heap.get?_push_of_some _ q) (Nat.le_refl _) ?_,rfl,q _ (I.hok.fresh (Nat.le_refl _))⟩
 exact ⟨Nat.le_trans (cutV_length xs lo hi) hz,_,0,(r.drop (HT.sIx xs.length 0 lo)).take (HT.sIx xs.length xs.length hi-HT.sIx xs.length 0 lo),Heap.get?_push_size _ rfl⟩
def flatV:V→Bool
 | .non=>true
 | .bl _=>true
 | .int _=>true
 | .str _=>true
 | _=>false
def eqV:V→V→Bool
 | .non,.non=>true
 | .bl a,.bl b=>a==b
 | .bl a,.int b=>(if a then 1 else 0)==b
 | .int a,.bl b=>a==(if b then 1 else 0)
 | .int a,.int b=>a==b
 | .str a,.str b=>a==b
 | _,_=>false
theorem eqAt_V {A:Around}{s:Shared}{y x:V}{u v:Value} (ry:RelV y u) (rx:RelV x v) (fy:flatV y=true) (fx:flatV x=true):SeqAt.EqAt A s u v (eqV y x):=by
 cases y with
 | non =>
  cases ry
  cases x with
  | non=>cases rx;exact SeqAt.EqAt.same _
  | bl b=>cases rx;exact SeqAt.EqAt.none_bool b
  | int b=>obtain ⟨t,rfl⟩:=rx;exact SeqAt.EqAt.none_int b t
  | str b=>obtain ⟨t,rfl⟩:=rx;exact SeqAt.EqAt.none_str b t
  | _=>exact absurd (show false=true from fx) Bool.false_ne_true
 | bl a =>
  cases ry
  cases x with
  | non=>cases rx;exact SeqAt.EqAt.bool_none a
  | bl b=>cases rx;exact SeqAt.EqAt.bool_bool a b
  | int b=>obtain ⟨t,rfl⟩:=rx;exact SeqAt.EqAt.bool_int a b t
  | str b=>obtain ⟨t,rfl⟩:=rx;exact SeqAt.EqAt.bool_str a b t
  | _=>exact absurd (show false=true from fx) Bool.false_ne_true
 | int a =>
  obtain ⟨t',rfl⟩:=ry
  cases x with
  | non=>cases rx;exact SeqAt.EqAt.int_none a t'
  | bl b=>cases rx;exact SeqAt.EqAt.int_bool a t' b
  | int b=>obtain ⟨t,rfl⟩:=rx;exact SeqAt.EqAt.int_int a t' b t
  | str b=>obtain ⟨t,rfl⟩:=rx;exact SeqAt.EqAt.int_str a t' b t
  | _=>exact absurd (show false=true from fx) Bool.false_ne_true
 | str a =>
  obtain ⟨t',rfl⟩:=ry
  cases x with
  | non=>cases rx;exact SeqAt.EqAt.str_none a t'
  | bl b=>cases rx;exact SeqAt.EqAt.str_bool a t' b
  | int b=>obtain ⟨t,rfl⟩:=rx;exact SeqAt.EqAt.str_int a t' b t
  | str b=>obtain ⟨t,rfl⟩:=rx;exact SeqAt.EqAt.str_str a t' b t
  | _=>exact absurd (show false=true from fx) Bool.false_ne_true
 | _=>exact absurd (show false=true from fy) Bool.false_ne_true
def eqU (x:V) (u:Value):Bool:=match u with
 | .none=>eqV .non x
 | .bool b=>eqV (.bl b) x
 | .int i _=>eqV (.int i) x
 | .str z _=>eqV (.str z) x
 | _=>false
theorem eqU_of {x y:V}{u:Value} (r:RelV y u) (f:flatV y=true):eqU x u=eqV y x:=by
 cases y with
 | non=>cases r;rfl
 | bl b=>cases r;rfl
 | int i=>obtain ⟨t,rfl⟩:=r;rfl
 | str z=>obtain ⟨t,rfl⟩:=r;rfl
 | _=>exact absurd (show false=true from f) Bool.false_ne_true
theorem any_eqU {x:V}:∀ {xs:List V}{us:List Value},Vals xs us→xs.all flatV=true→us.any (eqU x)=xs.any fun y=>eqV y x
 | _,_,.nil,_=>rfl
 | y::xs,u::us,.cons r t,f=>by
  rw [List.all_cons,Bool.and_eq_true] at f
  rw [List.any_cons,List.any_cons,eqU_of r f.1,any_eqU t f.2]
theorem mem_eqAt {A:Around}{s:Shared}{x:V}{v:Value} (rx:RelV x v) (fx:flatV x=true):∀ {xs:List V}{us:List Value},Vals xs us→xs.all flatV=true→∀ u∈us,SeqAt.EqAt A s u v (eqU x u)
 | _,_,.nil,_=>fun u hu=>by cases hu
 | y::xs,u::us,.cons r t,f=>fun u' hu=>by
  rw [List.all_cons,Bool.and_eq_true] at f
  rcases List.mem_cons.mp hu with rfl | hu
  ·rw [eqU_of r f.1];exact eqAt_V r rx f.1 fx
  ·exact mem_eqAt rx fx t f.2 u' hu
def inV (x:V) (xs:List V):Bool:=xs.any fun y=>eqV y x
def rIn (K:PySem.W.Frag) (neg:Bool):R2:=fun x y H Q=>∃ p xs,y=.ref p∧(SqL K H p xs∨SqT K H p xs)∧flatV x=true∧xs.all flatV=true∧Q (.bl (if neg then !inV x xs else inV x xs)) H
theorem op_in_seq:OpR X (compareOp .In) (rIn X.K false):=by
 intro pins s σ H x y v u Q I rx ry h
 obtain ⟨p,xs,rfl,hq,fx,fs,q⟩:=h
 cases ry
 rcases hq with hq | hq
 ·obtain ⟨its,r,pl,hz⟩:=I.list hq
  refine SeqAt.in_listAt (eqU x) pl.isList (fun w hw=>mem_eqAt rx fx r fs w (by simpa using hw)) ⟨.bl _,H,I,rfl,?_⟩
  rw [show its.toArray.any (eqU x)=its.any (eqU x) by simp,any_eqU r fs]
  exact q
 ·obtain ⟨its,r,pl,hz⟩:=I.tuple hq
  refine SeqAt.in_tupleAt (eqU x) pl (fun w hw=>mem_eqAt rx fx r fs w (by simpa using hw)) ⟨.bl _,H,I,rfl,?_⟩
  rw [show its.toArray.any (eqU x)=its.any (eqU x) by simp,any_eqU r fs]
  exact q
theorem op_notIn_seq:OpR X (compareOp .NotIn) (rIn X.K true):=by
 intro pins s σ H x y v u Q I rx ry h
 obtain ⟨p,xs,rfl,hq,fx,fs,q⟩:=h
 cases ry
 rcases hq with hq | hq
 ·obtain ⟨its,r,pl,hz⟩:=I.list hq
  refine SeqAt.notIn_listAt (eqU x) pl.isList (fun w hw=>mem_eqAt rx fx r fs w (by simpa using hw)) ⟨.bl _,H,I,rfl,?_⟩
  rw [show its.toArray.any (eqU x)=its.any (eqU x) by simp,any_eqU r fs]
  exact q
 ·obtain ⟨its,r,pl,hz⟩:=I.tuple hq
  refine SeqAt.notIn_tupleAt (eqU x) pl (fun w hw=>mem_eqAt rx fx r fs w (by simpa using hw)) ⟨.bl _,H,I,rfl,?_⟩
  rw [show its.toArray.any (eqU x)=its.any (eqU x) by simp,any_eqU r fs]
  exact q
theorem call_len_seq:CallR X (.builtin "len") (fun xs H Q=>∃ p ys,xs=[.ref p]∧(SqL X.K H p ys∨SqT X.K H p ys)∧Q (.int ys.length) H):=by
 intro pins s σ H xs us Q I r h
 obtain ⟨p,ys,rfl,hq,q⟩:=h
 obtain ⟨u,rfl,rx⟩:=vals1 r
 cases rx
 have hn:=line63
 rcases hq with hq | hq
 ·obtain ⟨its,r',pl,hz⟩:=I.list hq
  have hlen:=r'.length
  exact Calls.call_len_list pl.isList (by simp only [List.size_toArray] <;> omega) ⟨.int ys.length,H,I.tok _,⟨s.toks+1,by rw [List.size_toArray,hlen]⟩,q⟩
 ·obtain ⟨its,r',pl,hz⟩:=I.tuple hq
  have hlen:=r'.length
  exact len_tuple pl (by simp only [List.size_toArray] <;> omega) ⟨.int ys.length,H,I.tok _,⟨s.toks+1,by rw [List.size_toArray,hlen]⟩,q⟩
theorem call_list_of:CallR X (.type "list") (fun xs H Q=>∃ p ys,xs=[.ref p]∧(SqL X.K H p ys∨SqT X.K H p ys)∧∀ l,H l=none→Q (.ref l) (upd H l (.lst ys))):=by
 intro pins s σ H xs us Q I r h
 obtain ⟨p,ys,rfl,hq,q⟩:=h
 obtain ⟨u,rfl,rx⟩:=vals1 r
 cases rx
 have fin:∀ (its:List Value),Vals ys its→ys.length≤sizeLine→∀ (h':Heap) (c':Nat),(∀ b o',s.heap.get? b=some o'→h'.get? b=some o') →
   h'.get? s.heap.objs.size=some { cls:=.type "list",dict:=none,data:=.seq its.toArray c',slots:=#[] }→EP X pins σ Q (.ref s.heap.objs.size) { s with heap:=h' }:=fun its r' hz h' c' kp e =>
  ⟨.ref s.heap.objs.size,_,I.laid (t':=s.toks) kp (Nat.le_refl _) (show ObjOk X.prog X.w _ h' _ (.lst ys) from ⟨hz,its,c',r',e⟩),rfl,q _ (I.hok.fresh (Nat.le_refl _))⟩
 rcases hq with hq | hq
 ·obtain ⟨its,r',pl,hz⟩:=I.list hq
  have hlen:=r'.length
  obtain ⟨o,ho,hc,n,hd⟩:=pl.isList
  exact call_list_seq p (.inl rfl) ho hc hd (fun h' c' kp e=>fin its r' hz h' c' kp e) (by simp only [List.size_toArray] <;> omega)
 ·obtain ⟨its,r',pl,hz⟩:=I.tuple hq
  have hlen:=r'.length
  obtain ⟨o,ho,hc,n,hd⟩:=pl
  exact call_list_seq p (.inr rfl) ho hc hd (fun h' c' kp e=>fin its r' hz h' c' kp e) (by simp only [List.size_toArray] <;> omega)
def tyV (K:PySem.W.Frag) (T:String) (x:V) (H:Hp):Prop:=match x with
 | .str _=>T="str"
 | .int _=>T="int"
 | .ref p=>(T="list"∧∃ xs,SqL K H p xs)∨(T="tuple"∧∃ o,K.lookup p=some o∧o.cls=.type "tuple"∧o.dict=none) ∨
   (T="dict"∧((∃ kvs,H p=some (.dK kvs))∨∃ kvs,H p=some (.dT kvs)))∨(T="set"∧∃ S n,H p=some (.set S n))
 | _=>False
theorem tyV_is {pins:List (Addr×Obj)}{σ:St}{H:Hp}{s:Shared}{T:String}{x:V}{v:Value} (I:Inv X pins σ H s) (r:RelV x v) (ty:tyV X.K T x H) :
  s.TypeIs v T∧∀ a,v=.ref a→∃ ob,s.heap.get? a=some ob∧ob.dict=none:=by
 cases x with
 | str z =>
  obtain ⟨t,rfl⟩:=r
  cases (show T="str" from ty)
  exact ⟨typeIs_str s z t,fun _ e=>nomatch e⟩
 | int i =>
  obtain ⟨t,rfl⟩:=r
  cases (show T="int" from ty)
  exact ⟨typeIs_int s i t,fun _ e=>nomatch e⟩
 | ref p =>
  cases r
  rcases ty with ⟨rfl,xs,hq⟩ | ⟨rfl,o,hk,hc,hd⟩ | ⟨rfl,hk⟩ | ⟨rfl,S,n,hk⟩
  ·obtain ⟨its,_,pl,_⟩:=I.list hq
   refine ⟨pl.isList.typeIs,fun a e=>?_⟩
   cases e
   obtain ⟨o,n,e,c,hd,_⟩:=pl
   exact ⟨o,e,hd⟩
  ·refine ⟨⟨o,I.kIn p o hk,hc⟩,fun a e=>?_⟩
   cases e
   exact ⟨o,I.kIn _ o hk,hd⟩
  ·have z:∃ o,s.heap.get? p=some o∧o.ExactDict:=by
    rcases hk with ⟨kvs,hk⟩ | ⟨kvs,hk⟩
    ·obtain ⟨_,_,_,_,o,_,_,e,ex,_⟩:=I.hok p _ hk
     exact ⟨o,e,ex⟩
    ·obtain ⟨_,_,_,_,o,_,_,e,ex,_⟩:=I.hok p _ hk
     exact ⟨o,e,ex⟩
   obtain ⟨o,e,ex⟩:=z
   refine ⟨⟨o,e,ex.1⟩,fun a e2=>?_⟩
   cases e2
   exact ⟨o,e,ex.2.1⟩
  ·obtain ⟨o,_,_,_,e,ex,_⟩:=I.hok p _ hk
   refine ⟨⟨o,e,ex.1⟩,fun a e2=>?_⟩
   cases e2
   exact ⟨o,e,ex.2.1⟩
 | _=>exact False.elim ty
def tBM (K:PySem.W.Frag) (T:String) (r:V→List V→Hp→VK→Prop) (to:TE) (t:TA):TE:=fun σ H Q=>to σ H fun x H1=>tyV K T x H1∧t σ H1 fun xs H2=>r x xs H2 Q
variable {o e:Expr}{es:List Expr}{to:TE}{t:TA}{name:Str}{apos cpos:Pos}{T id:String}{r:V→List V→Hp→VK→Prop}
theorem pe_bm (pa:PlainAttrs T) (slot:Slot T name id) (hty:typeOf (.builtin id)=pure (.type "method_descriptor")) (hm:MtR X id r) (ho:PE X o to) (ha:PA X (e::es) t)
  (hbase:attributeBase o name X.env (eval o X.env)=eval o X.env:=by rfl)
  (hfew:((backTo cpos (starEach (e::es) X.env)).all (fun x=>!x.1) && (backToKw cpos (keywordEach [] X.env)).all (fun x=>x.1.isSome)
   && decide ((e::es).length+([]:List Keyword).length+(if ([]:List Keyword).isEmpty then 0 else 1)<30))=true:=by rfl)
  (hline:(apos.endLine==cpos.line)=true:=by rfl) (hs:starEach (e::es) X.env=(false,eval e X.env)::starEach es X.env:=by rfl) (hplain:(backTo cpos (starEach es X.env)).any (·.1)=false:=by rfl) :
  PE X (.Call (.Attribute o name apos) (e::es) [] cpos) (tBM X.K T r to t):=by
 intro pins s σ H Q I h
 refine wpAny_Call_method_late hbase hfew hline rfl (thn (ho pins s σ H _ I h) fun v s1 ⟨x,H1,I1,r1,ty,q1⟩=>?_)
 obtain ⟨h1,h2⟩:=tyV_is I1 r1 ty
 refine ⟨T,id,pa,slot,hty,h1,h2,?_⟩
 have hA:=ha cpos pins s1 σ H1 _ I1 q1
 rw [hs] at hA ⊢
 refine Calls.callWith_builtin (by show (false || (backTo cpos (starEach es X.env)).any (·.1))=false;rw [hplain] <;> rfl) (Calls.evalArgs_plain ?_)
 exact thn hA fun us s2 ⟨vs,H2,I2,r2,q2⟩=>hm pins s2 σ H2 x vs v us Q I2 r1 r2 q2
end
end L2
namespace L2
open PySem PySem.Spec PyProof.Rows
def MtM (X:Cx) (id:String) (r:V→List V→Hp→VK→Prop):Prop :=
 ∀ (pins:List (Addr×Obj)) (s:Shared) (σ:St) (H:Hp) (x:V) (xs:List V) (v:Value) (us:List Value) (Q:VK),Inv X pins σ H s→RelV x v→Vals xs us→r x xs H Q →
  wpAny (model X.prog X.w) X.A (call (.builtin id) (v::us)) (EP X pins σ Q) X.xe s
theorem Vals.one:∀ {x:V}{us:List Value},Vals [x] us→∃ u,us=[u]∧RelV x u
 | _,_,.cons r .nil=>⟨_,rfl,r⟩
theorem Vals.rep {xs:List V}{us:List Value} (h:Vals xs us):∀ k:Nat,Vals (List.replicate k xs).flatten (List.replicate k us).flatten
 | 0=>.nil
 | k+1=>by
  rw [List.replicate_succ,List.replicate_succ,List.flatten_cons,List.flatten_cons]
  exact Vals.append h (Vals.rep h k)
theorem foldl_rep (its:List Value):∀ (k:Nat) (acc:List Value),
  List.foldl (fun x1 x2=>x1++x2) acc.toArray (List.replicate k its.toArray)=(acc++(List.replicate k its).flatten).toArray
 | 0,acc=>by simp
 | k+1,acc=>by
  have e:acc.toArray++its.toArray=(acc++its).toArray:=by simp
  have e2:(acc++its)++(List.replicate k its).flatten=acc++(List.replicate (k+1) its).flatten:=by
   rw [List.replicate_succ,List.flatten_cons,List.append_assoc]
  rw [← e2,← foldl_rep its k (acc++its),← e,List.replicate_succ,List.foldl_cons]
section
variable {X:Cx}{pins:List (Addr×Obj)}{σ:St}{H:Hp}{s:Shared}{l b:Addr}{xs ys zs:List V}
theorem Inv.lset {its its':List Value}{n:Nat}{f:Array Value→Array Value}{t':Nat} (I:Inv X pins σ H s) (hH:H l=some (.lst xs))
  (e:s.heap.get? l=some { cls:=.type "list",data:=.seq its.toArray n }) (hf:f its.toArray=its'.toArray) (hv:Vals ys its') (hz:ys.length≤sizeLine) :
  Inv X pins σ (upd H l (.lst ys)) { s with heap:=s.heap.update l (Obj.mapSeq f),toks:=t' }:=by
 have q:=PySem.IsL.update e f
 rw [hf] at q
 refine I.write (x:=l) (e:=l) (by rw [hH];exact trivial) (.inl rfl) (fun b' u hb hu=>(Heap.get?_update_other s.heap (Obj.mapSeq f) (Ne.symm hb)).trans hu) ⟨_,q⟩ ?_
 exact ⟨hz,its',_,hv,q⟩
theorem Inv.lnew {its:List Value}{t':Nat} (I:Inv X pins σ H s) (hv:Vals ys its) (hz:ys.length≤sizeLine) :
  Inv X pins σ (upd H s.heap.objs.size (.lst ys)) { s with heap:=s.heap.push { cls:=.type "list",data:=.seq its.toArray },toks:=t' } :=
 I.laid (fun _ _ q=>Heap.get?_push_of_some _ q) (Nat.le_refl _) ⟨hz,its,0,hv,Heap.get?_push_size _ rfl⟩
theorem Inv.fresh (I:Inv X pins σ H s):H s.heap.objs.size=none:=I.hok.fresh (Nat.le_refl _)
theorem Inv.lstM (I:Inv X pins σ H s) (hH:H l=some (.lst xs)):xs.length≤sizeLine∧∃ (its:List Value) (n:Nat),Vals xs its∧xs.length=its.length∧s.heap.get? l=some { cls:=.type "list",data:=.seq its.toArray n }:=by
 obtain ⟨z,its,n,r,e⟩:=I.hok l _ hH
 exact ⟨z,its,n,r,r.length,e⟩
theorem notLongL {n:Nat} (h:n≤sizeLine):Builtin.List.listTooLong n=false:=by
 unfold Builtin.List.listTooLong
 exact decide_eq_false (by omega)
end
section
variable {X:Cx}
def rAppend:V→List V→Hp→VK→Prop:=fun x vs H Q=>∃ l xs y,x=.ref l∧vs=[y]∧H l=some (.lst xs)∧xs.length<sizeLine∧Q .non (upd H l (.lst (xs++[y])))
theorem mt_append:MtM X "list.append" rAppend:=by
 intro pins s σ H x vs v us Q I rx rv h
 obtain ⟨l,xs,y,rfl,rfl,hH,hz,q⟩:=h
 cases rx
 obtain ⟨u,rfl,ru⟩:=rv.one
 obtain ⟨z,its,n,r,hl,e⟩:=I.lstM hH
 refine call_meets F.slot_list_append ⟨_,e,rfl⟩ F.entry_list_append (F.args_list_append_2 _ _) (PySem.list_append l its.toArray n u (by rw [List.size_toArray];omega)) ⟨e,?_⟩
 refine ⟨.non,_,I.lset (its':=its++[u]) hH e (by simp) (r.append (.cons ru .nil)) ?_,rfl,q⟩
 rw [List.length_append,List.length_singleton]
 omega
def rExtend:V→List V→Hp→VK→Prop:=fun x vs H Q=>∃ l b xs zs,x=.ref l∧vs=[.ref b]∧H l=some (.lst xs)∧H b=some (.lst zs)∧xs.length+zs.length≤sizeLine∧Q .non (upd H l (.lst (xs++zs)))
theorem mt_extend:MtM X "list.extend" rExtend:=by
 intro pins s σ H x vs v us Q I rx rv h
 obtain ⟨l,b,xs,zs,rfl,rfl,hH,hB,hz,q⟩:=h
 cases rx
 obtain ⟨u,rfl,ru⟩:=rv.one
 cases ru
 obtain ⟨z,its,n,r,hl,e⟩:=I.lstM hH
 obtain ⟨z2,its2,n2,r2,hl2,e2⟩:=I.lstM hB
 have hsz:its.toArray.size+its2.toArray.size≤sizeLine:=by rw [List.size_toArray,List.size_toArray];omega
 have hlong:¬ (!its.toArray.isEmpty && Builtin.List.listTooLong (its.toArray.size+its2.toArray.size))=true:=by
  rw [notLongL hsz,Bool.and_false]
  exact Bool.false_ne_true
 refine call_meets F.slot_list_extend ⟨_,e,rfl⟩ F.entry_list_extend (F.args_list_extend_2 _ _)
  (AutoSeq1.list_extend_list_list_0 l its.toArray n b its2.toArray n2 hlong (by rw [List.size_toArray];omega) (by omega)) ⟨e,e2,?_⟩
 refine ⟨.non,_,I.lset (its':=its++its2) hH e (by simp) (r.append r2) ?_,rfl,q⟩
 rw [List.length_append]
 omega
def rCat:R2:=fun x y H Q=>∃ l b xs zs,x=.ref l∧y=.ref b∧H l=some (.lst xs)∧H b=some (.lst zs)∧xs.length+zs.length≤sizeLine∧∀ p,H p=none→Q (.ref p) (upd H p (.lst (xs++zs)))
theorem op_cat:OpR X (binaryOp .Add) rCat:=by
 intro pins s σ H x y v u Q I rx ry h
 obtain ⟨l,b,xs,zs,rfl,rfl,hH,hB,hz,q⟩:=h
 cases rx
 cases ry
 obtain ⟨z,its,n,r,hl,e⟩:=I.lstM hH
 obtain ⟨z2,its2,n2,r2,hl2,e2⟩:=I.lstM hB
 refine PySem.P.add_list e e2 ?_ (by rw [List.size_toArray,List.size_toArray];omega)
 have ea:its.toArray++its2.toArray=(its++its2).toArray:=by simp
 rw [ea]
 exact ⟨.ref _,_,I.lnew (t':=s.toks) (r.append r2) (by rw [List.length_append];omega),rfl,q _ I.fresh⟩
def rRep:R2:=fun x y H Q=>∃ l k xs,x=.ref l∧y=.int k∧H l=some (.lst xs)∧-(2 ^ 63)≤k∧k<2 ^ 63∧xs.length * k.toNat≤sizeLine ∧
 ∀ p,H p=none→Q (.ref p) (upd H p (.lst (List.replicate k.toNat xs).flatten))
theorem len_rep {α:Type} (xs:List α) (k:Nat):(List.replicate k xs).flatten.length=k * xs.length:=by
 induction k with
 | zero=>simp
 | succ k ih=>rw [List.replicate_succ,List.flatten_cons,List.length_append,ih,Nat.succ_mul,Nat.add_comm]
theorem op_rep:OpR X (binaryOp .Mult) rRep:=by
 intro pins s σ H x y v u Q I rx ry h
 obtain ⟨l,k,xs,rfl,rfl,hH,h1,h2,hz,q⟩:=h
 cases rx
 obtain ⟨t,rfl⟩:=ry
 obtain ⟨z,its,n,r,hl,e⟩:=I.lstM hH
 have hlen:its.toArray.size * k.toNat≤sizeLine:=by rw [List.size_toArray,← hl];exact hz
 have hcap:¬ its.toArray.size * k.toNat > (2 ^ 63-1) / 8:=by
  have:(sizeLine:Nat)≤(2 ^ 63-1) / 8:=by decide
  omega
 have hfit:¬ (!Builtin.List.listFitsIndex k)=true:=by
  rw [fitsIndex_both h1 h2]
  exact Bool.false_ne_true
 have hlong:¬ Builtin.List.listTooLong (its.toArray.size * k.toNat)=true:=by
  rw [notLongL hlen]
  exact Bool.false_ne_true
 have hnew:List.foldl (fun x1 x2=>x1++x2) #[] (List.replicate (if its.toArray.isEmpty=true then 0 else k.toNat) its.toArray)=(List.replicate k.toNat its).flatten.toArray:=by
  have f0:∀ m:Nat,List.foldl (fun x1 x2=>x1++x2) #[] (List.replicate m its.toArray)=(List.replicate m its).flatten.toArray:=fun m=>by
   have:=foldl_rep its m []
   rw [List.nil_append] at this
   exact this
  rw [f0]
  cases its with
  | nil=>simp
  | cons a r'=>rw [if_neg (by simp)]
 refine wpAny_binaryOp_repeat_ref (T:="list") (U:="int") (by decide) ⟨_,e,rfl⟩ (fun s'=>typeIs_int s' k t) noFill_list_mul F.fills_int_mul F.slot_int_rmul repeat_list F.slot_int_index.lookup
  (call_meets F.slot_int_rmul (typeIs_int s k t) F.entry_int_rmul (F.args_int_rmul_2 _ _) (int___rmul___int_list k t l its.toArray n)
   ⟨e,rfl,⟨_,e,rfl⟩,call_meets F.slot_list_mul ⟨_,e,rfl⟩ F.entry_list_mul (F.args_list_mul_2 _ _) (AutoListH.list___mul___list_int_3 l its.toArray n k t hfit hcap hlong) ⟨e,?_⟩⟩)
 rw [hnew]
 exact ⟨.ref _,_,I.lnew (t':=s.toks) (r.rep k.toNat) (by rw [len_rep,Nat.mul_comm];exact hz),rfl,q _ I.fresh⟩
end
section
variable {prog:Program}{w:World}{A:Around}{E:Value→Shared→Prop}{s:Shared}
end
section
variable {X:Cx}
end
end L2
namespace L2
open PySem PySem.Spec PyProof.Rows
theorem Vals.ints:∀ {ns:List Int}{us:List Value},Vals (ns.map V.int) us→IntsAre us ns
 | [],us,h=>by
  rw [List.map_nil] at h
  cases h
  exact IntsAre.nil
 | n::ns,us,h=>by
  rw [List.map_cons] at h
  cases h with
  | cons r t =>
   obtain ⟨k,rfl⟩:=r
   exact IntsAre.cons n k (Vals.ints t)
theorem Vals.ref1 {a:Addr}{us:List Value} (r:Vals [V.ref a] us):us=[Value.ref a]:=by
 cases r with
 | cons r t =>
  cases t
  cases r
  rfl
section
variable {prog:Program}{w:World}{A:Around}{E:Value→Shared→Prop}{s:Shared}{l:Addr}{its:List Value}{ns:List Int}{Q:Value→Shared→Prop}
theorem sum_raw (hh:A.handled=none) (hl:s.heap.IsList l its.toArray) (hi:IntsAre its ns)
  (h:∀ h' tk t',(∀ b o,s.heap.get? b=some o→h'.get? b=some o)→Q (.int ns.sum t') { s with heap:=h',toks:=tk }):wpAny (model prog w) A (call (.builtin "sum") [.ref l]) Q E s:=by
 obtain ⟨xs,e⟩:=hi.allInts.items
 have hn:numsOf (intItems xs).toList=ns:=by rw [← e];exact hi.numsOf
 rw [nums_intItems] at hn
 rw [e] at hl
 refine PySem.sum_intListG hh hl fun h' tk t' hk=>?_
 have:=h h' tk t' hk
 rw [preSum_eq,List.take_of_length_le (by simp),hn];exact this
theorem max_raw (hh:A.handled=none) (hl:s.heap.IsList l its.toArray) (hi:IntsAre its ns) (hne:0<ns.length)
  (h:∀ h' tk M t',(∀ b o,s.heap.get? b=some o→h'.get? b=some o)→M∈ns→(∀ a,a∈ns→a≤M)→Q (.int M t') { s with heap:=h',toks:=tk }):wpAny (model prog w) A (call (.builtin "max") [.ref l]) Q E s:=by
 obtain ⟨xs,e⟩:=hi.allInts.items
 have hn:numsOf (intItems xs).toList=ns:=by rw [← e];exact hi.numsOf
 rw [nums_intItems] at hn
 subst hn
 rw [e] at hl
 have hsz:0<xs.size:=by simpa using hne
 refine PySem.max_intList hh hl hsz fun v h' tk hv hk=>?_
 obtain ⟨t,rfl⟩:=intItems_at hv
 obtain ⟨h1,h2⟩:=argBest_gt (numAt xs) (xs.size-1)
 refine h h' tk _ t hk ?_ fun a ha=>?_
 ·rw [numAt_eq];exact PySem.getD_mem (by rw [List.length_map,Array.length_toList];omega)
 ·obtain ⟨j,hj,rfl⟩:=mem_getD ha
  rw [List.length_map,Array.length_toList] at hj
  rw [← numAt_eq];exact h2 j (by omega)
end
section
variable {X:Cx}
def rSum (K:PySem.W.Frag):List V→Hp→VK→Prop:=fun vs H Q=>∃ (a:Addr) (ns:List Int),vs=[V.ref a]∧SqL K H a (ns.map V.int)∧Q (.int ns.sum) H
def rMax (K:PySem.W.Frag):List V→Hp→VK→Prop:=fun vs H Q=>∃ (a:Addr) (ns:List Int),vs=[V.ref a]∧SqL K H a (ns.map V.int)∧0<ns.length∧∀ m,m∈ns→(∀ y,y∈ns→y≤m)→Q (.int m) H
theorem cr_sum (hc:X.calm=true):CallR X (.builtin "sum") (rSum X.K):=by
 intro pins s σ H vs us Q I r h
 obtain ⟨a,ns,rfl,hs,q⟩:=h
 obtain ⟨its,rv,hl,_⟩:=I.list hs
 rw [Vals.ref1 r]
 exact sum_raw (I.ok.hd hc) hl.isList rv.ints fun h' tk t' hk=>⟨.int _,H,I.kept hk,⟨_,rfl⟩,q⟩
theorem cr_max (hc:X.calm=true):CallR X (.builtin "max") (rMax X.K):=by
 intro pins s σ H vs us Q I r h
 obtain ⟨a,ns,rfl,hs,hne,q⟩:=h
 obtain ⟨its,rv,hl,_⟩:=I.list hs
 rw [Vals.ref1 r]
 exact max_raw (I.ok.hd hc) hl.isList rv.ints hne fun h' tk m t' hk h1 h2=>⟨.int _,H,I.kept hk,⟨_,rfl⟩,q m h1 h2⟩
end
section
variable {X:Cx}
end
section
variable {X:Cx}
end
section
variable {X:Cx}
end
mutual
inductive Dp (K:PySem.W.Frag) (H:Hp):V→PyData→Prop
 | non:Dp K H .non .none
 | bl (b:Bool):Dp K H (.bl b) (.bool b)
 | int (i:Int):Dp K H (.int i) (.int i)
 | str (x:Str):Dp K H (.str x) (.str x)
 | lst {a:Addr}{xs:List V}{ds:List PyData}:SqL K H a xs→DpAll K H xs ds→Dp K H (.ref a) (.list ds)
 | tup {a:Addr}{xs:List V}{ds:List PyData}:SqT K H a xs→DpAll K H xs ds→Dp K H (.ref a) (.tuple ds)
inductive DpAll (K:PySem.W.Frag) (H:Hp):List V→List PyData→Prop
 | nil:DpAll K H [] []
 | cons {v:V}{vs:List V}{d:PyData}{ds:List PyData}:Dp K H v d→DpAll K H vs ds→DpAll K H (v::vs) (d::ds)
end
section
variable {X:Cx}{pins:List (Addr×Obj)}{σ:St}{H:Hp}{s:Shared}
mutual
theorem Dp.reads (I:Inv X pins σ H s):∀ (d:PyData) (v:V) (u:Value),Dp X.K H v d→RelV v u→∃ as,Reads s.heap u d as
 | .none,_,_,h,r=>by
  cases h
  cases r
  exact ⟨_,Reads.none⟩
 | .bool b,_,_,h,r=>by
  cases h
  cases r
  exact ⟨_,Reads.bool b⟩
 | .int i,_,_,h,r=>by
  cases h
  obtain ⟨t,rfl⟩:=r
  exact ⟨_,Reads.int i t⟩
 | .str x,_,_,h,r=>by
  cases h
  obtain ⟨t,rfl⟩:=r
  exact ⟨_,Reads.str x t⟩
 | .list ds,_,_,h,r=>by
  cases h with
  | lst hs ha =>
   cases r
   obtain ⟨its,rv,⟨o,n,ho,hc,_,hd⟩,_⟩:=I.list hs
   obtain ⟨as,hr⟩:=Dp.readsAll I ds _ its ha rv
   exact ⟨_,Reads.list ho hc hd hr⟩
 | .tuple ds,_,_,h,r=>by
  cases h with
  | tup hs ha =>
   cases r
   obtain ⟨its,rv,⟨o,ho,hc,n,hd⟩,_⟩:=I.tuple hs
   obtain ⟨as,hr⟩:=Dp.readsAll I ds _ its ha rv
   exact ⟨_,Reads.tuple ho hc hd hr⟩
 | .dict _,_,_,h,_=>by cases h
theorem Dp.readsAll (I:Inv X pins σ H s):∀ (ds:List PyData) (vs:List V) (us:List Value),DpAll X.K H vs ds→Vals vs us→∃ as,ReadsAll s.heap us ds as
 | [],_,_,h,r=>by
  cases h
  cases r
  exact ⟨_,ReadsAll.nil⟩
 | d::ds,_,_,h,r=>by
  cases h with
  | cons h1 h2 =>
   cases r with
   | cons r1 r2 =>
    obtain ⟨as,q1⟩:=Dp.reads I d _ _ h1 r1
    obtain ⟨bs,q2⟩:=Dp.readsAll I ds _ _ h2 r2
    exact ⟨_,ReadsAll.cons q1 q2⟩
end
end
section
variable {X:Cx}
def rNeD (K:PySem.W.Frag):R2:=fun x y H Q=>∃ d e,Dp K H x d∧Dp K H y e∧SeqAt.shaped d=true∧SeqAt.shaped e=true∧Q (.bl (!PyData.eqv d e)) H
theorem op_neD (hu:X.A.units+64<cLine):OpR X (compareOp .NotEq) (rNeD X.K):=by
 intro pins s σ H x y v u Q I rx ry h
 obtain ⟨d,e,hd,he,sd,se,q⟩:=h
 obtain ⟨as,r1⟩:=Dp.reads I d x v hd rx
 obtain ⟨bs,r2⟩:=Dp.reads I e y u he ry
 exact SeqAt.compareNe_shaped r1 r2 sd se hu ⟨.bl _,H,I,rfl,q⟩
end
end L2
namespace L2
open PySem PySem.Spec PyProof.Rows
abbrev CellAt (h:Heap) (c:Addr) (v:Option Value):Prop:=h.IsCell c v
def relS (scope sc:Scope):Scope :=
 { scope with names:=scope.names.map fun (n,k)=>if (k==.free && sc.kind==.function && sc.names.lookup n==some .cell) then (n,.cell) else (n,k) }
def cloFrom (cells:List (Str×Addr)):List (Str×NameKind)→List (Str×Addr)→List (Str×Addr)
 | [],acc=>acc
 | (n,k)::r,acc=>if k==.free then cloFrom cells r ((n,(cells.lookup n).getD 0)::acc) else cloFrom cells r acc
theorem closure_loop (env:Env) (f:Str×NameKind→List (Str×Addr)→Sem (ForInStep (List (Str×Addr))))
  (hf:∀ n k c,f (n,k) c=if k==.free then (do let a ← cellOf env n;pure (.yield ((n,a)::c))) else pure (.yield c)) :
  ∀ (names:List (Str×NameKind)) (acc:List (Str×Addr)),(∀ y∈names,y.2=.free→∃ c,env.cells.lookup y.1=some c)→forIn names acc f=pure (cloFrom env.cells names acc)
 | [],acc,_=>by rw [List.forIn_nil];rfl
 | (n,k)::r,acc,h=>by
  rw [List.forIn_cons,hf]
  have ih:=fun acc=>closure_loop env f hf r acc fun y hy=>h y (List.mem_cons_of_mem _ hy)
  unfold cloFrom
  by_cases hk:(k==NameKind.free)=true
  ·rw [if_pos hk,if_pos hk]
   obtain ⟨c,hc⟩:=h (n,k) List.mem_cons_self (by simpa using hk)
   have e:cellOf env n=pure c:=by unfold cellOf;rw [hc]
   rw [e]
   have e2:(env.cells.lookup n).getD 0=c:=by rw [hc];rfl
   rw [e2]
   exact ih _
  ·rw [if_neg hk,if_neg hk]
   exact ih _
theorem closure_ok {scope:Scope}{env:Env} (h:∀ y∈scope.names,y.2=.free→∃ c,env.cells.lookup y.1=some c):closureFor scope env=pure (cloFrom env.cells scope.names []):=by
 simp only [closureFor]
 rw [closure_loop env _ (fun n k c=>rfl) scope.names [] h]
 rfl
theorem mem_lookup {α:Type}:∀ {l:List (Str×α)}{n:Str}{c:α},(n,c)∈l→∃ c',l.lookup n=some c'
 | (k,v)::r,n,c,h=>by
  rw [List.lookup_cons]
  cases hb:n==k with
  | true=>exact ⟨_,rfl⟩
  | false =>
   rcases List.mem_cons.mp h with e | h
   ·cases e;simp at hb
   ·exact mem_lookup h
theorem cloFrom_mem {cells:List (Str×Addr)}:∀ {names:List (Str×NameKind)}{acc:List (Str×Addr)}{n:Str}{c:Addr},(n,c)∈cloFrom cells names acc→(n,c)∈acc∨((n,.free)∈names∧c=(cells.lookup n).getD 0)
 | [],_,_,_,h=>.inl h
 | (m,k)::r,acc,n,c,h=>by
  unfold cloFrom at h
  split at h
  ·rename_i hk
   have hk:k=.free:=by simpa using hk
   rcases cloFrom_mem h with h | ⟨h1,h2⟩
   ·rcases List.mem_cons.mp h with e | h
    ·cases e;exact .inr ⟨hk ▸ List.mem_cons_self,rfl⟩
    ·exact .inl h
   ·exact .inr ⟨List.mem_cons_of_mem _ h1,h2⟩
  ·rcases cloFrom_mem h with h | ⟨h1,h2⟩
   ·exact .inl h
   ·exact .inr ⟨List.mem_cons_of_mem _ h1,h2⟩
theorem cloFrom_acc {cells:List (Str×Addr)}:∀ {names:List (Str×NameKind)}{acc:List (Str×Addr)}{p:Str×Addr},p∈acc→p∈cloFrom cells names acc
 | [],_,_,h=>h
 | (m,k)::r,acc,p,h=>by
  unfold cloFrom
  split
  ·exact cloFrom_acc (List.mem_cons_of_mem _ h)
  ·exact cloFrom_acc h
theorem cloFrom_has {cells:List (Str×Addr)}:∀ {names:List (Str×NameKind)}{acc:List (Str×Addr)}{n:Str},(n,.free)∈names→(n,(cells.lookup n).getD 0)∈cloFrom cells names acc
 | (m,k)::r,acc,n,h=>by
  unfold cloFrom
  rcases List.mem_cons.mp h with e | h
  ·cases e
   exact cloFrom_acc List.mem_cons_self
  ·split
   ·exact cloFrom_has h
   ·exact cloFrom_has h
theorem cells_mem:∀ {names:List (Str×NameKind)}{h:Heap}{acc:List (Str×Addr)}{x:Str}{c:Addr},(x,c)∈cellsFrom h.objs.size names acc →
  (x,c)∈acc∨((x,.cell)∈names∧h.objs.size≤c∧CellAt (pushCells h names) c none)
 | [],_,_,_,_,h=>.inl h
 | (n,k)::r,h,acc,x,c,hm=>by
  unfold cellsFrom at hm
  unfold pushCells
  split at hm
  ·rename_i hk
   rw [if_pos hk]
   have hk:k=.cell:=by simpa using hk
   rw [← Heap.size_push h { cls:=.type "cell",data:=.cell none }] at hm
   rcases cells_mem hm with hm | ⟨h1,h2,h3⟩
   ·rcases List.mem_cons.mp hm with e | hm
    ·cases e
     exact .inr ⟨hk ▸ List.mem_cons_self,Nat.le_refl _,_,pushCells_keeps r _ _ _ (Heap.get?_push_size _ rfl),rfl⟩
    ·exact .inl hm
   ·rw [Heap.size_push] at h2
    exact .inr ⟨List.mem_cons_of_mem _ h1,Nat.le_of_succ_le h2,h3⟩
  ·rename_i hk
   rw [if_neg hk]
   rcases cells_mem hm with hm | ⟨h1,h2,h3⟩
   ·exact .inl hm
   ·exact .inr ⟨List.mem_cons_of_mem _ h1,h2,h3⟩
theorem cells_acc:∀ {names:List (Str×NameKind)}{n:Nat}{acc:List (Str×Addr)}{p:Str×Addr},p∈acc→p∈cellsFrom n names acc
 | [],_,_,_,h=>h
 | (m,k)::r,n,acc,p,h=>by
  unfold cellsFrom
  split
  ·exact cells_acc (List.mem_cons_of_mem _ h)
  ·exact cells_acc h
theorem cells_has:∀ {names:List (Str×NameKind)}{n:Nat}{acc:List (Str×Addr)}{x:Str},(x,.cell)∈names→∃ c,(x,c)∈cellsFrom n names acc
 | (m,k)::r,n,acc,x,h=>by
  unfold cellsFrom
  rcases List.mem_cons.mp h with e | h
  ·cases e
   exact ⟨n,cells_acc List.mem_cons_self⟩
  ·split
   ·exact cells_has h
   ·exact cells_has h
theorem cells_inj:∀ {names:List (Str×NameKind)}{h:Heap}{acc:List (Str×Addr)}{x y:Str}{c:Addr},(∀ p∈acc,p.2<h.objs.size)→(∀ x y c,(x,c)∈acc→(y,c)∈acc→x=y) →
  (x,c)∈cellsFrom h.objs.size names acc→(y,c)∈cellsFrom h.objs.size names acc→x=y
 | [],_,_,_,_,_,_,hi,h1,h2=>hi _ _ _ h1 h2
 | (n,k)::r,h,acc,x,y,c,hl,hi,h1,h2=>by
  unfold cellsFrom at h1 h2
  split at h1
  ·rename_i hk
   rw [if_pos hk] at h2
   rw [← Heap.size_push h { cls:=.type "cell",data:=.cell none }] at h1 h2
   refine cells_inj (h:=h.push _) (fun p hp=>?_) (fun x y c a b=>?_) h1 h2
   ·rw [Heap.size_push]
    rcases List.mem_cons.mp hp with rfl | hp
    ·exact Nat.lt_succ_self _
    ·exact Nat.lt_succ_of_lt (hl p hp)
   ·rcases List.mem_cons.mp a with e | a <;> rcases List.mem_cons.mp b with e' | b
    ·cases e;cases e';rfl
    ·cases e;exact absurd (hl _ b) (Nat.lt_irrefl _)
    ·cases e';exact absurd (hl _ a) (Nat.lt_irrefl _)
    ·exact hi _ _ _ a b
  ·rename_i hk
   rw [if_neg hk] at h2
   exact cells_inj hl hi h1 h2
theorem newEnv_comp {M:Model}{A:Around}{E:Value→Shared→Prop}{s:Shared}{scope:Scope}{globals:Addr}{closure:List (Str×Addr)}{qual:Str}{func:Option Addr}{code:Value}{around:Env}{builtins:Addr}{Q:Env→Shared→Prop}
  (h:Q (newEnv scope s.heap.objs.size globals (cellsFrom (s.heap.objs.size+1) scope.names closure) qual func code (some around) builtins)
   { s with heap:=pushCells (s.heap.push { cls:=.type "dict",data:=.dict #[] }) scope.names }) :
  wpAny M A (newFunctionEnv scope globals closure [] qual func code (some around) builtins) Q E s:=by
 simp only [newFunctionEnv,Option.isSome_some,if_true]
 refine wpAny_bind (wpAny_alloc ?_)
 refine wpAny_bind (wpAny_layCells _ (fun n k c=>rfl) scope.names closure _ _ ?_)
 rw [show ({ s with heap:=s.heap.push { cls:=.type "dict",data:=.dict #[] } }:Shared).heap.objs.size=s.heap.objs.size+1 from Heap.size_push ..]
 rw [List.forIn_nil]
 exact wpAny_bind (wpAny_pure (wpAny_pure h))
theorem lookup_relS {sc:Scope}:∀ {names:List (Str×NameKind)}{x:Str}{k:NameKind},
  (names.map fun (n,k)=>if (k==NameKind.free && sc.kind==.function && sc.names.lookup n==some .cell) then (n,NameKind.cell) else (n,k)).lookup x=some k →
  ∃ k',names.lookup x=some k'∧(k=k'∨(k'=.free∧k=.cell))
 | [],_,_,h=>by simp at h
 | (n,k₀)::r,x,k,h=>by
  have ih:=@lookup_relS sc r x k
  have h':List.lookup x ((if (k₀==NameKind.free && sc.kind==.function && sc.names.lookup n==some .cell)=true then (n,NameKind.cell) else (n,k₀))::(r.map _))=some k:=h
  cases hx:x==n with
  | true =>
   simp only [List.lookup_cons,hx]
   by_cases hc:(k₀==NameKind.free && sc.kind==.function && sc.names.lookup n==some .cell)=true
   ·rw [if_pos hc] at h'
    simp only [List.lookup_cons,hx] at h'
    cases h'
    simp only [Bool.and_eq_true,beq_iff_eq] at hc
    exact ⟨k₀,rfl,.inr ⟨hc.1.1,rfl⟩⟩
   ·rw [if_neg hc] at h'
    simp only [List.lookup_cons,hx] at h'
    cases h'
    exact ⟨_,rfl,.inl rfl⟩
  | false =>
   simp only [List.lookup_cons,hx]
   by_cases hc:(k₀==NameKind.free && sc.kind==.function && sc.names.lookup n==some .cell)=true
   ·rw [if_pos hc] at h'
    simp only [List.lookup_cons,hx] at h'
    exact ih h'
   ·rw [if_neg hc] at h'
    simp only [List.lookup_cons,hx] at h'
    exact ih h'
structure BlkOk (N:List Str) (sc scope:Scope) (own:List (Str×Nat)):Prop where
 kind:scope.kind=.function
 uniq:∀ y∈scope.names,scope.names.lookup y.1=some y.2
 ix:∀ p∈own,N[p.2]?=some p.1
 free:∀ y∈scope.names,y.2=.free→sc.names.lookup y.1=some .cell∨sc.names.lookup y.1=some .free
 own:∀ y∈scope.names,y.2=.local∨y.2=.cell→y.1∈own.map (·.1)∨y.1 ∉ N
def wipe (σ:St):List Nat→St
 | []=>σ
 | v::vs=>(wipe σ vs).set v none
theorem wipe_length (σ:St):∀ vs:List Nat,(wipe σ vs).length=σ.length
 | []=>rfl
 | v::vs=>by unfold wipe;rw [List.length_set,wipe_length σ vs]
theorem wipe_some {σ:St}{i:Nat}{x:V}:∀ {vs:List Nat},(wipe σ vs)[i]?=some (some x)→σ[i]?=some (some x)∧i ∉ vs
 | [],h=>⟨h,by simp⟩
 | v::vs,h=>by
  unfold wipe at h
  by_cases hi:v=i
  ·subst hi
   by_cases hv:v<(wipe σ vs).length
   ·rw [List.getElem?_set_self hv] at h;cases h
   ·rw [List.getElem?_eq_none (by simpa using hv)] at h;cases h
  ·rw [List.getElem?_set_ne hi] at h
   obtain ⟨h1,h2⟩:=wipe_some h
   exact ⟨h1,by simp only [List.mem_cons,not_or];exact ⟨fun e=>hi e.symm,h2⟩⟩
abbrev Cx.blk (X:Cx) (s:Shared) (H:Hp) (scope:Scope) (cenv:Env) (fp:List Addr):Cx:={ X with s_0:=s,H_0:=H,env:=cenv,outer:=X.stack,ex:=fp,fn:=fun x=>scope.names.lookup x==some .cell,pn:=[],xe:=fun _ _=>False }
section
variable {X:Cx}{pins:List (Addr×Obj)}{σ:St}{H:Hp}{s:Shared}
theorem block_start {scope:Scope}{own:List (Str×Nat)}{fp:List Addr} (I:Inv X pins σ H s) (ok:BlkOk X.N X.env.scope scope own) (hN:X.N.Nodup) (hfp:∀ b∈fp,FpOk X pins H b∧b<s.heap.objs.size) :
  Inv (X.blk s H scope (compEnvC scope (cellsFrom (s.heap.objs.size+1) scope.names (cloFrom X.env.cells scope.names [])) s.heap.objs.size X.env) fp) [] (wipe σ (own.map (·.2))) H { s with heap:=pushCells (s.heap.push { cls:=.type "dict",data:=.dict #[] }) scope.names }:=by
 have hfree:∀ y∈scope.names,y.2=.free→∃ c,X.env.cells.lookup y.1=some c:=fun y hy e=>by
  rcases ok.free y hy e with k | k
  ·exact I.ok.has _ (.inl k)
  ·exact I.ok.has _ (.inr k)
 generalize hcenv:compEnvC scope (cellsFrom (s.heap.objs.size+1) scope.names (cloFrom X.env.cells scope.names [])) s.heap.objs.size X.env=cenv
 have kp:∀ b o,s.heap.get? b=some o→(pushCells (s.heap.push { cls:=.type "dict",data:=.dict #[] }) scope.names).get? b=some o:=fun b o e=>pushCells_keeps _ _ _ _ (Heap.get?_push_of_some _ e)
 have hL:cenv.locals=s.heap.objs.size:=by rw [← hcenv];rfl
 have hcl:cenv.cells=cellsFrom (s.heap.objs.size+1) scope.names (cloFrom X.env.cells scope.names []):=by rw [← hcenv];rfl
 have hsc:cenv.scope=relS scope X.env.scope:=by rw [← hcenv];rfl
 rw [← Heap.size_push s.heap { cls:=.type "dict",data:=.dict #[] }] at hcl
 have cm:∀ {y c},(y,c)∈cloFrom X.env.cells scope.names []→X.env.cells.lookup y=some c∧c<s.heap.objs.size:=fun {y c} hm=>by
  rcases cloFrom_mem hm with hm | ⟨h1,rfl⟩
  ·cases hm
  ·obtain ⟨c,hc⟩:=hfree _ h1 rfl
   rw [hc]
   obtain ⟨w,z⟩:=I.cell _ _ hc
   exact ⟨rfl,z.lt⟩
 have mem:∀ {y c},cenv.cells.lookup y=some c→(X.env.cells.lookup y=some c∧c<s.heap.objs.size)∨(s.heap.objs.size+1≤c∧CellAt (pushCells (s.heap.push { cls:=.type "dict",data:=.dict #[] }) scope.names) c none):=fun {y c} e=>by
  rw [hcl] at e
  rcases cells_mem (PySem.mem_of_lookup e) with hm | ⟨_,h2,h3⟩
  ·exact .inl (cm hm)
  ·rw [Heap.size_push] at h2;exact .inr ⟨h2,h3⟩
 have look:∀ {y},scope.names.lookup y=some .free→∃ c,cenv.cells.lookup y=some c∧X.env.cells.lookup y=some c:=fun {y} hl=>by
  have hy:(y,NameKind.free)∈scope.names:=PySem.mem_of_lookup hl
  obtain ⟨c',e'⟩:=mem_lookup (cells_acc (names:=scope.names) (n:=(s.heap.push { cls:=.type "dict",data:=.dict #[] }).objs.size) (cloFrom_has (cells:=X.env.cells) (acc:=[]) hy))
  rw [← hcl] at e'
  refine ⟨c',e',?_⟩
  rw [hcl] at e'
  rcases cells_mem (PySem.mem_of_lookup e') with hm | ⟨h1,_,_⟩
  ·exact (cm hm).1
  ·have:=ok.uniq _ h1
   rw [hl] at this;cases this
 have okB:(X.blk s H scope cenv fp).Ok:=by
  refine ⟨I.ok.mod,by show cenv.scope.kind=_;rw [hsc];exact ok.kind,by show cenv.globals=_;rw [← hcenv];exact I.ok.glob,by show cenv.builtins=_;rw [← hcenv];exact I.ok.blt,by show s.heap.objs.size≤cenv.locals;rw [hL];exact Nat.le_refl _,
   fun y z c e1 e2=>?_,fun y hy=>?_,fun y c z e=>?_,I.ok.hd,I.ok.frames,.inl rfl,fun b hb=>⟨?_,fun y c e z=>?_⟩,I.bs,Nat.le_trans I.ok.bsz I.sz,fun b o e hb=>?_,fun b hb z=>?_,I.stack,I.stkFree⟩
  ·have e1:cenv.cells.lookup y=some c:=e1
   have e2:cenv.cells.lookup z=some c:=e2
   rw [hcl] at e1 e2
   refine cells_inj (fun p hp=>?_) (fun y z c a b=>I.ok.inj y z c (cm a).1 (cm b).1) (PySem.mem_of_lookup e1) (PySem.mem_of_lookup e2)
   rw [Heap.size_push]
   exact Nat.lt_succ_of_lt (cm (y:=p.1) (c:=p.2) hp).2
  ·show ∃ c,cenv.cells.lookup y=some c
   have key:∀ k,cenv.kindOf y=some k→(k=.cell∨k=.free)→∃ c,cenv.cells.lookup y=some c:=fun k hk hk'=>by
    unfold Env.kindOf at hk
    rw [hsc] at hk
    obtain ⟨k',e,r⟩:=lookup_relS hk
    have:k'=.cell∨k'=.free:=by
     rcases r with rfl | ⟨rfl,_⟩
     ·exact hk'
     ·exact .inr rfl
    rcases this with rfl | rfl
    ·obtain ⟨c,hm⟩:=cells_has (n:=(s.heap.push { cls:=.type "dict",data:=.dict #[] }).objs.size) (acc:=cloFrom X.env.cells scope.names []) (PySem.mem_of_lookup e)
     obtain ⟨c',e'⟩:=mem_lookup hm
     exact ⟨c',by rw [hcl];exact e'⟩
    ·obtain ⟨c,h1,_⟩:=look e
     exact ⟨c,h1⟩
   rcases hy with hy | hy
   ·exact key _ hy (.inl rfl)
   ·exact key _ hy (.inr rfl)
  ·have z:(scope.names.lookup y==some NameKind.cell)=true:=z
   have z:scope.names.lookup y=some .cell:=by simpa using z
   have e:cenv.cells.lookup y=some c:=e
   rw [hcl] at e
   rcases cells_mem (PySem.mem_of_lookup e) with hm | ⟨_,h2,_⟩
   ·rcases cloFrom_mem hm with hm | ⟨h1,_⟩
    ·cases hm
    ·have q:=ok.uniq _ h1
     rw [z] at q;cases q
   ·rw [Heap.size_push] at h2
    exact Nat.le_of_succ_le h2
  ·show b≠cenv.locals
   rw [hL];exact Nat.ne_of_lt (hfp b hb).2
  ·have e:cenv.cells.lookup y=some c:=e
   rcases mem e with ⟨h1,_⟩ | ⟨h1,_⟩
   ·exact (hfp b hb).1.2.2.2.2.1 y c h1 z
   ·have h2:s.heap.objs.size+1≤b:=by rw [← z];exact h1
    exact absurd (Nat.lt_of_lt_of_le (hfp b hb).2 (Nat.le_of_succ_le h2)) (Nat.lt_irrefl _)
  ·rcases (hfp b hb).1.2.2.2.1 with z | z
   ·exact I.ok.noex b o e z
   ·exact absurd (Nat.lt_of_lt_of_le (Heap.lt_size e) (Nat.le_trans I.ok.bsz z)) (Nat.lt_irrefl _)
  ·rcases List.mem_cons.mp (I.stkSub b z) with z | z
   ·exact (hfp b hb).1.2.1 z
   ·exact (hfp b hb).1.2.2.1 z
 refine ⟨okB,rfl,I.bare,Un.kept kp,⟨fun _=>none,?_,fun i y av e1 e2 e3=>?_⟩,fun y c e=>?_,?_,fun y c e=>?_,fun p hp=>?_,I.hok.kept kp,by rw [wipe_length];exact I.len⟩
 ·show Heap.Ns _ cenv.locals _
  rw [hL]
  exact Heap.Ns.keeps (Heap.Ns.new ..) fun b o e=>pushCells_keeps _ _ _ _ e
 ·obtain ⟨e2,hne⟩:=wipe_some e2
  have hfr:scope.names.lookup y=some .free∧(cenv.kindOf y=some .cell∨cenv.kindOf y=some .free):=by
   have key:∀ k,cenv.scope.names.lookup y=some k→k=.local∨k=.cell∨k=.free→scope.names.lookup y=some .free∧(cenv.kindOf y=some .cell∨cenv.kindOf y=some .free):=fun k hk hk'=>by
    have hk0:=hk
    rw [hsc] at hk
    obtain ⟨k',e,r⟩:=lookup_relS hk
    have no:¬ (k'=.local∨k'=.cell):=fun hh=>by
     rcases ok.own _ (PySem.mem_of_lookup e) hh with e' | e'
     ·obtain ⟨p,hp,hpy⟩:=List.mem_map.mp e'
      have e3:=ok.ix p hp
      have:p.1=y:=hpy
      rw [this] at e3
      exact hne (List.mem_map.mpr ⟨p,hp,nodup_ix hN e3 e1⟩)
     ·exact e' (List.mem_of_getElem? e1)
    rcases r with rfl | ⟨rfl,rfl⟩
    ·rcases hk' with rfl | rfl | rfl
     ·exact absurd (.inl rfl) no
     ·exact absurd (.inr rfl) no
     ·exact ⟨e,.inr hk0⟩
    ·exact ⟨e,.inl hk0⟩
   have e3:Vis cenv.scope y:=e3
   rcases e3 with e3 | e3 | e3
   ·exact key _ e3 (.inl rfl)
   ·exact key _ e3 (.inr (.inl rfl))
   ·exact key _ e3 (.inr (.inr rfl))
  obtain ⟨m,hn,hl⟩:=I.loc
  have hvis:Vis X.env.scope y:=(ok.free _ (PySem.mem_of_lookup hfr.1) rfl).elim (fun k=>.inr (.inl k)) (fun k=>.inr (.inr k))
  obtain ⟨w,r,q⟩:=hl i y av e1 e2 hvis
  refine ⟨w,r,.inr ⟨hfr.2,?_⟩⟩
  obtain ⟨c,h1,h2⟩:=look hfr.1
  rcases q with ⟨k,_⟩ | ⟨_,c',e',z⟩
  ·have k:X.env.scope.names.lookup y=some .local:=k
   rcases ok.free _ (PySem.mem_of_lookup hfr.1) rfl with k' | k' <;> rw [show X.env.scope.names.lookup y=_ from k'] at k <;> cases k
  ·rw [h2] at e';cases e'
   exact ⟨c,h1,z.keeps kp⟩
 ·have e:cenv.cells.lookup y=some c:=e
  rcases mem e with ⟨h1,_⟩ | ⟨_,z⟩
  ·obtain ⟨w,z⟩:=I.cell y c h1
   exact ⟨w,z.keeps kp⟩
  ·exact ⟨_,z⟩
 ·show H cenv.locals=none
  rw [hL];exact I.hok.fresh (Nat.le_refl _)
 ·have e:cenv.cells.lookup y=some c:=e
  rcases mem e with ⟨h1,_⟩ | ⟨h1,_⟩
  ·exact I.freeC y c h1
  ·exact I.hok.fresh (Nat.le_of_succ_le h1)
 ·exact absurd (show p∈([]:List (Addr×Obj))++[] from hp) (by simp)
theorem app_ok {E:Value→Shared→Prop}{D:Addr}{xs:List V}{y:V}{v:Value}{Q:Value→Shared→Prop} (I:Inv X pins σ H s) (hD:H D=some (.lst xs)) (hz:xs.length<sizeLine) (r:RelV y v)
  (h:∀ s',Inv X pins σ (upd H D (.lst (xs++[y]))) s'→Q .none s'):wpAny (model X.prog X.w) X.A (call (.builtin "list.append") [.ref D,v]) Q E s:=by
 obtain ⟨hz',its,n,ri,e⟩:=I.hok D _ hD
 have hl:=ri.length
 refine append_at (hsz:=by rw [List.size_toArray];omega) e fun h' sb ho'=>?_
 refine h { s with heap:=h' } (I.write (t':=s.toks) (by rw [hD];trivial) (.inl rfl) (fun b u hb q=>(sb.2 b hb).trans q) ⟨_,ho'⟩ ⟨by rw [List.length_append];exact hz,its++[v],n+1,ri.append (.cons r .nil),?_⟩)
 rw [ho']
 simp
def PTs (X:Cx) (ifs:List Expr) (t:TT):Prop :=
 ∀ (pins:List (Addr×Obj)) (s:Shared) (σ:St) (H:Hp) (Q:Bool→Hp→Prop),Inv X pins σ H s→t σ H Q →
  wpAny (model X.prog X.w) X.A (forIn ifs true fun c r=>if r=true then do let ok ← isTrue c X.env (eval c X.env);pure (ForInStep.yield ok) else pure (ForInStep.yield r)) (TP X pins σ Q) X.xe s
def tYes:TT:=fun _ H Q=>Q true H
theorem pts_nil:PTs X [] tYes:=fun _ _ _ H _ I h=>wpAny_tests_nil ⟨H,I,h⟩
end
theorem thnF {α:Type}{t:Sem α}{Q Q':α→Shared→Prop}{M:Model}{A:Around}{E:Value→Shared→Prop}{s:Shared} (h:wpAny M A t Q (fun _ _=>False) s) (hQ:∀ a s,Q a s→Q' a s):wpAny M A t Q' E s:=wpAny_mono h hQ fun _ _ z=>False.elim z
theorem compLoop_any {prog:Program}{w:World}{A:Around}{R:Result→Shared→Prop}{s:Shared}{elt target iter:Expr}{ifs:List Expr}{scope:Scope}{pos:Pos}{it acc:Value}{env:Env} (I:Nat→Shared→Prop)
  (turn:∀ n s,I n s→wpAny (model prog w) A (pyNext it) (fun r s₁=>match r with
   | none=>R (.ok .next) s₁
   | some v=>wpAny (model prog w) A (letOwnedTupleGo target it v) (fun _ s₁'=>wpAny (model prog w) A (assign target env v) (fun _ s₂ =>
     wpAny (model prog w) A (forIn ifs true fun c r=>if r=true then do let ok ← isTrue c env (eval c env);pure (ForInStep.yield ok) else pure (ForInStep.yield r)) (fun ok s₃ =>
      if ok=true then wpAny (model prog w) A (eval elt env) (fun x s₄ =>
       wpAny (model prog w) A (call (.builtin "list.append") [acc,x]) (fun _ s₅=>∃ m,m<n∧I m s₅) (notedBy (model prog w) A env fun e s'=>R (.error e) s') s₄) (notedBy (model prog w) A env fun e s'=>R (.error e) s') s₃
      else ∃ m,m<n∧I m s₃) (notedBy (model prog w) A env fun e s'=>R (.error e) s') s₂) (notedBy (model prog w) A env fun e s'=>R (.error e) s') s₁') (notedBy (model prog w) A env fun e s'=>R (.error e) s') s₁) (notedBy (model prog w) A env fun e s'=>R (.error e) s') s)
  (n:Nat) (h:I n s) :
  codeAny (model prog w) A (.compLoop (.ListComp elt [⟨target,iter,ifs,0⟩] scope pos) 0 it acc env) R s:=by
 refine codeAny_loop rfl I (fun n s hI=>?_) n h
 show wpAny _ A ((compTurn (.ListComp elt [⟨target,iter,ifs,0⟩] scope pos) 0 it acc env).onRaise (fun x=>do noteFrame x env;theTreesLotGoes x)) _ _ s
 refine wpAny_noted ?_
 rw [compTurn_list]
 refine wpAny_bind (wpAny_standAt (wpAny_bind (wpAny_mono (turn n s hI) (fun r s₁ h₁=>?_) fun _ _ h'=>h')))
 cases r with
 | none=>exact wpAny_pure h₁
 | some v =>
  refine wpAny_bind (wpAny_mono h₁ (fun _ s₁' h₁'=>?_) fun _ _ h'=>h')
  refine wpAny_bind (wpAny_mono h₁' (fun _ s₂ h₂=>wpAny_bind (wpAny_mono h₂ (fun ok s₃ h₃=>?_) fun _ _ h'=>h')) fun _ _ h'=>h')
  cases ok with
  | false=>exact wpAny_pure ⟨rfl,h₃⟩
  | true =>
   exact wpAny_bind (wpAny_bind (wpAny_mono h₃ (fun x s₄ h₄=>wpAny_bind (wpAny_mono h₄ (fun _ s₅ h₅=>wpAny_pure (wpAny_pure ⟨rfl,h₅⟩)) fun _ _ h'=>h')) fun _ _ h'=>h'))
section
variable {X:Cx}
def tLc (wi:TI) (g:TG) (tt:TT) (te:TE) (vs:List Nat):TE:=fun σ H Q=>wi σ H fun J H1=>∀ D,H1 D=none→∃ W:Nat→Nat→Hp→Prop,(∃ m,W 0 m (upd H1 D (.lst [])))∧∀ i m H,W i m H →
 (J.stop i H∧Q (.ref D) H)∨(J.go i H∧∃ Nx:Hp→Prop,(∀ H',Nx H'→∃ m',m' < m∧W (i+1) m' H')∧∀ x H',J.yld i H x H'→g x (wipe σ vs) H' fun σ2 H2=>wipe σ2 vs=wipe σ vs∧tt σ2 H2 fun b H3 =>
  if b=true then te σ2 H3 fun y H4=>∃ acc,H4 D=some (.lst acc)∧acc.length<sizeLine∧Nx (upd H4 D (.lst (acc++[y]))) else Nx H3)
theorem lc_core {pins:List (Addr×Obj)}{s:Shared}{σ:St}{H:Hp}{Q:VK}{elt tg iter:Expr}{ifs:List Expr}{scope:Scope}{own:List (Str×Nat)}{pos pos':Pos}{wi:TI}{g:TG}{tt:TT}{te:TE}{use:Option (Value→Sem Unit)}{Qf:Value→Shared→Prop}
  (hc:X.calm=true) (hN:X.N.Nodup) (I:Inv X pins σ H s) (hi:PI X tg iter wi) (ok:BlkOk X.N X.env.scope scope own)
  (hg:∀ (s:Shared) (H:Hp) (C:Addr) (cl:List (Str×Addr)) (fp:List Addr),PG (X.blk s H scope (compEnvC scope cl C X.env) fp) tg g) (ht:∀ (s:Shared) (H:Hp) (C:Addr) (cl:List (Str×Addr)) (fp:List Addr),PTs (X.blk s H scope (compEnvC scope cl C X.env) fp) ifs tt)
  (he:∀ (s:Shared) (H:Hp) (C:Addr) (cl:List (Str×Addr)) (fp:List Addr),PE (X.blk s H scope (compEnvC scope cl C X.env) fp) elt te) (hs:∀ x,foldedSetIterable iter X.env x=pure x)
  (h:tLc wi g tt te (own.map (·.2)) σ H Q)
  (hRR:∀ D C s' m H',Inv X pins σ H' s'→Q (.ref D) H'→s'.heap.Ns C m→FpOk X pins H' C→compPost (model X.prog X.w) X.A X.xe use Qf (.ref D) C (.ok .next) s') :
  wpAny (model X.prog X.w) X.A (comprehension (.ListComp elt [⟨tg,iter,ifs,0⟩] scope pos) scope X.env pos' (newList []) false (eval iter X.env) use) Qf X.xe s:=by
 have hfree:∀ y∈scope.names,y.2=.free→∃ c,X.env.cells.lookup y.1=some c:=fun y hy e=>by
  rcases ok.free y hy e with k | k
  ·exact I.ok.has _ (.inl k)
  ·exact I.ok.has _ (.inr k)
 refine wpAny_comprehension_free (use:=use) rfl hs (closure_ok hfree) ok.kind (fun y hy e=>by rw [ok.uniq y hy,e])
  (thn (hi pins s σ H _ I h) fun xv s1 hx=>thn hx fun itv s2 h2=>?_)
 obtain ⟨it,fp,tn,J,H2,e,I2,T,st2,f2,q⟩:=h2
 subst e
 refine wpAny_newObj_type (newEnv_comp ?_) (by show 0≤sizeLine;decide)
 generalize hD:s2.heap.objs.size=D
 have hDn:H2 D=none:=I2.hok.fresh (Nat.le_of_eq hD)
 obtain ⟨W,⟨m0,w0⟩,turn⟩:=q D hDn
 -- the new list
 generalize hs3:({ s2 with heap:=s2.heap.push { cls:=.type "list",data:=.seq ([]:List Value).toArray } }:Shared)=s3
 have I3:Inv X pins σ (upd H2 D (.lst [])) s3:=by
  rw [← hs3]
  refine I2.laid (t':=s2.toks) (fun b o e=>Heap.get?_push_of_some _ e) (Nat.le_of_eq hD) ⟨Nat.zero_le _,[],0,.nil,?_⟩
  rw [← hD]
  exact Heap.get?_push_size _ rfl
 have h3:s3.heap=s2.heap.push { cls:=.type "list",data:=.seq ([]:List Value).toArray }:=by rw [← hs3]
 have sz:∀ b∈fp,b<s2.heap.objs.size:=fun b hb=>by
  obtain ⟨o,e,_⟩:=T.obj _ _ st2 b hb
  exact Heap.lt_size e
 have f3:∀ b∈fp,FpOk X pins (upd H2 D (.lst [])) b∧b<s3.heap.objs.size:=fun b hb=>by
  have hlt:=sz b hb
  refine ⟨⟨?_,(f2 b hb).2⟩,by rw [h3,Heap.size_push];exact Nat.lt_succ_of_lt hlt⟩
  rw [upd_ne (by rw [← hD];exact Nat.ne_of_lt hlt)]
  exact (f2 b hb).1
 have st3:tn 0 s3.heap:=T.keep _ _ _ st2 fun b _ o e=>by rw [h3];exact Heap.get?_push_of_some _ e
 have I4:=block_start I3 ok hN f3
 have pg:=hg s3 (upd H2 D (.lst [])) s3.heap.objs.size (cellsFrom (s3.heap.objs.size+1) scope.names (cloFrom X.env.cells scope.names [])) fp
 have pt:=ht s3 (upd H2 D (.lst [])) s3.heap.objs.size (cellsFrom (s3.heap.objs.size+1) scope.names (cloFrom X.env.cells scope.names [])) fp
 have pe:=he s3 (upd H2 D (.lst [])) s3.heap.objs.size (cellsFrom (s3.heap.objs.size+1) scope.names (cloFrom X.env.cells scope.names [])) fp
 show codeAny _ _ (.compStart (.ListComp elt [⟨tg,iter,ifs,0⟩] scope pos) 0 (.ref it) (.ref D) (compEnvC scope (cellsFrom (s3.heap.objs.size+1) scope.names (cloFrom X.env.cells scope.names [])) s3.heap.objs.size X.env)) (compPost (model X.prog X.w) X.A X.xe use Qf (.ref D) s3.heap.objs.size) { s3 with heap:=pushCells (s3.heap.push { cls:=.type "dict",data:=.dict #[] }) scope.names }
 have nfp:∀ b∈fp,(upd H2 D (.lst [])) b=none:=fun b hb=>(f3 b hb).1.1
 generalize hce:compEnvC scope (cellsFrom (s3.heap.objs.size+1) scope.names (cloFrom X.env.cells scope.names [])) s3.heap.objs.size X.env=ce at I4 pg pt pe ⊢
 have cL:ce.locals=s3.heap.objs.size:=by subst hce;rfl
 generalize hH3:upd H2 D (.lst [])=H3 at I3 I4 pg pt pe w0 nfp f3
 generalize hs4:({ s3 with heap:=pushCells (s3.heap.push { cls:=.type "dict",data:=.dict #[] }) scope.names }:Shared)=s4 at I4 ⊢
 have st4:tn 0 s4.heap:=T.keep _ _ _ st3 fun b _ o e=>by rw [← hs4];exact pushCells_keeps _ _ _ _ (Heap.get?_push_of_some _ e)
 have stat:∀ {σ':St}{H':Hp}{s':Shared},Inv (X.blk s3 H3 scope ce fp) [] σ' H' s'→(∀ b∈fp,H' b=none)→∀ b∈fp,FpOk (X.blk s3 H3 scope ce fp) [] H' b:=fun {σ' H' s'} I' hn b hb =>
  ⟨hn b hb,(I'.ok.exf b hb).1,I'.ok.exfs b hb,.inl hb,fun x c e=>(I'.ok.exf b hb).2 x c e,fun p hp=>absurd (show p∈([]:List (Addr×Obj))++[] from hp) (by simp)⟩
 have loop:codeAny (model X.prog X.w) X.A (.compLoop (.ListComp elt [⟨tg,iter,ifs,0⟩] scope pos) 0 (.ref it) (.ref D) ce) (compPost (model X.prog X.w) X.A X.xe use Qf (.ref D) s3.heap.objs.size) s4:=by
  refine compLoop_any (fun n s'=>∃ i H',Inv (X.blk s3 H3 scope ce fp) [] (wipe σ (own.map (·.2))) H' s'∧tn i s'.heap∧(∀ b∈fp,H' b=none)∧W i n H') ?_ m0 ⟨0,H3,I4,st4,nfp,w0⟩
  rintro n s5 ⟨i,H5,I5,st5,n5,w5⟩
  rcases turn i n H5 w5 with ⟨stop,qq⟩ | ⟨go,Nx,hNx,step⟩
  ·have td:=T.done (X.blk s3 H3 scope ce fp) rfl rfl rfl hc i [] s5 _ H5 (fun _ _=>False) I5 (stat I5 n5) st5 stop
   refine thnF td fun r s6 ⟨hr,I6⟩=>?_
   subst hr
   -- back in the def's context
   have I7:Inv X pins σ H5 s6:=I3.call' (ch:=fp) I6.os I6.base I6.hok I6.bare fun b hb=>⟨(f3 b hb).1.2.2.2.1,(f3 b hb).1.2.1,(f3 b hb).1.2.2.2.2.1,(f3 b hb).1.2.2.2.2.2⟩
   have nC:H5 s3.heap.objs.size=none:=by
    have z:H5 ce.locals=none:=I6.free
    rw [cL] at z
    exact z
   obtain ⟨m,hn,_⟩:=I6.loc
   have hn:s6.heap.Ns ce.locals m:=hn
   rw [cL] at hn
   exact hRR D s3.heap.objs.size s6 m H5 I7 qq hn (I3.fpOk (Nat.le_refl _) nC)
  ·have ti:=T.item (X.blk s3 H3 scope ce fp) rfl rfl rfl hc i [] s5 _ H5 (fun _ _=>False) I5 (stat I5 n5) st5 go
   refine thnF ti fun r s6 ⟨u,hr,h6⟩=>?_
   subst hr
   refine thnF h6 fun _ s7 ⟨x,H7,I7,r7,y7,st7,n7⟩=>?_
   have I7':=I7.pinned (stat I7 n7) (T.obj _ _ st7)
   refine thnF (pg _ s7 _ H7 x u _ I7' r7 (step x H7 y7)) fun _ s8 ⟨σ8,H8,I8,hw8,q8⟩=>?_
   refine thnF (pt _ s8 σ8 H8 _ I8 q8) fun b s9 ⟨H9,I9,q9⟩=>?_
   -- the turn's end
   have fin:∀ {s':Shared}{H':Hp},Inv (X.blk s3 H3 scope ce fp) ([]++pinsAt fp s7.heap) σ8 H' s'→Nx H'→∃ m,m<n∧∃ i H',Inv (X.blk s3 H3 scope ce fp) [] (wipe σ (own.map (·.2))) H' s'∧tn i s'.heap∧(∀ b∈fp,H' b=none)∧W i m H':=fun {s' H'} I' nx=>by
    obtain ⟨m',hm,w'⟩:=hNx H' nx
    have pin':∀ b∈fp,∀ o,s7.heap.get? b=some o→s'.heap.get? b=some o∧H' b=none:=fun b hb o e =>
     let z:=I'.pin (b,o) (List.mem_append_right _ (List.mem_append_right _ (mem_pinsAt hb e)))
     ⟨z.1,z.2.1⟩
    have hl:(wipe σ (own.map (·.2))).length=σ8.length:=by rw [← hw8,wipe_length]
    refine ⟨m',hm,i+1,H',(I'.unpinned (pins:=[])).weak hl (fun j v e=>?_),T.keep _ _ _ st7 fun b hb o e=>(pin' b hb o e).1,fun b hb=>?_,w'⟩
    ·rw [← hw8] at e
     exact (wipe_some e).1
    ·obtain ⟨o,e,_⟩:=T.obj _ _ st7 b hb
     exact (pin' b hb o e).2
   cases b with
   | false =>
    simp only [Bool.false_eq_true,if_false] at q9 ⊢
    exact fin I9 q9
   | true =>
    simp only [if_true] at q9 ⊢
    refine thnF (pe _ s9 σ8 H9 _ I9 q9) fun z s10 ⟨yv,H10,I10,r10,acc,hD10,hz10,nx⟩=>?_
    exact app_ok (X:=X.blk s3 H3 scope ce fp) I10 hD10 hz10 r10 fun s11 I11=>fin I11 nx
 exact codeAny_compStart_list loop (T.self X.A 0 _ _ _ st4 loop)
theorem pe_lc {elt tg iter:Expr}{ifs:List Expr}{scope:Scope}{own:List (Str×Nat)}{pos:Pos}{wi:TI}{g:TG}{tt:TT}{te:TE} (hc:X.calm=true) (hN:X.N.Nodup) (hi:PI X tg iter wi) (ok:BlkOk X.N X.env.scope scope own)
  (hg:∀ (s:Shared) (H:Hp) (C:Addr) (cl:List (Str×Addr)) (fp:List Addr),PG (X.blk s H scope (compEnvC scope cl C X.env) fp) tg g) (ht:∀ (s:Shared) (H:Hp) (C:Addr) (cl:List (Str×Addr)) (fp:List Addr),PTs (X.blk s H scope (compEnvC scope cl C X.env) fp) ifs tt)
  (he:∀ (s:Shared) (H:Hp) (C:Addr) (cl:List (Str×Addr)) (fp:List Addr),PE (X.blk s H scope (compEnvC scope cl C X.env) fp) elt te) (hs:∀ x,foldedSetIterable iter X.env x=pure x:=by intro _;rfl) :
  PE X (.ListComp elt [⟨tg,iter,ifs,0⟩] scope pos) (tLc wi g tt te (own.map (·.2))):=by
 intro pins s σ H Q I h
 rw [eval_ListComp]
 refine lc_core hc hN I hi ok hg ht he hs h fun D C s' m H' I' q hn f=>⟨m,hn,fun h'' sb=>?_⟩
 obtain ⟨f0,f1,f2,f3,f4,f5⟩:=f
 exact ⟨.ref D,H',I'.turned (t':=s'.toks) (fun b o hb e=>(sb.2 b hb).trans e) f0 f1 f3 f4 f5,rfl,q⟩
theorem ps_setLc {i:Nat}{y:Str}{py:Pos}{elt tg iter:Expr}{ifs:List Expr}{scope:Scope}{own:List (Str×Nat)}{pos spos:Pos}{wi:TI}{g:TG}{tt:TT}{te:TE} (hc:X.calm=true) (hN:X.N.Nodup) (hy:X.N[i]?=some y) (hyl:X.env.scope.names.lookup y=some .local)
  (hsw:swapsWith (.ListComp elt [⟨tg,iter,ifs,0⟩] scope pos) (some (.Name y py)) spos.line X.env=pure true) (hi:PI X tg iter wi) (ok:BlkOk X.N X.env.scope scope own)
  (hg:∀ (s:Shared) (H:Hp) (C:Addr) (cl:List (Str×Addr)) (fp:List Addr),PG (X.blk s H scope (compEnvC scope cl C X.env) fp) tg g) (ht:∀ (s:Shared) (H:Hp) (C:Addr) (cl:List (Str×Addr)) (fp:List Addr),PTs (X.blk s H scope (compEnvC scope cl C X.env) fp) ifs tt)
  (he:∀ (s:Shared) (H:Hp) (C:Addr) (cl:List (Str×Addr)) (fp:List Addr),PE (X.blk s H scope (compEnvC scope cl C X.env) fp) elt te) (hs:∀ x,foldedSetIterable iter X.env x=pure x:=by intro _;rfl) :
  PS X (.Assign [.Name y py] (.ListComp elt [⟨tg,iter,ifs,0⟩] scope pos) spos) (tAsg (tLc wi g tt te (own.map (·.2))) (gName i)):=by
 intro pins s σ H D I h
 rw [exec_Assign_Name_used _ _ _ _ hsw]
 refine wpAny_bind (wpAny_standAt (wpAny_bind ?_))
 show wpAny _ X.A (do let _ ← comprehension (.ListComp elt [⟨tg,iter,ifs,0⟩] scope pos) scope X.env (firstIterPos [⟨tg,iter,ifs,0⟩] pos) (newList []) false (eval iter X.env) (some (assign (.Name y py) X.env))) _ _ s
 have h:tLc wi g tt te (own.map (·.2)) σ H (fun x H1=>gName i x σ H1 D.nx):=h
 refine wpAny_bind (thn (lc_core (Qf:=fun _ s'=>SP X pins D .next s') hc hN I hi ok hg ht he hs h fun L C s' m H' I' q hn f=>?_) fun _ s' hq=>wpAny_pure (wpAny_pure hq))
 show wpAny _ _ (assign (.Name y py) X.env (.ref L)) _ _ _
 refine wpAny_assign_Name (store_ok2 (v:=V.ref L) I' hN hy (.inl hyl) rfl (fun s2 I2 ⟨a,sb,ha⟩=>?_) (.inr hyl))
 obtain ⟨f0,f1,f2,f3,f4,f5⟩:=f
 have haC:C≠a:=by
  rcases ha with z | z
  ·rw [z];exact f1
  ·exact fun e=>f4 y a z e.symm
 refine ⟨m,hn.sameBut sb haC,fun h3 sb3=>?_⟩
 exact ⟨_,H',I2.turned (t':=s2.toks) (fun b o hb e=>(sb3.2 b hb).trans e) f0 f1 f3 f4 f5,q⟩
theorem sw_true {elt:Expr}{gs:List Comprehension}{scope:Scope}{pos py:Pos}{y:Str}{l:Nat}{env:Env} (hk:env.scope.kind=.function) (hy:env.scope.names.lookup y=some .local) (hl:(py.line==pos.line)=true)
  (ha:(scope.names.any fun (n,k)=>n==y && (k==.local || k==.cell))=false):swapsWith (.ListComp elt gs scope pos) (some (.Name y py)) l env=pure true:=by
 have ky:env.kindOf y=some .local:=hy
 have hb:env.blockKind=.function:=by unfold Env.blockKind;rw [hk];rfl
 unfold swapsWith
 simp only [hb,ky,ha,Expr.pos,hl]
 rfl
end
theorem lc_range {lo:Int}{n:Nat}{g:TG}{tt:TT}{te:TE}{vs:List Nat}{σ:St}{H1:Hp}{D:Addr}{Qd:Hp→Prop} (Pv:Nat→Hp→Prop) (h0:Pv 0 (upd H1 D (.lst [])))
  (hs:∀ i H,i<n→Pv i H→g (.int (lo+i)) (wipe σ vs) H fun σ2 H2=>wipe σ2 vs=wipe σ vs∧tt σ2 H2 fun b H3 =>
   if b=true then te σ2 H3 fun y H4=>∃ acc,H4 D=some (.lst acc)∧acc.length<sizeLine∧Pv (i+1) (upd H4 D (.lst (acc++[y]))) else Pv (i+1) H3) (hd:∀ H,Pv n H→Qd H) :
  ∃ W:Nat→Nat→Hp→Prop,(∃ m,W 0 m (upd H1 D (.lst [])))∧∀ i m H,W i m H →
   ((Itr lo n).stop i H∧Qd H)∨((Itr lo n).go i H∧∃ Nx:Hp→Prop,(∀ H',Nx H'→∃ m',m' < m∧W (i+1) m' H')∧∀ x H',(Itr lo n).yld i H x H'→g x (wipe σ vs) H' fun σ2 H2=>wipe σ2 vs=wipe σ vs∧tt σ2 H2 fun b H3 =>
    if b=true then te σ2 H3 fun y H4=>∃ acc,H4 D=some (.lst acc)∧acc.length<sizeLine∧Nx (upd H4 D (.lst (acc++[y]))) else Nx H3):=by
 refine ⟨fun i m H=>m=n-i∧i≤n∧Pv i H,⟨n,by simp,Nat.zero_le _,h0⟩,?_⟩
 rintro i m H ⟨rfl,hi,p⟩
 by_cases hlt:i<n
 ·refine .inr ⟨hlt,Pv (i+1),fun H' p'=>⟨n-(i+1),by omega,rfl,hlt,p'⟩,fun x H' y=>?_⟩
  obtain ⟨e,y⟩:=y
  subst e y
  exact hs i _ hlt p
 ·have e:i=n:=by omega
  subst e
  exact .inl ⟨Nat.le_refl _,hd H p⟩
theorem lc_list {K:PySem.W.Frag}{a:Addr}{xs:List V}{g:TG}{tt:TT}{te:TE}{vs:List Nat}{σ:St}{H1:Hp}{D:Addr}{Qd:Hp→Prop} (Pv:Nat→Hp→Prop) (h0:Pv 0 (upd H1 D (.lst []))) (hl:∀ i H,i≤xs.length→Pv i H→SqL K H a xs)
  (hs:∀ i x H,xs[i]?=some x→Pv i H→g x (wipe σ vs) H fun σ2 H2=>wipe σ2 vs=wipe σ vs∧tt σ2 H2 fun b H3 =>
   if b=true then te σ2 H3 fun y H4=>∃ acc,H4 D=some (.lst acc)∧acc.length<sizeLine∧Pv (i+1) (upd H4 D (.lst (acc++[y]))) else Pv (i+1) H3) (hd:∀ H,Pv xs.length H→Qd H) :
  ∃ W:Nat→Nat→Hp→Prop,(∃ m,W 0 m (upd H1 D (.lst [])))∧∀ i m H,W i m H →
   ((Itl K a).stop i H∧Qd H)∨((Itl K a).go i H∧∃ Nx:Hp→Prop,(∀ H',Nx H'→∃ m',m' < m∧W (i+1) m' H')∧∀ x H',(Itl K a).yld i H x H'→g x (wipe σ vs) H' fun σ2 H2=>wipe σ2 vs=wipe σ vs∧tt σ2 H2 fun b H3 =>
    if b=true then te σ2 H3 fun y H4=>∃ acc,H4 D=some (.lst acc)∧acc.length<sizeLine∧Nx (upd H4 D (.lst (acc++[y]))) else Nx H3):=by
 refine ⟨fun i m H=>m=xs.length-i∧i≤xs.length∧Pv i H,⟨xs.length,by simp,Nat.zero_le _,h0⟩,?_⟩
 rintro i m H ⟨rfl,hi,p⟩
 have q:=hl i H hi p
 by_cases hlt:i<xs.length
 ·refine .inr ⟨⟨xs,xs[i],q,by simp [hlt]⟩,Pv (i+1),fun H' p'=>⟨xs.length-(i+1),by omega,rfl,hlt,p'⟩,fun x H' y=>?_⟩
  obtain ⟨e,y⟩:=y
  subst e
  exact hs i x _ (y xs q) p
 ·have e:i=xs.length:=by omega
  subst e
  exact .inl ⟨⟨xs,q,Nat.le_refl _⟩,hd H p⟩
end L2
namespace L2
open PySem PySem.Spec PyProof.Rows
section
variable {prog:Program}{w:World}{A:Around}{R:Result→Shared→Prop}{s:Shared}{elt t0 i0 t1 i1:Expr}{ifs0 ifs1:List Expr}{scope:Scope}{pos:Pos}{it acc:Value}{env:Env}
end
section
variable {X:Cx}
end
end L2
namespace L2
open PySem PySem.Spec PyProof.Rows
section
variable {κ:Type} [DecidableEq κ]
end
section
variable {P:Program}{w:World}{H:Hp}{h:Heap}{a:Addr}
end
section
variable {X:Cx}{pins:List (Addr×Obj)}{σ:St}{H:Hp}{s:Shared}{a:Addr}{y v:V}{u r:Value}{o:Option V}{A:Around}{E:Value→Shared→Prop}
end
section
variable {X:Cx}{pins:List (Addr×Obj)}{σ:St}{H:Hp}{s:Shared}{a:Addr}{kvs:List (Key×V)}{k:Key}{u:Value}{A:Around}{E:Value→Shared→Prop}
end
section
variable {X:Cx}{o i e value:Expr}{pos pos' tpos:Pos}{td ty tv:TE}
end
section
variable {X:Cx}{pos:Pos}
end
section
variable {X:Cx}{pins:List (Addr×Obj)}{σ:St}{H:Hp}{s:Shared}{a:Addr}{y d:V}{u r:Value}{o:Option V}{A:Around}{E:Value→Shared→Prop}
end
section
variable {X:Cx}{o e f:Expr}{apos cpos:Pos}{td ty tx:TE}
end
section
variable {X:Cx}{pins:List (Addr×Obj)}{σ:St}{H:Hp}{s:Shared}{a:Addr}{kvs:List (Key×V)}{A:Around}{E:Value→Shared→Prop}
end
section
variable {X:Cx}{pins:List (Addr×Obj)}{σ:St}{H:Hp}{s:Shared}{a:Addr}{y:V}{u:Value}{A:Around}{E:Value→Shared→Prop}
end
end L2
namespace L2
open PySem PySem.Spec PyProof.Rows
section
variable {prog:Program}{w:World}{A:Around}{E:Value→Shared→Prop}
end
section
variable {X:Cx}
end
end L2
namespace L2
open PySem PySem.Spec PyProof.Rows
section
variable {X:Cx}{pins:List (Addr×Obj)}{σ:St}{H:Hp}{s:Shared}{h':Heap}
theorem Inv.turnedNew {t':Nat}{ch:List Addr}{T:Addr}{ob:HO} (I:Inv X pins σ H s) (k:∀ b o,b ∉ ch→s.heap.get? b=some o→h'.get? b=some o) (hf:∀ b∈ch,FpOk X pins H b) (hT:s.heap.objs.size≤T)
  (new:ObjOk X.prog X.w (upd H T ob) h' T ob):Inv X pins σ (upd H T ob) { s with heap:=h',toks:=t' }:=by
 have hn:H T=none:=I.hok.fresh hT
 have nit:∀ b u,H b=some u→b ∉ ch:=fun b u e z=>by
  have q:=(hf b z).1
  rw [q] at e;cases e
 refine I.step (g':=s.gens) (d':=s.drawn) (ch:=ch) (fun b hb=>⟨(hf b hb).2.2.2.1,(hf b hb).2.1,(hf b hb).2.2.2.2.1,(hf b hb).2.2.2.2.2⟩) (fun b o _ _ hc e _=>k b o hc e) (fun b o _ _ hc e _=>⟨o.slots,k b o hc e⟩)
  (fun b o _ e n=>?_) (fun b o hc e=>⟨o,k b o hc e⟩) (fun b xs e=>?_) (fun b o u e=>?_) (fun b ps e=>⟨#[],?_⟩) (fun m hm=>?_) (fun b u e=>?_) I.bare
 ·rw [upd_ne (Nat.ne_of_lt (Nat.lt_of_lt_of_le (Heap.lt_size e) hT))];exact n
 ·rw [upd_ne (ne_of_none e hn)];exact e
 ·rw [upd_ne (ne_of_none e hn)];exact e
 ·rw [upd_ne (ne_of_none e hn),e];simp
 ·obtain ⟨o,es,ep,ho,r⟩:=hm
  exact ⟨o,es,ep,k _ o (fun z=>(hf _ z).2.1 rfl) ho,r⟩
 ·by_cases hb:b=T
  ·subst hb
   rw [upd_same] at e
   cases e
   exact new
  ·rw [upd_ne hb] at e
   refine (I.hok b u e).stay (fun c v hc q=>k c v ?_ q) (fun c q=>by rw [upd_ne (ne_of_none q hn)];exact q) fun c xs q=>by rw [upd_ne (ne_of_none q hn)];exact q
   rcases hc with z | z
   ·rw [z];exact nit b u e
   ·exact nit c _ z
end
section
variable {X:Cx}
theorem pi_one {tg:Expr}{pins:List (Addr×Obj)}{σ:St}{H:Hp}{s:Shared}{R:It→Hp→Prop}{J:It}{tn:Nat→Heap→Prop}{tk:Nat} (I:Inv X pins σ H s) (o:Obj)
  (T:Turn X.prog X.w X.K tg J [s.heap.objs.size] s.heap.objs.size tn) (st:tn 0 (s.heap.push o)) (q:R J H):PIE X pins σ tg R (.ref s.heap.objs.size) { s with heap:=s.heap.push o,toks:=tk }:=by
 refine ⟨s.heap.objs.size,[s.heap.objs.size],tn,J,H,rfl,I.kept fun b ob e=>Heap.get?_push_of_some _ e,T,st,fun b hb=>?_,q⟩
 have e:b=s.heap.objs.size:=by simpa using hb
 subst e
 exact I.fpOk (Nat.le_refl _) (I.hok.fresh (Nat.le_refl _))
end
def Itc (lo c:Int) (n:Nat):It:=⟨fun i _=>i<n,fun i H x H'=>H'=H∧x=.int (lo+(i:Nat) * c),fun i _=>n≤i⟩
theorem turn_rangeC {P:Program}{w:World}{K:PySem.W.Frag}{tg:Expr} (it:Addr) (lo c:Int) (n:Nat):Turn P w K tg (Itc lo c n) [it] it (fun i h=>IsRangeIter h it (lo+(i:Nat) * c) ((n:Int)-(i:Nat)) c) where
 mem:=by simp
 obj:=fun i h st b hb=>by
  have e:b=it:=by simpa using hb
  subst e
  exact ⟨_,st,fun v z=>nomatch z⟩
 keep:=fun i h h' st k=>k it (by simp) _ st
 item:=by
  intro X hP hw hK hc i pins s σ H E I hf st hg
  subst hP hw hK
  obtain ⟨f0,f1,f2,f3,f4,f5⟩:=hf it (by simp)
  have W:=Walks.range (prog:=X.prog) (w:=X.w) (I.ok.hd hc) it lo c n
  refine W.item i s _ _ hg st fun v h' tk hv st' kk=>?_
  obtain ⟨t,rfl⟩:=hv
  have I1:Inv X pins σ H { s with heap:=h',toks:=tk }:=I.turned (fun b o hb e=>kk b o (by simpa using hb) e) f0 f1 f3 f4 f5
  exact ⟨_,rfl,go_of (s:={ s with heap:=h',toks:=tk }) (n:="range_iterator") st' rfl rfl (by decide) ⟨.int (lo+(i:Nat) * c),H,I1,⟨t,rfl⟩,⟨rfl,rfl⟩,st',fun b hb=>(hf b hb).1⟩⟩
 done:=by
  intro X hP hw hK hc i pins s σ H E I hf st hg
  subst hP hw hK
  obtain ⟨f0,f1,f2,f3,f4,f5⟩:=hf it (by simp)
  exact wpAny_pyNext_range_end (I.ok.hd hc) st (by have:n≤i:=hg;omega) fun h' eb=>⟨rfl,I.turned (t':=s.toks) (fun b o hb e=>eb b o hb e) f0 f1 f3 f4 f5⟩
 self:=fun A i s Q E st h=>wpAny_pyIter_rangeiter st h
def RgC (i j c:Int) (n:Nat):Prop:=c≠0∧c.natAbs<1073741824∧Builtin.Range.small i j c=true∧Builtin.Range.rangeSize i j c=n
theorem RgC.neg {i j:Int} (ha:-(2 ^ 62)≤i) (ha':i<2 ^ 62) (hb:-(2 ^ 62)≤j) (hb':j<2 ^ 62):RgC i j (-1) (i-j).toNat :=
 ⟨by decide,by decide,PySem.W.small_down ha ha' hb hb',PySem.W.rangeSize_downNat i j⟩
def iRng3 (ta:TA):TI:=fun σ H R=>ta σ H fun vs H1=>∃ (i j c:Int) (n:Nat),vs=[.int i,.int j,.int c]∧RgC i j c n∧R (Itc i c n) H1
section
variable {X:Cx}{tg:Expr}
theorem pi_range3 {a b c:Expr}{ta:TA}{p pos:Pos} (hg:Gl X "range") (hm:X.mg "range"=none) (ha:PA X [a,b,c] ta)
  (hs:starEach [a,b,c] X.env=(false,eval a X.env)::starEach [b,c] X.env:=by rfl) (hpl:(backTo pos (starEach [b,c] X.env)).any (·.1)=false:=by rfl) :
  PI X tg (.Call (.Name "range" p) [a,b,c] [] pos) (iRng3 ta):=by
 intro pins s σ H R I h
 refine Call_ (ld_blt I hg hm boot_range (PyProof.Rows.callWith_type1 (thn (ha pos pins s σ H _ I h) fun us s1 ⟨vs,H1,I1,r1,q1⟩=>?_) hs hpl))
 obtain ⟨i,j,k,n,e,⟨c0,c1,c2,c3⟩,q⟩:=q1
 subst e
 cases r1 with
 | cons r rr =>
  cases rr with
  | cons r' rr =>
   cases rr with
   | cons r'' rr =>
    cases rr
    obtain ⟨t,rfl⟩:=r
    obtain ⟨t',rfl⟩:=r'
    obtain ⟨t'',rfl⟩:=r''
    refine call_range_3 c0 ?_ (.inl (PyProof.noPylong_small c1))
    refine wpAny_pyIter_range (IsRange.new ..) c2 ?_
    have I2:Inv X pins σ H1 { s1 with heap:=s1.heap.push { cls:=.type "range",data:=.fields #[.int i t,.int j t',.int k t''] } }:=I1.kept (t':=s1.toks) fun b o e=>Heap.get?_push_of_some _ e
    refine pi_one (tk:=s1.toks) I2 _ (turn_rangeC _ i k n) ?_ q
    have e1:i+((0:Nat):Int) * k=i:=by simp
    have e2:(n:Int)-((0:Nat):Int)=Builtin.Range.rangeSize i j k:=by rw [c3];simp
    show IsRangeIter _ _ (i+((0:Nat):Int) * k) ((n:Int)-((0:Nat):Int)) k
    rw [e1,e2]
    exact Heap.get?_push_size _ rfl
end
theorem for_rangeC {lo c:Int}{n:Nat}{g:TG}{tb:TS}{D:Ends}{σ:St}{H:Hp} (Pv:Nat→St→Hp→Prop) (h0:Pv 0 σ H)
  (hs:∀ i σ H,i<n→Pv i σ H→g (.int (lo+(i:Nat) * c)) σ H fun σ2 H2=>tb { D with nx:=Pv (i+1),ct:=Pv (i+1),bk:=D.nx } σ2 H2) (hd:∀ σ H,Pv n σ H→D.nx σ H) :
  ∃ W:Nat→Nat→St→Hp→Prop,(∃ m,W 0 m σ H)∧∀ i m σ H,W i m σ H →
   ((Itc lo c n).stop i H∧D.nx σ H)∨((Itc lo c n).go i H∧∃ N:St→Hp→Prop,(∀ σ' H',N σ' H'→∃ m',m' < m∧W (i+1) m' σ' H')∧∀ x H',(Itc lo c n).yld i H x H'→g x σ H' fun σ2 H2=>tb { D with nx:=N,ct:=N,bk:=D.nx } σ2 H2):=by
 refine ⟨fun i m σ H=>m=n-i∧i≤n∧Pv i σ H,⟨n,by simp,Nat.zero_le _,h0⟩,?_⟩
 rintro i m σ H ⟨rfl,hi,p⟩
 by_cases hlt:i<n
 ·refine .inr ⟨hlt,Pv (i+1),fun σ' H' p'=>⟨n-(i+1),by omega,rfl,hlt,p'⟩,fun x H' y=>?_⟩
  obtain ⟨e,y⟩:=y
  subst e y
  exact hs i σ _ hlt p
 ·have e:i=n:=by omega
  subst e
  exact .inl ⟨Nat.le_refl _,hd σ H p⟩
section
variable {X:Cx}{tg:Expr}
end
def Its (x:Str):It:=⟨fun i _=>i<x.cps.size,fun i H v H'=>H'=H∧∃ c,x.cps[i]?=some c∧v=.str ⟨#[c]⟩,fun i _=>x.cps.size≤i⟩
theorem turn_str {P:Program}{w:World}{K:PySem.W.Frag}{tg:Expr} (it:Addr) (x:Str) (t:Tok) (ty:String) (hty:ty="str_ascii_iterator"∨ty="str_iterator") :
  Turn P w K tg (Its x) [it] it (fun i h=>h.IsStrIter it ty x t i) where
 mem:=by simp
 obj:=fun i h st b hb=>by
  have e:b=it:=by simpa using hb
  subst e
  obtain ⟨o,e,c,d⟩:=st
  exact ⟨o,e,fun v z=>by rw [d] at z;cases z⟩
 keep:=fun i h h' st k=>let ⟨o,ho,r⟩:=st;⟨o,k it (by simp) o ho,r⟩
 item:=by
  intro X hP hw hK hc i pins s σ H E I hf st hg
  subst hP hw hK
  obtain ⟨f0,f1,f2,f3,f4,f5⟩:=hf it (by simp)
  have W:Walks X.prog X.w X.A it [it] [it] x.cps.size (SignAt x) (fun i h=>h.IsStrIter it ty x t i):=by
   rcases hty with e | e
   ·rw [e];exact Walks.strAscii (I.ok.hd hc) it x t
   ·rw [e];exact Walks.strWide (I.ok.hd hc) it x t
  have hno:["enumerate","zip","dict_itemiterator","dict_reverseitemiterator","odict_iterator","itertools.zip_longest","itertools.pairwise"].contains ty=false:=by
   rcases hty with e | e
   ·rw [e];decide
   ·rw [e];decide
  refine W.item i s _ _ hg st fun v h' tk hv st' kk=>?_
  obtain ⟨c,u,hcx,rfl⟩:=hv
  have I1:Inv X pins σ H { s with heap:=h',toks:=tk }:=I.turned (fun b o hb e=>kk b o (by simpa using hb) e) f0 f1 f3 f4 f5
  obtain ⟨oi,e,cc,dd⟩:=id st'
  exact ⟨_,rfl,go_of (s:={ s with heap:=h',toks:=tk }) e cc dd hno ⟨.str ⟨#[c]⟩,H,I1,⟨u,rfl⟩,⟨rfl,c,hcx,rfl⟩,st',fun b hb=>(hf b hb).1⟩⟩
 done:=by
  intro X hP hw hK hc i pins s σ H E I hf st hg
  subst hP hw hK
  obtain ⟨f0,f1,f2,f3,f4,f5⟩:=hf it (by simp)
  have hx:x.cps[i]?=none:=Array.getElem?_eq_none hg
  rcases hty with e | e
  ·rw [e] at st
   exact wpAny_pyNext_ascii_end (I.ok.hd hc) st hx fun h' eb=>⟨rfl,I.turned (t':=s.toks) (fun b o hb e=>eb b o hb e) f0 f1 f3 f4 f5⟩
  ·rw [e] at st
   exact wpAny_pyNext_wide_end (I.ok.hd hc) st hx fun h' eb=>⟨rfl,I.turned (t':=s.toks) (fun b o hb e=>eb b o hb e) f0 f1 f3 f4 f5⟩
 self:=fun A i s Q E st h=>by
  rcases hty with e | e
  ·rw [e] at st;exact wpAny_pyIter_striter_ascii st h
  ·rw [e] at st;exact wpAny_pyIter_striter_wide st h
def iStr (te:TE):TI:=fun σ H R=>te σ H fun v H1=>∃ x,v=.str x∧R (Its x) H1
theorem pi_str {X:Cx}{tg e:Expr}{te:TE} (he:PE X e te):PI X tg e (iStr te):=by
 intro pins s σ H R I h
 refine thn (he pins s σ H _ I h) fun v s1 ⟨y,H1,I1,r1,x,ex,q⟩=>?_
 subst ex
 obtain ⟨t,rfl⟩:=r1
 cases ha:x.cps.all (· < 128)
 ·exact wpAny_pyIter_wide ha (pi_one (tk:=s1.toks) I1 _ (turn_str _ x t "str_iterator" (.inr rfl)) ⟨_,Heap.get?_push_size _ rfl,rfl,rfl⟩ q)
 ·exact wpAny_pyIter_ascii ha (pi_one (tk:=s1.toks) I1 _ (turn_str _ x t "str_ascii_iterator" (.inl rfl)) ⟨_,Heap.get?_push_size _ rfl,rfl,rfl⟩ q)
section
variable {prog:Program}{w:World}{A:Around}{E:Value→Shared→Prop}{s:Shared}
end
section
variable {X:Cx}{pins:List (Addr×Obj)}{σ:St}{H:Hp}{s:Shared}{d:Addr}{o:Obj}
end
section
variable {P:Program}{w:World}{K:PySem.W.Frag}{tg:Expr}{d:Addr}{o:Obj}{es:Array DictEntry}{ep:Nat}
end
section
variable {X:Cx}{tg e:Expr}{td:TE}{apos cpos:Pos}
end
def Ite (K:PySem.W.Frag) (a:Addr):It :=
 ⟨fun i H=>∃ (xs:List V) (x:V),SqL K H a xs∧xs[i]?=some x,fun i H v H'=>∃ T x,v=.ref T∧H T=none∧H'=upd H T (.tup [.int (i:Nat),x])∧∀ xs,SqL K H a xs→xs[i]?=some x,fun i H=>∃ xs:List V,SqL K H a xs∧xs.length≤i⟩
theorem turn_enum {P:Program}{w:World}{K:PySem.W.Frag}{elts:List Expr}{kk:Nat}{tpos:Pos} (a e it:Addr) :
  Turn P w K (.Tuple elts kk tpos) (Ite K a) [e,it] e (fun i h=>(∃ old,IsEnum h e it ((i:Nat):Int) old)∧h.IsListIter it a i∧e≠it) where
 mem:=by simp
 obj:=fun i h st b hb=>by
  obtain ⟨⟨old,he⟩,⟨o,ho,hc,hd⟩,_⟩:=st
  have e':b=e∨b=it:=by simpa using hb
  rcases e' with z | z
  ·rw [z];exact ⟨_,he,fun v q=>nomatch q⟩
  ·rw [z];exact ⟨o,ho,fun v q=>by rw [hd] at q;cases q⟩
 keep:=fun i h h' st k=>let ⟨⟨old,he⟩,hi,hne⟩:=st;⟨⟨old,k e (by simp) _ he⟩,hi.at fun o q=>k it (by simp) o q,hne⟩
 item:=by
  intro X hP hw hK hc i pins s σ H E I hf st hg
  subst hP hw hK
  obtain ⟨⟨old,he⟩,hit,hne⟩:=st
  obtain ⟨xs,x,hq,hx⟩:=hg
  obtain ⟨its,rv,p,hz⟩:=I.list hq
  obtain ⟨u,hu,ru⟩:=rv.get hx
  have hel:e<s.heap.objs.size:=Heap.lt_size he
  have hil:it<s.heap.objs.size:=by obtain ⟨_,q,_⟩:=hit;exact Heap.lt_size q
  refine wpAny_pyNext_enum_item he hit p.isList (x:=u) (by simpa using hu) hne fun h' ho hit' hT hsz hk=>?_
  refine ⟨_,rfl,wpAny_letOwnedTupleGo_enum (s:={ s with heap:=h',toks:=s.toks+1 }) ho fun h'' he' sb=>?_⟩
  have hT2:h''.get? s.heap.objs.size=some { cls:=.type "tuple",data:=.seq #[.int i s.toks,u] }:=(sb.2 _ (Nat.ne_of_gt hel)).trans hT
  have new:ObjOk X.prog X.w (upd H s.heap.objs.size (.tup [.int (i:Nat),x])) h'' s.heap.objs.size (.tup [.int (i:Nat),x]) :=
   ⟨by show 2≤sizeLine;decide,[.int i s.toks,u],.cons ⟨_,rfl⟩ (.cons ru .nil),⟨_,hT2,rfl,_,rfl⟩⟩
  have I1:Inv X pins σ (upd H s.heap.objs.size (.tup [.int (i:Nat),x])) { s with heap:=h'',toks:=s.toks+1 } :=
   I.turnedNew (ch:=[e,it]) (fun b ob hb q=>(sb.2 b (fun z=>hb (by simp [z]))).trans (hk b ob (fun z=>hb (by simp [z])) (fun z=>hb (by simp [z])) q)) hf (Nat.le_refl _) new
  refine ⟨.ref s.heap.objs.size,_,I1,rfl,⟨_,x,rfl,I.hok.fresh (Nat.le_refl _),rfl,fun ys hy=>by rw [I.list_inj hy hq];exact hx⟩,⟨⟨u,?_⟩,hit'.at fun o q=>(sb.2 it (Ne.symm hne)).trans q,hne⟩,fun b hb=>?_⟩
  ·have e1:((i+1:Nat):Int)=(i:Int)+1:=by omega
   rw [e1];exact he'
  ·have hb':b<s.heap.objs.size:=by
    have e':b=e∨b=it:=by simpa using hb
    rcases e' with z | z
    ·rw [z];exact hel
    ·rw [z];exact hil
   rw [upd_ne (Nat.ne_of_lt hb')]
   exact (hf b hb).1
 done:=by
  intro X hP hw hK hc i pins s σ H E I hf st hg
  subst hP hw hK
  obtain ⟨⟨old,he⟩,hit,hne⟩:=st
  obtain ⟨xs,hq,hx⟩:=hg
  obtain ⟨its,rv,p,hz⟩:=I.list hq
  obtain ⟨f0,f1,f2,f3,f4,f5⟩:=hf it (by simp)
  have hl:=rv.length
  exact wpAny_pyNext_enum_end (I.ok.hd hc) he hit p.isList (by simp;omega) fun h' eb=>⟨rfl,I.turned (t':=s.toks) (fun b o hb q=>eb b o hb q) f0 f1 f3 f4 f5⟩
 self:=fun A i s Q E st h=>let ⟨⟨_,he⟩,_⟩:=st;wpAny_pyIter_enum he h
def iEnum (K:PySem.W.Frag) (ta:TA):TI:=fun σ H R=>ta σ H fun vs H1=>∃ a xs,vs=[.ref a]∧SqL K H1 a xs∧R (Ite K a) H1
theorem pi_enum {X:Cx}{e:Expr}{ta:TA}{p pos tpos:Pos}{elts:List Expr}{kk:Nat} (hg:Gl X "enumerate") (hm:X.mg "enumerate"=none) (ha:PA X [e] ta) (hs:starEach [e] X.env=[(false,eval e X.env)]:=by rfl) :
  PI X (.Tuple elts kk tpos) (.Call (.Name "enumerate" p) [e] [] pos) (iEnum X.K ta):=by
 intro pins s σ H R I h
 refine Call_ (ld_blt I hg hm boot_enumerate (PyProof.Rows.callWith_type1 (thn (ha pos pins s σ H _ I h) fun us s1 ⟨vs,H1,I1,r1,q1⟩=>?_) hs rfl))
 obtain ⟨a,xs,ex,hq,q⟩:=q1
 subst ex
 cases r1 with
 | cons r rr =>
  cases rr
  cases r
  obtain ⟨its,rv,p',hz⟩:=I1.list hq
  refine call_enumerate_list p'.isList fun h' he hit hsz hk=>wpAny_pyIter_enum he ?_
  have I2:Inv X pins σ H1 { s1 with heap:=h' }:=I1.kept (t':=s1.toks) hk
  refine ⟨s1.heap.objs.size+1,[s1.heap.objs.size+1,s1.heap.objs.size],_,_,H1,rfl,I2,turn_enum a (s1.heap.objs.size+1) s1.heap.objs.size,⟨⟨.none,he⟩,hit,Nat.succ_ne_self _⟩,fun b hb=>?_,q⟩
  have e':b=s1.heap.objs.size+1∨b=s1.heap.objs.size:=by simpa using hb
  have hle:s1.heap.objs.size≤b:=by
   rcases e' with z | z
   ·rw [z];exact Nat.le_add_right _ _
   ·rw [z];exact Nat.le_refl _
  exact I1.fpOk hle (I1.hok.fresh hle)
end L2
section 
namespace Bits
open PySem PyProof.Rows
end Bits
end 
section 
namespace TL
open PySem PySem.Builtin PySem.Builtin.Str PySem.StrLaws
abbrev tl (x:Str):List Nat:=x.cps.toList
def pre (S l:List Nat):Bool:=l.take S.length==S
def par (S:List Nat):List Nat→List Nat→Option (List Nat×List Nat)
 | _,[]=>none
 | acc,c::r=>if pre S (c::r)=true then some (acc,(c::r).drop S.length) else par S (acc++[c]) r
def joinL (S:List Nat):List (List Nat)→List Nat
 | []=>[]
 | [p]=>p
 | p::q::r=>p++(S++joinL S (q::r))
end TL
end 
namespace L2
open PySem PySem.Spec PyProof.Rows
section
variable {X:Cx}{pins:List (Addr×Obj)}{σ:St}{H:Hp}{s:Shared}{Q:VK}
end
section
variable {X:Cx}
end
section
variable {X:Cx}{o e:Expr}{to te:TE}
end
end L2
namespace L2
open PySem PySem.Spec PyProof.Rows
section
variable {X:Cx}
end
end L2
namespace Att
open PySem PySem.W PySem.Calls PyProof.Rows
section
variable {prog:Program}{w:World}{A:Around}{E:Value→Shared→Prop}{s:Shared}{K:Frag}
end
end Att
namespace L2
open PySem PySem.Spec PyProof.Rows
end L2
namespace L2
open PySem PySem.Spec PyProof.Rows
end L2
namespace L2
open PySem PySem.Spec PyProof.Rows
def inClass (s:Stmt) (j:Nat):Stmt:=match s with
 | .ClassDef _ _ _ body _ _ _ _ _ _ _=>body.getD j (.Pass ⟨0,0,0,0⟩)
 | _=>.Pass ⟨0,0,0,0⟩
def defArgs (s:Stmt):Arguments:=match s with
 | .FunctionDef _ a _ _ _ _ _ _ _ _=>a
 | _=>{ posonlyargs:=[],args:=[],vararg:=none,kwonlyargs:=[],kw_defaults:=[],kwarg:=none,defaults:=[] }
def defBody (s:Stmt):List Stmt:=match s with
 | .FunctionDef _ _ b _ _ _ _ _ _ _=>b
 | _=>[]
def defScope (s:Stmt):Scope:=match s with
 | .FunctionDef _ _ _ _ _ _ sc _ _ _=>sc
 | _=>{ kind:=.function,names:=[],isGenerator:=false,isCoroutine:=false }
abbrev CX0:CXT:=fun _ _ _ _ _ _=>False
abbrev E0:XK:=fun _ _ _=>False
theorem pass0 {X:Cx}:Passes CX0 X E0:=fun _ _ _ _ _ _ _ h=>h.elim
structure Fun (K:PySem.W.Frag) (x qual:Str) (st:Stmt) (f:Addr) (fd:FuncData):Prop where
 ex:∃ (oc:Value) (od:Option Addr) (kV doc pm:Value) (an:Option Addr) (cdv ct:Value) (osl:Array (Option Value)),
  fd=PySem.W.fnOf x qual (defArgs st) (defBody st) (defScope st) .none kV doc pm an cdv ct∧K.lookup f=some ⟨oc,od,.func fd,osl⟩∧PySem.W.codeIn K cdv qual=true
 kp:PySem.W.keepIn K (.ref f)=true
section
variable {P:Program}{w:World}{K:PySem.W.Frag}{mg:Str→Option Value}{base:Heap}
theorem Fun.ok {x qual:Str}{st:Stmt}{f:Addr}{fd:FuncData}{N ps:List Str}{k:Nat}{sp:Sp} (F:Fun K x qual st f fd) (S:FnScope N ps (defScope st)) (len:∀ vs H Q E,sp vs H Q E→vs.length=ps.length)
  (hbody:∀ (cdv:Value) (A:Around) (outer:List Env) (s:Shared) (H:Hp) (vs:List V) (Q:VK) (E:XK),Room k (A.deeper (envOfC qual (defScope st) s.heap.objs.size f cdv))→sp vs H Q E →
   ∃ t,PSs (cxOf CX0 P w K mg base N qual (defScope st) f cdv A outer s H E).nox (defBody st) t∧t { nx:=fun _ H'=>Q .non H',rt:=Q } (start N vs) H):FnOk P w K mg base CX0 (k+1) f fd ps sp:=by
 obtain ⟨oc,od,kV,doc,pm,an,cdv,ct,osl,rfl,lk,hcd⟩:=F.ex
 refine fn_of lk hcd S len fun A outer s H vs Q E hr hsp=>?_
 obtain ⟨t,h,q⟩:=hbody cdv A outer s H vs Q E hr hsp
 exact ⟨t,h.nox,q⟩
theorem Fun.binds {x qual:Str}{st:Stmt}{f:Addr}{fd:FuncData}{ps:List Str} (F:Fun K x qual st f fd)
  (h:∀ (kV doc pm:Value) (an:Option Addr) (cdv ct:Value) (us:List Value),us.length=ps.length→bindArgs (PySem.W.fnOf x qual (defArgs st) (defBody st) (defScope st) .none kV doc pm an cdv ct) ⟨us,[]⟩=pure (ps.zip us)):Binds K fd ps []:=by
 obtain ⟨oc,od,kV,doc,pm,an,cdv,ct,osl,rfl,lk,hcd⟩:=F.ex
 exact .all (h kV doc pm an cdv ct)
theorem fun_mk {x qual:Str}{st:Stmt}{f:Addr}{oc:Value}{od an:Option Addr}{osl:Array (Option Value)}{kV doc pm cdv ct:Value} (l:K.lookup f=some ⟨oc,od,.func (PySem.W.fnOf x qual (defArgs st) (defBody st) (defScope st) .none kV doc pm an cdv ct),osl⟩)
  (c:PySem.W.codeIn K cdv qual=true) (k:PySem.W.keepIn K (.ref f)=true):Fun K x qual st f (PySem.W.fnOf x qual (defArgs st) (defBody st) (defScope st) .none kV doc pm an cdv ct):=⟨⟨oc,od,kV,doc,pm,an,cdv,ct,osl,rfl,l,c⟩,k⟩
end
section
variable {X:Cx}
theorem pv (i:Nat) {x:Str}{pos:Pos} (hN:X.N[i]?=some x:=by rfl) (hv:Vis X.env.scope x:=by first | exact Or.inl rfl | exact Or.inr (Or.inl rfl) | exact Or.inr (Or.inr rfl)) (hd:(x==("__debug__":Str))=false:=by decide)
  (hcd:(x==("__classdict__":Str))=false:=by decide):PE X (.Name x pos) (tVar i):=pe_var hN hv hd hcd
end
section
variable {κ:Type} [DecidableEq κ]
end
end L2
end
section
section
set_option maxRecDepth 100000
set_option maxHeartbeats 2000000
namespace L2
open PySem PySem.Spec PyProof.Rows
open PySem.W (WData Codec OpenSpec Well WellAll ReadsW ReadsAllW)
mutual
inductive Dw (K:PySem.W.Frag) (H:Hp):V→WData→Prop
 | non:Dw K H .non .none
 | bl (b:Bool):Dw K H (.bl b) (.bool b)
 | int (i:Int):Dw K H (.int i) (.int i)
 | str (x:Str):Dw K H (.str x) (.str x)
 | byt (b:Array UInt8):Dw K H (.byt b) (.bytes b.toList)
 | lst {a:Addr}{xs:List V}{ds:List WData}:SqL K H a xs→DwAll K H xs ds→Dw K H (.ref a) (.list ds)
 | tup {a:Addr}{xs:List V}{ds:List WData}:SqT K H a xs→DwAll K H xs ds→Dw K H (.ref a) (.tuple ds)
inductive DwAll (K:PySem.W.Frag) (H:Hp):List V→List WData→Prop
 | nil:DwAll K H [] []
 | cons {v:V}{vs:List V}{d:WData}{ds:List WData}:Dw K H v d→DwAll K H vs ds→DwAll K H (v::vs) (d::ds)
end
theorem dw_ints {K:PySem.W.Frag}{H:Hp}:∀ ns:List Int,DwAll K H (ns.map V.int) (ns.map WData.int)
 | []=>.nil
 | n::r=>.cons (.int n) (dw_ints r)
theorem ints_dw {K:PySem.W.Frag}{H:Hp}:∀ (ns:List Int) (xs:List V),DwAll K H xs (ns.map WData.int)→xs=ns.map V.int
 | [],xs,h=>by
  cases h
  rfl
 | n::r,xs,h=>by
  cases h with
  | cons h1 h2 =>
   cases h1
   rw [ints_dw r _ h2] <;> rfl
section
variable {P:Program}{w:World}{K:PySem.W.Frag}{H:Hp}{h:Heap}{R:PySem.W.WRecords}{cl:Str→Option Addr}
theorem sqL_at {a:Addr}{xs:List V} (hok:HOk P w H h) (KX:K.In h) (q:SqL K H a xs):∃ (its:List Value) (o:Obj) (n:Nat),Vals xs its∧h.get? a=some o∧o.cls=.type "list"∧o.data=.seq its.toArray n:=by
 rcases q with q | ⟨o,its,n,e,hc,_,hd,_,hv⟩
 ·obtain ⟨_,its,n,hv,e⟩:=(show ObjOk P w H h a (.lst xs) from q.ok hok)
  exact ⟨its,_,n,hv,e,rfl,rfl⟩
 ·exact ⟨its.toList,o,n,hv,KX _ _ e,hc,by simp [hd]⟩
theorem sqT_at {a:Addr}{xs:List V} (hok:HOk P w H h) (KX:K.In h) (q:SqT K H a xs):∃ (its:List Value) (o:Obj) (n:Nat),Vals xs its∧h.get? a=some o∧o.cls=.type "tuple"∧o.data=.seq its.toArray n:=by
 rcases q with q | ⟨o,its,n,e,hc,hd,_,hv⟩
 ·obtain ⟨_,its,hv,o,e,hc,n,hd⟩:=(show ObjOk P w H h a (.tup xs) from q.ok hok)
  exact ⟨its,o,n,hv,e,hc,hd⟩
 ·exact ⟨its.toList,o,n,hv,KX _ _ e,hc,by simp [hd]⟩
mutual
theorem Dw.reads (hok:HOk P w H h) (KX:K.In h):∀ (d:WData) (v:V) (u:Value),Dw K H v d→RelV v u→∃ as,ReadsW R cl h u d as
 | .none,_,_,x,r=>by
  cases x
  cases r
  exact ⟨_,ReadsW.none⟩
 | .bool b,_,_,x,r=>by
  cases x
  cases r
  exact ⟨_,ReadsW.bool b⟩
 | .int i,_,_,x,r=>by
  cases x
  obtain ⟨t,rfl⟩:=r
  exact ⟨_,ReadsW.int i t⟩
 | .str s,_,_,x,r=>by
  cases x
  obtain ⟨t,rfl⟩:=r
  exact ⟨_,ReadsW.str s t⟩
 | .bytes b,_,_,x,r=>by
  cases x
  obtain ⟨t,rfl⟩:=r
  exact ⟨_,ReadsW.bytes _ t⟩
 | .list ds,_,_,x,r=>by
  cases x with
  | lst hs ha =>
   cases r
   obtain ⟨its,o,n,rv,ho,hc,hd⟩:=sqL_at hok KX hs
   obtain ⟨as,hr⟩:=Dw.readsAll hok KX ds _ its ha rv
   exact ⟨_,ReadsW.list ho hc hd hr⟩
 | .tuple ds,_,_,x,r=>by
  cases x with
  | tup hs ha =>
   cases r
   obtain ⟨its,o,n,rv,ho,hc,hd⟩:=sqT_at hok KX hs
   obtain ⟨as,hr⟩:=Dw.readsAll hok KX ds _ its ha rv
   exact ⟨_,ReadsW.tuple ho hc hd hr⟩
 | .float _,_,_,x,_=>by cases x
 | .dict _,_,_,x,_=>by cases x
 | .bytearray _,_,_,x,_=>by cases x
 | .set _,_,_,x,_=>by cases x
 | .frozenset _,_,_,x,_=>by cases x
 | .obj _ _,_,_,x,_=>by cases x
theorem Dw.readsAll (hok:HOk P w H h) (KX:K.In h):∀ (ds:List WData) (vs:List V) (us:List Value),DwAll K H vs ds→Vals vs us→∃ as,ReadsAllW R cl h us ds as
 | [],_,_,x,r=>by
  cases x
  cases r
  exact ⟨_,ReadsAllW.nil⟩
 | d::ds,_,_,x,r=>by
  cases x with
  | cons h1 h2 =>
   cases r with
   | cons r1 r2 =>
    obtain ⟨as,q1⟩:=Dw.reads hok KX d _ _ h1 r1
    obtain ⟨bs,q2⟩:=Dw.readsAll hok KX ds _ _ h2 r2
    exact ⟨_,ReadsAllW.cons q1 q2⟩
end
end
mutual
def plW:WData→Bool
 | .none=>true
 | .bool _=>true
 | .int _=>true
 | .str _=>true
 | .bytes _=>true
 | .list xs=>plWs xs
 | .tuple xs=>plWs xs
 | _=>false
def plWs:List WData→Bool
 | []=>true
 | x::r=>plW x && plWs r
end
theorem plWs_map {α:Type}{f:α→WData} (h:∀ a,plW (f a)=true):∀ l:List α,plWs (l.map f)=true
 | []=>rfl
 | x::r=>by
  show (plW (f x) && plWs (r.map f))=true
  rw [h x,plWs_map h r] <;> rfl
theorem pl_enc:∀ (c:Codec) (a:c.denote),plW (c.enc a)=true
 | .unit,_=>rfl
 | .bool,_=>rfl
 | .int _ _,_=>rfl
 | .nat _ _,_=>rfl
 | .u8,_=>rfl
 | .bytes _ _,_=>rfl
 | .text _ _ _ _,_=>rfl
 | .list _ _ c,a=>plWs_map (fun x=>pl_enc c x) a
 | .pair c d,a=>by
  show (plW (c.enc a.1) && (plW (d.enc a.2) && true))=true
  rw [pl_enc c a.1,pl_enc d a.2] <;> rfl
 | .triple c d e,a=>by
  show (plW (c.enc a.1) && (plW (d.enc a.2.1) && (plW (e.enc a.2.2) && true)))=true
  rw [pl_enc c a.1,pl_enc d a.2.1,pl_enc e a.2.2] <;> rfl
 | .option c,none=>rfl
 | .option c,some x=>pl_enc c x
theorem pl_encAll:∀ (cs:List Codec) (a:Codec.denoteAll cs),plWs (Codec.encAll cs a)=true
 | [],_=>rfl
 | c::cs,a=>by
  show (plW (c.enc a.1) && plWs (Codec.encAll cs a.2))=true
  rw [pl_enc c a.1,pl_encAll cs a.2] <;> rfl
theorem weight_mem:∀ {xs:List WData}{d:WData},d∈xs→d.weight≤WData.weightAll xs
 | [],d,h=>absurd h (by simp)
 | x::r,d,h=>by
  show d.weight≤x.weight+1+WData.weightAll r
  rcases List.mem_cons.mp h with e | m
  ·rw [e]
   lia
  ·have z:=weight_mem m
   lia
def toV:Value→V
 | .none=>.non
 | .bool b=>.bl b
 | .int i _=>.int i
 | .str x _=>.str x
 | .bytes b _=>.byt b
 | .ref a=>.ref a
 | _=>.non
def OkU (A:List Addr):Value→Prop
 | .none=>True
 | .bool _=>True
 | .int _ _=>True
 | .str _ _=>True
 | .bytes _ _=>True
 | .ref a=>a∈A
 | _=>False
theorem OkU.mono {A B:List Addr} (h:∀ a∈A,a∈B):∀ {u:Value},OkU A u→OkU B u:=fun {u} x=>by
 cases u with
 | ref a=>exact h a x
 | none=>trivial
 | bool b=>trivial
 | int i t=>trivial
 | str s t=>trivial
 | bytes b t=>trivial
 | _=>exact False.elim x
theorem relV_toV {A:List Addr}{u:Value} (x:OkU A u):RelV (toV u) u:=by
 cases u with
 | ref a=>rfl
 | none=>rfl
 | bool b=>rfl
 | int i t=>exact ⟨t,rfl⟩
 | str s t=>exact ⟨t,rfl⟩
 | bytes b t=>exact ⟨t,rfl⟩
 | _=>exact False.elim x
theorem vals_toV {A:List Addr}:∀ {vs:List Value},(∀ u∈vs,OkU A u)→Vals (vs.map toV) vs
 | [],_=>.nil
 | u::r,h=>.cons (relV_toV (h u (List.mem_cons_self ..))) (vals_toV fun x hx=>h x (List.mem_cons_of_mem _ hx))
def ArgOb (h:Heap) (A:List Addr) (a:Addr):Prop:=∃ vs:List Value,vs.length≤sizeLine∧(∀ u∈vs,OkU A u) ∧
 (h.get? a=some { cls:=.type "list",data:=.seq vs.toArray }∨h.get? a=some { cls:=.type "tuple",data:=.seq vs.toArray })
theorem ArgOb.mono {h:Heap}{A B:List Addr}{a:Addr} (k:∀ a∈A,a∈B) (x:ArgOb h A a):ArgOb h B a:=by
 obtain ⟨vs,h1,h2,h3⟩:=x
 exact ⟨vs,h1,fun u hu=>(h2 u hu).mono k,h3⟩
theorem wellAll_len {P:Params}{h:Heap}:∀ {vs:List Value}{ds:List WData},WellAll P h vs ds→vs.length=ds.length
 | _,_,.nil=>rfl
 | _,_,.cons _ b=>by
  show _+1=_+1
  rw [wellAll_len b]
theorem well_list {P:Params}{h:Heap}{v:Value}{ds:List WData} (x:Well P h v (.list ds)):∃ (a:Addr) (vs:List Value),v=.ref a∧h.get? a=some { cls:=.type "list",data:=.seq vs.toArray }∧WellAll P h vs ds:=by
 cases x with
 | list ho hall=>exact ⟨_,_,rfl,ho,hall⟩
theorem well_tuple {P:Params}{h:Heap}{v:Value}{ds:List WData} (x:Well P h v (.tuple ds)):∃ (a:Addr) (vs:List Value),v=.ref a∧h.get? a=some { cls:=.type "tuple",data:=.seq vs.toArray }∧WellAll P h vs ds:=by
 cases x with
 | tuple ho hall=>exact ⟨_,_,rfl,ho,hall⟩
theorem well_cons {P:Params}{h:Heap}{us:List Value}{d:WData}{ds:List WData} (x:WellAll P h us (d::ds)):∃ (v:Value) (vs:List Value),us=v::vs∧Well P h v d∧WellAll P h vs ds:=by
 cases x with
 | cons a b=>exact ⟨_,_,rfl,a,b⟩
theorem line_of {n:Nat} (h:n≤1048576):n≤sizeLine:=Nat.le_trans h (by decide)
section
variable {P:Params}{h:Heap}
mutual
theorem area_one:∀ (d:WData) (v:Value),Well P h v d→plW d=true→d.weight≤1048576→∃ A:List Addr,OkU A v∧∀ a∈A,ArgOb h A a
 | .none,_,x,_,_=>by
  cases x
  exact ⟨[],trivial,fun a m=>absurd m (by simp)⟩
 | .bool b,_,x,_,_=>by
  cases x
  exact ⟨[],trivial,fun a m=>absurd m (by simp)⟩
 | .int i,_,x,_,_=>by
  cases x
  exact ⟨[],trivial,fun a m=>absurd m (by simp)⟩
 | .str s,_,x,_,_=>by
  cases x
  exact ⟨[],trivial,fun a m=>absurd m (by simp)⟩
 | .bytes b,_,x,_,_=>by
  cases x
  exact ⟨[],trivial,fun a m=>absurd m (by simp)⟩
 | .list ds,_,x,p,z=>by
  obtain ⟨a,vs,rfl,ho,hall⟩:=well_list x
  have z2:WData.weightAll ds≤1048576:=z
  obtain ⟨A,h1,h2⟩:=area_all ds _ hall p fun d hd=>Nat.le_trans (weight_mem hd) z2
  have k:∀ b∈A,b∈a::A:=fun b hb=>List.mem_cons_of_mem _ hb
  refine ⟨a::A,List.mem_cons_self ..,fun b hb=>?_⟩
  rcases List.mem_cons.mp hb with e | m
  ·rw [e]
   exact ⟨vs,line_of (by rw [wellAll_len hall];exact Nat.le_trans (PySem.W.length_le_weightAllW ds) z2),fun u hu=>(h1 u hu).mono k,.inl ho⟩
  ·exact (h2 b m).mono k
 | .tuple ds,_,x,p,z=>by
  obtain ⟨a,vs,rfl,ho,hall⟩:=well_tuple x
  have z2:WData.weightAll ds≤1048576:=z
  obtain ⟨A,h1,h2⟩:=area_all ds _ hall p fun d hd=>Nat.le_trans (weight_mem hd) z2
  have k:∀ b∈A,b∈a::A:=fun b hb=>List.mem_cons_of_mem _ hb
  refine ⟨a::A,List.mem_cons_self ..,fun b hb=>?_⟩
  rcases List.mem_cons.mp hb with e | m
  ·rw [e]
   exact ⟨vs,line_of (by rw [wellAll_len hall];exact Nat.le_trans (PySem.W.length_le_weightAllW ds) z2),fun u hu=>(h1 u hu).mono k,.inr ho⟩
  ·exact (h2 b m).mono k
 | .float _,_,_,p,_=>Bool.noConfusion (show false=true from p)
 | .dict _,_,_,p,_=>Bool.noConfusion (show false=true from p)
 | .bytearray _,_,_,p,_=>Bool.noConfusion (show false=true from p)
 | .set _,_,_,p,_=>Bool.noConfusion (show false=true from p)
 | .frozenset _,_,_,p,_=>Bool.noConfusion (show false=true from p)
 | .obj _ _,_,_,p,_=>Bool.noConfusion (show false=true from p)
theorem area_all:∀ (ds:List WData) (vs:List Value),WellAll P h vs ds→plWs ds=true→(∀ d∈ds,d.weight≤1048576)→∃ A:List Addr,(∀ u∈vs,OkU A u)∧∀ a∈A,ArgOb h A a
 | [],_,x,_,_=>by
  cases x
  exact ⟨[],fun u m=>absurd m (by simp),fun a m=>absurd m (by simp)⟩
 | d::ds,_,x,p,z=>by
  obtain ⟨v,vs,rfl,x1,x2⟩:=well_cons x
  have q:plW d=true∧plWs ds=true:=Bool.and_eq_true_iff.mp p
  obtain ⟨A,a1,a2⟩:=area_one d v x1 q.1 (z d (List.mem_cons_self ..))
  obtain ⟨B,b1,b2⟩:=area_all ds vs x2 q.2 fun e he=>z e (List.mem_cons_of_mem _ he)
  have kA:∀ b∈A,b∈A++B:=fun b hb=>List.mem_append.mpr (.inl hb)
  have kB:∀ b∈B,b∈A++B:=fun b hb=>List.mem_append.mpr (.inr hb)
  refine ⟨A++B,fun u hu=>?_,fun b hb=>?_⟩
  ·rcases List.mem_cons.mp hu with e | m
   ·rw [e]
    exact a1.mono kA
   ·exact (b1 u m).mono kB
  ·rcases List.mem_append.mp hb with m | m
   ·exact (a2 b m).mono kA
   ·exact (b2 b m).mono kB
end
end
def hoOf (o:Obj):Option HO:=match o.data with
 | .seq vs _=>if (o.cls==Value.type "list")=true then some (.frz o (.lst (vs.toList.map toV))) else some (.frz o (.tup (vs.toList.map toV)))
 | _=>none
def argH (K:PySem.W.Frag) (h:Heap) (A:List Addr):Hp:=fun b=>if b∈A then (if (K.lookup b).isNone=true then (h.get? b).bind hoOf else none) else none
def OnlyF (H:Hp):Prop:=∀ b,H b=none∨∃ o u,H b=some (.frz o u)
theorem hoOf_lst (vs:List Value):hoOf { cls:=.type "list",data:=.seq vs.toArray }=some (.frz { cls:=.type "list",data:=.seq vs.toArray } (.lst (vs.map toV))):=by
 show (if (Value.type "list"==Value.type "list")=true then some (HO.frz { cls:=.type "list",data:=.seq vs.toArray } (.lst (vs.toArray.toList.map toV))) else some (HO.frz { cls:=.type "list",data:=.seq vs.toArray } (.tup (vs.toArray.toList.map toV))))=_
 rw [if_pos (beq_self_eq_true _)]
theorem hoOf_tup (vs:List Value):hoOf { cls:=.type "tuple",data:=.seq vs.toArray }=some (.frz { cls:=.type "tuple",data:=.seq vs.toArray } (.tup (vs.map toV))):=by
 show (if (Value.type "tuple"==Value.type "list")=true then some (HO.frz { cls:=.type "tuple",data:=.seq vs.toArray } (.lst (vs.toArray.toList.map toV))) else some (HO.frz { cls:=.type "tuple",data:=.seq vs.toArray } (.tup (vs.toArray.toList.map toV))))=_
 rw [if_neg (by decide)]
section
variable {P:Program}{w:World}{K:PySem.W.Frag}{h:Heap}{A:List Addr}
theorem argH_at {b:Addr}{o:Obj} (hb:b∈A) (hk:K.lookup b=none) (e:h.get? b=some o):argH K h A b=hoOf o:=by
 unfold argH
 rw [if_pos hb,hk,if_pos (show (none:Option Obj).isNone=true from rfl),e] <;> rfl
theorem of_argH {b:Addr}{u:HO} (q:argH K h A b=some u):b∈A∧K.lookup b=none:=by
 unfold argH at q
 by_cases hb:b∈A
 ·rw [if_pos hb] at q
  cases hk:K.lookup b with
  | none=>exact ⟨hb,rfl⟩
  | some o =>
   rw [hk,if_neg (by simp)] at q
   cases q
 ·rw [if_neg hb] at q
  cases q
theorem argH_is (ar:∀ a∈A,ArgOb h A a) {b:Addr}{u:HO} (q:argH K h A b=some u):K.lookup b=none∧∃ vs:List Value,vs.length≤sizeLine∧(∀ u∈vs,OkU A u) ∧
  ((h.get? b=some { cls:=.type "list",data:=.seq vs.toArray }∧u=.frz { cls:=.type "list",data:=.seq vs.toArray } (.lst (vs.map toV))) ∨
   (h.get? b=some { cls:=.type "tuple",data:=.seq vs.toArray }∧u=.frz { cls:=.type "tuple",data:=.seq vs.toArray } (.tup (vs.map toV)))):=by
 obtain ⟨hb,hk⟩:=of_argH q
 obtain ⟨vs,h1,h2,h3⟩:=ar b hb
 refine ⟨hk,vs,h1,h2,?_⟩
 rcases h3 with e | e
 ·rw [argH_at hb hk e,hoOf_lst] at q
  exact .inl ⟨e,(Option.some.inj q).symm⟩
 ·rw [argH_at hb hk e,hoOf_tup] at q
  exact .inr ⟨e,(Option.some.inj q).symm⟩
theorem argH_only (ar:∀ a∈A,ArgOb h A a):OnlyF (argH K h A):=fun b=>by
 cases q:argH K h A b with
 | none=>exact .inl rfl
 | some u =>
  obtain ⟨_,vs,_,_,⟨_,e⟩ | ⟨_,e⟩⟩:=argH_is ar q
  ·exact .inr ⟨_,_,by rw [e]⟩
  ·exact .inr ⟨_,_,by rw [e]⟩
theorem argH_ok (ar:∀ a∈A,ArgOb h A a):HOk P w (argH K h A) h:=fun b u q=>by
 obtain ⟨_,vs,h1,h2,⟨e,rfl⟩ | ⟨e,rfl⟩⟩:=argH_is ar q
 ·exact ⟨e,by rw [List.length_map];exact h1,vs,_,vals_toV h2,e⟩
 ·exact ⟨e,by rw [List.length_map];exact h1,vs,vals_toV h2,_,e,rfl,_,rfl⟩
theorem seq_inj {c c':Value}{vs us:List Value} (e:(some { cls:=c,data:=.seq vs.toArray }:Option Obj)=some { cls:=c',data:=.seq us.toArray }):c=c'∧vs=us:=by
 have e1:=Option.some.inj e
 have e2:c=c':=congrArg Obj.cls e1
 have e3:Data.seq vs.toArray=Data.seq us.toArray:=congrArg Obj.data e1
 injection e3 with e4
 refine ⟨e2,?_⟩
 have e5:=congrArg Array.toList e4
 simpa using e5
theorem argL (KX:K.In h) (ar:∀ a∈A,ArgOb h A a) {a:Addr}{vs:List Value} (ha:a∈A) (e:h.get? a=some { cls:=.type "list",data:=.seq vs.toArray }):(∀ u∈vs,OkU A u)∧SqL K (argH K h A) a (vs.map toV):=by
 obtain ⟨us,h1,h2,h3⟩:=ar a ha
 have hu:us=vs:=by
  rcases h3 with q | q
  ·rw [e] at q
   exact (seq_inj q).2.symm
  ·rw [e] at q
   exact absurd (Value.type.inj (seq_inj q).1) (by decide)
 subst hu
 refine ⟨h2,?_⟩
 cases hk:K.lookup a with
 | none=>exact .inl (.inr ⟨_,by rw [argH_at ha hk e,hoOf_lst]⟩)
 | some o =>
  have e2:=KX a o hk
  rw [e] at e2
  obtain rfl:=Option.some.inj e2
  exact .inr ⟨_,us.toArray,_,hk,rfl,rfl,rfl,by rw [List.size_toArray];exact h1,by simpa using vals_toV h2⟩
theorem argT (KX:K.In h) (ar:∀ a∈A,ArgOb h A a) {a:Addr}{vs:List Value} (ha:a∈A) (e:h.get? a=some { cls:=.type "tuple",data:=.seq vs.toArray }):(∀ u∈vs,OkU A u)∧SqT K (argH K h A) a (vs.map toV):=by
 obtain ⟨us,h1,h2,h3⟩:=ar a ha
 have hu:us=vs:=by
  rcases h3 with q | q
  ·rw [e] at q
   exact absurd (Value.type.inj (seq_inj q).1) (by decide)
  ·rw [e] at q
   exact (seq_inj q).2.symm
 subst hu
 refine ⟨h2,?_⟩
 cases hk:K.lookup a with
 | none=>exact .inl (.inr ⟨_,by rw [argH_at ha hk e,hoOf_tup]⟩)
 | some o =>
  have e2:=KX a o hk
  rw [e] at e2
  obtain rfl:=Option.some.inj e2
  exact .inr ⟨_,us.toArray,_,hk,rfl,rfl,by rw [List.size_toArray];exact h1,by simpa using vals_toV h2⟩
mutual
theorem dw_one {Pm:Params} (KX:K.In h) (ar:∀ a∈A,ArgOb h A a):∀ (d:WData) (v:Value),Well Pm h v d→plW d=true→OkU A v→Dw K (argH K h A) (toV v) d
 | .none,_,x,_,_=>by
  cases x
  exact .non
 | .bool b,_,x,_,_=>by
  cases x
  exact .bl b
 | .int i,_,x,_,_=>by
  cases x
  exact .int i
 | .str s,_,x,_,_=>by
  cases x
  exact .str s
 | .bytes b,_,x,_,_=>by
  cases x
  have z:=Dw.byt (K:=K) (H:=argH K h A) b.toArray
  exact z
 | .list ds,_,x,p,hu=>by
  obtain ⟨a,vs,rfl,ho,hall⟩:=well_list x
  obtain ⟨h2,hs⟩:=argL KX ar hu ho
  exact .lst hs (dw_all KX ar ds _ hall p h2)
 | .tuple ds,_,x,p,hu=>by
  obtain ⟨a,vs,rfl,ho,hall⟩:=well_tuple x
  obtain ⟨h2,hs⟩:=argT KX ar hu ho
  exact .tup hs (dw_all KX ar ds _ hall p h2)
 | .float _,_,_,p,_=>Bool.noConfusion (show false=true from p)
 | .dict _,_,_,p,_=>Bool.noConfusion (show false=true from p)
 | .bytearray _,_,_,p,_=>Bool.noConfusion (show false=true from p)
 | .set _,_,_,p,_=>Bool.noConfusion (show false=true from p)
 | .frozenset _,_,_,p,_=>Bool.noConfusion (show false=true from p)
 | .obj _ _,_,_,p,_=>Bool.noConfusion (show false=true from p)
theorem dw_all {Pm:Params} (KX:K.In h) (ar:∀ a∈A,ArgOb h A a):∀ (ds:List WData) (vs:List Value),WellAll Pm h vs ds→plWs ds=true→(∀ u∈vs,OkU A u)→DwAll K (argH K h A) (vs.map toV) ds
 | [],_,x,_,_=>by
  cases x
  exact .nil
 | d::ds,_,x,p,hu=>by
  obtain ⟨v,vs,rfl,x1,x2⟩:=well_cons x
  have q:plW d=true∧plWs ds=true:=Bool.and_eq_true_iff.mp p
  exact .cons (dw_one KX ar d v x1 q.1 (hu _ (List.mem_cons_self ..))) (dw_all KX ar ds vs x2 q.2 fun u m=>hu u (List.mem_cons_of_mem _ m))
end
end
theorem layable_weight {ds:List WData} (h:WData.layableAll ds=true):∀ d∈ds,d.weight≤1048576:=fun d hd =>
 (PySem.W.layableW_iff.mp (List.all_eq_true.mp h d hd)).2.2
theorem encAll_len:∀ (cs:List Codec) (a:Codec.denoteAll cs),(Codec.encAll cs a).length=cs.length
 | [],_=>rfl
 | c::cs,a=>by
  show (Codec.encAll cs a.2).length+1=cs.length+1
  rw [encAll_len cs a.2]
end L2
end
end
section
set_option maxRecDepth 100000
namespace L2
open PySem PySem.Spec PyProof.Rows
theorem ObjOk.is {P:Program}{w:World}{H:Hp}{h:Heap}{a:Addr}{o:HO} (x:ObjOk P w H h a o):∃ ob,h.get? a=some ob:=by
 cases o with
 | lst xs=>exact let ⟨_,_,_,_,e⟩:=x;⟨_,e⟩
 | tup xs=>exact let ⟨_,_,_,ob,e,_⟩:=x;⟨ob,e⟩
 | dK kvs=>exact let ⟨_,_,_,_,ob,_,_,e,_⟩:=x;⟨ob,e⟩
 | dT kvs=>exact let ⟨_,_,_,_,ob,_,_,e,_⟩:=x;⟨ob,e⟩
 | set S n=>exact let ⟨ob,_,_,_,e,_⟩:=x;⟨ob,e⟩
 | ins C dx fs=>exact let ⟨_,_,_,e,_⟩:=x;⟨_,e⟩
 | own y=>exact x
 | xd fs=>exact let ⟨_,⟨ob,_,_,e,_⟩,_⟩:=x;⟨ob,e⟩
 | rng lo hi=>exact let ⟨_,_,_,e⟩:=x;⟨_,e⟩
 | frz ob u=>exact let ⟨e,_⟩:=x;⟨_,e⟩
 | tbl ps=>exact ⟨_,(show h.get? a=some _ from x)⟩
 | met f y=>exact ⟨_,(show h.get? a=some _ from x)⟩
 | ext φ=>exact let ⟨_,e,_⟩:=x;e
theorem HOk.none {P:Program}{w:World}{H:Hp}{h:Heap}{a:Addr} (x:HOk P w H h) (e:h.get? a=Option.none):H a=Option.none:=by
 cases q:H a with
 | none=>rfl
 | some o =>
  obtain ⟨ob,z⟩:=(x a o q).is
  rw [e] at z;cases z
def Fly (h:Heap) (e T:Addr) (cls:Value):Prop :=
 ∃ oe vs a0 oT ts,h.get? e=some oe∧(oe.cls=cls∧vs[0]?=some a0)∧oe.data=.fields vs∧vs[1]?=some (.ref T)∧T≠e∧h.get? T=some oT∧oT.data=.fields ts∧ts[3]?=some .none
structure Flown (P:Program) (w:World) (cls:Value) (l:List Env) (H H':Hp) (h h':Heap) (e T:Addr):Prop where
 un:Un (frs l) [] H H' h h'
 hok:HOk P w H' h'
 ne:h.get? e=none
 nT:h.get? T=none
 fe:H' e=none
 fT:H' T=none
 fly:Fly h' e T cls
def CX1 (P:Program) (w:World) (C:Addr):CXT:=fun outer H s E v s' =>
 ∃ e T H',v=.ref e∧s'.os=s.os∧AllBare s'.gens∧Flown P w (.ref C) outer H H' s.heap s'.heap e T∧E (.ref C) none H'
def cover (h:Heap) (l:List Env) (e T:Addr):Heap:=PySem.W.hideAll h (frs l++[e,T])
theorem cover_get {h:Heap}{l:List Env}{e T b:Addr}{o:Obj} (q:h.get? b=some o) (n:b ∉ frs l) (ne:b≠e) (nT:b≠T):(cover h l e T).get? b=some o :=
 PySem.W.hideAll_get _ q fun m=>by
  rcases List.mem_append.mp m with z | z
  ·exact n z
  ·simp at z;exact z.elim ne nT
theorem cover_stays {h:Heap}{l:List Env}{e T:Addr}:(cover h l e T).StaysIn h:=fun _ _ q=>PySem.W.of_hideAll _ q
theorem flown_on {P:Program}{w:World}{cls a0:Value}{l l':List Env}{H H':Hp}{h h' h2:Heap}{e T:Addr}{bs:Heap} (un:Un (frs l) [] H H' h h') (hok:HOk P w H' h') (ne:h.get? e=none) (nT:h.get? T=none) (fe:H' e=none) (fT:H' T=none)
  (hf:h'.FunFrames bs l) (fr:∀ b∈frs l,H' b=none) (fl:Heap.FlyingW (cover h' l e T) l' e cls a0 h2) (up:h'.UpToSlots h2) :
  ∃ T',Flown P w cls l H H' h h2 e T':=by
 obtain ⟨st,_,_,oe,vs,T',oT,ts,he,hc,hd,h1,nT',hne,hT,hdT,h3⟩:=fl
 have kp:∀ b o,h'.get? b=some o→b ∉ frs l→b≠e→b≠T→h2.get? b=some o:=fun b o q n n1 n2=>st b o (cover_get q n n1 n2)
 have sl:∀ b o,h'.get? b=some o→b∈frs l→∃ s,h2.get? b=some { o with slots:=s }:=fun b o q m=>by
  obtain ⟨_,o',ho',hnf⟩:=hf.mem m
  rw [q] at ho';cases ho'
  exact up b o q hnf
 have nn:∀ b o,h.get? b=some o→b≠e∧b≠T:=fun b o q=>⟨fun z=>(by rw [z,ne] at q;cases q),fun z=>(by rw [z,nT] at q;cases q)⟩
 have tk:∀ b u,H' b=some u→b ∉ frs l∧b≠e∧b≠T:=fun b u q=>⟨fun z=>(by rw [fr b z] at q;cases q),fun z=>(by rw [z,fe] at q;cases q),fun z=>(by rw [z,fT] at q;cases q)⟩
 have nofr:T' ∉ frs l:=fun m=>by
  obtain ⟨_,o',ho',hnf⟩:=hf.mem m
  obtain ⟨s,hs⟩:=sl T' o' ho' m
  rw [hT] at hs;cases hs
  exact hnf _ hdT
 refine ⟨T',⟨fun b o q n hb hx=>kp b o (un.keep b o q n hb hx) hb (nn b o q).1 (nn b o q).2,fun b o q n hb hx=>?_,un.free,fun b o q hx=>?_,un.tups,un.frzs,un.tbls⟩,fun b u q=>?_,ne,?_,fe,?_,⟨oe,vs,a0,oT,ts,he,hc,hd,h1,hne,hT,hdT,h3⟩⟩
 ·obtain ⟨s,e1⟩:=un.slot b o q n hb hx
  obtain ⟨s2,e2⟩:=sl b _ e1 hb
  exact ⟨s2,e2⟩
 ·obtain ⟨o',e1⟩:=un.there b o q hx
  by_cases m:b∈frs l
  ·obtain ⟨s,e2⟩:=sl b _ e1 m
   exact ⟨_,e2⟩
  ·exact ⟨o',kp b o' e1 m (nn b o q).1 (nn b o q).2⟩
 ·refine (hok b u q).stay (fun c v hc r=>?_) (fun _ z=>z) fun _ _ z=>z
  have z:∃ u',H' c=some u':=by
   rcases hc with rfl | hc
   ·exact ⟨u,q⟩
   ·exact ⟨_,hc⟩
  obtain ⟨u',z⟩:=z
  exact kp c v r (tk c u' z).1 (tk c u' z).2.1 (tk c u' z).2.2
 ·cases q:h.get? T' with
  | none=>rfl
  | some o =>
   obtain ⟨o',e1⟩:=un.there T' o q (by simp)
   rw [cover_get e1 nofr hne (nn T' o q).2] at nT'
   cases nT'
 ·cases q:H' T' with
  | none=>rfl
  | some u =>
   obtain ⟨ob,z⟩:=(hok _ _ q).is
   rw [cover_get z nofr hne (tk _ _ q).2.2] at nT'
   cases nT'
theorem cover_e {h:Heap}{l:List Env}{e T:Addr}:(cover h l e T).get? e=none:=PySem.W.hideAll_none _ (by simp)
theorem cover_T {h:Heap}{l:List Env}{e T:Addr}:(cover h l e T).get? T=none:=PySem.W.hideAll_none _ (by simp)
theorem cover_frames {h bs:Heap}{l:List Env}{e T:Addr} (hf:h.FunFrames bs l):h.FunFrames (cover h l e T) l :=
 PySem.W.funFrames_hide hf fun env he a ha=>List.mem_append_left _ (List.mem_filterMap.mpr ⟨env,he,ha⟩)
theorem Fly.traced {h:Heap}{l:List Env}{e T:Addr}{cls:Value} (f:Fly h e T cls):∃ a0,h.TracedW (cover h l e T) e cls a0:=by
 obtain ⟨oe,vs,a0,oT,ts,he,hc,hd,h1,hne,hT,hdT,h3⟩:=f
 exact ⟨a0,oe,vs,T,oT,ts,he,hc,hd,h1,cover_T,hne,hT,hdT,h3⟩
theorem Inv.flown {X:Cx}{pins:List (Addr×Obj)}{σ:St}{H H':Hp}{s s':Shared}{cls:Value}{e T:Addr} (I:Inv X pins σ H s) (os:s'.os=s.os) (bare:AllBare s'.gens)
  (F:Flown X.prog X.w cls X.stack H H' s.heap s'.heap e T):Inv X pins σ H' s':=I.call' os F.un F.hok bare fun b z=>absurd z (by simp)
section
variable {P:Program}{w:World}{K:PySem.W.Frag}{mg:Str→Option Value}{base:Heap}{N:List Str}{qual:Str}{scope:Scope}{f C:Addr}{cd:Value}{A:Around}{outer:List Env}{s:Shared}{H:Hp}{E:XK}
abbrev cxE (P:Program) (w:World) (K:PySem.W.Frag) (mg:Str→Option Value) (base:Heap) (C:Addr) (N:List Str) (qual:Str) (scope:Scope) (f:Addr) (cd:Value) (A:Around) (outer:List Env) (s:Shared) (H:Hp) (E:XK):Cx :=
 cxOf (CX1 P w C) P w K mg base N qual scope f cd A outer s H E
theorem flown_out {pins:List (Addr×Obj)}{σ:St}{H1 H':Hp}{s1 s2:Shared}{e T:Addr} (I:Inv (cxE P w K mg base C N qual scope f cd A outer s H E) pins σ H1 s1) (os:s2.os=s1.os) (bare:AllBare s2.gens)
  (F:Flown P w (.ref C) (cxE P w K mg base C N qual scope f cd A outer s H E).stack H1 H' s1.heap s2.heap e T) (hE:E (.ref C) none H'):CX1 P w C outer H s E (.ref e) s2:=by
 have J:=I.flown os bare F
 have old:∀ b,s1.heap.get? b=none→s.heap.get? b=none:=fun b n=>by
  cases q:s.heap.get? b with
  | none=>rfl
  | some o =>
   obtain ⟨o',z⟩:=I.base.there b o q (by show b ∉ ([]:List Addr);simp)
   rw [n] at z;cases z
 exact ⟨e,T,H',rfl,J.os,J.bare,⟨J.base,J.hok,old _ F.ne,old _ F.nT,F.fe,F.fT,F.fly⟩,hE⟩
theorem passX:Passes (CX1 P w C) (cxE P w K mg base C N qual scope f cd A outer s H E) E:=by
 intro pins σ H1 s1 v s' I h
 obtain ⟨e,T,H',rfl,os,bare,F,hE⟩:=h
 have J:=I.flown os bare F
 obtain ⟨a0,tr⟩:=F.fly.traced (l:=(cxE P w K mg base C N qual scope f cd A outer s H E).stack)
 refine wpAny_leaves_onW (L:=s.heap.objs.size) J.ok.frames rfl ⟨cover_stays,cover_e,cover_frames J.stack,tr⟩ fun h2 fl up=>?_
 obtain ⟨T',F'⟩:=flown_on F.un F.hok F.ne F.nT F.fe F.fT J.stack J.stkFree fl up
 exact flown_out (s2:={ s' with heap:=h2 }) I os bare F' hE
theorem throwX {pins:List (Addr×Obj)}{σ:St}{H1:Hp}{s1:Shared}{e:Addr}{h':Heap}{vs:List Value} (I:Inv (cxE P w K mg base C N qual scope f cd A outer s H E) pins σ H1 s1) (m:Heap.MadeExcOf s1.heap h' e (.ref C) vs) (hE:E (.ref C) none H1) :
  (cxE P w K mg base C N qual scope f cd A outer s H E).xe (.ref e) { s1 with heap:=h' }:=by
 have fe:=I.hok.none m.new
 refine wpAny_leaves_madeW (base:=cover s1.heap (cxE P w K mg base C N qual scope f cd A outer s H E).stack e e) (h:=s1.heap) (L:=s.heap.objs.size) I.ok.frames rfl cover_stays (cover_frames I.stack) m fun h2 t fl _ _ up=>?_
 obtain ⟨T',F'⟩:=flown_on (Un.refl) I.hok m.new m.new fe fe I.stack I.stkFree fl ((Heap.UpToSlots.of_keeps m.keeps).trans up)
 exact flown_out (s2:={ s1 with heap:=h2 }) I rfl I.bare F' hE
end
structure Exc (K:PySem.W.Frag) (mg:Str→Option Value) (x:Str) (C:Addr):Prop where
 mgE:mg x=some (.ref C)
 q:PySem.W.excIn K C [.type "ValueError",.type "Exception",.type "BaseException",.type "object"] "ValueError.__new__"=true
theorem Exc.obj {K:PySem.W.Frag}{mg:Str→Option Value}{x:Str}{C:Addr}{h:Heap} (T:Exc K mg x C) (X:K.In h) :
  OwnCls x C [.type "ValueError",.type "Exception",.type "BaseException",.type "object"] "ValueError.__new__" mg h:=by
 refine ⟨T.mgE,?_⟩
 have q:=T.q
 unfold PySem.W.excIn at q
 split at q
 ·rename_i dd cd sl ho
  split at q
  ·rename_i C' bm k0 k1 k2 k3 n k5 hm hs
   simp only [Bool.and_eq_true,beq_iff_eq,Bool.not_eq_true'] at q
   obtain ⟨⟨⟨⟨⟨e1,e2⟩,e3⟩,e4⟩,e5⟩,e6⟩:=q
   subst e1;subst e2
   obtain ⟨nm,bs,mro,ns,qn,hd,sn,sub,ab,col,del⟩:=cd
   dsimp only at hm e3 e5 e6
   subst hm;subst e3
   have es:sl=#[k0,k1,k2,k3,some (.builtin "ValueError.__new__"),k5]:=by
    cases sl;simp only at hs;rw [hs]
   subst es
   exact ⟨bm,ns,nm,qn,bs,hd,sn,sub,ab,col,dd,k0,k1,k2,k3,k5,_,X _ _ ho,.of_isNs (PySem.W.isNs_of_in X e5),PySem.W.nsMap_none_of_in X e5 e6,PySem.W.tail_of_in X e4⟩
  ·cases q
 ·cases q
def tRaise (C:Addr) (E:XK) (ta:TA):TS:=fun _ σ H=>ta σ H fun vs H1=>vs.length≤sizeLine∧E (.ref C) none H1
theorem ps_raise {P:Program}{w:World}{K:PySem.W.Frag}{mg:Str→Option Value}{base:Heap}{N:List Str}{qual:Str}{scope:Scope}{f C:Addr}{cd:Value}{A:Around}{outer:List Env}{s:Shared}{H:Hp}{E:XK}{x:Str}{np cpos pos:Pos}{a:Expr}{as:List Expr}{ta:TA}
  (T:Exc K mg x C) (hg:Gl (cxE P w K mg base C N qual scope f cd A outer s H E) x) (ha:PA (cxE P w K mg base C N qual scope f cd A outer s H E) (a::as) ta)
  (he:starEach (a::as) (cxE P w K mg base C N qual scope f cd A outer s H E).env=(false,eval a (cxE P w K mg base C N qual scope f cd A outer s H E).env)::starEach as (cxE P w K mg base C N qual scope f cd A outer s H E).env:=by rfl)
  (hpl:(backTo cpos (starEach as (cxE P w K mg base C N qual scope f cd A outer s H E).env)).any (·.1)=false:=by rfl) (hdb:(x==("__debug__":Str))=false:=by decide) :
  PS (cxE P w K mg base C N qual scope f cd A outer s H E) (.Raise (some (.Call (.Name x np) (a::as) [] cpos)) none pos) (tRaise C E ta):=by
 intro pins s1 σ H1 D I h
 obtain ⟨bm,N',nm,q,bs,hdct,sn,sub,ab,col,dd,k0,k1,k2,k3,k5,mN,hC,hN,hni,TL⟩:=(T.obj I.ok.mod.kin).obj
 refine wpAny_Raise_call_subU (C:=C) (nm:=nm) (q:=q) (N:=N') (bs:=bs) (bm:=bm) (hdct:=hdct) (sn:=sn) (sub:=sub) (ab:=ab) (col:=col) (dd:=dd) (k0:=k0) (k1:=k1) (k2:=k2) (k3:=k3) (k5:=k5) (mN:=mN)
  PySem.F.excBase_ValueError (by decide) PySem.F.excBase_ValueError (TL.hasType (by decide)) (I.ok.hd rfl) (by rw [he];exact hpl) hni (ld_glob I hg T.mgE ⟨rfl,?_⟩ hdb)
 have hw:=ha cpos pins s1 σ H1 _ I h
 rw [he] at hw ⊢
 refine Calls.evalArgs_plain (thn hw fun us s2 ⟨vs,H2,I2,r,hl,hq⟩=>⟨rfl,?_,I2.bk _ _ hC,hN.keeps I2.bk,TL.keeps I2.bk,fun h' e m=>throwX I2 m hq⟩)
 show us.length≤sizeLine
 rw [← r.length];exact hl
abbrev Cx.marked (X:Cx) (e:Addr):Cx:={ X with A:=X.A.mark (some (.ref e)),calm:=false,xe:=fun _ _=>False }
section
variable {X:Cx}{pins:List (Addr×Obj)}{σ:St}{H:Hp}{s:Shared}{e:Addr}
theorem Inv.marked (I:Inv X pins σ H s) (e:Addr):Inv (X.marked e) pins σ H s :=
 ⟨⟨I.ok.mod,I.ok.kind,I.ok.glob,I.ok.blt,I.ok.above,I.ok.inj,I.ok.has,I.ok.cab,fun z=>absurd z (by simp),I.ok.frames,I.ok.stk,I.ok.exf,I.ok.bs,I.ok.bsz,I.ok.noex,I.ok.exfs,I.ok.funs,I.ok.frf⟩,
  I.os,I.bare,I.base,I.loc,I.cell,I.free,I.freeC,I.pin,I.hok,I.len⟩
theorem Inv.unmarked (ok:X.Ok) (I:Inv (X.marked e) pins σ H s):Inv X pins σ H s :=
 ⟨ok,I.os,I.bare,I.base,I.loc,I.cell,I.free,I.freeC,I.pin,I.hok,I.len⟩
theorem SP.unmarked (ok:X.Ok) {D:Ends}{f:Flow}{s':Shared} (h:SP (X.marked e) pins D f s'):SP X pins D f s':=by
 cases f with
 | next=>obtain ⟨σ',H',I,q⟩:=h;exact ⟨σ',H',I.unmarked ok,q⟩
 | brk=>obtain ⟨σ',H',I,q⟩:=h;exact ⟨σ',H',I.unmarked ok,q⟩
 | cont=>obtain ⟨σ',H',I,q⟩:=h;exact ⟨σ',H',I.unmarked ok,q⟩
 | ret u=>obtain ⟨v,σ',H',I,r,q⟩:=h;exact ⟨v,σ',H',I.unmarked ok,r,q⟩
end
abbrev TX:=Ends→XK→St→Hp→Prop
def FlewAt (X:Cx) (C:Addr) (pins:List (Addr×Obj)) (σ:St) (E:XK) (v:Value) (s':Shared):Prop:=∃ s1 H1,Inv X pins σ H1 s1∧CX1 X.prog X.w C X.stack H1 s1 E v s'
def PXS (X:Cx) (C:Addr) (st:Stmt) (t:TX):Prop :=
 ∀ (pins:List (Addr×Obj)) (s:Shared) (σ:St) (H:Hp) (D:Ends) (E:XK),Inv X pins σ H s→t D E σ H→wpAny (model X.prog X.w) X.A (exec st X.env) (SP X pins D) (FlewAt X C pins σ E) s
def PXE (X:Cx) (C:Addr) (e:Expr) (t:St→Hp→VK→XK→Prop):Prop :=
 ∀ (pins:List (Addr×Obj)) (s:Shared) (σ:St) (H:Hp) (Q:VK) (E:XK),Inv X pins σ H s→t σ H Q E→wpAny (model X.prog X.w) X.A (eval e X.env) (EP X pins σ Q) (FlewAt X C pins σ E) s
def tCallX (sp:Sp) (dvs:List V) (t:TA):St→Hp→VK→XK→Prop:=fun σ H Q E=>t σ H fun vs H1=>sp (vs++dvs) H1 Q E
section
variable {X:Cx}{k:Nat}{f C:Addr}{fd:FuncData}{ps:List Str}{sp:Sp}{dvs:List V}{ds:List Value}{x:Str}{p pos:Pos}{e:Expr}{es:List Expr}{t:TA}
theorem pxs_set {i:Nat}{y:Str}{pos':Pos}{te:St→Hp→VK→XK→Prop} (hN:X.N.Nodup) (hi:X.N[i]?=some y) (hx:Loc X.env.scope y) (he:PXE X C e te) (hs:swapsWith e (some (.Name y pos')) pos.line X.env=pure false:=by rfl)
  (hf:X.fn y=true∨X.env.scope.names.lookup y=some .local:=by first | exact .inl rfl | exact .inr rfl | assumption):PXS X C (.Assign [.Name y pos'] e pos) (fun D E σ H=>te σ H (fun v H1=>D.nx (σ.set i (some v)) H1) E):=by
 intro pins s σ H D E I h
 refine wpAny_Assign_Name (thn (he pins s σ H _ E I h) fun v s1 ⟨z,H1,I1,r1,q1⟩=>?_) hs
 exact store_ok I1 hN hi hx r1 (fun s2 I2=>⟨_,H1,I2,q1⟩) hf
theorem caught {x:Str}{np hpos:Pos}{b0:Stmt}{suite:List Stmt}{ts:Addr→TS}{pins:List (Addr×Obj)}{σ:St}{D:Ends}{v:Value}{s':Shared} (T:Exc X.K X.mg x C) (hg:Gl X x) (hst:X.stack=X.env::X.outer∧X.env.frame=some X.env.locals)
  (hs:∀ e,PSs (X.marked e) (b0::suite) (ts e)) (h:FlewAt X C pins σ (fun _ _ H1=>∀ e,ts e D σ H1) v s') (hdb:(x==("__debug__":Str))=false:=by decide) :
  wpAny (model X.prog X.w) X.A (noteFrame v X.env) (fun _ s₂=>wpAny (model X.prog X.w) X.A (setFlight v none) (fun _ s₃ =>
   wpAny (model X.prog X.w) X.A (handleBy v X.env [.ExceptHandler (some (.Name x np)) none (b0::suite) hpos]) (SP X pins D) X.xe s₃) X.xe s₂) X.xe s':=by
 obtain ⟨s1,H1,I,e,T0,H',rfl,os,bare,F,hq⟩:=h
 have J:=I.flown os bare F
 obtain ⟨a0,tr⟩:=F.fly.traced (l:=X.stack)
 have hfr:X.A.frames=some (X.env::X.outer):=by rw [← hst.1];exact J.ok.frames
 have fl0:Heap.FlyingW (cover s'.heap X.stack e T0) (X.env::X.outer) e (.ref C) a0 s'.heap:=⟨cover_stays,cover_e,by rw [← hst.1];exact cover_frames J.stack,tr⟩
 refine wpAny_looks_onW hfr hst.2 fl0 fun h4 held4 up4=>?_
 refine wpAny_landsW held4 fun h5 fl5 up5'=>?_
 have up5:=up4.trans up5'
 obtain ⟨T5,F5⟩:=flown_on F.un F.hok F.ne F.nT F.fe F.fT J.stack J.stkFree fl5 up5
 have I5:Inv X pins σ H' { s' with heap:=h5 }:=I.flown (s':={ s' with heap:=h5 }) os bare F5
 obtain ⟨ob,hob,hobc⟩:=fl5.there
 obtain ⟨bm,N',nm,q,bs,hdct,sn,sub,ab,col,dd,k0,k1,k2,k3,k5,mN,hC,hN,hni,TL⟩:=(T.obj I5.kIn).obj
 refine wpAny_handleBy_cons (codeAny_handlers_test ?_) (by intro q;cases q)
 refine ld_glob (I5.marked e) hg T.mgE ?_ hdb
 refine wpAny_excMatches_sub_self hC hob hobc (TL.hasType (by decide)) (codeAny_handlers_suite ?_)
 refine lands_againW fl5 fun h6 fl6 up6=>?_
 obtain ⟨T6,F6⟩:=flown_on F.un F.hok F.ne F.nT F.fe F.fT J.stack J.stkFree fl6 (up5.trans up6)
 have I6:Inv X pins σ H' { s' with heap:=h6 }:=I.flown (s':={ s' with heap:=h6 }) os bare F6
 exact wpAny_mono (hs e pins _ σ H' D (I6.marked e) (hq e)) (fun f s2 q=>q.unmarked I6.ok) fun _ _ z=>False.elim z
end
end L2
end
section
namespace L2
open PySem PySem.Spec PyProof.Rows PySem.Calls
section
variable {X:Cx}
def tFv (te:TE):TE:=fun σ H Q=>te σ H fun v H1=>∃ i:Int,v=.int i∧i.natAbs.log2<1920∧Q (.str (toString i)) H1
theorem pe_fv {e:Expr}{te:TE}{pos:Pos} (he:PE X e te):PE X (.FormattedValue e (-1) none pos) (tFv te):=by
 intro pins s σ H Q I h
 refine FormattedValue_plain (thn (he pins s σ H _ I h) fun u s1 ⟨v,H1,I1,r,i,e,hi,q⟩=>?_)
 subst e
 obtain ⟨t,rfl⟩:=r
 exact formatField_int_small hi ⟨.str (toString i),H1,I1.tok _,⟨_,rfl⟩,q⟩
def tJoin:List TE→Str→TE
 | [],acc=>fun _ H Q=>acc.length≤sizeLine∧Q (.str acc) H
 | t::ts,acc=>fun σ H Q=>t σ H fun v H1=>∃ x,v=.str x∧(acc++x).length≤sizeLine∧tJoin ts (acc++x) σ H1 Q
inductive PEs (X:Cx):List Expr→List TE→Prop
 | nil:PEs X [] []
 | cons {e:Expr}{t:TE}{es:List Expr}{ts:List TE}:PE X e t→PEs X es ts→PEs X (e::es) (t::ts)
theorem joinT {es:List Expr}{ts:List TE} (h:PEs X es ts):∀ (acc:Str) {pins:List (Addr×Obj)}{s:Shared}{σ:St}{H:Hp}{Q:VK},Inv X pins σ H s→tJoin ts acc σ H Q →
  wpAny (model X.prog X.w) X.A (joinParts acc (evalEach es X.env)) (EP X pins σ Q) X.xe s:=by
 induction h with
 | nil =>
  intro acc pins s σ H Q I ⟨hz,q⟩
  exact joinParts_nil ⟨.str acc,H,I.tok _,⟨_,rfl⟩,q⟩ hz
 | cons he hs ih =>
  intro acc pins s σ H Q I h
  refine joinParts_cons (thn (he pins s σ H _ I h) fun u s1 ⟨v,H1,I1,r,x,e,hx,q⟩=>?_)
  subst e
  obtain ⟨t,rfl⟩:=r
  exact ⟨hx,ih _ I1 q⟩
theorem pe_fstr {e1 e2:Expr}{es:List Expr}{ts:List TE}{pos:Pos} (h:PEs X (e1::e2::es) ts):PE X (.JoinedStr (e1::e2::es) pos) (tJoin ts Str.empty):=by
 intro pins s σ H Q I q
 exact JoinedStr_many (joinT h _ I q)
end
end L2
end
section
set_option maxRecDepth 100000
namespace L2
open PySem PySem.Spec PyProof.Rows
section
variable {P:Program}{w:World}{K:PySem.W.Frag}{mg:Str→Option Value}{base:Heap}
theorem Fun.okE {x qual:Str}{st:Stmt}{f C:Addr}{fd:FuncData}{N ps:List Str}{k:Nat}{sp:Sp} (F:Fun K x qual st f fd) (S:FnScope N ps (defScope st)) (len:∀ vs H Q E,sp vs H Q E→vs.length=ps.length)
  (hbody:∀ (cdv:Value) (A:Around) (outer:List Env) (s:Shared) (H:Hp) (vs:List V) (Q:VK) (E:XK),Room k (A.deeper (envOfC qual (defScope st) s.heap.objs.size f cdv))→sp vs H Q E →
   ∃ t,PSs (cxE P w K mg base C N qual (defScope st) f cdv A outer s H E) (defBody st) t∧t { nx:=fun _ H'=>Q .non H',rt:=Q } (start N vs) H):FnOk P w K mg base (CX1 P w C) (k+1) f fd ps sp:=by
 obtain ⟨oc,od,kV,doc,pm,an,cdv,ct,osl,rfl,lk,hcd⟩:=F.ex
 exact fn_of lk hcd S len fun A outer s H vs Q E hr hsp=>hbody cdv A outer s H vs Q E hr hsp
end
structure FnC (P:Program) (w:World) (K:PySem.W.Frag) (mg:Str→Option Value) (base:Heap) (CX:CXT) (k:Nat) (x:Str) (ps:List Str) (sp:Sp):Prop where
 ex:∃ f fd,mg x=some (.ref f)∧PySem.W.keepIn K (.ref f)=true∧Binds K fd ps []∧FnOk P w K mg base CX k f fd ps sp
structure MethC (P:Program) (w:World) (K:PySem.W.Frag) (mg:Str→Option Value) (base:Heap) (CX:CXT) (k:Nat) (C:Addr) (m:Str) (ps:List Str) (sp:Sp):Prop where
 ex:∃ f fd,Meth K C m f∧Binds K fd ps []∧FnOk P w K mg base CX k f fd ps sp
structure MakeC (P:Program) (w:World) (K:PySem.W.Frag) (mg:Str→Option Value) (base:Heap) (CX:CXT) (k:Nat) (C:Addr) (x:Str) (ps:List Str) (sp:Sp):Prop where
 ex:∃ f fd,mg x=some (.ref C)∧Mk K C f∧Binds K fd ps []∧FnOk P w K mg base CX k f fd ps sp
section
variable {X:Cx}{CX:CXT}{j k:Nat}{C:Addr}{ps:List Str}{sp:Sp}{E:XK}{x m:Str}{p pos apos:Pos}{e o:Expr}{es:List Expr}{ta:TE}{t:TA}
theorem pe_callC (c:FnC X.prog X.w X.K X.mg X.base CX j x ps sp) (hr:Room k X.A) (hx:Passes CX X E) (ha:PA X (e::es) t) (hjk:j≤k:=by decide) (hg:Gl X x:=by rfl)
  (hdb:(x==("__debug__":Str))=false:=by decide) (he:starEach (e::es) X.env=(false,eval e X.env)::starEach es X.env:=by rfl) (hpl:(backTo pos (starEach es X.env)).any (·.1)=false:=by rfl) :
  PE X (.Call (.Name x p) (e::es) [] pos) (tCall sp [] E t):=by
 obtain ⟨f,fd,hm,hk,hb,F⟩:=c.ex
 exact pe_call F (hr.mono hjk) hg hm hk hb .nil hx ha hdb he hpl
theorem pe_methC {pl:Sem Bool} (he:PE X o ta) (c:Cls X.K C) (F:MethC X.prog X.w X.K X.mg X.base CX j C m ps sp) (hr:Room k X.A) (hx:Passes CX X E) (ha:PA X (e::es) t) (hjk:j≤k:=by decide)
  (hst:starEach (e::es) X.env=(false,eval e X.env)::starEach es X.env:=by rfl) (hpl:(backTo pos (starEach es X.env)).any (·.1)=false:=by rfl)
  (ht:eval (.Call (.Attribute o m apos) (e::es) [] pos) X.env=(do
   let ov ← eval o X.env
   standAt apos.atName
   let (f,first) ← holding [ov] (getMethod ov m pl)
   callWith pos f first (backTo pos (starEach (e::es) X.env)) (backToKw pos (keywordEach [] X.env))):=by rfl) :
  PE X (.Call (.Attribute o m apos) (e::es) [] pos) (tMeth C m sp [] E ta t):=by
 obtain ⟨f,fd,hm,hb,F⟩:=F.ex
 exact pe_meth he c hm F (hr.mono hjk) hb .nil hx ha hst hpl ht
theorem pe_methC0 {pl:Sem Bool} (he:PE X o ta) (c:Cls X.K C) (F:MethC X.prog X.w X.K X.mg X.base CX j C m ps sp) (hr:Room k X.A) (hx:Passes CX X E) (hjk:j≤k:=by decide)
  (ht:eval (.Call (.Attribute o m apos) [] [] pos) X.env=(do
   let ov ← eval o X.env
   standAt apos.atName
   let (f,first) ← holding [ov] (getMethod ov m pl)
   callWith pos f first (backTo pos (starEach [] X.env)) (backToKw pos (keywordEach [] X.env))):=by rfl) :
  PE X (.Call (.Attribute o m apos) [] [] pos) (tMeth C m sp [] E ta tNil):=by
 obtain ⟨f,fd,hm,hb,F⟩:=F.ex
 exact pe_meth0 he c hm F (hr.mono hjk) hb .nil hx ht
theorem pe_makeC (c:MakeC X.prog X.w X.K X.mg X.base CX j C x ps sp) (hr:Room k X.A) (hx:Passes CX X E) (ha:PA X (e::es) t) (hjk:j+1≤k:=by decide) (hg:Gl X x:=by rfl)
  (hdb:(x==("__debug__":Str))=false:=by decide) (he:starEach (e::es) X.env=(false,eval e X.env)::starEach es X.env:=by rfl) (hpl:(backTo pos (starEach es X.env)).any (·.1)=false:=by rfl) :
  PE X (.Call (.Name x p) (e::es) [] pos) (tMake C sp [] E t):=by
 obtain ⟨f,fd,hm,M,hb,F⟩:=c.ex
 exact pe_make M F (hr.mono hjk) hg hm hb .nil hx ha hdb he hpl
theorem pe_gint {i:Int} (h:∃ u,X.mg x=some (.int i u)) (hg:Gl X x:=by rfl) (hd:(x==("__debug__":Str))=false:=by decide):PE X (.Name x pos) (tC (.int i)):=by
 obtain ⟨u,h⟩:=h
 exact pe_glob hg h ⟨u,rfl⟩ hd
theorem pe_gref {a:Addr} (h:X.mg x=some (.ref a)) (hg:Gl X x:=by rfl) (hd:(x==("__debug__":Str))=false:=by decide):PE X (.Name x pos) (tC (.ref a)):=pe_glob hg h (show RelV (.ref a) (.ref a) from rfl) hd
end
def Kp (S:List Addr) (H H':Hp):Prop:=∀ b o,H b=some o→b ∉ S→H' b=some o
theorem Kp.refl {S:List Addr}{H:Hp}:Kp S H H:=fun _ _ e _=>e
theorem Kp.trans {S:List Addr}{H H1 H2:Hp} (a:Kp S H H1) (b:Kp S H1 H2):Kp S H H2:=fun c o e n=>b c o (a c o e n) n
theorem Kp.mono {S S':List Addr}{H H1:Hp} (a:Kp S H H1) (h:∀ b∈S,b∈S'):Kp S' H H1:=fun c o e n=>a c o e fun z=>n (h c z)
theorem Kp.put {S:List Addr}{H:Hp}{a:Addr}{o:HO} (h:a∈S):Kp S H (upd H a o):=fun c u e n=>by
 have z:c≠a:=fun z=>n (by rw [z];exact h)
 rw [upd_ne z];exact e
theorem Kp.new {S:List Addr}{H:Hp}{a:Addr}{o:HO} (h:H a=none):Kp S H (upd H a o):=fun c u e n=>by rw [upd_ne (ne_of_none e h)];exact e
theorem Kp.put2 {S:List Addr}{H H1:Hp}{a:Addr}{o:HO} (k:Kp S H H1) (h:a∈S∨H a=none):Kp S H (upd H1 a o):=fun c u e n=>by
 have z:c≠a:=fun z=>by
  subst z
  rcases h with h | h
  ·exact n h
  ·rw [h] at e;cases e
 rw [upd_ne z];exact k c u e n
theorem Kp.free {S:List Addr}{H H1:Hp} (k:Kp S H H1) {a:Addr} (n:a ∉ S) (h:H1 a=none):H a=none:=by
 cases q:H a with
 | none=>rfl
 | some o=>rw [k a o q n] at h;cases h
theorem Kp.seq {K:PySem.W.Frag}{S:List Addr}{H H':Hp}{a:Addr}{xs:List V} (e:Kp S H H') (n:a ∉ S) (h:SqL K H a xs):SqL K H' a xs:=by
 rcases h with (h | ⟨o,h⟩) | h
 ·exact .inl (.inl (e _ _ h n))
 ·exact .inl (.inr ⟨o,e _ _ h n⟩)
 ·exact .inr h
end L2
end
section
set_option maxRecDepth 100000
namespace L2
open PySem PySem.Spec PyProof.Rows
section
variable {σ:St}{H:Hp}{Q:VK}{D:Ends}{N B C2:St→Hp→Prop}{R:VK}{K:PySem.W.Frag}{E:XK}
theorem foldP {G:Prop} (h:∀ G':Prop,(G→G')→G'):G:=h G id
theorem g_hold {t u:TS} (h:∀ M:TS,(∀ D σ H,u D σ H→M D σ H)→t ⟨M ⟨N,R,B,C2⟩,R,B,C2⟩ σ H):tSeq t u ⟨N,R,B,C2⟩ σ H:=h u fun _ _ _ z=>z
theorem g_nx (h:N σ H):Ends.nx ⟨N,R,B,C2⟩ σ H:=h
theorem g_rt {v:V} (h:R v H):Ends.rt ⟨N,R,B,C2⟩ v H:=h
theorem g_next (h:D.nx σ H):tNext D σ H:=h
theorem g_ifS {c:TT}{t u:TS} (h:c σ H fun b H1=>if b=true then t D σ H1 else u D σ H1):tIfS c t u D σ H:=h
theorem g_ret {te:TE} (h:te σ H D.rt):tRet te D σ H:=h
theorem g_drop {te:TE} (h:te σ H fun _ H1=>D.nx σ H1):tDrop te D σ H:=h
theorem g_asg {te:TE}{g:TG} (h:te σ H fun x H1=>g x σ H1 D.nx):tAsg te g D σ H:=h
theorem g_or {t u:TT}{Qb:Bool→Hp→Prop} (h:t σ H fun c H1=>if c=true then Qb true H1 else u σ H1 Qb):tOr t u σ H Qb:=h
theorem g_and {t u:TT}{Qb:Bool→Hp→Prop} (h:t σ H fun c H1=>if c=true then u σ H1 Qb else Qb false H1):tAnd t u σ H Qb:=h
theorem g_not {t:TT}{Qb:Bool→Hp→Prop} (h:t σ H fun c H1=>Qb (!c) H1):tNot t σ H Qb:=h
theorem g_test {t:TE}{Qb:Bool→Hp→Prop} (h:t σ H fun x H'=>∃ k,x=.bl k∧Qb k H'):tTest t σ H Qb:=h
theorem g_B {t:TE}{Qb:Bool→Hp→Prop} (h:t σ H fun x H'=>∃ k,x=.bl k∧Qb k H'):tB t σ H Qb:=h
theorem g_yes {Qb:Bool→Hp→Prop} (h:Qb true H):tYes σ H Qb:=h
theorem g_exB {c:Bool}{P:Bool→Prop} (h:P c):∃ k,V.bl c=V.bl k∧P k:=⟨c,rfl,h⟩
theorem g_exI {c:Int}{P:Int→Prop} (h:P c):∃ k,V.int c=V.int k∧P k:=⟨c,rfl,h⟩
theorem g_l1R {q:Addr}{α:Type}{P:Addr→α→Prop} (h:∃ y,P q y):∃ p y,[V.ref q]=[V.ref p]∧P p y:=let ⟨y,z⟩:=h;⟨q,y,rfl,z⟩
theorem g_l2I {q r:Int}{P:Int→Int→Prop} (h:P q r):∃ p p',[V.int q,V.int r]=[V.int p,V.int p']∧P p p':=⟨q,r,rfl,h⟩
theorem g_op {r:R2}{ta tb:TE} (h:ta σ H fun x H1=>tb σ H1 fun y H2=>r x y H2 Q):tOp r ta tb σ H Q:=h
theorem g_rI0 {g:Int→Int→V}{i j:Int} (h:Q (g i j) H):rI0 g (.int i) (.int j) H Q:=⟨i,j,rfl,rfl,h⟩
theorem g_rI {C:Int→Int→Prop}{g:Int→Int→V}{i j:Int} (h:C i j∧Q (g i j) H):rI C g (.int i) (.int j) H Q:=⟨i,j,rfl,rfl,h.1,h.2⟩
theorem g_C {v:V} (h:Q v H):tC v σ H Q:=h
theorem g_chain {r r':R2}{ta tb tc:TE} (h:ta σ H fun x H1=>tb σ H1 fun y H2=>r x y H2 fun z H3=>∃ k,z=.bl k∧if k=true then tc σ H3 fun w' H4=>r' y w' H4 Q else Q (.bl false) H3):tChain r r' ta tb tc σ H Q:=h
theorem g_eqI {i j:Int} (h:Q (.bl (decide (i=j))) H):rEq (.int i) (.int j) H Q:=⟨rfl,by rw [show decide (V.int i=V.int j)=decide (i=j) from decide_eq_decide.mpr (Iff.of_eq (V.int.injEq i j))];exact h⟩
theorem g_neI {i j:Int} (h:Q (.bl (!decide (i=j))) H):rNe (.int i) (.int j) H Q:=⟨rfl,by rw [show decide (V.int i=V.int j)=decide (i=j) from decide_eq_decide.mpr (Iff.of_eq (V.int.injEq i j))];exact h⟩
theorem g_ipI {f:Int→Int→Int}{i j:Int} (h:Q (.int (f i j)) H):ipI f (.int i) (.int j) H Q:=⟨i,j,rfl,rfl,h⟩
theorem g_rAdd {i j:Int} (h:Q (.int (i+j)) H):rAdd (.int i) (.int j) H Q:=⟨i,j,rfl,rfl,h⟩
theorem g_call {sp:Sp}{t:TA} (h:t σ H fun vs H1=>sp vs H1 Q E):tCall sp [] E t σ H Q:=by
 unfold tCall
 have e:(fun (vs:List V) (H1:Hp)=>sp (vs++[]) H1 Q E)=fun vs H1=>sp vs H1 Q E:=by funext vs H1;rw [List.append_nil]
 rw [e];exact h
theorem g_cons {ta:TE}{tr:TA}{Qs:List V→Hp→Prop} (h:ta σ H fun x H1=>tr σ H1 fun xs H2=>Qs (x::xs) H2):tCons ta tr σ H Qs:=h
theorem g_nil {Qs:List V→Hp→Prop} (h:Qs [] H):tNil σ H Qs:=h
theorem g_un {r:V→Hp→VK→Prop}{ta:TE} (h:ta σ H fun x H1=>r x H1 Q):tUn r ta σ H Q:=h
theorem g_rU {g:Int→V}{i:Int} (h:Q (g i) H):rU g (.int i) H Q:=⟨i,rfl,h⟩
theorem g_if {t:TT}{ta tb:TE} (h:t σ H fun c H1=>if c=true then ta σ H1 Q else tb σ H1 Q):tIf t ta tb σ H Q:=h
theorem g_CB {r:List V→Hp→VK→Prop}{t:TA} (h:t σ H fun vs H1=>r vs H1 Q):tCB r t σ H Q:=h
theorem g_raise {C:Addr}{ta:TA} (h:ta σ H fun vs H1=>vs.length≤sizeLine∧E (.ref C) none H1):tRaise C E ta D σ H:=h
theorem g_tup {t:TA} (h:t σ H fun xs H1=>xs.length≤sizeLine∧∀ p,H1 p=none→Q (.ref p) (upd H1 p (.tup xs))):tTup t σ H Q:=h
theorem g_lst {t:TA} (h:t σ H fun xs H1=>xs.length≤sizeLine∧∀ p,H1 p=none→Q (.ref p) (upd H1 p (.lst xs))):tLst t σ H Q:=h
theorem g_BM {T:String}{r:V→List V→Hp→VK→Prop}{to:TE}{t:TA} (h:to σ H fun x H1=>tyV K T x H1∧t σ H1 fun xs H2=>r x xs H2 Q):tBM K T r to t σ H Q:=h
theorem g_append {l:Addr}{y:V} (h:∃ xs,H l=some (.lst xs)∧xs.length<sizeLine∧Q .non (upd H l (.lst (xs++[y])))):rAppend (.ref l) [y] H Q:=let ⟨xs,h1,h2,h3⟩:=h;⟨l,xs,y,rfl,rfl,h1,h2,h3⟩
theorem g_extend {l b:Addr} (h:∃ xs zs,H l=some (.lst xs)∧H b=some (.lst zs)∧xs.length+zs.length≤sizeLine∧Q .non (upd H l (.lst (xs++zs)))):rExtend (.ref l) [.ref b] H Q:=let ⟨xs,zs,h1,h2,h3,h4⟩:=h;⟨l,b,xs,zs,rfl,rfl,h1,h2,h3,h4⟩
theorem g_sl {r:V→Option Int→Option Int→Hp→VK→Prop}{te:TE}{tl th:TO} (h:te σ H fun x H1=>tl σ H1 fun l H2=>th σ H2 fun u H3=>r x l u H3 Q):tSl r te tl th σ H Q:=h
theorem g_noPart {Qo:Option Int→Hp→Prop} (h:Qo none H):tNoPart σ H Qo:=h
theorem g_part {t:TE}{Qo:Option Int→Hp→Prop} (h:t σ H fun x H1=>∃ i,x=.int i∧Qo (some i) H1):tPart t σ H Qo:=h
theorem g_slL {p:Addr}{lo hi:Option Int} (h:∃ xs,SqL K H p xs∧∀ q,H q=none→Q (.ref q) (upd H q (.lst (cutV xs lo hi)))):rSlL K (.ref p) lo hi H Q:=let ⟨xs,h1,h2⟩:=h;⟨p,xs,rfl,h1,h2⟩
theorem g_make {C:Addr}{sp:Sp}{t:TA} (h:t σ H fun vs H1=>∀ x dx,H1 x=none→H1 dx=none→dx≠x→sp (.ref x::vs) (upd (upd H1 dx (.own x)) x (.ins C dx [])) (fun v H2=>v=.non∧Q (.ref x) H2) E):tMake C sp [] E t σ H Q:=by
 unfold tMake
 have e:(fun (vs:List V) (H1:Hp)=>∀ x dx,H1 x=none→H1 dx=none→dx≠x→sp (.ref x::(vs++[])) (upd (upd H1 dx (.own x)) x (.ins C dx [])) (fun v H2=>v=.non∧Q (.ref x) H2) E)=fun vs H1=>∀ x dx,H1 x=none→H1 dx=none→dx≠x→sp (.ref x::vs) (upd (upd H1 dx (.own x)) x (.ins C dx [])) (fun v H2=>v=.non∧Q (.ref x) H2) E:=by funext vs H1;rw [List.append_nil]
 rw [e];exact h
theorem g_fld {ta:TE}{f:Str} (h:ta σ H fun x H1=>∃ a C dx fs v,x=.ref a∧H1 a=some (.ins C dx fs)∧Cls K C∧NoAttr K C f∧fs.lookup f=some v∧Q v H1):tFld K ta f σ H Q:=h
theorem g_fld1 {r C dx:Addr}{fs:List (Str×V)}{v:V}{f:Str}{P:V→Prop} (hH:H r=some (.ins C dx fs)) (hc:Cls K C) (hn:NoAttr K C f) (hl:fs.lookup f=some v) (h:P v):∃ a C dx fs v,V.ref r=.ref a∧H a=some (.ins C dx fs)∧Cls K C∧NoAttr K C f∧fs.lookup f=some v∧P v:=⟨r,C,dx,fs,v,rfl,hH,hc,hn,hl,h⟩
theorem g_meth {C:Addr}{m:Str}{sp:Sp}{ta:TE}{t:TA} (h:ta σ H fun x H1=>∃ a dx fs,x=.ref a∧H1 a=some (.ins C dx fs)∧fs.lookup m=none∧t σ H1 fun vs H2=>sp (x::vs) H2 Q E):tMeth C m sp [] E ta t σ H Q:=by
 unfold tMeth
 have e:(fun (x:V) (H1:Hp)=>∃ a dx fs,x=.ref a∧H1 a=some (.ins C dx fs)∧fs.lookup m=none∧t σ H1 fun vs H2=>sp (x::(vs++[])) H2 Q E)=fun x H1=>∃ a dx fs,x=.ref a∧H1 a=some (.ins C dx fs)∧fs.lookup m=none∧t σ H1 fun vs H2=>sp (x::vs) H2 Q E:=by
  have e2:∀ x:V,(fun (vs:List V) (H2:Hp)=>sp (x::(vs++[])) H2 Q E)=fun vs H2=>sp (x::vs) H2 Q E:=fun x=>by funext vs H2;rw [List.append_nil]
  funext x H1;rw [e2]
 rw [e];exact h
theorem g_meth1 {r C dx:Addr}{fs:List (Str×V)}{m:Str}{G:Prop} (hH:H r=some (.ins C dx fs)) (hl:fs.lookup m=none) (h:G):∃ a dx fs,V.ref r=.ref a∧H a=some (.ins C dx fs)∧fs.lookup m=none∧G:=⟨r,dx,fs,rfl,hH,hl,h⟩
theorem g_sfld {ta tv:TE}{f:Str} (h:tv σ H fun y H1=>ta σ H1 fun x H2=>∃ a C dx fs,x=.ref a∧H2 a=some (.ins C dx fs)∧Cls K C∧NoAttr K C f∧fs.length<1000∧D.nx σ (upd H2 a (.ins C dx (putF f y fs)))):sFld K ta tv f D σ H:=h
theorem g_sfld1 {r C dx:Addr}{fs:List (Str×V)}{f:Str}{y:V}{P:Hp→Prop} (hH:H r=some (.ins C dx fs)) (hc:Cls K C) (hn:NoAttr K C f) (h:fs.length<1000∧P (upd H r (.ins C dx (putF f y fs)))):∃ a C dx fs,V.ref r=.ref a∧H a=some (.ins C dx fs)∧Cls K C∧NoAttr K C f∧fs.length<1000∧P (upd H a (.ins C dx (putF f y fs))):=⟨r,C,dx,fs,rfl,hH,hc,hn,h.1,h.2⟩
theorem g_sfld2 {r C dx:Addr}{fs:List (Str×V)}{f:Str}{y:V}{P:Hp→Prop} (hc:Cls K C) (hn:NoAttr K C f) (h:fs.length<1000∧P (upd H r (.ins C dx (putF f y fs)))):∃ a C' dx' fs',V.ref r=.ref a∧upd H r (.ins C dx fs) a=some (.ins C' dx' fs')∧Cls K C'∧NoAttr K C' f∧fs'.length<1000∧P (upd (upd H r (.ins C dx fs)) a (.ins C' dx' (putF f y fs'))):=⟨r,C,dx,fs,rfl,upd_same,hc,hn,h.1,by rw [upd_upd];exact h.2⟩
theorem g_sfldaug {ta tv:TE}{rd:V→V→Hp→VK→Prop}{f:Str} (h:ta σ H fun x H1=>∃ a C dx fs v,x=.ref a∧H1 a=some (.ins C dx fs)∧Cls K C∧NoAttr K C f∧fs.lookup f=some v∧tv σ H1 fun y H2=>rd v y H2 fun z H3=>∃ dx' fs',H3 a=some (.ins C dx' fs')∧fs'.length<1000∧D.nx σ (upd H3 a (.ins C dx' (putF f z fs')))):sFldAug K ta tv rd f D σ H:=h
theorem g_sfldaug1 {r C dx:Addr}{fs:List (Str×V)}{f:Str}{v:V}{P:Addr→Addr→V→Prop} (hH:H r=some (.ins C dx fs)) (hc:Cls K C) (hn:NoAttr K C f) (hl:fs.lookup f=some v) (h:P r C v):∃ a C dx fs v,V.ref r=.ref a∧H a=some (.ins C dx fs)∧Cls K C∧NoAttr K C f∧fs.lookup f=some v∧P a C v:=⟨r,C,dx,fs,v,rfl,hH,hc,hn,hl,h⟩
theorem g_aug2 {r C dx:Addr}{fs:List (Str×V)}{P:Addr→List (Str×V)→Prop} (hH:H r=some (.ins C dx fs)) (h:fs.length<1000∧P dx fs):∃ dx' fs',H r=some (.ins C dx' fs')∧fs'.length<1000∧P dx' fs':=⟨dx,fs,hH,h.1,h.2⟩
theorem g_ixL {p:Addr}{i:Int} (h:∃ xs,SqL K H p xs∧∃ v,atI xs i=some v∧Q v H):rIxL K (.ref p) (.int i) H Q:=let ⟨xs,h1,v,h2,h3⟩:=h;⟨p,xs,i,v,rfl,rfl,h1,h2,h3⟩
theorem g_ixT {p:Addr}{i:Int} (h:∃ xs,SqT K H p xs∧∃ v,atI xs i=some v∧Q v H):rIxT K (.ref p) (.int i) H Q:=let ⟨xs,h1,v,h2,h3⟩:=h;⟨p,xs,i,v,rfl,rfl,h1,h2,h3⟩
end
section
variable {A B:Prop}
theorem g_iteT (h:A):if true=true then A else B:=by rw [if_pos rfl];exact h
theorem g_iteF (h:B):if false=true then A else B:=by rw [if_neg Bool.false_ne_true];exact h
theorem g_iteD {p:Prop} [Decidable p] (h:if p then A else B):if decide p=true then A else B:=by
 by_cases z:p
 ·rw [if_pos z] at h;rw [if_pos (decide_eq_true z)];exact h
 ·rw [if_neg z] at h;rw [if_neg (fun y=>z (of_decide_eq_true y))];exact h
theorem g_iteND {p:Prop} [Decidable p] (h:if ¬ p then A else B):if (!decide p)=true then A else B:=by
 by_cases z:p
 ·rw [if_neg (fun y=>y z)] at h;rw [if_neg (by simp [z])];exact h
 ·rw [if_pos z] at h;rw [if_pos (by simp [z])];exact h
theorem g_iteN {b:Bool} (h:if b=false then A else B):if (!b)=true then A else B:=by
 cases b
 ·rw [if_pos rfl] at h;exact (by rw [if_pos (show (!false)=true from rfl)];exact h)
 ·rw [if_neg (by decide)] at h;exact (by rw [if_neg (by decide)];exact h)
end
theorem g_v0 {v:V}{r:List (Option V)}{H:Hp}{Q:VK} (h:Q v H):tVar 0 (some v::r) H Q:=⟨v,rfl,h⟩
theorem g_v1 {v:V}{a0:Option V}{r:List (Option V)}{H:Hp}{Q:VK} (h:Q v H):tVar 1 (a0::some v::r) H Q:=⟨v,rfl,h⟩
theorem g_n1 {v:V}{a0:Option V}{b:Option V}{r:List (Option V)}{H:Hp}{Qg:St→Hp→Prop} (h:Qg (a0::some v::r) H):gName 1 v (a0::b::r) H Qg:=h
theorem g_v2 {v:V}{a0 a1:Option V}{r:List (Option V)}{H:Hp}{Q:VK} (h:Q v H):tVar 2 (a0::a1::some v::r) H Q:=⟨v,rfl,h⟩
theorem g_n2 {v:V}{a0 a1:Option V}{b:Option V}{r:List (Option V)}{H:Hp}{Qg:St→Hp→Prop} (h:Qg (a0::a1::some v::r) H):gName 2 v (a0::a1::b::r) H Qg:=h
theorem g_a2 {x:V}{a0 a1:Option V}{r:List (Option V)}{H:Hp}{D:Ends}{te:TE}{ti:TIp} (h:te (a0::a1::some x::r) H fun y H1=>ti x y H1 fun z H2=>D.nx (a0::a1::some z::r) H2):tAug 2 te ti D (a0::a1::some x::r) H:=⟨x,rfl,h⟩
theorem g_v3 {v:V}{a0 a1 a2:Option V}{r:List (Option V)}{H:Hp}{Q:VK} (h:Q v H):tVar 3 (a0::a1::a2::some v::r) H Q:=⟨v,rfl,h⟩
theorem g_n3 {v:V}{a0 a1 a2:Option V}{b:Option V}{r:List (Option V)}{H:Hp}{Qg:St→Hp→Prop} (h:Qg (a0::a1::a2::some v::r) H):gName 3 v (a0::a1::a2::b::r) H Qg:=h
theorem g_a3 {x:V}{a0 a1 a2:Option V}{r:List (Option V)}{H:Hp}{D:Ends}{te:TE}{ti:TIp} (h:te (a0::a1::a2::some x::r) H fun y H1=>ti x y H1 fun z H2=>D.nx (a0::a1::a2::some z::r) H2):tAug 3 te ti D (a0::a1::a2::some x::r) H:=⟨x,rfl,h⟩
theorem g_v4 {v:V}{a0 a1 a2 a3:Option V}{r:List (Option V)}{H:Hp}{Q:VK} (h:Q v H):tVar 4 (a0::a1::a2::a3::some v::r) H Q:=⟨v,rfl,h⟩
theorem g_n4 {v:V}{a0 a1 a2 a3:Option V}{b:Option V}{r:List (Option V)}{H:Hp}{Qg:St→Hp→Prop} (h:Qg (a0::a1::a2::a3::some v::r) H):gName 4 v (a0::a1::a2::a3::b::r) H Qg:=h
theorem g_v5 {v:V}{a0 a1 a2 a3 a4:Option V}{r:List (Option V)}{H:Hp}{Q:VK} (h:Q v H):tVar 5 (a0::a1::a2::a3::a4::some v::r) H Q:=⟨v,rfl,h⟩
theorem g_n5 {v:V}{a0 a1 a2 a3 a4:Option V}{b:Option V}{r:List (Option V)}{H:Hp}{Qg:St→Hp→Prop} (h:Qg (a0::a1::a2::a3::a4::some v::r) H):gName 5 v (a0::a1::a2::a3::a4::b::r) H Qg:=h
theorem g_v6 {v:V}{a0 a1 a2 a3 a4 a5:Option V}{r:List (Option V)}{H:Hp}{Q:VK} (h:Q v H):tVar 6 (a0::a1::a2::a3::a4::a5::some v::r) H Q:=⟨v,rfl,h⟩
theorem g_n6 {v:V}{a0 a1 a2 a3 a4 a5:Option V}{b:Option V}{r:List (Option V)}{H:Hp}{Qg:St→Hp→Prop} (h:Qg (a0::a1::a2::a3::a4::a5::some v::r) H):gName 6 v (a0::a1::a2::a3::a4::a5::b::r) H Qg:=h
end L2
end
section
set_option maxRecDepth 100000
namespace L2
open PySem PySem.Spec PyProof.Rows
section
variable {prog:Program}{w:World}{K:Type} [DecidableEq K] {knd:HeapKind prog w K}{A:Around}{E:Value→Shared→Prop}{s:Shared}
end
section
variable {X:Cx}{pins:List (Addr×Obj)}{σ:St}{H:Hp}{s:Shared}{a b:Addr}{kvs:List (List Key×V)}{k:List Key}{v:V}{r:Value}{A:Around}{E:Value→Shared→Prop}
end
end L2
end
section
set_option maxRecDepth 100000
namespace L2
open PySem PySem.Spec PyProof.Rows
section
variable {prog:Program}{w:World}{A:Around}{E:Value→Shared→Prop}{s:Shared}
open PyProof.Rows.G in
end
section
variable {prog:Program}{w:World}
end
theorem paired_of_get {α β:Type}{R:α→β→Prop}:∀ {xs:List α}{ys:List β},xs.length=ys.length→(∀ (i:Nat) (x:α) (y:β),xs[i]?=some x→ys[i]?=some y→R x y)→Paired R xs ys
 | [],[],_,_=>.nil
 | [],_::_,h,_=>by simp at h
 | _::_,[],h,_=>by simp at h
 | x::xs,y::ys,h,r=>.cons (r 0 x y rfl rfl) (paired_of_get (by simpa using h) fun i a b h1 h2=>r (i+1) a b (by simpa using h1) (by simpa using h2))
section
variable {X:Cx}
open PyProof.Rows.G in
end
end L2
end
section
set_option maxRecDepth 100000
namespace L2
open PySem PySem.Spec PyProof.Rows
section
variable {X:Cx}{CX:CXT}{j k:Nat}{ps:List Str}{sp:Sp}{E:XK}{x y:Str}{p pos:Pos}{e:Expr}{es:List Expr}{t:TA}
def tCallXL (i:Nat) (f:Addr) (u:St→Hp→VK→XK→Prop):St→Hp→VK→XK→Prop:=fun σ H Q E=>σ[i]?=some (some (V.ref f))∧u σ H Q E
end
end L2
end
section
set_option maxRecDepth 100000
namespace L2
open PySem PySem.Spec PyProof.Rows
section
variable {P:Program}{w:World}{K:PySem.W.Frag}{mg:Str→Option Value}{base:Heap}{k:Nat}{f c' kc:Addr}{params:Arguments}{body:Expr}{scope:Scope}{pm ctv uk:Value}{name qual x fx:Str}{kv:V}{sp:Sp}
end
end L2
end
section
set_option maxRecDepth 100000
namespace L2
open PySem PySem.Spec PyProof.Rows
def bare2 (h:Heap) (H:Hp) (l:List Env):Heap:=PySem.W.hideAll h (trk h H++frs l)
theorem bare2_get {h:Heap}{H:Hp}{l:List Env}{b:Addr}{o:Obj} (e:h.get? b=some o) (n:H b=none) (hl:b ∉ frs l):(bare2 h H l).get? b=some o :=
 PySem.W.hideAll_get _ e fun hm=>by
  rcases List.mem_append.mp hm with hm | hm
  ·have q:(H b).isSome=true:=(List.mem_filter.mp hm).2
   rw [n] at q;simp at q
  ·exact hl hm
theorem of_bare2 {h:Heap}{H:Hp}{l:List Env}{b:Addr}{o:Obj} (e:(bare2 h H l).get? b=some o):h.get? b=some o∧H b=none:=by
 have e':h.get? b=some o:=PySem.W.of_hideAll _ e
 refine ⟨e',?_⟩
 cases q:H b with
 | none=>rfl
 | some u =>
  have hm:b∈trk h H++frs l:=List.mem_append_left _ (List.mem_filter.mpr ⟨List.mem_range.mpr (Heap.lt_size e'),by rw [q];rfl⟩)
  have:=PySem.W.hideAll_none (h:=h) (trk h H++frs l) hm
  unfold bare2 at e
  rw [this] at e;cases e
theorem Mod.keeps {K:PySem.W.Frag}{mg:Str→Option Value}{b b':Heap} (m:Mod K mg b) (k:∀ a o,b.get? a=some o→b'.get? a=some o):Mod K mg b' :=
 ⟨m.kin.keeps k,m.glob.keeps k,let ⟨mb,h1,h2⟩:=m.blt;⟨mb,h1.keeps k,h2⟩,m.nolimit.keeps k⟩
section
variable {X:Cx}{i j k jl:Nat}{c PT gf fr:Addr}{g t x fx ql rn:Str}{p pt pos lp rp:Pos}{params:Arguments}{body:Expr}{sc:Scope}{E:XK}{spL:V→Sp}{spA:Addr→V→Sp}{ps2:List Str}
end
end L2
end
section
set_option maxRecDepth 100000
namespace L2
open PySem PySem.Spec PyProof.Rows
structure LamScope0 (x:Str) (sc:Scope):Prop where
 kind:sc.kind=.function
 co:sc.isCoroutine=false
 gen:sc.isGenerator=false
 par:sc.names.lookup x=some .local
 nocell:∀ y∈sc.names,y.2≠.cell
 nofree:∀ y∈sc.names,y.2≠.free
section
variable {P:Program}{w:World}{K:PySem.W.Frag}{mg:Str→Option Value}{base:Heap}{k:Nat}{f c':Addr}{params:Arguments}{body:Expr}{scope:Scope}{pm ctv:Value}{name qual x:Str}{sp:Sp}
end
section
variable {X:Cx}{i k jl:Nat}{c PT gf fr:Addr}{g t x ql rn:Str}{p pt pos lp rp:Pos}{params:Arguments}{body:Expr}{sc:Scope}{E:XK}{spL:Sp}{spA:Addr→Sp}{ps2:List Str}
end
end L2
end
section
set_option maxRecDepth 100000
namespace L2
open PySem PySem.Spec PyProof.Rows
def cxLamX (P:Program) (w:World) (K:PySem.W.Frag) (mg:Str→Option Value) (base:Heap) (C:Addr) (N:List Str) (qual:Str) (scope:Scope) (f:Addr) (cd:Value) (A:Around) (outer:List Env) (s:Shared) (H:Hp) (E:XK):Cx where
 prog:=P
 w:=w
 K:=K
 mg:=mg
 base:=base
 A:=A.deeper (PySem.W.envX qual scope s.heap.objs.size f cd [])
 N:=N
 s_0:=s
 H_0:=H
 env:=PySem.W.envX qual scope s.heap.objs.size f cd []
 outer:=outer
 stack:=PySem.W.envX qual scope s.heap.objs.size f cd []::outer
 ex:=[]
 calm:=true
 fn:=fun _=>false
 pn:=[]
 xe:=fun e s'=>wpAny (model P w) (A.deeper (PySem.W.envX qual scope s.heap.objs.size f cd [])) (leaving (PySem.W.envX qual scope s.heap.objs.size f cd []) e) (fun _ s''=>CX1 P w C outer H s E e s'') (fun e' s''=>CX1 P w C outer H s E e' s'') s'
section
variable {P:Program}{w:World}{K:PySem.W.Frag}{mg:Str→Option Value}{base:Heap}{N:List Str}{qual:Str}{scope:Scope}{f C:Addr}{cd:Value}{A:Around}{outer:List Env}{s:Shared}{H:Hp}{E:XK}
theorem flown_outL {pins:List (Addr×Obj)}{σ:St}{H1 H':Hp}{s1 s2:Shared}{e T:Addr} (I:Inv (cxLamX P w K mg base C N qual scope f cd A outer s H E) pins σ H1 s1) (os:s2.os=s1.os) (bare:AllBare s2.gens)
  (F:Flown P w (.ref C) (cxLamX P w K mg base C N qual scope f cd A outer s H E).stack H1 H' s1.heap s2.heap e T) (hE:E (.ref C) none H'):CX1 P w C outer H s E (.ref e) s2:=by
 have J:=I.flown os bare F
 have old:∀ b,s1.heap.get? b=none→s.heap.get? b=none:=fun b n=>by
  cases q:s.heap.get? b with
  | none=>rfl
  | some o =>
   obtain ⟨o',z⟩:=I.base.there b o q (by show b ∉ ([]:List Addr);simp)
   rw [n] at z;cases z
 exact ⟨e,T,H',rfl,J.os,J.bare,⟨J.base,J.hok,old _ F.ne,old _ F.nT,F.fe,F.fT,F.fly⟩,hE⟩
theorem passL:Passes (CX1 P w C) (cxLamX P w K mg base C N qual scope f cd A outer s H E) E:=by
 intro pins σ H1 s1 v s' I h
 obtain ⟨e,T,H',rfl,os,bare,F,hE⟩:=h
 have J:=I.flown os bare F
 obtain ⟨a0,tr⟩:=F.fly.traced (l:=(cxLamX P w K mg base C N qual scope f cd A outer s H E).stack)
 refine wpAny_leaves_onW (L:=s.heap.objs.size) J.ok.frames rfl ⟨cover_stays,cover_e,cover_frames J.stack,tr⟩ fun h2 fl up=>?_
 obtain ⟨T',F'⟩:=flown_on F.un F.hok F.ne F.nT F.fe F.fT J.stack J.stkFree fl up
 exact flown_outL (s2:={ s' with heap:=h2 }) I os bare F' hE
end
section
variable {P:Program}{w:World}{K:PySem.W.Frag}{mg:Str→Option Value}{base:Heap}{k:Nat}{f c' C:Addr}{params:Arguments}{body:Expr}{scope:Scope}{pm ctv:Value}{name qual x:Str}{sp:Sp}
theorem lam_okX (S:LamScope0 x scope) (hf:base.get? f=some (PySem.W.kla_obj name qual params body scope [] pm c' ctv)) (hc:base.CodeRec (.ref c') qual)
  (len:∀ vs H Q E,sp vs H Q E→vs.length=[x].length)
  (hbody:∀ (A:Around) (outer:List Env) (s:Shared) (H:Hp) (v:V) (Q:VK) (E:XK),Room k (A.deeper (PySem.W.envX qual scope s.heap.objs.size f (.ref c') []))→sp [v] H Q E →
   ∃ t,PE (cxLamX P w K mg base C [x] qual scope f (.ref c') A outer s H E) body t∧t [some v] H Q) :
  FnOk P w K mg base (CX1 P w C) (k+1) f (PySem.W.kla_fn name qual params body scope [] pm (.ref c') ctv) [x] sp:=by
 refine ⟨len,fun A outer s H args us vs Q E hr e0 hb r hsp=>?_⟩
 have hl:=len _ _ _ _ hsp
 obtain ⟨v,rfl⟩:∃ v,vs=[v]:=by
  match vs,hl with
  | [v],_=>exact ⟨v,rfl⟩
 obtain ⟨u,rfl,rv⟩:=vals1 r
 have lim:s.heap.NoLimit:=e0.mod.nolimit.keeps fun b o e=>(e0.bs b o e).1
 have ks:∀ b o,base.get? b=some o→s.heap.get? b=some o:=fun b o e=>(e0.bs b o e).1
 refine PySem.W.kla_callFunE hr.depth (ks _ _ hf) rfl S.co S.gen rfl (hc.keeps ks) (hb _ _ _ _ ?_)
 have hloc:∀ y∈[x].zip [u],scope.names.lookup y.1=some .local:=fun y hy=>by
  simp at hy;subst hy;exact S.par
 refine wpAny_newFunctionEnv S.nocell hloc (fun h₁ hns hsb=>?_) S.kind
 have hk:∀ b o,s.heap.get? b=some o→h₁.get? b=some o:=fun b o e=>hsb.extBut b o (Nat.ne_of_lt (Heap.lt_size e)) (Heap.get?_push_of_some _ e)
 refine ⟨lim.keeps hk,PySem.W.kla_codeExpr ?_⟩
 obtain ⟨t,ht,hq⟩:=hbody A outer s H v Q E (hr.deeper _) hsp
 have noA:∀ b:Addr,b ∉ (cxLamX P w K mg base C [x] qual scope f (.ref c') A outer s H E).ex:=fun b z=>absurd (show b∈([]:List Addr) from z) (by simp)
 have I:Inv (cxLamX P w K mg base C [x] qual scope f (.ref c') A outer s H E) [] [some v] H { s with heap:=h₁,toks:=s.toks+([x].zip [u]).length }:=by
  refine ⟨⟨e0.mod,S.kind,rfl,rfl,Nat.le_refl _,fun y z c h1 h2=>?_,fun y hy=>?_,fun y c h=>Bool.noConfusion (show false=true from h),fun _=>hr.hd,Around.frames_deeper e0.frames,.inr ⟨rfl,rfl⟩,fun b z=>absurd z (noA b),e0.bs,e0.bsz,fun b _ _=>noA b,fun b z=>absurd z (noA b),e0.funs,e0.frf⟩,
   rfl,e0.bare,Un.kept hk,⟨_,hns,fun i y v' h1 h2 h3=>?_⟩,fun y c h=>?_,e0.hok.fresh (Nat.le_refl _),fun y c h=>?_,fun p hp=>absurd (show p∈([]:List (Addr×Obj)) from hp) (by simp),e0.hok.kept hk,rfl⟩
  ·cases (show (none:Option Addr)=some c from h1)
  ·have hy:scope.names.lookup y=some .cell∨scope.names.lookup y=some .free:=hy
   rcases hy with hy | hy
   ·exact absurd rfl (S.nocell _ (PySem.mem_of_lookup hy))
   ·exact absurd rfl (S.nofree _ (PySem.mem_of_lookup hy))
  ·match i,h1,h2 with
   | 0,h1,h2 =>
    have e1:x=y:=by simpa [cxLamX] using h1
    have e2:v=v':=by simpa using h2
    subst e1;subst e2
    refine ⟨u,rv,.inl ⟨S.par,?_⟩⟩
    simp
   | i+1,h1,h2=>simp at h2
  ·cases (show (none:Option Addr)=some c from h)
  ·cases (show (none:Option Addr)=some c from h)
 refine wpAny_mono (ht [] _ _ H _ I hq) (fun u' s' hs=>?_) fun e s' hs=>hs
 obtain ⟨v',H',J,rv',q'⟩:=hs
 exact ⟨v',H',J.os,J.bare,J.base,J.hok,rv',q'⟩
end
section
variable {X:Cx}{k:Nat}{x:Str}{p pos:Pos}
theorem px_callF {C:Addr}{j:Nat}{ps:List Str}{sp:Sp}{e:Expr}{es:List Expr}{ta:TA} (i:Nat) {f:Addr}{fd:FuncData} (hat:PySem.W.FnAt f X.base) (F:FnOk X.prog X.w X.K X.mg X.base (CX1 X.prog X.w C) j f fd ps sp)
  (hb:∀ (s:Shared) (us:List Value),us.length=ps.length→BindsTo s fd ⟨us,[]⟩ (ps.zip us)) (hr:Room k X.A) (ha:PA X.nox (e::es) ta) (hjk:j≤k:=by decide)
  (hN:X.N[i]?=some x:=by rfl) (hv:Vis X.env.scope x:=by first | exact Or.inl rfl | exact Or.inr (Or.inl rfl) | exact Or.inr (Or.inr rfl)) (hd:(x==("__debug__":Str))=false:=by decide) (hcd:(x==("__classdict__":Str))=false:=by decide)
  (he:starEach (e::es) X.env=(false,eval e X.env)::starEach es X.env:=by rfl) (hpl:(backTo pos (starEach es X.env)).any (·.1)=false:=by rfl) :
  PXE X C (.Call (.Name x p) (e::es) [] pos) (tCallXL i f (tCallX sp [] ta)):=by
 intro pins s σ H Q E I h
 refine wpAny_Call_Name_kw (wpAny_mono (pe_var (X:=X.nox) (pos:=p) hN hv hd hcd pins s σ H (fun v H'=>v=V.ref f∧tCallX sp [] ta σ H' Q E) (I.wish _) ⟨_,h.1,rfl,h.2⟩) (fun u s1 ⟨v,H1,I1',r,ev,q⟩=>?_) fun _ _ z=>False.elim z)
 subst ev
 have r:u=.ref f:=by cases r;rfl
 subst r
 have I1:=I1'.unwish
 have at':∀ {s':Shared}{H':Hp},Inv X pins σ H' s'→PySem.W.FnAt f s'.heap:=fun J=>by
  obtain ⟨oc,od,fd',sl,e⟩:=hat
  exact ⟨oc,od,fd',sl,(J.bs _ _ e).1⟩
 refine PySem.W.callWith_F (at' I1) (wpAny_mono (ha pos pins s1 σ H1 _ (I1.wish _) q) (fun us s2 ⟨vs,H2,I2',r,q⟩=>?_) fun _ _ z=>False.elim z) he hpl
 have I2:=I2'.unwish
 refine ⟨at' I2,?_⟩
 rw [List.nil_append]
 have q:sp (vs++[]) H2 Q E:=q
 rw [List.append_nil] at q
 have hl:us.length=ps.length:=by rw [← r.length];exact F.len _ _ _ _ q
 refine wpAny_call (codeAny_mono (F.run X.A X.stack s2 H2 ⟨us,[]⟩ us vs Q E (hr.mono hjk) I2.env0 (hb s2 us hl) r q) fun r s' hq=>?_)
 cases r with
 | error v=>exact ⟨s2,H2,I2,hq⟩
 | ok fl =>
  cases fl with
  | ret u=>exact I2.after hq
  | next=>exact False.elim hq
  | brk=>exact False.elim hq
  | cont=>exact False.elim hq
theorem ps_try2 {C:Addr}{st st2:Stmt}{tx tx2:TX}{x:Str}{np hpos:Pos}{b0:Stmt}{suite:List Stmt}{ts:Addr→TS} (T:Exc X.K X.mg x C) (hg:Gl X x) (hb:PXS X C st tx) (hb2:PXS X C st2 tx2) (hs:∀ e,PSs (X.marked e) (b0::suite) (ts e))
  (hst:X.stack=X.env::X.outer∧X.env.frame=some X.env.locals:=by exact ⟨rfl,rfl⟩) (hdb:(x==("__debug__":Str))=false:=by decide) :
  PS X (.Try [st,st2] [.ExceptHandler (some (.Name x np)) none (b0::suite) hpos] [] [] pos) (fun D σ H=>tx { D with nx:=fun σ' H'=>tx2 D (fun _ _ H1=>∀ e,ts e D σ' H1) σ' H' } (fun _ _ H1=>∀ e,ts e D σ H1) σ H):=by
 intro pins s σ H D I h
 refine wpAny_Try_except (wpAny_execs_cons (wpAny_mono (hb pins s σ H _ _ I h) (fun f s1 q=>?_) fun v s1 q=>caught T hg hst hs q hdb))
 cases f with
 | next =>
  obtain ⟨σ',H',I',q⟩:=q
  refine wpAny_execs_cons (wpAny_mono (hb2 pins s1 σ' H' D _ I' q) (fun f s2 q=>?_) fun v s2 q=>caught T hg hst hs q hdb)
  cases f with
  | next=>exact wpAny_execs_nil (wpAny_execs_nil q)
  | ret v=>exact q
  | brk=>exact q
  | cont=>exact q
 | ret v=>exact q
 | brk=>exact q
 | cont=>exact q
end
end L2
end
section
set_option maxRecDepth 100000
namespace L2
open PySem PySem.Spec PyProof.Rows
section
variable {X:Cx}{c PT:Addr}{ql:Str}{lp:Pos}{params:Arguments}{body:Expr}{sc:Scope}{pins:List (Addr×Obj)}{σ:St}{H1:Hp}{s1:Shared}{ps:Array Value}
theorem lam_made (hcode:X.env.code=.ref c) (hC:∀ h,X.K.In h→PySem.W.CodeHd h c PT) (hB:X.base.BuiltinsAt X.mg PT)
  (hcl:closureFor sc X.env=pure []) (hdef:defaultsOf params X.env=([],[])) (hql:X.env.qual++"<lambda>"=ql) (hgP:mainGlobals≠PT)
  (I1:Inv X pins σ H1 s1) (hPT:H1 PT=some (.tbl ps)) (hTr:PySem.TriplesOk ps.toList) (hnf:PySem.codeAmong lp ps.toList=none) {Q':Value→Shared→Prop}
  (h:∀ (f c':Addr) (ctv:Value) (G:Heap) (tk:Nat),Inv X pins σ (upd H1 PT (.tbl (ps++#[rawInt lp.line,rawInt lp.col,.ref c']))) { s1 with heap:=G,toks:=tk } →
   G.get? f=some (PySem.W.kla_obj "<lambda>" ql params body sc [] ((X.mg "__name__").getD .none) c' ctv)→G.CodeRec (.ref c') ql→s1.heap.objs.size≤c'→s1.heap.objs.size≤f→(∀ b o,b≠PT→s1.heap.get? b=some o→G.get? b=some o)→s1.heap.objs.size≤G.objs.size →
   Q' (.ref f) { s1 with heap:=G,toks:=tk }):wpAny (model X.prog X.w) X.A (eval (.Lambda params body sc lp) X.env) Q' X.xe s1:=by
 obtain ⟨m,hns,hl⟩:=I1.loc
 have hPs:s1.heap.get? PT=some (PySem.W.tabObj ps):=I1.hok PT _ hPT
 have hbk:∀ b o,X.base.get? b=some o→s1.heap.get? b=some o:=fun b o e=>(I1.bs b o e).1
 have hBs:s1.heap.BuiltinsAt X.mg PT:=by
  obtain ⟨bm,ob,a1,a2,a3,a4,a5,r⟩:=hB
  exact ⟨bm,ob,a1,a2,a3,a4,hbk _ _ a5,r⟩
 have hgs:s1.heap.Ns mainGlobals X.mg:=I1.ok.mod.glob.keeps hbk
 refine PySem.W.kla_eval hdef ?_
 rw [hql]
 refine PySem.W.kla_makeFunction hcl I1.ok.glob hgs hcode (hC _ (I1.ok.mod.kin.keeps hbk)) hPs hTr hnf hgP hBs fun c' ctv h' tk hx' hge hlt hrec htb=>?_
 have hsz:s1.heap.objs.size≤h'.objs.size:=Nat.le_of_lt (Nat.lt_of_le_of_lt hge hlt)
 have keep:∀ b o,b≠PT→s1.heap.get? b=some o→(h'.push (PySem.W.kla_obj "<lambda>" ql params body sc [] ((X.mg "__name__").getD .none) c' ctv)).get? b=some o:=fun b o nb e=>Heap.get?_push_of_some _ (hx' b o nb e)
 have hPn:(h'.push (PySem.W.kla_obj "<lambda>" ql params body sc [] ((X.mg "__name__").getD .none) c' ctv)).get? PT=some (PySem.W.tabObj (ps++#[rawInt lp.line,rawInt lp.col,.ref c'])):=Heap.get?_push_of_some _ htb
 have hfo:(h'.push (PySem.W.kla_obj "<lambda>" ql params body sc [] ((X.mg "__name__").getD .none) c' ctv)).get? h'.objs.size=some (PySem.W.kla_obj "<lambda>" ql params body sc [] ((X.mg "__name__").getD .none) c' ctv):=Heap.get?_push_size _ rfl
 have hrec':(h'.push (PySem.W.kla_obj "<lambda>" ql params body sc [] ((X.mg "__name__").getD .none) c' ctv)).CodeRec (.ref c') ql:=hrec.push _
 generalize hG:h'.push (PySem.W.kla_obj "<lambda>" ql params body sc [] ((X.mg "__name__").getD .none) c' ctv)=G at *
 have ntb:∀ b u,H1 b=some u→b≠PT→upd H1 PT (.tbl (ps++#[rawInt lp.line,rawInt lp.col,.ref c'])) b=some u:=fun b u e n=>by rw [upd_ne n];exact e
 have un:Un (frs X.stack) [] H1 (upd H1 PT (.tbl (ps++#[rawInt lp.line,rawInt lp.col,.ref c']))) s1.heap G:=by
  have npt:∀ b,H1 b=none→b≠PT:=fun b n z=>by rw [z,hPT] at n;cases n
  refine ⟨fun b o e n _ _=>keep b o (npt b n) e,fun b o e n _ _=>⟨o.slots,keep b o (npt b n) e⟩,fun b o e n _=>by rw [upd_ne (npt b n)];exact n,fun b o e _=>?_,fun b xs e=>ntb b _ e (fun z=>by rw [z,hPT] at e;cases e),fun b o u e=>ntb b _ e (fun z=>by rw [z,hPT] at e;cases e),fun b qs e=>?_⟩
  ·by_cases z:b=PT
   ·subst z;exact ⟨_,hPn⟩
   ·exact ⟨o,keep b o z e⟩
  ·by_cases z:b=PT
   ·subst z
    rw [hPT] at e
    cases e
    exact ⟨_,upd_same⟩
   ·exact ⟨#[],by rw [upd_ne z,e];simp⟩
 have hok2:HOk X.prog X.w (upd H1 PT (.tbl (ps++#[rawInt lp.line,rawInt lp.col,.ref c']))) G:=fun b u e=>by
  by_cases z:b=PT
  ·subst z
   rw [upd_same] at e
   cases e
   exact hPn
  ·rw [upd_ne z] at e
   refine (I1.hok b u e).stay (fun d o hd r=>keep d o ?_ r) (fun d r=>ntb d _ r fun z=>by rw [z,hPT] at r;cases r) fun d xs r=>ntb d _ r fun z=>by rw [z,hPT] at r;cases r
   rcases hd with rfl | hd
   ·exact z
   ·intro z;rw [z,hPT] at hd;cases hd
 have I2:Inv X pins σ (upd H1 PT (.tbl (ps++#[rawInt lp.line,rawInt lp.col,.ref c']))) { s1 with heap:=G,toks:=tk }:=I1.call' rfl un hok2 I1.bare fun b z=>absurd z (by simp)
 exact h h'.objs.size c' ctv G tk I2 hfo hrec' hge hsz keep (by rw [← hG];exact Nat.le_trans hsz (by rw [size_push'];lia))
end
def tCallLam2 (i:Nat) (PT:Addr) (lp1 lp2:Pos) (spA:Addr→Addr→Sp) (E:XK):TE:=fun σ H Q=>∃ vt ps,σ[i]?=some (some vt)∧H PT=some (.tbl ps)∧PySem.TriplesOk ps.toList∧PySem.codeAmong lp1 ps.toList=none ∧
 (∀ c':Addr,PySem.TriplesOk (ps++#[rawInt lp1.line,rawInt lp1.col,.ref c']).toList∧PySem.codeAmong lp2 (ps++#[rawInt lp1.line,rawInt lp1.col,.ref c']).toList=none) ∧
 ∀ f1 f2 ps',H f1=none→H f2=none→spA f1 f2 [vt,.ref f1,.ref f2] (upd H PT (.tbl ps')) Q E
section
variable {X:Cx}{i k j1 j2:Nat}{c PT gf C:Addr}{g t x1 x2 ql:Str}{p pt pos lp1 lp2:Pos}{params1 params2:Arguments}{body1 body2:Expr}{sc1 sc2:Scope}{E:XK}{spL1 spL2:Sp}{spA:Addr→Addr→Sp}{ps2:List Str}
theorem pe_callLam2 (S1:LamScope0 x1 sc1) (S2:LamScope0 x2 sc2) (hcode:X.env.code=.ref c) (hC:∀ h,X.K.In h→PySem.W.CodeHd h c PT) (hB:X.base.BuiltinsAt X.mg PT)
  (hNi:X.N[i]?=some t) (hvt:Vis X.env.scope t)
  (hcl1:closureFor sc1 X.env=pure []) (hcl2:closureFor sc2 X.env=pure []) (hdef1:defaultsOf params1 X.env=([],[])) (hdef2:defaultsOf params2 X.env=([],[])) (hql:X.env.qual++"<lambda>"=ql)
  (hgl:Gl X g) (hm:X.mg g=some (.ref gf)) (hk:PySem.W.keepIn X.K (.ref gf)=true) (hr:Room k X.A)
  (hlen1:∀ vs H Q E,spL1 vs H Q E→vs.length=[x1].length) (hlen2:∀ vs H Q E,spL2 vs H Q E→vs.length=[x2].length)
  (hA:∀ (base':Heap) (f1 f2:Addr) (fd1 fd2:FuncData),Mod X.K X.mg base'→PySem.W.FnAt f1 base'→PySem.W.FnAt f2 base'→(∀ (s:Shared) (us:List Value),us.length=[x1].length→BindsTo s fd1 ⟨us,[]⟩ ([x1].zip us))→(∀ (s:Shared) (us:List Value),us.length=[x2].length→BindsTo s fd2 ⟨us,[]⟩ ([x2].zip us)) →
   FnOk X.prog X.w X.K X.mg base' (CX1 X.prog X.w C) (j1+1) f1 fd1 [x1] spL1→FnOk X.prog X.w X.K X.mg base' (CX1 X.prog X.w C) (j2+1) f2 fd2 [x2] spL2→FnC X.prog X.w X.K X.mg base' CX0 k g ps2 (spA f1 f2))
  (hbind1:∀ (c':Addr) (pm ctv:Value) (s:Shared) (us:List Value),us.length=[x1].length→BindsTo s (PySem.W.kla_fn "<lambda>" ql params1 body1 sc1 [] pm (.ref c') ctv) ⟨us,[]⟩ ([x1].zip us))
  (hbind2:∀ (c':Addr) (pm ctv:Value) (s:Shared) (us:List Value),us.length=[x2].length→BindsTo s (PySem.W.kla_fn "<lambda>" ql params2 body2 sc2 [] pm (.ref c') ctv) ⟨us,[]⟩ ([x2].zip us))
  (hL1:∀ (base':Heap) (f c':Addr) (A:Around) (outer:List Env) (s:Shared) (H:Hp) (v:V) (Q:VK) (E:XK),Room j1 (A.deeper (PySem.W.envX ql sc1 s.heap.objs.size f (.ref c') []))→spL1 [v] H Q E →
   ∃ t,PE (cxLamX X.prog X.w X.K X.mg base' C [x1] ql sc1 f (.ref c') A outer s H E) body1 t∧t [some v] H Q)
  (hL2:∀ (base':Heap) (f c':Addr) (A:Around) (outer:List Env) (s:Shared) (H:Hp) (v:V) (Q:VK) (E:XK),Room j2 (A.deeper (PySem.W.envX ql sc2 s.heap.objs.size f (.ref c') []))→spL2 [v] H Q E →
   ∃ t,PE (cxLamX X.prog X.w X.K X.mg base' C [x2] ql sc2 f (.ref c') A outer s H E) body2 t∧t [some v] H Q)
  (hx:Passes CX0 X E) (hgP:mainGlobals≠PT)
  (hdb:(g==("__debug__":Str))=false:=by decide) (hdt:(t==("__debug__":Str))=false:=by decide) (hct:(t==("__classdict__":Str))=false:=by decide)
  (he:starEach [.Name t pt,.Lambda params1 body1 sc1 lp1,.Lambda params2 body2 sc2 lp2] X.env=(false,eval (.Name t pt) X.env)::starEach [.Lambda params1 body1 sc1 lp1,.Lambda params2 body2 sc2 lp2] X.env:=by rfl)
  (he1:starEach [.Lambda params1 body1 sc1 lp1,.Lambda params2 body2 sc2 lp2] X.env=(false,eval (.Lambda params1 body1 sc1 lp1) X.env)::starEach [.Lambda params2 body2 sc2 lp2] X.env:=by rfl)
  (he2:starEach [.Lambda params2 body2 sc2 lp2] X.env=(false,eval (.Lambda params2 body2 sc2 lp2) X.env)::starEach [] X.env:=by rfl)
  (hpl:(backTo pos (starEach [.Lambda params1 body1 sc1 lp1,.Lambda params2 body2 sc2 lp2] X.env)).any (·.1)=false:=by rfl) :
  PE X (.Call (.Name g p) [.Name t pt,.Lambda params1 body1 sc1 lp1,.Lambda params2 body2 sc2 lp2] [] pos) (tCallLam2 i PT lp1 lp2 spA E):=by
 intro pins s σ H Q I h
 obtain ⟨vt,ps,hi,hPT,hTr,hnf,hnf2,hq⟩:=h
 refine wpAny_Call_Name_kw (ld_glob I hgl hm ?_ hdb)
 refine PySem.W.callWith_K (h₀:=X.base) I.ok.mod.kin hk ?_ he hpl
 rw [he]
 show wpAny _ _ (spliced ((false,eval (.Name t pt) X.env)::backTo pos (starEach [.Lambda params1 body1 sc1 lp1,.Lambda params2 body2 sc2 lp2] X.env))) _ _ s
 refine Calls.spliced_cons (thn (pe_var (pos:=pt) hNi hvt hdt hct pins s σ H (fun v H'=>v=vt∧H'=H) I ⟨vt,hi,rfl,rfl⟩) fun ut s1 ⟨v1,H1,I1,rt,ev,eH⟩=>?_)
 subst ev;subst eH
 rw [he1]
 show wpAny _ _ (spliced ((false,eval (.Lambda params1 body1 sc1 lp1) X.env)::backTo pos (starEach [.Lambda params2 body2 sc2 lp2] X.env))) _ _ s1
 refine Calls.spliced_cons (lam_made hcode hC hB hcl1 hdef1 hql hgP I1 hPT hTr hnf fun f1 c1 ctv1 G1 tk1 I2 hfo1 hrec1 hge1 hgf1 keep1 hsz1=>?_)
 rw [he2]
 show wpAny _ _ (spliced ((false,eval (.Lambda params2 body2 sc2 lp2) X.env)::backTo pos (starEach [] X.env))) _ _ _
 refine Calls.spliced_cons (lam_made hcode hC hB hcl2 hdef2 hql hgP I2 upd_same (hnf2 c1).1 (hnf2 c1).2 fun f2 c2 ctv2 G2 tk2 I3 hfo2 hrec2 hge2 hgf2 keep2 hsz2=>?_)
 refine Calls.spliced_nil ?_
 rw [upd_upd] at I3
 have hPs:s1.heap.get? PT=some (PySem.W.tabObj ps):=I1.hok PT _ hPT
 have hltP:=Heap.lt_size hPs
 refine ⟨I3.kIn,?_⟩
 have hlN:∀ b,b∈frs X.stack→b<s1.heap.objs.size:=fun b hb=>by
  obtain ⟨_,o,ho,_⟩:=I1.stack.mem hb
  exact Heap.lt_size ho
 generalize hHT:upd H1 PT (.tbl (ps++#[rawInt lp1.line,rawInt lp1.col,.ref c1]++#[rawInt lp2.line,rawInt lp2.col,.ref c2]))=HT at I3 ⊢
 have fresh:∀ b,s1.heap.objs.size≤b→HT b=none∧b ∉ frs X.stack:=fun b hb=>by
  refine ⟨?_,fun z=>absurd (hlN b z) (Nat.not_lt.mpr hb)⟩
  have hbP:b≠PT:=fun z=>by rw [z] at hb;exact absurd hltP (Nat.not_lt.mpr hb)
  rw [← hHT,upd_ne hbP]
  exact I1.hok.fresh hb
 have nP:∀ {b},s1.heap.objs.size≤b→b≠PT:=fun {b} hb z=>by rw [z] at hb;exact absurd hltP (Nat.not_lt.mpr hb)
 obtain ⟨B',hB'⟩:∃ B',B'=bare2 G2 HT X.stack:=⟨_,rfl⟩
 have ksB:∀ b o,X.base.get? b=some o→B'.get? b=some o:=fun b o e=>by
  rw [hB']
  have q:=I3.bs b o e
  refine bare2_get q.1 q.2 fun z=>?_
  have:=(I1.stack.mem z).1
  rw [e] at this;cases this
 have hM:Mod X.K X.mg B':=I1.ok.mod.keeps ksB
 have hge2':s1.heap.objs.size≤c2:=Nat.le_trans hsz1 hge2
 have hgf2':s1.heap.objs.size≤f2:=Nat.le_trans hsz1 hgf2
 have inB:∀ {b o},G2.get? b=some o→s1.heap.objs.size≤b→B'.get? b=some o:=fun {b o} e hb=>by
  rw [hB']
  have q:=fresh b hb
  exact bare2_get e q.1 q.2
 have hfB1:=inB (keep2 f1 _ (nP hgf1) hfo1) hgf1
 have hfB2:=inB hfo2 hgf2'
 have hcB1:B'.CodeRec (.ref c1) ql:=by
  obtain ⟨c3,oc,vs,tq,e1,e2,e3,e4⟩:=hrec1
  cases e1
  exact ⟨c1,oc,vs,tq,rfl,inB (keep2 c1 _ (nP hge1) e2) hge1,e3,e4⟩
 have hcB2:B'.CodeRec (.ref c2) ql:=by
  obtain ⟨c3,oc,vs,tq,e1,e2,e3,e4⟩:=hrec2
  cases e1
  exact ⟨c2,oc,vs,tq,rfl,inB e2 hge2',e3,e4⟩
 have FL1:=lam_okX (C:=C) (w:=X.w) (P:=X.prog) (K:=X.K) (mg:=X.mg) (base:=B') (k:=j1) (sp:=spL1) S1 hfB1 hcB1 hlen1 (fun A outer s H v Q E hr hsp=>hL1 B' _ c1 A outer s H v Q E hr hsp)
 have FL2:=lam_okX (C:=C) (w:=X.w) (P:=X.prog) (K:=X.K) (mg:=X.mg) (base:=B') (k:=j2) (sp:=spL2) S2 hfB2 hcB2 hlen2 (fun A outer s H v Q E hr hsp=>hL2 B' _ c2 A outer s H v Q E hr hsp)
 obtain ⟨gf',gd,hm',_,hbg,FG⟩:=(hA B' f1 f2 _ _ hM ⟨_,_,_,_,hfB1⟩ ⟨_,_,_,_,hfB2⟩ (hbind1 c1 _ ctv1) (hbind2 c2 _ ctv2) FL1 FL2).ex
 rw [hm] at hm'
 cases hm'
 have hsp:=hq f1 f2 (ps++#[rawInt lp1.line,rawInt lp1.col,.ref c1]++#[rawInt lp2.line,rawInt lp2.col,.ref c2]) (I1.hok.fresh hgf1) (I1.hok.fresh hgf2')
 rw [hHT] at hsp
 have r2:Vals [v1,.ref f1,.ref f2] [ut,.ref f1,.ref f2]:=.cons rt (.cons rfl (.cons rfl .nil))
 have hl2:([ut,Value.ref f1,Value.ref f2]:List Value).length=ps2.length:=by rw [← r2.length];exact FG.len _ _ _ _ hsp
 have e0:Env0 X.prog X.w X.K X.mg B' X.A X.stack { s1 with heap:=G2,toks:=tk2 } HT :=
  ⟨I3.ok.frames,hM,fun b o e=>by rw [hB'] at e;exact of_bare2 e,by rw [hB'];exact Nat.le_of_eq (PySem.W.hideAll_size _ _),by
   rw [hB']
   exact PySem.W.funFrames_hide I3.stack fun env he a ha=>List.mem_append_right _ (List.mem_filterMap.mpr ⟨env,he,ha⟩),I3.stkFree,I3.hok,I3.bare⟩
 have hb2:=hbg { s1 with heap:=G2,toks:=tk2 } [ut,.ref f1,.ref f2] I3.kIn (by rw [List.append_nil];exact hl2)
 rw [List.append_nil] at hb2
 refine wpAny_call (codeAny_mono (FG.run X.A X.stack _ _ ⟨[ut,.ref f1,.ref f2],[]⟩ [ut,.ref f1,.ref f2] [v1,.ref f1,.ref f2] Q E hr e0 hb2 r2 hsp) fun r s' hq=>?_)
 cases r with
 | error e=>exact hx pins σ _ _ e s' I3 hq
 | ok fl =>
  cases fl with
  | ret u=>exact I3.after hq
  | next=>exact False.elim hq
  | brk=>exact False.elim hq
  | cont=>exact False.elim hq
end
end L2
end
section
set_option maxRecDepth 100000
set_option maxHeartbeats 2000000
namespace L2
open PySem PySem.Spec PyProof.Rows
open PySem.W (WData Codec OpenSpec Well WellAll ReadsW ReadsAllW)
theorem SqL.up {K:PySem.W.Frag}{H H':Hp}{a:Addr}{xs:List V} (k:∀ b u,H b=some u→H' b=some u) (h:SqL K H a xs):SqL K H' a xs:=by
 rcases h with (h | ⟨o,h⟩) | h
 ·exact .inl (.inl (k _ _ h))
 ·exact .inl (.inr ⟨o,k _ _ h⟩)
 ·exact .inr h
theorem SqT.up {K:PySem.W.Frag}{H H':Hp}{a:Addr}{xs:List V} (k:∀ b u,H b=some u→H' b=some u) (h:SqT K H a xs):SqT K H' a xs:=by
 rcases h with (h | ⟨o,h⟩) | h
 ·exact .inl (.inl (k _ _ h))
 ·exact .inl (.inr ⟨o,k _ _ h⟩)
 ·exact .inr h
mutual
theorem Dw.up {K:PySem.W.Frag}{H H':Hp} (k:∀ b u,H b=some u→H' b=some u):∀ {v:V}{d:WData},Dw K H v d→Dw K H' v d
 | _,_,.non=>.non
 | _,_,.bl b=>.bl b
 | _,_,.int i=>.int i
 | _,_,.str x=>.str x
 | _,_,.byt b=>.byt b
 | _,_,.lst h1 h2=>.lst (h1.up k) (DwAll.up k h2)
 | _,_,.tup h1 h2=>.tup (h1.up k) (DwAll.up k h2)
theorem DwAll.up {K:PySem.W.Frag}{H H':Hp} (k:∀ b u,H b=some u→H' b=some u):∀ {vs:List V}{ds:List WData},DwAll K H vs ds→DwAll K H' vs ds
 | _,_,.nil=>.nil
 | _,_,.cons h1 h2=>.cons (Dw.up k h1) (DwAll.up k h2)
end
theorem spec_callT {P:Program}{w:World}{K:PySem.W.Frag}{mg mb:Str→Option Value}{k:Nat}{fa c PT:Addr}{fd:FuncData}{ps:List Str}{sp:Sp}{s₁:Shared}{vals:List Value}{ds:List WData}{R:PySem.W.WRecords}{cl:Str→Option Addr}{d0:WData}
  (KX:K.In s₁.heap) (hns:s₁.heap.Ns mainGlobals mg) (hb:s₁.heap.Ns builtinsNs mb) (hbb:∀ x:Str,x≠"__name__"→mb x=bootBuiltins x) (hlim:s₁.heap.NoLimit) (hg:s₁.gens=#[])
  (hwl:WellAll w.params s₁.heap vals ds) (hpl:plWs ds=true) (hwt:∀ d∈ds,d.weight≤1048576) (hr:Room k callerA)
  (hC:PySem.W.CodeHd s₁.heap c PT) (hP:s₁.heap.get? PT=some (PySem.W.tabObj #[])) (hnt:PySem.W.noTabs K=true) (hbm:s₁.heap.BuiltinsAt mg PT)
  (F:∀ base:Heap,K.In base→base.Ns mainGlobals mg→base.BuiltinsAt mg PT→FnOk P w K mg base CX0 k fa fd ps sp) (hbind:∀ (s:Shared) (us:List Value),us.length=ps.length→BindsTo s fd ⟨us,[]⟩ (ps.zip us)) (hlen:ds.length=ps.length)
  (hsp:∀ (H:Hp) (xs:List V),H PT=some (.tbl #[])→DwAll K H xs ds→sp xs H (fun v H'=>Dw K H' v d0) fun _ _ _=>False) :
  codeAny (model P w) callerA (.call (.ref fa) ⟨vals,[]⟩) (fun r s'=>∃ u as,r=.ok (.ret u)∧ReadsW R cl s'.heap u d0 as∧OldK s₁.heap s'.heap∧s'.os=s₁.os∧AllBare s'.gens) s₁:=by
 obtain ⟨A,ho,ar⟩:=area_all ds vals hwl hpl hwt
 have hO:OnlyF (argH K s₁.heap A):=argH_only ar
 have hok0:HOk P w (argH K s₁.heap A) s₁.heap:=argH_ok ar
 have hS0:=dw_all KX ar ds vals hwl hpl ho
 have hV:=vals_toV ho
 have hK:∀ b u,argH K s₁.heap A b=some u→K.lookup b=none:=fun b u q=>(argH_is ar q).1
 have noD:∀ {b:Addr}{o:Obj},s₁.heap.get? b=some o→(∀ vs n,o.data≠.seq vs n)→argH K s₁.heap A b=none:=fun {b o} e d=>by
  cases q:argH K s₁.heap A b with
  | none=>rfl
  | some u =>
   obtain ⟨_,vs,_,_,⟨e2,_⟩ | ⟨e2,_⟩⟩:=argH_is ar q
   ·rw [e2] at e
    cases e
    exact absurd rfl (d _ _)
   ·rw [e2] at e
    cases e
    exact absurd rfl (d _ _)
 have hPn:argH K s₁.heap A PT=none:=noD hP (fun vs n z=>by cases z)
 generalize argH K s₁.heap A=H0 at hO hok0 hS0 hK noD hPn
 have up:∀ b u,H0 b=some u→upd H0 PT (.tbl #[]) b=some u:=fun b u e=>by rw [upd_ne (ne_of_none e hPn)];exact e
 have hS:DwAll K (upd H0 PT (.tbl #[])) (vals.map toV) ds:=DwAll.up up hS0
 have hok:HOk P w (upd H0 PT (.tbl #[])) s₁.heap:=fun b u e=>by
  by_cases z:b=PT
  ·subst z
   rw [upd_same] at e
   cases e
   exact hP
  ·rw [upd_ne z] at e
   exact (hok0 b u e).stay (fun _ _ _ r=>r) (fun d r=>up _ _ r) fun d xs r=>up _ _ r
 have nKP:K.lookup PT=none:=by
  cases q:K.lookup PT with
  | none=>rfl
  | some o =>
   have e2:=KX _ _ q
   rw [hP] at e2
   cases e2
   have h2:=List.all_eq_true.mp hnt (PT,PySem.W.tabObj #[]) (PySem.W.mem_of_lookupK q)
   exact absurd (show false=true from h2) Bool.false_ne_true
 have nT:∀ b,H0 b=none→b≠PT→upd H0 PT (.tbl #[]) b=none:=fun b n z=>by rw [upd_ne z];exact n
 have base_of:∀ {b:Addr}{o:Obj},s₁.heap.get? b=some o→upd H0 PT (.tbl #[]) b=none→(hidT s₁.heap (upd H0 PT (.tbl #[]))).get? b=some o:=fun e n=>hidT_get e n
 have neP:∀ {b:Addr}{o:Obj},s₁.heap.get? b=some o→(∀ vs,o.data≠.fields vs)→b≠PT:=fun {b o} e d z=>by
  rw [z,hP] at e
  cases e
  exact absurd rfl (d _)
 have nsK:∀ {b:Addr}{m:Str→Option Value},s₁.heap.Ns b m→(hidT s₁.heap (upd H0 PT (.tbl #[]))).Ns b m:=fun {b m} ⟨o,es,ep,e,d,r⟩=>⟨o,es,ep,base_of e (nT _ (noD e fun vs n z=>by rw [d] at z;cases z) (neP e fun vs z=>by rw [d] at z;cases z)),d,r⟩
 have nK:∀ b o,K.lookup b=some o→upd H0 PT (.tbl #[]) b=none:=fun b o e=>by
  refine nT b ?_ (fun z=>by rw [z,nKP] at e;cases e)
  cases q:H0 b with
  | none=>rfl
  | some u =>
   rw [hK b u q] at e
   cases e
 have hKb:K.In (hidT s₁.heap (upd H0 PT (.tbl #[]))):=fun b o e=>base_of (KX b o e) (nK b o e)
 have hM:Mod K mg (hidT s₁.heap (upd H0 PT (.tbl #[]))):=⟨hKb,nsK hns,⟨mb,nsK hb,hbb⟩,let ⟨mc,h1,h2⟩:=hlim;⟨mc,nsK h1,h2⟩⟩
 have hBm:(hidT s₁.heap (upd H0 PT (.tbl #[]))).BuiltinsAt mg PT:=by
  obtain ⟨bm,ob,a1,a2,a3,a4,a5,a6,a7,a8⟩:=hbm
  exact ⟨bm,ob,a1,a2,a3,a4,base_of a5 (nT _ (noD a5 fun vs n z=>by rw [a8] at z;cases z) a4),a6,a7,a8⟩
 have e0:Env0 P w K mg (hidT s₁.heap (upd H0 PT (.tbl #[]))) callerA [] s₁ (upd H0 PT (.tbl #[])):=⟨rfl,hM,fun b o e=>of_hidT e,Nat.le_of_eq (hidT_size _ _),trivial,fun b hb=>absurd (show b∈([]:List Addr) from hb) (by simp),hok,.of_eq hg⟩
 have hl:vals.length=ps.length:=by rw [wellAll_len hwl];exact hlen
 refine codeAny_mono ((F _ hKb (nsK hns) hBm).run callerA [] s₁ (upd H0 PT (.tbl #[])) ⟨vals,[]⟩ vals (vals.map toV) _ _ hr e0 (hbind s₁ vals hl) hV (hsp _ _ upd_same hS)) fun r s' x=>?_
 cases r with
 | error e=>exact False.elim x
 | ok fl =>
  cases fl with
  | next=>exact False.elim x
  | brk=>exact False.elim x
  | cont=>exact False.elim x
  | ret u =>
   obtain ⟨v,H',os,bare,un,hok',r',q⟩:=x
   have kept:∀ b o,b≠PT→s₁.heap.get? b=some o→s'.heap.get? b=some o:=fun b o nb e=>by
    cases q2:H0 b with
    | none=>exact un.keep b o e (nT b q2 nb) (by intro z;exact absurd (show b∈([]:List Addr) from z) (by simp)) (by simp)
    | some u2 =>
     rcases hO b with z | ⟨ob,u3,z⟩
     ·rw [q2] at z
      cases z
     ·have z1:=up _ _ z
      have z2:=un.frzs b ob _ z1
      obtain ⟨e1,_⟩:=hok b _ z1
      obtain ⟨e2,_⟩:=hok' b _ z2
      rw [e] at e1
      cases e1
      exact e2
   obtain ⟨more,hmore⟩:=un.tbls PT #[] upd_same
   have hP':s'.heap.get? PT=some (PySem.W.tabObj (#[]++more)):=hok' PT _ hmore
   have KX':K.In s'.heap:=fun b o e=>kept b o (fun z=>by rw [z,nKP] at e;cases e) (KX b o e)
   obtain ⟨as,hrd⟩:=Dw.reads (R:=R) (cl:=cl) hok' KX' d0 v u q r'
   refine ⟨u,as,rfl,hrd,⟨fun b o e=>?_,fun b o e=>?_⟩,os,bare⟩
   ·by_cases z:b=PT
    ·subst z
     rw [hP] at e
     cases e
     exact .inr (.inl ⟨(hC.tab hP).isCodeTable,rfl,#[],more,rfl,hP'⟩)
    ·exact .inl (kept b o z e)
   ·by_cases z:b=PT
    ·subst z;exact ⟨_,hP'⟩
    ·exact ⟨o,kept b o z e⟩
theorem walk_specT {r:OpenSpec}{k:Nat}{q:Program}{loose:List Str}{XP:(Str→Option Value)→Heap→Prop}{YP:World→Heap→Prop}{d:DefRec}{K:Params→PySem.W.Frag}{ps:List Str}{sp:PySem.W.Frag→Addr→Sp}
  (hwell:r.wellSaid=true) (hdf:d.params.defaults=[]) (hlen:r.args.length=ps.length) (hr:Room k callerA)
  (hY:∀ (w:World) (h:Heap),YP w h→(K w.params).In h) {d':DefRec} (hrec:(recsOf q).find? (fun e=>e.name==d.name)=some d')
  (hnt:∀ w:World,PySem.W.noTabs (K w.params)=true) (htab:∀ w:World,(PySem.W.tabIn (K w.params) d.name).isSome=true)
  (F:∀ (w:World) (mg:Str→Option Value) (fa c PT:Addr) (h:Heap),YP w h→(K w.params).In h→h.Ns mainGlobals mg→mg d.name=some (.ref fa)→PySem.W.tabIn (K w.params) d.name=some (c,PT)→(∀ h',(K w.params).In h'→PySem.W.CodeHd h' c PT)→mainGlobals≠PT →
   ∃ fd:FuncData,(∀ (s:Shared) (us:List Value),us.length=ps.length→BindsTo s fd ⟨us,[]⟩ (ps.zip us)) ∧
    ∀ base:Heap,(K w.params).In base→base.Ns mainGlobals mg→base.BuiltinsAt mg PT→FnOk r.prog w (K w.params) mg base CX0 k fa fd ps (sp (K w.params) PT))
  (hsp:∀ (K:PySem.W.Frag) (PT:Addr) (H:Hp) (xs:List V) (a:Codec.denoteAll r.args),H PT=some (.tbl #[])→Codec.withinAll r.args a=true→Codec.app r.args r.asked a=true→DwAll K H xs (Codec.encAll r.args a) →
   sp K PT xs H (fun v H'=>Dw K H' v (r.ret.enc (Codec.app r.args r.f a))) fun _ _ _=>False) :
  PySem.W.WalkOS q loose XP YP r d [] (fun f vs=>PySem.call f vs):=by
 intro w s_0 s₁ mg mb G Y fa o pm cd doc dV kV ho hd hcd hD hmg hg args vals as hpre hlay hrd hwl hlo
 obtain ⟨a,e1,e2⟩:=PySem.W.os_pre_some hpre
 obtain ⟨e3,hwi⟩:=Codec.encAll_of_decAll r.args args a e1
 subst e3
 have KX:=hY w _ Y
 obtain ⟨⟨c,PT⟩,htb⟩:=Option.isSome_iff_exists.mp (htab w)
 obtain ⟨hC,hP⟩:=PySem.W.tab_of G.T KX hrec htb
 have hCa:∀ h',(K w.params).In h'→PySem.W.CodeHd h' c PT:=fun h' X'=>by
  have ht:=htb
  unfold PySem.W.tabIn at ht
  split at ht
  ·split at ht
   ·split at ht
    ·split at ht
     ·rename_i hfo
      split at ht
      ·cases ht
       obtain ⟨o,vs,file,tf,flags,tg,inF,text,tt,e1,r⟩:=hC
       have e2:=KX _ _ hfo
       rw [e1] at e2
       cases e2
       exact ⟨_,vs,file,tf,flags,tg,inF,text,tt,X' _ _ hfo,r⟩
      ·cases ht
     ·cases ht
    ·cases ht
   ·cases ht
  ·cases ht
 obtain ⟨bm,ob,b1,b2,b3,b4,b5,b6⟩:=G.T.bmain
 have hgP:mainGlobals≠PT:=fun z=>by
  obtain ⟨o,es,ep,e,hd,_⟩:=G.T.g
  rw [z,hP] at e;cases e;cases hd
 have hbP:bm≠PT:=fun z=>by
  rw [z,hP] at b3;cases b3;cases b4
 have hbG:bm≠mainGlobals:=fun z=>by
  obtain ⟨o,es,ep,e,hd,_⟩:=G.T.g
  rw [z,e] at b3;cases b3;rw [hd] at b6;cases b6
 obtain ⟨fd,hb,hF⟩:=F w mg fa c PT _ Y KX G.T.g hmg htb hCa hgP
 refine PySem.W.enter_call (codeAny_mono (spec_callT (R:=[]) (cl:=classAt s_0.heap) (d0:=r.ret.enc (Codec.app r.args r.f a)) KX G.T.g G.T.b G.T.builtins G.T.nolimit hg hwl (pl_encAll _ _) (layable_weight hlay) hr hC hP (hnt w) ⟨bm,ob,b1,b2,hbG,hbP,b3,b4,b5,b6⟩ hF hb (by rw [encAll_len];exact hlen)
  (fun H xs hO hS=>hsp _ PT H xs a hO hwi e2 hS)) fun r' s' hq=>?_)
 obtain ⟨u,as',rfl,h1,h2,h3,h4⟩:=hq
 exact ⟨.inl ⟨u,_,as',rfl,fun _=>rfl,h1,(OpenSpec.post_iff hwell hwi _ _).mpr rfl,fun z=>Bool.noConfusion (show false=true from z)⟩,h2,h3,h4⟩
end L2
end
section
namespace Vp
open Vh VhPage
def pk (bs:List UInt8) (p:Nat):Int:=match bs[p]? with | some c=>(c.toNat:Int) | none=>256
theorem pk_lt (bs:List UInt8) (p:Nat):0≤pk bs p∧pk bs p≤256:=by
 unfold pk
 split
 ·rename_i c _;have:=c.toNat_lt;lia
 ·lia
theorem head_drop (bs:List UInt8) (p:Nat):(bs.drop p).head?=bs[p]?:=by rw [List.head?_drop]
theorem drop_drop1 (bs:List UInt8) (p:Nat):(bs.drop p).drop 1=bs.drop (p+1):=by rw [List.drop_drop]
theorem pk_some {bs:List UInt8}{p:Nat}{c:UInt8} (h:bs[p]?=some c):pk bs p=c.toNat:=by unfold pk;rw [h]
theorem pk_eq {bs:List UInt8}{p:Nat}{c:UInt8}:pk bs p=c.toNat↔bs[p]?=some c:=by
 unfold pk
 cases h:bs[p]? with
 | none =>
  have:=c.toNat_lt
  constructor
  ·intro z;simp at z;lia
  ·intro z;cases z
 | some d =>
  constructor
  ·intro z
   have:d.toNat=c.toNat:=by
    have z':(d.toNat:Int)=c.toNat:=z
    lia
   rw [UInt8.toNat_inj.mp this]
  ·intro z;cases z;rfl
theorem pk_none {bs:List UInt8}{p:Nat}:pk bs p=256↔bs[p]?=none:=by
 unfold pk
 cases h:bs[p]? with
 | none=>simp
 | some d =>
  have:=d.toNat_lt
  simp
  lia
theorem byte_ok {bs:List UInt8}{p:Nat}{c:UInt8} (h:pk bs p=c.toNat):byte_ c p (bs.drop p)=.ok ((),p+1,bs.drop (p+1)):=by
 unfold byte_ byNext
 rw [head_drop,pk_eq.mp h]
 dsimp only
 rw [if_pos rfl]
 unfold behind gives
 rw [drop_drop1]
theorem byte_no {bs:List UInt8}{p:Nat}{c:UInt8} (h:¬ pk bs p=c.toNat):byte_ c p (bs.drop p)=.error p:=by
 unfold byte_ byNext
 rw [head_drop]
 dsimp only
 rw [if_neg (fun z=>h (pk_eq.mpr z))]
 rfl
theorem then_ok {α β:Type}{r:Rd α}{f:α→Rd β}{p p':Nat}{b b':Bytes}{x:α} (h:r p b=.ok (x,p',b')):andThen r f p b=f x p' b':=by unfold andThen;rw [h]
theorem then_no {α β:Type}{r:Rd α}{f:α→Rd β}{p i:Nat}{b:Bytes} (h:r p b=.error i):andThen r f p b=.error i:=by unfold andThen;rw [h]
theorem leads_true {lo hi v k:Nat} (hv:v≠0) (h1:v * 10 ^ k≤hi) (h2:lo<(v+1) * 10 ^ k) (h3:hi<10 ^ 11):leadsTo lo hi v=true:=by
 unfold leadsTo
 rw [if_neg hv,List.any_eq_true]
 have hk:k<12:=by
  apply Decidable.byContradiction
  intro hk
  have h4:10 ^ 11≤10 ^ k:=Nat.pow_le_pow_right (by lia) (by lia)
  have h5:1 * 10 ^ k≤v * 10 ^ k:=Nat.mul_le_mul_right _ (by lia)
  lia
 exact ⟨k,List.mem_range.mpr hk,by simp [h1,h2]⟩
theorem leads_false {lo hi v k:Nat} (hv:v≠0) (h:∀ j,j<k→¬ (v * 10 ^ j≤hi∧lo<(v+1) * 10 ^ j)) (h1:hi<v * 10 ^ k):leadsTo lo hi v=false:=by
 unfold leadsTo
 rw [if_neg hv,List.any_eq_false]
 intro j _ q
 have q':v * 10 ^ j≤hi∧lo<(v+1) * 10 ^ j:=by simpa using q
 by_cases hj:j<k
 ·exact h j hj q'
 ·have h4:10 ^ k≤10 ^ j:=Nat.pow_le_pow_right (by lia) (by lia)
  have h5:=Nat.mul_le_mul_left v h4
  lia
theorem leads_zero {lo hi:Nat}:leadsTo lo hi 0=(lo==0):=by unfold leadsTo;rw [if_pos rfl]
def dig (bs:List UInt8) (lo hi v p:Nat):Option Nat:=if 48≤pk bs p∧pk bs p≤57∧leadsTo lo hi (v * 10+(pk bs p-48).toNat)=true then some (v * 10+(pk bs p-48).toNat) else none
theorem isDigit_iff {c:UInt8}:isDigit c=true↔48≤c.toNat∧c.toNat≤57:=by
 unfold isDigit
 rw [Bool.and_eq_true,decide_eq_true_eq,decide_eq_true_eq,UInt8.le_iff_toNat_le,UInt8.le_iff_toNat_le]
 exact Iff.rfl
theorem digits_succ (lo hi f:Nat) (v:Option Nat) (bs:List UInt8) (p:Nat) (hv:v≠some 0):digits lo hi (f+1) v p (bs.drop p)=match dig bs lo hi (v.getD 0) p with
  | some n=>digits lo hi f (some n) (p+1) (bs.drop (p+1))
  | none=>match v with
   | some n=>if lo≤n∧n≤hi then .ok (n,p,bs.drop p) else .error p
   | none=>.error p:=by
 rw [Vh.digits.eq_def]
 dsimp only
 unfold byNext
 rw [head_drop]
 have key:((bs[p]?).bind fun (c:UInt8)=>if isDigit c=false∨v=some 0 then none else if leadsTo lo hi (10 * v.getD 0+(c.toNat-48))=true then some (10 * v.getD 0+(c.toNat-48)) else none)=dig bs lo hi (v.getD 0) p:=by
  unfold dig pk
  cases h:bs[p]? with
  | none =>
   simp only [Option.bind_none]
   rw [if_neg (by lia)]
  | some c =>
   simp only [Option.bind_some]
   by_cases hd:isDigit c=true
   ·have hd':=isDigit_iff.mp hd
    rw [if_neg (by simp [hd,hv])]
    have e1:((c.toNat:Int)-48).toNat=c.toNat-48:=by lia
    rw [e1,Nat.mul_comm 10]
    by_cases hl:leadsTo lo hi (v.getD 0 * 10+(c.toNat-48))=true
    ·rw [if_pos hl,if_pos ⟨by lia,by lia,hl⟩]
    ·rw [if_neg hl,if_neg (fun z=>hl z.2.2)]
   ·rw [if_pos (by simp [hd]),if_neg (fun z=>hd (isDigit_iff.mpr ⟨by lia,by lia⟩))]
 dsimp only
 rw [key]
 cases dig bs lo hi (v.getD 0) p with
 | some n=>dsimp only;unfold behind;rw [drop_drop1]
 | none =>
  dsimp only
  cases v with
  | none=>rfl
  | some n =>
   dsimp only
   split <;> rfl
theorem digits_zero (lo hi f:Nat) (bs:List UInt8) (p:Nat):digits lo hi (f+1) (some 0) p (bs.drop p)=if lo=0 then .ok (0,p,bs.drop p) else .error p:=by
 rw [Vh.digits.eq_def]
 dsimp only
 unfold byNext
 rw [head_drop]
 have key:((bs[p]?).bind fun (c:UInt8)=>if isDigit c=false∨some 0=some 0 then none else if leadsTo lo hi (10 * (some 0).getD 0+(c.toNat-48))=true then some (10 * (some 0).getD 0+(c.toNat-48)) else none)=none:=by
  cases bs[p]? with
  | none=>rfl
  | some c=>simp
 dsimp only
 rw [key]
 dsimp only
 by_cases h:lo=0
 ·rw [if_pos ⟨by lia,by lia⟩,if_pos h];rfl
 ·rw [if_neg (by lia),if_neg h];rfl
theorem leads_le {lo hi v:Nat} (h:leadsTo lo hi v=true):v≤hi:=by
 unfold leadsTo at h
 split at h
 ·lia
 ·rw [List.any_eq_true] at h
  obtain ⟨k,_,hk⟩:=h
  rw [Bool.and_eq_true,decide_eq_true_eq] at hk
  have:v * 1≤v * 10 ^ k:=Nat.mul_le_mul_left _ (Nat.one_le_pow _ _ (by lia))
  lia
structure NumAt (bs:List UInt8) (lo hi p0 v p f:Nat):Prop where
 eq:num lo hi p0 (bs.drop p0)=digits lo hi f (some v) p (bs.drop p)
 le:v≤hi
 big:10 ^ 20≤v * 10 ^ f * 10
theorem num_first {bs:List UInt8}{lo hi p v:Nat} (h:dig bs lo hi 0 p=some v):num lo hi p (bs.drop p)=digits lo hi 19 (some v) (p+1) (bs.drop (p+1)):=by
 unfold num
 rw [digits_succ lo hi 19 none bs p (by simp)]
 show (match dig bs lo hi 0 p with | some n=>_ | none=>_)=_
 rw [h]
theorem num_none {bs:List UInt8}{lo hi p:Nat} (h:dig bs lo hi 0 p=none):num lo hi p (bs.drop p)=.error p:=by
 unfold num
 rw [digits_succ lo hi 19 none bs p (by simp)]
 show (match dig bs lo hi 0 p with | some n=>_ | none=>_)=_
 rw [h]
theorem dig_le {bs:List UInt8}{lo hi v p n:Nat} (h:dig bs lo hi v p=some n):n≤hi∧v * 10≤n∧leadsTo lo hi n=true:=by
 unfold dig at h
 split at h
 ·rename_i z
  cases h
  exact ⟨leads_le z.2.2,by lia,z.2.2⟩
 ·cases h
def marksI:List Int:=[124,47,40,41,91,93,60,62,123,125,61,43,126,94,35,34]
def isL (n:Int):Bool:=!(decide (n<33) || (decide (127≤n) && decide (n≤159)) || marksI.contains n) && decide (n % 65536<65534)
def sizeL (n:Int):Int:=if n<128 then 1 else if 194≤n∧n≤223 then 2 else if 224≤n∧n≤239 then 3 else if 240≤n∧n≤244 then 4 else 0
def blo (n:Int):Int:=if n=224 then 160 else if n=240 then 144 else 128
def bhi (n:Int):Int:=if n=237 then 159 else if n=244 then 143 else 191
theorem isL_big {v:Nat} (h:160≤v):isL (v:Int)=decide (v % 65536<65534):=by
 unfold isL
 have h1:marksI.contains (v:Int)=false:=by
  rw [List.contains_eq_any_beq,List.any_eq_false]
  intro x hx
  have:x≤127:=by
   revert x
   decide
  simp;lia
 rw [h1,decide_eq_false (show ¬ (v:Int)<33 by lia),decide_eq_false (show ¬ (v:Int)≤159 by lia)]
 simp
 constructor <;> intro z <;> lia
theorem isL_mid {v:Nat} (h1:128≤v) (h2:v≤159):isL (v:Int)=false:=by
 unfold isL
 rw [decide_eq_true (show 127≤(v:Int) by lia),decide_eq_true (show (v:Int)≤159 by lia)]
 simp
theorem isL_low {c:UInt8} (h:c.toNat<128):isL (c.toNat:Int)=isLetter c.toNat:=by
 have key:∀ n,n<128→isL ((n:Nat):Int)=isLetter n:=by decide +kernel
 exact key _ h
theorem tail_eq (bs:List UInt8) (lo hi p:Nat) (h1:128≤lo) (h:hi≤255):tail_ lo hi p (bs.drop p)=if (lo:Int)≤pk bs p∧pk bs p≤hi then .ok ((pk bs p).toNat-128,p+1,bs.drop (p+1)) else .error p:=by
 unfold tail_ byNext
 rw [head_drop]
 unfold pk
 cases e:bs[p]? with
 | none =>
  dsimp only
  rw [if_neg (by lia)]
  rfl
 | some c =>
  dsimp only
  by_cases q:lo≤c.toNat∧c.toNat≤hi
  ·rw [if_pos q,if_pos (by lia)]
   unfold behind gives
   rw [drop_drop1]
   rfl
  ·rw [if_neg q,if_neg (by lia)]
   rfl
def longR (bs:List UInt8):Nat→Nat→Int→Int→Nat→Except Nat (Nat×Nat)
 | 0,v,_,_,p=>.ok (v,p)
 | n+1,v,lo,hi,p=>if lo≤pk bs p∧pk bs p≤hi then (if n=0∧isL ((v * 64+((pk bs p).toNat-128):Nat):Int)=false then .error p else longR bs n (v * 64+((pk bs p).toNat-128)) 128 191 (p+1)) else .error p
def outR (bs:List UInt8):Except Nat (Nat×Nat)→Except Nat (Nat×Nat×Bytes)
 | .ok (x,p)=>.ok (x,p,bs.drop p)
 | .error i=>.error i
def baseL (n:Nat):Nat:=if n<0xE0 then 0xC0 else if n<0xF0 then 0xE0 else 0xF0
def moreL (n:Nat):Nat:=if n<0xE0 then 1 else if n<0xF0 then 2 else 3
theorem starts_hi {c:UInt8} (h1:194≤c.toNat) (h2:c.toNat≤244):startsLetter c=true:=by
 unfold startsLetter
 rw [if_neg (by lia)]
 simp;lia
theorem long_letter {bs:List UInt8}{p:Nat}{c:UInt8} (hc:bs[p]?=some c) (h1:194≤c.toNat) (h2:c.toNat≤244) :
  letter_ p (bs.drop p)=outR bs (longR bs (moreL c.toNat) (c.toNat-baseL c.toNat) (blo c.toNat) (bhi c.toNat) (p+1)):=by
 unfold letter_ byNext
 rw [head_drop,hc]
 dsimp only
 rw [if_neg (by rw [starts_hi h1 h2];decide),if_neg (show ¬ c.toNat<128 by lia)]
 unfold moreL baseL blo bhi
 have b1:=pk_lt bs (p+1)
 have b2:=pk_lt bs (p+2)
 have b3:=pk_lt bs (p+3)
 generalize e1:pk bs (p+1)=x1 at b1
 generalize e2:pk bs (p+2)=x2 at b2
 generalize e3:pk bs (p+3)=x3 at b3
 generalize c.toNat=n at h1 h2
 by_cases hE:n<224
 ·simp only [if_pos hE]
  unfold behind
  rw [drop_drop1]
  unfold andThen
  rw [tail_eq _ _ _ _ (by split <;> lia) (by lia),e1]
  simp only [longR,e1]
  rw [if_neg (show ¬ (n:Int)=224 by lia),if_neg (show ¬ (n:Int)=240 by lia),if_neg (show ¬ (n:Int)=237 by lia),if_neg (show ¬ (n:Int)=244 by lia)]
  by_cases q:128≤x1∧x1≤191
  ·rw [if_pos q]
   by_cases h3:n=194
   ·subst h3
    by_cases h4:160≤x1
    ·rw [if_pos (by simp;lia)]
     have:isL (((194-192) * 64+(x1.toNat-128):Nat):Int)=true:=by rw [isL_big (by lia)];simp;lia
     rw [if_neg (by rw [this];simp)]
     rfl
    ·rw [if_neg (by simp;lia)]
     have:isL (((194-192) * 64+(x1.toNat-128):Nat):Int)=false:=isL_mid (by lia) (by lia)
     rw [if_pos ⟨by simp,this⟩]
     rfl
   ·rw [if_neg h3,if_pos (by simp;lia)]
    have:isL (((n-192) * 64+(x1.toNat-128):Nat):Int)=true:=by rw [isL_big (by lia)];simp;lia
    rw [if_neg (by rw [this];simp)]
    rfl
  ·rw [if_neg q,if_neg (by split <;> lia)]
   rfl
 ·simp only [if_neg hE]
  by_cases hF:n<240
  ·simp only [if_pos hF]
   unfold behind
   rw [drop_drop1]
   unfold andThen
   rw [tail_eq _ _ _ _ (by split <;> lia) (by split <;> lia),e1]
   simp only [longR,e1]
   by_cases q:(if (n:Int)=224 then (160:Int) else if (n:Int)=240 then 144 else 128)≤x1∧x1≤(if (n:Int)=237 then (159:Int) else if (n:Int)=244 then 143 else 191)
   ·rw [if_pos q,if_pos (by split at q <;> split at q <;> (try split at q) <;> (try split at q) <;> (try split) <;> (try split) <;> lia)]
    have x1lo:128≤x1:=by split at q <;> (try split at q) <;> lia
    have x1hi:x1≤191:=by split at q <;> (try split at q) <;> (try split at q) <;> (try split at q) <;> lia
    have x1E:n=224→160≤x1:=fun z=>by rw [if_pos (by lia)] at q;lia
    dsimp only
    rw [tail_eq _ _ _ _ (by lia) (by split <;> lia),e2]
    rw [if_neg (show ¬ (1=0∧_) by simp)]
    by_cases q2:128≤x2∧x2≤191
    ·rw [if_pos q2]
     have big:160≤((n-224) * 64+(x1.toNat-128)) * 64+(x2.toNat-128):=by
      by_cases z:n=224
      ·have:=x1E z;lia
      ·lia
     by_cases h5:n=239∧x1.toNat-128=63
     ·rw [if_pos h5]
      by_cases h6:x2≤189
      ·rw [if_pos (by simp;lia)]
       have:isL (((((n-224) * 64+(x1.toNat-128)) * 64+(x2.toNat-128):Nat)):Int)=true:=by rw [isL_big big];simp;lia
       rw [if_neg (by rw [this];simp)]
       simp only [longR,outR,gives]
       rw [show (n-224) * 4096+(x1.toNat-128) * 64+(x2.toNat-128)=((n-224) * 64+(x1.toNat-128)) * 64+(x2.toNat-128) by lia]
      ·rw [if_neg (by simp;lia)]
       have:isL (((((n-224) * 64+(x1.toNat-128)) * 64+(x2.toNat-128):Nat)):Int)=false:=by rw [isL_big big];simp;lia
       rw [if_pos ⟨by simp,this⟩]
       rfl
     ·rw [if_neg h5,if_pos (by simp;lia)]
      have:isL (((((n-224) * 64+(x1.toNat-128)) * 64+(x2.toNat-128):Nat)):Int)=true:=by rw [isL_big big];simp;lia
      rw [if_neg (by rw [this];simp)]
      simp only [longR,outR,gives]
      rw [show (n-224) * 4096+(x1.toNat-128) * 64+(x2.toNat-128)=((n-224) * 64+(x1.toNat-128)) * 64+(x2.toNat-128) by lia]
    ·rw [if_neg q2,if_neg (by split <;> lia)]
     rfl
   ·rw [if_neg q,if_neg (by split at q <;> (try split at q) <;> (try split at q) <;> (try split at q) <;> (try split) <;> (try split) <;> lia)]
    rfl
  ·simp only [if_neg hF]
   unfold behind
   rw [drop_drop1]
   unfold andThen
   rw [tail_eq _ _ _ _ (by split <;> lia) (by split <;> lia),e1]
   simp only [longR,e1]
   by_cases q:(if (n:Int)=224 then (160:Int) else if (n:Int)=240 then 144 else 128)≤x1∧x1≤(if (n:Int)=237 then (159:Int) else if (n:Int)=244 then 143 else 191)
   ·rw [if_pos q,if_pos (by split at q <;> split at q <;> (try split at q) <;> (try split at q) <;> (try split) <;> (try split) <;> lia)]
    have x1lo:128≤x1:=by split at q <;> (try split at q) <;> lia
    have x1hi:x1≤191:=by split at q <;> (try split at q) <;> (try split at q) <;> (try split at q) <;> lia
    have x1E:n=240→144≤x1:=fun z=>by rw [if_neg (by lia),if_pos (by lia)] at q;lia
    dsimp only
    rw [tail_eq _ _ _ _ (by lia) (by lia),e2]
    rw [if_neg (show ¬ (2=0∧_) by simp)]
    by_cases q2:128≤x2∧x2≤191
    ·rw [if_pos q2,if_pos (by simp;lia)]
     dsimp only
     rw [tail_eq _ _ _ _ (by lia) (by split <;> lia),e3]
     rw [if_neg (show ¬ (1=0∧_) by simp)]
     by_cases q3:128≤x3∧x3≤191
     ·rw [if_pos q3]
      have big:160≤(((n-240) * 64+(x1.toNat-128)) * 64+(x2.toNat-128)) * 64+(x3.toNat-128):=by
       by_cases z:n=240
       ·have:=x1E z;lia
       ·lia
      by_cases h5:(x1.toNat-128) % 16=15∧x2.toNat-128=63
      ·rw [if_pos h5]
       by_cases h6:x3≤189
       ·rw [if_pos (by simp;lia)]
        have:isL ((((((n-240) * 64+(x1.toNat-128)) * 64+(x2.toNat-128)) * 64+(x3.toNat-128):Nat)):Int)=true:=by rw [isL_big big];simp;lia
        rw [if_neg (by rw [this];simp)]
        simp only [longR,outR,gives]
        rw [show (n-240) * 262144+(x1.toNat-128) * 4096+(x2.toNat-128) * 64+(x3.toNat-128)=(((n-240) * 64+(x1.toNat-128)) * 64+(x2.toNat-128)) * 64+(x3.toNat-128) by lia]
       ·rw [if_neg (by simp;lia)]
        have:isL ((((((n-240) * 64+(x1.toNat-128)) * 64+(x2.toNat-128)) * 64+(x3.toNat-128):Nat)):Int)=false:=by rw [isL_big big];simp;lia
        rw [if_pos ⟨by simp,this⟩]
        rfl
      ·rw [if_neg h5,if_pos (by simp;lia)]
       have:isL ((((((n-240) * 64+(x1.toNat-128)) * 64+(x2.toNat-128)) * 64+(x3.toNat-128):Nat)):Int)=true:=by rw [isL_big big];simp;lia
       rw [if_neg (by rw [this];simp)]
       simp only [longR,outR,gives]
       rw [show (n-240) * 262144+(x1.toNat-128) * 4096+(x2.toNat-128) * 64+(x3.toNat-128)=(((n-240) * 64+(x1.toNat-128)) * 64+(x2.toNat-128)) * 64+(x3.toNat-128) by lia]
     ·rw [if_neg q3,if_neg (by split <;> lia)]
      rfl
    ·rw [if_neg q2,if_neg (by simp;lia)]
     rfl
   ·rw [if_neg q,if_neg (by split at q <;> (try split at q) <;> (try split at q) <;> (try split at q) <;> (try split) <;> (try split) <;> lia)]
    rfl
end Vp
end
section
namespace Vp
open Vh VhPage
def char1 (mk:List UInt8):Rd Nat:=byNext fun (c:Option UInt8)=>match c with
 | none=>stray
 | some x=>if mk.contains x=true then behind (gives x.toNat) else letter_
def cS (bs:List UInt8) (mk:List UInt8) (p:Nat):Bool:=match bs[p]? with
 | none=>false
 | some x=>mk.contains x || startsLetter x
def preO {α:Type} (xs:List α):Except Nat (List α×Nat×Bytes)→Except Nat (List α×Nat×Bytes)
 | .ok (r,p,b)=>.ok (xs++r,p,b)
 | .error i=>.error i
theorem preO_pre {α:Type} (xs ys:List α) (r:Except Nat (List α×Nat×Bytes)):preO xs (preO ys r)=preO (xs++ys) r:=by
 cases r with
 | error i=>rfl
 | ok x=>obtain ⟨r,p,b⟩:=x;simp [preO]
theorem preO_nil {α:Type} (r:Except Nat (List α×Nat×Bytes)):preO [] r=r:=by
 cases r with
 | error i=>rfl
 | ok x=>obtain ⟨r,p,b⟩:=x;simp [preO]
theorem char1_no {bs mk:List UInt8}{p:Nat} (h:cS bs mk p=false):char1 mk p (bs.drop p)=.error p:=by
 unfold char1 byNext
 rw [head_drop]
 unfold cS at h
 cases e:bs[p]? with
 | none=>rfl
 | some x =>
  rw [e] at h
  dsimp only at h ⊢
  rw [Bool.or_eq_false_iff] at h
  rw [if_neg (by rw [h.1];decide)]
  unfold letter_ byNext
  rw [head_drop,e]
  dsimp only
  rw [if_pos h.2]
  rfl
theorem chars_no {bs mk:List UInt8}{p k:Nat} (h:cS bs mk p=false):chars_ mk k p (bs.drop p)=.ok ([],p,bs.drop p):=by
 cases k with
 | zero=>rfl
 | succ k =>
  rw [chars_]
  unfold byNext
  rw [head_drop]
  unfold cS at h
  cases e:bs[p]? with
  | none=>rfl
  | some x =>
   rw [e] at h
   dsimp only at h ⊢
   rw [Bool.or_eq_false_iff] at h
   rw [if_neg (by rw [h.1];decide),if_neg (by rw [h.2];decide)]
   rfl
theorem chars_err {bs mk:List UInt8}{p k i:Nat} (h:cS bs mk p=true) (h1:char1 mk p (bs.drop p)=.error i):chars_ mk (k+1) p (bs.drop p)=.error i:=by
 rw [chars_]
 unfold char1 byNext at h1
 unfold byNext
 rw [head_drop] at h1 ⊢
 unfold cS at h
 cases e:bs[p]? with
 | none=>rw [e] at h;cases h
 | some x =>
  rw [e] at h h1
  dsimp only at h h1 ⊢
  by_cases hm:mk.contains x=true
  ·rw [if_pos hm] at h1
   cases h1
  ·rw [if_neg hm] at h1 ⊢
   have hs:startsLetter x=true:=by
    rcases Bool.or_eq_true_iff.mp h with z | z
    ·exact absurd z hm
    ·exact z
   rw [if_pos hs]
   exact then_no h1
theorem chars_ok {bs mk:List UInt8}{p k n p':Nat} (h:cS bs mk p=true) (h1:char1 mk p (bs.drop p)=.ok (n,p',bs.drop p')):chars_ mk (k+1) p (bs.drop p)=preO [n] (chars_ mk k p' (bs.drop p')):=by
 rw [chars_]
 unfold char1 byNext at h1
 unfold byNext
 rw [head_drop] at h1 ⊢
 unfold cS at h
 have fin:∀ (r:Rd Letters),andThen r (fun (l:Letters)=>gives (n::l)) p' (bs.drop p')=preO [n] (r p' (bs.drop p')):=fun r=>by
  unfold andThen
  cases r p' (bs.drop p') with
  | error i=>rfl
  | ok x=>rfl
 cases e:bs[p]? with
 | none=>rw [e] at h;cases h
 | some x =>
  rw [e] at h h1
  dsimp only at h h1 ⊢
  by_cases hm:mk.contains x=true
  ·rw [if_pos hm] at h1 ⊢
   unfold behind gives at h1
   rw [drop_drop1] at h1
   injection h1 with h1
   injection h1 with h2 h3
   injection h3 with h3 h4
   subst h2 h3
   unfold behind
   rw [drop_drop1]
   exact fin _
  ·rw [if_neg hm] at h1 ⊢
   have hs:startsLetter x=true:=by
    rcases Bool.or_eq_true_iff.mp h with z | z
    ·exact absurd z hm
    ·exact z
   rw [if_pos hs,then_ok h1]
   exact fin _
theorem some_of_chars {bs mk:List UInt8}{p k p':Nat}{x:Letters} (h:chars_ mk k p (bs.drop p)=.ok (x,p',bs.drop p')) (hx:x≠[]):someChars_ mk k p (bs.drop p)=.ok (x,p',bs.drop p'):=by
 unfold someChars_
 rw [then_ok h]
 rw [if_neg (by cases x <;> simp at hx ⊢)]
 rfl
theorem some_err {bs mk:List UInt8}{p k i:Nat} (h:chars_ mk k p (bs.drop p)=.error i):someChars_ mk k p (bs.drop p)=.error i:=by
 unfold someChars_
 exact then_no h
theorem some_nil {bs mk:List UInt8}{p k:Nat} (h:chars_ mk k p (bs.drop p)=.ok ([],p,bs.drop p)):someChars_ mk k p (bs.drop p)=.error p:=by
 unfold someChars_
 rw [then_ok h]
 rfl
theorem letters_chars:∀ (k:Nat),letters_ k=chars_ [] k
 | 0=>rfl
 | k+1=>by
  rw [letters_,chars_,letters_chars k]
  rfl
theorem someLetters_chars (k:Nat):someLetters_ k=someChars_ [] k:=by unfold someLetters_ someChars_;rw [letters_chars]
theorem cS_not {bs mk:List UInt8}{p:Nat} (hm:∀ c∈mk,33≤c.toNat) (h:pk bs p=32∨pk bs p=10):cS bs mk p=false:=by
 unfold cS
 cases e:bs[p]? with
 | none=>rfl
 | some x =>
  dsimp only
  have e2:=pk_some e
  have hx:x.toNat=32∨x.toNat=10:=by lia
  have h1:mk.contains x=false:=by
   rw [List.contains_eq_any_beq,List.any_eq_false]
   intro y hy z
   have:=hm y hy
   rw [eq_of_beq z] at hx
   lia
  have h2:startsLetter x=false:=by
   unfold startsLetter
   rw [if_pos (by lia)]
   rcases hx with z | z <;> rw [z] <;> decide
  rw [h1,h2];rfl
end Vp
end
section
namespace Vp
open Vh VhPage
theorem byte_digit {β:Type}{bs:List UInt8}{p:Nat}{c:UInt8}{g:Unit→Rd β} (h:48≤pk bs p∧pk bs p≤57) (hc:c.toNat<48:=by decide):andThen (byte_ c) g p (bs.drop p)=.error p:=then_no (byte_no (by lia))
def NumBad (bs:List UInt8) (lo hi p p':Nat):Prop:=num lo hi p (bs.drop p)=.error p'∨∃ x,num lo hi p (bs.drop p)=.ok (x,p',bs.drop p')∧48≤pk bs p'∧pk bs p'≤57
theorem num_bad {β:Type}{bs:List UInt8}{lo hi p p':Nat}{f:Nat→Rd β} (h:NumBad bs lo hi p p') (hf:∀ x,(48≤pk bs p'∧pk bs p'≤57)→f x p' (bs.drop p')=.error p'):andThen (num lo hi) f p (bs.drop p)=.error p':=by
 rcases h with h | ⟨x,h,hd⟩
 ·exact then_no h
 ·rw [then_ok h];exact hf x hd
def hd:List (Nat×Nat)→List Nat→Rd (List Nat)
 | [],xs=>andThen (byte_ 10) fun (_:Unit)=>gives xs
 | b::r,[]=>andThen (num b.1 b.2) fun x=>hd r [x]
 | b::r,y::ys=>andThen (byte_ 32) fun (_:Unit)=>andThen (num b.1 b.2) fun x=>hd r ((y::ys)++[x])
def hdr (bds:List (Nat×Nat)):Rd (List Nat):=andThen (byte_ 94) fun (_:Unit)=>hd bds []
theorem hd_s (b:Nat×Nat) (r:List (Nat×Nat)):∀ (xs:List Nat),xs≠[]→hd (b::r) xs=andThen (byte_ 32) fun (_:Unit)=>andThen (num b.1 b.2) fun x=>hd r (xs++[x])
 | [],h=>absurd rfl h
 | _::_,_=>rfl
theorem hd_digit {bs:List UInt8}{p:Nat} (h:48≤pk bs p∧pk bs p≤57):∀ (bds:List (Nat×Nat)) (xs:List Nat),xs≠[]→hd bds xs p (bs.drop p)=.error p
 | [],_,_=>by rw [hd];exact byte_digit h
 | b::r,xs,hx=>by rw [hd_s b r xs hx];exact byte_digit h
end Vp
end
section
namespace Vp
open Vh VhPage
end Vp
end
section
namespace Vp
open Vh VhPage
theorem best_count (room:Nat):∀ (xs:List Nat) (c s:Nat) (t:List (Nat×Nat)) (b:Nat×Nat),(c=0→xs≠[])→(c≠0→1≤b.2∧b.2≤c)→1≤(bestLine room c s xs t b).2∧(bestLine room c s xs t b).2≤c+xs.length
 | [],c,s,t,b,h0,h=>by
  have hc:c≠0:=fun z=>h0 z rfl
  unfold bestLine
  have:=h hc
  exact ⟨this.1,by simp;lia⟩
 | x::xs,c,s,t,b,h0,h=>by
  show 1≤(if 1≤c∧room<(if c=0 then x else s+1+x) then b else bestLine room (c+1) (if c=0 then x else s+1+x) xs (t.drop 1) (if c=0∨lineCost room (if c=0 then x else s+1+x) xs.isEmpty+(t.headD (0,0)).1≤b.1 then (lineCost room (if c=0 then x else s+1+x) xs.isEmpty+(t.headD (0,0)).1,c+1) else b)).2∧(if 1≤c∧room<(if c=0 then x else s+1+x) then b else bestLine room (c+1) (if c=0 then x else s+1+x) xs (t.drop 1) (if c=0∨lineCost room (if c=0 then x else s+1+x) xs.isEmpty+(t.headD (0,0)).1≤b.1 then (lineCost room (if c=0 then x else s+1+x) xs.isEmpty+(t.headD (0,0)).1,c+1) else b)).2≤c+(x::xs).length
  generalize (if c=0 then x else s+1+x)=n
  generalize lineCost room n xs.isEmpty+(t.headD (0,0)).1=z
  rw [List.length_cons]
  by_cases g:1≤c∧room<n
  ·rw [if_pos g]
   have:=h (by lia)
   lia
  ·rw [if_neg g]
   have hb:1≤(if c=0∨z≤b.1 then (z,c+1) else b).2∧(if c=0∨z≤b.1 then (z,c+1) else b).2≤c+1:=by
    by_cases y:c=0∨z≤b.1
    ·rw [if_pos y];exact ⟨Nat.succ_le_succ (Nat.zero_le _),Nat.le_refl _⟩
    ·rw [if_neg y]
     have:=h (by lia)
     lia
   have:=best_count room xs (c+1) n (t.drop 1) (if c=0∨z≤b.1 then (z,c+1) else b) (fun z=>by lia) (fun _=>hb)
   lia
def bst (room:Nat) (xs:List Nat) (T:List (Nat×Nat)) (i:Nat):Nat×Nat:=bestLine room 0 0 (xs.drop i) (T.drop i) (0,0)
def tab (room:Nat) (xs:List Nat):List (Nat×Nat):=costTable room (xs.drop 1)
theorem table_len (room:Nat):∀ xs:List Nat,(costTable room xs).length=xs.length
 | []=>rfl
 | x::xs=>by unfold costTable;simp [table_len room xs]
theorem table_drop (room:Nat):∀ (i:Nat) (xs:List Nat),(costTable room xs).drop i=costTable room (xs.drop i)
 | 0,xs=>by simp
 | i+1,[]=>by simp [costTable]
 | i+1,x::xs=>table_drop room i xs
theorem tab_at (room:Nat) (xs:List Nat) {i:Nat} (h1:1≤i) (h2:i<xs.length):(tab room xs).drop (i-1)=bst room xs (tab room xs) i::(tab room xs).drop i:=by
 unfold tab bst
 rw [table_drop,table_drop,List.drop_drop,List.drop_drop]
 have e1:1+(i-1)=i:=by lia
 rw [e1]
 obtain ⟨x,l,hl⟩:∃ x l,xs.drop i=x::l:=by
  cases h:xs.drop i with
  | nil=>rw [List.drop_eq_nil_iff] at h;lia
  | cons x l=>exact ⟨x,l,rfl⟩
 have e2:xs.drop (1+i)=l:=by
  have:xs.drop (1+i)=(xs.drop i).drop 1:=by rw [List.drop_drop,Nat.add_comm]
  rw [this,hl];rfl
 rw [e2,hl]
 rfl
theorem bst_count {room:Nat}{xs:List Nat}{T:List (Nat×Nat)}{i:Nat} (h:i<xs.length):1≤(bst room xs T i).2∧i+(bst room xs T i).2≤xs.length:=by
 have:=best_count room (xs.drop i) 0 0 (T.drop i) (0,0) (fun _ z=>by rw [List.drop_eq_nil_iff] at z;lia) (fun z=>absurd rfl z)
 rw [Nat.zero_add,List.length_drop] at this
 exact ⟨this.1,by have:=this.2;unfold bst;lia⟩
def costAt (room:Nat) (xs:List Nat) (e:Nat):Nat:=if e<xs.length then (bst room xs (tab room xs) e).1 else 0
theorem tab_headD (room:Nat) (xs:List Nat) (e:Nat):(((tab room xs).drop e).headD (0,0)).1=costAt room xs (e+1):=by
 unfold costAt
 split
 ·rename_i h
  have:=tab_at room xs (i:=e+1) (by lia) h
  rw [Nat.add_sub_cancel] at this
  rw [this];rfl
 ·rename_i h
  have:(tab room xs).drop e=[]:=by
   rw [List.drop_eq_nil_iff];unfold tab;rw [table_len,List.length_drop];lia
  rw [this];rfl
theorem byTable_fuel:∀ (f g:Nat) (t:List (Nat×Nat)),(∀ x∈t,1≤x.2)→t.length≤f→t.length≤g→byTable f t=byTable g t
 | 0,g,t,_,h,_=>by have:t=[]:=List.length_eq_zero_iff.mp (by lia);subst this;cases g <;> rfl
 | f+1,g,[],_,_,_=>by cases g <;> rfl
 | f+1,0,x::t,_,_,h=>by simp at h
 | f+1,g+1,x::t,hx,h,h'=>by
  have h1:=hx x (by simp)
  simp only [List.length_cons] at h h'
  show x.2::byTable f ((x::t).drop x.2)=x.2::byTable g ((x::t).drop x.2)
  have hm:∀ y∈(x::t).drop x.2,1≤y.2:=fun y hy=>hx y (List.mem_of_mem_drop hy)
  have hl:((x::t).drop x.2).length≤t.length:=by rw [List.length_drop,List.length_cons];lia
  rw [byTable_fuel f g _ hm (by lia) (by lia)]
def cnts (room:Nat) (xs:List Nat) (i:Nat):List Nat:=byTable ((tab room xs).length) ((tab room xs).drop (i-1))
theorem tab_pos (room:Nat) (xs:List Nat):∀ x∈tab room xs,1≤x.2:=by
 intro x hx
 obtain ⟨k,hk⟩:=List.mem_iff_getElem?.mp hx
 have hlt:k<(tab room xs).length:=by
  rw [List.getElem?_eq_some_iff] at hk;exact hk.1
 have hl:k+1<xs.length:=by unfold tab at hlt;rw [table_len,List.length_drop] at hlt;lia
 have:=tab_at room xs (i:=k+1) (by lia) hl
 rw [Nat.add_sub_cancel] at this
 have h0:((tab room xs).drop k)[0]?=some x:=by rw [List.getElem?_drop];simpa using hk
 rw [this] at h0
 simp at h0
 rw [← h0]
 exact (bst_count hl).1
theorem cnts_end (room:Nat) (xs:List Nat) {i:Nat} (h1:1≤i) (h:xs.length≤i):cnts room xs i=[]:=by
 unfold cnts
 have:(tab room xs).drop (i-1)=[]:=by
  rw [List.drop_eq_nil_iff];unfold tab;rw [table_len,List.length_drop];lia
 rw [this]
 cases (tab room xs).length <;> rfl
theorem cnts_go (room:Nat) (xs:List Nat) {i:Nat} (h1:1≤i) (h:i<xs.length):cnts room xs i=(bst room xs (tab room xs) i).2::cnts room xs (i+(bst room xs (tab room xs) i).2):=by
 have hp:=(bst_count (room:=room) (T:=tab room xs) h).1
 unfold cnts
 have hl:(tab room xs).length=xs.length-1:=by unfold tab;rw [table_len,List.length_drop]
 have hl':(tab room xs).length=(xs.length-2)+1:=by lia
 rw [tab_at room xs h1 h]
 have e:byTable (tab room xs).length (bst room xs (tab room xs) i::(tab room xs).drop i)=(bst room xs (tab room xs) i).2::byTable (xs.length-2) ((bst room xs (tab room xs) i::(tab room xs).drop i).drop (bst room xs (tab room xs) i).2):=by
  rw [hl'];rfl
 rw [e]
 congr 1
 have e2:(bst room xs (tab room xs) i::(tab room xs).drop i).drop (bst room xs (tab room xs) i).2=(tab room xs).drop (i+(bst room xs (tab room xs) i).2-1):=by
  rw [← tab_at room xs h1 h,List.drop_drop]
  congr 1;lia
 rw [e2]
 have hm:∀ y∈(tab room xs).drop (i+(bst room xs (tab room xs) i).2-1),1≤y.2:=fun y hy=>tab_pos room xs y (List.mem_of_mem_drop hy)
 have hlen:((tab room xs).drop (i+(bst room xs (tab room xs) i).2-1)).length≤xs.length-2:=by rw [List.length_drop,hl];lia
 exact byTable_fuel _ _ _ hm hlen (by rw [List.length_drop];lia)
theorem broken_eq (room r:Nat) (xs:List Nat) (h:0<xs.length):broken room r xs=(bst room xs (tab r xs) 0).2::cnts r xs (bst room xs (tab r xs) 0).2:=by
 cases xs with
 | nil=>simp at h
 | cons x l =>
  have hp:=(bst_count (room:=room) (T:=tab r (x::l)) (i:=0) h).1
  show (bst room (x::l) (tab r (x::l)) 0).2::byTable l.length ((tab r (x::l)).drop ((bst room (x::l) (tab r (x::l)) 0).2-1))=_
  congr 1
  unfold cnts
  have hl:(tab r (x::l)).length=l.length:=by unfold tab;rw [table_len];rfl
  rw [hl]
def linesAt (room:Nat) (xs:List Nat) (e:Nat):Nat:=if e<xs.length then (cnts room xs e).length else 0
theorem linesAt_eq (room:Nat) (xs:List Nat) {e:Nat} (h1:1≤e):linesAt room xs e=(cnts room xs e).length:=by
 unfold linesAt
 split
 ·rfl
 ·rw [cnts_end room xs h1 (by lia)];rfl
theorem best_step (room:Nat) (xs:List Nat) (r start e taken:Nat) (b:Nat×Nat) (hs:start<e) {x:Nat} (hx:xs[e]?=some x) :
  bestLine room (e-start) taken (xs.drop e) ((tab r xs).drop e) b=if room<taken+1+x then b else
   bestLine room (e+1-start) (taken+1+x) (xs.drop (e+1)) ((tab r xs).drop (e+1)) (if lineCost room (taken+1+x) (decide (e+1=xs.length))+costAt r xs (e+1)≤b.1 then (lineCost room (taken+1+x) (decide (e+1=xs.length))+costAt r xs (e+1),e+1-start) else b):=by
 obtain ⟨he,ex⟩:=List.getElem?_eq_some_iff.mp hx
 have hd:xs.drop e=x::xs.drop (e+1):=by rw [List.drop_eq_getElem_cons he,ex]
 have hne:e-start≠0:=by lia
 have hse:e-start+1=e+1-start:=by lia
 have hem:(xs.drop (e+1)).isEmpty=decide (e+1=xs.length):=by
  by_cases z:e+1=xs.length
  ·rw [decide_eq_true z,List.isEmpty_iff,List.drop_eq_nil_iff];lia
  ·rw [decide_eq_false z]
   cases h:xs.drop (e+1) with
   | nil=>rw [List.drop_eq_nil_iff] at h;lia
   | cons _ _=>rfl
 rw [hd]
 show (if 1≤e-start∧room<(if e-start=0 then x else taken+1+x) then b else bestLine room (e-start+1) (if e-start=0 then x else taken+1+x) (xs.drop (e+1)) (((tab r xs).drop e).drop 1) (if e-start=0∨lineCost room (if e-start=0 then x else taken+1+x) (xs.drop (e+1)).isEmpty+(((tab r xs).drop e).headD (0,0)).1≤b.1 then (lineCost room (if e-start=0 then x else taken+1+x) (xs.drop (e+1)).isEmpty+(((tab r xs).drop e).headD (0,0)).1,e-start+1) else b))=_
 rw [if_neg hne,tab_headD,hem,hse,List.drop_drop]
 have h1:1≤e-start:=by lia
 simp only [h1,hne,true_and,false_or]
theorem best_first (room:Nat) (xs:List Nat) (r start:Nat) {x:Nat} (hx:xs[start]?=some x) :
  bst room xs (tab r xs) start=bestLine room 1 x (xs.drop (start+1)) ((tab r xs).drop (start+1)) (lineCost room x (decide (start+1=xs.length))+costAt r xs (start+1),1):=by
 obtain ⟨he,ex⟩:=List.getElem?_eq_some_iff.mp hx
 have hd:xs.drop start=x::xs.drop (start+1):=by rw [List.drop_eq_getElem_cons he,ex]
 have hem:(xs.drop (start+1)).isEmpty=decide (start+1=xs.length):=by
  by_cases z:start+1=xs.length
  ·rw [decide_eq_true z,List.isEmpty_iff,List.drop_eq_nil_iff];lia
  ·rw [decide_eq_false z]
   cases h:xs.drop (start+1) with
   | nil=>rw [List.drop_eq_nil_iff] at h;lia
   | cons _ _=>rfl
 unfold bst
 rw [hd]
 show bestLine room 1 x (xs.drop (start+1)) (((tab r xs).drop start).drop 1) (lineCost room x (xs.drop (start+1)).isEmpty+(((tab r xs).drop start).headD (0,0)).1,1)=_
 rw [tab_headD,hem,List.drop_drop]
end Vp
end
section
namespace Vp
open Vh VhPage
theorem dig_char (d:Nat) (h:d<10):(Nat.digitChar d).toNat=48+d∧(UInt8.ofNat (48+d)).toNat=48+d:=by
 have:∀ d:Fin 10,(Nat.digitChar d.val).toNat=48+d.val∧(UInt8.ofNat (48+d.val)).toNat=48+d.val:=by decide
 exact this ⟨d,h⟩
theorem digs_core:∀ (k n:Nat) (ds:List Char),(Nat.toDigitsCore 10 k n ds).map Char.toNat=(digitsIn k n).map UInt8.toNat++ds.map Char.toNat
 | 0,n,ds=>by simp [Nat.toDigitsCore,digitsIn]
 | k+1,n,ds=>by
  have hd:=dig_char (n % 10) (Nat.mod_lt _ (by decide))
  unfold Nat.toDigitsCore digitsIn
  simp only []
  by_cases h:n<10
  ·rw [if_pos (by lia),if_pos h]
   simp [hd.1];lia
  ·rw [if_neg (by lia),if_neg h,digs_core k (n / 10)]
   simp [hd.1];lia
theorem num10_eq (n:Nat):num10 n=(Nat.toDigits 10 n).map Char.toNat:=by
 unfold num10 decimal Nat.toDigits
 rw [digs_core];simp
theorem num_text (n:Nat):(PySem.Str.ofString (toString (n:Int))).cps.toList=num10 n:=by
 rw [num10_eq]
 have:=PyProof.Rows.text_ofNat n
 show (PySem.Str.ofString (toString (Int.ofNat n))).cps.toList=_
 rw [this]
end Vp
end
section
namespace Vp
open Vh VhPage
theorem cnts_sum (r:Nat) (xs:List Nat):∀ (m i:Nat),xs.length-i=m→1≤i→i≤xs.length→i+(cnts r xs i).sum=xs.length:=by
 intro m
 induction m using Nat.strongRecOn with
 | _ m ih =>
  intro i hm h1 h2
  by_cases h:i<xs.length
  ·have c:=bst_count (room:=r) (T:=tab r xs) h
   rw [cnts_go r xs h1 h,List.sum_cons]
   have:=ih (xs.length-(i+(bst r xs (tab r xs) i).2)) (by lia) (i+(bst r xs (tab r xs) i).2) rfl (by lia) c.2
   lia
  ·rw [cnts_end r xs h1 (by lia)];simp;lia
theorem broken_sum (fr r:Nat) (xs:List Nat) (h:0<xs.length):(VhPage.broken fr r xs).sum=xs.length:=by
 rw [broken_eq fr r xs h,List.sum_cons]
 have c:=bst_count (room:=fr) (T:=tab r xs) h
 exact cnts_sum r xs _ _ rfl c.1 (by lia)
theorem cnts_pos (r:Nat) (xs:List Nat):∀ (m i:Nat),xs.length-i=m→1≤i→i≤xs.length→∀ c∈cnts r xs i,1≤c:=by
 intro m
 induction m using Nat.strongRecOn with
 | _ m ih =>
  intro i hm h1 h2
  by_cases h:i<xs.length
  ·have c:=bst_count (room:=r) (T:=tab r xs) h
   rw [cnts_go r xs h1 h]
   intro y hy
   rcases List.mem_cons.mp hy with z | z
   ·rw [z];exact c.1
   ·exact ih (xs.length-(i+(bst r xs (tab r xs) i).2)) (by lia) (i+(bst r xs (tab r xs) i).2) rfl (by lia) c.2 y z
  ·rw [cnts_end r xs h1 (by lia)];intro y hy;simp at hy
theorem broken_pos (fr r:Nat) (xs:List Nat) (h:0<xs.length):∀ c∈VhPage.broken fr r xs,1≤c:=by
 rw [broken_eq fr r xs h]
 have c:=bst_count (room:=fr) (T:=tab r xs) h
 intro y hy
 rcases List.mem_cons.mp hy with z | z
 ·rw [z];exact c.1
 ·exact cnts_pos r xs _ _ rfl c.1 (by lia) y z
end Vp
end
section
namespace Vp
open Vh VhPage
def ChOk (l:Letters):Prop:=∀ c∈l,c<0x110000
def ThOk (k:Nat) (l:Letters):Prop:=l≠[]∧l.length≤k∧ChOk l
def Pd {α:Type} (r:Rd α) (ok:α→Prop):Prop:=∀ p b x p' b',r p b=.ok (x,p',b')→ok x
section
variable {α β:Type}{r r2:Rd α}{ok:α→Prop}
theorem Pd.thn {s:Rd β}{f:β→Rd α}{ok1:β→Prop} (h1:Pd s ok1) (h2:∀ x,ok1 x→Pd (f x) ok):Pd (andThen s f) ok:=by
 intro p b x p' b' h
 unfold andThen at h
 cases e:s p b with
 | error i=>rw [e] at h;cases h
 | ok z =>
  rw [e] at h
  obtain ⟨y,p1,b1⟩:=z
  exact h2 y (h1 p b y p1 b1 e) _ _ _ _ _ h
theorem Pd.next {f:Option UInt8→Rd α} (h:∀ c,Pd (f c) ok):Pd (byNext f) ok:=fun p b=>h b.head? p b
theorem Pd.beh (h:Pd r ok):Pd (behind r) ok:=fun p b=>h (p+1) (b.drop 1)
theorem Pd.giv {x:α} (h:ok x):Pd (gives x) ok:=by
 intro p b y p' b' e
 cases e
 exact h
theorem Pd.str:Pd (stray:Rd α) ok:=by intro p b y p' b' e;cases e
theorem Pd.ite {c:Prop} [Decidable c] (h1:c→Pd r ok) (h2:¬ c→Pd r2 ok):Pd (if c then r else r2) ok:=by
 by_cases z:c
 ·rw [if_pos z];exact h1 z
 ·rw [if_neg z];exact h2 z
end
end Vp
end
section
namespace Vp
open Vh VhPage
def Pr {α:Type} (r:Rd α) (pr:α→Bytes) (ok:α→Prop):Prop:=∀ p b x p' b',r p b=.ok (x,p',b')→b=pr x++b'∧p'=p+(pr x).length∧ok x
theorem Pr.bind {α β:Type}{r:Rd α}{f:α→Rd β}{pr:α→Bytes}{ok:α→Prop}{p:Nat}{b:Bytes}{y:β}{p':Nat}{b':Bytes} (hr:Pr r pr ok) (h:andThen r f p b=.ok (y,p',b')):∃ x b1,b=pr x++b1∧ok x∧f x (p+(pr x).length) b1=.ok (y,p',b'):=by
 unfold andThen at h
 cases e:r p b with
 | error i=>rw [e] at h;cases h
 | ok z =>
  rw [e] at h
  obtain ⟨x,p1,b1⟩:=z
  obtain ⟨h1,h2,h3⟩:=hr p b x p1 b1 e
  refine ⟨x,b1,h1,h3,?_⟩
  rw [← h2];exact h
theorem head_cons {b:Bytes}{c:UInt8} (h:b.head?=some c):b=c::b.drop 1:=by
 cases b with
 | nil=>simp at h
 | cons x b=>simp at h;subst h;rfl
theorem Pr.byte (c:UInt8):Pr (byte_ c) (fun _=>[c]) (fun _=>True):=by
 intro p b x p' b' h
 have h:(if b.head?=some c then behind (Vh.gives ()) else stray) p b=Except.ok (x,p',b'):=h
 by_cases hc:b.head?=some c
 ·rw [if_pos hc] at h
  cases h
  exact ⟨head_cons hc,rfl,trivial⟩
 ·rw [if_neg hc] at h
  cases h
theorem digs_fuel:∀ (j k n:Nat),n<j→n<k→digitsIn j n=digitsIn k n
 | 0,_,_,h,_=>by omega
 | _,0,_,_,h=>by omega
 | j+1,k+1,n,h1,h2=>by
  show (if n<10 then [] else digitsIn j (n / 10))++[UInt8.ofNat (48+n % 10)]=(if n<10 then [] else digitsIn k (n / 10))++[UInt8.ofNat (48+n % 10)]
  by_cases z:n<10
  ·rw [if_pos z,if_pos z]
  ·rw [if_neg z,if_neg z,digs_fuel j k (n / 10) (by omega) (by omega)]
theorem dec_one {d:Nat} (h:d<10):decimal d=[UInt8.ofNat (48+d)]:=by
 unfold decimal
 show (if d<10 then [] else digitsIn d (d / 10))++[UInt8.ofNat (48+d % 10)]=_
 rw [if_pos h,Nat.mod_eq_of_lt h];rfl
theorem dec_more {m d:Nat} (hm:1≤m) (h:d<10):decimal (10 * m+d)=decimal m++[UInt8.ofNat (48+d)]:=by
 unfold decimal
 show (if 10 * m+d<10 then [] else digitsIn (10 * m+d) ((10 * m+d) / 10))++[UInt8.ofNat (48+(10 * m+d) % 10)]=_
 have e1:(10 * m+d) / 10=m:=by omega
 have e2:(10 * m+d) % 10=d:=by omega
 rw [if_neg (by omega),e1,e2,digs_fuel (10 * m+d) (m+1) m (by omega) (by omega)]
def decO:Option Nat→Bytes
 | none=>[]
 | some m=>decimal m
theorem digits_pr (lo hi:Nat):∀ (f:Nat) (v:Option Nat) (p:Nat) (b:Bytes) (x p':Nat) (b':Bytes),digits lo hi f v p b=.ok (x,p',b')→∃ ds,b=ds++b'∧p'=p+ds.length∧decimal x=decO v++ds∧lo≤x∧x≤hi
 | 0,v,p,b,x,p',b',h=>by cases h
 | f+1,v,p,b,x,p',b',h=>by
  have h:(match (generalizing:=false) (b.head?.bind fun (c:UInt8)=>if isDigit c=false∨v=some 0 then none else if leadsTo lo hi (10 * v.getD 0+(c.toNat-48))=true then some (10 * v.getD 0+(c.toNat-48)) else none) with
   | some n=>behind (digits lo hi f (some n))
   | none=>match (generalizing:=false) v with
    | some n=>if lo≤n∧n≤hi then gives n else stray
    | none=>stray) p b=.ok (x,p',b'):=h
  generalize hn:(b.head?.bind fun (c:UInt8)=>if isDigit c=false∨v=some 0 then none else if leadsTo lo hi (10 * v.getD 0+(c.toNat-48))=true then some (10 * v.getD 0+(c.toNat-48)) else none)=more at h
  cases more with
  | some n =>
   simp only [] at h
   have hb:∃ c,b.head?=some c∧isDigit c=true∧v≠some 0∧n=10 * v.getD 0+(c.toNat-48):=by
    cases hc:b.head? with
    | none=>rw [hc] at hn;cases hn
    | some c =>
     rw [hc] at hn
     simp only [Option.bind_some] at hn
     split at hn
     ·cases hn
     ·rename_i z
      split at hn
      ·cases hn
       refine ⟨c,rfl,?_,fun y=>z (.inr y),rfl⟩
       cases y:isDigit c
       ·exact absurd (.inl y) z
       ·rfl
      ·cases hn
   obtain ⟨c,hc,hd,hv,rfl⟩:=hb
   obtain ⟨ds,h1,h2,h3,h4⟩:=digits_pr lo hi f _ _ _ x p' b' h
   have hd':=isDigit_iff.mp hd
   refine ⟨c::ds,?_,?_,?_,h4⟩
   ·rw [head_cons hc,h1];rfl
   ·rw [h2,List.length_cons];omega
   ·rw [h3]
    have hcc:UInt8.ofNat (48+(c.toNat-48))=c:=by
     have:48+(c.toNat-48)=c.toNat:=by omega
     rw [this];simp
    cases v with
    | none =>
     show decimal (10 * 0+(c.toNat-48))++ds=c::ds
     rw [Nat.mul_zero,Nat.zero_add,dec_one (by omega),hcc];rfl
    | some m =>
     have hm:1≤m:=by
      rcases Nat.eq_zero_or_pos m with z | z
      ·subst z;exact absurd rfl hv
      ·exact z
     show decimal (10 * m+(c.toNat-48))++ds=decimal m++c::ds
     rw [dec_more hm (by omega),hcc,List.append_assoc];rfl
  | none =>
   cases v with
   | none=>cases h
   | some n =>
    simp only [] at h
    by_cases z:lo≤n∧n≤hi
    ·rw [if_pos z] at h
     cases h
     exact ⟨[],rfl,rfl,by simp [decO],z.1,z.2⟩
    ·rw [if_neg z] at h
     cases h
theorem Pr.num (lo hi:Nat):Pr (num lo hi) decimal (fun n=>lo≤n∧n≤hi):=by
 intro p b x p' b' h
 obtain ⟨ds,h1,h2,h3,h4⟩:=digits_pr lo hi 20 none p b x p' b' h
 have e:decimal x=ds:=h3
 rw [e]
 exact ⟨h1,h2,h4⟩
theorem Pr.tail {lo hi:Nat} (h128:128≤lo):Pr (tail_ lo hi) (fun a=>[UInt8.ofNat (a+128)]) (fun a=>lo≤a+128∧a+128≤hi∧a+128<256):=by
 intro p b x p' b' h
 unfold tail_ byNext at h
 simp only [] at h
 cases hc:b.head? with
 | none=>rw [hc] at h;cases h
 | some c =>
  rw [hc] at h
  have h:(if lo≤c.toNat∧c.toNat≤hi then behind (Vh.gives (c.toNat-0x80)) else stray) p b=.ok (x,p',b'):=h
  by_cases z:lo≤c.toNat∧c.toNat≤hi
  ·rw [if_pos z] at h
   have h:(Except.ok (c.toNat-0x80,p+1,b.drop 1):Except Nat (Nat×Nat×Bytes))=Except.ok (x,p',b'):=h
   injection h with h
   injection h with h1 h2
   injection h2 with h2 h3
   subst h1 h2 h3
   have hlt:=c.toNat_lt
   have e:c.toNat-128+128=c.toNat:=by omega
   refine ⟨?_,rfl,by omega,by omega,by omega⟩
   show b=[UInt8.ofNat (c.toNat-128+128)]++b.drop 1
   rw [e]
   have:UInt8.ofNat c.toNat=c:=by simp
   rw [this]
   exact head_cons hc
  ·rw [if_neg z] at h
   cases h
theorem char1b {v:Nat} (h:v<0x80):charOf v=[UInt8.ofNat v]:=by unfold charOf;rw [if_pos h]
theorem char2b {v:Nat} (h:0x80≤v) (h2:v<0x800):charOf v=[UInt8.ofNat (0xC0+v / 64),UInt8.ofNat (0x80+v % 64)]:=by unfold charOf;rw [if_neg (by omega),if_pos h2]
theorem char3b {v:Nat} (h:0x800≤v) (h2:v<0x10000):charOf v=[UInt8.ofNat (0xE0+v / 4096),UInt8.ofNat (0x80+v / 64 % 64),UInt8.ofNat (0x80+v % 64)]:=by unfold charOf;rw [if_neg (by omega),if_neg (by omega),if_pos h2]
theorem char4b {v:Nat} (h:0x10000≤v):charOf v=[UInt8.ofNat (0xF0+v / 262144),UInt8.ofNat (0x80+v / 4096 % 64),UInt8.ofNat (0x80+v / 64 % 64),UInt8.ofNat (0x80+v % 64)]:=by unfold charOf;rw [if_neg (by omega),if_neg (by omega),if_neg (by omega)]
theorem u8_back (c:UInt8):UInt8.ofNat c.toNat=c:=by simp
theorem ok_inj {α:Type}{x y:α}{p q:Nat}{b d:Bytes} (h:(Except.ok (x,p,b):Except Nat (α×Nat×Bytes))=Except.ok (y,q,d)):x=y∧p=q∧b=d:=by
 injection h with h
 injection h with h1 h2
 injection h2 with h2 h3
 exact ⟨h1,h2,h3⟩
theorem starts_range {c:UInt8} (h:startsLetter c=true) (h2:¬ c.toNat<0x80):0xC2≤c.toNat∧c.toNat≤0xF4:=by
 unfold startsLetter at h
 rw [if_neg h2] at h
 simpa using h
theorem Pr.letter:Pr letter_ charOf (fun n=>n<0x110000):=by
 intro p b x p' b' h
 cases hc:b.head? with
 | none=>unfold letter_ byNext at h;rw [hc] at h;cases h
 | some c =>
  have hb:=head_cons hc
  have h:(if startsLetter c=false then stray
   else if c.toNat<0x80 then behind (Vh.gives c.toNat)
   else if c.toNat<0xE0 then behind (andThen (tail_ (if c.toNat=0xC2 then 0xA0 else 0x80) 0xBF) fun (a:Nat)=>Vh.gives ((c.toNat-0xC0) * 64+a))
   else if c.toNat<0xF0 then behind (andThen (tail_ (if c.toNat=0xE0 then 0xA0 else 0x80) (if c.toNat=0xED then 0x9F else 0xBF)) fun (a:Nat)=>andThen (tail_ 0x80 (if c.toNat=0xEF∧a=63 then 0xBD else 0xBF)) fun (b:Nat)=>Vh.gives ((c.toNat-0xE0) * 4096+a * 64+b))
   else behind (andThen (tail_ (if c.toNat=0xF0 then 0x90 else 0x80) (if c.toNat=0xF4 then 0x8F else 0xBF)) fun (a:Nat)=>andThen (tail_ 0x80 0xBF) fun (b:Nat)=>andThen (tail_ 0x80 (if a % 16=15∧b=63 then 0xBD else 0xBF)) fun (d:Nat)=>Vh.gives ((c.toNat-0xF0) * 262144+a * 4096+b * 64+d))) p b=.ok (x,p',b'):=by
   unfold letter_ byNext at h;rw [hc] at h;exact h
  by_cases hs:startsLetter c=false
  ·rw [if_pos hs] at h;cases h
  rw [if_neg hs] at h
  have hs':startsLetter c=true:=by simpa using hs
  by_cases h1:c.toNat<0x80
  ·rw [if_pos h1] at h
   obtain ⟨rfl,rfl,rfl⟩:=ok_inj (x:=c.toNat) (p:=p+1) (b:=b.drop 1) h
   rw [char1b h1,u8_back]
   exact ⟨hb,rfl,by omega⟩
  rw [if_neg h1] at h
  obtain ⟨r1,r2⟩:=starts_range hs' h1
  by_cases h2:c.toNat<0xE0
  ·rw [if_pos h2] at h
   obtain ⟨u,b1,e1,⟨o1,o2,o3⟩,h⟩:=Pr.bind (Pr.tail (by split <;> omega)) (show andThen _ _ (p+1) (b.drop 1)=_ from h)
   obtain ⟨rfl,rfl,rfl⟩:=ok_inj h
   have a1:0x80≤(c.toNat-0xC0) * 64+u:=by omega
   rw [char2b a1 (by omega)]
   have e2:0xC0+((c.toNat-0xC0) * 64+u) / 64=c.toNat:=by omega
   have e3:0x80+((c.toNat-0xC0) * 64+u) % 64=u+128:=by omega
   rw [e2,e3,u8_back]
   refine ⟨?_,rfl,by omega⟩
   rw [hb,e1];rfl
  rw [if_neg h2] at h
  by_cases h3:c.toNat<0xF0
  ·rw [if_pos h3] at h
   obtain ⟨u,b1,e1,⟨o1,o2,o3⟩,h⟩:=Pr.bind (Pr.tail (by split <;> omega)) (show andThen _ _ (p+1) (b.drop 1)=_ from h)
   obtain ⟨v,b2,e2,⟨q1,q2,q3⟩,h⟩:=Pr.bind (Pr.tail (by omega)) h
   obtain ⟨rfl,rfl,rfl⟩:=ok_inj h
   have u1:u<64:=by
    have:(if c.toNat=0xED then 0x9F else 0xBF)≤0xBF:=by split <;> omega
    omega
   have v1:v<64:=by
    have:(if c.toNat=0xEF∧u=63 then 0xBD else 0xBF)≤0xBF:=by split <;> omega
    omega
   have a1:0x800≤(c.toNat-0xE0) * 4096+u * 64+v:=by
    by_cases z:c.toNat=0xE0
    ·rw [if_pos z] at o1;omega
    ·omega
   rw [char3b a1 (by omega)]
   have f2:0xE0+((c.toNat-0xE0) * 4096+u * 64+v) / 4096=c.toNat:=by omega
   have f3:0x80+((c.toNat-0xE0) * 4096+u * 64+v) / 64 % 64=u+128:=by omega
   have f4:0x80+((c.toNat-0xE0) * 4096+u * 64+v) % 64=v+128:=by omega
   rw [f2,f3,f4,u8_back]
   refine ⟨?_,rfl,by omega⟩
   rw [hb,e1,e2];rfl
  rw [if_neg h3] at h
  obtain ⟨u,b1,e1,⟨o1,o2,o3⟩,h⟩:=Pr.bind (Pr.tail (by split <;> omega)) (show andThen _ _ (p+1) (b.drop 1)=_ from h)
  obtain ⟨v,b2,e2,⟨q1,q2,q3⟩,h⟩:=Pr.bind (Pr.tail (by omega)) h
  obtain ⟨t,b3,e3,⟨s1,s2,s3⟩,h⟩:=Pr.bind (Pr.tail (by omega)) h
  obtain ⟨rfl,rfl,rfl⟩:=ok_inj h
  have u1:u<64∧(c.toNat=0xF4→u<16)∧(c.toNat=0xF0→16≤u):=by
   refine ⟨?_,fun z=>?_,fun z=>?_⟩
   ·have:(if c.toNat=0xF4 then 0x8F else 0xBF)≤0xBF:=by split <;> omega
    omega
   ·rw [if_pos z] at o2;omega
   ·rw [if_pos z] at o1;omega
  have t1:t<64:=by
   have:(if u % 16=15∧v=63 then 0xBD else 0xBF)≤0xBF:=by split <;> omega
   omega
  have v1:v<64:=by omega
  have a1:0x10000≤(c.toNat-0xF0) * 262144+u * 4096+v * 64+t:=by omega
  rw [char4b a1]
  have f2:0xF0+((c.toNat-0xF0) * 262144+u * 4096+v * 64+t) / 262144=c.toNat:=by omega
  have f3:0x80+((c.toNat-0xF0) * 262144+u * 4096+v * 64+t) / 4096 % 64=u+128:=by omega
  have f4:0x80+((c.toNat-0xF0) * 262144+u * 4096+v * 64+t) / 64 % 64=v+128:=by omega
  have f5:0x80+((c.toNat-0xF0) * 262144+u * 4096+v * 64+t) % 64=t+128:=by omega
  rw [f2,f3,f4,f5,u8_back]
  refine ⟨?_,rfl,by omega⟩
  rw [hb,e1,e2,e3];rfl
end Vp
end
section
namespace Vp
open Vh VhPage
theorem Pr.chars {mk:List UInt8} (hm:∀ c∈mk,c.toNat<128):∀ k:Nat,Pr (chars_ mk k) spelt (fun l=>l.length≤k∧ChOk l)
 | 0=>by
  intro p b x p' b' h
  obtain ⟨rfl,rfl,rfl⟩:=ok_inj (x:=([]:Letters)) (p:=p) (b:=b) h
  exact ⟨rfl,rfl,Nat.le_refl _,fun c hc=>by simp at hc⟩
 | k+1=>by
  intro p b x p' b' h
  have nil:∀ {x p' b'},(Vh.gives ([]:Letters)) p b=.ok (x,p',b')→b=spelt x++b'∧p'=p+(spelt x).length∧x.length≤k+1∧ChOk x:=fun h=>by
   obtain ⟨rfl,rfl,rfl⟩:=ok_inj h
   exact ⟨rfl,rfl,Nat.zero_le _,fun c hc=>by simp at hc⟩
  cases hc:b.head? with
  | none =>
   unfold chars_ byNext at h;rw [hc] at h
   exact nil h
  | some c =>
   have hb:=head_cons hc
   have h:(if mk.contains c=true then behind (andThen (chars_ mk k) fun (r:Letters)=>Vh.gives (c.toNat::r)) else if startsLetter c=true then (andThen letter_ fun (n:Nat)=>andThen (chars_ mk k) fun (r:Letters)=>Vh.gives (n::r)) else Vh.gives []) p b=.ok (x,p',b'):=by
    unfold chars_ byNext at h;rw [hc] at h;exact h
   by_cases h1:mk.contains c=true
   ·rw [if_pos h1] at h
    obtain ⟨l,b1,e1,⟨o1,o2⟩,h⟩:=Pr.bind (Pr.chars hm k) (show andThen _ _ (p+1) (b.drop 1)=_ from h)
    obtain ⟨rfl,rfl,rfl⟩:=ok_inj h
    have h2:=hm c (by simpa using h1)
    have e:spelt (c.toNat::l)=c::spelt l:=by
     show charOf c.toNat++spelt l=_
     rw [char1b h2,u8_back];rfl
    rw [e]
    refine ⟨?_,?_,?_,?_⟩
    ·rw [hb,e1];rfl
    ·rw [List.length_cons];lia
    ·rw [List.length_cons];lia
    ·intro d hd
     rcases List.mem_cons.mp hd with z | z
     ·rw [z];lia
     ·exact o2 d z
   ·rw [if_neg h1] at h
    by_cases h2:startsLetter c=true
    ·rw [if_pos h2] at h
     obtain ⟨n,b1,e1,o1,h⟩:=Pr.bind Pr.letter h
     obtain ⟨l,b2,e2,⟨o2,o3⟩,h⟩:=Pr.bind (Pr.chars hm k) h
     obtain ⟨rfl,rfl,rfl⟩:=ok_inj h
     have e:spelt (n::l)=charOf n++spelt l:=rfl
     rw [e]
     refine ⟨?_,?_,?_,?_⟩
     ·rw [e1,e2,List.append_assoc]
     ·rw [List.length_append];lia
     ·rw [List.length_cons];lia
     ·intro d hd
      rcases List.mem_cons.mp hd with z | z
      ·rw [z];exact o1
      ·exact o3 d z
    ·rw [if_neg h2] at h
     exact nil h
theorem Pr.some {mk:List UInt8} (hm:∀ c∈mk,c.toNat<128) (k:Nat):Pr (someChars_ mk k) spelt (ThOk k):=by
 intro p b x p' b' h
 obtain ⟨l,b1,e1,⟨o1,o2⟩,h⟩:=Pr.bind (Pr.chars hm k) h
 by_cases z:l.isEmpty=true
 ·have h:(if l.isEmpty=true then stray else Vh.gives l) (p+(spelt l).length) b1=Except.ok (x,p',b'):=h
  rw [if_pos z] at h;cases h
 ·have h:(if l.isEmpty=true then stray else Vh.gives l) (p+(spelt l).length) b1=Except.ok (x,p',b'):=h
  rw [if_neg z] at h
  obtain ⟨rfl,rfl,rfl⟩:=ok_inj h
  exact ⟨e1,rfl,fun y=>z (by rw [y];rfl),o1,o2⟩
theorem Pr.then_ (lo hi:Nat):Pr (VhPage.then_ lo hi) (fun n=>32::decimal n) (fun n=>lo≤n∧n≤hi):=by
 intro p b x p' b' h
 obtain ⟨_,b2,e2,_,h⟩:=Pr.bind (Pr.byte 32) h
 obtain ⟨h1,h2,h3⟩:=Pr.num lo hi _ _ _ _ _ h
 refine ⟨?_,?_,h3⟩
 ·rw [e2,h1];rfl
 ·rw [h2,List.length_cons];simp;lia
end Vp
end
section
namespace Vp
open Vh VhPage
theorem Pr.lett (k:Nat):Pr (someLetters_ k) spelt (ThOk k):=by rw [someLetters_chars];exact Pr.some (by simp) k
end Vp
end
section
namespace Vp
open Vh VhPage
end Vp
end
section
namespace Vp
open Vh VhPage
def restB (B:Nat→Nat) (n i:Nat):Nat:=((List.range (n-i)).map fun d=>B (i+d)).sum
def meas (L:Laid) (B:Nat→Nat) (i:Nat) (c:List (List Letters)):Nat:=2 * (L.lines.size-i)+c.length+restB B L.lines.size i
def kn (L:Laid) (j:Nat):Nat×List Page:=(L.allFrom L.lines.size).getD j (0,[])
def best (L:Laid) (B:Nat→Nat) (i:Nat) (c:List (List Letters)):Nat×List Page:=L.pagesFrom (kn L) (meas L B i c+1) i c
theorem best_end (L:Laid) (B:Nat→Nat) {i:Nat} (h:L.lines.size≤i):best L B i []=(0,[]):=by
 unfold best Laid.pagesFrom
 rw [if_pos ⟨h,rfl⟩]
end Vp
end
section
namespace Vp
open Vh VhPage
def ownS (L:Laid) (i k:Nat):Nat:=(L.ownFoot i k).length
def whole (L:Laid) (i:Nat) (c:List (List Letters)) (k:Nat):Page:=⟨i,k+1-i,c.length,ownS L i (k+1),c++L.ownFoot i (k+1),[],true⟩
variable {L:Laid}{B:Nat→Nat}
end Vp
end
section
namespace Vp
open Vh VhPage
theorem cutLen {α:Type}:∀ (br:List Nat) (l:List α),(cut br l).length=br.length
 | [],l=>rfl
 | c::br,l=>by rw [cut,List.length_cons,List.length_cons,cutLen br]
theorem len_le_sum:∀ (br:List Nat),(∀ c∈br,1≤c)→br.length≤br.sum
 | [],h=>Nat.le_refl _
 | c::br,h=>by
  have:=len_le_sum br (fun x hx=>h x (by simp [hx]))
  have:=h c (by simp)
  rw [List.length_cons,List.sum_cons];lia
theorem broken_le (fr r:Nat) (xs:List Nat):(broken fr r xs).length≤xs.length:=by
 cases xs with
 | nil=>exact Nat.le_refl _
 | cons x l =>
  have h1:=broken_sum fr r (x::l) (by simp)
  have h2:=broken_pos fr r (x::l) (by simp)
  have:=len_le_sum _ h2
  lia
end Vp
end
section
namespace Vp
open Vh VhPage
variable {L:Laid}{B:Nat→Nat}
end Vp
end
section
namespace Vp
open Vh VhPage
variable {L:Laid}{B:Nat→Nat}
theorem spelt_app (x y:Letters):spelt (x++y)=spelt x++spelt y:=by unfold spelt;rw [List.flatMap_append]
theorem char_ascii {c:Nat} (h:c<128):charOf c=[UInt8.ofNat c]:=char1b h
theorem spelt_bytes:∀ (b:Bytes),(∀ c∈b,c.toNat<128)→spelt (b.map fun (c:UInt8)=>c.toNat)=b
 | [],_=>rfl
 | c::b,h=>by
  have h1:=h c (by simp)
  have ih:=spelt_bytes b (fun x hx=>h x (by simp [hx]))
  unfold spelt at *
  rw [List.map_cons,List.flatMap_cons,ih,char_ascii h1,u8_back];rfl
theorem digit_ascii:∀ (f n:Nat),∀ c∈digitsIn f n,c.toNat<128
 | 0,n,c,h=>by simp [digitsIn] at h
 | f+1,n,c,h=>by
  have hd:(UInt8.ofNat (48+n % 10)).toNat<128:=by
   rw [UInt8.toNat_ofNat']
   have:=Nat.mod_lt n (show 0<10 by decide)
   lia
  unfold digitsIn at h
  rcases List.mem_append.mp h with h | h
  ·split at h
   ·simp at h
   ·exact digit_ascii f _ c h
  ·have:c=UInt8.ofNat (48+n % 10):=List.mem_singleton.mp h
   rw [this];exact hd
theorem spelt_num (n:Nat):spelt (num10 n)=decimal n:=spelt_bytes _ (digit_ascii _ _)
theorem spelt_rep (n:Nat) {c:Nat} (h:c<128):spelt (List.replicate n c)=List.replicate n (UInt8.ofNat c):=by
 induction n with
 | zero=>rfl
 | succ n ih =>
  rw [List.replicate_succ,List.replicate_succ]
  show charOf c++spelt (List.replicate n c)=_
  rw [ih,char_ascii h];rfl
theorem spelt_one {c:Nat} (h:c<128) (r:Letters):spelt (c::r)=UInt8.ofNat c::spelt r:=by
 show charOf c++spelt r=_
 rw [char_ascii h];rfl
end Vp
end
section
namespace Vp
open Vh VhPage
theorem u8_small {n:Nat} (h:n<256):(UInt8.ofNat n).toNat=n:=by rw [UInt8.toNat_ofNat',Nat.mod_eq_of_lt h]
theorem tail_read {lo hi a p:Nat}{b:Bytes} (h1:lo≤128+a) (h2:128+a≤hi) (h3:a<64):tail_ lo hi p (UInt8.ofNat (128+a)::b)=.ok (a,p+1,b):=by
 unfold tail_ byNext
 show (if lo≤(UInt8.ofNat (128+a)).toNat∧(UInt8.ofNat (128+a)).toNat≤hi then behind (gives ((UInt8.ofNat (128+a)).toNat-128)) else stray) p _=_
 rw [u8_small (by lia),if_pos ⟨h1,h2⟩]
 show Except.ok (128+a-128,p+1,b)=_
 rw [Nat.add_sub_cancel_left]
theorem letter_at {c:UInt8}{p:Nat}{b:Bytes} (hs:startsLetter c=true):letter_ p (c::b) =
  (if c.toNat<0x80 then behind (gives c.toNat)
   else if c.toNat<0xE0 then behind (andThen (tail_ (if c.toNat=0xC2 then 0xA0 else 0x80) 0xBF) fun (a:Nat)=>gives ((c.toNat-0xC0) * 64+a))
   else if c.toNat<0xF0 then behind (andThen (tail_ (if c.toNat=0xE0 then 0xA0 else 0x80) (if c.toNat=0xED then 0x9F else 0xBF)) fun (a:Nat)=>andThen (tail_ 0x80 (if c.toNat=0xEF∧a=63 then 0xBD else 0xBF)) fun (b:Nat)=>gives ((c.toNat-0xE0) * 4096+a * 64+b))
   else behind (andThen (tail_ (if c.toNat=0xF0 then 0x90 else 0x80) (if c.toNat=0xF4 then 0x8F else 0xBF)) fun (a:Nat)=>andThen (tail_ 0x80 0xBF) fun (b:Nat)=>andThen (tail_ 0x80 (if a % 16=15∧b=63 then 0xBD else 0xBF)) fun (d:Nat)=>gives ((c.toNat-0xF0) * 262144+a * 4096+b * 64+d))) p (c::b):=by
 unfold letter_ byNext
 show (if startsLetter c=false then stray else _) p (c::b)=_
 rw [if_neg (by rw [hs];decide)]
theorem starts_hi' {n:Nat} (h1:0xC2≤n) (h2:n≤0xF4):startsLetter (UInt8.ofNat n)=true:=by
 unfold startsLetter
 rw [u8_small (by lia),if_neg (by lia)]
 simp;lia
structure LetB (n:Nat):Prop where
 lo:33≤n
 mid:n<127∨159<n
 top:n<0x110000
 half:n<0xD800∨0xE000≤n
 low:n % 65536<0xFFFE
theorem letB {n:Nat} (h:isLetter n=true):LetB n:=by
 unfold isLetter isChar at h
 simp at h
 obtain ⟨h1,h2,h3,h4,h5⟩:=h
 exact ⟨h2,by lia,by lia,by lia,h4⟩
theorem letter_read {n:Nat} (h:isLetter n=true) (p:Nat) (b:Bytes):letter_ p (charOf n++b)=.ok (n,p+(charOf n).length,b):=by
 have L:=letB h
 obtain ⟨l1,l2,l3,l4,l5⟩:=L
 by_cases h1:n<0x80
 ·rw [char1b h1]
  show letter_ p (UInt8.ofNat n::b)=_
  have e:=u8_small (n:=n) (by lia)
  rw [letter_at (by unfold startsLetter;rw [e,if_pos h1];exact h),e,if_pos h1]
  rfl
 ·by_cases h2:n<0x800
  ·rw [char2b (by lia) h2]
   show letter_ p (UInt8.ofNat (0xC0+n / 64)::UInt8.ofNat (0x80+n % 64)::b)=_
   have e:=u8_small (n:=0xC0+n / 64) (by lia)
   rw [letter_at (starts_hi' (by lia) (by lia)),e,if_neg (by lia),if_pos (by lia)]
   unfold behind
   show andThen _ _ (p+1) (UInt8.ofNat (128+n % 64)::b)=_
   rw [then_ok (tail_read (by split <;> lia) (by lia) (by lia))]
   show Except.ok ((0xC0+n / 64-0xC0) * 64+n % 64,p+1+1,b)=_
   rw [show (0xC0+n / 64-0xC0) * 64+n % 64=n by lia]
   rfl
  ·by_cases h3:n<0x10000
   ·rw [char3b (by lia) h3]
    show letter_ p (UInt8.ofNat (0xE0+n / 4096)::UInt8.ofNat (0x80+n / 64 % 64)::UInt8.ofNat (0x80+n % 64)::b)=_
    have e:=u8_small (n:=0xE0+n / 4096) (by lia)
    rw [letter_at (starts_hi' (by lia) (by lia)),e,if_neg (by lia),if_neg (by lia),if_pos (by lia)]
    unfold behind
    show andThen _ _ (p+1) (UInt8.ofNat (128+n / 64 % 64)::UInt8.ofNat (128+n % 64)::b)=_
    rw [then_ok (tail_read (by split <;> lia) (by split <;> lia) (by lia)),then_ok (tail_read (by lia) (by split <;> lia) (by lia))]
    show Except.ok ((0xE0+n / 4096-0xE0) * 4096+n / 64 % 64 * 64+n % 64,p+1+1+1,b)=_
    rw [show (0xE0+n / 4096-0xE0) * 4096+n / 64 % 64 * 64+n % 64=n by lia]
    rfl
   ·rw [char4b (by lia)]
    show letter_ p (UInt8.ofNat (0xF0+n / 262144)::UInt8.ofNat (0x80+n / 4096 % 64)::UInt8.ofNat (0x80+n / 64 % 64)::UInt8.ofNat (0x80+n % 64)::b)=_
    have e:=u8_small (n:=0xF0+n / 262144) (by lia)
    rw [letter_at (starts_hi' (by lia) (by lia)),e,if_neg (by lia),if_neg (by lia),if_neg (by lia)]
    unfold behind
    show andThen _ _ (p+1) (UInt8.ofNat (128+n / 4096 % 64)::UInt8.ofNat (128+n / 64 % 64)::UInt8.ofNat (128+n % 64)::b)=_
    rw [then_ok (tail_read (by split <;> lia) (by split <;> lia) (by lia)),then_ok (tail_read (by lia) (by lia) (by lia)),then_ok (tail_read (by lia) (by split <;> lia) (by lia))]
    show Except.ok ((0xF0+n / 262144-0xF0) * 262144+n / 4096 % 64 * 4096+n / 64 % 64 * 64+n % 64,p+1+1+1+1,b)=_
    rw [show (0xF0+n / 262144-0xF0) * 262144+n / 4096 % 64 * 4096+n / 64 % 64 * 64+n % 64=n by lia]
    rfl
end Vp
end
section
namespace Vp
open Vh VhPage
theorem char_bytes {n:Nat} (h:isLetter n=true):∀ x∈charOf n,(x=UInt8.ofNat n∧n<128)∨128≤x.toNat:=by
 obtain ⟨l1,l2,l3,l4,l5⟩:=letB h
 intro x hx
 by_cases h1:n<0x80
 ·rw [char1b h1] at hx
  exact .inl ⟨by simpa using hx,h1⟩
 ·right
  by_cases h2:n<0x800
  ·rw [char2b (by lia) h2] at hx
   simp only [List.mem_cons,List.not_mem_nil,or_false] at hx
   rcases hx with rfl | rfl <;> rw [u8_small (by lia)] <;> lia
  ·by_cases h3:n<0x10000
   ·rw [char3b (by lia) h3] at hx
    simp only [List.mem_cons,List.not_mem_nil,or_false] at hx
    rcases hx with rfl | rfl | rfl <;> rw [u8_small (by lia)] <;> lia
   ·rw [char4b (by lia)] at hx
    simp only [List.mem_cons,List.not_mem_nil,or_false] at hx
    rcases hx with rfl | rfl | rfl | rfl <;> rw [u8_small (by lia)] <;> lia
theorem char_free {n:Nat} (h:isLetter n=true) {c:UInt8} (hc:c.toNat<33∨MARKS.contains c.toNat=true) (h128:c.toNat<128):c ∉ charOf n:=by
 intro hx
 rcases char_bytes h c hx with ⟨e,hn⟩ | z
 ·have e2:c.toNat=n:=by rw [e,u8_small (by lia)]
  rcases hc with hc | hc
  ·have:=(letB h).lo;lia
  ·rw [e2] at hc
   unfold isLetter at h
   rw [hc] at h
   simp at h
 ·lia
theorem first_byte {n:Nat} (h:isLetter n=true):∃ c r,charOf n=c::r∧startsLetter c=true∧MARKBYTES.contains c=false:=by
 have key:∀ c r,charOf n=c::r→startsLetter c=true→∃ c r,charOf n=c::r∧startsLetter c=true∧MARKBYTES.contains c=false:=fun c r e hs=>by
  refine ⟨c,r,e,hs,?_⟩
  cases z:MARKBYTES.contains c with
  | false=>rfl
  | true =>
   exfalso
   have hm:c∈MARKBYTES:=by simpa using z
   have h1:∀ c∈MARKBYTES,c.toNat<128∧MARKS.contains c.toNat=true:=by decide
   exact char_free h (.inr (h1 c hm).2) (h1 c hm).1 (by rw [e];exact List.mem_cons_self)
 obtain ⟨l1,l2,l3,l4,l5⟩:=letB h
 by_cases h1:n<0x80
 ·exact key _ _ (char1b h1) (by unfold startsLetter;rw [u8_small (by lia),if_pos h1];exact h)
 ·by_cases h2:n<0x800
  ·exact key _ _ (char2b (by lia) h2) (starts_hi' (by lia) (by lia))
  ·by_cases h3:n<0x10000
   ·exact key _ _ (char3b (by lia) h3) (starts_hi' (by lia) (by lia))
   ·exact key _ _ (char4b (by lia)) (starts_hi' (by lia) (by lia))
def StopAt (mk:List UInt8) (b:Bytes):Prop:=∀ x,b.head?=some x→mk.contains x=false∧startsLetter x=false
theorem chars_read {mk:List UInt8} (hm:∀ c∈mk,c∈MARKBYTES):∀ (l:Letters) (k p:Nat) (b:Bytes),(∀ c∈l,isLetter c=true)→l.length≤k→(l.length=k∨StopAt mk b)→chars_ mk k p (spelt l++b)=.ok (l,p+(spelt l).length,b)
 | [],0,p,b,_,_,_=>rfl
 | [],k+1,p,b,_,_,hs=>by
  have hs:StopAt mk b:=hs.resolve_left (by simp)
  show chars_ mk (k+1) p b=_
  unfold chars_ byNext
  cases hc:b.head? with
  | none=>rfl
  | some x =>
   obtain ⟨h1,h2⟩:=hs x hc
   show (if mk.contains x=true then _ else if startsLetter x=true then _ else gives []) p b=_
   rw [if_neg (by rw [h1];decide),if_neg (by rw [h2];decide)]
   rfl
 | n::l,0,p,b,_,hk,_=>by simp at hk
 | n::l,k+1,p,b,hl,hk,hs=>by
  have hn:=hl n List.mem_cons_self
  obtain ⟨c,r,e,h1,h2⟩:=first_byte hn
  have e2:spelt (n::l)++b=charOf n++(spelt l++b):=by show (charOf n++spelt l)++b=_;rw [List.append_assoc]
  have hmk:mk.contains c=false:=by
   cases z:mk.contains c with
   | false=>rfl
   | true =>
    have h3:=hm c (by simpa using z)
    have h4:MARKBYTES.contains c=true:=by simpa using h3
    rw [h2] at h4;cases h4
  rw [e2]
  unfold chars_ byNext
  have e3:(charOf n++(spelt l++b)).head?=some c:=by rw [e];rfl
  rw [e3]
  show (if mk.contains c=true then _ else if startsLetter c=true then (andThen letter_ fun (n:Nat)=>andThen (chars_ mk k) fun (r:Letters)=>gives (n::r)) else gives []) p _=_
  rw [if_neg (by rw [hmk];decide),if_pos h1,then_ok (letter_read hn p (spelt l++b)),then_ok (chars_read hm l k _ b (fun c hc=>hl c (List.mem_cons_of_mem _ hc)) (by simpa using hk) (hs.imp (fun z=>by simpa using z) id))]
  show Except.ok (n::l,p+(charOf n).length+(spelt l).length,b)=Except.ok (n::l,p+(charOf n++spelt l).length,b)
  rw [List.length_append,Nat.add_assoc]
theorem spelt_len_ge:∀ l:Letters,(∀ c∈l,isLetter c=true)→l.length≤(spelt l).length
 | [],_=>Nat.zero_le _
 | n::l,h=>by
  obtain ⟨c,r,e,_,_⟩:=first_byte (h n List.mem_cons_self)
  show l.length+1≤(charOf n++spelt l).length
  rw [e,List.length_append,List.length_cons]
  have:=spelt_len_ge l fun c hc=>h c (List.mem_cons_of_mem _ hc)
  lia
theorem charsOf_spelt {l:Letters} (h:∀ c∈l,isLetter c=true):charsOf (spelt l)=l:=by
 unfold charsOf readAll
 have e:=chars_read (mk:=MARKBYTES) (fun c hc=>hc) l (spelt l).length 0 [] h (spelt_len_ge l h) (.inr (fun x hx=>by cases hx))
 rw [List.append_nil] at e
 rw [then_ok e]
 rfl
end Vp
end
section
namespace Vp
open Vh VhPage
theorem parted_end {c:UInt8}:∀ (x w:Bytes),c ∉ x→parted c w x=[w.reverse++x]
 | [],w,_=>by simp [parted]
 | y::x,w,h=>by
  have hy:¬ y=c:=fun z=>h (by rw [z];exact List.mem_cons_self)
  rw [parted,if_neg hy,parted_end x (y::w) fun z=>h (List.mem_cons_of_mem _ z)]
  simp
theorem parted_at {c:UInt8} (r:Bytes):∀ (x w:Bytes),c ∉ x→parted c w (x++c::r)=(w.reverse++x)::parted c [] r
 | [],w,_=>by simp [parted]
 | y::x,w,h=>by
  have hy:¬ y=c:=fun z=>h (by rw [z];exact List.mem_cons_self)
  show parted c w (y::(x++c::r))=_
  rw [parted,if_neg hy,parted_at r x (y::w) fun z=>h (List.mem_cons_of_mem _ z)]
  simp
theorem parts_spaced:∀ (xs:List Bytes),xs≠[]→(∀ x∈xs,(32:UInt8) ∉ x)→partsAt 32 (spaced xs)=xs
 | [],h,_=>absurd rfl h
 | [x],_,h=>by show parted 32 [] x=[x];rw [parted_end x [] (h x List.mem_cons_self)];rfl
 | x::y::r,_,h=>by
  show parted 32 [] (x++32::spaced (y::r))=_
  rw [parted_at _ x [] (h x List.mem_cons_self)]
  have e:=parts_spaced (y::r) (by simp) fun z hz=>h z (List.mem_cons_of_mem _ hz)
  unfold partsAt at e
  rw [e];rfl
theorem parts_barred:∀ (xs:List Bytes),xs≠[]→(∀ x∈xs,(124:UInt8) ∉ x)→partsAt 124 (barred xs)=xs
 | [],h,_=>absurd rfl h
 | [x],_,h=>by show parted 124 [] x=[x];rw [parted_end x [] (h x List.mem_cons_self)];rfl
 | x::y::r,_,h=>by
  show parted 124 [] (x++124::barred (y::r))=_
  rw [parted_at _ x [] (h x List.mem_cons_self)]
  have e:=parts_barred (y::r) (by simp) fun z hz=>h z (List.mem_cons_of_mem _ hz)
  unfold partsAt at e
  rw [e];rfl
theorem parts_lines:∀ (xs:List Bytes),(∀ x∈xs,(10:UInt8) ∉ x)→partsAt 10 (xs.flatMap ended)=xs++[[]]
 | [],_=>rfl
 | x::r,h=>by
  have e0:(x::r).flatMap ended=x++10::r.flatMap ended:=by
   rw [List.flatMap_cons];unfold ended;simp
  have e:=parts_lines r fun z hz=>h z (List.mem_cons_of_mem _ hz)
  unfold partsAt at e ⊢
  rw [e0,parted_at _ x [] (h x List.mem_cons_self),e];rfl
theorem spelt_free {l:Letters} (h:∀ c∈l,isLetter c=true) {c:UInt8} (hc:c.toNat<33∨MARKS.contains c.toNat=true) (h128:c.toNat<128):c ∉ spelt l:=by
 intro z
 obtain ⟨n,hn,hz⟩:=List.mem_flatMap.mp z
 exact char_free (h n hn) hc h128 hz
theorem spaced_free {c:UInt8} (hc:c≠32):∀ (xs:List Bytes),(∀ x∈xs,c ∉ x)→c ∉ spaced xs
 | [],_=>by simp [spaced]
 | [x],h=>h x List.mem_cons_self
 | x::y::r,h=>by
  show c ∉ x++32::spaced (y::r)
  rw [List.mem_append,List.mem_cons]
  rintro (z | z | z)
  ·exact h x List.mem_cons_self z
  ·exact hc z
  ·exact spaced_free hc (y::r) (fun w hw=>h w (List.mem_cons_of_mem _ hw)) z
theorem cellOf_spelled {ws:List Letters} (h:∀ w∈ws,w≠[]∧∀ c∈w,isLetter c=true):cellOf (spelled ws)=ws:=by
 cases ws with
 | nil=>rfl
 | cons w r =>
  have ne:(spelled (w::r)).isEmpty=false:=by
   obtain ⟨h1,h2⟩:=h w List.mem_cons_self
   have hl:=spelt_len_ge w h2
   have hp:0<w.length:=by cases w with | nil=>exact absurd rfl h1 | cons _ _=>simp
   have hs:spelt w≠[]:=fun z=>by rw [z] at hl;exact absurd hl (Nat.not_le.mpr hp)
   cases r with
   | nil =>
    show (spelt w).isEmpty=false
    cases e:spelt w with
    | nil=>exact absurd e hs
    | cons _ _=>rfl
   | cons y r =>
    show (spelt w++32::spaced (spelt y::r.map spelt)).isEmpty=false
    cases e:spelt w with
    | nil=>exact absurd e hs
    | cons _ _=>rfl
  unfold cellOf
  rw [if_neg (by rw [ne];decide)]
  unfold spelled
  rw [parts_spaced _ (by simp) (fun x hx=>by
   obtain ⟨y,hy,rfl⟩:=List.mem_map.mp hx
   exact spelt_free (h y hy).2 (.inl (by decide)) (by decide)),List.map_map]
  calc List.map (charsOf ∘ spelt) (w::r)=List.map id (w::r):=List.map_congr_left fun y hy=>charsOf_spelt (h y hy).2
   _=w::r:=by simp
end Vp
end
section
namespace Vp
open Vh VhPage
theorem isLetter_big {n:Nat} (h1:160≤n) (h2:n<0x110000) (h3:n<0xD800∨0xE000≤n) (h4:n % 65536<0xFFFE):isLetter n=true:=by
 have hm:MARKS.contains n=false:=by
  cases z:MARKS.contains n with
  | false=>rfl
  | true =>
   have h5:∀ y∈MARKS,y<128:=by decide
   have:=h5 n (by simpa using z)
   lia
 unfold isLetter isChar
 rw [hm]
 simp
 lia
theorem Pd.ofPr {α:Type}{r:Rd α}{pr:α→Bytes}{ok:α→Prop} (h:Pr r pr ok):Pd r ok:=fun p b x p' b' e=>(h p b x p' b' e).2.2
theorem Pd.letterL:Pd letter_ (fun n=>isLetter n=true):=by
 refine Pd.next fun c=>?_
 cases c with
 | none=>exact Pd.str
 | some x =>
  refine Pd.ite (fun _=>Pd.str) fun hs=>?_
  have hs:startsLetter x=true:=by simpa using hs
  refine Pd.ite (fun h=>Pd.beh (Pd.giv ?_)) fun h80=>?_
  ·unfold startsLetter at hs
   rw [if_pos h] at hs
   exact hs
  obtain ⟨r1,r2⟩:=starts_range hs h80
  refine Pd.ite (fun h=>Pd.beh (Pd.thn (Pd.ofPr (Pr.tail (by split <;> lia))) fun a ha=>Pd.giv ?_)) fun hE=>Pd.ite (fun h=>Pd.beh (Pd.thn (Pd.ofPr (Pr.tail (by split <;> lia))) fun a ha=>Pd.thn (Pd.ofPr (Pr.tail (by lia))) fun b hb=>Pd.giv ?_)) fun hF=>Pd.beh (Pd.thn (Pd.ofPr (Pr.tail (by split <;> lia))) fun a ha=>Pd.thn (Pd.ofPr (Pr.tail (by lia))) fun b hb=>Pd.thn (Pd.ofPr (Pr.tail (by lia))) fun d hd=>Pd.giv ?_)
  ·obtain ⟨a1,a2,_⟩:=ha
   refine isLetter_big ?_ (by lia) (.inl (by lia)) (by lia)
   split at a1 <;> lia
  ·obtain ⟨a1,a2,_⟩:=ha
   obtain ⟨b1,b2,_⟩:=hb
   refine isLetter_big ?_ ?_ ?_ ?_
   ·split at a1 <;> lia
   ·split at a2 <;> split at b2 <;> lia
   ·split at a2 <;> split at b2 <;> lia
   ·split at a2 <;> split at b2 <;> lia
  ·obtain ⟨a1,a2,_⟩:=ha
   obtain ⟨b1,b2,_⟩:=hb
   obtain ⟨d1,d2,_⟩:=hd
   refine isLetter_big ?_ ?_ ?_ ?_
   ·split at a1 <;> lia
   ·split at a2 <;> split at d2 <;> lia
   ·split at a1 <;> lia
   ·split at a2 <;> split at d2 <;> lia
theorem Pd.charsL:∀ k:Nat,Pd (chars_ [] k) (fun l=>l.length≤k∧∀ c∈l,isLetter c=true)
 | 0=>Pd.giv ⟨Nat.le_refl _,fun c hc=>by simp at hc⟩
 | k+1=>by
  unfold chars_
  refine Pd.next fun c=>?_
  cases c with
  | none=>exact Pd.giv ⟨Nat.zero_le _,fun c hc=>by simp at hc⟩
  | some x =>
   exact Pd.ite (fun h=>absurd h (by simp)) fun _=>Pd.ite (fun _=>Pd.thn Pd.letterL fun n hn=>Pd.thn (Pd.charsL k) fun l hl=>Pd.giv ⟨Nat.succ_le_succ hl.1,fun c hc=>(List.mem_cons.mp hc).elim (fun z=>by rw [z];exact hn) (hl.2 c)⟩) fun _=>Pd.giv ⟨Nat.zero_le _,fun c hc=>by simp at hc⟩
theorem Pd.word:Pd (someLetters_ 64) (fun l=>isWord l=true):=by
 rw [someLetters_chars]
 refine Pd.thn (Pd.charsL 64) fun l hl=>Pd.ite (fun _=>Pd.str) fun z=>Pd.giv ?_
 unfold isWord inside
 have h1:1≤l.length:=by cases l with | nil=>exact absurd rfl z | cons _ _=>simp
 simp only [Bool.and_eq_true,decide_eq_true_eq,List.all_eq_true]
 exact ⟨⟨h1,hl.1⟩,hl.2⟩
end Vp
end
section
namespace Vp
open Vh VhPage
theorem Pr.and {α:Type}{r:Rd α}{pr:α→Bytes}{ok ok2:α→Prop} (h:Pr r pr ok) (h2:Pd r ok2):Pr r pr (fun x=>ok x∧ok2 x):=fun p b x p' b' e=>⟨(h p b x p' b' e).1,(h p b x p' b' e).2.1,(h p b x p' b' e).2.2,h2 p b x p' b' e⟩
theorem Pr.mono {α:Type}{r:Rd α}{pr:α→Bytes}{ok ok2:α→Prop} (h:Pr r pr ok) (m:∀ x,ok x→ok2 x):Pr r pr ok2:=fun p b x p' b' e=>⟨(h p b x p' b' e).1,(h p b x p' b' e).2.1,m x (h p b x p' b' e).2.2⟩
theorem Pr.word:Pr (someLetters_ 64) spelt (fun l=>isWord l=true):=((Pr.lett 64).and Pd.word).mono fun _ h=>h.2
end Vp
end
section
namespace Vp
open Vh VhPage
theorem word_ok {l:Letters} (h:isWord l=true):l≠[]∧l.length≤64∧∀ c∈l,isLetter c=true:=by
 unfold isWord inside at h
 simp only [Bool.and_eq_true,decide_eq_true_eq,List.all_eq_true] at h
 exact ⟨fun z=>by rw [z] at h;exact absurd h.1.1 (by simp),h.1.2,h.2⟩
theorem word_read {w:Letters} (h:isWord w=true) {p:Nat}{b:Bytes} (hs:StopAt [] b):someLetters_ 64 p (spelt w++b)=.ok (w,p+(spelt w).length,b):=by
 obtain ⟨h1,h2,h3⟩:=word_ok h
 rw [someLetters_chars]
 unfold someChars_
 rw [then_ok (chars_read (mk:=[]) (fun c hc=>by cases hc) w 64 p b h3 h2 (.inr hs))]
 have:w.isEmpty=false:=by cases w with | nil=>exact absurd rfl h1 | cons _ _=>rfl
 show (if w.isEmpty=true then stray else gives w) _ _=_
 rw [if_neg (by rw [this];decide)]
 rfl
theorem stop_low {c:UInt8}{b:Bytes} (h:c.toNat<33):StopAt [] (c::b):=fun x hx=>by
 cases hx
 refine ⟨rfl,?_⟩
 unfold startsLetter
 rw [if_pos (by lia)]
 unfold isLetter
 simp;lia
end Vp
end
section
namespace Vp
open Vh VhPage
end Vp
end
section
namespace Vp
open Vh VhPage
end Vp
end
section
namespace Vp
open Vh VhPage
def jn (sep:Nat):List (List Nat)→List Nat
 | []=>[]
 | [x]=>x
 | x::y::r=>x++sep::jn sep (y::r)
theorem spelt_jn:∀ xs:List Letters,spelt (jn 32 xs)=spaced (xs.map spelt)
 | []=>rfl
 | [x]=>rfl
 | x::y::r=>by
  have ih:=spelt_jn (y::r)
  show spelt (x++32::jn 32 (y::r))=spelt x++32::spaced ((y::r).map spelt)
  rw [spelt_app,spelt_one (by decide),ih];rfl
theorem spelt_flat {α:Type} (g:α→List Nat):∀ l:List α,spelt (l.flatMap g)=l.flatMap fun y=>spelt (g y)
 | []=>rfl
 | y::l=>by rw [List.flatMap_cons,spelt_app,spelt_flat g l,List.flatMap_cons]
theorem flat_congr {α β:Type}{g h:α→List β}:∀ {l:List α},(∀ y∈l,g y=h y)→l.flatMap g=l.flatMap h
 | [],_=>rfl
 | y::l,e=>by rw [List.flatMap_cons,List.flatMap_cons,e y (by simp),flat_congr fun z hz=>e z (by simp [hz])]
theorem num_ascii (l:List Nat):∀ c∈numbers l,c.toNat<128:=by
 unfold numbers
 induction l with
 | nil=>intro c hc;simp [spaced] at hc
 | cons n l ih =>
  intro c hc
  cases l with
  | nil=>exact digit_ascii _ _ c hc
  | cons m l =>
   have hc:c∈decimal n++32::spaced ((m::l).map decimal):=hc
   rcases List.mem_append.mp hc with h | h
   ·exact digit_ascii _ _ c h
   ·rcases List.mem_cons.mp h with h | h
    ·rw [h];decide
    ·exact ih c h
theorem dig_len:∀ (k f n:Nat),1≤k→n<10 ^ k→(digitsIn f n).length≤k
 | k,0,n,_,_=>by simp [digitsIn]
 | k,f+1,n,hk,h=>by
  unfold digitsIn
  rw [List.length_append]
  split
  ·simp;lia
  ·rename_i z
   cases k with
   | zero=>lia
   | succ k =>
    have:k≠0:=by intro e;subst e;simp at h;lia
    have ih:=dig_len k f (n / 10) (by lia) (by rw [Nat.pow_succ] at h;lia)
    simp;lia
theorem num_len {n k:Nat} (hk:1≤k) (h:n<10 ^ k):(num10 n).length≤k:=by
 unfold num10;rw [List.length_map];exact dig_len _ _ _ hk h
theorem jn_le {B:Nat}:∀ xs:List (List Nat),(∀ x∈xs,x.length+1≤B)→(jn 32 xs).length≤xs.length * B
 | [],_=>by simp [jn]
 | [x],h=>by have:=h x (by simp);simp [jn];lia
 | x::y::r,h=>by
  have ih:=jn_le (y::r) fun z hz=>h z (List.mem_cons_of_mem _ hz)
  have:=h x (by simp)
  show (x++32::jn 32 (y::r)).length≤(y::r).length.succ * B
  rw [List.length_append,List.length_cons,Nat.succ_mul]
  lia
theorem sum_flat {α β:Type} (g:α→List β):∀ l:List α,(l.flatMap g).length=(l.map fun y=>(g y).length).sum
 | []=>rfl
 | y::l=>by rw [List.flatMap_cons,List.length_append,sum_flat g l,List.map_cons,List.sum_cons]
theorem num_char (n:Nat):∀ c∈num10 n,c<0x110000:=fun c hc=>by
 obtain ⟨b,hb,rfl⟩:=List.mem_map.mp hc
 have:=digit_ascii _ _ b hb
 lia
theorem letter_char {c:Nat} (h:isLetter c=true):c<0x110000:=by
 unfold isLetter isChar at h
 simp only [Bool.and_eq_true,Bool.or_eq_true,decide_eq_true_eq] at h
 rcases h.1 with h | h
 ·lia
 ·exact h.2
end Vp
end
section
namespace Vp
open Vh VhPage
theorem digit_is {d:Nat} (h:d<10):isDigit (UInt8.ofNat (48+d))=true∧(UInt8.ofNat (48+d)).toNat=48+d:=by
 have:d=0∨d=1∨d=2∨d=3∨d=4∨d=5∨d=6∨d=7∨d=8∨d=9:=by lia
 rcases this with rfl | rfl | rfl | rfl | rfl | rfl | rfl | rfl | rfl | rfl <;> decide
theorem dig_step {lo hi f d p:Nat}{v:Option Nat}{r:Bytes} (hd:d<10) (hv:v≠some 0) (hl:leadsTo lo hi (10 * v.getD 0+d)=true) :
  Vh.digits lo hi (f+1) v p (UInt8.ofNat (48+d)::r)=Vh.digits lo hi f (some (10 * v.getD 0+d)) (p+1) r:=by
 have e:=digit_is hd
 cases v <;> (conv=>lhs;rw [Vh.digits]) <;> unfold byNext <;> simp only [List.head?_cons,Option.bind_some,e.1,e.2,Bool.true_eq_false,false_or,hv,if_false,Nat.add_sub_cancel_left,hl,if_true] <;> rfl
theorem dig_stop {lo hi f d p:Nat}{r:Bytes} (h1:lo≤d) (h2:d≤hi) (hr:∀ c,r.head?=some c→isDigit c=false):Vh.digits lo hi (f+1) (some d) p r=.ok (d,p,r):=by
 rw [Vh.digits]
 unfold byNext
 cases hc:r.head? with
 | none =>
  simp only [Option.bind_none,h1,true_and,h2,if_true]
  rfl
 | some c =>
  have hcd:=hr c hc
  simp only [Option.bind_some,hcd,true_or,if_true,h1,true_and,h2]
  rfl
theorem dig_all {lo hi:Nat}:∀ (m f p:Nat) (r:Bytes),1≤m→(∀ j,m / 10 ^ j≠0→leadsTo lo hi (m / 10 ^ j)=true)→Vh.digits lo hi (f+(decimal m).length) none p (decimal m++r)=Vh.digits lo hi f (some m) (p+(decimal m).length) r:=by
 intro m
 induction m using Nat.strongRecOn with
 | _ m ih =>
  intro f p r hm hl
  have h0:=hl 0 (by simp;lia)
  rw [Nat.pow_zero,Nat.div_one] at h0
  by_cases h10:m<10
  ·rw [dec_one h10]
   show Vh.digits lo hi (f+1) none p (UInt8.ofNat (48+m)::r)=_
   rw [dig_step h10 (by simp) (by simpa using h0)]
   simp
  ·have e:m=10 * (m / 10)+m % 10:=by lia
   have hd:decimal m=decimal (m / 10)++[UInt8.ofNat (48+m % 10)]:=by
    conv=>lhs;rw [e]
    exact dec_more (by lia) (by lia)
   rw [hd,List.length_append,List.append_assoc]
   have:=ih (m / 10) (by lia) (f+1) p ([UInt8.ofNat (48+m % 10)]++r) (by lia) (fun j hj=>by
    have e2:m / 10 / 10 ^ j=m / 10 ^ (j+1):=by rw [Nat.div_div_eq_div_mul,Nat.pow_succ,Nat.mul_comm]
    rw [e2] at hj ⊢
    exact hl (j+1) hj)
   rw [show f+((decimal (m / 10)).length+[UInt8.ofNat (48+m % 10)].length)=f+1+(decimal (m / 10)).length by simp;lia,this]
   show Vh.digits lo hi (f+1) (some (m / 10)) _ (UInt8.ofNat (48+m % 10)::r)=_
   have hne:some (m / 10)≠some 0:=by simp;lia
   rw [dig_step (by lia) hne (by simp only [Option.getD_some];rw [← e];exact h0)]
   simp only [Option.getD_some]
   rw [← e]
   congr 1
theorem num_read {lo hi d:Nat} (h1:lo≤d) (h2:d≤hi) (hh:hi<10 ^ 11) {r:Bytes} (hr:∀ c,r.head?=some c→isDigit c=false) (p:Nat):num lo hi p (decimal d++r)=.ok (d,p+(decimal d).length,r):=by
 unfold num
 by_cases h0:d=0
 ·subst h0
  rw [dec_one (by decide)]
  show Vh.digits lo hi (19+1) none p (UInt8.ofNat (48+0)::r)=_
  rw [dig_step (by decide) (by simp) (by simp only [Option.getD_none,Nat.mul_zero,Nat.add_zero];rw [leads_zero];simp;lia)]
  exact dig_stop (f:=18) (by simpa using h1) (by simp) hr
 ·have hlen:(decimal d).length≤11:=dig_len 11 _ _ (by decide) (by lia)
  have e:(20:Nat)=(19-(decimal d).length)+1+(decimal d).length:=by lia
  rw [e,dig_all d _ p r (by lia) (fun j hj=>?_)]
  ·exact dig_stop h1 h2 hr
  ·have hle:d / 10 ^ j * 10 ^ j≤d:=Nat.div_mul_le_self d (10 ^ j)
   have hlt:d<(d / 10 ^ j+1) * 10 ^ j:=by
    rw [Nat.mul_comm]
    exact Nat.lt_mul_div_succ d (Nat.pow_pos (by decide))
   exact leads_true hj (Nat.le_trans hle h2) (Nat.lt_of_le_of_lt h1 hlt) hh
def things_:Nat→Rd (List Letters)
 | 0=>gives []
 | k+1=>andThen (someLetters_ 64) fun (x:Letters)=>if k=0 then gives [x] else byNext fun (c:Option UInt8)=>if c=some 32 then behind (andThen (things_ k) fun (r:List Letters)=>gives (x::r)) else gives [x]
def cell_ (left:Nat):Rd (List Letters):=byNext fun (c:Option UInt8)=>if left=0∨c=some 124∨c=some 10 then gives [] else things_ left
def bars_:Nat→Nat→Rd (List (List Letters))
 | 0,_=>gives []
 | k+1,left=>andThen (byte_ 124) fun (_:Unit)=>andThen (cell_ left) fun (c:List Letters)=>andThen (bars_ k (left-c.length)) fun (r:List (List Letters))=>gives (c::r)
def rowT_ (m left:Nat):Rd (List (List Letters)):=andThen (byte_ 61) fun (_:Unit)=>andThen (cell_ left) fun (c:List Letters)=>andThen (bars_ (m-1) (left-c.length)) fun (r:List (List Letters))=>andThen (byte_ 10) fun (_:Unit)=>gives (c::r)
def cnt (r:List (List Letters)):Nat:=(r.map fun (c:List Letters)=>c.length).sum
def rowsT_ (m:Nat):Nat→Nat→Rd (List (List (List Letters)))
 | 0,_=>gives []
 | k+1,left=>byNext fun (c:Option UInt8)=>if c=some 61 then andThen (rowT_ m left) fun (r:List (List Letters))=>andThen (rowsT_ m k (left-cnt r)) fun (q:List (List (List Letters)))=>gives (r::q) else gives []
def table_:Rd Table:=andThen (byte_ 94) fun (_:Unit)=>andThen (num 8 120) fun (w:Nat)=>andThen (then_ 6 240) fun (h:Nat)=>andThen (then_ 2 4) fun (m:Nat)=>andThen (byte_ 10) fun (_:Unit)=>andThen (rowsT_ m 8192 65536) fun (l:List (List (List Letters)))=>end_ (⟨w,h,m,l⟩:Table)
def parseT (b:Bytes):Except Nat Table:=readAll table_ b
def rowB (r:List (List Letters)):Bytes:=61::barred (r.map spelled)
def CellOk (c:List Letters):Prop:=∀ w∈c,isWord w=true
theorem Pr.things:∀ k:Nat,Pr (things_ k) spelled (fun l=>l.length≤k∧(1≤k→l≠[])∧CellOk l)
 | 0=>by
  intro p b x p' b' h
  obtain ⟨rfl,rfl,rfl⟩:=ok_inj (x:=([]:List Letters)) (p:=p) (b:=b) h
  exact ⟨rfl,rfl,Nat.le_refl _,fun z=>absurd z (by decide),fun c hc=>by simp at hc⟩
 | k+1=>by
  intro p b x p' b' h
  obtain ⟨w,b1,e1,o1,h⟩:=Pr.bind Pr.word (show andThen _ _ p b=_ from h)
  have one:Vh.gives [w] (p+(spelt w).length) b1=.ok (x,p',b')→b=spelled x++b'∧p'=p+(spelled x).length∧x.length≤k+1∧(1≤k+1→x≠[])∧CellOk x:=fun h=>by
   obtain ⟨rfl,rfl,rfl⟩:=ok_inj h
   exact ⟨e1,rfl,by simp,fun _=>by simp,fun u hu=>by rw [List.mem_singleton.mp hu];exact o1⟩
  by_cases hk:k=0
  ·have h:(if k=0 then Vh.gives [w] else _) (p+(spelt w).length) b1=_:=h
   rw [if_pos hk] at h
   exact one h
  ·have h:(if k=0 then Vh.gives [w] else byNext fun (c:Option UInt8)=>if c=Option.some 32 then behind (andThen (things_ k) fun (r:List Letters)=>Vh.gives (w::r)) else Vh.gives [w]) (p+(spelt w).length) b1=_:=h
   rw [if_neg hk] at h
   have h:(if b1.head?=Option.some 32 then behind (andThen (things_ k) fun (r:List Letters)=>Vh.gives (w::r)) else Vh.gives [w]) (p+(spelt w).length) b1=_:=h
   by_cases hc:b1.head?=Option.some 32
   ·rw [if_pos hc] at h
    have hb:=head_cons hc
    obtain ⟨r,b2,e2,⟨o2,o3,o4⟩,h⟩:=Pr.bind (Pr.things k) (show andThen _ _ (p+(spelt w).length+1) (b1.drop 1)=_ from h)
    obtain ⟨rfl,rfl,rfl⟩:=ok_inj h
    have hr:=o3 (by lia)
    have es:spelled (w::r)=spelt w++32::spelled r:=by
     cases r with
     | nil=>exact absurd rfl hr
     | cons u r=>rfl
    refine ⟨?_,?_,?_,fun _=>by simp,?_⟩
    ·rw [es,e1,hb,e2];simp
    ·rw [es];simp;lia
    ·rw [List.length_cons];lia
    ·intro u hu
     rcases List.mem_cons.mp hu with z | z
     ·rw [z];exact o1
     ·exact o4 u z
   ·rw [if_neg hc] at h
    exact one h
theorem Pr.cell (left:Nat):Pr (cell_ left) spelled (fun l=>l.length≤left∧CellOk l):=by
 intro p b x p' b' h
 have h:(if left=0∨b.head?=Option.some 124∨b.head?=Option.some 10 then Vh.gives [] else things_ left) p b=.ok (x,p',b'):=h
 by_cases z:left=0∨b.head?=Option.some 124∨b.head?=Option.some 10
 ·rw [if_pos z] at h
  obtain ⟨rfl,rfl,rfl⟩:=ok_inj h
  exact ⟨rfl,rfl,Nat.zero_le _,fun c hc=>by simp at hc⟩
 ·rw [if_neg z] at h
  obtain ⟨h1,h2,h3,_,h4⟩:=Pr.things left p b x p' b' h
  exact ⟨h1,h2,h3,h4⟩
def barT (c:List Letters):Bytes:=124::spelled c
def RowOk (r:List (List Letters)):Prop:=∀ c∈r,CellOk c
theorem cnt_cons (c:List Letters) (r:List (List Letters)):cnt (c::r)=c.length+cnt r:=by unfold cnt;rw [List.map_cons,List.sum_cons]
theorem Pr.bars:∀ (k left:Nat),Pr (bars_ k left) (fun l=>l.flatMap barT) (fun l=>l.length=k∧cnt l≤left∧RowOk l)
 | 0,left=>by
  intro p b x p' b' h
  obtain ⟨rfl,rfl,rfl⟩:=ok_inj (x:=([]:List (List Letters))) (p:=p) (b:=b) h
  exact ⟨rfl,rfl,rfl,Nat.zero_le _,fun c hc=>by simp at hc⟩
 | k+1,left=>by
  intro p b x p' b' h
  obtain ⟨_,b1,e1,_,h⟩:=Pr.bind (Pr.byte 124) (show andThen _ _ p b=_ from h)
  obtain ⟨c,b2,e2,⟨o1,o2⟩,h⟩:=Pr.bind (Pr.cell left) h
  obtain ⟨r,b3,e3,⟨o3,o4,o5⟩,h⟩:=Pr.bind (Pr.bars k (left-c.length)) h
  obtain ⟨rfl,rfl,rfl⟩:=ok_inj h
  refine ⟨?_,?_,?_,?_,?_⟩
  ·show _=(c::r).flatMap barT++_;rw [List.flatMap_cons,e1,e2,e3];unfold barT;simp
  ·show _=p+((c::r).flatMap barT).length;rw [List.flatMap_cons];unfold barT;simp;lia
  ·rw [List.length_cons,o3]
  ·rw [cnt_cons];lia
  ·intro d hd
   rcases List.mem_cons.mp hd with z | z
   ·rw [z];exact o2
   ·exact o5 d z
theorem barred_eq:∀ (x:Bytes) (xs:List Bytes),barred (x::xs)=x++xs.flatMap fun y=>124::y
 | x,[]=>by simp [barred]
 | x,y::r=>by
  show x++124::barred (y::r)=_
  rw [barred_eq y r,List.flatMap_cons];rfl
theorem rowB_eq (c:List Letters) (r:List (List Letters)):rowB (c::r)=61::(spelled c++r.flatMap barT):=by
 unfold rowB
 rw [List.map_cons,barred_eq,List.flatMap_map];rfl
theorem Pr.rowT (m left:Nat) (hm:1≤m):Pr (rowT_ m left) (fun r=>ended (rowB r)) (fun r=>r.length=m∧cnt r≤left∧RowOk r):=by
 intro p b x p' b' h
 obtain ⟨_,b1,e1,_,h⟩:=Pr.bind (Pr.byte 61) (show andThen _ _ p b=_ from h)
 obtain ⟨c,b2,e2,⟨o1,o2⟩,h⟩:=Pr.bind (Pr.cell left) h
 obtain ⟨r,b3,e3,⟨o3,o4,o5⟩,h⟩:=Pr.bind (Pr.bars (m-1) (left-c.length)) h
 obtain ⟨_,b4,e4,_,h⟩:=Pr.bind (Pr.byte 10) h
 obtain ⟨rfl,rfl,rfl⟩:=ok_inj h
 refine ⟨?_,?_,?_,?_,?_⟩
 ·show _=ended (rowB (c::r))++_;rw [rowB_eq,e1,e2,e3,e4];unfold ended;simp
 ·show _=p+(ended (rowB (c::r))).length;rw [rowB_eq];unfold ended;simp;lia
 ·rw [List.length_cons,o3];lia
 ·rw [cnt_cons];lia
 ·intro d hd
  rcases List.mem_cons.mp hd with z | z
  ·rw [z];exact o2
  ·exact o5 d z
def cntT (l:List (List (List Letters))):Nat:=(l.map cnt).sum
theorem cntT_cons (r:List (List Letters)) (l:List (List (List Letters))):cntT (r::l)=cnt r+cntT l:=by unfold cntT;rw [List.map_cons,List.sum_cons]
theorem Pr.rowsT (m:Nat) (hm:1≤m):∀ (k left:Nat),Pr (rowsT_ m k left) (fun l=>l.flatMap fun r=>ended (rowB r)) (fun l=>l.length≤k∧cntT l≤left∧∀ r∈l,r.length=m∧RowOk r)
 | 0,left=>by
  intro p b x p' b' h
  obtain ⟨rfl,rfl,rfl⟩:=ok_inj (x:=([]:List (List (List Letters)))) (p:=p) (b:=b) h
  exact ⟨rfl,rfl,Nat.le_refl _,Nat.zero_le _,fun c hc=>by simp at hc⟩
 | k+1,left=>by
  intro p b x p' b' h
  have h:(if b.head?=Option.some 61 then andThen (rowT_ m left) fun (r:List (List Letters))=>andThen (rowsT_ m k (left-cnt r)) fun (q:List (List (List Letters)))=>Vh.gives (r::q) else Vh.gives []) p b=.ok (x,p',b'):=h
  by_cases z:b.head?=Option.some 61
  ·rw [if_pos z] at h
   obtain ⟨r,b1,e1,⟨o1,o2,o3⟩,h⟩:=Pr.bind (Pr.rowT m left hm) h
   obtain ⟨l,b2,e2,⟨q1,q2,q3⟩,h⟩:=Pr.bind (Pr.rowsT m hm k (left-cnt r)) h
   obtain ⟨rfl,rfl,rfl⟩:=ok_inj h
   refine ⟨?_,?_,?_,?_,?_⟩
   ·show _=((r::l).flatMap fun r=>ended (rowB r))++_;rw [List.flatMap_cons,e1,e2];simp
   ·show _=p+((r::l).flatMap fun r=>ended (rowB r)).length;rw [List.flatMap_cons];simp;lia
   ·rw [List.length_cons];lia
   ·rw [cntT_cons];lia
   ·intro d hd
    rcases List.mem_cons.mp hd with w | w
    ·rw [w];exact ⟨o1,o3⟩
    ·exact q3 d w
  ·rw [if_neg z] at h
   obtain ⟨rfl,rfl,rfl⟩:=ok_inj h
   exact ⟨rfl,rfl,Nat.zero_le _,Nat.zero_le _,fun c hc=>by simp at hc⟩
theorem table_ok {x:Table}:x.ok=true↔(8≤x.width∧x.width≤120)∧(6≤x.height∧x.height≤240)∧(2≤x.cols∧x.cols≤4)∧x.rows.length≤8192∧(∀ r∈x.rows,r.length=x.cols∧RowOk r)∧cntT x.rows≤65536:=by
 unfold Table.ok inside
 simp only [Bool.and_eq_true,decide_eq_true_eq,List.all_eq_true,beq_iff_eq]
 exact Iff.rfl
theorem table_back {bs:Bytes}{x:Table} (h:parseT bs=.ok x):x.text=bs∧x.ok=true:=by
 unfold parseT readAll at h
 split at h
 ·cases h
 ·rename_i y hy
  obtain ⟨z,p',b'⟩:=y
  unfold table_ at hy
  obtain ⟨_,b0,e0,_,h1⟩:=Pr.bind (Pr.byte 94) hy
  obtain ⟨n1,b1,e1,o1,h2⟩:=Pr.bind (Pr.num 8 120) h1
  obtain ⟨n2,b2,e2,o2,h3⟩:=Pr.bind (Pr.then_ 6 240) h2
  obtain ⟨n3,b3,e3,o3,h4⟩:=Pr.bind (Pr.then_ 2 4) h3
  obtain ⟨_,b4,e4,_,h5⟩:=Pr.bind (Pr.byte 10) h4
  obtain ⟨l,b5,e5,⟨q1,q2,q3⟩,h6⟩:=Pr.bind (Pr.rowsT n3 (by lia) 8192 65536) h5
  have h7:∀ P,(if b5.head?.isNone=true then Vh.gives (⟨n1,n2,n3,l⟩:Table) else stray) P b5=Except.ok (z,p',b')→b5=[]∧z=⟨n1,n2,n3,l⟩:=fun P h5=>by
   by_cases w:b5.head?.isNone=true
   ·rw [if_pos w] at h5
    obtain ⟨rfl,_,_⟩:=ok_inj h5
    refine ⟨?_,rfl⟩
    cases b5 with
    | nil=>rfl
    | cons _ _=>simp at w
   ·rw [if_neg w] at h5;cases h5
  obtain ⟨hb,hz⟩:=h7 _ h6
  cases h
  subst hz
  constructor
  ·rw [e0,e1,e2,e3,e4,e5,hb]
   show ended (94::numbers [n1,n2,n3])++(l.flatMap fun r=>ended (rowB r))=_
   simp [ended,numbers,spaced]
  ·exact table_ok.mpr ⟨o1,o2,o3,q1,q3,q2⟩
end Vp
end
section
namespace Vp
open Vh VhPage
theorem things_read:∀ (q:List Letters) (k p:Nat) (b:Bytes),q≠[]→q.length≤k→CellOk q→(∀ c,b.head?=some c→c.toNat<33∨c=124)→b.head?≠some 32→things_ k p (spelled q++b)=.ok (q,p+(spelled q).length,b)
 | [],_,_,_,h,_,_,_,_=>absurd rfl h
 | _::_,0,_,_,_,h,_,_,_=>by simp at h
 | [w],k+1,p,b,_,_,hw,hb,h32=>by
  have hs:StopAt [] b:=fun x hx=>by
   rcases hb x hx with z | z
   ·exact stop_low (b:=[]) z x rfl
   ·rw [z];decide
  have e:spelled [w]++b=spelt w++b:=rfl
  rw [e,things_,then_ok (word_read (hw w List.mem_cons_self) hs)]
  show (if k=0 then gives [w] else byNext fun (c:Option UInt8)=>if c=some 32 then behind (andThen (things_ k) fun (r:List Letters)=>gives (w::r)) else gives [w]) _ b=_
  by_cases hk:k=0
  ·rw [if_pos hk];rfl
  ·rw [if_neg hk]
   show (if b.head?=some 32 then behind (andThen (things_ k) fun (r:List Letters)=>gives (w::r)) else gives [w]) _ b=_
   rw [if_neg h32];rfl
 | w::y::r,k+1,p,b,_,hk,hw,hb,h32=>by
  have e:spelled (w::y::r)++b=spelt w++(32::(spelled (y::r)++b)):=by show (spelt w++32::spelled (y::r))++b=_;simp
  have hk0:¬ k=0:=by simp at hk;lia
  have ih:=things_read (y::r) k (p+(spelt w).length+1) b (by simp) (by simp at hk ⊢;lia) (fun z hz=>hw z (List.mem_cons_of_mem _ hz)) hb h32
  rw [e,things_,then_ok (word_read (hw w List.mem_cons_self) (stop_low (by decide)))]
  show (if k=0 then gives [w] else byNext fun (c:Option UInt8)=>if c=some 32 then behind (andThen (things_ k) fun (r:List Letters)=>gives (w::r)) else gives [w]) _ (32::(spelled (y::r)++b))=_
  rw [if_neg hk0]
  show (andThen (things_ k) fun (r:List Letters)=>gives (w::r)) (p+(spelt w).length+1) (spelled (y::r)++b)=_
  rw [then_ok ih]
  show Except.ok (w::y::r,_,b)=Except.ok (w::y::r,_,b)
  congr 3
  show _=p+(spelt w++32::spelled (y::r)).length
  simp;lia
theorem spelled_head {q:List Letters} (hq:q≠[]) (hw:CellOk q) (b:Bytes):∃ c,(spelled q++b).head?=some c∧startsLetter c=true∧MARKBYTES.contains c=false:=by
 match q,hq with
 | w::r,_ =>
  obtain ⟨h1,_,h3⟩:=word_ok (hw w List.mem_cons_self)
  match w,h1 with
  | n::l,_ =>
   obtain ⟨c,t,e,h4,h5⟩:=first_byte (h3 n List.mem_cons_self)
   refine ⟨c,?_,h4,h5⟩
   have e2:∃ s,spelled ((n::l)::r)=charOf n++s:=by
    cases r with
    | nil=>exact ⟨spelt l,rfl⟩
    | cons y r=>exact ⟨spelt l++32::spelled (y::r),by show (charOf n++spelt l)++32::spelled (y::r)=_;simp⟩
   obtain ⟨s,e2⟩:=e2
   rw [e2,e];rfl
theorem cell_read {q:List Letters}{left p:Nat}{b:Bytes} (hl:q.length≤left) (hw:CellOk q) (hb:b.head?=some 124∨b.head?=some 10):cell_ left p (spelled q++b)=.ok (q,p+(spelled q).length,b):=by
 have hb1:∀ c,b.head?=some c→c.toNat<33∨c=124:=fun c hc=>by
  rcases hb with z | z
  ·rw [z] at hc;cases hc;exact .inr rfl
  ·rw [z] at hc;cases hc;exact .inl (by decide)
 have hb2:b.head?≠some 32:=fun hc=>by
  rcases hb with z | z
  ·rw [z] at hc;cases hc
  ·rw [z] at hc;cases hc
 show (if left=0∨(spelled q++b).head?=some 124∨(spelled q++b).head?=some 10 then gives [] else things_ left) p (spelled q++b)=_
 by_cases hq:q=[]
 ·subst hq
  rw [if_pos (.inr hb)];rfl
 ·obtain ⟨c,e1,e2,e3⟩:=spelled_head hq hw b
  rw [if_neg ?_]
  ·exact things_read q left p b hq hl hw hb1 hb2
  ·rintro (z | z | z)
   ·have:q.length=0:=by lia
    exact hq (List.length_eq_zero_iff.mp this)
   ·rw [e1] at z;cases z;exact absurd e3 (by decide)
   ·rw [e1] at z;cases z;exact absurd e2 (by decide)
theorem bar_head (r:List (List Letters)) (b:Bytes) (hb:b.head?=some 10):(r.flatMap barT++b).head?=some 124∨(r.flatMap barT++b).head?=some 10:=by
 cases r with
 | nil=>exact .inr hb
 | cons c r=>exact .inl rfl
theorem bars_read:∀ (r:List (List Letters)) (left p:Nat) (b:Bytes),cnt r≤left→RowOk r→b.head?=some 10→bars_ r.length left p (r.flatMap barT++b)=.ok (r,p+(r.flatMap barT).length,b)
 | [],left,p,b,_,_,_=>rfl
 | c::r,left,p,b,hl,hw,hb=>by
  rw [cnt_cons] at hl
  have e:(c::r).flatMap barT++b=124::(spelled c++(r.flatMap barT++b)):=by rw [List.flatMap_cons];unfold barT;simp
  have b124:byte_ 124 p (124::(spelled c++(r.flatMap barT++b)))=.ok ((),p+1,spelled c++(r.flatMap barT++b)):=rfl
  have ih:=bars_read r (left-c.length) (p+1+(spelled c).length) b (by lia) (fun d hd=>hw d (List.mem_cons_of_mem _ hd)) hb
  show bars_ (r.length+1) left p _=_
  rw [e,bars_,then_ok b124,then_ok (cell_read (by lia) (hw c List.mem_cons_self) (bar_head r b hb)),then_ok ih]
  show Except.ok (c::r,_,b)=Except.ok (c::r,_,b)
  congr 3
  rw [List.flatMap_cons];unfold barT;simp;lia
theorem rowT_read {r:List (List Letters)}{m left p:Nat}{b:Bytes} (hm:1≤m) (hr:r.length=m) (hl:cnt r≤left) (hw:RowOk r):rowT_ m left p (ended (rowB r)++b)=.ok (r,p+(ended (rowB r)).length,b):=by
 match r,hr with
 | [],hr=>simp at hr;lia
 | c::r,hr =>
  rw [cnt_cons] at hl
  have e:ended (rowB (c::r))++b=61::(spelled c++(r.flatMap barT++(10::b))):=by rw [rowB_eq];unfold ended;simp
  have b61:byte_ 61 p (61::(spelled c++(r.flatMap barT++(10::b))))=.ok ((),p+1,spelled c++(r.flatMap barT++(10::b))):=rfl
  have hm1:m-1=r.length:=by rw [List.length_cons] at hr;lia
  have b10:∀ P,byte_ 10 P (10::b)=.ok ((),P+1,b):=fun P=>rfl
  unfold rowT_
  rw [e,then_ok b61,then_ok (cell_read (by lia) (hw c List.mem_cons_self) (bar_head r _ rfl)),hm1,then_ok (bars_read r _ _ _ (by lia) (fun d hd=>hw d (List.mem_cons_of_mem _ hd)) rfl),then_ok (b10 _)]
  show Except.ok (c::r,_,b)=Except.ok (c::r,_,b)
  congr 3
  rw [rowB_eq];unfold ended;simp;lia
theorem rowsT_read (m:Nat) (hm:1≤m):∀ (l:List (List (List Letters))) (k left p:Nat),l.length≤k→cntT l≤left→(∀ r∈l,r.length=m∧RowOk r)→rowsT_ m k left p (l.flatMap fun r=>ended (rowB r))=.ok (l,p+(l.flatMap fun r=>ended (rowB r)).length,[])
 | [],0,_,_,_,_,_=>rfl
 | [],_+1,_,_,_,_,_=>rfl
 | _::_,0,_,_,h,_,_=>by simp at h
 | r::l,k+1,left,p,hk,hc,hl=>by
  obtain ⟨o1,o2⟩:=hl r List.mem_cons_self
  rw [cntT_cons] at hc
  have ih:=rowsT_read m hm l k (left-cnt r) (p+(ended (rowB r)).length) (by simpa using hk) (by lia) fun z hz=>hl z (List.mem_cons_of_mem _ hz)
  have eh:(ended (rowB r)++l.flatMap fun r=>ended (rowB r)).head?=some 61:=rfl
  rw [List.flatMap_cons]
  unfold rowsT_ byNext
  show (if (ended (rowB r)++l.flatMap fun r=>ended (rowB r)).head?=some 61 then andThen (rowT_ m left) fun (r:List (List Letters))=>andThen (rowsT_ m k (left-cnt r)) fun (q:List (List (List Letters)))=>gives (r::q) else gives []) p (ended (rowB r)++l.flatMap fun r=>ended (rowB r))=_
  rw [if_pos eh,then_ok (rowT_read hm o1 (by lia) o2),then_ok ih]
  show Except.ok (r::l,_,[])=Except.ok (r::l,_,[])
  congr 3
  rw [List.length_append];lia
theorem head3_read {w h m:Nat}{b:Bytes}{α:Type} (f:Nat→Nat→Nat→Rd α) (h1:8≤w∧w≤120) (h2:6≤h∧h≤240) (h3:2≤m∧m≤4) :
  ∃ p,(andThen (byte_ 94) fun (_:Unit)=>andThen (num 8 120) fun (w:Nat)=>andThen (then_ 6 240) fun (h:Nat)=>andThen (then_ 2 4) fun (m:Nat)=>andThen (byte_ 10) fun (_:Unit)=>f w h m) 0 (ended (94::numbers [w,h,m])++b)=f w h m p b:=by
 have e:ended (94::numbers [w,h,m])++b=94::(decimal w++(32::(decimal h++(32::(decimal m++(10::b)))))):=by simp [ended,numbers,spaced]
 have b94:byte_ 94 0 (94::(decimal w++(32::(decimal h++(32::(decimal m++(10::b)))))))=.ok ((),1,decimal w++(32::(decimal h++(32::(decimal m++(10::b)))))):=rfl
 have th:∀ {lo hi d p:Nat}{r:Bytes},lo≤d→d≤hi→hi<10 ^ 11→(∀ c,r.head?=some c→isDigit c=false)→then_ lo hi p (32::(decimal d++r))=.ok (d,p+1+(decimal d).length,r):=fun {lo hi d p r} a1 a2 a3 a4=>by
  unfold VhPage.then_
  have b32:byte_ 32 p (32::(decimal d++r))=.ok ((),p+1,decimal d++r):=rfl
  rw [then_ok b32]
  exact num_read a1 a2 a3 a4 _
 have b10:∀ p,byte_ 10 p (10::b)=.ok ((),p+1,b):=fun p=>rfl
 rw [e,then_ok b94,then_ok (num_read h1.1 h1.2 (by decide) (fun c hc=>by cases hc;decide) _),then_ok (th h2.1 h2.2 (by decide) (fun c hc=>by cases hc;decide)),then_ok (th h3.1 h3.2 (by decide) (fun c hc=>by cases hc;decide)),then_ok (b10 _)]
 exact ⟨_,rfl⟩
theorem table_read {x:Table} (h:x.ok=true):parseT x.text=.ok x:=by
 obtain ⟨h1,h2,h3,h4,h5,h6⟩:=table_ok.mp h
 have e:x.text=ended (94::numbers [x.width,x.height,x.cols])++x.rows.flatMap fun r=>ended (rowB r):=rfl
 unfold parseT readAll table_
 obtain ⟨p,hp⟩:=head3_read (b:=x.rows.flatMap fun r=>ended (rowB r)) (fun w h m=>andThen (rowsT_ m 8192 65536) fun (l:List (List (List Letters)))=>end_ (⟨w,h,m,l⟩:Table)) h1 h2 h3
 rw [e,hp,then_ok (rowsT_read x.cols (by lia) x.rows 8192 65536 p h4 h6 h5)]
 rfl
theorem num_free {l:List Nat}{c:UInt8} (hc:c.toNat<48) (h32:c≠32):c ∉ numbers l:=by
 have hd:∀ n,c ∉ decimal n:=fun n=>by
  have:∀ f n,c ∉ digitsIn f n:=fun f=>by
   induction f with
   | zero=>intro n;simp [digitsIn]
   | succ f ih =>
    intro n
    unfold digitsIn
    rw [List.mem_append]
    rintro (z | z)
    ·split at z
     ·simp at z
     ·exact ih _ z
    ·have e:=(digit_is (d:=n % 10) (by lia)).2
     have:c=UInt8.ofNat (48+n % 10):=by simpa using z
     rw [this,e] at hc
     lia
  exact this _ _
 unfold numbers
 refine spaced_free h32 _ fun x hx=>?_
 obtain ⟨n,_,rfl⟩:=List.mem_map.mp hx
 exact hd n
theorem barred_free {c:UInt8} (hc:c≠124):∀ (xs:List Bytes),(∀ x∈xs,c ∉ x)→c ∉ barred xs
 | [],_=>by simp [barred]
 | x::xs,h=>by
  rw [barred_eq,List.mem_append,List.mem_flatMap]
  rintro (z | ⟨y,hy,z⟩)
  ·exact h x List.mem_cons_self z
  ·rcases List.mem_cons.mp z with w | w
   ·exact hc w
   ·exact h y (List.mem_cons_of_mem _ hy) w
theorem spelled_free {c:UInt8}{q:List Letters} (hw:CellOk q) (h32:c≠32) (hc:c.toNat<33∨MARKS.contains c.toNat=true) (h128:c.toNat<128):c ∉ spelled q:=by
 refine spaced_free h32 _ fun x hx=>?_
 obtain ⟨v,hv,rfl⟩:=List.mem_map.mp hx
 exact spelt_free (word_ok (hw v hv)).2.2 hc h128
theorem split_table {x:Table} (h:x.ok=true):partsAt 10 x.text=(94::numbers [x.width,x.height,x.cols])::(x.rows.map rowB++[[]]):=by
 obtain ⟨h1,h2,h3,h4,h5,h6⟩:=table_ok.mp h
 have e:x.text=((94::numbers [x.width,x.height,x.cols])::x.rows.map rowB).flatMap ended:=by
  rw [List.flatMap_cons,List.flatMap_map];rfl
 rw [e,parts_lines _ ?_]
 ·rfl
 ·intro z hz
  rcases List.mem_cons.mp hz with z1 | z1
  ·rw [z1,List.mem_cons]
   rintro (w | w)
   ·exact absurd w (by decide)
   ·exact num_free (by decide) (by decide) w
  ·obtain ⟨r,hr,rfl⟩:=List.mem_map.mp z1
   show (10:UInt8) ∉ 61::barred (r.map spelled)
   rw [List.mem_cons]
   rintro (w | w)
   ·exact absurd w (by decide)
   ·refine barred_free (by decide) _ (fun b hb=>?_) w
    obtain ⟨c,hc,rfl⟩:=List.mem_map.mp hb
    exact spelled_free ((h5 r hr).2 c hc) (by decide) (.inl (by decide)) (by decide)
theorem read_tableText {x:Table} (h:x.ok=true):readTable x.text=some x:=by
 obtain ⟨h1,h2,h3,h4,h5,h6⟩:=table_ok.mp h
 unfold readTable
 simp only []
 rw [split_table h]
 have hh:readAll (andThen tableHead_ end_) (ended (94::numbers [x.width,x.height,x.cols]))=.ok (x.width,x.height,x.cols):=by
  obtain ⟨p,hp⟩:=head3_read (b:=[]) (fun w h m=>gives (w,h,m)) h1 h2 h3
  unfold readAll
  have hp:tableHead_ 0 (ended (94::numbers [x.width,x.height,x.cols])++[])=.ok ((x.width,x.height,x.cols),p,[]):=hp
  rw [List.append_nil] at hp
  rw [then_ok hp]
  rfl
 show (match readAll (andThen tableHead_ end_) (ended (94::numbers [x.width,x.height,x.cols])) with
  | .error _=>none
  | .ok hh=>_)=_
 rw [hh]
 have e:(List.map (fun (y:Bytes)=>(partsAt 124 (y.drop 1)).map cellOf) ((List.drop 1 ((94::numbers [x.width,x.height,x.cols])::(x.rows.map rowB++[[]]))).dropLast))=x.rows:=by
  rw [show List.drop 1 ((94::numbers [x.width,x.height,x.cols])::(x.rows.map rowB++[[]]))=x.rows.map rowB++[[]] from rfl,List.dropLast_concat,List.map_map]
  refine (List.map_congr_left (g:=id) fun r hr=>?_).trans (by simp)
  show (partsAt 124 (barred (r.map spelled))).map cellOf=r
  obtain ⟨hl,hw⟩:=h5 r hr
  rw [parts_barred _ (by intro z;have:=congrArg List.length z;simp at this;rw [this] at hl;simp at hl;lia) (fun b hb=>by
   obtain ⟨c,hc,rfl⟩:=List.mem_map.mp hb
   exact spelled_free (hw c hc) (by decide) (.inr (by decide)) (by decide)),List.map_map]
  exact (List.map_congr_left (g:=id) fun c hc=>cellOf_spelled fun w hw'=>⟨(word_ok (hw c hc w hw')).1,(word_ok (hw c hc w hw')).2.2⟩).trans (by simp)
 show (if (Table.mk x.width x.height x.cols _).ok=true∧(Table.mk x.width x.height x.cols _).text=x.text then some (Table.mk x.width x.height x.cols _) else none)=some x
 rw [e]
 exact if_pos ⟨h,rfl⟩
theorem read_table (b:Bytes):readTable b=match parseT b with
  | .ok x=>some x
  | .error _=>none:=by
 cases e:parseT b with
 | ok x =>
  obtain ⟨h1,h2⟩:=table_back e
  have:=read_tableText h2
  rw [h1] at this
  exact this
 | error i =>
  cases r:readTable b with
  | none=>rfl
  | some x =>
   have hx:x.ok=true∧x.text=b:=by
    unfold readTable at r
    simp only [] at r
    split at r
    ·cases r
    ·split at r
     ·rename_i hc
      cases r
      exact hc
     ·cases r
   have:=table_read hx.1
   rw [hx.2,e] at this
   cases this
end Vp
end
section
namespace Vp
open Vh VhPage
def putL (h:Nat) (s:List (List Bytes)×Nat) (x:Bytes):List (List Bytes)×Nat:=if s.2=0 then ([x]::s.1,h-1) else match s.1 with
 | p::r=>((p++[x])::r,s.2-1)
 | []=>([[x]],s.2-1)
def putR (h:Nat) (s:List (List Bytes)×Nat) (l:List Bytes):List (List Bytes)×Nat:=l.foldl (putL h) (s.1,if s.2<l.length then 0 else s.2)
theorem put_fill (h:Nat):∀ (l:List Bytes) (p:List Bytes) (r:List (List Bytes)) (left:Nat),l.length≤left→l.foldl (putL h) (p::r,left)=((p++l)::r,left-l.length)
 | [],p,r,left,_=>by simp
 | x::l,p,r,left,hl=>by
  rw [List.length_cons] at hl
  rw [List.foldl_cons]
  have e:putL h (p::r,left) x=((p++[x])::r,left-1):=by unfold putL;rw [if_neg (by show ¬ left=0;lia)]
  rw [e,put_fill h l _ r (left-1) (by lia),List.length_cons]
  simp;lia
theorem chunks_one {h:Nat}{l:List Bytes} (h1:1≤l.length) (h2:l.length≤h):chunks h l=[l]:=by
 unfold chunks
 have e:(l.length+h-1) / h=1:=by
  have:l.length+h-1=(l.length-1)+1 * h:=by lia
  rw [this,Nat.add_mul_div_right _ _ (by lia),Nat.div_eq_of_lt (by lia)]
 rw [e]
 simp [List.take_of_length_le h2]
theorem chunks_more {h:Nat}{l:List Bytes} (h0:1≤h) (h1:h<l.length):chunks h l=l.take h::chunks h (l.drop h):=by
 unfold chunks
 have e:(l.length+h-1) / h=((l.drop h).length+h-1) / h+1:=by
  rw [List.length_drop]
  have:l.length+h-1=(l.length-h+h-1)+1 * h:=by lia
  rw [this,Nat.add_mul_div_right _ _ (by lia)]
 rw [e,List.range_succ_eq_map,List.map_cons,List.map_map]
 simp only [Nat.zero_mul,List.drop_zero]
 congr 1
 apply List.map_congr_left
 intro k _
 simp only [Function.comp]
 rw [List.drop_drop,Nat.succ_mul,Nat.add_comm]
theorem chunks_ne {h:Nat}{l:List Bytes} (h0:1≤h) (hl:1≤l.length):chunks h l≠[]:=by
 by_cases z:l.length≤h
 ·rw [chunks_one hl z];simp
 ·rw [chunks_more h0 (by lia)];simp
theorem put_anew {h:Nat} (h0:1≤h):∀ (n:Nat) (l:List Bytes) (P:List (List Bytes)),l.length=n→1≤n→l.foldl (putL h) (P,0)=((chunks h l).reverse++P,h-((chunks h l).getLastD []).length)∧((chunks h l).getLastD []).length≤h∧1≤((chunks h l).getLastD []).length:=by
 intro n
 induction n using Nat.strongRecOn with
 | _ n ih =>
  intro l P hl hn
  match l,hl with
  | [],hl=>simp at hl;lia
  | x::l,hl =>
   rw [List.length_cons] at hl
   have e0:putL h (P,0) x=([x]::P,h-1):=by unfold putL;rw [if_pos rfl]
   by_cases z:n≤h
   ·rw [List.foldl_cons,e0,put_fill h l [x] P (h-1) (by lia),chunks_one (by simp) (by rw [List.length_cons];lia)]
    refine ⟨?_,by simp;lia,by simp⟩
    simp;lia
   ·have e1:x::l=(x::l).take h++(x::l).drop h:=(List.take_append_drop h _).symm
    have e2:((x::l).take h).foldl (putL h) (P,0)=((x::l).take h::P,0):=by
     obtain ⟨h',rfl⟩:∃ h',h=h'+1:=⟨h-1,by lia⟩
     rw [List.take_succ_cons,List.foldl_cons,e0,put_fill _ _ [x] P (h'+1-1) (by rw [List.length_take];lia)]
     have:(l.take h').length=h':=by rw [List.length_take];lia
     rw [this]
     simp
    have e3:=ih ((x::l).drop h).length (by rw [List.length_drop,List.length_cons];lia) ((x::l).drop h) ((x::l).take h::P) rfl (by rw [List.length_drop,List.length_cons];lia)
    have e4:(x::l).foldl (putL h) (P,0)=((x::l).drop h).foldl (putL h) ((x::l).take h::P,0):=by
     conv=>lhs;rw [e1]
     rw [List.foldl_append,e2]
    rw [e4,e3.1,chunks_more (l:=x::l) h0 (by rw [List.length_cons];lia)]
    have ne:=chunks_ne (h:=h) (l:=(x::l).drop h) h0 (by rw [List.length_drop,List.length_cons];lia)
    have e5:((x::l).take h::chunks h ((x::l).drop h)).getLastD []=(chunks h ((x::l).drop h)).getLastD []:=by
     cases e:chunks h ((x::l).drop h) with
     | nil=>exact absurd e ne
     | cons a r=>rfl
    rw [e5]
    refine ⟨by simp,e3.2⟩
theorem lastD_snoc:∀ {l:List (List Bytes)},l≠[]→l=l.dropLast++[l.getLastD []]
 | [],h=>absurd rfl h
 | a::l,h=>(List.dropLast_concat_getLast h).symm
def RelP (h:Nat) (s:List (List Bytes)×List Bytes) (q:List (List Bytes)×Nat):Prop:=q.1=(if s.2.isEmpty=true then s.1 else s.2::s.1)∧q.2=(if s.2.isEmpty=true then 0 else h-s.2.length)∧s.2.length≤h
theorem put_rel {t:Table}{s:List (List Bytes)×List Bytes}{q:List (List Bytes)×Nat}{r:List (List Letters)} (h0:1≤t.height) (hl:1≤(t.rowLines r).length) (R:RelP t.height s q):RelP t.height (t.put s r) (putR t.height q (t.rowLines r)):=by
 obtain ⟨r1,r2,r3⟩:=R
 obtain ⟨q1,q2⟩:=q
 simp only at r1 r2
 subst r1 r2
 have key:∀ P,RelP t.height ((chunks t.height (t.rowLines r)).dropLast.reverse++P,(chunks t.height (t.rowLines r)).getLastD []) ((t.rowLines r).foldl (putL t.height) (P,0)):=fun P=>by
  obtain ⟨e1,e2,e3⟩:=put_anew h0 _ (t.rowLines r) P rfl hl
  have ne:=chunks_ne (h:=t.height) (l:=t.rowLines r) h0 hl
  have hne:((chunks t.height (t.rowLines r)).getLastD []).isEmpty=false:=by
   cases e:(chunks t.height (t.rowLines r)).getLastD [] with
   | nil=>rw [e] at e3;simp at e3
   | cons _ _=>rfl
  rw [e1]
  refine ⟨?_,?_,e2⟩
  ·show _=if ((chunks t.height (t.rowLines r)).getLastD []).isEmpty=true then _ else _
   rw [hne,if_neg (by decide)]
   have e4:chunks t.height (t.rowLines r)=(chunks t.height (t.rowLines r)).dropLast++[(chunks t.height (t.rowLines r)).getLastD []]:=by
    exact lastD_snoc ne
   conv=>lhs;rw [e4]
   simp
  ·show _=if ((chunks t.height (t.rowLines r)).getLastD []).isEmpty=true then _ else _
   rw [hne,if_neg (by decide)]
 unfold Table.put putR
 simp only
 by_cases hs:s.2.isEmpty=true
 ·have hs0:s.2=[]:=by simpa using hs
  rw [if_pos hs,if_pos hs,if_pos (show 0<(t.rowLines r).length by lia)]
  by_cases hf:s.2.length+(t.rowLines r).length≤t.height
  ·rw [if_pos hf]
   have k:=key s.1
   rw [hs0] at hf
   rw [chunks_one hl (by simpa using hf)] at k
   rw [hs0]
   exact k
  ·rw [if_neg hf]
   exact key s.1
 ·have hne:s.2.length≠0:=by intro z;exact hs (by simpa using z)
  rw [if_neg hs,if_neg hs]
  by_cases hf:s.2.length+(t.rowLines r).length≤t.height
  ·rw [if_neg (show ¬ (t.height-s.2.length<(t.rowLines r).length) by lia),if_pos hf,put_fill _ _ _ _ _ (by lia)]
   have:(s.2++t.rowLines r).isEmpty=false:=by
    cases e:s.2 with
    | nil=>rw [e] at hne;simp at hne
    | cons _ _=>rfl
   refine ⟨?_,?_,by simpa using hf⟩
   ·show _=if (s.2++t.rowLines r).isEmpty=true then _ else _
    rw [this,if_neg (by decide)]
   ·show _=if (s.2++t.rowLines r).isEmpty=true then _ else _
    rw [this,if_neg (by decide),List.length_append];lia
  ·rw [if_pos (show t.height-s.2.length<(t.rowLines r).length by lia),if_neg hf]
   exact key _
theorem puts_rel {t:Table} (h0:1≤t.height) (hl:∀ r,1≤(t.rowLines r).length):∀ (rows:List (List (List Letters))) (s:List (List Bytes)×List Bytes) (q:List (List Bytes)×Nat),RelP t.height s q→RelP t.height (rows.foldl t.put s) (rows.foldl (fun q r=>putR t.height q (t.rowLines r)) q)
 | [],_,_,R=>R
 | r::rows,s,q,R=>by
  rw [List.foldl_cons,List.foldl_cons]
  exact puts_rel h0 hl rows _ _ (put_rel h0 (hl r) R)
theorem max_ge (l:List Nat):∀ a,a≤l.foldl max a:=by
 induction l with
 | nil=>intro a;exact Nat.le_refl _
 | cons x l ih=>intro a;rw [List.foldl_cons];exact Nat.le_trans (Nat.le_max_left a x) (ih _)
theorem rowLines_pos (t:Table) (r:List (List Letters)):1≤(t.rowLines r).length:=by
 unfold Table.rowLines
 simp only [List.length_map,List.length_range]
 exact max_ge _ 1
def prB (P:List (List Bytes)):Bytes:=P.zipIdx.flatMap fun (p:List Bytes×Nat)=>ended (61::decimal (p.2+1))++p.1.flatten
theorem prB_snoc (P:List (List Bytes)) (p:List Bytes):prB (P++[p])=prB P++(ended (61::decimal (P.length+1))++p.flatten):=by
 unfold prB
 rw [List.zipIdx_append,List.flatMap_append]
 simp [List.zipIdx]
def putT (t:Table) (q:List (List Bytes)×Nat) (r:List (List Letters)):List (List Bytes)×Nat:=putR t.height q (t.rowLines r)
theorem pages_prog {t:Table} (h0:1≤t.height):t.printed=t.head++prB (t.rows.foldl (putT t) ([],0)).1.reverse:=by
 obtain ⟨h1,_,_⟩:=puts_rel h0 (rowLines_pos t) t.rows ([],[]) ([],0) ⟨rfl,rfl,Nat.zero_le _⟩
 unfold Table.printed prB Table.pages
 simp only
 rw [show (t.rows.foldl (putT t) ([],0)).1=_ from h1]
theorem putL_new {h:Nat}{P:List (List Bytes)}{x:Bytes}:prB (putL h (P,0) x).1.reverse=prB P.reverse++(ended (61::decimal (P.length+1))++x)∧(putL h (P,0) x).1.length=P.length+1∧(putL h (P,0) x).2=h-1:=by
 unfold putL
 rw [if_pos rfl]
 refine ⟨?_,rfl,rfl⟩
 rw [List.reverse_cons,prB_snoc]
 simp
theorem putL_on {h:Nat}{p:List Bytes}{P:List (List Bytes)}{x:Bytes}{left:Nat} (hl:left≠0):prB (putL h (p::P,left) x).1.reverse=prB (p::P).reverse++x∧(putL h (p::P,left) x).1.length=P.length+1∧(putL h (p::P,left) x).2=left-1:=by
 unfold putL
 rw [if_neg hl]
 refine ⟨?_,rfl,rfl⟩
 rw [List.reverse_cons,List.reverse_cons,prB_snoc,prB_snoc]
 simp
end Vp
end
section
namespace Vp
open Vh VhPage
theorem jn_takes:∀ l:List Letters,(jn 32 l).length=takes (l.map fun (x:Letters)=>x.length)
 | []=>rfl
 | [x]=>by simp [jn,takes]
 | x::y::r=>by
  have ih:=jn_takes (y::r)
  show (x++32::jn 32 (y::r)).length=_
  rw [List.length_append,List.length_cons,ih]
  unfold takes
  simp;lia
theorem spelt_jnb:∀ xs:List Letters,spelt (jn 124 xs)=barred (xs.map spelt)
 | []=>rfl
 | [x]=>rfl
 | x::y::r=>by
  have ih:=spelt_jnb (y::r)
  show spelt (x++124::jn 124 (y::r))=spelt x++124::barred ((y::r).map spelt)
  rw [spelt_app,spelt_one (by decide),ih];rfl
def fillP (w:Nat) (l:List Nat):List Nat:=l++List.replicate (w-l.length) 32
def lineC (t:Table) (c:List Letters) (d:Nat):List Nat:=jn 32 ((t.cellLines c).getD d [])
theorem spelt_fill (t:Table) (l:List Letters):spelt (fillP t.width (jn 32 l))=t.cellText l false:=by
 unfold fillP Table.cellText
 rw [spelt_app,spelt_jn,spelt_rep _ (by decide),if_neg (by decide),jn_takes]
 rfl
theorem spelt_last (t:Table) (l:List Letters):spelt (jn 32 l)=t.cellText l true:=by
 unfold Table.cellText
 rw [spelt_jn,if_pos rfl,List.append_nil];rfl
theorem zip_last {α β:Type} (F:α→Bool→β) (c:List α) (z:α):((c++[z]).zipIdx.map fun (x:α×Nat)=>F x.1 (decide (x.2+1=c.length+1)))=c.map (fun x=>F x false)++[F z true]:=by
 rw [List.zipIdx_append,List.map_append]
 congr 1
 ·apply List.ext_getElem?
  intro i
  rw [List.getElem?_map,List.getElem?_map,List.getElem?_zipIdx]
  cases h:c[i]? with
  | none=>rfl
  | some x =>
   have hi:=(List.getElem?_eq_some_iff.mp h).1
   simp only [Option.map_some,Nat.zero_add]
   rw [decide_eq_false (by lia)]
 ·simp [List.zipIdx]
def rowP (t:Table) (c:List (List Letters)) (z:List Letters) (d:Nat):List Nat:=(if d=0 then 62 else 32)::(jn 124 (c.map (fun x=>fillP t.width (lineC t x d))++[lineC t z d])++[10])
def rowH (t:Table) (r:List (List Letters)):Nat:=(r.map fun c=>(t.cellLines c).length).foldl max 1
theorem spelt_row (t:Table) (c:List (List Letters)) (z:List Letters):(List.range (rowH t (c++[z]))).map (fun d=>spelt (rowP t c z d))=t.rowLines (c++[z]):=by
 unfold Table.rowLines rowH
 simp only [List.map_map]
 apply List.map_congr_left
 intro d _
 unfold rowP ended
 rw [spelt_one (by split <;> decide),spelt_app,spelt_jnb]
 have e10:spelt [10]=[10]:=rfl
 have eh:UInt8.ofNat (if d=0 then 62 else 32)=if d=0 then 62 else 32:=by split <;> rfl
 rw [e10,eh,List.cons_append]
 congr 3
 rw [List.length_append,List.length_singleton,List.map_append,List.map_append,List.map_map]
 have:=zip_last (fun (x:List (List Letters)) b=>t.cellText (x.getD d []) b) (c.map t.cellLines) (t.cellLines z)
 rw [List.length_map] at this
 simp only [List.map_cons,List.map_nil]
 rw [this,List.map_map]
 congr 1
 ·apply List.map_congr_left
  intro x _
  exact spelt_fill t _
 ·rw [show spelt (lineC t z d)=_ from spelt_last t _]
theorem cut_sum {br:List Nat}:∀ {l:List Letters},((cut br l).map fun q=>(q.map fun (x:Letters)=>x.length+1).sum).sum≤(l.map fun (x:Letters)=>x.length+1).sum:=by
 induction br with
 | nil=>intro l;simp [cut]
 | cons c br ih =>
  intro l
  rw [cut,List.map_cons,List.sum_cons]
  have:=ih (l:=l.drop c)
  have e:(l.map fun (x:Letters)=>x.length+1).sum=((l.take c).map fun (x:Letters)=>x.length+1).sum+((l.drop c).map fun (x:Letters)=>x.length+1).sum:=by
   rw [← List.sum_append,← List.map_append,List.take_append_drop]
  lia
theorem jn_sum (s:Nat):∀ l:List (List Nat),(jn s l).length≤(l.map fun (x:List Nat)=>x.length+1).sum
 | []=>Nat.le_refl _
 | [x]=>by simp [jn]
 | x::y::r=>by
  have ih:=jn_sum s (y::r)
  show (x++s::jn s (y::r)).length≤_
  rw [List.length_append,List.length_cons,List.map_cons,List.sum_cons]
  lia
def cellN (c:List Letters):Nat:=(c.map fun (x:Letters)=>x.length+1).sum
theorem line_sum (t:Table) (c:List Letters):∀ n:Nat,((List.range n).map fun d=>(lineC t c d).length).sum≤cellN c:=by
 have h1:∀ (q:List (List Letters)) (n:Nat),((List.range n).map fun d=>(jn 32 (q.getD d [])).length).sum≤(q.map fun q=>(q.map fun (x:Letters)=>x.length+1).sum).sum:=fun q=>by
  induction q with
  | nil =>
   intro n
   have:((List.range n).map fun d=>(jn 32 (([]:List (List Letters)).getD d [])).length)=List.replicate n 0:=by
    apply List.eq_replicate_iff.mpr
    refine ⟨by simp,fun b hb=>?_⟩
    obtain ⟨d,_,rfl⟩:=List.mem_map.mp hb
    simp [jn]
   rw [this];simp
  | cons x q ih =>
   intro n
   cases n with
   | zero=>simp
   | succ n =>
    rw [List.range_succ_eq_map,List.map_cons,List.sum_cons,List.map_map,List.map_cons,List.sum_cons]
    have e:((List.range n).map ((fun d=>(jn 32 ((x::q).getD d [])).length) ∘ Nat.succ))=(List.range n).map fun d=>(jn 32 (q.getD d [])).length:=by
     apply List.map_congr_left
     intro d _
     simp
    rw [e]
    have:=ih n
    have:(jn 32 x).length≤(x.map fun (x:Letters)=>x.length+1).sum:=jn_sum 32 x
    simp only [List.getD_cons_zero]
    lia
 intro n
 exact Nat.le_trans (h1 _ n) cut_sum
theorem cell_lines (t:Table) (c:List Letters):(t.cellLines c).length≤c.length:=by
 unfold Table.cellLines
 rw [cutLen]
 exact Nat.le_trans (broken_le _ _ _) (by simp)
theorem fold_max (l:List Nat):∀ a,l.foldl max a≤a+l.sum:=by
 induction l with
 | nil=>intro a;simp
 | cons x l ih=>intro a;rw [List.foldl_cons,List.sum_cons];have:=ih (max a x);lia
theorem rowH_le (t:Table) (r:List (List Letters)):rowH t r≤1+cnt r:=by
 unfold rowH cnt
 refine Nat.le_trans (fold_max _ 1) ?_
 have:∀ r:List (List Letters),(r.map fun c=>(t.cellLines c).length).sum≤(r.map fun (c:List Letters)=>c.length).sum:=fun r=>by
  induction r with
  | nil=>simp
  | cons c r ih=>rw [List.map_cons,List.sum_cons,List.map_cons,List.sum_cons];have:=cell_lines t c;lia
 have:=this r
 lia
theorem sum_range_add (f g:Nat→Nat):∀ l:List Nat,(l.map fun d=>f d+g d).sum=(l.map f).sum+(l.map g).sum
 | []=>rfl
 | d::l=>by rw [List.map_cons,List.sum_cons,sum_range_add f g l,List.map_cons,List.sum_cons,List.map_cons,List.sum_cons];lia
theorem sum_const (k:Nat):∀ l:List Nat,(l.map fun _=>k).sum=l.length * k
 | []=>by simp
 | d::l=>by rw [List.map_cons,List.sum_cons,sum_const k l,List.length_cons,Nat.succ_mul];lia
theorem sum_le {f g:Nat→Nat} (h:∀ d,f d≤g d):∀ l:List Nat,(l.map f).sum≤(l.map g).sum
 | []=>Nat.le_refl _
 | d::l=>by rw [List.map_cons,List.sum_cons,List.map_cons,List.sum_cons];have:=h d;have:=sum_le h l;lia
def rowN (r:List (List Letters)):Nat:=(r.map cellN).sum
theorem row_sum (t:Table) (c:List (List Letters)) (z:List Letters) (n:Nat):((List.range n).map fun d=>(rowP t c z d).length).sum≤n * (3+(c.length+1) * (t.width+1))+rowN (c++[z]):=by
 have h1:∀ d,(rowP t c z d).length≤(3+(c.length+1) * (t.width+1))+((c++[z]).map fun x=>(lineC t x d).length).sum:=fun d=>by
  unfold rowP
  rw [List.length_cons,List.length_append]
  have h2:=jn_sum 124 (c.map (fun x=>fillP t.width (lineC t x d))++[lineC t z d])
  have h3:∀ c:List (List Letters),((c.map (fun x=>fillP t.width (lineC t x d))).map fun (x:List Nat)=>x.length+1).sum≤c.length * (t.width+1)+(c.map fun x=>(lineC t x d).length).sum:=fun c=>by
   induction c with
   | nil=>simp
   | cons x c ih =>
    rw [List.map_cons,List.map_cons,List.sum_cons,List.length_cons,Nat.succ_mul,List.map_cons,List.sum_cons]
    have:(fillP t.width (lineC t x d)).length≤t.width+(lineC t x d).length:=by unfold fillP;rw [List.length_append,List.length_replicate];lia
    lia
  have h4:=h3 c
  rw [List.map_append,List.sum_append] at h2
  rw [List.map_append,List.sum_append,Nat.succ_mul]
  simp only [List.map_cons,List.map_nil,List.sum_cons,List.sum_nil,List.length_cons,List.length_nil] at h2 ⊢
  lia
 refine Nat.le_trans (sum_le h1 _) ?_
 rw [sum_range_add,sum_const,List.length_range]
 refine Nat.add_le_add_left ?_ _
 have h5:∀ r:List (List Letters),((List.range n).map fun d=>(r.map fun x=>(lineC t x d).length).sum).sum≤rowN r:=fun r=>by
  induction r with
  | nil=>simp [sum_const]
  | cons x r ih =>
   have e:((List.range n).map fun d=>((x::r).map fun x=>(lineC t x d).length).sum)=(List.range n).map fun d=>(lineC t x d).length+(r.map fun x=>(lineC t x d).length).sum:=by
    apply List.map_congr_left
    intro d _
    rw [List.map_cons,List.sum_cons]
   rw [e,sum_range_add]
   unfold rowN
   rw [List.map_cons,List.sum_cons]
   have:=line_sum t x n
   unfold rowN at ih
   lia
 exact h5 _
end Vp
end
section
namespace Vp
open Vh VhPage
theorem spelt_ge:∀ l:List Nat,l.length≤(spelt l).length
 | []=>Nat.le_refl _
 | c::l=>by
  have:=spelt_ge l
  show _≤(charOf c++spelt l).length
  have:1≤(charOf c).length:=by unfold charOf;(repeat' split) <;> simp
  rw [List.length_append,List.length_cons];lia
theorem spelled_ge:∀ {q:List Letters},CellOk q→q.length≤(spelled q).length∧cellN q≤(spelled q).length+1
 | [],_=>⟨Nat.le_refl _,Nat.zero_le _⟩
 | [w],h=>by
  obtain ⟨h1,_,_⟩:=word_ok (h w (by simp))
  have h2:=spelt_ge w
  have h3:1≤w.length:=by cases w with | nil=>exact absurd rfl h1 | cons _ _=>simp
  show [w].length≤(spelt w).length∧w.length+1+0≤(spelt w).length+1
  simp;lia
 | w::y::r,h=>by
  obtain ⟨h1,_,_⟩:=word_ok (h w (by simp))
  have h2:=spelt_ge w
  have h3:1≤w.length:=by cases w with | nil=>exact absurd rfl h1 | cons _ _=>simp
  have ih:=spelled_ge (q:=y::r) fun z hz=>h z (List.mem_cons_of_mem _ hz)
  have e:cellN (w::y::r)=w.length+1+cellN (y::r):=by unfold cellN;rw [List.map_cons,List.sum_cons]
  rw [e]
  show (w::y::r).length≤(spelt w++32::spelled (y::r)).length∧_≤(spelt w++32::spelled (y::r)).length+1
  simp only [List.length_append,List.length_cons] at ih ⊢
  lia
theorem row_ge {r:List (List Letters)} (hr:1≤r.length) (hw:RowOk r):1+cnt r≤(ended (rowB r)).length∧rowN r≤(ended (rowB r)).length:=by
 match r,hr with
 | c::r,_ =>
  have h1:∀ r:List (List Letters),RowOk r→cnt r+r.length≤(r.flatMap barT).length∧rowN r≤(r.flatMap barT).length:=fun r=>by
   induction r with
   | nil=>intro _;exact ⟨Nat.le_refl _,Nat.le_refl _⟩
   | cons d r ih =>
    intro hw
    have i1:=ih fun z hz=>hw z (List.mem_cons_of_mem _ hz)
    have i2:=spelled_ge (hw d List.mem_cons_self)
    have e:rowN (d::r)=cellN d+rowN r:=by unfold rowN;rw [List.map_cons,List.sum_cons]
    rw [List.flatMap_cons,List.length_append,cnt_cons,e]
    unfold barT
    rw [List.length_cons,List.length_cons]
    unfold barT at i1
    lia
  have i1:=h1 r fun z hz=>hw z (List.mem_cons_of_mem _ hz)
  have i2:=spelled_ge (hw c List.mem_cons_self)
  have e:rowN (c::r)=cellN c+rowN r:=by unfold rowN;rw [List.map_cons,List.sum_cons]
  rw [rowB_eq,cnt_cons,e]
  unfold ended
  rw [List.length_append,List.length_cons,List.length_append,List.length_singleton]
  lia
theorem cellN_ge:∀ {q:List Letters},CellOk q→2 * q.length≤cellN q
 | [],_=>Nat.zero_le _
 | w::r,h=>by
  obtain ⟨h1,_,_⟩:=word_ok (h w (by simp))
  have h3:1≤w.length:=by cases w with | nil=>exact absurd rfl h1 | cons _ _=>simp
  have ih:=cellN_ge (q:=r) fun z hz=>h z (List.mem_cons_of_mem _ hz)
  have e:cellN (w::r)=w.length+1+cellN r:=by unfold cellN;rw [List.map_cons,List.sum_cons]
  rw [e,List.length_cons];lia
theorem rowN_ge:∀ {r:List (List Letters)},RowOk r→2 * cnt r≤rowN r
 | [],_=>Nat.zero_le _
 | c::r,h=>by
  have h1:=cellN_ge (h c List.mem_cons_self)
  have ih:=rowN_ge (r:=r) fun z hz=>h z (List.mem_cons_of_mem _ hz)
  have e:rowN (c::r)=cellN c+rowN r:=by unfold rowN;rw [List.map_cons,List.sum_cons]
  rw [e,cnt_cons];lia
theorem row_ge2 {r:List (List Letters)} (hr:1≤r.length) (hw:RowOk r):2≤(ended (rowB r)).length∧1+rowN r≤(ended (rowB r)).length:=by
 match r,hr with
 | c::r,_ =>
  have h1:∀ r:List (List Letters),RowOk r→rowN r≤(r.flatMap barT).length:=fun r=>by
   induction r with
   | nil=>intro _;exact Nat.le_refl _
   | cons d r ih =>
    intro hw
    have i1:=ih fun z hz=>hw z (List.mem_cons_of_mem _ hz)
    have i2:=spelled_ge (hw d List.mem_cons_self)
    have e:rowN (d::r)=cellN d+rowN r:=by unfold rowN;rw [List.map_cons,List.sum_cons]
    rw [List.flatMap_cons,List.length_append,e]
    unfold barT
    rw [List.length_cons]
    unfold barT at i1
    lia
  have i1:=h1 r fun z hz=>hw z (List.mem_cons_of_mem _ hz)
  have i2:=spelled_ge (hw c List.mem_cons_self)
  have e:rowN (c::r)=cellN c+rowN r:=by unfold rowN;rw [List.map_cons,List.sum_cons]
  rw [rowB_eq,e]
  unfold ended
  rw [List.length_append,List.length_cons,List.length_append,List.length_singleton]
  lia
theorem fold_max2 (l:List Nat):∀ a,l.foldl max a≤max a l.sum:=by
 induction l with
 | nil=>intro a;simp
 | cons x l ih=>intro a;rw [List.foldl_cons,List.sum_cons];have:=ih (max a x);lia
theorem rowH_le2 (t:Table) (r:List (List Letters)):rowH t r≤max 1 (cnt r):=by
 unfold rowH cnt
 refine Nat.le_trans (fold_max2 _ 1) ?_
 have:∀ r:List (List Letters),(r.map fun c=>(t.cellLines c).length).sum≤(r.map fun (c:List Letters)=>c.length).sum:=fun r=>by
  induction r with
  | nil=>simp
  | cons c r ih=>rw [List.map_cons,List.sum_cons,List.map_cons,List.sum_cons];have:=cell_lines t c;lia
 have:=this r
 lia
def bud (t:Table) (l:List (List (List Letters))):Nat:=(l.map fun r=>rowH t r * 500+rowN r).sum
theorem bud_snoc (t:Table) (l:List (List (List Letters))) (r:List (List Letters)):bud t (l++[r])=bud t l+(rowH t r * 500+rowN r):=by unfold bud;rw [List.map_append,List.sum_append];simp
theorem bud_le (t:Table):∀ l:List (List (List Letters)),(∀ r∈l,r.length=t.cols∧RowOk r)→1≤t.cols→bud t l≤(l.flatMap fun r=>ended (rowB r)).length * 251
 | [],_,_=>Nat.zero_le _
 | r::l,h,hc=>by
  have ih:=bud_le t l (fun z hz=>h z (List.mem_cons_of_mem _ hz)) hc
  obtain ⟨h1,h2⟩:=h r List.mem_cons_self
  obtain ⟨h3,h4⟩:=row_ge2 (by lia) h2
  have h5:=rowH_le2 t r
  have h6:=rowN_ge h2
  unfold bud at *
  rw [List.map_cons,List.sum_cons,List.flatMap_cons,List.length_append,Nat.add_mul]
  lia
theorem bud_take (t:Table) (l:List (List (List Letters))) (i:Nat):bud t (l.take i)≤bud t l:=by
 have h:bud t l=bud t (l.take i)+bud t (l.drop i):=by unfold bud;rw [← List.sum_append,← List.map_append,List.take_append_drop]
 lia
theorem bud_all {t:Table} (ok:t.ok=true) (ht:t.text.length≤16384):t.head.length≤16384∧t.head.length+bud t t.rows≤4112384:=by
 obtain ⟨h1,h2,h3,h4,h5,h6⟩:=table_ok.mp ok
 have h:=bud_le t t.rows h5 (by lia)
 have e:t.text.length=t.head.length+(t.rows.flatMap fun r=>ended (rowB r)).length:=by
  show (t.head++t.rows.flatMap fun r=>ended (rowB r)).length=_
  rw [List.length_append]
 lia
def Chs (l:List Nat):Prop:=∀ c∈l,c<0x110000
theorem Chs.app {x y:List Nat} (h1:Chs x) (h2:Chs y):Chs (x++y):=fun c hc=>(List.mem_append.mp hc).elim (h1 c) (h2 c)
theorem Chs.cons {x:Nat}{y:List Nat} (h1:x<0x110000) (h2:Chs y):Chs (x::y):=fun c hc=>(List.mem_cons.mp hc).elim (fun e=>by rw [e];exact h1) (h2 c)
theorem Chs.nil:Chs []:=fun c hc=>by simp at hc
theorem jn_chs {s:Nat} (hs:s<0x110000):∀ (xs:List (List Nat)),(∀ x∈xs,Chs x)→Chs (jn s xs)
 | [],_=>Chs.nil
 | [x],h=>h x (by simp)
 | x::y::r,h=>(h x (by simp)).app (Chs.cons hs (jn_chs hs (y::r) fun w hw=>h w (List.mem_cons_of_mem _ hw)))
theorem cut_mem {br:List Nat}:∀ {l:List Letters}{q:List Letters},q∈cut br l→∀ w∈q,w∈l:=by
 induction br with
 | nil=>intro l q h;simp [cut] at h
 | cons c br ih =>
  intro l q h w hw
  rw [cut] at h
  rcases List.mem_cons.mp h with z | z
  ·rw [z] at hw;exact List.mem_of_mem_take hw
  ·exact List.mem_of_mem_drop (ih z w hw)
theorem line_chs {t:Table}{c:List Letters} (hc:CellOk c) (d:Nat):Chs (lineC t c d):=by
 unfold lineC
 refine jn_chs (by decide) _ fun w hw x hx=>?_
 rw [List.getD_eq_getElem?_getD] at hw
 cases e:(t.cellLines c)[d]? with
 | none=>rw [e] at hw;simp at hw
 | some q =>
  rw [e] at hw
  have:=cut_mem (List.mem_of_getElem? e) w hw
  exact letter_char ((word_ok (hc w this)).2.2 x hx)
theorem rowP_chs {t:Table}{c:List (List Letters)}{z:List Letters} (h:RowOk (c++[z])) (d:Nat):Chs (rowP t c z d):=by
 unfold rowP
 refine Chs.cons (by split <;> decide) ((jn_chs (by decide) _ fun x hx=>?_).app (Chs.cons (by decide) Chs.nil))
 rcases List.mem_append.mp hx with m | m
 ·obtain ⟨y,hy,rfl⟩:=List.mem_map.mp m
  refine (line_chs (h y (by simp [hy])) d).app fun c hc=>?_
  have:=(List.mem_replicate.mp hc).2
  lia
 ·rw [List.mem_singleton.mp m]
  exact line_chs (h z (by simp)) d
end Vp
end
section
namespace Vp
open Vh VhPage
theorem then_assoc {α β γ:Type} (r:Rd α) (f:α→Rd β) (g:β→Rd γ):andThen (andThen r f) g=andThen r fun x=>andThen (f x) g:=by
 funext p b
 unfold andThen
 cases r p b with
 | error i=>rfl
 | ok x=>rfl
theorem gives_then {α β:Type} (x:α) (f:α→Rd β):andThen (gives x) f=f x:=rfl
theorem hdr3 {α:Type}{lo hi lo2 hi2 lo3 hi3:Nat} (f:List Nat→Rd α):andThen (hdr [(lo,hi),(lo2,hi2),(lo3,hi3)]) f=andThen (byte_ 94) fun (_:Unit)=>andThen (num lo hi) fun (x:Nat)=>andThen (then_ lo2 hi2) fun (y:Nat)=>andThen (then_ lo3 hi3) fun (z:Nat)=>andThen (byte_ 10) fun (_:Unit)=>f [x,y,z]:=by
 unfold hdr
 rw [then_assoc]
 congr 1;funext _
 show andThen (andThen (num lo hi) fun x=>hd [(lo2,hi2),(lo3,hi3)] [x]) f=_
 rw [then_assoc]
 congr 1;funext x
 show andThen (andThen (byte_ 32) fun (_:Unit)=>andThen (num lo2 hi2) fun y=>hd [(lo3,hi3)] [x,y]) f=andThen (andThen (byte_ 32) fun (_:Unit)=>num lo2 hi2) _
 refine (then_assoc _ _ _).trans (Eq.trans ?_ (then_assoc _ _ _).symm)
 congr 1;funext _
 rw [then_assoc]
 congr 1;funext y
 show andThen (andThen (byte_ 32) fun (_:Unit)=>andThen (num lo3 hi3) fun z=>andThen (byte_ 10) fun (_:Unit)=>gives [x,y,z]) f=andThen (andThen (byte_ 32) fun (_:Unit)=>num lo3 hi3) _
 refine (then_assoc _ _ _).trans (Eq.trans ?_ (then_assoc _ _ _).symm)
 congr 1;funext _
 rw [then_assoc]
 congr 1;funext z
 rw [then_assoc]
 congr 1
theorem hdr3_text {lo hi lo2 hi2 lo3 hi3 p p':Nat}{b b':Bytes}{xs:List Nat} (h:hdr [(lo,hi),(lo2,hi2),(lo3,hi3)] p b=.ok (xs,p',b')):∃ x y z,xs=[x,y,z]∧b=ended (94::numbers [x,y,z])++b'∧p'=p+(ended (94::numbers [x,y,z])).length∧(lo≤x∧x≤hi)∧(lo2≤y∧y≤hi2)∧(lo3≤z∧z≤hi3):=by
 have e:hdr [(lo,hi),(lo2,hi2),(lo3,hi3)]=andThen (hdr [(lo,hi),(lo2,hi2),(lo3,hi3)]) gives:=by
  funext p b;unfold andThen;cases hdr [(lo,hi),(lo2,hi2),(lo3,hi3)] p b with | error i=>rfl | ok x=>rfl
 rw [e,hdr3] at h
 obtain ⟨_,b0,e0,_,h1⟩:=Pr.bind (Pr.byte 94) h
 obtain ⟨x,b1,e1,o1,h2⟩:=Pr.bind (Pr.num lo hi) h1
 obtain ⟨y,b2,e2,o2,h3⟩:=Pr.bind (Pr.then_ lo2 hi2) h2
 obtain ⟨z,b4,e4,o3,h5⟩:=Pr.bind (Pr.then_ lo3 hi3) h3
 obtain ⟨_,b3,e3,_,h4⟩:=Pr.bind (Pr.byte 10) h5
 obtain ⟨rfl,rfl,rfl⟩:=ok_inj h4
 refine ⟨x,y,z,rfl,?_,?_,o1,o2,o3⟩
 ·rw [e0,e1,e2,e4,e3];simp [ended,numbers,spaced]
 ·simp [ended,numbers,spaced];lia
theorem table_head (bs:Bytes):(∀ xs p' b',hdr [(8,120),(6,240),(2,4)] 0 bs=.ok (xs,p',b')→∃ w h m,xs=[w,h,m]∧bs.take p'=(⟨w,h,m,[]⟩:Table).head∧(8≤w∧w≤120)∧(6≤h∧h≤240)∧(2≤m∧m≤4)∧table_ 0 bs=(andThen (rowsT_ m 8192 65536) fun (l:List (List (List Letters)))=>end_ (⟨w,h,m,l⟩:Table)) p' b')∧(∀ e,hdr [(8,120),(6,240),(2,4)] 0 bs=.error e→table_ 0 bs=.error e):=by
 have e:table_=andThen (hdr [(8,120),(6,240),(2,4)]) fun xs=>andThen (rowsT_ (xs.getD 2 0) 8192 65536) fun (l:List (List (List Letters)))=>end_ (⟨xs.getD 0 0,xs.getD 1 0,xs.getD 2 0,l⟩:Table):=by rw [hdr3];rfl
 refine ⟨fun xs p' b' h=>?_,fun i h=>by rw [e];exact then_no h⟩
 obtain ⟨x,y,z,rfl,h1,h2,h3,h4,h5⟩:=hdr3_text h
 refine ⟨x,y,z,rfl,?_,h3,h4,h5,by rw [e,then_ok h];rfl⟩
 rw [h1,h2,Nat.zero_add,List.take_left']
 ·rfl
 ·rfl
end Vp
end
section
namespace Vp
open Vh VhPage
def thgs (one:Rd Letters):Nat→Rd (List Letters)
 | 0=>gives []
 | k+1=>andThen one fun (x:Letters)=>if k=0 then gives [x] else byNext fun (c:Option UInt8)=>if c=some 32 then behind (andThen (thgs one k) fun (r:List Letters)=>gives (x::r)) else gives [x]
theorem things_thgs:∀ k,things_ k=thgs (someLetters_ 64) k
 | 0=>rfl
 | k+1=>by unfold things_ thgs;rw [things_thgs k]
def thgTail (one:Rd Letters) (m:Nat):Rd (List Letters):=byNext fun (c:Option UInt8)=>if m≠0∧c=some 32 then behind (thgs one m) else gives []
theorem thgs_ok {one:Rd Letters}{m p p':Nat}{b b':Bytes}{x:Letters} (h:one p b=.ok (x,p',b')):thgs one (m+1) p b=preO [x] (thgTail one m p' b'):=by
 rw [thgs,then_ok h]
 unfold thgTail byNext
 by_cases hm:m=0
 ·rw [if_pos hm]
  dsimp only
  rw [if_neg (show ¬ (m≠0∧b'.head?=some 32) from fun z=>z.1 hm)];rfl
 ·rw [if_neg hm]
  show (if b'.head?=some 32 then behind (andThen (thgs one m) fun (r:List Letters)=>gives (x::r)) else gives [x]) p' b'=preO [x] ((if m≠0∧b'.head?=some 32 then behind (thgs one m) else gives []) p' b')
  by_cases hc:b'.head?=some 32
  ·rw [if_pos hc,if_pos ⟨hm,hc⟩]
   unfold behind andThen
   cases thgs one m (p'+1) (b'.drop 1) with
   | error i=>rfl
   | ok y=>rfl
  ·rw [if_neg hc,if_neg (fun z=>hc z.2)];rfl
theorem thgs_err {one:Rd Letters}{m p i:Nat}{b:Bytes} (h:one p b=.error i):thgs one (m+1) p b=.error i:=by
 rw [thgs,then_no h]
theorem thgTail32 {one:Rd Letters}{m p:Nat}{bs:List UInt8} (h:pk bs p=32) (hm:m≠0):thgTail one m p (bs.drop p)=thgs one m (p+1) (bs.drop (p+1)):=by
 unfold thgTail byNext
 have e:=(pk_eq (c:=32)).mp h
 rw [head_drop,e]
 dsimp only
 rw [if_pos ⟨hm,rfl⟩]
 unfold behind
 rw [List.drop_drop]
theorem thgTail_no {one:Rd Letters}{m p:Nat}{bs:List UInt8} (h:m=0∨pk bs p≠32):thgTail one m p (bs.drop p)=.ok ([],p,bs.drop p):=by
 unfold thgTail byNext
 rw [head_drop]
 dsimp only
 rw [if_neg]
 ·rfl
 ·rintro ⟨h1,h2⟩
  rcases h with h | h
  ·exact h1 h
  ·exact h ((pk_eq (c:=32)).mpr h2)
end Vp
end
section
namespace Vp
open Vh VhPage
theorem end_ok {α:Type}{bs:List UInt8}{p:Nat} (x:α) (h:bs[p]?=none):end_ x p (bs.drop p)=.ok (x,p,bs.drop p):=by
 unfold end_ byNext
 dsimp only
 rw [head_drop,h];rfl
theorem end_no {α:Type}{bs:List UInt8}{p:Nat} (x:α) (h:bs[p]?≠none):end_ x p (bs.drop p)=.error p:=by
 unfold end_ byNext
 dsimp only
 rw [head_drop]
 cases e:bs[p]? with
 | none=>exact absurd e h
 | some c=>rfl
end Vp
end
section
namespace Vp
open Vh VhPage
def tailR (c:List (List Letters)) (j left:Nat):Rd (List (List Letters)):=andThen (bars_ j left) fun (r:List (List Letters))=>andThen (byte_ 10) fun (_:Unit)=>gives (c++r)
theorem tailR_zero (c:List (List Letters)) (left:Nat):tailR c 0 left=andThen (byte_ 10) fun (_:Unit)=>gives c:=by
 unfold tailR
 show andThen (gives []) _=_
 rw [gives_then,List.append_nil]
theorem tailR_step (c:List (List Letters)) (j left:Nat):tailR c (j+1) left=andThen (byte_ 124) fun (_:Unit)=>andThen (cell_ left) fun (d:List Letters)=>tailR (c++[d]) j (left-d.length):=by
 unfold tailR
 rw [bars_,then_assoc]
 congr 1;funext _
 rw [then_assoc]
 congr 1;funext d
 rw [then_assoc]
 congr 1;funext r
 rw [gives_then]
 congr 1;funext _
 simp
theorem rowT_eq (m left:Nat):rowT_ m left=andThen (byte_ 61) fun (_:Unit)=>andThen (cell_ left) fun (d:List Letters)=>tailR [d] (m-1) (left-d.length):=by
 unfold rowT_ tailR;rfl
theorem tailR_bad {bs:List UInt8}{c:List (List Letters)}{j left p:Nat} (h1:pk bs p≠124) (h2:pk bs p≠10):tailR c j left p (bs.drop p)=.error p:=by
 cases j with
 | zero=>rw [tailR_zero];exact then_no (byte_no (c:=10) h2)
 | succ j=>rw [tailR_step];exact then_no (byte_no (c:=124) h1)
theorem cell_none {bs:List UInt8}{left p:Nat} (h:left=0∨pk bs p=124∨pk bs p=10):cell_ left p (bs.drop p)=.ok ([],p,bs.drop p):=by
 unfold cell_ byNext
 dsimp only
 rw [head_drop,if_pos (h.imp id (Or.imp (pk_eq (c:=124)).mp (pk_eq (c:=10)).mp))]
 rfl
theorem cell_some {bs:List UInt8}{left p:Nat} (h:left≠0∧pk bs p≠124∧pk bs p≠10):cell_ left p (bs.drop p)=thgs (someChars_ [] 64) left p (bs.drop p):=by
 unfold cell_ byNext
 dsimp only
 rw [head_drop,if_neg,things_thgs,someLetters_chars]
 rintro (z | z | z)
 ·exact h.1 z
 ·exact h.2.1 ((pk_eq (c:=124)).mpr z)
 ·exact h.2.2 ((pk_eq (c:=10)).mpr z)
theorem rowsT_go {bs:List UInt8}{m k left p p':Nat}{r:List (List Letters)} (h:pk bs p=61) (hr:rowT_ m left p (bs.drop p)=.ok (r,p',bs.drop p')):rowsT_ m (k+1) left p (bs.drop p)=preO [r] (rowsT_ m k (left-cnt r) p' (bs.drop p')):=by
 have e:=(pk_eq (c:=61)).mp h
 conv=>lhs;unfold rowsT_ byNext
 dsimp only
 rw [head_drop,e,if_pos rfl,then_ok hr]
 unfold andThen
 cases rowsT_ m k (left-cnt r) p' (bs.drop p') with
 | error i=>rfl
 | ok y=>rfl
theorem rowsT_no {bs:List UInt8}{m k left p i:Nat} (h:pk bs p=61) (hr:rowT_ m left p (bs.drop p)=.error i):rowsT_ m (k+1) left p (bs.drop p)=.error i:=by
 have e:=(pk_eq (c:=61)).mp h
 conv=>lhs;unfold rowsT_ byNext
 dsimp only
 rw [head_drop,e,if_pos rfl,then_no hr]
theorem rowsT_stop {bs:List UInt8}{m k left p:Nat} (h:k=0∨pk bs p≠61):rowsT_ m k left p (bs.drop p)=.ok ([],p,bs.drop p):=by
 cases k with
 | zero=>rfl
 | succ k =>
  have h:pk bs p≠61:=h.resolve_left (by simp)
  conv=>lhs;unfold rowsT_ byNext
  dsimp only
  rw [head_drop,if_neg fun z=>h ((pk_eq (c:=61)).mpr z)]
  rfl
theorem table_done {bs:List UInt8}{w h m p1 p':Nat}{l:List (List (List Letters))} (h0:table_ 0 bs=(andThen (rowsT_ m 8192 65536) fun (l:List (List (List Letters)))=>end_ (⟨w,h,m,l⟩:Table)) p1 (bs.drop p1)) (hl:rowsT_ m 8192 65536 p1 (bs.drop p1)=.ok (l,p',bs.drop p')) :
  (bs[p']?=none→parseT bs=.ok ⟨w,h,m,l⟩)∧(bs[p']?≠none→parseT bs=.error p'):=by
 rw [then_ok hl] at h0
 unfold parseT readAll
 rw [h0]
 exact ⟨fun z=>by rw [end_ok _ z],fun z=>by rw [end_no _ z]⟩
theorem table_fail {bs:List UInt8}{w h m p1 i:Nat} (h0:table_ 0 bs=(andThen (rowsT_ m 8192 65536) fun (l:List (List (List Letters)))=>end_ (⟨w,h,m,l⟩:Table)) p1 (bs.drop p1)) (hl:rowsT_ m 8192 65536 p1 (bs.drop p1)=.error i):parseT bs=.error i:=by
 rw [then_no hl] at h0
 unfold parseT readAll
 rw [h0]
end Vp
end
section
namespace Vp
open Vh VhPage
theorem prB_len:∀ P:List (List Bytes),P.length≤(prB P.reverse).length
 | []=>Nat.zero_le _
 | p::P=>by
  have ih:=prB_len P
  rw [List.reverse_cons,prB_snoc,List.length_append,List.length_append,List.length_cons]
  unfold ended
  rw [List.length_append,List.length_cons]
  simp;lia
structure PSt (x:Table) (s:List (List Bytes)×Nat) (A:List Nat) (B:Nat):Prop where
 sp:spelt A=x.head++prB s.1.reverse
 ch:Chs A
 ln:A.length≤B
 ne:s.2≠0→s.1≠[]
theorem PSt.pages {x:Table}{s:List (List Bytes)×Nat}{A:List Nat}{B:Nat} (h:PSt x s A B) (hB:B≤4200000):s.1.length≤16800000:=by
 have h1:=prB_len s.1
 have h2:(spelt A).length≤4 * A.length:=by
  clear h
  induction A with
  | nil=>exact Nat.le_refl _
  | cons c A ih =>
   show (charOf c++spelt A).length≤_
   have:(charOf c).length≤4:=by unfold charOf;(repeat' split) <;> simp
   rw [List.length_append,List.length_cons];lia
 rw [h.sp,List.length_append] at h2
 have:=h.ln
 lia
def headL (n:Nat):List Nat:=61::(num10 n++[10])
theorem headL_len {n:Nat} (h:n<100000000):(headL n).length≤10:=by
 have:=num_len (n:=n) (k:=8) (by decide) (by simpa using h)
 unfold headL
 simp;lia
theorem PSt.new {x:Table}{P:List (List Bytes)}{A:List Nat}{B:Nat} (h:PSt x (P,0) A B) {l:List Nat} (hl:Chs l) (hn:P.length<99999999):PSt x (putL x.height (P,0) (spelt l)) (A++headL (P.length+1)++l) (B+10+l.length):=by
 obtain ⟨e1,e2,e3⟩:=putL_new (h:=x.height) (P:=P) (x:=spelt l)
 refine ⟨?_,?_,?_,fun _ z=>?_⟩
 ·rw [e1,spelt_app,spelt_app,h.sp]
  unfold headL
  rw [spelt_one (by decide),spelt_app,spelt_num]
  have e10:spelt [10]=[10]:=rfl
  rw [e10]
  unfold ended
  simp
 ·refine (h.ch.app ?_).app hl
  unfold headL
  exact Chs.cons (by decide) (Chs.app (num_char _) (Chs.cons (by decide) Chs.nil))
 ·have:=headL_len (n:=P.length+1) (by lia)
  have:=h.ln
  rw [List.length_append,List.length_append];lia
 ·rw [z] at e2;simp at e2
theorem PSt.on {x:Table}{p:List Bytes}{P:List (List Bytes)}{left:Nat}{A:List Nat}{B:Nat} (h:PSt x (p::P,left) A B) (hleft:left≠0) {l:List Nat} (hl:Chs l):PSt x (putL x.height (p::P,left) (spelt l)) (A++l) (B+10+l.length):=by
 obtain ⟨e1,e2,e3⟩:=putL_on (h:=x.height) (p:=p) (P:=P) (x:=spelt l) hleft
 refine ⟨?_,h.ch.app hl,?_,fun _ z=>?_⟩
 ·rw [e1,spelt_app,h.sp];simp
 ·have:=h.ln
  rw [List.length_append];lia
 ·rw [z] at e2;simp at e2
theorem rowLines_len (t:Table) (c:List (List Letters)) (z:List Letters):(t.rowLines (c++[z])).length=rowH t (c++[z]):=by
 rw [← spelt_row];simp
end Vp
end
section
namespace Vp
open Vh VhPage
def wS:Nat→Rd (List Letters)
 | 0=>stray
 | k+1=>byNext fun (c:Option UInt8)=>if c=some 124∨c=some 10 then gives [] else if c=some 32 then behind (wS k) else andThen (someLetters_ 64) fun (x:Letters)=>andThen (wS k) fun (r:List Letters)=>gives (x::r)
def barsS (f:Nat):Nat→Rd (List (List Letters))
 | 0=>gives []
 | k+1=>andThen (byte_ 124) fun (_:Unit)=>andThen (wS f) fun (c:List Letters)=>andThen (barsS f k) fun (r:List (List Letters))=>gives (c::r)
def lineS (f m:Nat):Rd (List (List Letters)):=andThen (wS f) fun (c:List Letters)=>andThen (barsS f (m-1)) fun (r:List (List Letters))=>andThen (byte_ 10) fun (_:Unit)=>gives (c::r)
theorem wS_blanks:∀ (n f p:Nat) (b:Bytes),n<f→(b.head?=some 124∨b.head?=some 10)→wS f p (List.replicate n 32++b)=.ok ([],p+n,b)
 | _,0,_,_,h,_=>by lia
 | 0,f+1,p,b,_,hb=>by
  show (if b.head?=some 124∨b.head?=some 10 then gives [] else if b.head?=some 32 then behind (wS f) else andThen (someLetters_ 64) fun (x:Letters)=>andThen (wS f) fun (r:List Letters)=>gives (x::r)) p b=_
  rw [if_pos hb];rfl
 | n+1,f+1,p,b,h,hb=>by
  have ih:=wS_blanks n f (p+1) b (by lia) hb
  rw [List.replicate_succ,List.cons_append]
  show (if some (32:UInt8)=some 124∨some (32:UInt8)=some 10 then gives [] else if some (32:UInt8)=some 32 then behind (wS f) else andThen (someLetters_ 64) fun (x:Letters)=>andThen (wS f) fun (r:List Letters)=>gives (x::r)) p (32::(List.replicate n 32++b))=_
  rw [if_neg (by decide),if_pos rfl]
  show wS f (p+1) (List.replicate n 32++b)=_
  rw [ih,Nat.add_assoc,Nat.add_comm 1 n]
theorem wS_read:∀ (q:List Letters) (n f p:Nat) (b:Bytes),2 * q.length+n<f→CellOk q→(b.head?=some 124∨b.head?=some 10)→wS f p (spelled q++(List.replicate n 32++b))=.ok (q,p+(spelled q).length+n,b)
 | [],n,f,p,b,h,_,hb=>by
  have:=wS_blanks n f p b (by simpa using h) hb
  exact this
 | _::_,n,0,_,_,h,_,_=>by lia
 | w::r,n,f+1,p,b,h,hw,hb=>by
  have hwok:=hw w List.mem_cons_self
  have hrest:∀ (t:Bytes),t=(if r=[] then List.replicate n 32++b else 32::(spelled r++(List.replicate n 32++b)))→wS f (p+(spelt w).length) t=.ok (r,p+(spelled (w::r)).length+n,b):=fun t ht=>by
   by_cases hr:r=[]
   ·rw [if_pos hr] at ht
    subst hr
    rw [ht]
    exact wS_blanks n f _ b (by simp at h;lia) hb
   ·rw [if_neg hr] at ht
    have hf:1≤f:=by rw [List.length_cons] at h;lia
    obtain ⟨f',rfl⟩:∃ f',f=f'+1:=⟨f-1,by lia⟩
    have ih:=wS_read r n f' (p+(spelt w).length+1) b (by rw [List.length_cons] at h;lia) (fun z hz=>hw z (List.mem_cons_of_mem _ hz)) hb
    rw [ht]
    show (if some (32:UInt8)=some 124∨some (32:UInt8)=some 10 then gives [] else if some (32:UInt8)=some 32 then behind (wS f') else andThen (someLetters_ 64) fun (x:Letters)=>andThen (wS f') fun (r:List Letters)=>gives (x::r)) _ (32::(spelled r++(List.replicate n 32++b)))=_
    rw [if_neg (by decide),if_pos rfl]
    show wS f' (p+(spelt w).length+1) (spelled r++(List.replicate n 32++b))=_
    rw [ih]
    have e:(spelled (w::r)).length=(spelt w).length+1+(spelled r).length:=by
     cases r with
     | nil=>exact absurd rfl hr
     | cons y r=>show (spelt w++32::spelled (y::r)).length=_;rw [List.length_append,List.length_cons];lia
    rw [e]
    congr 3
    lia
  have es:∃ t,spelled (w::r)++(List.replicate n 32++b)=spelt w++t∧t=(if r=[] then List.replicate n 32++b else 32::(spelled r++(List.replicate n 32++b))):=by
   cases r with
   | nil=>exact ⟨_,rfl,by rw [if_pos rfl]⟩
   | cons y r=>exact ⟨32::(spelled (y::r)++(List.replicate n 32++b)),by show (spelt w++32::spelled (y::r))++_=_;simp,by rw [if_neg (by simp)]⟩
  obtain ⟨t,e1,e2⟩:=es
  have hs:StopAt [] t:=fun c hc=>by
   by_cases hr:r=[]
   ·rw [if_pos hr] at e2
    rw [e2] at hc
    cases n with
    | zero =>
     have hc:b.head?=some c:=hc
     rcases hb with z | z
     ·rw [z] at hc;cases hc;decide
     ·rw [z] at hc;cases hc;decide
    | succ n=>cases hc;decide
   ·rw [if_neg hr] at e2
    rw [e2] at hc
    cases hc;decide
  obtain ⟨c0,h1,h2,h3⟩:=spelled_head (q:=w::r) (by simp) hw (List.replicate n 32++b)
  have hc0:c0≠124∧c0≠10∧c0≠32:=by
   refine ⟨fun z=>?_,fun z=>?_,fun z=>?_⟩
   ·rw [z] at h3;exact absurd h3 (by decide)
   ·rw [z] at h2;exact absurd h2 (by decide)
   ·rw [z] at h2;exact absurd h2 (by decide)
  show (if (spelled (w::r)++(List.replicate n 32++b)).head?=some 124∨(spelled (w::r)++(List.replicate n 32++b)).head?=some 10 then gives [] else if (spelled (w::r)++(List.replicate n 32++b)).head?=some 32 then behind (wS f) else andThen (someLetters_ 64) fun (x:Letters)=>andThen (wS f) fun (r:List Letters)=>gives (x::r)) p (spelled (w::r)++(List.replicate n 32++b))=_
  rw [h1,if_neg (by simp [hc0.1,hc0.2.1]),if_neg (by simp [hc0.2.2]),e1,then_ok (word_read hwok hs),then_ok (hrest t e2)]
  rfl
end Vp
end
section
namespace Vp
open Vh VhPage
def cT (y:List Letters×Nat):Bytes:=spelled y.1++List.replicate y.2 32
theorem barsS_read (f:Nat):∀ (ys:List (List Letters×Nat)) (p:Nat) (b:Bytes),(∀ y∈ys,2 * y.1.length+y.2<f∧CellOk y.1)→b.head?=some 10→barsS f ys.length p ((ys.flatMap fun y=>124::cT y)++b)=.ok (ys.map (·.1),p+(ys.flatMap fun y=>124::cT y).length,b)
 | [],p,b,_,_=>rfl
 | y::ys,p,b,h,hb=>by
  obtain ⟨h1,h2⟩:=h y List.mem_cons_self
  have e:((y::ys).flatMap fun y=>124::cT y)++b=124::(spelled y.1++(List.replicate y.2 32++((ys.flatMap fun y=>124::cT y)++b))):=by rw [List.flatMap_cons];unfold cT;simp
  have b124:byte_ 124 p (124::(spelled y.1++(List.replicate y.2 32++((ys.flatMap fun y=>124::cT y)++b))))=.ok ((),p+1,spelled y.1++(List.replicate y.2 32++((ys.flatMap fun y=>124::cT y)++b))):=rfl
  have hb2:((ys.flatMap fun y=>124::cT y)++b).head?=some 124∨((ys.flatMap fun y=>124::cT y)++b).head?=some 10:=by
   cases ys with
   | nil=>exact .inr hb
   | cons z ys=>exact .inl rfl
  have ih:=barsS_read f ys (p+1+(spelled y.1).length+y.2) b (fun z hz=>h z (List.mem_cons_of_mem _ hz)) hb
  show barsS f (ys.length+1) p _=_
  rw [e,barsS,then_ok b124,then_ok (wS_read y.1 y.2 f (p+1) _ h1 h2 hb2),then_ok ih]
  show Except.ok (y.1::ys.map (·.1),_,b)=Except.ok (y.1::ys.map (·.1),_,b)
  congr 3
  rw [List.flatMap_cons];unfold cT;simp;lia
theorem lineS_read {f m p:Nat}{ys:List (List Letters×Nat)}{b:Bytes} (hm:1≤m) (hl:ys.length=m) (h:∀ y∈ys,2 * y.1.length+y.2<f∧CellOk y.1):lineS f m p (barred (ys.map cT)++(10::b))=.ok (ys.map (·.1),p+(barred (ys.map cT)).length+1,b):=by
 match ys,hl with
 | [],hl=>simp at hl;lia
 | y::ys,hl =>
  obtain ⟨h1,h2⟩:=h y List.mem_cons_self
  have e:barred ((y::ys).map cT)++(10::b)=spelled y.1++(List.replicate y.2 32++((ys.flatMap fun y=>124::cT y)++(10::b))):=by
   rw [List.map_cons,barred_eq,List.flatMap_map];unfold cT;simp
  have el:(barred ((y::ys).map cT)).length=(spelled y.1).length+y.2+(ys.flatMap fun y=>124::cT y).length:=by
   rw [List.map_cons,barred_eq,List.flatMap_map,List.length_append]
   show (spelled y.1++List.replicate y.2 32).length+_=_
   rw [List.length_append,List.length_replicate]
  have hb2:((ys.flatMap fun y=>124::cT y)++(10::b)).head?=some 124∨((ys.flatMap fun y=>124::cT y)++(10::b)).head?=some 10:=by
   cases ys with
   | nil=>exact .inr rfl
   | cons z ys=>exact .inl rfl
  have hm1:m-1=ys.length:=by rw [List.length_cons] at hl;lia
  have b10:∀ P,byte_ 10 P (10::b)=.ok ((),P+1,b):=fun P=>rfl
  unfold lineS
  rw [e,then_ok (wS_read y.1 y.2 f p _ h1 h2 hb2),hm1,then_ok (barsS_read f ys _ _ (fun z hz=>h z (List.mem_cons_of_mem _ hz)) rfl),then_ok (b10 _)]
  show Except.ok (y.1::ys.map (·.1),_,b)=Except.ok (y.1::ys.map (·.1),_,b)
  congr 3
  rw [el];lia
def seg (h:Nat):Nat→Nat→List Bytes→Bytes
 | _,_,[]=>[]
 | n,0,x::l=>ended (61::decimal (n+1))++x++seg h (n+1) (h-1) l
 | n,k+1,x::l=>x++seg h n k l
theorem seg_put (h:Nat):∀ (l:List Bytes) (P:List (List Bytes)) (left:Nat),(left≠0→P≠[])→prB (l.foldl (putL h) (P,left)).1.reverse=prB P.reverse++seg h P.length left l
 | [],P,left,_=>by
  show prB P.reverse=prB P.reverse++[]
  rw [List.append_nil]
 | x::l,P,0,_=>by
  rw [List.foldl_cons]
  have e:putL h (P,0) x=([x]::P,h-1):=by unfold putL;rw [if_pos rfl]
  have e1:=(putL_new (h:=h) (P:=P) (x:=x)).1
  rw [e] at e1 ⊢
  rw [seg_put h l ([x]::P) (h-1) (fun _=>by simp),e1]
  show _=prB P.reverse++(ended (61::decimal (P.length+1))++x++seg h (P.length+1) (h-1) l)
  simp
 | x::l,[],k+1,hp=>absurd rfl (hp (by simp))
 | x::l,p::P,k+1,_=>by
  rw [List.foldl_cons]
  have e:putL h (p::P,k+1) x=((p++[x])::P,k):=by unfold putL;rw [if_neg (by simp)];rfl
  have e1:=(putL_on (h:=h) (p:=p) (P:=P) (x:=x) (left:=k+1) (by simp)).1
  rw [e] at e1 ⊢
  rw [seg_put h l ((p++[x])::P) k (fun _=>by simp),e1]
  show _=prB (p::P).reverse++(x++seg h (P.length+1) k l)
  simp
end Vp
end
section
namespace Vp
open Vh VhPage
def addL (rows:List (List (List Letters))) (cells:List (List Letters)):List (List (List Letters)):=rows.dropLast++[List.zipWith (fun (y z:List Letters)=>y++z) (rows.getLastD []) cells]
def colsS (f m:Nat):Nat→Nat→List (List (List Letters))→Rd (List (List (List Letters)))
 | 0,_,_=>stray
 | k+1,n,rows=>byNext fun (c:Option UInt8)=>if c=none then gives rows else if c=some 61 then andThen (byte_ 61) fun (_:Unit)=>andThen (num (n+1) (n+1)) fun (_:Nat)=>andThen (byte_ 10) fun (_:Unit)=>colsS f m k (n+1) rows
   else if c=some 62 then behind (andThen (lineS f m) fun (cells:List (List Letters))=>colsS f m k n (rows++[cells]))
   else andThen (byte_ 32) fun (_:Unit)=>if rows=[] then stray else andThen (lineS f m) fun (cells:List (List Letters))=>colsS f m k n (addL rows cells)
abbrev Itm:=Bool×List (List Letters×Nat)
def itT (i:Itm):Bytes:=ended ((if i.1=true then 62 else 32)::barred (i.2.map cT))
def itR (rows:List (List (List Letters))) (i:Itm):List (List (List Letters)):=if i.1=true then rows++[i.2.map (·.1)] else addL rows (i.2.map (·.1))
def segN (h:Nat):Nat→Nat→List Itm→Nat×Nat
 | n,left,[]=>(n,left)
 | n,0,_::l=>segN h (n+1) (h-1) l
 | n,k+1,_::l=>segN h n k l
theorem cols_head {f m k n:Nat}{rows:List (List (List Letters))}{p:Nat}{b:Bytes} (hn:n+1<10 ^ 11):∃ p',colsS f m (k+1) n rows p (ended (61::decimal (n+1))++b)=colsS f m k (n+1) rows p' b:=by
 have e:ended (61::decimal (n+1))++b=61::(decimal (n+1)++(10::b)):=by unfold ended;simp
 have b61:byte_ 61 p (61::(decimal (n+1)++(10::b)))=.ok ((),p+1,decimal (n+1)++(10::b)):=rfl
 have b10:∀ P,byte_ 10 P (10::b)=.ok ((),P+1,b):=fun P=>rfl
 rw [e]
 conv=>enter [1,p',1];unfold colsS byNext
 dsimp only
 refine ⟨p+1+(decimal (n+1)).length+1,?_⟩
 rw [List.head?_cons,if_neg (by simp),if_pos rfl,then_ok b61,then_ok (num_read (Nat.le_refl _) (Nat.le_refl _) hn (fun c hc=>by cases hc;decide) _),then_ok (b10 _)]
theorem cols_line {f m k n:Nat}{rows:List (List (List Letters))}{p:Nat}{b:Bytes}{i:Itm} (hm:1≤m) (hl:i.2.length=m) (h:∀ y∈i.2,2 * y.1.length+y.2<f∧CellOk y.1) (hr:i.1=true∨rows≠[]):∃ p',colsS f m (k+1) n rows p (itT i++b)=colsS f m k n (itR rows i) p' b:=by
 obtain ⟨fl,ys⟩:=i
 cases fl with
 | true =>
  have e:itT (true,ys)++b=62::(barred (ys.map cT)++(10::b)):=by unfold itT ended;simp
  rw [e]
  conv=>enter [1,p',1];unfold colsS byNext
  dsimp only
  refine ⟨p+1+(barred (ys.map cT)).length+1,?_⟩
  rw [List.head?_cons,if_neg (by simp),if_neg (by decide),if_pos rfl]
  unfold behind
  show andThen _ _ (p+1) (barred (ys.map cT)++(10::b))=_
  rw [then_ok (lineS_read hm hl h)]
  rfl
 | false =>
  have hr:rows≠[]:=hr.resolve_left (by simp)
  have e:itT (false,ys)++b=32::(barred (ys.map cT)++(10::b)):=by unfold itT ended;simp
  have b32:byte_ 32 p (32::(barred (ys.map cT)++(10::b)))=.ok ((),p+1,barred (ys.map cT)++(10::b)):=rfl
  rw [e]
  conv=>enter [1,p',1];unfold colsS byNext
  dsimp only
  refine ⟨p+1+(barred (ys.map cT)).length+1,?_⟩
  rw [List.head?_cons,if_neg (by simp),if_neg (by decide),if_neg (by decide),then_ok b32,if_neg hr,then_ok (lineS_read hm hl h)]
  rfl
theorem itR_ne (rows:List (List (List Letters))) (i:Itm):itR rows i≠[]:=by unfold itR addL;split <;> simp
theorem cols_seg {f m:Nat} (h:Nat) (hm:1≤m):∀ (l:List Itm) (n left k p:Nat) (rows:List (List (List Letters))) (b:Bytes),(∀ i∈l,i.2.length=m∧∀ y∈i.2,2 * y.1.length+y.2<f∧CellOk y.1)→(∀ i,l.head?=some i→i.1=true∨rows≠[])→n+l.length<10 ^ 11 →
  ∃ p',∃ k',k≤k'∧colsS f m (k+2 * l.length) n rows p (seg h n left (l.map itT)++b)=colsS f m k' (segN h n left l).1 (l.foldl itR rows) p' b
 | [],n,left,k,p,rows,b,_,_,_=>⟨p,k,Nat.le_refl _,rfl⟩
 | i::l,n,0,k,p,rows,b,hv,hf,hn=>by
  rw [List.length_cons] at hn
  obtain ⟨v1,v2⟩:=hv i List.mem_cons_self
  obtain ⟨p1,e1⟩:=cols_head (f:=f) (m:=m) (k:=k+2 * l.length+1) (n:=n) (rows:=rows) (p:=p) (b:=itT i++(seg h (n+1) (h-1) (l.map itT)++b)) (by lia)
  obtain ⟨p2,e2⟩:=cols_line (f:=f) (k:=k+2 * l.length) (n:=n+1) (rows:=rows) (p:=p1) (b:=seg h (n+1) (h-1) (l.map itT)++b) hm v1 v2 (hf i rfl)
  obtain ⟨p3,k3,hk3,e3⟩:=cols_seg h hm l (n+1) (h-1) k p2 (itR rows i) b (fun j hj=>hv j (List.mem_cons_of_mem _ hj)) (fun _ _=>.inr (itR_ne rows i)) (by lia)
  refine ⟨p3,k3,hk3,?_⟩
  rw [List.length_cons,show k+2 * (l.length+1)=k+2 * l.length+1+1 by lia]
  show colsS f m _ n rows p (ended (61::decimal (n+1))++itT i++seg h (n+1) (h-1) (l.map itT)++b)=_
  rw [List.append_assoc,List.append_assoc,e1,e2,e3]
  rfl
 | i::l,n,left+1,k,p,rows,b,hv,hf,hn=>by
  rw [List.length_cons] at hn
  obtain ⟨v1,v2⟩:=hv i List.mem_cons_self
  obtain ⟨p2,e2⟩:=cols_line (f:=f) (k:=k+1+2 * l.length) (n:=n) (rows:=rows) (p:=p) (b:=seg h n left (l.map itT)++b) hm v1 v2 (hf i rfl)
  obtain ⟨p3,k3,hk3,e3⟩:=cols_seg h hm l n left (k+1) p2 (itR rows i) b (fun j hj=>hv j (List.mem_cons_of_mem _ hj)) (fun _ _=>.inr (itR_ne rows i)) (by lia)
  refine ⟨p3,k3,by lia,?_⟩
  rw [List.length_cons,show k+2 * (l.length+1)=k+1+2 * l.length+1 by lia]
  show colsS f m _ n rows p (itT i++seg h n left (l.map itT)++b)=_
  rw [List.append_assoc,e2,e3]
  rfl
end Vp
end
section
namespace Vp
open Vh VhPage
def ysd (t:Table) (r:List (List Letters)) (d:Nat):List (List Letters×Nat):=r.zipIdx.map fun (x:List Letters×Nat)=>((t.cellLines x.1).getD d [],if x.2+1=r.length then 0 else t.width-takes (((t.cellLines x.1).getD d []).map fun (y:Letters)=>y.length))
def itemsR (t:Table) (r:List (List Letters)):List Itm:=(List.range (rowH t r)).map fun d=>(decide (d=0),ysd t r d)
theorem items_text (t:Table) (r:List (List Letters)):(itemsR t r).map itT=t.rowLines r:=by
 unfold itemsR Table.rowLines rowH
 simp only [List.map_map]
 apply List.map_congr_left
 intro d _
 show itT (decide (d=0),ysd t r d)=_
 unfold itT
 have e1:(if (decide (d=0),ysd t r d).1=true then (62:UInt8) else 32)=if d=0 then 62 else 32:=by simp
 rw [e1]
 congr 3
 unfold ysd
 rw [List.map_map,List.zipIdx_map,List.map_map]
 apply List.map_congr_left
 intro x _
 show cT _=t.cellText ((t.cellLines x.1).getD d []) (decide (x.2+1=r.length))
 unfold cT Table.cellText blanks
 by_cases hx:x.2+1=r.length
 ·simp [hx]
 ·simp [hx]
theorem ysd_fst (t:Table) (r:List (List Letters)) (d:Nat):(ysd t r d).map (·.1)=r.map fun c=>(t.cellLines c).getD d []:=by
 unfold ysd
 rw [List.map_map]
 have:(List.map ((fun x=>x.1) ∘ fun (x:List Letters×Nat)=>((t.cellLines x.1).getD d [],if x.2+1=r.length then 0 else t.width-takes (((t.cellLines x.1).getD d []).map fun (y:Letters)=>y.length))) r.zipIdx)=(r.zipIdx.map (·.1)).map fun c=>(t.cellLines c).getD d []:=by
  rw [List.map_map];rfl
 rw [this,List.zipIdx_map_fst]
theorem cut_flat:∀ (br:List Nat) (l:List Letters),br.sum=l.length→(cut br l).flatten=l
 | [],l,h=>by
  have:l=[]:=List.length_eq_zero_iff.mp (by simpa using h.symm)
  rw [this];rfl
 | c::br,l,h=>by
  rw [List.sum_cons] at h
  rw [cut,List.flatten_cons,cut_flat br (l.drop c) (by rw [List.length_drop];lia),List.take_append_drop]
theorem cell_flat (t:Table) (c:List Letters):(t.cellLines c).flatten=c:=by
 unfold Table.cellLines
 by_cases h:c=[]
 ·subst h;rfl
 ·refine cut_flat _ _ ?_
  rw [broken_sum _ _ _ (by rw [List.length_map];exact List.length_pos_iff.mpr h),List.length_map]
def accR (t:Table) (r:List (List Letters)) (d:Nat):List (List Letters):=r.map fun c=>((t.cellLines c).take d).flatten
theorem take_getD {α:Type} (l:List (List α)) (d:Nat):(l.take (d+1)).flatten=(l.take d).flatten++l.getD d []:=by
 rw [List.getD_eq_getElem?_getD]
 cases e:l[d]? with
 | none =>
  have hl:=List.getElem?_eq_none_iff.mp e
  rw [List.take_of_length_le (by lia),List.take_of_length_le hl];simp
 | some x =>
  obtain ⟨hi,he⟩:=List.getElem?_eq_some_iff.mp e
  rw [List.take_succ,e,List.flatten_append];simp
theorem zip_acc (t:Table) (d:Nat):∀ r:List (List Letters),List.zipWith (fun (y z:List Letters)=>y++z) (accR t r d) (r.map fun c=>(t.cellLines c).getD d [])=accR t r (d+1)
 | []=>rfl
 | c::r=>by
  have ih:=zip_acc t d r
  unfold accR at *
  rw [List.map_cons,List.map_cons,List.map_cons,List.zipWith_cons_cons,ih,take_getD]
theorem add_acc (t:Table) (R:List (List (List Letters))) (r:List (List Letters)) (d:Nat):addL (R++[accR t r d]) (r.map fun c=>(t.cellLines c).getD d [])=R++[accR t r (d+1)]:=by
 unfold addL
 have e1:(R++[accR t r d]).getLastD []=accR t r d:=by simp
 rw [List.dropLast_concat,e1,zip_acc]
theorem fold_row (t:Table) (R:List (List (List Letters))) (r:List (List Letters)):∀ h,1≤h→((List.range h).map fun d=>((decide (d=0),ysd t r d):Itm)).foldl itR R=R++[accR t r h]
 | 0,hh=>by lia
 | 1,_=>by
  show itR R (decide ((0:Nat)=0),ysd t r 0)=_
  unfold itR
  rw [if_pos (by simp)]
  have:accR t r 1=r.map fun c=>(t.cellLines c).getD 0 []:=by
   unfold accR
   apply List.map_congr_left
   intro c _
   rw [take_getD];simp
  rw [this]
  show R++[(ysd t r 0).map (·.1)]=_
  rw [ysd_fst]
 | h+2,_=>by
  have ih:=fold_row t R r (h+1) (by lia)
  rw [List.range_succ,List.map_append,List.foldl_append,ih]
  show itR _ (decide (h+1=0),ysd t r (h+1))=_
  unfold itR
  rw [if_neg (by simp)]
  show addL _ ((ysd t r (h+1)).map (·.1))=_
  rw [ysd_fst,add_acc]
theorem max_all (l:List Nat):∀ a,∀ y∈l,y≤l.foldl max a:=by
 induction l with
 | nil=>intro a y hy;simp at hy
 | cons x l ih =>
  intro a y hy
  rw [List.foldl_cons]
  rcases List.mem_cons.mp hy with e | e
  ·rw [e];exact Nat.le_trans (Nat.le_max_right a x) (max_ge l _)
  ·exact ih _ y e
theorem items_row (t:Table) (R:List (List (List Letters))) (r:List (List Letters)):(itemsR t r).foldl itR R=R++[r]:=by
 unfold itemsR
 rw [fold_row t R r (rowH t r) (by unfold rowH;exact max_ge _ 1)]
 congr 2
 unfold accR
 refine (List.map_congr_left (g:=id) fun c hc=>?_).trans (by simp)
 have:(t.cellLines c).length≤rowH t r:=by unfold rowH;exact max_all _ _ _ (List.mem_map.mpr ⟨c,hc,rfl⟩)
 rw [List.take_of_length_le this]
 exact cell_flat t c
end Vp
end
section
namespace Vp
open Vh VhPage
theorem segN_put (h:Nat):∀ (l:List Itm) (P:List (List Bytes)) (left:Nat),(left≠0→P≠[])→((l.map itT).foldl (putL h) (P,left)).1.length=(segN h P.length left l).1∧((l.map itT).foldl (putL h) (P,left)).2=(segN h P.length left l).2∧(((l.map itT).foldl (putL h) (P,left)).2≠0→((l.map itT).foldl (putL h) (P,left)).1≠[])
 | [],P,left,hp=>⟨rfl,rfl,hp⟩
 | i::l,P,0,_=>by
  rw [List.map_cons,List.foldl_cons]
  have e:putL h (P,0) (itT i)=([itT i]::P,h-1):=by unfold putL;rw [if_pos rfl]
  rw [e]
  exact segN_put h l ([itT i]::P) (h-1) fun _=>by simp
 | i::l,[],k+1,hp=>absurd rfl (hp (by simp))
 | i::l,p::P,k+1,_=>by
  rw [List.map_cons,List.foldl_cons]
  have e:putL h (p::P,k+1) (itT i)=((p++[itT i])::P,k):=by unfold putL;rw [if_neg (by simp)];rfl
  rw [e]
  exact segN_put h l ((p++[itT i])::P) k fun _=>by simp
def l0 (left len:Nat):Nat:=if left<len then 0 else left
def segR (t:Table):Nat→Nat→List (List (List Letters))→Bytes
 | _,_,[]=>[]
 | n,left,r::rows=>seg t.height n (l0 left (t.rowLines r).length) (t.rowLines r)++segR t (segN t.height n (l0 left (t.rowLines r).length) (itemsR t r)).1 (segN t.height n (l0 left (t.rowLines r).length) (itemsR t r)).2 rows
theorem segR_put (t:Table):∀ (rows:List (List (List Letters))) (P:List (List Bytes)) (left:Nat),(left≠0→P≠[])→prB (rows.foldl (putT t) (P,left)).1.reverse=prB P.reverse++segR t P.length left rows
 | [],P,left,_=>by
  show prB P.reverse=prB P.reverse++[]
  rw [List.append_nil]
 | r::rows,P,left,hp=>by
  have hp0:l0 left (t.rowLines r).length≠0→P≠[]:=fun h=>hp (by unfold l0 at h;split at h <;> lia)
  rw [List.foldl_cons]
  have e:putT t (P,left) r=((itemsR t r).map itT).foldl (putL t.height) (P,l0 left (t.rowLines r).length):=by rw [items_text];rfl
  obtain ⟨s1,s2,s3⟩:=segN_put t.height (itemsR t r) P (l0 left (t.rowLines r).length) hp0
  have e1:=seg_put t.height ((itemsR t r).map itT) P (l0 left (t.rowLines r).length) hp0
  rw [e]
  generalize hS:((itemsR t r).map itT).foldl (putL t.height) (P,l0 left (t.rowLines r).length)=s at s1 s2 s3 e1 ⊢
  obtain ⟨Q,left'⟩:=s
  rw [segR_put t rows Q left' s3,segR]
  have e2:seg t.height P.length (l0 left (t.rowLines r).length) (t.rowLines r)=seg t.height P.length (l0 left (t.rowLines r).length) ((itemsR t r).map itT):=by rw [items_text]
  rw [e2]
  have s1:Q.length=_:=s1
  have s2:left'=_:=s2
  have e1:prB Q.reverse=_:=e1
  rw [e1,← s1,← s2,List.append_assoc]
theorem segN_le (h:Nat):∀ (l:List Itm) (n left:Nat),(segN h n left l).1≤n+l.length
 | [],n,left=>Nat.le_refl _
 | i::l,n,0=>by have:=segN_le h l (n+1) (h-1);rw [List.length_cons];show (segN h (n+1) (h-1) l).1≤_;lia
 | i::l,n,k+1=>by have:=segN_le h l n k;rw [List.length_cons];show (segN h n k l).1≤_;lia
def linesN (t:Table) (rows:List (List (List Letters))):Nat:=(rows.map (rowH t)).sum
theorem items_len (t:Table) (r:List (List Letters)):(itemsR t r).length=rowH t r:=by unfold itemsR;simp
theorem items_head (t:Table) (r:List (List Letters)):∀ i,(itemsR t r).head?=some i→i.1=true:=by
 intro i hi
 unfold itemsR at hi
 have h1:1≤rowH t r:=by unfold rowH;exact max_ge _ 1
 obtain ⟨k,hk⟩:∃ k,rowH t r=k+1:=⟨rowH t r-1,by lia⟩
 rw [hk,List.range_succ_eq_map,List.map_cons,List.head?_cons] at hi
 cases hi
 rfl
theorem cell_line_ok {t:Table}{c:List Letters} (hc:CellOk c) (d:Nat):CellOk ((t.cellLines c).getD d [])∧((t.cellLines c).getD d []).length≤c.length:=by
 rw [List.getD_eq_getElem?_getD]
 cases e:(t.cellLines c)[d]? with
 | none=>exact ⟨fun w hw=>by simp at hw,by simp⟩
 | some q =>
  refine ⟨fun w hw=>hc w (cut_mem (List.mem_of_getElem? e) w hw),?_⟩
  have h1:=cell_flat t c
  have h2:q.length≤(t.cellLines c).flatten.length:=by
   rw [List.length_flatten]
   have:∀ l:List (List Letters),q∈l→q.length≤(l.map List.length).sum:=fun l=>by
    induction l with
    | nil=>intro h;simp at h
    | cons x l ih =>
     intro h
     rw [List.map_cons,List.sum_cons]
     rcases List.mem_cons.mp h with z | z
     ·rw [z];lia
     ·have:=ih z;lia
   exact this _ (List.mem_of_getElem? e)
  rw [h1] at h2
  exact h2
theorem ysd_ok {t:Table}{r:List (List Letters)}{f:Nat} (hr:RowOk r) (hf:∀ c∈r,2 * c.length+t.width<f) (d:Nat):(ysd t r d).length=r.length∧∀ y∈ysd t r d,2 * y.1.length+y.2<f∧CellOk y.1:=by
 refine ⟨by unfold ysd;simp,fun y hy=>?_⟩
 unfold ysd at hy
 obtain ⟨x,hx,rfl⟩:=List.mem_map.mp hy
 have hm:x.1∈r:=List.fst_mem_of_mem_zipIdx hx
 obtain ⟨o1,o2⟩:=cell_line_ok (t:=t) (hr x.1 hm) d
 have:=hf x.1 hm
 refine ⟨?_,o1⟩
 show 2 * ((t.cellLines x.1).getD d []).length+(if x.2+1=r.length then 0 else _)<f
 split <;> lia
theorem cols_rows {f:Nat} (t:Table) (hm:1≤t.cols):∀ (rows:List (List (List Letters))) (n left k p:Nat) (R:List (List (List Letters))) (b:Bytes),(∀ r∈rows,r.length=t.cols∧RowOk r∧∀ c∈r,2 * c.length+t.width<f)→n+linesN t rows<10 ^ 11 →
  ∃ p',∃ k',∃ n',k≤k'∧colsS f t.cols (k+2 * linesN t rows) n R p (segR t n left rows++b)=colsS f t.cols k' n' (R++rows) p' b
 | [],n,left,k,p,R,b,_,_=>⟨p,k,n,Nat.le_refl _,by rw [List.append_nil];rfl⟩
 | r::rows,n,left,k,p,R,b,hv,hn=>by
  have eN:linesN t (r::rows)=rowH t r+linesN t rows:=by unfold linesN;rw [List.map_cons,List.sum_cons]
  rw [eN] at hn ⊢
  obtain ⟨v1,v2,v3⟩:=hv r List.mem_cons_self
  obtain ⟨p1,k1,hk1,e1⟩:=cols_seg (f:=f) (m:=t.cols) t.height hm (itemsR t r) n (l0 left (t.rowLines r).length) (k+2 * linesN t rows) p R (segR t (segN t.height n (l0 left (t.rowLines r).length) (itemsR t r)).1 (segN t.height n (l0 left (t.rowLines r).length) (itemsR t r)).2 rows++b) (fun i hi=>by
   unfold itemsR at hi
   obtain ⟨d,_,rfl⟩:=List.mem_map.mp hi
   have:=ysd_ok v2 v3 d
   exact ⟨by rw [this.1,v1],this.2⟩) (fun i hi=>.inl (items_head t r i hi)) (by rw [items_len];lia)
  obtain ⟨k2,hk2⟩:∃ k2,k1=k2+2 * linesN t rows:=⟨k1-2 * linesN t rows,by lia⟩
  have hle:=segN_le t.height (itemsR t r) n (l0 left (t.rowLines r).length)
  rw [items_len] at hle
  obtain ⟨p3,k3,n3,hk3,e3⟩:=cols_rows t hm rows _ (segN t.height n (l0 left (t.rowLines r).length) (itemsR t r)).2 k2 p1 (R++[r]) b (fun q hq=>hv q (List.mem_cons_of_mem _ hq)) (show (segN t.height n (l0 left (t.rowLines r).length) (itemsR t r)).1+_<_ by lia)
  refine ⟨p3,k3,n3,by lia,?_⟩
  rw [items_len,items_text,items_row,hk2] at e1
  rw [segR,List.append_assoc,show k+2 * (rowH t r+linesN t rows)=k+2 * linesN t rows+2 * rowH t r by lia,e1,e3]
  simp
theorem cols_back {f:Nat}{t:Table} (ok:t.ok=true) (hf:∀ r∈t.rows,∀ c∈r,2 * c.length+t.width<f) {k p:Nat} (hk:1+2 * linesN t t.rows≤k) (hn:linesN t t.rows<10 ^ 11):∃ p',colsS f t.cols k 0 [] p (segR t 0 0 t.rows)=.ok (t.rows,p',[]):=by
 obtain ⟨h1,h2,h3,h4,h5,h6⟩:=table_ok.mp ok
 obtain ⟨k0,hk0⟩:∃ k0,k=k0+2 * linesN t t.rows:=⟨k-2 * linesN t t.rows,by lia⟩
 obtain ⟨p1,k1,n1,hk1,e1⟩:=cols_rows (f:=f) t (by lia) t.rows 0 0 k0 p [] [] (fun r hr=>⟨(h5 r hr).1,(h5 r hr).2,hf r hr⟩) (by lia)
 rw [List.append_nil,List.nil_append] at e1
 obtain ⟨k2,hk2⟩:∃ k2,k1=k2+1:=⟨k1-1,by lia⟩
 refine ⟨p1,?_⟩
 rw [hk0,e1,hk2]
 rfl
theorem printed_seg {t:Table} (ok:t.ok=true):t.printed=t.head++segR t 0 0 t.rows:=by
 obtain ⟨h1,h2,h3,h4,h5,h6⟩:=table_ok.mp ok
 rw [pages_prog (t:=t) (by lia),segR_put t t.rows [] 0 (fun z=>absurd rfl z)]
 rfl
end Vp
end
section
namespace Vp
open Vh VhPage
def itB (i:Itm):Bytes:=(if i.1=true then 62 else 32)::barred (i.2.map cT)
theorem itT_eq (i:Itm):itT i=ended (itB i):=rfl
def segL (h:Nat):Nat→Nat→List Itm→List Bytes
 | _,_,[]=>[]
 | n,0,i::l=>(61::decimal (n+1))::itB i::segL h (n+1) (h-1) l
 | n,k+1,i::l=>itB i::segL h n k l
theorem segL_text (h:Nat):∀ (l:List Itm) (n left:Nat),seg h n left (l.map itT)=(segL h n left l).flatMap ended
 | [],_,_=>by cases ‹Nat› <;> rfl
 | i::l,n,0=>by
  rw [List.map_cons,seg,segL_text h l,segL,List.flatMap_cons,List.flatMap_cons];simp [itT_eq]
 | i::l,n,k+1=>by
  rw [List.map_cons,seg,segL_text h l,segL,List.flatMap_cons];simp [itT_eq]
def segLR (t:Table):Nat→Nat→List (List (List Letters))→List Bytes
 | _,_,[]=>[]
 | n,left,r::rows=>segL t.height n (l0 left (t.rowLines r).length) (itemsR t r)++segLR t (segN t.height n (l0 left (t.rowLines r).length) (itemsR t r)).1 (segN t.height n (l0 left (t.rowLines r).length) (itemsR t r)).2 rows
theorem segLR_text (t:Table):∀ (rows:List (List (List Letters))) (n left:Nat),segR t n left rows=(segLR t n left rows).flatMap ended
 | [],_,_=>rfl
 | r::rows,n,left=>by
  rw [segR,segLR,List.flatMap_append,← segL_text,items_text,segLR_text t rows]
theorem segL_lines (h:Nat):∀ (l:List Itm) (n left:Nat),(segL h n left l).filter (fun (x:Bytes)=>x.head? != some 61)=l.map itB
 | [],_,_=>rfl
 | i::l,n,0=>by
  have hi:((itB i).head? != some 61)=true:=by unfold itB;cases i.1 <;> rfl
  rw [segL,List.filter_cons_of_neg (by simp),List.filter_cons_of_pos (p:=fun (x:Bytes)=>x.head? != some 61) hi,segL_lines h l,List.map_cons]
 | i::l,n,k+1=>by
  have hi:((itB i).head? != some 61)=true:=by unfold itB;cases i.1 <;> rfl
  rw [segL,List.filter_cons_of_pos (p:=fun (x:Bytes)=>x.head? != some 61) hi,segL_lines h l,List.map_cons]
def itemsT (t:Table) (rows:List (List (List Letters))):List Itm:=rows.flatMap (itemsR t)
theorem segLR_lines (t:Table):∀ (rows:List (List (List Letters))) (n left:Nat),(segLR t n left rows).filter (fun (x:Bytes)=>x.head? != some 61)=(itemsT t rows).map itB
 | [],_,_=>rfl
 | r::rows,n,left=>by
  rw [segLR,List.filter_append,segL_lines,segLR_lines t rows]
  unfold itemsT
  rw [List.flatMap_cons,List.map_append]
theorem items_all (t:Table):∀ (rows R:List (List (List Letters))),(itemsT t rows).foldl itR R=R++rows
 | [],R=>by rw [List.append_nil];rfl
 | r::rows,R=>by
  unfold itemsT
  rw [List.flatMap_cons,List.foldl_append,items_row]
  have:=items_all t rows (R++[r])
  unfold itemsT at this
  rw [this];simp
theorem bare_rep (x:Bytes) (n:Nat):bare (x++List.replicate n 32)=bare x:=by
 unfold bare
 rw [List.reverse_append,List.reverse_replicate]
 congr 1
 induction n with
 | zero=>rfl
 | succ n ih=>rw [List.replicate_succ,List.cons_append,List.dropWhile_cons_of_pos (by rfl)];exact ih
theorem bare_end {x:Bytes}{c:UInt8} (h:x.getLast?=some c) (hc:c≠32):bare x=x:=by
 unfold bare
 cases e:x.reverse with
 | nil =>
  have:x=[]:=by simpa using e
  rw [this];rfl
 | cons y r =>
  have:y=c:=by
   rw [← List.head?_reverse,e] at h
   simpa using h
  rw [List.dropWhile_cons_of_neg (by simp [this,hc]),← e,List.reverse_reverse]
theorem spelled_last:∀ {q:List Letters},q≠[]→CellOk q→∃ c,(spelled q).getLast?=some c∧c≠32
 | [],h,_=>absurd rfl h
 | [w],_,hw=>by
  obtain ⟨h1,_,h3⟩:=word_ok (hw w (by simp))
  have hne:spelt w≠[]:=by
   cases w with
   | nil=>exact absurd rfl h1
   | cons n l =>
    obtain ⟨c,t,e,_,_⟩:=first_byte (h3 n (by simp))
    show charOf n++spelt l≠[]
    rw [e];simp
  refine ⟨(spelt w).getLast hne,List.getLast?_eq_some_getLast hne,fun z=>?_⟩
  have hm:(32:UInt8)∈spelt w:=z ▸ List.getLast_mem hne
  exact spelt_free h3 (.inl (by decide)) (by decide) hm
 | w::y::r,_,hw=>by
  obtain ⟨c,h1,h2⟩:=spelled_last (q:=y::r) (by simp) fun z hz=>hw z (List.mem_cons_of_mem _ hz)
  refine ⟨c,?_,h2⟩
  show (spelt w++32::spelled (y::r)).getLast?=some c
  rw [List.getLast?_append,List.getLast?_cons,h1]
  rfl
theorem cell_back {y:List Letters×Nat} (h:CellOk y.1):cellOf (bare (cT y))=y.1:=by
 unfold cT
 rw [bare_rep]
 by_cases hq:y.1=[]
 ·rw [hq];rfl
 ·obtain ⟨c,h1,h2⟩:=spelled_last hq h
  rw [bare_end h1 h2]
  exact cellOf_spelled fun w hw=>⟨(word_ok (h w hw)).1,(word_ok (h w hw)).2.2⟩
theorem cT_free {y:List Letters×Nat} (h:CellOk y.1) {c:UInt8} (h32:c≠32) (hc:c.toNat<33∨MARKS.contains c.toNat=true) (h128:c.toNat<128):c ∉ cT y:=by
 unfold cT
 rw [List.mem_append]
 rintro (z | z)
 ·exact spelled_free h h32 hc h128 z
 ·exact h32 (List.mem_replicate.mp z).2
theorem line_back {i:Itm} (hl:i.2≠[]) (h:∀ y∈i.2,CellOk y.1):((partsAt 124 ((itB i).drop 1)).map fun (x:Bytes)=>cellOf (bare x))=i.2.map (·.1):=by
 show ((partsAt 124 (barred (i.2.map cT))).map fun (x:Bytes)=>cellOf (bare x))=_
 rw [parts_barred _ (by simpa using hl) (fun b hb=>by
  obtain ⟨y,hy,rfl⟩:=List.mem_map.mp hb
  exact cT_free (h y hy) (by decide) (.inr (by decide)) (by decide)),List.map_map]
 exact List.map_congr_left fun y hy=>cell_back (h y hy)
theorem rows_back:∀ (l:List Itm) (R:List (List (List Letters))),(∀ i∈l,i.2≠[]∧∀ y∈i.2,CellOk y.1)→(∀ i,l.head?=some i→i.1=true∨R≠[])→rowsBack (l.map itB) R.reverse=(l.foldl itR R).reverse
 | [],R,_,_=>rfl
 | i::l,R,hv,hf=>by
  obtain ⟨v1,v2⟩:=hv i List.mem_cons_self
  have ih:=rows_back l (itR R i) (fun j hj=>hv j (List.mem_cons_of_mem _ hj)) (fun _ _=>.inr (itR_ne R i))
  have step:∀ (b:Bytes) (l:List Bytes) (r:List (List (List Letters))),rowsBack (b::l) r=rowsBack l (if b.head?=some 62 then ((partsAt 124 (b.drop 1)).map fun (x:Bytes)=>cellOf (bare x))::r else match r with
    | []=>[((partsAt 124 (b.drop 1)).map fun (x:Bytes)=>cellOf (bare x))]
    | x::q=>List.zipWith (fun (y z:List Letters)=>y++z) x ((partsAt 124 (b.drop 1)).map fun (x:Bytes)=>cellOf (bare x))::q):=fun b l r=>by
   rw [rowsBack.eq_def]
   cases r <;> rfl
  rw [List.map_cons,step,List.foldl_cons,← ih]
  congr 1
  rw [line_back v1 v2]
  obtain ⟨fl,ys⟩:=i
  cases fl with
  | true =>
   have e:(itB (true,ys)).head?=some 62:=rfl
   rw [if_pos e]
   unfold itR
   rw [if_pos rfl]
   simp
  | false =>
   have e:¬ (itB (false,ys)).head?=some 62:=by unfold itB;simp
   rw [if_neg e]
   have hr:R≠[]:=(hf _ rfl).resolve_left (by simp)
   have eR:R=R.dropLast++[R.getLastD []]:=by
    cases R with
    | nil=>exact absurd rfl hr
    | cons a l=>exact (List.dropLast_concat_getLast hr).symm
   unfold itR addL
   rw [if_neg (by simp)]
   conv=>lhs;rw [eR,List.reverse_append]
   simp
end Vp
end
section
namespace Vp
open Vh VhPage
theorem segL_free (h:Nat):∀ (l:List Itm) (n left:Nat),(∀ i∈l,∀ y∈i.2,CellOk y.1)→∀ b∈segL h n left l,(10:UInt8) ∉ b
 | [],_,_,_,b,hb=>by cases ‹Nat› <;> simp [segL] at hb
 | i::l,n,left,hv,b,hb=>by
  have hi:(10:UInt8) ∉ itB i:=by
   unfold itB
   rw [List.mem_cons]
   rintro (z | z)
   ·revert z;cases i.1 <;> decide
   ·refine barred_free (by decide) _ (fun x hx=>?_) z
    obtain ⟨y,hy,rfl⟩:=List.mem_map.mp hx
    exact cT_free (hv i List.mem_cons_self y hy) (by decide) (.inl (by decide)) (by decide)
  have hn:(10:UInt8) ∉ (61::decimal (n+1):Bytes):=by
   rw [List.mem_cons]
   rintro (z | z)
   ·exact absurd z (by decide)
   ·exact num_free (l:=[n+1]) (c:=10) (by decide) (by decide) z
  cases left with
  | zero =>
   rw [segL] at hb
   rcases List.mem_cons.mp hb with z | z
   ·rw [z];exact hn
   ·rcases List.mem_cons.mp z with z | z
    ·rw [z];exact hi
    ·exact segL_free h l _ _ (fun j hj=>hv j (List.mem_cons_of_mem _ hj)) b z
  | succ k =>
   rw [segL] at hb
   rcases List.mem_cons.mp hb with z | z
   ·rw [z];exact hi
   ·exact segL_free h l _ _ (fun j hj=>hv j (List.mem_cons_of_mem _ hj)) b z
theorem items_ok {t:Table}{r:List (List Letters)} (hr:RowOk r):∀ i∈itemsR t r,i.2.length=r.length∧∀ y∈i.2,CellOk y.1:=fun i hi=>by
 unfold itemsR at hi
 obtain ⟨d,hd',rfl⟩:=List.mem_map.mp hi
 have hb:∃ f,∀ c∈r,2 * c.length+t.width<f:=by
  clear hi hr hd'
  induction r with
  | nil=>exact ⟨0,fun c hc=>by simp at hc⟩
  | cons c r ih =>
   obtain ⟨f,hf⟩:=ih
   refine ⟨max f (2 * c.length+t.width+1),fun x hx=>?_⟩
   rcases List.mem_cons.mp hx with z | z
   ·rw [z];lia
   ·have:=hf x z;lia
 obtain ⟨f,hf⟩:=hb
 have:=ysd_ok (f:=f) hr hf d
 exact ⟨this.1,fun y hy=>(this.2 y hy).2⟩
theorem segLR_free (t:Table):∀ (rows:List (List (List Letters))) (n left:Nat),(∀ r∈rows,RowOk r)→∀ b∈segLR t n left rows,(10:UInt8) ∉ b
 | [],_,_,_,b,hb=>by simp [segLR] at hb
 | r::rows,n,left,hv,b,hb=>by
  rw [segLR] at hb
  rcases List.mem_append.mp hb with z | z
  ·exact segL_free _ _ _ _ (fun i hi=>(items_ok (hv r List.mem_cons_self) i hi).2) b z
  ·exact segLR_free t rows _ _ (fun q hq=>hv q (List.mem_cons_of_mem _ hq)) b z
theorem itemsT_ok {t:Table}{rows:List (List (List Letters))} (hm:1≤t.cols) (hv:∀ r∈rows,r.length=t.cols∧RowOk r):∀ i∈itemsT t rows,i.2≠[]∧∀ y∈i.2,CellOk y.1:=fun i hi=>by
 unfold itemsT at hi
 obtain ⟨r,hr,hi⟩:=List.mem_flatMap.mp hi
 obtain ⟨v1,v2⟩:=hv r hr
 obtain ⟨o1,o2⟩:=items_ok v2 i hi
 exact ⟨fun z=>by rw [z] at o1;simp at o1;lia,o2⟩
theorem itemsT_head (t:Table):∀ (rows:List (List (List Letters))) i,(itemsT t rows).head?=some i→i.1=true
 | [],i,h=>by simp [itemsT] at h
 | r::rows,i,h=>by
  unfold itemsT at h
  rw [List.flatMap_cons,List.head?_append] at h
  cases e:(itemsR t r).head? with
  | none =>
   have:itemsR t r=[]:=by simpa using e
   have h1:=items_len t r
   have h2:1≤rowH t r:=by unfold rowH;exact max_ge _ 1
   rw [this] at h1;simp at h1;lia
  | some j=>rw [e] at h;cases h;exact items_head t r _ e
theorem uncol_printed {t:Table} (ok:t.ok=true) (hm:t.text.length≤MOST):uncolumned t.printed=some t:=by
 obtain ⟨h1,h2,h3,h4,h5,h6⟩:=table_ok.mp ok
 have e:t.printed=((94::numbers [t.width,t.height,t.cols])::segLR t 0 0 t.rows).flatMap ended:=by
  rw [printed_seg ok,segLR_text,List.flatMap_cons];rfl
 have hp:partsAt 10 t.printed=(94::numbers [t.width,t.height,t.cols])::(segLR t 0 0 t.rows++[[]]):=by
  rw [e,parts_lines _ ?_]
  ·rfl
  ·intro z hz
   rcases List.mem_cons.mp hz with z1 | z1
   ·rw [z1,List.mem_cons]
    rintro (w | w)
    ·exact absurd w (by decide)
    ·exact num_free (by decide) (by decide) w
   ·exact segLR_free t t.rows 0 0 (fun r hr=>(h5 r hr).2) z z1
 unfold uncolumned
 simp only []
 rw [hp]
 have hh:readAll (andThen tableHead_ end_) (ended (94::numbers [t.width,t.height,t.cols]))=.ok (t.width,t.height,t.cols):=by
  obtain ⟨p,hp⟩:=head3_read (b:=[]) (fun w h m=>gives (w,h,m)) h1 h2 h3
  unfold readAll
  have hp:tableHead_ 0 (ended (94::numbers [t.width,t.height,t.cols])++[])=.ok ((t.width,t.height,t.cols),p,[]):=hp
  rw [List.append_nil] at hp
  rw [then_ok hp]
  rfl
 show (match readAll (andThen tableHead_ end_) (ended (94::numbers [t.width,t.height,t.cols])) with
  | .error _=>none
  | .ok hh=>_)=_
 rw [hh]
 have er:(rowsBack ((((List.drop 1 ((94::numbers [t.width,t.height,t.cols])::(segLR t 0 0 t.rows++[[]]))).dropLast)).filter fun (x:Bytes)=>x.head? != some 61) []).reverse=t.rows:=by
  rw [show List.drop 1 ((94::numbers [t.width,t.height,t.cols])::(segLR t 0 0 t.rows++[[]]))=segLR t 0 0 t.rows++[[]] from rfl,List.dropLast_concat,segLR_lines]
  have:=rows_back (itemsT t t.rows) [] (itemsT_ok (by lia) h5) (fun i hi=>.inl (itemsT_head t t.rows i hi))
  rw [List.reverse_nil] at this
  rw [this,List.reverse_reverse,items_all,List.nil_append]
 show (if (Table.mk t.width t.height t.cols _).ok=true∧(Table.mk t.width t.height t.cols _).text.length≤MOST∧(Table.mk t.width t.height t.cols _).printed=t.printed then some (Table.mk t.width t.height t.cols _) else none)=some t
 rw [er]
 exact if_pos ⟨ok,hm,rfl⟩
theorem uncol_some {b:Bytes}{t:Table} (h:uncolumned b=some t):t.ok=true∧t.text.length≤MOST∧t.printed=b:=by
 unfold uncolumned at h
 simp only [] at h
 split at h
 ·cases h
 ·split at h
  ·rename_i hc
   cases h
   exact hc
  ·cases h
end Vp
end
section
namespace Vp
open Vh VhPage
def fuel:Nat:=4000000
def colsT_:Rd Table:=andThen (hdr [(8,120),(6,240),(2,4)]) fun (xs:List Nat)=>andThen (colsS fuel (xs.getD 2 0) fuel 0 []) fun (l:List (List (List Letters)))=>gives (⟨xs.getD 0 0,xs.getD 1 0,xs.getD 2 0,l⟩:Table)
def colsP (b:Bytes):Except Nat Table:=readAll colsT_ b
def backU (b:Bytes):Option Bytes:=match colsP b with
 | .error _=>none
 | .ok x=>match parseT x.text with
  | .error _=>none
  | .ok y=>if MOST<x.text.length∨y.printed≠b then none else some x.text
theorem lines_few {t:Table} (ok:t.ok=true):linesN t t.rows≤t.text.length∧∀ r∈t.rows,∀ c∈r,c.length≤t.text.length:=by
 obtain ⟨h1,h2,h3,h4,h5,h6⟩:=table_ok.mp ok
 have e:t.text.length=t.head.length+(t.rows.flatMap fun r=>ended (rowB r)).length:=by
  show (t.head++t.rows.flatMap fun r=>ended (rowB r)).length=_
  rw [List.length_append]
 have key:∀ l:List (List (List Letters)),(∀ r∈l,r.length=t.cols∧RowOk r)→linesN t l≤(l.flatMap fun r=>ended (rowB r)).length∧∀ r∈l,∀ c∈r,c.length≤(l.flatMap fun r=>ended (rowB r)).length:=fun l=>by
  induction l with
  | nil=>intro _;exact ⟨Nat.le_refl _,fun r hr=>by simp at hr⟩
  | cons r l ih =>
   intro hv
   obtain ⟨i1,i2⟩:=ih fun q hq=>hv q (List.mem_cons_of_mem _ hq)
   obtain ⟨v1,v2⟩:=hv r List.mem_cons_self
   obtain ⟨g1,g2⟩:=row_ge (by lia) v2
   have hH:=rowH_le t r
   rw [List.flatMap_cons,List.length_append]
   refine ⟨?_,fun q hq c hc=>?_⟩
   ·have:linesN t (r::l)=rowH t r+linesN t l:=by unfold linesN;rw [List.map_cons,List.sum_cons]
    rw [this];lia
   ·rcases List.mem_cons.mp hq with z | z
    ·subst z
     have:c.length≤cnt q:=by
      unfold cnt
      have:∀ m:List (List Letters),c∈m→c.length≤(m.map fun (c:List Letters)=>c.length).sum:=fun m=>by
       induction m with
       | nil=>intro h;simp at h
       | cons x m ih =>
        intro h
        rw [List.map_cons,List.sum_cons]
        rcases List.mem_cons.mp h with w | w
        ·rw [w];lia
        ·have:=ih w;lia
      exact this q hc
     lia
    ·have:=i2 q z c hc;lia
 obtain ⟨k1,k2⟩:=key t.rows h5
 exact ⟨by lia,fun r hr c hc=>by have:=k2 r hr c hc;lia⟩
theorem cols_printed {t:Table} (ok:t.ok=true) (hm:t.text.length≤MOST):colsP t.printed=.ok t:=by
 obtain ⟨h1,h2,h3,h4,h5,h6⟩:=table_ok.mp ok
 obtain ⟨l1,l2⟩:=lines_few ok
 unfold MOST at hm
 unfold colsP readAll colsT_
 rw [hdr3,printed_seg ok]
 obtain ⟨p,hp⟩:=head3_read (b:=segR t 0 0 t.rows) (fun w h m=>andThen (colsS fuel m fuel 0 []) fun (l:List (List (List Letters)))=>gives (⟨w,h,m,l⟩:Table)) h1 h2 h3
 obtain ⟨p',hb⟩:=cols_back (f:=fuel) (k:=fuel) (p:=p) ok (fun r hr c hc=>by have:=l2 r hr c hc;unfold fuel;lia) (by unfold fuel;lia) (by lia)
 have e:(andThen (byte_ 94) fun (_:Unit)=>andThen (num 8 120) fun (x:Nat)=>andThen (then_ 6 240) fun (y:Nat)=>andThen (then_ 2 4) fun (z:Nat)=>andThen (byte_ 10) fun (_:Unit)=>andThen (colsS fuel ([x,y,z].getD 2 0) fuel 0 []) fun (l:List (List (List Letters)))=>gives (⟨[x,y,z].getD 0 0,[x,y,z].getD 1 0,[x,y,z].getD 2 0,l⟩:Table)) 0 (t.head++segR t 0 0 t.rows)=.ok (t,p',[]):=by
  have hp2:=hp
  rw [then_ok hb] at hp2
  exact hp2
 rw [e]
theorem back_eq (b:Bytes):backU b=(uncolumned b).map Table.text:=by
 cases hu:uncolumned b with
 | some t =>
  obtain ⟨h1,h2,h3⟩:=uncol_some hu
  subst h3
  unfold backU
  rw [cols_printed h1 h2]
  show (match parseT t.text with
   | .error _=>none
   | .ok y=>if MOST<t.text.length∨y.printed≠t.printed then none else some t.text)=_
  rw [table_read h1]
  show (if MOST<t.text.length∨t.printed≠t.printed then none else some t.text)=_
  rw [if_neg (by rintro (z | z);exact absurd z (by lia);exact z rfl)]
  rfl
 | none =>
  unfold backU
  cases hc:colsP b with
  | error i=>rfl
  | ok x =>
   show (match parseT x.text with
    | .error _=>none
    | .ok y=>if MOST<x.text.length∨y.printed≠b then none else some x.text)=_
   cases hp:parseT x.text with
   | error i=>rfl
   | ok y =>
    show (if MOST<x.text.length∨y.printed≠b then none else some x.text)=_
    obtain ⟨e1,e2⟩:=table_back hp
    by_cases hz:MOST<x.text.length∨y.printed≠b
    ·rw [if_pos hz];rfl
    ·exfalso
     have z1:¬ MOST<x.text.length:=fun z=>hz (.inl z)
     have z2:y.printed=b:=Classical.byContradiction fun z=>hz (.inr z)
     have:=uncol_printed e2 (by rw [e1];lia)
     rw [z2,hu] at this
     cases this
end Vp
end
section
namespace Vp
open Vh VhPage
theorem wS_end {bs:List UInt8}{k p:Nat} (h:pk bs p=124∨pk bs p=10):wS (k+1) p (bs.drop p)=.ok ([],p,bs.drop p):=by
 conv=>lhs;unfold wS byNext
 dsimp only
 rw [head_drop,if_pos (h.imp (pk_eq (c:=124)).mp (pk_eq (c:=10)).mp)]
 rfl
theorem wS_blank {bs:List UInt8}{k p:Nat} (h:pk bs p=32):wS (k+1) p (bs.drop p)=wS k (p+1) (bs.drop (p+1)):=by
 have e:=(pk_eq (c:=32)).mp h
 conv=>lhs;unfold wS byNext
 dsimp only
 rw [head_drop,e,if_neg (by decide),if_pos rfl]
 unfold behind
 rw [drop_drop1]
theorem wS_word {bs:List UInt8}{k p p':Nat}{x:Letters} (h1:pk bs p≠124) (h2:pk bs p≠10) (h3:pk bs p≠32) (h:someChars_ [] 64 p (bs.drop p)=.ok (x,p',bs.drop p')):wS (k+1) p (bs.drop p)=preO [x] (wS k p' (bs.drop p')):=by
 conv=>lhs;unfold wS byNext
 dsimp only
 rw [head_drop,if_neg (by rintro (z | z);exact h1 ((pk_eq (c:=124)).mpr z);exact h2 ((pk_eq (c:=10)).mpr z)),if_neg (fun z=>h3 ((pk_eq (c:=32)).mpr z)),someLetters_chars,then_ok h]
 unfold andThen
 cases wS k p' (bs.drop p') with
 | error i=>rfl
 | ok y=>rfl
theorem wS_no {bs:List UInt8}{k p i:Nat} (h1:pk bs p≠124) (h2:pk bs p≠10) (h3:pk bs p≠32) (h:someChars_ [] 64 p (bs.drop p)=.error i):wS (k+1) p (bs.drop p)=.error i:=by
 conv=>lhs;unfold wS byNext
 dsimp only
 rw [head_drop,if_neg (by rintro (z | z);exact h1 ((pk_eq (c:=124)).mpr z);exact h2 ((pk_eq (c:=10)).mpr z)),if_neg (fun z=>h3 ((pk_eq (c:=32)).mpr z)),someLetters_chars,then_no h]
end Vp
end
section
namespace Vp
open Vh VhPage
def rowC (r:List (List Letters)):List Nat:=61::(jn 124 (r.map (jn 32))++[10])
def rowsC (l:List (List (List Letters))):List Nat:=l.flatMap rowC
theorem spelt_rowC (r:List (List Letters)):spelt (rowC r)=ended (rowB r):=by
 unfold rowC rowB ended
 rw [spelt_one (by decide),spelt_app,spelt_jnb,List.map_map]
 have e10:spelt [10]=[10]:=rfl
 rw [e10]
 have:r.map (spelt ∘ jn 32)=r.map spelled:=List.map_congr_left fun c _=>spelt_jn c
 rw [this];rfl
theorem spelt_rowsC (l:List (List (List Letters))):spelt (rowsC l)=l.flatMap fun r=>ended (rowB r):=by
 unfold rowsC
 rw [spelt_flat]
 exact flat_congr fun r _=>spelt_rowC r
theorem rowsC_take (l:List (List (List Letters))) (i:Nat):(rowsC (l.take i)).length≤(rowsC l).length:=by
 have h:rowsC l=rowsC (l.take i)++rowsC (l.drop i):=by unfold rowsC;rw [← List.flatMap_append,List.take_append_drop]
 rw [h,List.length_append];lia
theorem rowsC_snoc (l:List (List (List Letters))) (r:List (List Letters)):rowsC (l++[r])=rowsC l++rowC r:=by unfold rowsC;rw [List.flatMap_append];simp
end Vp
end
section
namespace Vp
open Vh VhPage
variable {bs:List UInt8}{f m k n p:Nat}{rows:List (List (List Letters))}
theorem colsS_end (h:bs[p]?=none):colsS f m (k+1) n rows p (bs.drop p)=.ok (rows,p,bs.drop p):=by
 conv=>lhs;unfold colsS byNext
 dsimp only
 rw [head_drop,if_pos h]
 rfl
theorem colsS_page (h:pk bs p=61):colsS f m (k+1) n rows p (bs.drop p)=(andThen (byte_ 61) fun (_:Unit)=>andThen (num (n+1) (n+1)) fun (_:Nat)=>andThen (byte_ 10) fun (_:Unit)=>colsS f m k (n+1) rows) p (bs.drop p):=by
 have e:=(pk_eq (c:=61)).mp h
 conv=>lhs;unfold colsS byNext
 dsimp only
 rw [head_drop,e,if_neg (by simp),if_pos rfl]
theorem colsS_new (h:pk bs p=62):colsS f m (k+1) n rows p (bs.drop p)=(andThen (lineS f m) fun (cells:List (List Letters))=>colsS f m k n (rows++[cells])) (p+1) (bs.drop (p+1)):=by
 have e:=(pk_eq (c:=62)).mp h
 conv=>lhs;unfold colsS byNext
 dsimp only
 rw [head_drop,e,if_neg (by simp),if_neg (by decide),if_pos rfl]
 unfold behind
 rw [drop_drop1]
theorem colsS_more (h0:bs[p]?≠none) (h1:pk bs p≠61) (h2:pk bs p≠62):colsS f m (k+1) n rows p (bs.drop p)=(andThen (byte_ 32) fun (_:Unit)=>if rows=[] then stray else andThen (lineS f m) fun (cells:List (List Letters))=>colsS f m k n (addL rows cells)) p (bs.drop p):=by
 conv=>lhs;unfold colsS byNext
 dsimp only
 rw [head_drop,if_neg h0,if_neg (fun z=>h1 ((pk_eq (c:=61)).mpr z)),if_neg (fun z=>h2 ((pk_eq (c:=62)).mpr z))]
def tailS (f:Nat) (c:List (List Letters)) (j:Nat):Rd (List (List Letters)):=andThen (barsS f j) fun (r:List (List Letters))=>andThen (byte_ 10) fun (_:Unit)=>gives (c++r)
theorem tailS_zero (c:List (List Letters)):tailS f c 0=andThen (byte_ 10) fun (_:Unit)=>gives c:=by
 unfold tailS
 show andThen (gives []) _=_
 rw [gives_then,List.append_nil]
theorem tailS_step (c:List (List Letters)) (j:Nat):tailS f c (j+1)=andThen (byte_ 124) fun (_:Unit)=>andThen (wS f) fun (d:List Letters)=>tailS f (c++[d]) j:=by
 unfold tailS
 rw [barsS,then_assoc]
 congr 1;funext _
 rw [then_assoc]
 congr 1;funext d
 rw [then_assoc]
 congr 1;funext r
 rw [gives_then]
 congr 1;funext _
 simp
theorem lineS_eq:lineS f m=andThen (wS f) fun (d:List Letters)=>tailS f [d] (m-1):=by
 unfold lineS tailS;rfl
end Vp
end
section
namespace Vp
open Vh VhPage
def cellB (c:List Letters):Nat:=(c.map fun (x:Letters)=>(spelt x).length+1).sum
def rowM (r:List (List Letters)):Nat:=(r.map cellB).sum
theorem wS_size:∀ (k p:Nat) (b:Bytes) (c:List Letters) (p':Nat) (b':Bytes),wS k p b=.ok (c,p',b')→CellOk c∧cellB c+2 * b'.length≤2 * b.length
 | 0,_,_,_,_,_,h=>by cases h
 | k+1,p,b,c,p',b',h=>by
  have h:(if b.head?=some 124∨b.head?=some 10 then gives [] else if b.head?=some 32 then behind (wS k) else andThen (someLetters_ 64) fun (x:Letters)=>andThen (wS k) fun (r:List Letters)=>gives (x::r)) p b=.ok (c,p',b'):=h
  by_cases h1:b.head?=some 124∨b.head?=some 10
  ·rw [if_pos h1] at h
   obtain ⟨rfl,rfl,rfl⟩:=ok_inj h
   exact ⟨fun w hw=>by simp at hw,by simp [cellB]⟩
  ·rw [if_neg h1] at h
   by_cases h2:b.head?=some 32
   ·rw [if_pos h2] at h
    have hb:=head_cons h2
    have ih:=wS_size k (p+1) (b.drop 1) c p' b' h
    refine ⟨ih.1,?_⟩
    have:b.length=(b.drop 1).length+1:=by rw [hb];simp
    lia
   ·rw [if_neg h2] at h
    obtain ⟨w,b1,e1,o1,h⟩:=Pr.bind Pr.word h
    cases hw:wS k (p+(spelt w).length) b1 with
    | error i=>rw [then_no hw] at h;cases h
    | ok y =>
     obtain ⟨r,p2,b2⟩:=y
     rw [then_ok hw] at h
     obtain ⟨rfl,rfl,rfl⟩:=ok_inj h
     have ih:=wS_size k _ b1 r p2 b2 hw
     obtain ⟨n1,_,_⟩:=word_ok o1
     have hl:=spelt_ge w
     have hl1:1≤w.length:=by cases w with | nil=>exact absurd rfl n1 | cons _ _=>simp
     refine ⟨fun x hx=>?_,?_⟩
     ·rcases List.mem_cons.mp hx with z | z
      ·rw [z];exact o1
      ·exact ih.1 x z
     ·have e2:cellB (w::r)=(spelt w).length+1+cellB r:=by unfold cellB;rw [List.map_cons,List.sum_cons]
      have e3:b.length=(spelt w).length+b1.length:=by rw [e1,List.length_append]
      rw [e2,e3];lia
theorem rowM_cons (c:List Letters) (r:List (List Letters)):rowM (c::r)=cellB c+rowM r:=by unfold rowM;rw [List.map_cons,List.sum_cons]
theorem byte_inv {c:UInt8}{p p':Nat}{b b':Bytes}{x:Unit} (h:byte_ c p b=.ok (x,p',b')):b.length=b'.length+1:=by
 obtain ⟨e,_,_⟩:=Pr.byte c _ _ _ _ _ h
 rw [e];simp
theorem then_inv {α β:Type}{r:Rd α}{f:α→Rd β}{p:Nat}{b:Bytes}{y:β×Nat×Bytes} (h:andThen r f p b=.ok y):∃ x p1 b1,r p b=.ok (x,p1,b1)∧f x p1 b1=.ok y:=by
 unfold andThen at h
 cases e:r p b with
 | error i=>rw [e] at h;cases h
 | ok z=>rw [e] at h;exact ⟨z.1,z.2.1,z.2.2,rfl,h⟩
theorem barsS_size (f:Nat):∀ (k p:Nat) (b:Bytes) (r:List (List Letters)) (p':Nat) (b':Bytes),barsS f k p b=.ok (r,p',b')→RowOk r∧r.length=k∧rowM r+2 * k+2 * b'.length≤2 * b.length
 | 0,p,b,r,p',b',h=>by
  obtain ⟨rfl,rfl,rfl⟩:=ok_inj (x:=([]:List (List Letters))) (p:=p) (b:=b) h
  exact ⟨fun c hc=>by simp at hc,rfl,by simp [rowM]⟩
 | k+1,p,b,r,p',b',h=>by
  obtain ⟨_,p1,b1,e1,h⟩:=then_inv (show andThen _ _ p b=_ from h)
  obtain ⟨c,p2,b2,e2,h⟩:=then_inv h
  obtain ⟨q,p3,b3,e3,h⟩:=then_inv h
  obtain ⟨rfl,rfl,rfl⟩:=ok_inj h
  have s1:=byte_inv e1
  obtain ⟨w1,w2⟩:=wS_size _ _ _ _ _ _ e2
  obtain ⟨i1,i2,i3⟩:=barsS_size f k _ _ _ _ _ e3
  refine ⟨fun d hd=>?_,by rw [List.length_cons,i2],by rw [rowM_cons];lia⟩
  rcases List.mem_cons.mp hd with z | z
  ·rw [z];exact w1
  ·exact i1 d z
theorem lineS_size {f m p p':Nat}{b b':Bytes}{r:List (List Letters)} (hm:1≤m) (h:lineS f m p b=.ok (r,p',b')):RowOk r∧r.length=m∧rowM r+2 * m+2 * b'.length≤2 * b.length:=by
 unfold lineS at h
 obtain ⟨c,p1,b1,e1,h⟩:=then_inv h
 obtain ⟨q,p2,b2,e2,h⟩:=then_inv h
 obtain ⟨_,p3,b3,e3,h⟩:=then_inv h
 obtain ⟨rfl,rfl,rfl⟩:=ok_inj h
 obtain ⟨w1,w2⟩:=wS_size _ _ _ _ _ _ e1
 obtain ⟨i1,i2,i3⟩:=barsS_size f _ _ _ _ _ _ e2
 have s3:=byte_inv e3
 refine ⟨fun d hd=>?_,by rw [List.length_cons,i2];lia,by rw [rowM_cons];lia⟩
 rcases List.mem_cons.mp hd with z | z
 ·rw [z];exact w1
 ·exact i1 d z
theorem spj {s:Nat} (hs:s<128):∀ l:List (List Nat),(spelt (jn s l)).length≤(l.map fun (x:List Nat)=>(spelt x).length+1).sum
 | []=>Nat.le_refl _
 | [x]=>by simp [jn]
 | x::y::r=>by
  have ih:=spj hs (y::r)
  show (spelt (x++s::jn s (y::r))).length≤_
  rw [spelt_app,spelt_one hs,List.length_append,List.length_cons,List.map_cons,List.sum_cons]
  lia
theorem rowC_len (r:List (List Letters)):(spelt (rowC r)).length≤rowM r+r.length+2:=by
 unfold rowC
 rw [spelt_one (by decide),spelt_app,List.length_cons,List.length_append]
 have h1:=spj (s:=124) (by decide) (r.map (jn 32))
 rw [List.map_map] at h1
 have h2:∀ r:List (List Letters),(r.map ((fun (x:List Nat)=>(spelt x).length+1) ∘ jn 32)).sum≤rowM r+r.length:=fun r=>by
  induction r with
  | nil=>simp [rowM]
  | cons c r ih =>
   rw [List.map_cons,List.sum_cons,rowM_cons,List.length_cons]
   have h3:(spelt (jn 32 c)).length≤cellB c:=spj (s:=32) (by decide) c
   show (spelt (jn 32 c)).length+1+_≤_
   lia
 have:=h2 r
 have e10:(spelt [10]).length=1:=rfl
 lia
theorem rowC_chs {r:List (List Letters)} (h:RowOk r):Chs (rowC r):=by
 unfold rowC
 refine Chs.cons (by decide) ((jn_chs (by decide) _ fun x hx=>?_).app (Chs.cons (by decide) Chs.nil))
 obtain ⟨c,hc,rfl⟩:=List.mem_map.mp hx
 exact jn_chs (by decide) _ fun w hw y hy=>letter_char ((word_ok (h c hc w hw)).2.2 y hy)
end Vp
end
section
namespace Vp
open Vh VhPage
def tN (rows:List (List (List Letters))):Nat:=(rows.map fun r=>rowM r+r.length+2).sum
theorem tN_snoc (rows:List (List (List Letters))) (r:List (List Letters)):tN (rows++[r])=tN rows+(rowM r+r.length+2):=by unfold tN;rw [List.map_append,List.sum_append];simp
theorem cellB_app (x y:List Letters):cellB (x++y)=cellB x+cellB y:=by unfold cellB;rw [List.map_append,List.sum_append]
theorem zip_size:∀ (x c:List (List Letters)),x.length=c.length→RowOk x→RowOk c→rowM (List.zipWith (fun (y z:List Letters)=>y++z) x c)=rowM x+rowM c∧(List.zipWith (fun (y z:List Letters)=>y++z) x c).length=x.length∧RowOk (List.zipWith (fun (y z:List Letters)=>y++z) x c)
 | [],[],_,_,_=>⟨rfl,rfl,fun d hd=>by simp at hd⟩
 | [],_::_,h,_,_=>by simp at h
 | _::_,[],h,_,_=>by simp at h
 | y::x,z::c,h,h1,h2=>by
  obtain ⟨i1,i2,i3⟩:=zip_size x c (by simpa using h) (fun d hd=>h1 d (List.mem_cons_of_mem _ hd)) (fun d hd=>h2 d (List.mem_cons_of_mem _ hd))
  rw [List.zipWith_cons_cons,rowM_cons,rowM_cons,rowM_cons,i1,cellB_app,List.length_cons,List.length_cons,i2]
  refine ⟨by lia,rfl,fun d hd=>?_⟩
  rcases List.mem_cons.mp hd with e | e
  ·rw [e]
   intro w hw
   rcases List.mem_append.mp hw with m | m
   ·exact h1 y List.mem_cons_self w m
   ·exact h2 z List.mem_cons_self w m
  ·exact i3 d e
theorem addL_size {m:Nat}{rows:List (List (List Letters))}{c:List (List Letters)} (hr:rows≠[]) (hv:∀ r∈rows,RowOk r∧r.length=m) (hc:RowOk c) (hl:c.length=m):tN (addL rows c)=tN rows+rowM c∧∀ r∈addL rows c,RowOk r∧r.length=m:=by
 have eR:rows=rows.dropLast++[rows.getLastD []]:=by
  cases rows with
  | nil=>exact absurd rfl hr
  | cons a l=>exact (List.dropLast_concat_getLast hr).symm
 have hlast:RowOk (rows.getLastD [])∧(rows.getLastD []).length=m:=hv _ (by rw [eR];simp)
 obtain ⟨z1,z2,z3⟩:=zip_size (rows.getLastD []) c (by rw [hlast.2,hl]) hlast.1 hc
 constructor
 ·have e1:tN rows=tN rows.dropLast+(rowM (rows.getLastD [])+(rows.getLastD []).length+2):=by
   conv=>lhs;rw [eR]
   rw [tN_snoc]
  unfold addL
  rw [tN_snoc,z1,z2,e1];lia
 ·intro r hr'
  unfold addL at hr'
  rcases List.mem_append.mp hr' with e | e
  ·exact hv r (List.mem_of_mem_take (by rw [List.dropLast_eq_take] at e;exact e))
  ·rw [List.mem_singleton.mp e]
   exact ⟨z3,by rw [z2,hlast.2]⟩
theorem colsS_size {f m:Nat} (hm:1≤m):∀ (k n p:Nat) (rows:List (List (List Letters))) (b:Bytes) (rows':List (List (List Letters))) (p':Nat) (b':Bytes),(∀ r∈rows,RowOk r∧r.length=m)→colsS f m k n rows p b=.ok (rows',p',b')→(∀ r∈rows',RowOk r∧r.length=m)∧tN rows'+2 * b'.length≤tN rows+2 * b.length
 | 0,_,_,_,_,_,_,_,_,h=>by cases h
 | k+1,n,p,rows,b,rows',p',b',hv,h=>by
  have h:(if b.head?=none then gives rows else if b.head?=some 61 then andThen (byte_ 61) fun (_:Unit)=>andThen (num (n+1) (n+1)) fun (_:Nat)=>andThen (byte_ 10) fun (_:Unit)=>colsS f m k (n+1) rows
   else if b.head?=some 62 then behind (andThen (lineS f m) fun (cells:List (List Letters))=>colsS f m k n (rows++[cells]))
   else andThen (byte_ 32) fun (_:Unit)=>if rows=[] then stray else andThen (lineS f m) fun (cells:List (List Letters))=>colsS f m k n (addL rows cells)) p b=.ok (rows',p',b'):=h
  by_cases h0:b.head?=none
  ·rw [if_pos h0] at h
   obtain ⟨rfl,rfl,rfl⟩:=ok_inj h
   exact ⟨hv,Nat.le_refl _⟩
  rw [if_neg h0] at h
  by_cases h1:b.head?=some 61
  ·rw [if_pos h1] at h
   obtain ⟨_,p1,b1,e1,h⟩:=then_inv h
   obtain ⟨x,p2,b2,e2,h⟩:=then_inv h
   obtain ⟨_,p3,b3,e3,h⟩:=then_inv h
   have s1:=byte_inv e1
   have s3:=byte_inv e3
   obtain ⟨d1,_,_⟩:=Pr.num _ _ _ _ _ _ _ e2
   have s2:b1.length=(decimal x).length+b2.length:=by rw [d1,List.length_append]
   have ih:=colsS_size hm k (n+1) p3 rows b3 rows' p' b' hv h
   exact ⟨ih.1,by lia⟩
  rw [if_neg h1] at h
  by_cases h2:b.head?=some 62
  ·rw [if_pos h2] at h
   have hb:=head_cons h2
   have hbl:b.length=(b.drop 1).length+1:=by rw [hb];simp
   obtain ⟨c,p1,b1,e1,h⟩:=then_inv (show andThen _ _ (p+1) (b.drop 1)=_ from h)
   obtain ⟨l1,l2,l3⟩:=lineS_size hm e1
   have ih:=colsS_size hm k n p1 (rows++[c]) b1 rows' p' b' (fun r hr=>by
    rcases List.mem_append.mp hr with e | e
    ·exact hv r e
    ·rw [List.mem_singleton.mp e];exact ⟨l1,l2⟩) h
   rw [tN_snoc] at ih
   exact ⟨ih.1,by lia⟩
  rw [if_neg h2] at h
  obtain ⟨_,p1,b1,e1,h⟩:=then_inv h
  have s1:=byte_inv e1
  by_cases h3:rows=[]
  ·rw [if_pos h3] at h;cases h
  rw [if_neg h3] at h
  obtain ⟨c,p2,b2,e2,h⟩:=then_inv h
  obtain ⟨l1,l2,l3⟩:=lineS_size hm e2
  obtain ⟨a1,a2⟩:=addL_size h3 hv l1 l2
  have ih:=colsS_size hm k n p2 (addL rows c) b2 rows' p' b' a2 h
  rw [a1] at ih
  exact ⟨ih.1,by lia⟩
theorem rowsC_size {rows:List (List (List Letters))} (hv:∀ r∈rows,RowOk r):(spelt (rowsC rows)).length≤tN rows∧Chs (rowsC rows):=by
 induction rows with
 | nil=>exact ⟨Nat.le_refl _,Chs.nil⟩
 | cons r rows ih =>
  obtain ⟨i1,i2⟩:=ih fun q hq=>hv q (List.mem_cons_of_mem _ hq)
  have e:rowsC (r::rows)=rowC r++rowsC rows:=by unfold rowsC;rw [List.flatMap_cons]
  have h1:=rowC_len r
  rw [e]
  refine ⟨?_,(rowC_chs (hv r List.mem_cons_self)).app i2⟩
  unfold tN at *
  rw [spelt_app,List.length_append,List.map_cons,List.sum_cons];lia
end Vp
end
section
namespace Vp
open Vh VhPage
def zapp:List (List Letters)→List (List Letters)→List (List Letters)
 | l,[]=>l
 | [],_::_=>[]
 | x::l,y::c=>(x++y)::zapp l c
theorem zapp_nil (l:List (List Letters)):zapp l []=l:=by cases l <;> rfl
theorem zapp_len:∀ {l c:List (List Letters)},c.length≤l.length→(zapp l c).length=l.length
 | l,[],_=>by rw [zapp_nil]
 | [],y::c,h=>by simp at h
 | x::l,y::c,h=>by rw [zapp,List.length_cons,List.length_cons,zapp_len (by simpa using h)]
theorem zapp_at:∀ {l c:List (List Letters)}{j:Nat},c.length≤j→c.length≤l.length→(zapp l c)[j]?=l[j]?
 | l,[],j,_,_=>by rw [zapp_nil]
 | [],y::c,_,_,h=>by simp at h
 | x::l,y::c,0,h,_=>by simp at h
 | x::l,y::c,j+1,h,h2=>by rw [zapp,List.getElem?_cons_succ,List.getElem?_cons_succ];exact zapp_at (by simpa using h) (by simpa using h2)
theorem zapp_snoc:∀ {l c:List (List Letters)}{d x:List Letters},l[c.length]?=some x→zapp l (c++[d])=(zapp l c).set c.length (x++d)
 | [],[],_,_,h=>by simp at h
 | z::l,[],d,x,h=>by
  simp at h;subst h
  show (z++d)::zapp l []=(zapp (z::l) []).set 0 (z++d)
  rw [zapp_nil,zapp_nil];rfl
 | [],y::c,_,_,h=>by simp at h
 | z::l,y::c,d,x,h=>by
  rw [List.cons_append,zapp,zapp,List.length_cons,List.set_cons_succ,zapp_snoc (by simpa using h)]
theorem zapp_zip:∀ {l c:List (List Letters)},c.length=l.length→zapp l c=List.zipWith (fun (y z:List Letters)=>y++z) l c
 | [],[],_=>rfl
 | x::l,[],h=>by simp at h
 | [],y::c,h=>by simp at h
 | x::l,y::c,h=>by rw [zapp,List.zipWith_cons_cons,zapp_zip (by simpa using h)]
theorem zapp_rep:∀ {m:Nat}{c:List (List Letters)},c.length=m→zapp (List.replicate m []) c=c
 | 0,[],_=>rfl
 | 0,y::c,h=>by simp at h
 | m+1,[],h=>by simp at h
 | m+1,y::c,h=>by rw [List.replicate_succ,zapp,List.nil_append,zapp_rep (by simpa using h)]
theorem zapp_add {rs:List (List (List Letters))}{l c:List (List Letters)} (h:c.length=l.length):addL (rs++[l]) c=rs++[zapp l c]:=by
 unfold addL
 rw [List.dropLast_concat,zapp_zip h]
 have:(rs++[l]).getLastD []=l:=by rw [List.getLastD_eq_getLast?,List.getLast?_concat];rfl
 rw [this]
def lineO (f m:Nat) (rows:List (List (List Letters))) (p:Nat) (bs:Bytes):Except Nat (List (List (List Letters))×Nat×Bytes):=if pk bs p=62 then (andThen (lineS f m) fun (cells:List (List Letters))=>gives (rows++[cells])) (p+1) (bs.drop (p+1)) else (andThen (byte_ 32) fun (_:Unit)=>if rows=[] then stray else andThen (lineS f m) fun (cells:List (List Letters))=>gives (addL rows cells)) p (bs.drop p)
variable {bs:List UInt8}{f m k n p:Nat}{rows:List (List (List Letters))}
theorem colsS_line (h0:bs[p]?≠none) (h1:pk bs p≠61):colsS f m (k+1) n rows p (bs.drop p)=match lineO f m rows p bs with
  | .error i=>.error i
  | .ok x=>colsS f m k n x.1 x.2.1 x.2.2:=by
 unfold lineO
 by_cases h2:pk bs p=62
 ·rw [colsS_new h2,if_pos h2]
  unfold andThen
  cases lineS f m (p+1) (bs.drop (p+1)) with
  | error i=>rfl
  | ok x=>rfl
 ·rw [colsS_more h0 h1 h2,if_neg h2]
  cases e:byte_ 32 p (bs.drop p) with
  | error i=>rw [then_no e,then_no e]
  | ok y =>
   obtain ⟨u,p1,b1⟩:=y
   rw [then_ok e,then_ok e]
   by_cases h3:rows=[]
   ·rw [if_pos h3,if_pos h3];rfl
   ·rw [if_neg h3,if_neg h3]
    unfold andThen
    cases lineS f m p1 b1 with
    | error i=>rfl
    | ok x=>rfl
theorem colsS_no {i:Nat} (h0:bs[p]?≠none) (h1:pk bs p≠61) (h:lineO f m rows p bs=.error i):colsS f m (k+1) n rows p (bs.drop p)=.error i:=by rw [colsS_line h0 h1,h]
theorem colsS_go {r:List (List (List Letters))}{p':Nat}{b':Bytes} (h0:bs[p]?≠none) (h1:pk bs p≠61) (h:lineO f m rows p bs=.ok (r,p',b')):colsS f m (k+1) n rows p (bs.drop p)=colsS f m k n r p' b':=by rw [colsS_line h0 h1,h]
theorem cols_small {x:Table} (h:colsP bs=.ok x) (hb:bs.length≤8191):Chs (rowsC x.rows)∧(rowsC x.rows).length≤16384∧x.head.length≤8191∧(∀ r∈x.rows,r.length≤4)∧x.text.length≤16384:=by
 unfold colsP readAll colsT_ at h
 cases e:hdr [(8,120),(6,240),(2,4)] 0 bs with
 | error i=>rw [then_no e] at h;cases h
 | ok y =>
  obtain ⟨xs,p1,b1⟩:=y
  rw [then_ok e] at h
  obtain ⟨w',h',m',rfl,h1,h2,h3,h4,h5⟩:=hdr3_text e
  cases e2:colsS fuel ([w',h',m'].getD 2 0) fuel 0 [] p1 b1 with
  | error i=>rw [then_no e2] at h;cases h
  | ok y =>
   obtain ⟨rows,p2,b2⟩:=y
   rw [then_ok e2] at h
   have hx:(⟨w',h',m',rows⟩:Table)=x:=by injection h
   subst hx
   have e2:colsS fuel m' fuel 0 [] p1 b1=.ok (rows,p2,b2):=e2
   obtain ⟨s1,s2⟩:=colsS_size (by lia) _ _ _ _ _ _ _ _ (fun r hr=>by simp at hr) e2
   obtain ⟨c1,c2⟩:=rowsC_size fun r hr=>(s1 r hr).1
   have e0:tN []=0:=rfl
   have hbl:bs.length=(⟨w',h',m',rows⟩:Table).head.length+b1.length:=by
    rw [h1,List.length_append];rfl
   have ht:(⟨w',h',m',rows⟩:Table).text.length=(⟨w',h',m',rows⟩:Table).head.length+(spelt (rowsC rows)).length:=by
    rw [spelt_rowsC]
    show (_++rows.flatMap fun r=>ended (rowB r)).length=_
    rw [List.length_append]
   have hg:=spelt_ge (rowsC rows)
   refine ⟨c2,?_,by lia,fun r hr=>?_,by lia⟩
   ·show (rowsC rows).length≤_
    lia
   ·rw [(s1 r hr).2];lia
end Vp
end
section
set_option maxRecDepth 100000
namespace Vp
open PySem PySem.Spec PyProof.Rows L2
def top (i:Nat):Stmt:=PySem.Challenge.pw_vellumpages_s08_uncolumns.main.body.getD i (.Pass ⟨0,0,0,0⟩)
def stI (l:List Stmt) (i:Nat):Stmt:=l.getD i (.Pass ⟨0,0,0,0⟩)
def noEx:Expr:=.Constant .none 0 ⟨0,0,0,0⟩
def stVal:Stmt→Expr
 | .Assign _ v _=>v
 | .Return (some v) _=>v
 | .Expr v _=>v
 | .AugAssign _ _ v _=>v
 | _=>noEx
def stBody:Stmt→List Stmt
 | .If _ b _ _=>b
 | .While _ b _ _=>b
 | .For _ _ b _ _=>b
 | .Try b _ _ _ _=>b
 | _=>[]
def exArg (e:Expr) (i:Nat):Expr:=match e with
 | .Call _ as _ _=>as.getD i noEx
 | _=>noEx
def exL:Expr→Expr
 | .BinOp a _ _ _=>a
 | _=>noEx
def exR:Expr→Expr
 | .BinOp _ _ b _=>b
 | _=>noEx
def lcSc:Expr→Scope
 | .ListComp _ _ sc _=>sc
 | _=>{ kind:=.function,names:=[],isGenerator:=false,isCoroutine:=false }
abbrev WT:=Nat→L2.St→Hp→Prop
def BdT (K:PySem.W.Frag) (ab:Addr) (bds:List (Nat×Nat)):Prop:=∃ vs,(∀ H,SqT K H ab vs)∧Paired (fun (x:Nat×Nat) v=>∃ b,v=.ref b∧(∀ H,SqT K H b [.int (x.1:Int),.int (x.2:Int)])∧x.2<10 ^ 11) bds vs
theorem scal_ii {i j:Int}:scal (.int i) (.int j)=true:=rfl
theorem scal_ss {i j:Str}:scal (.str i) (.str j)=true:=rfl
theorem scal_bb {i j:Bool}:scal (.bl i) (.bl j)=true:=rfl
theorem scal_nn:scal .non .non=true:=rfl
theorem scal_in {i:Int}:scal (.int i) .non=true:=rfl
structure Ad where
 CE:Addr
 CR:Addr
 CT:Addr
 aMARKS:Addr
 aENDS:Addr
 aTABLE_BOUNDS:Addr
 PT:Addr
structure Txt (K:PySem.W.Frag) (mg:Str→Option Value) (a:Ad):Prop where
 exc:Exc K mg "NoText" a.CE
 clReader:Cls K a.CR
 n_t:NoAttr K a.CR "t"
 n_at:NoAttr K a.CR "at"
 clTable:Cls K a.CT
 nT_width:NoAttr K a.CT "width"
 nT_height:NoAttr K a.CT "height"
 nT_cell_count:NoAttr K a.CT "cell_count"
 nT_head:NoAttr K a.CT "head"
 nT_rows:NoAttr K a.CT "rows"
 nl:∀ b o,K.lookup b=some o→o.cls≠.type "list"
 len:mg "len"=none
 ord:mg "ord"=none
 min:mg "min"=none
 max:mg "max"=none
 range:mg "range"=none
 enumerate:mg "enumerate"=none
 str:mg "str"=none
 list:mg "list"=none
 sum:mg "sum"=none
 cBLANK:∃ u,mg "BLANK"=some (.int 32 u)
 cSTROKE:∃ u,mg "STROKE"=some (.int 124 u)
 cFIRST_LETTER:∃ u,mg "FIRST_LETTER"=some (.int 33 u)
 cMOST_LETTERS:∃ u,mg "MOST_LETTERS"=some (.int 64 u)
 cNO_BYTE:∃ u,mg "NO_BYTE"=some (.int 256 u)
 cMOST_TABLE_ROWS:∃ u,mg "MOST_TABLE_ROWS"=some (.int 8192 u)
 cMOST_TABLE_WORDS:∃ u,mg "MOST_TABLE_WORDS"=some (.int 65536 u)
 cMOST_TEXT_BYTES:∃ u,mg "MOST_TEXT_BYTES"=some (.int 1048576 u)
 cMOST_PRINTED_BYTES:∃ u,mg "MOST_PRINTED_BYTES"=some (.int 16777216 u)
 cMARKS:mg "MARKS"=some (.ref a.aMARKS)
 tMARKS:∀ H,SqT K H a.aMARKS (marksI.map V.int)
 cENDS:mg "ENDS"=some (.ref a.aENDS)
 tENDS:∀ H,SqT K H a.aENDS [V.int 32,V.int 10]
 cTABLE_BOUNDS:mg "TABLE_BOUNDS"=some (.ref a.aTABLE_BOUNDS)
 tTABLE_BOUNDS:BdT K a.aTABLE_BOUNDS [(8,120),(6,240),(2,4)]
end Vp
end
section
set_option maxRecDepth 100000
set_option maxHeartbeats 4000000
namespace Vp
open PySem PySem.Spec PyProof.Rows L2
local macro_rules | `(tactic| walk_at "rd")=>`(tactic| (try simp only [tSeq,tIfS,tOr,tAnd,tNot,tTest,tB,tOp,rI0,rI,tVar,tC,tChain,tRet,tRetN,tNext,tDrop,tAsg,gName,rEq,rNe,rIn,tAug,ipI,tCall,tCons,tNil,tUn,rU,tIf,tNotV,tAndV,tOrV,tCB,tRaise,tTup,tLst,L2.start,L2.cxOf,List.map_cons,List.map_nil,List.length_cons,List.length_nil,List.replicate,List.cons_append,List.nil_append,List.append_nil,Nat.sub_self,Nat.zero_add,Nat.add_sub_cancel,Nat.reduceAdd,Nat.reduceSub,List.getElem?_cons_zero,List.getElem?_cons_succ,List.set_cons_zero,List.set_cons_succ,Option.some.injEq,V.int.injEq,V.bl.injEq,V.ref.injEq,V.str.injEq,exists_eq_left',exists_and_left,exists_const,true_and,and_true,scal_ii,scal_ss,scal_bb,scal_nn,scal_in,decide_eq_true_eq,Bool.not_eq_true',decide_eq_false_iff_not,Bool.not_not,Bool.not_true,Bool.not_false,if_true,if_false,ite_true,ite_false,↓reduceIte,Bool.false_eq_true,List.cons.injEq,exists_eq_left,gTup,gCons,gNil,tBM,rAppend,rExtend,tSl,tNoPart,tPart,rSlL,tMake]))
section
variable {P:Program}{w:World}{K:PySem.W.Frag}{mg:Str→Option Value}{base:Heap}{a:Ad}
theorem inV_ints (n:Int) (l:List Int):inV (.int n) (l.map V.int)=l.contains n:=by
 unfold inV
 rw [List.any_map,List.contains_eq_any_beq]
 congr 1
 funext y
 show (y==n)=(n==y)
 exact Bool.beq_comm
theorem flat_ints (l:List Int):(l.map V.int).all flatV=true:=by
 rw [List.all_map,List.all_eq_true];intro _ _;rfl
def sp_is_letter (K:PySem.W.Frag) (a:Ad):Sp:=fun vs H Q _=>∃ n:Int,vs=[.int n]∧Q (.bl (isL n)) H
abbrev s_is_letter:Stmt:=top 6
theorem sc_is_letter:FnScope ["character"] ["character"] (defScope s_is_letter):=⟨rfl,rfl,rfl,by decide +kernel,rfl,by decide +kernel,by decide +kernel⟩
theorem ok_is_letter {f:Addr}{fd:FuncData} (F:Fun K "is_letter" "is_letter" s_is_letter f fd) (T:Txt K mg a):FnOk P w K mg base CX0 1 f fd ["character"] (sp_is_letter K a):=by
 refine F.ok sc_is_letter (fun vs H Q E h=>?_) (fun cdv A outer s H vs Q E hr h=>?_)
 ·obtain ⟨n,rfl,q⟩:=h
  rfl
 ·obtain ⟨n,rfl,q⟩:=h
  have nd:=sc_is_letter.nd
  refine ⟨_,(pss_cons (ps_if (PW.pt (pw_or (pt_cmpR op_lt (pv 0) (pe_gint T.cFIRST_LETTER) (nomark _)) (pw_or (pt_chain op_le op_le pe_int (pv 0) pe_int) (pw_or1 (pt_cmpR op_in_seq (pv 0) (pe_gref T.cMARKS) (by with_unfolding_all rfl)))))) (pss_one (ps_ret pe_bl)) pss_nil) (pss_one (ps_ret (pe_cmpR op_lt (pe_op op_mod (pv 0) pe_int) pe_int (nomark _))))),?_⟩
  have hm:=inV_ints n marksI
  have hf:=flat_ints marksI
  unfold isL at q
  walk_at "rd"
  split
  ·rename_i h;simpa [h] using q
  ·rename_i h1
   have last:(¬ (127≤n∧n≤159))→∃ x,(SqL K H a.aMARKS x∨SqT K H a.aMARKS x)∧flatV (V.int n)=true∧x.all flatV=true∧if inV (V.int n) x=true then Q (V.bl false) H else (0:Int)<65536∧Q (V.bl (decide (n % 65536<65534))) H:=fun h2=>by
    refine ⟨_,.inr (T.tMARKS H),rfl,hf,?_⟩
    rw [hm]
    have h3:(decide (127≤n) && decide (n≤159))=false:=by
     by_cases z:127≤n <;> simp [z] <;> lia
    rw [h3] at q
    generalize marksI.contains n=c at q
    cases c
    ·rw [if_neg (by decide)];exact ⟨by decide,by simpa [h1] using q⟩
    ·rw [if_pos rfl];simpa [h1] using q
   split
   ·split
    ·rename_i h2 h3;simpa [h1,h2,h3] using q
    ·exact last (by lia)
   ·exact last (by lia)
def sp_begins_some (K:PySem.W.Frag) (a:Ad):Sp:=fun vs H Q _=>∃ v lo hi:Nat,vs=[.int v,.int lo,.int hi]∧hi<10 ^ 11∧Q (.bl (Vh.leadsTo lo hi v)) H
abbrev s_begins_some:Stmt:=top 21
theorem sc_begins_some:FnScope ["value","low","high","least","most"] ["value","low","high"] (defScope s_begins_some):=⟨rfl,rfl,rfl,by decide +kernel,rfl,by decide +kernel,by decide +kernel⟩
theorem ok_begins_some {f:Addr}{fd:FuncData} (F:Fun K "begins_some" "begins_some" s_begins_some f fd) (T:Txt K mg a):FnOk P w K mg base CX0 1 f fd ["value","low","high"] (sp_begins_some K a):=by
 refine F.ok sc_begins_some (fun vs H Q E h=>?_) (fun cdv A outer s H vs Q E hr h=>?_)
 ·obtain ⟨v,lo,hi,rfl,hhi,q⟩:=h
  rfl
 ·obtain ⟨v,lo,hi,rfl,hhi,q⟩:=h
  have nd:=sc_begins_some.nd
  refine ⟨_,(pss_cons (ps_if (pt_cmpR op_eq (pv 0) pe_int (nomark _)) (pss_one (ps_ret (pe_cmpR op_eq (pv 1) pe_int (nomark _)))) pss_nil) (pss_cons (ps_set (i:=3) nd rfl (Or.inl rfl) (pv 0)) (pss_cons (ps_set (i:=4) nd rfl (Or.inl rfl) (pv 0)) (pss_cons (ps_while PassesOwn.never (pt_cmpR op_le (pv 3) (pv 2) (nomark _)) (pss_cons (ps_if (pt_cmpR op_ge (pv 4) (pv 1) (nomark _)) (pss_one (ps_ret pe_bl)) pss_nil) (pss_cons (ps_set (i:=3) nd rfl (Or.inl rfl) (pe_op op_mul (pv 3) pe_int)) (pss_one (ps_set (i:=4) nd rfl (Or.inl rfl) (pe_op op_add (pe_op op_mul (pv 4) pe_int) pe_int)))))) (pss_one (ps_ret pe_bl)))))),?_⟩
  walk_at "rd"
  split
  ·rename_i h
   have h0:v=0:=by lia
   subst h0
   rw [leads_zero] at q
   have e:decide ((lo:Int)=0)=(lo==0):=by
    by_cases z:lo=0 <;> simp [z]
   rw [e];exact q
  ·rename_i h
   have hv:v≠0:=by lia
   obtain ⟨W,hW⟩:∃ W:WT,W=fun m σ H'=>H'=H∧∃ L M k:Nat,σ=[some (.int v),some (.int lo),some (.int hi),some (.int L),some (.int M)]∧L=v * 10 ^ k∧M+1=(v+1) * 10 ^ k∧1≤L∧m=hi+1-L∧∀ j,j<k→¬ (v * 10 ^ j≤hi∧lo<(v+1) * 10 ^ j):=⟨_,rfl⟩
   refine ⟨W,⟨_,by rw [hW];exact ⟨rfl,v,v,0,rfl,by simp,by simp,by lia,rfl,fun j z=>absurd z (Nat.not_lt_zero j)⟩⟩,fun m σ H' hw=>?_⟩
   rw [hW] at hw
   obtain ⟨rfl,L,M,k,rfl,hL,hM,hL1,rfl,hno⟩:=hw
   walk_at "rd"
   split
   ·rename_i h1
    refine ⟨fun σ' H''=>∃ m',m' < hi+1-L∧W m' σ' H'',fun _ _ z=>z,?_⟩
    split
    ·rename_i h2
     rw [leads_true (k:=k) hv (by lia) (by lia) hhi] at q
     exact q
    ·rename_i h2
     refine ⟨.inr (by lia),.inr (by lia),hi+1-L * 10,by lia,?_⟩
     rw [hW]
     refine ⟨rfl,L * 10,M * 10+9,k+1,by simp,?_,?_,by lia,rfl,?_⟩
     ·rw [hL,Nat.pow_succ,Nat.mul_assoc]
     ·rw [Nat.pow_succ,← Nat.mul_assoc,← hM];lia
     ·intro j hj
      by_cases z:j=k
      ·subst z;lia
      ·exact hno j (by lia)
   ·rename_i h1
    rw [leads_false (k:=k) hv hno (by lia)] at q
    exact q
def sp_size_by_lead (K:PySem.W.Frag) (a:Ad):Sp:=fun vs H Q _=>∃ n:Int,vs=[.int n]∧Q (.int (sizeL n)) H
abbrev s_size_by_lead:Stmt:=top 22
theorem sc_size_by_lead:FnScope ["lead"] ["lead"] (defScope s_size_by_lead):=⟨rfl,rfl,rfl,by decide +kernel,rfl,by decide +kernel,by decide +kernel⟩
theorem ok_size_by_lead {f:Addr}{fd:FuncData} (F:Fun K "size_by_lead" "size_by_lead" s_size_by_lead f fd) (T:Txt K mg a):FnOk P w K mg base CX0 1 f fd ["lead"] (sp_size_by_lead K a):=by
 refine F.ok sc_size_by_lead (fun vs H Q E h=>?_) (fun cdv A outer s H vs Q E hr h=>?_)
 ·obtain ⟨n,rfl,q⟩:=h
  rfl
 ·obtain ⟨n,rfl,q⟩:=h
  have nd:=sc_size_by_lead.nd
  refine ⟨_,(pss_cons (ps_if (pt_cmpR op_lt (pv 0) pe_int (nomark _)) (pss_one (ps_ret pe_int)) pss_nil) (pss_cons (ps_if (pt_chain op_le op_le pe_int (pv 0) pe_int) (pss_one (ps_ret pe_int)) pss_nil) (pss_cons (ps_if (pt_chain op_le op_le pe_int (pv 0) pe_int) (pss_one (ps_ret pe_int)) pss_nil) (pss_cons (ps_if (pt_chain op_le op_le pe_int (pv 0) pe_int) (pss_one (ps_ret pe_int)) pss_nil) (pss_one (ps_ret pe_int)))))),?_⟩
  unfold sizeL at q
  walk_at "rd"
  (repeat' split) <;> (simp only [*,if_true,if_false,and_true,true_and,and_self,not_false_eq_true] at q ⊢) <;> first | exact q | (exfalso;lia) | (simp_all;done) | (rw [if_neg (by lia)] at q;exact q) | skip
def sp_bounds_behind (K:PySem.W.Frag) (a:Ad):Sp:=fun vs H Q _=>∃ n:Int,vs=[.int n]∧∀ p,H p=none→Q (.ref p) (upd H p (.tup [.int (blo n),.int (bhi n)]))
abbrev s_bounds_behind:Stmt:=top 23
theorem sc_bounds_behind:FnScope ["lead"] ["lead"] (defScope s_bounds_behind):=⟨rfl,rfl,rfl,by decide +kernel,rfl,by decide +kernel,by decide +kernel⟩
theorem ok_bounds_behind {f:Addr}{fd:FuncData} (F:Fun K "bounds_behind" "bounds_behind" s_bounds_behind f fd) (T:Txt K mg a):FnOk P w K mg base CX0 1 f fd ["lead"] (sp_bounds_behind K a):=by
 refine F.ok sc_bounds_behind (fun vs H Q E h=>?_) (fun cdv A outer s H vs Q E hr h=>?_)
 ·obtain ⟨n,rfl,q⟩:=h
  rfl
 ·obtain ⟨n,rfl,q⟩:=h
  have nd:=sc_bounds_behind.nd
  refine ⟨_,(pss_cons (ps_if (pt_cmpR op_eq (pv 0) pe_int (nomark _)) (pss_one (ps_ret (pe_tup (pa_cons pe_int (pa_cons pe_int pa_nil))))) pss_nil) (pss_cons (ps_if (pt_cmpR op_eq (pv 0) pe_int (nomark _)) (pss_one (ps_ret (pe_tup (pa_cons pe_int (pa_cons pe_int pa_nil))))) pss_nil) (pss_cons (ps_if (pt_cmpR op_eq (pv 0) pe_int (nomark _)) (pss_one (ps_ret (pe_tup (pa_cons pe_int (pa_cons pe_int pa_nil))))) pss_nil) (pss_cons (ps_if (pt_cmpR op_eq (pv 0) pe_int (nomark _)) (pss_one (ps_ret (pe_tup (pa_cons pe_int (pa_cons pe_int pa_nil))))) pss_nil) (pss_one (ps_ret (pe_tup (pa_cons pe_int (pa_cons pe_int pa_nil))))))))),?_⟩
  unfold blo bhi at q
  have z2:2≤sizeLine:=by decide
  walk_at "rd"
  (repeat' split) <;> refine ⟨z2,fun p hp=>?_⟩ <;> have q':=q p hp <;> simp_all
end
set_option hygiene false in
local macro_rules | `(tactic| walk_at "rdr")=>`(tactic| (try simp only [tSeq,tIfS,tOr,tAnd,tNot,tTest,tB,tOp,rI0,rI,tVar,tC,tChain,tRet,tRetN,tNext,tDrop,tAsg,gName,rEq,rNe,rIn,tAug,ipI,tCall,tCons,tNil,tUn,rU,tIf,tNotV,tAndV,tOrV,tCB,tRaise,tTup,tLst,L2.start,L2.cxOf,List.map_cons,List.map_nil,List.length_cons,List.length_nil,List.replicate,List.cons_append,List.nil_append,List.append_nil,Nat.sub_self,Nat.zero_add,Nat.add_sub_cancel,Nat.reduceAdd,Nat.reduceSub,List.getElem?_cons_zero,List.getElem?_cons_succ,List.set_cons_zero,List.set_cons_succ,Option.some.injEq,V.int.injEq,V.bl.injEq,V.ref.injEq,V.str.injEq,exists_eq_left',exists_and_left,exists_const,true_and,and_true,scal_ii,scal_ss,scal_bb,scal_nn,scal_in,decide_eq_true_eq,Bool.not_eq_true',decide_eq_false_iff_not,Bool.not_not,Bool.not_true,Bool.not_false,if_true,if_false,ite_true,ite_false,↓reduceIte,Bool.false_eq_true,List.cons.injEq,exists_eq_left,gTup,gCons,gNil,tBM,rAppend,rExtend,tSl,tNoPart,tPart,rSlL,tMake,tFld,tMeth,sFld,sFldAug,rAdd,rIxL,rIxT,hR,hR2,T.clReader,T.n_t,T.n_at,rf_t,rf_at,rf_put,rf_len,rf_no,HO.ins.injEq,and_assoc,upd_same]))
def rf (ta:Addr) (i:Int):List (Str×V):=[("t",.ref ta),("at",.int i)]
theorem rf_t (ta:Addr) (i:Int):(rf ta i).lookup ("t":Str)=some (.ref ta):=rfl
theorem rf_at (ta:Addr) (i:Int):(rf ta i).lookup ("at":Str)=some (.int i):=by
 unfold rf
 rw [List.lookup_cons,show (("at":Str)==("t":Str))=false from by decide]
 rfl
theorem rf_put (ta:Addr) (i j:Int):putF "at" (.int j) (rf ta i)=rf ta j:=by
 show (if ("t":Str)="at" then _ else _)=_
 rw [if_neg (by decide)]
 show _::(if ("at":Str)="at" then _ else _)=_
 rw [if_pos rfl]
 rfl
theorem rf_len (ta:Addr) (i:Int):(rf ta i).length=2:=rfl
theorem rf_no (ta:Addr) (i:Int) {m:Str} (h1:m≠"t") (h2:m≠"at"):(rf ta i).lookup m=none:=by
 unfold rf
 rw [List.lookup_cons,beq_eq_false_iff_ne.mpr h1]
 dsimp only
 rw [List.lookup_cons,beq_eq_false_iff_ne.mpr h2]
 rfl
theorem rf_peek (ta:Addr) (i:Int):(rf ta i).lookup ("peek":Str)=none:=rf_no ta i (by decide) (by decide)
theorem rf_sees (ta:Addr) (i:Int):(rf ta i).lookup ("sees":Str)=none:=rf_no ta i (by decide) (by decide)
theorem rf_take (ta:Addr) (i:Int):(rf ta i).lookup ("take":Str)=none:=rf_no ta i (by decide) (by decide)
theorem rf_take_end (ta:Addr) (i:Int):(rf ta i).lookup ("take_end":Str)=none:=rf_no ta i (by decide) (by decide)
theorem rf_take_digit (ta:Addr) (i:Int):(rf ta i).lookup ("take_digit":Str)=none:=rf_no ta i (by decide) (by decide)
theorem rf_take_number (ta:Addr) (i:Int):(rf ta i).lookup ("take_number":Str)=none:=rf_no ta i (by decide) (by decide)
theorem rf_take_character (ta:Addr) (i:Int):(rf ta i).lookup ("take_character":Str)=none:=rf_no ta i (by decide) (by decide)
theorem rf_take_long_letter (ta:Addr) (i:Int):(rf ta i).lookup ("take_long_letter":Str)=none:=rf_no ta i (by decide) (by decide)
theorem rf_take_thing (ta:Addr) (i:Int):(rf ta i).lookup ("take_thing":Str)=none:=rf_no ta i (by decide) (by decide)
theorem rf_ends_thing (ta:Addr) (i:Int):(rf ta i).lookup ("ends_thing":Str)=none:=rf_no ta i (by decide) (by decide)
theorem rf_take_head (ta:Addr) (i:Int):(rf ta i).lookup ("take_head":Str)=none:=rf_no ta i (by decide) (by decide)
theorem rf_take_things (ta:Addr) (i:Int):(rf ta i).lookup ("take_things":Str)=none:=rf_no ta i (by decide) (by decide)
def bsV (bs:List UInt8):List V:=bs.map fun c=>V.int (c.toNat:Int)
theorem bsV_at {bs:List UInt8}{p:Nat}{c:UInt8} (h:bs[p]?=some c):atI (bsV bs) (p:Int)=some (.int (c.toNat:Int)):=atI_nat (by unfold bsV;rw [List.getElem?_map,h];rfl)
theorem bsV_len (bs:List UInt8):(bsV bs).length=bs.length:=by unfold bsV;rw [List.length_map]
def Rdr (K:PySem.W.Frag) (a:Ad) (H:Hp) (r ta:Addr) (bs:List UInt8) (p:Nat):Prop:=∃ dx,H r=some (.ins a.CR dx (rf ta (p:Int)))∧SqL K H ta (bsV bs)∧ta≠r
section
variable {P:Program}{w:World}{K:PySem.W.Frag}{mg:Str→Option Value}{base:Heap}{a:Ad}
theorem Rdr.move {H H':Hp}{r dx ta:Addr}{bs:List UInt8}{p:Nat} (hS:SqL K H ta (bsV bs)) (ne:ta≠r) (k:Kp [r] H H') (e:H' r=some (.ins a.CR dx (rf ta (p:Int)))):Rdr K a H' r ta bs p :=
 ⟨dx,e,k.seq (by simpa using ne) hS,ne⟩
def sp_Reader_init (K:PySem.W.Frag) (a:Ad):Sp:=fun vs H Q _=>∃ (x dx ta:Addr) (bs:List UInt8),vs=[.ref x,.ref ta]∧H x=some (.ins a.CR dx [])∧SqL K H ta (bsV bs)∧ta≠x∧∀ H',Kp [x] H H'→Rdr K a H' x ta bs 0→Q .non H'
theorem rf_new (ta:Addr):putF "at" (.int 0) (putF "t" (.ref ta) [])=rf ta 0:=by
 show (if ("t":Str)="at" then _ else _)=_
 rw [if_neg (by decide)]
 rfl
abbrev s_Reader_init:Stmt:=inClass (top 24) 0
theorem sc_Reader_init:FnScope ["self","t"] ["self","t"] (defScope s_Reader_init):=⟨rfl,rfl,rfl,by decide +kernel,rfl,by decide +kernel,by decide +kernel⟩
theorem ok_Reader_init {f:Addr}{fd:FuncData} (F:Fun K "__init__" "Reader.__init__" s_Reader_init f fd) (T:Txt K mg a):FnOk P w K mg base CX0 1 f fd ["self","t"] (sp_Reader_init K a):=by
 refine F.ok sc_Reader_init (fun vs H Q E h=>?_) (fun cdv A outer s H vs Q E hr h=>?_)
 ·obtain ⟨x,dx,ta,bs,rfl,hR,hS,hne,q⟩:=h
  rfl
 ·obtain ⟨x,dx,ta,bs,rfl,hR,hS,hne,q⟩:=h
  have nd:=sc_Reader_init.nd
  refine ⟨_,(pss_cons (ps_fld (pv 0) (pv 1) rfl) (pss_one (ps_fld (pv 0) pe_int rfl))),?_⟩
  have hR2:=hR
  walk_at "rdr"
  have k:Kp [x] H (upd (upd H x (HO.ins a.CR dx (putF "t" (V.ref ta) []))) x (HO.ins a.CR dx (putF "at" (V.int 0) (putF "t" (V.ref ta) [])))):=(Kp.put (by simp)).trans (Kp.put (by simp))
  exact ⟨by decide,(by show 1<1000;decide),q _ k (Rdr.move (dx:=dx) hS hne k (by rw [upd_same,rf_new];rfl))⟩
def sp_Reader_peek (K:PySem.W.Frag) (a:Ad):Sp:=fun vs H Q _=>∃ (r ta:Addr) (bs:List UInt8) (p:Nat),vs=[.ref r]∧Rdr K a H r ta bs p∧Q (.int (pk bs p)) H
abbrev s_Reader_peek:Stmt:=inClass (top 24) 1
theorem sc_Reader_peek:FnScope ["self"] ["self"] (defScope s_Reader_peek):=⟨rfl,rfl,rfl,by decide +kernel,rfl,by decide +kernel,by decide +kernel⟩
theorem ok_Reader_peek {f:Addr}{fd:FuncData} (F:Fun K "peek" "Reader.peek" s_Reader_peek f fd) (T:Txt K mg a):FnOk P w K mg base CX0 1 f fd ["self"] (sp_Reader_peek K a):=by
 refine F.ok sc_Reader_peek (fun vs H Q E h=>?_) (fun cdv A outer s H vs Q E hr h=>?_)
 ·obtain ⟨r,ta,bs,p,rfl,⟨dx,hR,hS,hne⟩,q⟩:=h
  rfl
 ·obtain ⟨r,ta,bs,p,rfl,⟨dx,hR,hS,hne⟩,q⟩:=h
  have nd:=sc_Reader_peek.nd
  refine ⟨_,(pss_cons (ps_if (pt_cmpR op_lt (pe_fld (pv 0) rfl) (pe_callB call_len_seq rfl T.len PySem.boot_len (pa_cons (pe_fld (pv 0) rfl) pa_nil)) (nomark _)) (pss_one (ps_ret (pe_ix ix_list (pe_fld (pv 0) rfl) (pe_fld (pv 0) rfl) (fun _ _=>rfl)))) pss_nil) (pss_one (ps_ret (pe_gint T.cNO_BYTE)))),?_⟩
  have hR2:=hR
  walk_at "rdr"
  refine ⟨_,.inl hS,?_⟩
  rw [bsV_len]
  split
  ·rename_i h
   have hp:p<bs.length:=by lia
   have e:=List.getElem?_eq_getElem hp
   rw [pk_some e] at q
   exact ⟨_,hS,_,bsV_at e,q⟩
  ·rename_i h
   rw [pk_none.mpr (List.getElem?_eq_none (by lia))] at q
   exact q
def sp_Reader_sees (K:PySem.W.Frag) (a:Ad):Sp:=fun vs H Q _=>∃ (r ta:Addr) (bs:List UInt8) (p:Nat) (sg:Str) (n:Nat),vs=[.ref r,.str sg]∧Rdr K a H r ta bs p∧sg.length=1∧sg.cps.getD 0 0=n∧Q (.bl (decide (pk bs p=(n:Int)))) H
abbrev s_Reader_sees:Stmt:=inClass (top 24) 2
theorem sc_Reader_sees:FnScope ["self","sign"] ["self","sign"] (defScope s_Reader_sees):=⟨rfl,rfl,rfl,by decide +kernel,rfl,by decide +kernel,by decide +kernel⟩
theorem ok_Reader_sees {f:Addr}{fd:FuncData} (F:Fun K "sees" "Reader.sees" s_Reader_sees f fd) (T:Txt K mg a) (c_Reader_peek:MethC P w K mg base CX0 1 a.CR "peek" ["self"] (sp_Reader_peek K a)):FnOk P w K mg base CX0 2 f fd ["self","sign"] (sp_Reader_sees K a):=by
 refine F.ok sc_Reader_sees (fun vs H Q E h=>?_) (fun cdv A outer s H vs Q E hr h=>?_)
 ·obtain ⟨r,ta,bs,p,sg,n,rfl,⟨dx,hR,hS,hne⟩,h1,h2,q⟩:=h
  rfl
 ·obtain ⟨r,ta,bs,p,sg,n,rfl,⟨dx,hR,hS,hne⟩,h1,h2,q⟩:=h
  have nd:=sc_Reader_sees.nd
  refine ⟨_,(pss_one (ps_ret (pe_cmpR op_eq (pe_methC0 (pv 0) T.clReader c_Reader_peek hr pass0) (pe_callB call_ord rfl T.ord boot_ord (pa_cons (pv 1) pa_nil)) (nomark _)))),?_⟩
  have hR2:=hR
  walk_at "rdr"
  refine ⟨rf_peek _ _,r,ta,bs,p,rfl,⟨dx,hR,hS,hne⟩,?_⟩
  walk_at "rdr"
  refine ⟨h1,?_⟩
  rw [h2]
  exact q
def Out (K:PySem.W.Frag) (a:Ad) (H:Hp) (r ta:Addr) (bs:List UInt8) (p:Nat) {α:Type} (rd:Vh.Rd α) (Q:α→Hp→Prop) (E:XK):Prop :=
 (∀ x p' H',rd p (bs.drop p)=.ok (x,p',bs.drop p')→Kp [r] H H'→Rdr K a H' r ta bs p'→Q x H')∧∀ p' H',rd p (bs.drop p)=.error p'→Rdr K a H' r ta bs p'→E (.ref a.CE) none H'
def sp_Reader_take (K:PySem.W.Frag) (a:Ad):Sp:=fun vs H Q E=>∃ (r ta:Addr) (bs:List UInt8) (p:Nat) (sg:Str) (c:UInt8),vs=[.ref r,.str sg]∧Rdr K a H r ta bs p∧sg.length=1∧sg.cps.getD 0 0=c.toNat∧Out K a H r ta bs p (Vh.byte_ c) (fun _ H'=>Q .non H') E
abbrev s_Reader_take:Stmt:=inClass (top 24) 3
theorem sc_Reader_take:FnScope ["self","sign"] ["self","sign"] (defScope s_Reader_take):=⟨rfl,rfl,rfl,by decide +kernel,rfl,by decide +kernel,by decide +kernel⟩
theorem ok_Reader_take {f:Addr}{fd:FuncData} (F:Fun K "take" "Reader.take" s_Reader_take f fd) (T:Txt K mg a) (c_Reader_sees:MethC P w K mg base CX0 2 a.CR "sees" ["self","sign"] (sp_Reader_sees K a)):FnOk P w K mg base (CX1 P w a.CE) 3 f fd ["self","sign"] (sp_Reader_take K a):=by
 refine F.okE sc_Reader_take (fun vs H Q E h=>?_) (fun cdv A outer s H vs Q E hr h=>?_)
 ·obtain ⟨r,ta,bs,p,sg,c,rfl,⟨dx,hR,hS,hne⟩,h1,h2,q1,q2⟩:=h
  rfl
 ·obtain ⟨r,ta,bs,p,sg,c,rfl,⟨dx,hR,hS,hne⟩,h1,h2,q1,q2⟩:=h
  have nd:=sc_Reader_take.nd
  refine ⟨_,(pss_cons (ps_if (pt_not (pt_val (pe_methC (pv 0) T.clReader c_Reader_sees hr pass0 (pa_cons (pv 1) pa_nil)))) (pss_one (ps_raise T.exc rfl (pa_cons pe_str pa_nil))) pss_nil) (pss_one (ps_fldaug (pv 0) pe_int in_add))),?_⟩
  have hR2:=hR
  walk_at "rdr"
  refine ⟨rf_sees _ _,r,ta,bs,p,sg,_,rfl,⟨dx,hR,hS,hne⟩,h1,h2,?_⟩
  walk_at "rdr"
  split
  ·rename_i h
   exact ⟨by decide,q2 p H (byte_no h) ⟨dx,hR,hS,hne⟩⟩
  ·rename_i h
   have h:=Decidable.not_not.mp h
   refine ⟨by decide,q1 () (p+1) _ (byte_ok h) (Kp.put (by simp)) (Rdr.move (dx:=dx) hS hne (Kp.put (by simp)) ?_)⟩
   rw [upd_same];rfl
def sp_Reader_take_end (K:PySem.W.Frag) (a:Ad):Sp:=fun vs H Q E=>∃ (r ta:Addr) (bs:List UInt8) (p:Nat),vs=[.ref r]∧Rdr K a H r ta bs p∧(bs[p]?=none→Q .non H)∧(bs[p]?≠none→E (.ref a.CE) none H)
abbrev s_Reader_take_end:Stmt:=inClass (top 24) 4
theorem sc_Reader_take_end:FnScope ["self"] ["self"] (defScope s_Reader_take_end):=⟨rfl,rfl,rfl,by decide +kernel,rfl,by decide +kernel,by decide +kernel⟩
theorem ok_Reader_take_end {f:Addr}{fd:FuncData} (F:Fun K "take_end" "Reader.take_end" s_Reader_take_end f fd) (T:Txt K mg a) (c_Reader_peek:MethC P w K mg base CX0 1 a.CR "peek" ["self"] (sp_Reader_peek K a)):FnOk P w K mg base (CX1 P w a.CE) 2 f fd ["self"] (sp_Reader_take_end K a):=by
 refine F.okE sc_Reader_take_end (fun vs H Q E h=>?_) (fun cdv A outer s H vs Q E hr h=>?_)
 ·obtain ⟨r,ta,bs,p,rfl,⟨dx,hR,hS,hne⟩,q1,q2⟩:=h
  rfl
 ·obtain ⟨r,ta,bs,p,rfl,⟨dx,hR,hS,hne⟩,q1,q2⟩:=h
  have nd:=sc_Reader_take_end.nd
  refine ⟨_,(pss_one (ps_if (pt_cmpR op_ne (pe_methC0 (pv 0) T.clReader c_Reader_peek hr pass0) (pe_gint T.cNO_BYTE) (nomark _)) (pss_one (ps_raise T.exc rfl (pa_cons pe_str pa_nil))) pss_nil)),?_⟩
  have hR2:=hR
  walk_at "rdr"
  refine ⟨rf_peek _ _,r,ta,bs,p,rfl,⟨dx,hR,hS,hne⟩,?_⟩
  walk_at "rdr"
  split
  ·rename_i h
   exact ⟨by decide,q2 fun z=>h (pk_none.mpr z)⟩
  ·rename_i h
   exact q1 (pk_none.mp (Decidable.not_not.mp h))
def sp_Reader_take_digit (K:PySem.W.Frag) (a:Ad):Sp:=fun vs H Q E=>∃ (r ta:Addr) (bs:List UInt8) (p v lo hi:Nat),vs=[.ref r,.int v,.int lo,.int hi]∧Rdr K a H r ta bs p∧hi<10 ^ 11 ∧
 (∀ n H',dig bs lo hi v p=some n→Kp [r] H H'→Rdr K a H' r ta bs (p+1)→Q (.int n) H')∧(dig bs lo hi v p=none→E (.ref a.CE) none H)
abbrev s_Reader_take_digit:Stmt:=inClass (top 24) 5
theorem sc_Reader_take_digit:FnScope ["self","value","low","high","digit"] ["self","value","low","high"] (defScope s_Reader_take_digit):=⟨rfl,rfl,rfl,by decide +kernel,rfl,by decide +kernel,by decide +kernel⟩
theorem ok_Reader_take_digit {f:Addr}{fd:FuncData} (F:Fun K "take_digit" "Reader.take_digit" s_Reader_take_digit f fd) (T:Txt K mg a) (c_Reader_peek:MethC P w K mg base CX0 1 a.CR "peek" ["self"] (sp_Reader_peek K a)) (c_begins_some:FnC P w K mg base CX0 1 "begins_some" ["value","low","high"] (sp_begins_some K a)):FnOk P w K mg base (CX1 P w a.CE) 2 f fd ["self","value","low","high"] (sp_Reader_take_digit K a):=by
 refine F.okE sc_Reader_take_digit (fun vs H Q E h=>?_) (fun cdv A outer s H vs Q E hr h=>?_)
 ·obtain ⟨r,ta,bs,p,v,lo,hi,rfl,⟨dx,hR,hS,hne⟩,hhi,q1,q2⟩:=h
  rfl
 ·obtain ⟨r,ta,bs,p,v,lo,hi,rfl,⟨dx,hR,hS,hne⟩,hhi,q1,q2⟩:=h
  have nd:=sc_Reader_take_digit.nd
  refine ⟨_,(pss_cons (ps_set (i:=4) nd rfl (Or.inl rfl) (pe_op op_sub (pe_methC0 (pv 0) T.clReader c_Reader_peek hr pass0) pe_int)) (pss_cons (ps_if (PW.pt (pw_or (pt_not (pt_chain op_le op_le pe_int (pv 4) pe_int)) (pw_or1 (pt_not (pt_val (pe_callC c_begins_some hr pass0 (pa_cons (pe_op op_add (pe_op op_mul (pv 1) pe_int) (pv 4)) (pa_cons (pv 2) (pa_cons (pv 3) pa_nil))))))))) (pss_one (ps_raise T.exc rfl (pa_cons pe_str pa_nil))) pss_nil) (pss_cons (ps_fldaug (pv 0) pe_int in_add) (pss_one (ps_ret (pe_op op_add (pe_op op_mul (pv 1) pe_int) (pv 4))))))),?_⟩
  have hR2:=hR
  walk_at "rdr"
  refine ⟨rf_peek _ _,r,ta,bs,p,rfl,⟨dx,hR,hS,hne⟩,?_⟩
  walk_at "rdr"
  by_cases h1:48≤pk bs p∧pk bs p≤57
  ·rw [if_pos (by lia),if_neg (by lia)]
   have e:((v:Int) * 10+(pk bs p-48))=((v * 10+(pk bs p-48).toNat:Nat):Int):=by lia
   refine ⟨.inr (by lia),v * 10+(pk bs p-48).toNat,lo,hi,by rw [e],hhi,?_⟩
   walk_at "rdr"
   split
   ·rename_i h2
    refine ⟨by decide,q2 ?_⟩
    unfold dig
    rw [if_neg (fun z=>by rw [h2] at z;exact Bool.false_ne_true z.2.2)]
   ·rename_i h2
    rw [e]
    refine ⟨by decide,.inr (by lia),q1 _ _ ?_ (Kp.put (by simp)) (Rdr.move (dx:=dx) hS hne (Kp.put (by simp)) (by rw [upd_same];rfl))⟩
    unfold dig
    rw [if_pos ⟨h1.1,h1.2,by simpa using h2⟩]
  ·have no:dig bs lo hi v p=none:=by
    unfold dig
    rw [if_neg (fun z=>h1 ⟨z.1,z.2.1⟩)]
   split
   ·rw [if_pos (by lia)]
    exact ⟨by decide,q2 no⟩
   ·exact ⟨by decide,q2 no⟩
def sp_Reader_take_number (K:PySem.W.Frag) (a:Ad):Sp:=fun vs H Q E=>∃ (r ta:Addr) (bs:List UInt8) (p lo hi:Nat),vs=[.ref r,.int lo,.int hi]∧Rdr K a H r ta bs p∧hi<10 ^ 11 ∧
 (∀ x p' H',Vh.num lo hi p (bs.drop p)=.ok (x,p',bs.drop p')→lo≤x→x≤hi→Kp [r] H H'→Rdr K a H' r ta bs p'→Q (.int (x:Nat)) H') ∧
 (∀ p' H',(Vh.num lo hi p (bs.drop p)=.error p'∨∃ x,Vh.num lo hi p (bs.drop p)=.ok (x,p',bs.drop p')∧48≤pk bs p'∧pk bs p'≤57)→Rdr K a H' r ta bs p'→E (.ref a.CE) none H')
abbrev s_Reader_take_number:Stmt:=inClass (top 24) 6
theorem sc_Reader_take_number:FnScope ["self","low","high","value"] ["self","low","high"] (defScope s_Reader_take_number):=⟨rfl,rfl,rfl,by decide +kernel,rfl,by decide +kernel,by decide +kernel⟩
theorem ok_Reader_take_number {f:Addr}{fd:FuncData} (F:Fun K "take_number" "Reader.take_number" s_Reader_take_number f fd) (T:Txt K mg a) (c_Reader_take_digit:MethC P w K mg base (CX1 P w a.CE) 2 a.CR "take_digit" ["self","value","low","high"] (sp_Reader_take_digit K a)) (c_Reader_peek:MethC P w K mg base CX0 1 a.CR "peek" ["self"] (sp_Reader_peek K a)):FnOk P w K mg base (CX1 P w a.CE) 3 f fd ["self","low","high"] (sp_Reader_take_number K a):=by
 refine F.okE sc_Reader_take_number (fun vs H Q E h=>?_) (fun cdv A outer s H vs Q E hr h=>?_)
 ·obtain ⟨r,ta,bs,p,lo,hi,rfl,⟨dx,hR,hS,hne⟩,hhi,q1,q2⟩:=h
  rfl
 ·obtain ⟨r,ta,bs,p,lo,hi,rfl,⟨dx,hR,hS,hne⟩,hhi,q1,q2⟩:=h
  have nd:=sc_Reader_take_number.nd
  refine ⟨_,(pss_cons (ps_set (i:=3) nd rfl (Or.inl rfl) (pe_methC (pv 0) T.clReader c_Reader_take_digit hr passX (pa_cons pe_int (pa_cons (pv 1) (pa_cons (pv 2) pa_nil))))) (pss_cons (ps_while PassesOwn.leaving (PW.pt (pw_and (pt_cmpR op_gt (pv 3) pe_int (nomark _)) (pw_and1 (pt_chain op_le op_le pe_int (pe_methC0 (pv 0) T.clReader c_Reader_peek hr pass0) pe_int)))) (pss_one (ps_set (i:=3) nd rfl (Or.inl rfl) (pe_methC (pv 0) T.clReader c_Reader_take_digit hr passX (pa_cons (pv 3) (pa_cons (pv 1) (pa_cons (pv 2) pa_nil))))))) (pss_cons (ps_if (pt_cmpR op_lt (pv 3) (pv 1) (nomark _)) (pss_one (ps_raise T.exc rfl (pa_cons pe_str pa_nil))) pss_nil) (pss_one (ps_ret (pv 3)))))),?_⟩
  have hR2:=hR
  walk_at "rdr"
  refine ⟨rf_take_digit _ _,r,ta,bs,p,0,lo,hi,rfl,⟨dx,hR,hS,hne⟩,hhi,fun n H1 hn k1 R1=>?_,fun hn=>q2 p H (.inl (num_none hn)) ⟨dx,hR,hS,hne⟩⟩
  obtain ⟨W,hW⟩:∃ W:WT,W=fun m σ H'=>∃ v p',σ=[some (.ref r),some (.int lo),some (.int hi),some (.int (v:Nat))]∧Rdr K a H' r ta bs p'∧Kp [r] H H'∧v≤hi∧m=hi+1-v ∧
   (v=0→Vh.num lo hi p (bs.drop p)=if lo=0 then .ok (0,p',bs.drop p') else .error p')∧(v≠0→∃ f,NumAt bs lo hi p v p' f):=⟨_,rfl⟩
  walk_at "rd"
  refine ⟨W,⟨_,by
   rw [hW]
   refine ⟨n,p+1,rfl,R1,k1,(dig_le hn).1,rfl,fun z=>?_,fun z=>⟨19,num_first hn,(dig_le hn).1,by lia⟩⟩
   rw [num_first hn,z,digits_zero]⟩,fun m σ H2 hw=>?_⟩
  rw [hW] at hw
  obtain ⟨v,p2,rfl,⟨dx2,hR,hS,hne⟩,k2,hv,rfl,hz,hnz⟩:=hw
  have hR2:=hR
  walk_at "rdr"
  split
  ·rename_i h0
   have hv0:v≠0:=by lia
   obtain ⟨f,N⟩:=hnz hv0
   have hf:1≤f:=by
    cases f with
    | zero=>have:=N.big;lia
    | succ f=>lia
   obtain ⟨f,rfl⟩:∃ g,f=g+1:=⟨f-1,by lia⟩
   have eq:=N.eq
   rw [digits_succ lo hi f (some v) bs p2 (by simp [hv0])] at eq
   have eq:Vh.num lo hi p (bs.drop p)=match dig bs lo hi v p2 with | some n=>Vh.digits lo hi f (some n) (p2+1) (bs.drop (p2+1)) | none=>if lo≤v∧v≤hi then .ok (v,p2,bs.drop p2) else .error p2:=eq
   refine ⟨rf_peek _ _,r,ta,bs,p2,rfl,⟨dx2,hR,hS,hne⟩,?_⟩
   walk_at "rdr"
   have stop:dig bs lo hi v p2=none→Rdr K a H2 r ta bs p2→if (v:Int)<lo then 1≤sizeLine∧E (.ref a.CE) none H2 else Q (.int v) H2:=fun hd R=>by
    rw [hd] at eq
    dsimp only at eq
    split
    ·rename_i h1
     rw [if_neg (by lia)] at eq
     exact ⟨by decide,q2 p2 H2 (.inl eq) R⟩
    ·rename_i h1
     rw [if_pos ⟨by lia,hv⟩] at eq
     exact q1 v p2 H2 eq (by lia) hv k2 R
   by_cases hd:48≤pk bs p2∧pk bs p2≤57
   ·rw [if_pos hd.1,if_pos hd.2]
    refine ⟨fun σ' H'=>∃ m',m' < hi+1-v∧W m' σ' H',fun _ _ z=>z,rf_take_digit _ _,r,ta,bs,p2,v,lo,hi,rfl,⟨dx2,hR,hS,hne⟩,hhi,fun n H3 hn k3 R3=>?_,fun hn=>?_⟩
    ·walk_at "rd"
     rw [hn] at eq
     have b:=dig_le hn
     refine ⟨hi+1-n,by lia,?_⟩
     rw [hW]
     refine ⟨n,p2+1,rfl,R3,k2.trans k3,b.1,rfl,fun z=>by lia,fun _=>⟨f,eq,b.1,?_⟩⟩
     have h1:=N.big
     have h2:=Nat.mul_le_mul_right (10 ^ f * 10) b.2.1
     have e1:v * 10 ^ (f+1) * 10=v * 10 * (10 ^ f * 10):=by rw [Nat.pow_succ];simp only [Nat.mul_assoc,Nat.mul_comm,Nat.mul_left_comm]
     have e2:n * 10 ^ f * 10=n * (10 ^ f * 10):=by rw [Nat.mul_assoc]
     lia
    ·rw [hn] at eq
     dsimp only at eq
     by_cases h1:lo≤v∧v≤hi
     ·rw [if_pos h1] at eq
      exact q2 p2 H2 (.inr ⟨v,eq,hd⟩) ⟨dx2,hR,hS,hne⟩
     ·rw [if_neg h1] at eq
      exact q2 p2 H2 (.inl eq) ⟨dx2,hR,hS,hne⟩
   ·have no:dig bs lo hi v p2=none:=by
     unfold dig
     rw [if_neg (fun z=>hd ⟨z.1,z.2.1⟩)]
    have st:=stop no ⟨dx2,hR,hS,hne⟩
    split
    ·rw [if_neg (by lia)]
     exact st
    ·exact st
  ·rename_i h0
   have hv0:v=0:=by lia
   have eq:=hz hv0
   subst hv0
   split
   ·rename_i h1
    rw [if_neg (by lia)] at eq
    exact ⟨by decide,q2 p2 H2 (.inl eq) ⟨dx2,hR,hS,hne⟩⟩
   ·rename_i h1
    rw [if_pos (by lia)] at eq
    exact q1 0 p2 H2 eq (by lia) (by lia) k2 ⟨dx2,hR,hS,hne⟩
end
local macro_rules | `(tactic| walk_at "gs")=>`(tactic| (try dsimp only [L2.start,L2.cxE,L2.cxOf,List.map,List.length_cons,List.length_nil,List.replicate,List.cons_append,List.nil_append,Nat.sub_self,Nat.zero_add,Nat.add_sub_cancel,Nat.reduceAdd,Nat.reduceSub]))
set_option hygiene false in
local macro_rules | `(tactic| walk_at "g1")=>`(tactic| with_reducible first | refine g_hold fun M hM=>?_ | refine g_v0 ?_ | refine g_v1 ?_ | refine g_v2 ?_ | refine g_v3 ?_ | refine g_nx ?_ | refine g_next ?_ | refine g_ret ?_ | refine g_drop ?_ | refine g_asg ?_ | refine g_op ?_ | refine g_C ?_ | refine g_rI0 ?_ | refine g_cons ?_ | refine g_nil ?_ | refine g_call ?_ | refine g_CB ?_ | refine g_BM ?_ | refine g_ifS ?_ | refine g_test ?_ | refine g_B ?_ | refine g_exB ?_ | refine g_exI ?_ | refine g_l1R ?_ | refine g_l2I ?_ | refine g_iteT ?_ | refine g_iteF ?_ | refine g_iteD ?_ | refine g_eqI ?_ | refine g_iteND ?_ | refine g_iteN ?_ | refine g_and ?_ | refine g_or ?_ | refine g_not ?_ | refine g_rI ?_ | refine g_chain ?_ | refine g_ipI ?_ | refine g_rAdd ?_ | refine g_raise ?_ | refine g_tup ?_ | refine g_lst ?_ | refine g_append ?_ | refine g_extend ?_ | refine g_sl ?_ | refine g_noPart ?_ | refine g_part ?_ | refine g_slL ?_ | refine g_make ?_ | refine g_fld ?_ | refine g_meth ?_ | refine g_sfld ?_ | refine g_sfldaug ?_ | refine g_ixL ?_ | refine g_ixT ?_ | refine g_rt ?_ | refine g_yes ?_ | refine g_n1 ?_ | refine g_n2 ?_ | refine g_n3 ?_ | refine g_n4 ?_ | refine g_n5 ?_ | refine g_n6 ?_ | refine g_v4 ?_ | refine g_v5 ?_ | refine g_v6 ?_ | refine g_a2 ?_ | refine g_a3 ?_ | refine hM _ _ _ ?_)
set_option hygiene false in
local macro_rules | `(tactic| walk_at "g2")=>`(tactic| with_reducible first | refine g_meth1 hR (by first | exact rf_peek _ _ | exact rf_sees _ _ | exact rf_take _ _ | exact rf_take_number _ _ | exact rf_take_thing _ _ | exact rf_take_things _ _ | exact rf_take_digit _ _ | exact rf_take_character _ _ | exact rf_take_long_letter _ _ | exact rf_take_end _ _ | exact rf_ends_thing _ _ | exact rf_take_head _ _) ?_ | refine g_fld1 hR T.clReader (by first | exact T.n_t | exact T.n_at) (by first | exact rf_t _ _ | exact rf_at _ _) ?_ | refine g_sfldaug1 hR T.clReader T.n_at (rf_at _ _) ?_ | refine g_aug2 hR ?_ | refine g_sfld1 hR T.clReader (by first | exact T.n_t | exact T.n_at) ?_ | refine g_meth1 hR2 (by first | exact rf_peek _ _ | exact rf_sees _ _ | exact rf_take _ _ | exact rf_take_number _ _ | exact rf_take_thing _ _ | exact rf_take_things _ _ | exact rf_take_digit _ _ | exact rf_take_character _ _ | exact rf_take_long_letter _ _ | exact rf_take_end _ _ | exact rf_ends_thing _ _ | exact rf_take_head _ _) ?_ | refine g_fld1 hR2 T.clReader (by first | exact T.n_t | exact T.n_at) (by first | exact rf_t _ _ | exact rf_at _ _) ?_ | refine g_sfldaug1 hR2 T.clReader T.n_at (rf_at _ _) ?_ | refine g_aug2 hR2 ?_ | refine g_sfld1 hR2 T.clReader (by first | exact T.n_t | exact T.n_at) ?_)
local macro_rules | `(tactic| walk_at "gr")=>`(tactic| repeat (first | walk_at "g1" | walk_at "g2"))
section
variable {P:Program}{w:World}{K:PySem.W.Frag}{mg:Str→Option Value}{base:Heap}{a:Ad}
theorem atBase {n:Nat}:atI [V.int 192,V.int 224,V.int 240] ((moreL n:Int)+1-2)=some (.int (baseL n:Int)):=by
 unfold moreL baseL
 split
 ·rfl
 ·split <;> rfl
def sp_Reader_take_long_letter (K:PySem.W.Frag) (a:Ad):Sp:=fun vs H Q E=>∃ (r ta:Addr) (bs:List UInt8) (p:Nat) (c:UInt8),vs=[.ref r,.int (c.toNat:Int),.int ((moreL c.toNat:Int)+1)]∧Rdr K a H r ta bs p∧bs[p]?=some c∧194≤c.toNat∧c.toNat≤244 ∧
 Out K a H r ta bs p Vh.letter_ (fun x H'=>Q (.int (x:Nat)) H') E
abbrev s_Reader_take_long_letter:Stmt:=inClass (top 24) 9
theorem sc_Reader_take_long_letter:FnScope ["self","lead","size","value","bounds","left","byte"] ["self","lead","size"] (defScope s_Reader_take_long_letter):=⟨rfl,rfl,rfl,by decide +kernel,rfl,by decide +kernel,by decide +kernel⟩
theorem ok_Reader_take_long_letter {f:Addr}{fd:FuncData} (F:Fun K "take_long_letter" "Reader.take_long_letter" s_Reader_take_long_letter f fd) (T:Txt K mg a) (c_bounds_behind:FnC P w K mg base CX0 1 "bounds_behind" ["lead"] (sp_bounds_behind K a)) (c_Reader_peek:MethC P w K mg base CX0 1 a.CR "peek" ["self"] (sp_Reader_peek K a)) (c_is_letter:FnC P w K mg base CX0 1 "is_letter" ["character"] (sp_is_letter K a)):FnOk P w K mg base (CX1 P w a.CE) 2 f fd ["self","lead","size"] (sp_Reader_take_long_letter K a):=by
 refine F.okE sc_Reader_take_long_letter (fun vs H Q E h=>?_) (fun cdv A outer s H vs Q E hr h=>?_)
 ·obtain ⟨r,ta,bs,p,c,rfl,⟨dx,hR,hS,hne⟩,hc,h1,h2,q1,q2⟩:=h
  rfl
 ·obtain ⟨r,ta,bs,p,c,rfl,⟨dx,hR,hS,hne⟩,hc,h1,h2,q1,q2⟩:=h
  have nd:=sc_Reader_take_long_letter.nd
  refine ⟨_,(pss_cons (ps_fldaug (pv 0) pe_int in_add) (pss_cons (ps_set (i:=3) nd rfl (Or.inl rfl) (pe_op op_sub (pv 1) (pe_ix ix_tup (pe_tup (pa_cons pe_int (pa_cons pe_int (pa_cons pe_int pa_nil)))) (pe_op op_sub (pv 2) pe_int) (fun _ _=>rfl)))) (pss_cons (ps_set (i:=4) nd rfl (Or.inl rfl) (pe_callC c_bounds_behind hr pass0 (pa_cons (pv 1) pa_nil))) (pss_cons (ps_for PassesOwn.leaving rfl (pi_range3 rfl T.range (pa_cons (pe_op op_sub (pv 2) pe_int) (pa_cons (pe_un un_neg pe_int) (pa_cons (pe_un un_neg pe_int) pa_nil)))) (pg_name (i:=5) nd rfl (Or.inl rfl)) (pss_cons (ps_set (i:=6) nd rfl (Or.inl rfl) (pe_methC0 (pv 0) T.clReader c_Reader_peek hr pass0)) (pss_cons (ps_if (pt_not (pt_chain op_le op_le (pe_ix ix_tup (pv 4) pe_int (fun _ _=>rfl)) (pv 6) (pe_ix ix_tup (pv 4) pe_int (fun _ _=>rfl)))) (pss_one (ps_raise T.exc rfl (pa_cons pe_str pa_nil))) pss_nil) (pss_cons (ps_set (i:=3) nd rfl (Or.inl rfl) (pe_op op_sub (pe_op op_add (pe_op op_mul (pv 3) pe_int) (pv 6)) pe_int)) (pss_cons (ps_if (PW.pt (pw_and (pt_cmpR op_eq (pv 5) pe_int (nomark _)) (pw_and1 (pt_not (pt_val (pe_callC c_is_letter hr pass0 (pa_cons (pv 3) pa_nil))))))) (pss_one (ps_raise T.exc rfl (pa_cons pe_str pa_nil))) pss_nil) (pss_cons (ps_fldaug (pv 0) pe_int in_add) (pss_one (ps_set (i:=4) nd rfl (Or.inl rfl) (pe_tup (pa_cons pe_int (pa_cons pe_int pa_nil))))))))))) (pss_one (ps_ret (pv 3))))))),?_⟩
  walk_at "gs"
  have hR2:=hR
  have hlong:=long_letter hc h1 h2
  have z3:3≤sizeLine:=by decide
  have z2:2≤sizeLine:=by decide
  walk_at "gr"
  refine ⟨(show 2<1000 by decide),?_⟩
  walk_at "gr"
  refine ⟨z3,fun t1 ht1=>?_⟩
  walk_at "gr"
  refine ⟨_,.inl (.inl upd_same),_,atBase,?_⟩
  walk_at "gr"
  refine ⟨_,rfl,fun t2 ht2=>?_⟩
  walk_at "gr"
  have m3:moreL c.toNat≤3∧1≤moreL c.toNat:=by unfold moreL;split <;> (try split) <;> lia
  have ne1:t1≠r:=fun z=>by rw [z,upd_same] at ht1;cases ht1
  have ne2:t2≠r:=fun z=>by rw [z,upd_ne (Ne.symm ne1),upd_same] at ht2;cases ht2
  obtain ⟨Pv,hP⟩:∃ Pv:WT,Pv=fun i σ H'=>∃ (v:Nat) (lo hi:Int) (b:Addr) (p':Nat) (o1 o2:Option V),
   σ=[some (.ref r),some (.int (c.toNat:Int)),some (.int ((moreL c.toNat:Int)+1)),some (.int (v:Int)),some (.ref b),o1,o2]∧Rdr K a H' r ta bs p'∧Kp [r] H H'∧H' b=some (.tup [.int lo,.int hi])∧128≤lo∧hi≤191 ∧
   longR bs (moreL c.toNat) (c.toNat-baseL c.toNat) (blo c.toNat) (bhi c.toNat) (p+1)=longR bs (moreL c.toNat-i) v lo hi p':=⟨_,rfl⟩
  walk_at "gr"
  refine ⟨_,rfl,_,_,rfl,rfl,_,rfl,_,rfl,_,_,_,_,rfl,RgC.neg (by lia) (by lia) (by lia) (by lia),for_rangeC Pv ?_ ?_ ?_⟩
  ·have e:((c.toNat:Int)-(baseL c.toNat:Int))=((c.toNat-baseL c.toNat:Nat):Int):=by unfold baseL;split <;> (try split) <;> lia
   have k1:Kp [r] H (upd (upd (upd H r (HO.ins a.CR dx (rf ta ((p:Int)+1)))) t1 (HO.tup [V.int 192,V.int 224,V.int 240])) t2 (HO.tup [V.int (blo c.toNat),V.int (bhi c.toNat)])) :=
    ((Kp.put (by simp)).trans (Kp.new ht1)).trans (Kp.new ht2)
   rw [hP]
   walk_at "gr"
   refine ⟨_,_,_,t2,p+1,none,none,by rw [e],Rdr.move (dx:=dx) hS hne k1 (by rw [upd_ne (Ne.symm ne2),upd_ne (Ne.symm ne1),upd_same];rfl),k1,upd_same,?_,?_,rfl⟩
   ·unfold blo;split <;> (try split) <;> lia
   ·unfold bhi;split <;> (try split) <;> lia
  ·intro i σ H2 hi hw
   rw [hP] at hw
   obtain ⟨v,lo,hi',b,p2,o1,o2,rfl,⟨dx2,hR,hS,hne⟩,k2,hb,l1,l2,eq⟩:=hw
   have hi:i<moreL c.toNat:=by lia
   obtain ⟨m,hm⟩:∃ m,moreL c.toNat-i=m+1:=⟨moreL c.toNat-i-1,by lia⟩
   rw [hm] at eq
   rw [eq] at hlong
   have hR2:=hR
   have R:Rdr K a H2 r ta bs p2:=⟨dx2,hR,hS,hne⟩
   walk_at "gr"
   refine ⟨r,ta,bs,p2,rfl,R,?_⟩
   walk_at "gr"
   walk_at "gr"
   refine ⟨_,.inl (.inl hb),_,rfl,_,rfl,?_⟩
   walk_at "gr"
   by_cases hin:lo≤pk bs p2∧pk bs p2≤hi'
   ·rw [if_pos hin.1]
    walk_at "gr"
    refine ⟨_,.inl (.inl hb),_,rfl,?_⟩
    walk_at "gr"
    rw [if_neg (by lia)]
    walk_at "gr"
    refine ⟨.inr (by lia),?_⟩
    walk_at "gr"
    have ev:((v:Int) * 64+pk bs p2-128)=((v * 64+((pk bs p2).toNat-128):Nat):Int):=by lia
    simp only [ev]
    rw [longR,if_pos hin] at eq hlong
    have nxt:¬ (m=0∧isL ((v * 64+((pk bs p2).toNat-128):Nat):Int)=false)→2<1000∧2≤sizeLine∧∀ t,upd H2 r (HO.ins a.CR dx2 (rf ta ((p2:Int)+1))) t=none →
      Pv (i+1) [some (V.ref r),some (V.int (c.toNat:Int)),some (V.int ((moreL c.toNat:Int)+1)),some (V.int ((v * 64+((pk bs p2).toNat-128):Nat):Int)),some (V.ref t),some (V.int ((moreL c.toNat:Int)+1-2+(i:Int) * -1)),some (V.int (pk bs p2))]
       (upd (upd H2 r (HO.ins a.CR dx2 (rf ta ((p2:Int)+1)))) t (HO.tup [V.int 128,V.int 191])):=fun hno=>by
     walk_at "gr"
     refine ⟨by decide,z2,fun t ht=>?_⟩
     walk_at "gr"
     rw [if_neg hno] at eq
     have net:t≠r:=fun z=>by rw [z,upd_same] at ht;cases ht
     have k3:Kp [r] H2 (upd (upd H2 r (HO.ins a.CR dx2 (rf ta ((p2:Int)+1)))) t (HO.tup [V.int 128,V.int 191])):=(Kp.put (by simp)).trans (Kp.new ht)
     rw [hP]
     exact ⟨_,128,191,t,p2+1,_,_,rfl,Rdr.move (dx:=dx2) hS hne k3 (by rw [upd_ne (Ne.symm net),upd_same];rfl),k2.trans k3,upd_same,by lia,by lia,by rw [eq,show moreL c.toNat-(i+1)=m by lia]⟩
    split
    ·rename_i h0
     walk_at "gr"
     refine ⟨_,rfl,?_⟩
     walk_at "gr"
     walk_at "gr"
     split
     ·rename_i h5
      rw [if_pos ⟨by lia,h5⟩] at hlong
      exact ⟨by decide,q2 p2 H2 hlong R⟩
     ·rename_i h5
      walk_at "gr"
      refine ⟨(show 2<1000 by decide),?_⟩
      walk_at "gr"
      refine ⟨z2,fun t ht=>?_⟩
      walk_at "gr"
      rw [rf_put] at ht ⊢
      exact (nxt (fun z=>h5 z.2)).2.2 t ht
    ·rename_i h0
     walk_at "gr"
     refine ⟨(show 2<1000 by decide),?_⟩
     walk_at "gr"
     refine ⟨z2,fun t ht=>?_⟩
     walk_at "gr"
     rw [rf_put] at ht ⊢
     exact (nxt (fun z=>h0 (by lia))).2.2 t ht
   ·have er:Vh.letter_ p (bs.drop p)=.error p2:=by rw [hlong,longR,if_neg hin];rfl
    split
    ·walk_at "gr"
     refine ⟨_,.inl (.inl hb),_,rfl,?_⟩
     walk_at "gr"
     rw [if_pos (by lia)]
     walk_at "gr"
     exact ⟨by decide,q2 p2 H2 er R⟩
    ·walk_at "gr"
     exact ⟨by decide,q2 p2 H2 er R⟩
  ·intro σ H2 hw
   rw [hP] at hw
   obtain ⟨v,lo,hi',b,p2,o1,o2,rfl,R,k2,hb,l1,l2,eq⟩:=hw
   walk_at "gr"
   rw [show moreL c.toNat-((moreL c.toNat:Int)+1-2 - -1).toNat=0 by lia,longR] at eq
   rw [eq] at hlong
   exact q1 v p2 H2 hlong k2 R
theorem inV_bs (n:Nat) (mk:List UInt8) (c:UInt8) (h:c.toNat=n):inV (.int (n:Int)) (bsV mk)=mk.contains c:=by
 subst h
 unfold inV bsV
 rw [List.any_map,List.contains_eq_any_beq]
 congr 1
 funext y
 show ((y.toNat:Int)==(c.toNat:Int))=(c==y)
 by_cases e:c=y
 ·subst e;simp
 ·rw [beq_eq_false_iff_ne.mpr e,beq_eq_false_iff_ne]
  intro z
  exact e (UInt8.toNat_inj.mp (by lia))
theorem flat_bs (mk:List UInt8):(bsV mk).all flatV=true:=by
 unfold bsV
 rw [List.all_map,List.all_eq_true];intro _ _;rfl
def sp_Reader_take_character (K:PySem.W.Frag) (a:Ad):Sp:=fun vs H Q E=>∃ (r ma ta:Addr) (bs mk:List UInt8) (p:Nat),vs=[.ref r,.ref ma]∧Rdr K a H r ta bs p∧(∀ H',Kp [r] H H'→SqT K H' ma (bsV mk))∧(∀ c∈mk,c.toNat<128) ∧
 Out K a H r ta bs p (char1 mk) (fun x H'=>Q (.int (x:Nat)) H') E
abbrev s_Reader_take_character:Stmt:=inClass (top 24) 8
theorem sc_Reader_take_character:FnScope ["self","marks","lead","size"] ["self","marks"] (defScope s_Reader_take_character):=⟨rfl,rfl,rfl,by decide +kernel,rfl,by decide +kernel,by decide +kernel⟩
theorem ok_Reader_take_character {f:Addr}{fd:FuncData} (F:Fun K "take_character" "Reader.take_character" s_Reader_take_character f fd) (T:Txt K mg a) (c_Reader_peek:MethC P w K mg base CX0 1 a.CR "peek" ["self"] (sp_Reader_peek K a)) (c_size_by_lead:FnC P w K mg base CX0 1 "size_by_lead" ["lead"] (sp_size_by_lead K a)) (c_Reader_take_long_letter:MethC P w K mg base (CX1 P w a.CE) 2 a.CR "take_long_letter" ["self","lead","size"] (sp_Reader_take_long_letter K a)) (c_is_letter:FnC P w K mg base CX0 1 "is_letter" ["character"] (sp_is_letter K a)):FnOk P w K mg base (CX1 P w a.CE) 3 f fd ["self","marks"] (sp_Reader_take_character K a):=by
 refine F.okE sc_Reader_take_character (fun vs H Q E h=>?_) (fun cdv A outer s H vs Q E hr h=>?_)
 ·obtain ⟨r,ma,ta,bs,mk,p,rfl,⟨dx,hR,hS,hne⟩,hma,hmk,q1,q2⟩:=h
  rfl
 ·obtain ⟨r,ma,ta,bs,mk,p,rfl,⟨dx,hR,hS,hne⟩,hma,hmk,q1,q2⟩:=h
  have nd:=sc_Reader_take_character.nd
  refine ⟨_,(pss_cons (ps_set (i:=2) nd rfl (Or.inl rfl) (pe_methC0 (pv 0) T.clReader c_Reader_peek hr pass0)) (pss_cons (ps_set (i:=3) nd rfl (Or.inl rfl) (pe_callC c_size_by_lead hr pass0 (pa_cons (pv 2) pa_nil))) (pss_cons (ps_if (pt_cmpR op_gt (pv 3) pe_int (nomark _)) (pss_one (ps_ret (pe_methC (pv 0) T.clReader c_Reader_take_long_letter hr passX (pa_cons (pv 2) (pa_cons (pv 3) pa_nil))))) pss_nil) (pss_cons (ps_if (PW.pt (pw_or (pt_cmpR op_eq (pv 3) pe_int (nomark _)) (pw_or1 (pt_not (PW.pt (pw_or (pt_val (pe_callC c_is_letter hr pass0 (pa_cons (pv 2) pa_nil))) (pw_or1 (pt_cmpR op_in_seq (pv 2) (pv 1) (by with_unfolding_all rfl))))))))) (pss_one (ps_raise T.exc rfl (pa_cons pe_str pa_nil))) pss_nil) (pss_cons (ps_fldaug (pv 0) pe_int in_add) (pss_one (ps_ret (pv 2)))))))),?_⟩
  have hR2:=hR
  have R:Rdr K a H r ta bs p:=⟨dx,hR,hS,hne⟩
  walk_at "rdr"
  refine ⟨rf_peek _ _,r,ta,bs,p,rfl,R,?_⟩
  walk_at "rdr"
  refine ⟨_,rfl,?_⟩
  walk_at "rdr"
  cases e:bs[p]? with
  | none =>
   rw [pk_none.mpr e]
   rw [if_neg (by decide),if_pos (by decide)]
   exact ⟨by decide,q2 p H (char1_no (by unfold cS;rw [e])) R⟩
  | some c =>
   rw [pk_some e]
   have hlt:=c.toNat_lt
   have er:128≤c.toNat→¬ (194≤c.toNat∧c.toNat≤244)→char1 mk p (bs.drop p)=.error p:=fun h1 h2=>char1_no (by
    unfold cS
    rw [e]
    dsimp only
    rw [Bool.or_eq_false_iff]
    constructor
    ·rw [List.contains_eq_any_beq,List.any_eq_false]
     intro y hy z
     have:=hmk y hy
     rw [← eq_of_beq z] at this
     lia
    ·unfold Vh.startsLetter
     rw [if_neg (by lia)]
     simp;lia)
   by_cases h1:c.toNat<128
   ·have es:sizeL (c.toNat:Int)=1:=by unfold sizeL;rw [if_pos (by lia)]
    rw [es,if_neg (by decide),if_neg (by decide)]
    refine ⟨_,rfl,?_⟩
    walk_at "rdr"
    have k1:Kp [r] H (upd H r (HO.ins a.CR dx (rf ta ((p:Int)+1)))):=Kp.put (by simp)
    have R1:Rdr K a (upd H r (HO.ins a.CR dx (rf ta ((p:Int)+1)))) r ta bs (p+1):=Rdr.move (dx:=dx) hS hne k1 (by rw [upd_same];rfl)
    have okc:(mk.contains c=true∨isL (c.toNat:Int)=true)→char1 mk p (bs.drop p)=.ok (c.toNat,p+1,bs.drop (p+1)):=fun h=>by
     unfold char1 Vh.byNext
     rw [head_drop,e]
     dsimp only
     by_cases hm:mk.contains c=true
     ·rw [if_pos hm];unfold Vh.behind Vh.gives;rw [drop_drop1]
     ·rw [if_neg hm]
      have hl:=h.resolve_left hm
      rw [isL_low h1] at hl
      unfold Vh.letter_ Vh.byNext
      rw [head_drop,e]
      dsimp only
      rw [if_neg (by unfold Vh.startsLetter;rw [if_pos h1,hl];decide),if_pos h1]
      unfold Vh.behind Vh.gives;rw [drop_drop1]
    split
    ·rename_i hl
     exact ⟨by decide,q1 _ _ _ (okc (.inr hl)) k1 R1⟩
    ·rename_i hl
     refine ⟨_,.inr (hma H Kp.refl),rfl,flat_bs mk,?_⟩
     rw [inV_bs _ mk c rfl]
     split
     ·rename_i hm
      refine ⟨by decide,q2 p H (char1_no ?_) R⟩
      unfold cS
      rw [e]
      dsimp only
      rw [hm]
      unfold Vh.startsLetter
      rw [if_pos h1,← isL_low h1]
      simpa using hl
     ·rename_i hm
      exact ⟨by decide,q1 _ _ _ (okc (.inl (by simpa using hm))) k1 R1⟩
   ·by_cases h2:194≤c.toNat∧c.toNat≤244
    ·have es:sizeL (c.toNat:Int)=(moreL c.toNat:Int)+1:=by
      unfold sizeL moreL
      rw [if_neg (by lia)]
      by_cases z1:c.toNat<224
      ·rw [if_pos (by lia),if_pos z1];rfl
      ·rw [if_neg (by lia),if_neg z1]
       by_cases z2:c.toNat<240
       ·rw [if_pos (by lia),if_pos z2];rfl
       ·rw [if_neg (by lia),if_pos (by lia),if_neg z2];rfl
     have m3:1≤moreL c.toNat:=by unfold moreL;split <;> (try split) <;> lia
     rw [es,if_pos (by lia)]
     have ec:char1 mk p (bs.drop p)=Vh.letter_ p (bs.drop p):=by
      unfold char1 Vh.byNext
      rw [head_drop,e]
      dsimp only
      rw [if_neg]
      intro z
      rw [List.contains_eq_any_beq,List.any_eq_true] at z
      refine foldP fun G0 hG0=>?_
      obtain ⟨y,hy,z⟩:=z
      refine hG0 ?_
      clear hG0
      have:=hmk y hy
      rw [← eq_of_beq z] at this
      lia
     rw [ec] at q1 q2
     exact ⟨rf_take_long_letter _ _,r,ta,bs,p,c,rfl,R,e,h2.1,h2.2,q1,q2⟩
    ·have es:sizeL (c.toNat:Int)=0:=by
      unfold sizeL
      rw [if_neg (by lia),if_neg (by lia),if_neg (by lia),if_neg (by lia)]
     rw [es,if_neg (by decide),if_pos rfl]
     exact ⟨by decide,q2 p H (er (by lia) h2) R⟩
end
section
variable {P:Program}{w:World}{K:PySem.W.Frag}{mg:Str→Option Value}{base:Heap}{a:Ad}
def lV (x:List Nat):List V:=x.map fun (n:Nat)=>V.int (n:Int)
theorem lV_len (x:List Nat):(lV x).length=x.length:=by unfold lV;rw [List.length_map]
theorem lV_snoc (x:List Nat) (n:Nat):lV x++[V.int (n:Int)]=lV (x++[n]):=by unfold lV;rw [List.map_append];rfl
def MkOk (K:PySem.W.Frag) (H:Hp) (r ma:Addr) (mk:List UInt8):Prop:=(∀ H',Kp [r] H H'→SqT K H' ma (bsV mk))∧∀ c∈mk,33≤c.toNat∧c.toNat<128
theorem MkOk.kp {H H':Hp}{r ma:Addr}{mk:List UInt8} (h:MkOk K H r ma mk) (k:Kp [r] H H'):MkOk K H' r ma mk:=⟨fun H2 k2=>h.1 H2 (k.trans k2),h.2⟩
def endsT (bs mk:List UInt8) (p:Nat):Bool:=decide (pk bs p=32) || decide (pk bs p=10) || (marksI.contains (pk bs p) && !(mk.map fun c=>(c.toNat:Int)).contains (pk bs p))
def OutT (K:PySem.W.Frag) (a:Ad) (H:Hp) (r ta:Addr) (bs mk:List UInt8) (p k:Nat) (Q:VK) (E:XK):Prop :=
 (∀ x p' H' l,VhPage.someChars_ mk k p (bs.drop p)=.ok (x,p',bs.drop p')→x.length≤k→1≤x.length→H l=none→l≠r→Kp [r] H H'→H' l=some (.lst (lV x))→Rdr K a H' r ta bs p'→Q (.ref l) H') ∧
 ∀ p' H',(VhPage.someChars_ mk k p (bs.drop p)=.error p'∨∃ x,VhPage.someChars_ mk k p (bs.drop p)=.ok (x,p',bs.drop p')∧endsT bs mk p'=false∧cS bs mk p'=false)→Rdr K a H' r ta bs p'→E (.ref a.CE) none H'
theorem bsV_ints (mk:List UInt8):bsV mk=(mk.map fun c=>(c.toNat:Int)).map V.int:=by unfold bsV;rw [List.map_map];rfl
theorem cS_mark {bs mk:List UInt8}{p:Nat} (h:marksI.contains (pk bs p)=true) (h2:(mk.map fun c=>(c.toNat:Int)).contains (pk bs p)=false):cS bs mk p=false:=by
 unfold cS
 cases e:bs[p]? with
 | none=>rfl
 | some x =>
  rw [pk_some e] at h h2
  dsimp only
  rw [Bool.or_eq_false_iff]
  constructor
  ·cases z:mk.contains x with
   | false=>rfl
   | true =>
    have:(mk.map fun c=>(c.toNat:Int)).contains (x.toNat:Int)=true:=List.contains_iff_mem.mpr (List.mem_map.mpr ⟨x,List.contains_iff_mem.mp z,rfl⟩)
    rw [this] at h2;cases h2
  ·have hm:Vh.MARKS.contains x.toNat=true:=by
    have:=List.contains_iff_mem.mp h
    refine List.contains_iff_mem.mpr ?_
    have e2:marksI=Vh.MARKS.map fun (n:Nat)=>(n:Int):=by decide
    rw [e2] at this
    obtain ⟨y,hy,hy2⟩:=List.mem_map.mp this
    have hy3:y=x.toNat:=by lia
    rw [← hy3];exact hy
   have hlt:x.toNat<128:=by
    have h':=List.contains_iff_mem.mp hm
    have:∀ y∈Vh.MARKS,y<128:=by decide
    exact this _ h'
   unfold Vh.startsLetter
   rw [if_pos hlt]
   unfold Vh.isLetter
   rw [hm]
   simp
def sp_Reader_ends_thing (K:PySem.W.Frag) (a:Ad):Sp:=fun vs H Q _=>∃ (r ma ta:Addr) (bs mk:List UInt8) (p:Nat),vs=[.ref r,.ref ma]∧Rdr K a H r ta bs p∧SqT K H ma (bsV mk)∧Q (.bl (endsT bs mk p)) H
abbrev s_Reader_ends_thing:Stmt:=inClass (top 24) 10
theorem sc_Reader_ends_thing:FnScope ["self","marks","byte"] ["self","marks"] (defScope s_Reader_ends_thing):=⟨rfl,rfl,rfl,by decide +kernel,rfl,by decide +kernel,by decide +kernel⟩
theorem ok_Reader_ends_thing {f:Addr}{fd:FuncData} (F:Fun K "ends_thing" "Reader.ends_thing" s_Reader_ends_thing f fd) (T:Txt K mg a) (c_Reader_peek:MethC P w K mg base CX0 1 a.CR "peek" ["self"] (sp_Reader_peek K a)):FnOk P w K mg base CX0 2 f fd ["self","marks"] (sp_Reader_ends_thing K a):=by
 refine F.ok sc_Reader_ends_thing (fun vs H Q E h=>?_) (fun cdv A outer s H vs Q E hr h=>?_)
 ·obtain ⟨r,ma,ta,bs,mk,p,rfl,⟨dx,hR,hS,hne⟩,hma,q⟩:=h
  rfl
 ·obtain ⟨r,ma,ta,bs,mk,p,rfl,⟨dx,hR,hS,hne⟩,hma,q⟩:=h
  have nd:=sc_Reader_ends_thing.nd
  refine ⟨_,(pss_cons (ps_set (i:=2) nd rfl (Or.inl rfl) (pe_methC0 (pv 0) T.clReader c_Reader_peek hr pass0)) (pss_one (ps_ret (pe_or (pe_cmpR op_in_seq (pv 2) (pe_gref T.cENDS) (by with_unfolding_all rfl)) (pe_one (pe_and (pe_cmpR op_in_seq (pv 2) (pe_gref T.cMARKS) (by with_unfolding_all rfl)) (pe_one (pe_cmpR op_notIn_seq (pv 2) (pv 1) (by with_unfolding_all rfl))))))))),?_⟩
  have hR2:=hR
  rw [bsV_ints] at hma
  unfold endsT at q
  walk_at "rdr"
  refine ⟨rf_peek _ _,r,ta,bs,p,rfl,⟨dx,hR,hS,hne⟩,?_⟩
  generalize pk bs p=n at q ⊢
  walk_at "rdr"
  refine ⟨_,.inr (T.tENDS H),rfl,rfl,?_⟩
  have e1:inV (V.int n) [V.int 32,V.int 10]=(decide (n=32) || decide (n=10)):=by
   rw [show [V.int 32,V.int 10]=([32,10]:List Int).map V.int from rfl,inV_ints]
   show (n==32 || (n==10 || false))=_
   rw [Bool.or_false];rfl
  rw [e1]
  by_cases h1:(decide (n=32) || decide (n=10))=true
  ·rw [if_pos h1];rw [h1,Bool.true_or] at q;exact q
  ·rw [if_neg h1]
   have h1:(decide (n=32) || decide (n=10))=false:=by simpa using h1
   rw [h1,Bool.false_or] at q
   refine ⟨_,.inr (T.tMARKS H),rfl,flat_ints marksI,?_⟩
   rw [inV_ints]
   by_cases h2:marksI.contains n=true
   ·rw [if_pos h2]
    rw [h2,Bool.true_and] at q
    refine ⟨_,.inr hma,rfl,flat_ints _,?_⟩
    rw [inV_ints]
    exact q
   ·rw [if_neg h2]
    have h2:marksI.contains n=false:=by simpa using h2
    rw [h2,Bool.false_and] at q
    exact q
def sp_Reader_take_thing (K:PySem.W.Frag) (a:Ad):Sp:=fun vs H Q E=>∃ (r ma ta:Addr) (bs mk:List UInt8) (p k:Nat),vs=[.ref r,.int (k:Int),.ref ma]∧Rdr K a H r ta bs p∧MkOk K H r ma mk∧1≤k∧k≤1000∧OutT K a H r ta bs mk p k Q E
abbrev s_Reader_take_thing:Stmt:=inClass (top 24) 11
theorem sc_Reader_take_thing:FnScope ["self","most","marks","thing"] ["self","most","marks"] (defScope s_Reader_take_thing):=⟨rfl,rfl,rfl,by decide +kernel,rfl,by decide +kernel,by decide +kernel⟩
theorem ok_Reader_take_thing {f:Addr}{fd:FuncData} (F:Fun K "take_thing" "Reader.take_thing" s_Reader_take_thing f fd) (T:Txt K mg a) (c_Reader_take_character:MethC P w K mg base (CX1 P w a.CE) 3 a.CR "take_character" ["self","marks"] (sp_Reader_take_character K a)) (c_Reader_ends_thing:MethC P w K mg base CX0 2 a.CR "ends_thing" ["self","marks"] (sp_Reader_ends_thing K a)):FnOk P w K mg base (CX1 P w a.CE) 4 f fd ["self","most","marks"] (sp_Reader_take_thing K a):=by
 refine F.okE sc_Reader_take_thing (fun vs H Q E h=>?_) (fun cdv A outer s H vs Q E hr h=>?_)
 ·obtain ⟨r,ma,ta,bs,mk,p,k,rfl,⟨dx,hR,hS,hne⟩,hma,hk1,hk2,q1,q2⟩:=h
  rfl
 ·obtain ⟨r,ma,ta,bs,mk,p,k,rfl,⟨dx,hR,hS,hne⟩,hma,hk1,hk2,q1,q2⟩:=h
  have nd:=sc_Reader_take_thing.nd
  refine ⟨_,(pss_cons (ps_set (i:=3) nd rfl (Or.inl rfl) (pe_lst (pa_cons (pe_methC (pv 0) T.clReader c_Reader_take_character hr passX (pa_cons (pv 2) pa_nil)) pa_nil))) (pss_cons (ps_while PassesOwn.leaving (PW.pt (pw_and (pt_cmpR op_lt (pe_callB call_len_seq rfl T.len PySem.boot_len (pa_cons (pv 3) pa_nil)) (pv 1) (nomark _)) (pw_and1 (pt_not (pt_val (pe_methC (pv 0) T.clReader c_Reader_ends_thing hr pass0 (pa_cons (pv 2) pa_nil))))))) (pss_one (ps_expr (pe_bm PySem.F.plainAttrs_list PySem.F.slot_list_append PySem.F.type_list_append mt_append (pv 3) (pa_cons (pe_methC (pv 0) T.clReader c_Reader_take_character hr passX (pa_cons (pv 2) pa_nil)) pa_nil))))) (pss_one (ps_ret (pv 3))))),?_⟩
  walk_at "gs"
  have hR2:=hR
  have R:Rdr K a H r ta bs p:=⟨dx,hR,hS,hne⟩
  obtain ⟨k',rfl⟩:∃ k',k=k'+1:=⟨k-1,by lia⟩
  have hS0:=hS
  have hm33:∀ c∈mk,33≤c.toNat:=fun c hc=>(hma.2 c hc).1
  walk_at "gr"
  refine ⟨r,ma,ta,bs,mk,p,rfl,R,hma.1,fun c hc=>(hma.2 c hc).2,fun n p1 H1 e1 k1 R1=>?_,fun p1 H1 e1 R1=>?_⟩
  ·walk_at "gr"
   refine ⟨(show 1≤sizeLine by decide),fun l hl=>?_⟩
   walk_at "gr"
   have hs:cS bs mk p=true:=by
    cases z:cS bs mk p with
    | true=>rfl
    | false=>rw [char1_no z] at e1;cases e1
   have lr:l≠r:=fun z=>by
    refine foldP fun G0 hG0=>?_
    obtain ⟨_,h,_⟩:=R1
    refine hG0 ?_
    clear hG0
    rw [z,h] at hl;cases hl
   have hl0:H l=none:=k1.free (by simpa using lr) hl
   obtain ⟨W,hW⟩:∃ W:WT,W=fun m σ H'=>∃ (xs:List Nat) (p':Nat),σ=[some (.ref r),some (.int ((k'+1:Nat):Int)),some (.ref ma),some (.ref l)]∧H' l=some (.lst (lV xs))∧Rdr K a H' r ta bs p'∧Kp [r] H H'∧1≤xs.length∧xs.length≤k'+1 ∧
    VhPage.chars_ mk (k'+1) p (bs.drop p)=preO xs (VhPage.chars_ mk (k'+1-xs.length) p' (bs.drop p'))∧m=k'+1-xs.length:=⟨_,rfl⟩
   walk_at "gr"
   refine ⟨W,⟨_,by
    rw [hW]
    have k2:Kp [r] H1 (upd H1 l (HO.lst [V.int (n:Int)])):=Kp.new hl
    have R2:Rdr K a (upd H1 l (HO.lst [V.int (n:Int)])) r ta bs p1:=by
     refine foldP fun G0 hG0=>?_
     obtain ⟨dx1,a1,a2,a3⟩:=R1
     refine hG0 ?_
     clear hG0
     exact Rdr.move (dx:=dx1) a2 a3 k2 (by rw [upd_ne (Ne.symm lr)];exact a1)
    exact ⟨[n],p1,rfl,upd_same,R2,k1.trans k2,by simp,by simp,chars_ok hs e1,rfl⟩⟩,fun m σ H2 hw=>?_⟩
   rw [hW] at hw
   refine foldP fun G0 hG0=>?_
   obtain ⟨xs,p2,rfl,hl2,⟨dx2,hR,hS,hne⟩,k2,x1,x2,eq,rfl⟩:=hw
   refine hG0 ?_
   clear hG0
   have hR2:=hR
   have R2:Rdr K a H2 r ta bs p2:=⟨dx2,hR,hS,hne⟩
   have fin:(xs.length=k'+1∨cS bs mk p2=false)→Q (.ref l) H2:=fun h=>by
    have e:VhPage.chars_ mk (k'+1) p (bs.drop p)=.ok (xs,p2,bs.drop p2):=by
     rw [eq]
     rcases h with h | h
     ·rw [h,Nat.sub_self,VhPage.chars_]
      unfold Vh.gives
      show Except.ok (xs++[],_,_)=_
      rw [List.append_nil]
     ·rw [chars_no h]
      show Except.ok (xs++[],_,_)=_
      rw [List.append_nil]
    exact q1 xs p2 H2 l (some_of_chars e (by cases xs <;> simp at x1 ⊢)) x2 x1 hl0 lr k2 hl2 R2
   walk_at "gr"
   refine ⟨_,.inl (.inl (.inl hl2)),?_⟩
   walk_at "gr"
   rw [lV_len]
   by_cases hlen:xs.length=k'+1
   ·rw [if_neg (by lia)]
    walk_at "gr"
    exact fin (.inl hlen)
   ·rw [if_pos (by lia)]
    walk_at "gr"
    refine ⟨r,ma,ta,bs,mk,p2,rfl,R2,(hma.kp k2).1 _ Kp.refl,?_⟩
    walk_at "gr"
    walk_at "gr"
    cases hend:endsT bs mk p2 with
    | true =>
     rw [if_neg (by decide)]
     walk_at "gr"
     refine fin (.inr ?_)
     unfold endsT at hend
     rw [Bool.or_eq_true,Bool.or_eq_true,decide_eq_true_eq,decide_eq_true_eq,Bool.and_eq_true] at hend
     rcases hend with hend | hend
     ·exact cS_not hm33 hend
     ·exact cS_mark hend.1 (by simpa using hend.2)
    | false =>
      rw [if_pos rfl]
      walk_at "gr"
      have h32:pk bs p2≠32:=fun z=>by unfold endsT at hend;rw [z] at hend;simp at hend
      have h10:pk bs p2≠10:=fun z=>by unfold endsT at hend;rw [z] at hend;simp at hend
      walk_at "gr"
      refine ⟨fun σ' H'=>∃ m',m' < k'+1-xs.length∧W m' σ' H',fun _ _ z=>z,?_⟩
      walk_at "gr"
      have ex:k'+1-xs.length=(k'+1-(xs.length+1))+1:=by lia
      walk_at "gr"
      refine ⟨.inl ⟨rfl,_,.inl (.inl hl2)⟩,?_⟩
      walk_at "gr"
      refine ⟨r,ma,ta,bs,mk,p2,rfl,R2,(hma.kp k2).1,fun c hc=>(hma.2 c hc).2,fun n3 p3 H3 e3 k3 R3=>?_,fun p3 H3 e3 R3=>?_⟩
      ·have hs2:cS bs mk p2=true:=by
        cases z:cS bs mk p2 with
        | true=>rfl
        | false=>rw [char1_no z] at e3;cases e3
       have hl3:H3 l=some (.lst (lV xs)):=k3 _ _ hl2 (by simpa using lr)
       walk_at "gr"
       refine ⟨_,hl3,?_,k'+1-(xs.length+1),by lia,?_⟩
       ·rw [lV_len];exact Nat.lt_of_le_of_lt (show xs.length≤1000 by lia) (by decide)
       ·rw [hW,lV_snoc]
        have k4:Kp [r] H (upd H3 l (HO.lst (lV (xs++[n3])))):=(k2.trans k3).put2 (.inr hl0)
        have R4:Rdr K a (upd H3 l (HO.lst (lV (xs++[n3])))) r ta bs p3:=by
         refine foldP fun G0 hG0=>?_
         obtain ⟨dx1,a1,a2,a3⟩:=R3
         refine hG0 ?_
         clear hG0
         exact ⟨dx1,by rw [upd_ne (Ne.symm lr)];exact a1,k4.seq (by simpa using hne) hS0,hne⟩
        walk_at "gr"
        refine ⟨xs++[n3],p3,rfl,upd_same,R4,k4,by simp,by simp;lia,?_,by simp⟩
        walk_at "gr"
        rw [eq,ex,chars_ok hs2 e3,preO_pre]
        simp
      ·refine q2 p3 H3 ?_ R3
       by_cases hs2:cS bs mk p2=true
       ·exact .inl (some_err (by rw [eq,ex,chars_err hs2 e3];rfl))
       ·have hs2:cS bs mk p2=false:=by simpa using hs2
        rw [char1_no hs2] at e3
        injection e3 with e3
        subst e3
        refine .inr ⟨xs,some_of_chars ?_ (by cases xs <;> simp at x1 ⊢),hend,hs2⟩
        rw [eq,chars_no hs2]
        show Except.ok (xs++[],_,_)=_
        rw [List.append_nil]
  ·refine q2 p1 H1 (.inl ?_) R1
   by_cases hs:cS bs mk p=true
   ·exact some_err (chars_err hs e1)
   ·have hs:cS bs mk p=false:=by simpa using hs
    rw [char1_no hs] at e1
    injection e1 with e1
    subst e1
    exact some_nil (chars_no hs)
end
section
variable {P:Program}{w:World}{K:PySem.W.Frag}{mg:Str→Option Value}{base:Heap}{a:Ad}
def LN (H H':Hp) (x:List Nat) (v:V):Prop:=∃ l,v=.ref l∧H' l=some (.lst (lV x))∧H l=none
theorem Paired.snoc {α β:Type}{R:α→β→Prop}:∀ {xs:List α}{ys:List β}{x:α}{y:β},Paired R xs ys→R x y→Paired R (xs++[x]) (ys++[y])
 | _,_,_,_,.nil,h=>.cons h .nil
 | _,_,_,_,.cons r t,h=>.cons r (Paired.snoc t h)
theorem Paired.app {α β:Type}{R:α→β→Prop}:∀ {xs xs':List α}{ys ys':List β},Paired R xs ys→Paired R xs' ys'→Paired R (xs++xs') (ys++ys')
 | _,_,_,_,.nil,h=>h
 | _,_,_,_,.cons r t,h=>.cons r (Paired.app t h)
def OutR (K:PySem.W.Frag) (a:Ad) (H:Hp) (r ta:Addr) (bs mk:List UInt8) (p n k:Nat) (Q:VK) (E:XK):Prop :=
 (∀ xs vs p' H' l,thgs (VhPage.someChars_ mk k) n p (bs.drop p)=.ok (xs,p',bs.drop p')→1≤xs.length→xs.length≤n→(∀ x∈xs,x.length≤k)→H l=none→Kp [r] H H'→H' l=some (.lst vs)→Paired (LN H H') xs vs →
  Rdr K a H' r ta bs p'→Q (.ref l) H') ∧
 ∀ p' H',((∃ i,thgs (VhPage.someChars_ mk k) n p (bs.drop p)=.error i)∨∃ xs,thgs (VhPage.someChars_ mk k) n p (bs.drop p)=.ok (xs,p',bs.drop p')∧endsT bs mk p'=false)→Rdr K a H' r ta bs p'→E (.ref a.CE) none H'
def sp_Reader_take_things (K:PySem.W.Frag) (a:Ad):Sp:=fun vs H Q E=>∃ (r ma ta:Addr) (bs mk:List UInt8) (p n k:Nat),vs=[.ref r,.int (n:Int),.int (k:Int),.ref ma]∧Rdr K a H r ta bs p∧MkOk K H r ma mk∧1≤n∧n≤65536∧1≤k∧k≤1000 ∧
 OutR K a H r ta bs mk p n k Q E
abbrev s_Reader_take_things:Stmt:=inClass (top 24) 12
theorem sc_Reader_take_things:FnScope ["self","most_things","most","marks","things"] ["self","most_things","most","marks"] (defScope s_Reader_take_things):=⟨rfl,rfl,rfl,by decide +kernel,rfl,by decide +kernel,by decide +kernel⟩
theorem ok_Reader_take_things {f:Addr}{fd:FuncData} (F:Fun K "take_things" "Reader.take_things" s_Reader_take_things f fd) (T:Txt K mg a) (c_Reader_take_thing:MethC P w K mg base (CX1 P w a.CE) 4 a.CR "take_thing" ["self","most","marks"] (sp_Reader_take_thing K a)) (c_Reader_sees:MethC P w K mg base CX0 2 a.CR "sees" ["self","sign"] (sp_Reader_sees K a)) (c_Reader_take:MethC P w K mg base (CX1 P w a.CE) 3 a.CR "take" ["self","sign"] (sp_Reader_take K a)):FnOk P w K mg base (CX1 P w a.CE) 5 f fd ["self","most_things","most","marks"] (sp_Reader_take_things K a):=by
 refine F.okE sc_Reader_take_things (fun vs H Q E h=>?_) (fun cdv A outer s H vs Q E hr h=>?_)
 ·obtain ⟨r,ma,ta,bs,mk,p,n,k,rfl,⟨dx,hR,hS,hne⟩,hma,hn1,hn2,hk1,hk2,q1,q2⟩:=h
  rfl
 ·obtain ⟨r,ma,ta,bs,mk,p,n,k,rfl,⟨dx,hR,hS,hne⟩,hma,hn1,hn2,hk1,hk2,q1,q2⟩:=h
  have nd:=sc_Reader_take_things.nd
  refine ⟨_,(pss_cons (ps_set (i:=4) nd rfl (Or.inl rfl) (pe_lst (pa_cons (pe_methC (pv 0) T.clReader c_Reader_take_thing hr passX (pa_cons (pv 2) (pa_cons (pv 3) pa_nil))) pa_nil))) (pss_cons (ps_while PassesOwn.leaving (PW.pt (pw_and (pt_val (pe_methC (pv 0) T.clReader c_Reader_sees hr pass0 (pa_cons pe_str pa_nil))) (pw_and1 (pt_cmpR op_lt (pe_callB call_len_seq rfl T.len PySem.boot_len (pa_cons (pv 4) pa_nil)) (pv 1) (nomark _))))) (pss_cons (ps_expr (pe_methC (pv 0) T.clReader c_Reader_take hr passX (pa_cons pe_str pa_nil))) (pss_one (ps_expr (pe_bm PySem.F.plainAttrs_list PySem.F.slot_list_append PySem.F.type_list_append mt_append (pv 4) (pa_cons (pe_methC (pv 0) T.clReader c_Reader_take_thing hr passX (pa_cons (pv 2) (pa_cons (pv 3) pa_nil))) pa_nil)))))) (pss_one (ps_ret (pv 4))))),?_⟩
  walk_at "gs"
  have hR2:=hR
  have R:Rdr K a H r ta bs p:=⟨dx,hR,hS,hne⟩
  have hS0:=hS
  obtain ⟨n',rfl⟩:∃ n',n=n'+1:=⟨n-1,by lia⟩
  walk_at "gr"
  have bad:∀ {m p1:Nat},endsT bs mk p1=false→thgTail (VhPage.someChars_ mk k) m p1 (bs.drop p1)=.ok ([],p1,bs.drop p1):=fun h=>thgTail_no (.inr fun z=>by unfold endsT at h;rw [z] at h;simp at h)
  walk_at "gr"
  refine ⟨r,ma,ta,bs,mk,p,k,rfl,R,hma,hk1,hk2,fun x p1 H1 l1 e1 x2 x1 hl1 l1r k1 hx R1=>?_,fun p1 H1 e1 R1=>?_⟩
  ·walk_at "gr"
   refine ⟨(show 1≤sizeLine by decide),fun l hl=>?_⟩
   walk_at "gr"
   have lr:l≠r:=fun z=>by
    refine foldP fun G0 hG0=>?_
    obtain ⟨_,h,_⟩:=R1
    refine hG0 ?_
    clear hG0
    rw [z,h] at hl;cases hl
   have hl0:H l=none:=k1.free (by simpa using lr) hl
   have ll1:l1≠l:=fun z=>by rw [z,hl] at hx;cases hx
   obtain ⟨W,hW⟩:∃ W:WT,W=fun m σ H'=>∃ (xs:List (List Nat)) (vs:List V) (p':Nat),σ=[some (.ref r),some (.int ((n'+1:Nat):Int)),some (.int (k:Int)),some (.ref ma),some (.ref l)]∧H' l=some (.lst vs)∧Paired (fun x v=>LN H H' x v∧v≠.ref l) xs vs∧Rdr K a H' r ta bs p'∧Kp [r] H H'∧1≤xs.length∧xs.length≤n'+1∧(∀ x∈xs,x.length≤k) ∧
    thgs (VhPage.someChars_ mk k) (n'+1) p (bs.drop p)=preO xs (thgTail (VhPage.someChars_ mk k) (n'+1-xs.length) p' (bs.drop p'))∧m=n'+1-xs.length:=⟨_,rfl⟩
   walk_at "gr"
   refine ⟨W,⟨_,by
    rw [hW]
    have k2:Kp [r] H1 (upd H1 l (HO.lst [V.ref l1])):=Kp.new hl
    have R2:Rdr K a (upd H1 l (HO.lst [V.ref l1])) r ta bs p1:=by
     refine foldP fun G0 hG0=>?_
     obtain ⟨dx1,a1,a2,a3⟩:=R1
     refine hG0 ?_
     clear hG0
     exact Rdr.move (dx:=dx1) a2 a3 k2 (by rw [upd_ne (Ne.symm lr)];exact a1)
    exact ⟨[x],[.ref l1],p1,rfl,upd_same,.cons ⟨⟨l1,rfl,by rw [upd_ne ll1];exact hx,hl1⟩,fun z=>ll1 (V.ref.inj z)⟩ .nil,R2,k1.trans k2,by simp,by simp,by simpa using x2,thgs_ok e1,rfl⟩⟩,fun m σ H2 hw=>?_⟩
   rw [hW] at hw
   refine foldP fun G0 hG0=>?_
   obtain ⟨xs,vs,p2,rfl,hl2,hP,⟨dx2,hR,hS,hne⟩,k2,x1,x2,x3,eq,rfl⟩:=hw
   refine hG0 ?_
   clear hG0
   have hR2:=hR
   have R2:Rdr K a H2 r ta bs p2:=⟨dx2,hR,hS,hne⟩
   have hlen:=Paired.length hP
   have fin:(xs.length=n'+1∨pk bs p2≠32)→Q (.ref l) H2:=fun h=>by
    refine q1 xs vs p2 H2 l ?_ x1 x2 x3 hl0 k2 hl2 (Paired.mapP hP fun _ _ z=>z.1) R2
    rw [eq,thgTail_no (h.imp (fun z=>by lia) id)]
    show Except.ok (xs++[],_,_)=_
    rw [List.append_nil]
   walk_at "gr"
   refine ⟨r,ta,bs,p2,_,32,rfl,R2,by decide,by decide,?_⟩
   walk_at "gr"
   walk_at "gr"
   by_cases h32:pk bs p2=32
   ·rw [if_pos (by simpa using h32)]
    walk_at "gr"
    refine ⟨_,.inl (.inl (.inl hl2)),?_⟩
    walk_at "gr"
    rw [← hlen]
    by_cases hfull:xs.length=n'+1
    ·rw [if_neg (by lia)]
     walk_at "gr"
     exact fin (.inl hfull)
    ·rw [if_pos (by lia)]
     walk_at "gr"
     refine ⟨fun σ' H'=>∃ m',m' < n'+1-xs.length∧W m' σ' H',fun _ _ z=>z,?_⟩
     walk_at "gr"
     have ex:n'+1-xs.length=(n'+1-(xs.length+1))+1:=by lia
     have eqt:thgs (VhPage.someChars_ mk k) (n'+1) p (bs.drop p)=preO xs (thgs (VhPage.someChars_ mk k) (n'+1-xs.length) (p2+1) (bs.drop (p2+1))):=by rw [eq,thgTail32 h32 (by lia)]
     walk_at "gr"
     refine ⟨r,ta,bs,p2,_,32,rfl,R2,by decide,by decide,fun _ p3 H3 e3 k3 R3=>?_,fun p3 H3 e3 R3=>?_⟩
     ·have ep:p3=p2+1:=by
       rw [byte_ok (c:=32) h32] at e3
       injection e3 with e3;injection e3 with _ e3;injection e3 with e3 _
       exact e3.symm
      subst ep
      refine foldP fun G0 hG0=>?_
      obtain ⟨dx3,hR,hS,hne⟩:=R3
      refine hG0 ?_
      clear hG0
      have hR2:=hR
      have R3:Rdr K a H3 r ta bs (p2+1):=⟨dx3,hR,hS,hne⟩
      have hl3:H3 l=some (.lst vs):=k3 _ _ hl2 (by simpa using lr)
      simp only [tBM,rAppend]
      walk_at "gr"
      refine ⟨.inl ⟨rfl,_,.inl (.inl hl3)⟩,?_⟩
      walk_at "gr"
      refine ⟨r,ma,ta,bs,mk,p2+1,k,rfl,R3,hma.kp (k2.trans k3),hk1,hk2,fun x p4 H4 l4 e4 y2 y1 hl4 l4r k4 hx4 R4=>?_,fun p4 H4 e4 R4=>?_⟩
      ·have hl4':H4 l=some (.lst vs):=k4 _ _ hl3 (by simpa using lr)
       have ne4:l4≠l:=fun z=>by rw [z,hl3] at hl4;cases hl4
       walk_at "gr"
       refine ⟨_,hl4',?_,n'+1-(xs.length+1),by lia,?_⟩
       ·rw [← hlen];exact Nat.lt_of_le_of_lt (show xs.length≤65536 by lia) (by decide)
       ·rw [hW]
        have k5:Kp [r] H (upd H4 l (HO.lst (vs++[V.ref l4]))):=((k2.trans k3).trans k4).put2 (.inr hl0)
        have R5:Rdr K a (upd H4 l (HO.lst (vs++[V.ref l4]))) r ta bs p4:=by
         refine foldP fun G0 hG0=>?_
         obtain ⟨dx1,a1,a2,a3⟩:=R4
         refine hG0 ?_
         clear hG0
         exact ⟨dx1,by rw [upd_ne (Ne.symm lr)];exact a1,k5.seq (by simpa using hne) hS0,hne⟩
        walk_at "gr"
        refine ⟨xs++[x],vs++[.ref l4],p4,rfl,upd_same,Paired.snoc (Paired.mapP hP ?_) ⟨⟨l4,rfl,by rw [upd_ne ne4];exact hx4,(k2.trans k3).free (by simpa using l4r) hl4⟩,fun z=>ne4 (V.ref.inj z)⟩,R5,k5,by simp,by simp;lia,fun z hz=>(List.mem_append.mp hz).elim (x3 z) (fun h=>by rw [List.mem_singleton.mp h];exact y2),?_,by simp⟩
        ·rintro y v ⟨⟨b,rfl,hb,hb0⟩,nb⟩
         have br:b≠r:=fun z=>by
          refine foldP fun G0 hG0=>?_
          obtain ⟨_,h,_⟩:=R
          refine hG0 ?_
          clear hG0
          rw [z,h] at hb0;cases hb0
         have nb:b≠l:=fun z=>nb (by rw [z])
         exact ⟨⟨b,rfl,by rw [upd_ne nb];exact k4 _ _ (k3 _ _ hb (by simpa using br)) (by simpa using br),hb0⟩,fun z=>nb (V.ref.inj z)⟩
        ·rw [eqt,ex,thgs_ok e4,preO_pre]
         simp
      ·refine q2 p4 H4 ?_ R4
       rcases e4 with e4 | ⟨x,e4,hb⟩
       ·exact .inl ⟨_,by rw [eqt,ex,thgs_err e4];rfl⟩
       ·exact .inr ⟨xs++[x],by rw [eqt,ex,thgs_ok e4,bad hb.1];show Except.ok (xs++([x]++[]),_,_)=_;rw [List.append_nil],hb.1⟩
     ·rw [byte_ok (c:=32) h32] at e3
      cases e3
   ·rw [if_neg (by simpa using h32)]
    walk_at "gr"
    exact fin (.inr h32)
  ·refine q2 p1 H1 ?_ R1
   rcases e1 with e1 | ⟨x,e1,hb⟩
   ·exact .inl ⟨_,thgs_err e1⟩
   ·exact .inr ⟨[x],by rw [thgs_ok e1,bad hb.1];rfl,hb.1⟩
end
section
variable {P:Program}{w:World}{K:PySem.W.Frag}{mg:Str→Option Value}{base:Heap}{a:Ad}
theorem Paired.get {α β:Type}{R:α→β→Prop}:∀ {xs:List α}{ys:List β}{i:Nat}{y:β},Paired R xs ys→ys[i]?=some y→∃ x,xs[i]?=some x∧R x y
 | _,_,_,_,.nil,e=>by simp at e
 | _,_,0,_,.cons r _,e=>by simp at e;subst e;exact ⟨_,rfl,r⟩
 | _,_,i+1,y,.cons _ t,e=>by
  obtain ⟨u,h1,h2⟩:=Paired.get (i:=i) (y:=y) t (by simpa using e)
  exact ⟨u,by simpa using h1,h2⟩
theorem Paired.getL {α β:Type}{R:α→β→Prop}:∀ {xs:List α}{ys:List β},Paired R xs ys→xs.length=ys.length
 | _,_,.nil=>rfl
 | _,_,.cons _ t=>by simp [Paired.getL t]
def sp_Reader_take_head (K:PySem.W.Frag) (a:Ad):Sp:=fun vs H Q E=>∃ (r ab ta:Addr) (bs:List UInt8) (p:Nat) (bds:List (Nat×Nat)),vs=[.ref r,.ref ab]∧Rdr K a H r ta bs p∧BdT K ab bds∧bds.length≤8 ∧
 (∀ xs p' H' l,hdr bds p (bs.drop p)=.ok (xs,p',bs.drop p')→xs.length=bds.length→H l=none→Kp [r] H H'→H' l=some (.lst (lV xs))→Rdr K a H' r ta bs p'→Q (.ref l) H') ∧
 ∀ p' H',hdr bds p (bs.drop p)=.error p'→Rdr K a H' r ta bs p'→E (.ref a.CE) none H'
abbrev s_Reader_take_head:Stmt:=inClass (top 24) 7
theorem sc_Reader_take_head:FnScope ["self","all_bounds","numbers","bounds"] ["self","all_bounds"] (defScope s_Reader_take_head):=⟨rfl,rfl,rfl,by decide +kernel,rfl,by decide +kernel,by decide +kernel⟩
theorem ok_Reader_take_head {f:Addr}{fd:FuncData} (F:Fun K "take_head" "Reader.take_head" s_Reader_take_head f fd) (T:Txt K mg a) (c_Reader_take:MethC P w K mg base (CX1 P w a.CE) 3 a.CR "take" ["self","sign"] (sp_Reader_take K a)) (c_Reader_take_number:MethC P w K mg base (CX1 P w a.CE) 3 a.CR "take_number" ["self","low","high"] (sp_Reader_take_number K a)):FnOk P w K mg base (CX1 P w a.CE) 4 f fd ["self","all_bounds"] (sp_Reader_take_head K a):=by
 refine F.okE sc_Reader_take_head (fun vs H Q E h=>?_) (fun cdv A outer s H vs Q E hr h=>?_)
 ·obtain ⟨r,ab,ta,bs,p,bds,rfl,⟨dx,hR,hS,hne⟩,hB,hb8,q1,q2⟩:=h
  rfl
 ·obtain ⟨r,ab,ta,bs,p,bds,rfl,⟨dx,hR,hS,hne⟩,hB,hb8,q1,q2⟩:=h
  have nd:=sc_Reader_take_head.nd
  refine ⟨_,(pss_cons (ps_set (i:=2) nd rfl (Or.inl rfl) (pe_lst pa_nil)) (pss_cons (ps_expr (pe_methC (pv 0) T.clReader c_Reader_take hr passX (pa_cons pe_str pa_nil))) (pss_cons (ps_for PassesOwn.leaving rfl (pi_tup (pv 1)) (pg_name (i:=3) nd rfl (Or.inl rfl)) (pss_cons (ps_if (pt_cmpR op_gt (pe_callB call_len_seq rfl T.len PySem.boot_len (pa_cons (pv 2) pa_nil)) pe_int (nomark _)) (pss_one (ps_expr (pe_methC (pv 0) T.clReader c_Reader_take hr passX (pa_cons pe_str pa_nil)))) pss_nil) (pss_one (ps_expr (pe_bm PySem.F.plainAttrs_list PySem.F.slot_list_append PySem.F.type_list_append mt_append (pv 2) (pa_cons (pe_methC (pv 0) T.clReader c_Reader_take_number hr passX (pa_cons (pe_ix ix_tup (pv 3) pe_int (fun _ _=>rfl)) (pa_cons (pe_ix ix_tup (pv 3) pe_int (fun _ _=>rfl)) pa_nil))) pa_nil)))))) (pss_cons (ps_expr (pe_methC (pv 0) T.clReader c_Reader_take hr passX (pa_cons pe_str pa_nil))) (pss_one (ps_ret (pv 2))))))),?_⟩
  walk_at "gs"
  have hR2:=hR
  have R:Rdr K a H r ta bs p:=⟨dx,hR,hS,hne⟩
  have hS0:=hS
  obtain ⟨bv,tB,hP⟩:=hB
  have hbl:=Paired.getL hP
  walk_at "gr"
  refine ⟨by decide,fun l hl=>?_⟩
  walk_at "gr"
  have lr:l≠r:=fun z=>by rw [z,hR] at hl;cases hl
  have k0:Kp [r] H (upd H l (HO.lst [])):=Kp.new hl
  have hR:upd H l (HO.lst []) r=some (HO.ins a.CR dx (rf ta p)):=by rw [upd_ne (Ne.symm lr)];exact hR
  have R0:Rdr K a (upd H l (HO.lst [])) r ta bs p:=Rdr.move (dx:=dx) hS hne k0 hR
  walk_at "gr"
  refine ⟨r,ta,bs,p,_,94,rfl,R0,by decide,by decide,fun _ p1 H1 e1 k1 R1=>?_,fun p1 H1 e1 R1=>q2 p1 H1 (then_no e1) R1⟩
  walk_at "gr"
  obtain ⟨Pv,hPv⟩:∃ Pv:WT,Pv=fun i σ H'=>∃ (xs:List Nat) (p':Nat) (o:Option V),σ=[some (.ref r),some (.ref ab),some (.ref l),o]∧xs.length=i∧H' l=some (.lst (lV xs))∧Rdr K a H' r ta bs p'∧Kp [r] H H'∧hdr bds p (bs.drop p)=hd (bds.drop i) xs p' (bs.drop p'):=⟨_,rfl⟩
  walk_at "gr"
  refine ⟨_,rfl,_,rfl,⟨_,tB _⟩,for_tup (xs:=bv) Pv ?_ (fun _ _ _ _ _=>tB _) ?_ ?_⟩
  ·rw [hPv]
   walk_at "gr"
   refine ⟨[],p1,none,rfl,rfl,k1 _ _ upd_same (by simpa using lr),R1,k0.trans k1,?_⟩
   walk_at "gr"
   unfold hdr
   rw [then_ok e1,List.drop_zero]
  ·intro i v σ H2 hi hw
   rw [hPv] at hw
   obtain ⟨xs,p2,o,rfl,hxl,hl2,⟨dx2,hR,hS,hne⟩,k2,eq⟩:=hw
   have hR2:=hR
   have R2:Rdr K a H2 r ta bs p2:=⟨dx2,hR,hS,hne⟩
   obtain ⟨bd,hbd,b,rfl,tb,hhi⟩:=Paired.get hP hi
   have hib:=(List.getElem?_eq_some_iff.mp hbd).1
   have edrop:bds.drop i=bd::bds.drop (i+1):=by
    rw [List.drop_eq_getElem_cons hib]
    rw [List.getElem?_eq_getElem hib] at hbd
    injection hbd with hbd
    rw [hbd]
   rw [edrop] at eq
   -- the number and what follows
   have step:∀ p3 H3,Rdr K a H3 r ta bs p3→Kp [r] H2 H3→hdr bds p (bs.drop p)=Vh.andThen (Vh.num bd.1 bd.2) (fun x=>hd (bds.drop (i+1)) (xs++[x])) p3 (bs.drop p3) →
     ∀ Qk:VK,(∀ (x:Nat) H4,H4 l=some (.lst (lV xs))→Pv (i+1) [some (.ref r),some (.ref ab),some (.ref l),some (.ref b)] (upd H4 l (.lst (lV xs++[V.int (x:Int)])))→Qk (.int (x:Int)) H4) →
     sp_Reader_take_number K a [.ref r,.int (bd.1:Int),.int (bd.2:Int)] H3 Qk E:=fun p3 H3 R3 k3 eq3 Qk hQ=>by
    refine ⟨r,ta,bs,p3,bd.1,bd.2,rfl,R3,hhi,fun x p4 H4 e4 _ _ k4 R4=>?_,fun p4 H4 e4 R4=>?_⟩
    ·have hl4:H4 l=some (.lst (lV xs)):=k4 _ _ (k3 _ _ hl2 (by simpa using lr)) (by simpa using lr)
     refine hQ x H4 hl4 ?_
     rw [hPv,lV_snoc]
     have k5:Kp [r] H (upd H4 l (.lst (lV (xs++[x])))):=((k2.trans k3).trans k4).put2 (.inr hl)
     obtain ⟨dx4,a1,a2,a3⟩:=R4
     exact ⟨xs++[x],p4,_,rfl,by simp [hxl],upd_same,⟨dx4,by rw [upd_ne (Ne.symm lr)];exact a1,k5.seq (by simpa using hne) hS0,hne⟩,k5,by rw [eq3,then_ok e4]⟩
    ·exact q2 p4 H4 (by rw [eq3];exact num_bad e4 fun x hd=>hd_digit hd _ _ (by simp)) R4
   walk_at "gr"
   refine ⟨_,.inl (.inl (.inl hl2)),?_⟩
   walk_at "gr"
   rw [lV_len]
   by_cases h0:0<xs.length
   ·rw [if_pos (by lia)]
    walk_at "gr"
    have ne:xs≠[]:=by intro z;rw [z] at h0;simp at h0
    rw [hd_s _ _ _ ne] at eq
    walk_at "gr"
    refine ⟨r,ta,bs,p2,_,32,rfl,R2,by decide,by decide,fun _ p3 H3 e3 k3 R3=>?_,fun p3 H3 e3 R3=>q2 p3 H3 (by rw [eq];exact then_no e3) R3⟩
    walk_at "gr"
    rw [then_ok e3] at eq
    have st:=step p3 H3 R3 k3 eq
    obtain ⟨dx3,hR,hS,hne⟩:=R3
    have hR2:=hR
    have hl3:H3 l=some (.lst (lV xs)):=k3 _ _ hl2 (by simpa using lr)
    walk_at "gr"
    refine ⟨.inl ⟨rfl,_,.inl (.inl hl3)⟩,?_⟩
    walk_at "gr"
    refine ⟨_,tb _,_,rfl,?_⟩
    walk_at "gr"
    refine ⟨_,tb _,_,rfl,?_⟩
    walk_at "gr"
    refine st _ fun x H4 hl4 hP4=>?_
    walk_at "gr"
    exact ⟨_,hl4,by rw [lV_len];exact Nat.lt_of_le_of_lt (show _≤8 by first | lia | (simp only [List.length_nil];lia)) (by decide),hP4⟩
   ·rw [if_neg (by lia)]
    walk_at "gr"
    have e:xs=[]:=by cases xs with | nil=>rfl | cons _ _=>simp at h0
    subst e
    have st:=step p2 H2 R2 Kp.refl eq
    walk_at "gr"
    refine ⟨.inl ⟨rfl,_,.inl (.inl hl2)⟩,?_⟩
    walk_at "gr"
    refine ⟨_,tb _,_,rfl,?_⟩
    walk_at "gr"
    refine ⟨_,tb _,_,rfl,?_⟩
    walk_at "gr"
    refine st _ fun x H4 hl4 hP4=>?_
    walk_at "gr"
    exact ⟨_,hl4,by rw [lV_len];exact Nat.lt_of_le_of_lt (show _≤8 by first | lia | (simp only [List.length_nil];lia)) (by decide),hP4⟩
  ·intro σ H2 hw
   rw [hPv] at hw
   obtain ⟨xs,p2,o,rfl,hxl,hl2,⟨dx2,hR,hS,hne⟩,k2,eq⟩:=hw
   have hR2:=hR
   have R2:Rdr K a H2 r ta bs p2:=⟨dx2,hR,hS,hne⟩
   rw [show bds.drop bv.length=[] from List.drop_of_length_le (by lia),hd] at eq
   walk_at "gr"
   refine ⟨r,ta,bs,p2,_,10,rfl,R2,by decide,by decide,fun _ p3 H3 e3 k3 R3=>?_,fun p3 H3 e3 R3=>q2 p3 H3 (by rw [eq];exact then_no e3) R3⟩
   walk_at "gr"
   rw [then_ok e3] at eq
   have hl3:H3 l=some (.lst (lV xs)):=k3 _ _ hl2 (by simpa using lr)
   walk_at "gr"
   exact q1 xs p3 H3 l eq (by lia) hl (k2.trans k3) hl3 R3
end
section
variable {P:Program}{w:World}{K:PySem.W.Frag}{mg:Str→Option Value}{base:Heap}{a:Ad}
theorem for_enum {K:PySem.W.Frag}{a:Addr}{xs:List V}{g:TG}{tb:TS}{D:Ends}{σ:L2.St}{H:Hp} (Pv:WT) (h0:Pv 0 σ H) (hl:∀ i σ H,i≤xs.length→Pv i σ H→SqL K H a xs)
  (hs:∀ i x σ H T,xs[i]?=some x→Pv i σ H→H T=none→g (.ref T) σ (upd H T (.tup [.int (i:Nat),x])) fun σ2 H2=>tb { D with nx:=Pv (i+1),ct:=Pv (i+1),bk:=D.nx } σ2 H2) (hd:∀ σ H,Pv xs.length σ H→D.nx σ H) :
  ∃ W:Nat→Nat→L2.St→Hp→Prop,(∃ m,W 0 m σ H)∧∀ i m σ H,W i m σ H →
   ((Ite K a).stop i H∧D.nx σ H)∨((Ite K a).go i H∧∃ N:L2.St→Hp→Prop,(∀ σ' H',N σ' H'→∃ m',m' < m∧W (i+1) m' σ' H')∧∀ x H',(Ite K a).yld i H x H'→g x σ H' fun σ2 H2=>tb { D with nx:=N,ct:=N,bk:=D.nx } σ2 H2):=by
 refine ⟨fun i m σ H=>i+m=xs.length∧Pv i σ H,⟨xs.length,by simp,h0⟩,?_⟩
 rintro i m σ H ⟨hm,p⟩
 have q:=hl i σ H (by lia) p
 cases m with
 | zero =>
  have e:i=xs.length:=by lia
  subst e
  exact .inl ⟨⟨xs,q,Nat.le_refl _⟩,hd σ H p⟩
 | succ m =>
  refine .inr ⟨⟨xs,xs[i]'(by lia),q,by simp [show i<xs.length by lia]⟩,Pv (i+1),fun σ' H' p'=>⟨m,by lia,by lia,p'⟩,?_⟩
  rintro v H' ⟨t,x,rfl,ht,rfl,hx⟩
  exact hs i x σ H t (hx xs q) p ht
def joinL (sep:Nat):List (List Nat)→List Nat
 | []=>[]
 | [x]=>x
 | x::y::r=>x++sep::joinL sep (y::r)
theorem joinL_snoc (sep:Nat) (x:List Nat):∀ (ys:List (List Nat)),ys≠[]→joinL sep (ys++[x])=joinL sep ys++sep::x
 | [],h=>absurd rfl h
 | [y],_=>rfl
 | y::z::r,_=>by
  show y++sep::joinL sep (z::r++[x])=(y++sep::joinL sep (z::r))++sep::x
  rw [joinL_snoc sep x (z::r) (by simp)]
  simp
theorem take_snoc' {α:Type}{l:List α}{i:Nat}{x:α} (h:l[i]?=some x):l.take (i+1)=l.take i++[x]:=by
 rw [List.take_add_one,h];rfl
theorem joinL_len (sep:Nat):∀ (ys:List (List Nat)) (i:Nat),(joinL sep (ys.take i)).length≤(joinL sep ys).length
 | [],i=>by simp [joinL]
 | [y],i=>by cases i <;> simp [joinL]
 | y::z::r,i=>by
  cases i with
  | zero=>simp [joinL]
  | succ i =>
   cases i with
   | zero=>simp [joinL]
   | succ i =>
    have:=joinL_len sep (z::r) (i+1)
    simp only [List.take_succ_cons,joinL,List.length_append,List.length_cons] at this ⊢
    lia
def sp_joined (K:PySem.W.Frag) (a:Ad):Sp:=fun vs H Q _=>∃ (lt:Addr) (us:List V) (xs:List (List Nat)) (sep:Nat),vs=[.ref lt,.int (sep:Int)]∧H lt=some (.lst us)∧Paired (fun x v=>∃ l,v=V.ref l∧H l=some (.lst (lV x))) xs us∧(joinL sep xs).length≤16777216 ∧
 ∀ H' p,H p=none→Kp [] H H'→H' p=some (.lst (lV (joinL sep xs)))→Q (.ref p) H'
abbrev s_joined:Stmt:=top 8
theorem sc_joined:FnScope ["things","between","characters","k","thing"] ["things","between"] (defScope s_joined):=⟨rfl,rfl,rfl,by decide +kernel,rfl,by decide +kernel,by decide +kernel⟩
theorem ok_joined {f:Addr}{fd:FuncData} (F:Fun K "joined" "joined" s_joined f fd) (T:Txt K mg a):FnOk P w K mg base CX0 1 f fd ["things","between"] (sp_joined K a):=by
 refine F.ok sc_joined (fun vs H Q E h=>?_) (fun cdv A outer s H vs Q E hr h=>?_)
 ·obtain ⟨lt,us,xs,sep,rfl,hlt,hP,hlen,q⟩:=h
  rfl
 ·obtain ⟨lt,us,xs,sep,rfl,hlt,hP,hlen,q⟩:=h
  have nd:=sc_joined.nd
  refine ⟨_,(pss_cons (ps_set (i:=2) nd rfl (Or.inl rfl) (pe_lst pa_nil)) (pss_cons (ps_for PassesOwn.never rfl (pi_enum rfl T.enumerate (pa_cons (pv 0) pa_nil)) (pg_tup rfl (pgs_cons (pg_name (i:=3) nd rfl (Or.inl rfl)) (pgs_cons (pg_name (i:=4) nd rfl (Or.inl rfl)) pgs_nil))) (pss_cons (ps_if (pt_cmpR op_gt (pv 3) pe_int (nomark _)) (pss_one (ps_expr (pe_bm PySem.F.plainAttrs_list PySem.F.slot_list_append PySem.F.type_list_append mt_append (pv 2) (pa_cons (pv 1) pa_nil)))) pss_nil) (pss_one (ps_expr (pe_bm PySem.F.plainAttrs_list PySem.F.slot_list_extend PySem.F.type_list_extend mt_extend (pv 2) (pa_cons (pv 4) pa_nil)))))) (pss_one (ps_ret (pv 2))))),?_⟩
  walk_at "rd"
  refine ⟨by decide,fun l hl=>?_⟩
  have nlt:lt≠l:=ne_of_none hlt hl
  obtain ⟨Pv,hPv⟩:∃ Pv:WT,Pv=fun i σ H'=>∃ o1 o2:Option V,σ=[some (.ref lt),some (.int (sep:Int)),some (.ref l),o1,o2]∧Kp [] H H'∧H' l=some (.lst (lV (joinL sep (xs.take i)))):=⟨_,rfl⟩
  refine ⟨_,rfl,_,_,rfl,.inl (.inl (by rw [upd_ne nlt];exact hlt)),for_enum (xs:=us) Pv ?_ ?_ ?_ ?_⟩
  ·rw [hPv]
   exact ⟨none,none,rfl,Kp.new hl,by rw [upd_same];rfl⟩
  ·intro i σ H' _ hw
   rw [hPv] at hw
   obtain ⟨o1,o2,rfl,k,_⟩:=hw
   exact .inl (.inl (k _ _ hlt (by simp)))
  ·intro i v σ H2 t hi hw ht
   rw [hPv] at hw
   obtain ⟨o1,o2,rfl,k,hl2⟩:=hw
   obtain ⟨x,hx,b,rfl,hb⟩:=Paired.get hP hi
   have tl:l≠t:=ne_of_none hl2 ht
   have bl:b≠l:=ne_of_none hb hl
   have tot:=joinL_len sep xs (i+1)
   rw [take_snoc' hx] at tot
   walk_at "rd"
   refine ⟨_,.inl (.inl upd_same),rfl,_,_,rfl,_,_,rfl,rfl,?_⟩
   have hb2:H2 b=some (.lst (lV x)):=k _ _ hb (by simp)
   have bt:b≠t:=ne_of_none hb2 ht
   have hz:sizeLine=16777216:=by decide
   have lt2:upd H2 t (HO.tup [V.int (i:Int),V.ref b]) l=some (.lst (lV (joinL sep (xs.take i)))):=by rw [upd_ne tl];exact hl2
   have bt2:upd H2 t (HO.tup [V.int (i:Int),V.ref b]) b=some (.lst (lV x)):=by rw [upd_ne bt];exact hb2
   refine ⟨_,rfl,?_⟩
   have kk:Kp [] H (upd H2 t (HO.tup [V.int (i:Int),V.ref b])):=k.trans (Kp.new ht)
   by_cases h0:0<i
   ·have ne:xs.take i≠[]:=by
     intro z
     have h1:=congrArg List.length z
     have h2:i<xs.length:=(List.getElem?_eq_some_iff.mp hx).1
     rw [List.length_take,List.length_nil] at h1
     lia
    rw [joinL_snoc sep x _ ne,List.length_append,List.length_cons] at tot
    rw [if_pos (by lia)]
    refine ⟨.inl ⟨rfl,_,.inl (.inl lt2)⟩,_,lt2,by rw [lV_len];lia,.inl ⟨rfl,_,.inl (.inl upd_same)⟩,_,rfl,_,upd_same,_,by rw [upd_ne bl];exact bt2,by rw [List.length_append,lV_len,lV_len];simp;lia,?_⟩
    rw [hPv]
    refine ⟨_,_,rfl,(kk.put2 (.inr hl)).put2 (.inr hl),?_⟩
    rw [upd_same,take_snoc' hx,joinL_snoc sep x _ ne]
    unfold lV
    simp
   ·have i0:i=0:=by lia
    subst i0
    rw [if_neg (by lia)]
    refine ⟨.inl ⟨rfl,_,.inl (.inl lt2)⟩,_,rfl,_,lt2,_,bt2,by rw [lV_len,lV_len];simp [joinL] at tot ⊢;lia,?_⟩
    rw [hPv]
    refine ⟨_,_,rfl,kk.put2 (.inr hl),?_⟩
    rw [upd_same,take_snoc' hx]
    simp [joinL,lV]
  ·intro σ H2 hw
   rw [hPv] at hw
   obtain ⟨o1,o2,rfl,k,hl2⟩:=hw
   walk_at "rd"
   refine q H2 l hl k ?_
   rw [hl2,← Paired.length hP,List.take_length]
theorem put_app {f:Str}{v:V}:∀ {l:List (Str×V)},((l.map (·.1)).contains f)=false→putF f v l=l++[(f,v)]
 | [],_=>rfl
 | (g,x)::r,h=>by
  have h':(f==g || (r.map (·.1)).contains f)=false:=by simpa [List.contains_cons] using h
  rw [Bool.or_eq_false_iff] at h'
  show (if g=f then _ else _)=_
  rw [if_neg (fun z=>by rw [z] at h';simp at h'),put_app h'.2]
  rfl
theorem put_lt {f:Str}{v:V}{fs:List (Str×V)}{n:Nat} (h:fs.length≤n):(putF f v fs).length≤n+1:=Nat.le_trans (length_putF f v fs) (by lia)
end
section
variable {P:Program}{w:World}{K:PySem.W.Frag}{mg:Str→Option Value}{base:Heap}{a:Ad}
theorem SqL.is (T:Txt K mg a) {H:Hp}{ta:Addr}{xs:List V} (h:SqL K H ta xs):∃ o,H ta=some o:=by
 rcases h with (h | ⟨o,h⟩) | ⟨o,_,_,h,hc,_⟩
 ·exact ⟨_,h⟩
 ·exact ⟨_,h⟩
 ·exact absurd hc (T.nl _ _ h)
theorem cut_take (bs:List UInt8) (p:Nat):cutV (bsV bs) none (some (p:Int))=bsV (bs.take p):=by
 unfold cutV
 rw [HT.sIx_none,HT.sIx_nat,List.drop_zero,Nat.sub_zero,bsV_len]
 unfold bsV
 rw [← List.map_take]
 congr 1
 by_cases h:p≤bs.length
 ·rw [Nat.min_eq_left h]
 ·rw [Nat.min_eq_right (by lia),List.take_of_length_le (Nat.le_refl _),List.take_of_length_le (by lia)]
theorem keepF {G H' H'':Hp}{S:List Addr}{b:Addr}{o:HO} (k:Kp S H' H'') (hs:∀ c∈S,∃ o,G c=some o) (hb0:G b=none) (hb:H' b=some o):H'' b=some o:=k b o hb fun z=>by
 obtain ⟨o',h⟩:=hs b z
 rw [hb0] at h;cases h
theorem ixL_go {H:Hp}{p:Addr}{xs:List V}{j:Nat}{v:V}{Q:VK} (h:H p=some (.lst xs)) (e:xs[j]?=some v) (q:Q v H):rIxL K (.ref p) (.int (j:Int)) H Q:=⟨p,xs,(j:Int),v,rfl,rfl,.inl (.inl h),atI_nat e,q⟩
theorem ixT_go {H:Hp}{p:Addr}{xs:List V} (j:Nat) {v:V}{Q:VK} (h:H p=some (.tup xs)) (e:xs[j]?=some v) (q:Q v H):rIxT K (.ref p) (.int (j:Int)) H Q:=⟨p,xs,(j:Int),v,rfl,rfl,.inl (.inl h),atI_nat e,q⟩
theorem lc_str {x:Str}{g:TG}{tt:TT}{te:TE}{vs:List Nat}{σ:L2.St}{H1:Hp}{D:Addr}{Qd:Hp→Prop} (Pv:Nat→Hp→Prop) (h0:Pv 0 (upd H1 D (.lst [])))
  (hs:∀ i c H,x.cps[i]?=some c→Pv i H→g (.str ⟨#[c]⟩) (wipe σ vs) H fun σ2 H2=>wipe σ2 vs=wipe σ vs∧tt σ2 H2 fun b H3 =>
   if b=true then te σ2 H3 fun y H4=>∃ acc,H4 D=some (.lst acc)∧acc.length<sizeLine∧Pv (i+1) (upd H4 D (.lst (acc++[y]))) else Pv (i+1) H3) (hd:∀ H,Pv x.cps.size H→Qd H) :
  ∃ W:Nat→Nat→Hp→Prop,(∃ m,W 0 m (upd H1 D (.lst [])))∧∀ i m H,W i m H →
   ((Its x).stop i H∧Qd H)∨((Its x).go i H∧∃ Nx:Hp→Prop,(∀ H',Nx H'→∃ m',m' < m∧W (i+1) m' H')∧∀ v H',(Its x).yld i H v H'→g v (wipe σ vs) H' fun σ2 H2=>wipe σ2 vs=wipe σ vs∧tt σ2 H2 fun b H3 =>
    if b=true then te σ2 H3 fun y H4=>∃ acc,H4 D=some (.lst acc)∧acc.length<sizeLine∧Nx (upd H4 D (.lst (acc++[y]))) else Nx H3):=by
 refine ⟨fun i m H=>m=x.cps.size-i∧i≤x.cps.size∧Pv i H,⟨x.cps.size,by simp,Nat.zero_le _,h0⟩,?_⟩
 rintro i m H ⟨rfl,hi,p⟩
 by_cases hlt:i<x.cps.size
 ·refine .inr ⟨hlt,Pv (i+1),fun H' p'=>⟨x.cps.size-(i+1),by lia,rfl,hlt,p'⟩,?_⟩
  rintro v H' ⟨e,c,hc,rfl⟩
  subst e
  exact hs i c _ hc p
 ·have e:i=x.cps.size:=by lia
  subst e
  exact .inl ⟨Nat.le_refl _,hd H p⟩
def sp_characters_of (K:PySem.W.Frag) (a:Ad):Sp:=fun vs H Q _=>∃ (x:Str),vs=[.str x]∧x.cps.size≤1048576∧∀ H' p,H p=none→Kp [] H H'→H' p=some (.lst (lV x.cps.toList))→Q (.ref p) H'
abbrev s_characters_of:Stmt:=top 7
theorem sc_characters_of:FnScope ["text","sign"] ["text"] (defScope s_characters_of):=⟨rfl,rfl,rfl,by decide +kernel,rfl,by decide +kernel,by decide +kernel⟩
theorem bk_characters_of_0:BlkOk ["text","sign"] (defScope s_characters_of) (lcSc (stVal (stI (defBody s_characters_of) 0))) [("sign",1)]:=⟨rfl,by decide +kernel,by decide +kernel,by decide +kernel,by decide +kernel⟩
theorem ok_characters_of {f:Addr}{fd:FuncData} (F:Fun K "characters_of" "characters_of" s_characters_of f fd) (T:Txt K mg a):FnOk P w K mg base CX0 1 f fd ["text"] (sp_characters_of K a):=by
 refine F.ok sc_characters_of (fun vs H Q E h=>?_) (fun cdv A outer s H vs Q E hr h=>?_)
 ·obtain ⟨x,rfl,hx,q⟩:=h
  rfl
 ·obtain ⟨x,rfl,hx,q⟩:=h
  have nd:=sc_characters_of.nd
  refine ⟨_,(pss_one (ps_ret (pe_lc rfl nd (pi_str (pv 0)) bk_characters_of_0 (fun _ _ _ _ _=>(pg_name (i:=1) nd rfl (Or.inl rfl))) (fun _ _ _ _ _=>pts_nil) (fun _ _ _ _ _=>(pe_callB call_ord rfl T.ord boot_ord (pa_cons (pv 1) pa_nil)))))),?_⟩
  refine ⟨_,rfl,x,rfl,fun D hD=>?_⟩
  obtain ⟨Pv,hPv⟩:∃ Pv:Nat→Hp→Prop,Pv=fun i H'=>Kp [] H H'∧H' D=some (.lst (lV (x.cps.toList.take i))):=⟨_,rfl⟩
  refine lc_str Pv ?_ ?_ ?_
  ·rw [hPv]
   exact ⟨Kp.new hD,upd_same⟩
  ·intro i c H2 hi hw
   rw [hPv] at hw
   obtain ⟨k,hD2⟩:=hw
   refine ⟨rfl,?_⟩
   simp only [tYes]
   walk_at "rd"
   refine ⟨_,rfl,_,rfl,rfl,_,hD2,?_,?_⟩
   ·unfold lV;rw [List.length_map,List.length_take,Array.length_toList]
    exact Nat.lt_of_le_of_lt (Nat.le_trans (Nat.min_le_right _ _) hx) (by decide)
   ·rw [hPv]
    refine ⟨k.put2 (.inr hD),?_⟩
    rw [upd_same,take_snoc' (x:=c) (by rw [Array.getElem?_toList];exact hi)]
    unfold lV
    rw [List.map_append];rfl
  ·intro H2 hw
   rw [hPv] at hw
   obtain ⟨k,hD2⟩:=hw
   rw [List.take_of_length_le (by simp)] at hD2
   exact q H2 D hD k hD2
def sp_bytes_of_character (K:PySem.W.Frag) (a:Ad):Sp:=fun vs H Q _=>∃ (c:Nat),vs=[.int (c:Int)]∧c<0x110000∧∀ p,H p=none→Q (.ref p) (upd H p (.lst (bsV (Vh.charOf c))))
abbrev s_bytes_of_character:Stmt:=top 9
theorem sc_bytes_of_character:FnScope ["character","last","middle"] ["character"] (defScope s_bytes_of_character):=⟨rfl,rfl,rfl,by decide +kernel,rfl,by decide +kernel,by decide +kernel⟩
theorem ok_bytes_of_character {f:Addr}{fd:FuncData} (F:Fun K "bytes_of_character" "bytes_of_character" s_bytes_of_character f fd) (T:Txt K mg a):FnOk P w K mg base CX0 1 f fd ["character"] (sp_bytes_of_character K a):=by
 refine F.ok sc_bytes_of_character (fun vs H Q E h=>?_) (fun cdv A outer s H vs Q E hr h=>?_)
 ·obtain ⟨c,rfl,hc,q⟩:=h
  rfl
 ·obtain ⟨c,rfl,hc,q⟩:=h
  have nd:=sc_bytes_of_character.nd
  refine ⟨_,(pss_cons (ps_if (pt_cmpR op_lt (pv 0) pe_int (nomark _)) (pss_one (ps_ret (pe_lst (pa_cons (pv 0) pa_nil)))) pss_nil) (pss_cons (ps_set (i:=1) nd rfl (Or.inl rfl) (pe_op op_add pe_int (pe_op op_mod (pv 0) pe_int))) (pss_cons (ps_if (pt_cmpR op_lt (pv 0) pe_int (nomark _)) (pss_one (ps_ret (pe_lst (pa_cons (pe_op op_add pe_int (pe_op op_fdiv (pv 0) pe_int)) (pa_cons (pv 1) pa_nil))))) pss_nil) (pss_cons (ps_set (i:=2) nd rfl (Or.inl rfl) (pe_op op_add pe_int (pe_op op_mod (pe_op op_fdiv (pv 0) pe_int) pe_int))) (pss_cons (ps_if (pt_cmpR op_lt (pv 0) pe_int (nomark _)) (pss_one (ps_ret (pe_lst (pa_cons (pe_op op_add pe_int (pe_op op_fdiv (pv 0) pe_int)) (pa_cons (pv 2) (pa_cons (pv 1) pa_nil)))))) pss_nil) (pss_one (ps_ret (pe_lst (pa_cons (pe_op op_add pe_int (pe_op op_fdiv (pv 0) pe_int)) (pa_cons (pe_op op_add pe_int (pe_op op_mod (pe_op op_fdiv (pv 0) pe_int) pe_int)) (pa_cons (pv 2) (pa_cons (pv 1) pa_nil)))))))))))),?_⟩
  walk_at "rd"
  generalize h65:(65536:Int)=b65
  have z1:1≤sizeLine:=by decide
  have z2:2≤sizeLine:=by decide
  have z3:3≤sizeLine:=by decide
  have z4:4≤sizeLine:=by decide
  have d1:CDiv (c:Int) 64:=⟨by decide,by decide⟩
  have d2:CDiv (c:Int) 4096:=⟨by decide,by decide⟩
  have d3:CDiv (c:Int) 262144:=⟨by decide,by decide⟩
  have b1:∀ {n:Nat}{i:Int},n<256→i=n→V.int i=V.int ((UInt8.ofNat n).toNat:Int):=fun h e=>by
   subst e
   rw [UInt8.toNat_ofNat_of_lt' (by simpa using h)]
  unfold Vh.charOf bsV at q
  split
  ·rename_i h
   rw [if_pos (by lia)] at q
   refine ⟨z1,fun p hp=>?_⟩
   have:=q p hp
   rw [List.map_cons,List.map_nil,← b1 (i:=(c:Int)) (by lia) rfl] at this
   exact this
  ·rename_i h
   rw [if_neg (by lia)] at q
   refine ⟨by decide,?_⟩
   split
   ·rename_i h1
    rw [if_pos (by lia)] at q
    refine ⟨d1,z2,fun p hp=>?_⟩
    have:=q p hp
    rw [List.map_cons,List.map_cons,List.map_nil,← b1 (i:=192+(c:Int) / 64) (by lia) (by lia),← b1 (i:=128+(c:Int) % 64) (by lia) (by lia)] at this
    exact this
   ·rename_i h1
    rw [if_neg (by lia)] at q
    refine ⟨d1,by decide,?_⟩
    split
    ·rename_i h2
     rw [if_pos (by lia)] at q
     refine ⟨d2,z3,fun p hp=>?_⟩
     have:=q p hp
     rw [List.map_cons,List.map_cons,List.map_cons,List.map_nil,← b1 (i:=224+(c:Int) / 4096) (by lia) (by lia),← b1 (i:=128+(c:Int) / 64 % 64) (by lia) (by lia),← b1 (i:=128+(c:Int) % 64) (by lia) (by lia)] at this
     exact this
    ·rename_i h2
     rw [if_neg (by lia)] at q
     refine ⟨d3,d2,by decide,z4,fun p hp=>?_⟩
     have:=q p hp
     rw [List.map_cons,List.map_cons,List.map_cons,List.map_cons,List.map_nil,← b1 (i:=240+(c:Int) / 262144) (by lia) (by lia),← b1 (i:=128+(c:Int) / 4096 % 64) (by lia) (by lia),← b1 (i:=128+(c:Int) / 64 % 64) (by lia) (by lia),← b1 (i:=128+(c:Int) % 64) (by lia) (by lia)] at this
     exact this
theorem lV_get {l:List Nat}{i:Nat}{x:V} (hi:(lV l)[i]?=some x):∃ n:Nat,l[i]?=some n∧V.int (n:Int)=x:=by
 unfold lV at hi
 rw [List.getElem?_map] at hi
 cases h:l[i]? with
 | none=>rw [h] at hi;cases hi
 | some n=>rw [h] at hi;exact ⟨n,rfl,by simpa using hi⟩
theorem spelt_len:∀ xs:List Nat,(Vh.spelt xs).length≤4 * xs.length
 | []=>Nat.le_refl _
 | x::xs=>by
  have h1:(Vh.charOf x).length≤4:=by unfold Vh.charOf;(repeat' split) <;> simp
  have:=spelt_len xs
  unfold Vh.spelt at this ⊢
  rw [List.flatMap_cons,List.length_append,List.length_cons];lia
theorem spelt_snoc (xs:List Nat) (c:Nat):Vh.spelt (xs++[c])=Vh.spelt xs++Vh.charOf c:=by unfold Vh.spelt;rw [List.flatMap_append];simp
def sp_bytes_of (K:PySem.W.Frag) (a:Ad):Sp:=fun vs H Q _=>∃ (l:Addr) (xs:List Nat),vs=[.ref l]∧H l=some (.lst (lV xs))∧(∀ c∈xs,c<0x110000)∧xs.length≤4194303∧∀ H' p,H p=none→Kp [] H H'→H' p=some (.lst (bsV (Vh.spelt xs)))→Q (.ref p) H'
abbrev s_bytes_of:Stmt:=top 10
theorem sc_bytes_of:FnScope ["characters","found","character"] ["characters"] (defScope s_bytes_of):=⟨rfl,rfl,rfl,by decide +kernel,rfl,by decide +kernel,by decide +kernel⟩
theorem ok_bytes_of {f:Addr}{fd:FuncData} (F:Fun K "bytes_of" "bytes_of" s_bytes_of f fd) (T:Txt K mg a) (c_bytes_of_character:FnC P w K mg base CX0 1 "bytes_of_character" ["character"] (sp_bytes_of_character K a)):FnOk P w K mg base CX0 2 f fd ["characters"] (sp_bytes_of K a):=by
 refine F.ok sc_bytes_of (fun vs H Q E h=>?_) (fun cdv A outer s H vs Q E hr h=>?_)
 ·obtain ⟨l,xs,rfl,hl,hc,hn,q⟩:=h
  rfl
 ·obtain ⟨l,xs,rfl,hl,hc,hn,q⟩:=h
  have nd:=sc_bytes_of.nd
  refine ⟨_,(pss_cons (ps_set (i:=1) nd rfl (Or.inl rfl) (pe_lst pa_nil)) (pss_cons (ps_for PassesOwn.never rfl (pi_list (pv 0)) (pg_name (i:=2) nd rfl (Or.inl rfl)) (pss_one (ps_expr (pe_bm PySem.F.plainAttrs_list PySem.F.slot_list_extend PySem.F.type_list_extend mt_extend (pv 1) (pa_cons (pe_callC c_bytes_of_character hr pass0 (pa_cons (pv 2) pa_nil)) pa_nil))))) (pss_one (ps_ret (pv 1))))),?_⟩
  walk_at "rd"
  refine ⟨by decide,fun D hD=>?_⟩
  have nD:l≠D:=ne_of_none hl hD
  obtain ⟨Pv,hPv⟩:∃ Pv:WT,Pv=fun i σ H'=>∃ o:Option V,σ=[some (.ref l),some (.ref D),o]∧Kp [] H H'∧H' D=some (.lst (bsV (Vh.spelt (xs.take i)))):=⟨_,rfl⟩
  refine ⟨_,rfl,_,rfl,⟨_,.inl (.inl (by rw [upd_ne nD];exact hl))⟩,for_list (xs:=lV xs) Pv ?_ ?_ ?_ ?_⟩
  ·rw [hPv]
   exact ⟨none,rfl,Kp.new hD,upd_same⟩
  ·intro i σ H' _ hw
   rw [hPv] at hw
   obtain ⟨o,rfl,k,_⟩:=hw
   exact .inl (.inl (k _ _ hl (by simp)))
  ·intro i v σ H2 hi hw
   rw [hPv] at hw
   obtain ⟨o,rfl,k,hD2⟩:=hw
   obtain ⟨n,hn',rfl⟩:=lV_get hi
   have tot:=spelt_len (xs.take (i+1))
   have hle:(xs.take (i+1)).length≤xs.length:=by rw [List.length_take];lia
   rw [take_snoc' hn',spelt_snoc,List.length_append] at tot
   rw [take_snoc' hn'] at hle
   have hz:sizeLine=16777216:=by decide
   walk_at "rd"
   refine ⟨.inl ⟨rfl,_,.inl (.inl hD2)⟩,n,rfl,hc n (List.mem_of_getElem? hn'),fun p hp=>?_⟩
   have nDp:D≠p:=ne_of_none hD2 hp
   have hD3:upd H2 p (HO.lst (bsV (Vh.charOf n))) D=some (.lst (bsV (Vh.spelt (xs.take i)))):=by rw [upd_ne nDp];exact hD2
   refine ⟨_,rfl,_,hD3,_,upd_same,by rw [bsV_len,bsV_len];lia,?_⟩
   rw [hPv]
   refine ⟨_,rfl,(k.trans (Kp.new hp)).put2 (.inr hD),?_⟩
   rw [upd_same,take_snoc' hn',spelt_snoc]
   unfold bsV
   rw [List.map_append]
  ·intro σ H2 hw
   rw [hPv] at hw
   obtain ⟨o,rfl,k,hD2⟩:=hw
   rw [lV_len,List.take_of_length_le (Nat.le_refl _)] at hD2
   walk_at "rd"
   exact q H2 D hD k hD2
theorem log_small {n:Nat} (h:n<2 ^ 64):((n:Int).natAbs).log2<1920:=by
 rw [Int.natAbs_natCast]
 by_cases z:n=0
 ·subst z;decide
 ·exact Nat.lt_trans ((Nat.log2_lt z).mpr h) (by decide)
theorem str_app (x y:Str):(x++y).cps.toList=x.cps.toList++y.cps.toList:=by
 show (x.cps++y.cps).toList=_
 simp
theorem str_len (x:Str):x.length=x.cps.toList.length:=by
 show x.cps.size=_
 simp
end
section
variable {P:Program}{w:World}{K:PySem.W.Frag}{mg:Str→Option Value}{base:Heap}{a:Ad}
def tf (w h m:Nat) (e r:Addr):List (Str×V):=[("width",.int (w:Int)),("height",.int (h:Int)),("cell_count",.int (m:Int)),("head",.ref e),("rows",.ref r)]
theorem tf_eq (w h m:Nat) (e r:Addr):putF "rows" (.ref r) (putF "head" (.ref e) (putF "cell_count" (.int (m:Int)) (putF "height" (.int (h:Int)) (putF "width" (.int (w:Int)) []))))=tf w h m e r:=by
 rw [put_app (l:=[]) rfl];simp only [List.cons_append,List.nil_append]
 rw [put_app (l:=[_]) rfl];simp only [List.cons_append,List.nil_append]
 rw [put_app (l:=[_,_]) rfl];simp only [List.cons_append,List.nil_append]
 rw [put_app (l:=[_,_,_]) rfl];simp only [List.cons_append,List.nil_append]
 rw [put_app (l:=[_,_,_,_]) rfl];simp only [List.cons_append,List.nil_append]
 rfl
theorem tf_width (w h m:Nat) (e r:Addr):(tf w h m e r).lookup ("width":Str)=some (.int (w:Int)):=by rfl
theorem tf_height (w h m:Nat) (e r:Addr):(tf w h m e r).lookup ("height":Str)=some (.int (h:Int)):=by rfl
theorem tf_cell_count (w h m:Nat) (e r:Addr):(tf w h m e r).lookup ("cell_count":Str)=some (.int (m:Int)):=by rfl
theorem tf_head (w h m:Nat) (e r:Addr):(tf w h m e r).lookup ("head":Str)=some (.ref e):=by rfl
theorem tf_rows (w h m:Nat) (e r:Addr):(tf w h m e r).lookup ("rows":Str)=some (.ref r):=by rfl
theorem tf_put_head (w h m:Nat) (e r e2:Addr):putF "head" (.ref e2) (tf w h m e r)=tf w h m e2 r:=by
 show (if ("width":Str)="head" then _ else _)=_
 rw [if_neg (by decide)]
 show _::(if ("height":Str)="head" then _ else _)=_
 rw [if_neg (by decide)]
 show _::_::(if ("cell_count":Str)="head" then _ else _)=_
 rw [if_neg (by decide)]
 show _::_::_::(if ("head":Str)="head" then _ else _)=_
 rw [if_pos rfl]
 rfl
def sp_Table_init (K:PySem.W.Frag) (a:Ad):Sp:=fun vs H Q _=>∃ (x dx se:Addr) (w h m:Nat),vs=[.ref x,.ref se]∧H x=some (.ins a.CT dx [])∧H se=some (.lst [.int (w:Int),.int (h:Int),.int (m:Int)]) ∧
 ∀ H' e r,Kp [x] H H'→H' x=some (.ins a.CT dx (tf w h m e r))→(H e=none∧H r=none)→(e≠x∧r≠x∧e≠r)→H' e=some (.lst [])→H' r=some (.lst [])→Q .non H'
abbrev s_Table_init:Stmt:=inClass (top 29) 0
theorem sc_Table_init:FnScope ["self","settings"] ["self","settings"] (defScope s_Table_init):=⟨rfl,rfl,rfl,by decide +kernel,rfl,by decide +kernel,by decide +kernel⟩
theorem ok_Table_init {f:Addr}{fd:FuncData} (F:Fun K "__init__" "Table.__init__" s_Table_init f fd) (T:Txt K mg a):FnOk P w K mg base CX0 1 f fd ["self","settings"] (sp_Table_init K a):=by
 refine F.ok sc_Table_init (fun vs H Q E h=>?_) (fun cdv A outer s H vs Q E hr h=>?_)
 ·obtain ⟨x,dx,se,wd,ht,m,rfl,hR,hse,q⟩:=h
  rfl
 ·obtain ⟨x,dx,se,wd,ht,m,rfl,hR,hse,q⟩:=h
  have nd:=sc_Table_init.nd
  refine ⟨_,(pss_cons (ps_fld (pv 0) (pe_ix ix_list (pv 1) pe_int (fun _ _=>rfl)) rfl) (pss_cons (ps_fld (pv 0) (pe_ix ix_list (pv 1) pe_int (fun _ _=>rfl)) rfl) (pss_cons (ps_fld (pv 0) (pe_ix ix_list (pv 1) pe_int (fun _ _=>rfl)) rfl) (pss_cons (ps_fld (pv 0) (pe_lst pa_nil) rfl) (pss_one (ps_fld (pv 0) (pe_lst pa_nil) rfl)))))),?_⟩
  have hR2:=hR
  walk_at "gs"
  walk_at "gr"
  have sx:se≠x:=ne_of hse hR (by intro z;cases z)
  have hq:∀ o,SqL K (upd H x o) se [.int (wd:Int),.int (ht:Int),.int (m:Int)]:=fun o=>.inl (.inl (by rw [upd_ne sx];exact hse))
  have l1:∀ {u:V},(putF "width" u []).length≤1:=fun {u}=>put_lt (Nat.le_refl 0)
  refine ⟨_,.inl (.inl hse),_,rfl,g_v0 (g_sfld1 hR T.clTable T.nT_width ⟨by decide,?_⟩)⟩
  walk_at "gr"
  refine ⟨_,hq _,_,rfl,g_v0 (g_sfld2 T.clTable T.nT_height ⟨Nat.lt_of_le_of_lt l1 (by decide),?_⟩)⟩
  walk_at "gr"
  have l2:=put_lt (f:="height") (v:=V.int (ht:Int)) (l1 (u:=V.int (wd:Int)))
  refine ⟨_,hq _,_,rfl,g_v0 (g_sfld2 T.clTable T.nT_cell_count ⟨Nat.lt_of_le_of_lt l2 (by decide),?_⟩)⟩
  walk_at "gr"
  have l3:=put_lt (f:="cell_count") (v:=V.int (m:Int)) l2
  have key:=tf_eq wd ht m
  generalize hF3:putF "cell_count" (V.int (m:Int)) (putF "height" (V.int (ht:Int)) (putF "width" (V.int (wd:Int)) []))=F3 at l3 key ⊢
  refine ⟨(show 0≤sizeLine by decide),fun e he=>?_⟩
  have ex:e≠x:=fun z=>by rw [z,upd_same] at he;cases he
  have he0:H e=none:=by rw [upd_ne ex] at he;exact he
  refine g_v0 (g_sfld1 (by rw [upd_ne (Ne.symm ex),upd_same]) T.clTable T.nT_head ⟨Nat.lt_of_le_of_lt l3 (by decide),?_⟩)
  walk_at "gr"
  refine ⟨(show 0≤sizeLine by decide),fun r hr'=>?_⟩
  have rx:r≠x:=fun z=>by rw [z,upd_same] at hr';cases hr'
  rw [upd_ne rx] at hr'
  have re:r≠e:=fun z=>by rw [z,upd_same] at hr';cases hr'
  have hr0:H r=none:=by rw [upd_ne re,upd_ne rx] at hr';exact hr'
  refine g_v0 (g_sfld1 (by rw [upd_ne (Ne.symm rx),upd_same]) T.clTable T.nT_rows ⟨Nat.lt_of_le_of_lt (put_lt l3) (by decide),?_⟩)
  walk_at "gr"
  refine q _ e r ?_ (by rw [upd_same,key]) ⟨he0,hr0⟩ ⟨ex,rx,Ne.symm re⟩ ?_ ?_
  ·intro d o hd n
   have dx':d≠x:=by simpa using n
   rw [upd_ne dx',upd_ne (ne_of_none hd hr0),upd_ne dx',upd_ne (ne_of_none hd he0),upd_ne dx']
   exact hd
  ·rw [upd_ne ex,upd_ne (Ne.symm re),upd_ne ex,upd_same]
  ·rw [upd_ne rx,upd_same]
end
section
variable {P:Program}{w:World}{K:PySem.W.Frag}{mg:Str→Option Value}{base:Heap}{a:Ad}
theorem bytes_at {bs:List UInt8}{p p':Nat}{c:UInt8}{x:Unit} (h:pk bs p=c.toNat) (e:Vh.byte_ c p (bs.drop p)=.ok (x,p',bs.drop p')):p'=p+1:=by
 rw [byte_ok h] at e
 injection e with e;injection e with _ e;injection e with e _
 exact e.symm
theorem ends_not {bs:List UInt8}{p:Nat} (h:endsT bs [] p=false):pk bs p≠124∧pk bs p≠10:=by
 constructor
 ·intro z;unfold endsT at h;rw [z] at h;exact absurd h (by decide)
 ·intro z;unfold endsT at h;rw [z] at h;simp at h
def CellA (N:Addr→Prop) (H:Hp) (c:List (List Nat)) (q:Addr):Prop:=N q∧∃ wa,H q=some (.lst (wa.map V.ref))∧Paired (fun x p=>N p∧H p=some (.lst (lV x))) c wa
def RowA (N:Addr→Prop) (H:Hp) (r:List (List (List Nat))) (q:Addr):Prop:=N q∧∃ ca,H q=some (.lst (ca.map V.ref))∧Paired (CellA N H) r ca
theorem Paired.imp {α β:Type}{R S:α→β→Prop} (h:∀ x y,R x y→S x y):∀ {xs:List α}{ys:List β},Paired R xs ys→Paired S xs ys
 | _,_,.nil=>.nil
 | _,_,.cons r t=>.cons (h _ _ r) (Paired.imp h t)
theorem CellA.keep {N M:Addr→Prop}{H H':Hp}{c:List (List Nat)}{q:Addr} (h:CellA N H c q) (m:∀ z,N z→M z) (k:∀ z o,N z→H z=some o→H' z=some o):CellA M H' c q:=by
 obtain ⟨h1,wa,h2,h3⟩:=h
 exact ⟨m _ h1,wa,k _ _ h1 h2,Paired.imp (fun x p hp=>⟨m _ hp.1,k _ _ hp.1 hp.2⟩) h3⟩
theorem RowA.keep {N M:Addr→Prop}{H H':Hp}{r:List (List (List Nat))}{q:Addr} (h:RowA N H r q) (m:∀ z,N z→M z) (k:∀ z o,N z→H z=some o→H' z=some o):RowA M H' r q:=by
 obtain ⟨h1,ca,h2,h3⟩:=h
 exact ⟨m _ h1,ca,k _ _ h1 h2,Paired.imp (fun x p hp=>hp.keep m k) h3⟩
theorem refs_of {N:Addr→Prop}{H H':Hp}{xs:List (List Nat)}{vs:List V} (h:Paired (LN H H') xs vs):∃ wa,vs=wa.map V.ref∧Paired (fun x p=>H p=none∧H' p=some (.lst (lV x))) xs wa:=by
 induction h with
 | nil=>exact ⟨[],rfl,.nil⟩
 | cons r _ ih =>
  obtain ⟨l,rfl,h1,h2⟩:=r
  obtain ⟨wa,rfl,ih⟩:=ih
  exact ⟨l::wa,rfl,.cons ⟨h2,h1⟩ ih⟩
def sp_read_cell (K:PySem.W.Frag) (a:Ad):Sp:=fun vs H Q E=>∃ (r ta:Addr) (bs:List UInt8) (p left:Nat),vs=[.ref r,.int (left:Int)]∧Rdr K a H r ta bs p∧left≤65536 ∧
 (∀ c p' H' l,cell_ left p (bs.drop p)=.ok (c,p',bs.drop p')→c.length≤left→CellA (fun z=>H z=none) H' c l→Kp [r] H H'→Rdr K a H' r ta bs p'→Q (.ref l) H') ∧
 ∀ p' H',((∃ i,cell_ left p (bs.drop p)=.error i)∨∃ c,cell_ left p (bs.drop p)=.ok (c,p',bs.drop p')∧endsT bs [] p'=false)→Rdr K a H' r ta bs p'→E (.ref a.CE) none H'
abbrev s_read_cell:Stmt:=top 31
theorem sc_read_cell:FnScope ["reader","left"] ["reader","left"] (defScope s_read_cell):=⟨rfl,rfl,rfl,by decide +kernel,rfl,by decide +kernel,by decide +kernel⟩
theorem ok_read_cell {f:Addr}{fd:FuncData} (F:Fun K "read_cell" "read_cell" s_read_cell f fd) (T:Txt K mg a) (c_Reader_take_things:MethC P w K mg base (CX1 P w a.CE) 5 a.CR "take_things" ["self","most_things","most","marks"] (sp_Reader_take_things K a)) (c_Reader_sees:MethC P w K mg base CX0 2 a.CR "sees" ["self","sign"] (sp_Reader_sees K a)):FnOk P w K mg base (CX1 P w a.CE) 6 f fd ["reader","left"] (sp_read_cell K a):=by
 refine F.okE sc_read_cell (fun vs H Q E h=>?_) (fun cdv A outer s H vs Q E hr h=>?_)
 ·obtain ⟨r,ta,bs,p,left,rfl,⟨dx,hR,hS,hne⟩,hl6,q1,q2⟩:=h
  rfl
 ·obtain ⟨r,ta,bs,p,left,rfl,⟨dx,hR,hS,hne⟩,hl6,q1,q2⟩:=h
  have nd:=sc_read_cell.nd
  refine ⟨_,(pss_cons (ps_if (PW.pt (pw_or (pt_cmpR op_eq (pv 1) pe_int (nomark _)) (pw_or (pt_val (pe_methC (pv 0) T.clReader c_Reader_sees hr pass0 (pa_cons pe_str pa_nil))) (pw_or1 (pt_val (pe_methC (pv 0) T.clReader c_Reader_sees hr pass0 (pa_cons pe_str pa_nil))))))) (pss_one (ps_ret (pe_lst pa_nil))) pss_nil) (pss_one (ps_ret (pe_methC (pv 0) T.clReader c_Reader_take_things hr passX (pa_cons (pv 1) (pa_cons (pe_gint T.cMOST_LETTERS) (pa_cons (pe_tup pa_nil) pa_nil))))))),?_⟩
  walk_at "gs"
  have hR2:=hR
  have R:Rdr K a H r ta bs p:=⟨dx,hR,hS,hne⟩
  have none_:(left=0∨pk bs p=124∨pk bs p=10)→∀ l,H l=none→Q (.ref l) (upd H l (HO.lst [])):=fun h l hl=>by
   have lr:l≠r:=fun z=>by rw [z,hR] at hl;cases hl
   refine q1 [] p _ l (cell_none h) (by simp) ⟨hl,[],upd_same,.nil⟩ (Kp.new hl) (Rdr.move (dx:=dx) hS hne (Kp.new hl) (by rw [upd_ne (Ne.symm lr)];exact hR))
  walk_at "gr"
  by_cases h0:left=0
  ·rw [if_pos (by lia),if_pos rfl]
   walk_at "gr"
   exact ⟨(show 0≤sizeLine by decide),fun l hl=>none_ (.inl h0) l hl⟩
  rw [if_neg (by lia)]
  walk_at "gr"
  refine ⟨r,ta,bs,p,_,124,rfl,R,by decide,by decide,?_⟩
  walk_at "gr"
  by_cases h1:pk bs p=124
  ·rw [if_pos (by simpa using h1)]
   walk_at "gr"
   exact ⟨(show 0≤sizeLine by decide),fun l hl=>none_ (.inr (.inl h1)) l hl⟩
  rw [if_neg (by simpa using h1)]
  walk_at "gr"
  refine ⟨r,ta,bs,p,_,10,rfl,R,by decide,by decide,?_⟩
  walk_at "gr"
  by_cases h2:pk bs p=10
  ·rw [if_pos (by simpa using h2)]
   walk_at "gr"
   exact ⟨(show 0≤sizeLine by decide),fun l hl=>none_ (.inr (.inr h2)) l hl⟩
  rw [if_neg (by simpa using h2)]
  walk_at "gr"
  rw [cell_some ⟨h0,h1,h2⟩] at q1 q2
  refine ⟨by decide,fun t ht=>?_⟩
  walk_at "gr"
  have tr:t≠r:=fun z=>by rw [z,hR] at ht;cases ht
  have kt:Kp [r] H (upd H t (HO.tup [])):=Kp.new ht
  have hR:upd H t (HO.tup []) r=some (HO.ins a.CR dx (rf ta (p:Int))):=by rw [upd_ne (Ne.symm tr)];exact hR
  have R2:Rdr K a (upd H t (HO.tup [])) r ta bs p:=Rdr.move (dx:=dx) hS hne kt hR
  have mk0:MkOk K (upd H t (HO.tup [])) r t []:=⟨fun H' k'=>.inl (.inl (k' _ _ upd_same (by simp [tr]))),fun c hc=>absurd hc (by simp)⟩
  refine ⟨r,t,ta,bs,[],p,left,64,rfl,R2,mk0,by lia,by lia,by decide,by decide,fun xs vs p3 H3 t3 e3 x1 x2 x3 hl3 k3 ht3 hP R3=>?_,fun p3 H3 e3 R3=>q2 p3 H3 e3 R3⟩
  walk_at "gr"
  obtain ⟨wa,rfl,hP2⟩:=refs_of (N:=fun _=>True) hP
  have fr:∀ z,upd H t (HO.tup []) z=none→H z=none:=fun z hz=>kt.free (S:=[r]) (by
   intro m
   rw [List.mem_singleton.mp m,hR] at hz;cases hz) hz
  exact q1 xs p3 H3 t3 e3 x2 ⟨fr _ hl3,wa,ht3,Paired.imp (fun x q h=>⟨fr _ h.1,h.2⟩) hP2⟩ (kt.trans k3) R3
def sp_read_row (K:PySem.W.Frag) (a:Ad):Sp:=fun vs H Q E=>∃ (r ta:Addr) (bs:List UInt8) (p m left:Nat),vs=[.ref r,.int (m:Int),.int (left:Int)]∧Rdr K a H r ta bs p∧1≤m∧m≤4∧left≤65536 ∧
 (∀ row p' H' l,rowT_ m left p (bs.drop p)=.ok (row,p',bs.drop p')→cnt row≤left→RowA (fun z=>H z=none) H' row l→Kp [r] H H'→Rdr K a H' r ta bs p'→Q (.ref l) H') ∧
 ∀ H',(∃ i,rowT_ m left p (bs.drop p)=.error i)→E (.ref a.CE) none H'
abbrev s_read_row:Stmt:=top 32
theorem sc_read_row:FnScope ["reader","cell_count","left","row","k","cell"] ["reader","cell_count","left"] (defScope s_read_row):=⟨rfl,rfl,rfl,by decide +kernel,rfl,by decide +kernel,by decide +kernel⟩
theorem ok_read_row {f:Addr}{fd:FuncData} (F:Fun K "read_row" "read_row" s_read_row f fd) (T:Txt K mg a) (c_Reader_take:MethC P w K mg base (CX1 P w a.CE) 3 a.CR "take" ["self","sign"] (sp_Reader_take K a)) (c_read_cell:FnC P w K mg base (CX1 P w a.CE) 6 "read_cell" ["reader","left"] (sp_read_cell K a)):FnOk P w K mg base (CX1 P w a.CE) 7 f fd ["reader","cell_count","left"] (sp_read_row K a):=by
 refine F.okE sc_read_row (fun vs H Q E h=>?_) (fun cdv A outer s H vs Q E hr h=>?_)
 ·obtain ⟨r,ta,bs,p,m,left,rfl,⟨dx,hR,hS,hne⟩,hm1,hm4,hl6,q1,q2⟩:=h
  rfl
 ·obtain ⟨r,ta,bs,p,m,left,rfl,⟨dx,hR,hS,hne⟩,hm1,hm4,hl6,q1,q2⟩:=h
  have nd:=sc_read_row.nd
  refine ⟨_,(pss_cons (ps_set (i:=3) nd rfl (Or.inl rfl) (pe_lst pa_nil)) (pss_cons (ps_expr (pe_methC (pv 0) T.clReader c_Reader_take hr passX (pa_cons pe_str pa_nil))) (pss_cons (ps_for PassesOwn.leaving rfl (pi_range1 rfl T.range (pa_cons (pv 1) pa_nil)) (pg_name (i:=4) nd rfl (Or.inl rfl)) (pss_cons (ps_if (pt_cmpR op_gt (pv 4) pe_int (nomark _)) (pss_one (ps_expr (pe_methC (pv 0) T.clReader c_Reader_take hr passX (pa_cons pe_str pa_nil)))) pss_nil) (pss_cons (ps_set (i:=5) nd rfl (Or.inl rfl) (pe_callC c_read_cell hr passX (pa_cons (pv 0) (pa_cons (pv 2) pa_nil)))) (pss_cons (ps_aug (i:=2) nd rfl (Or.inl rfl) (pe_callB call_len_seq rfl T.len PySem.boot_len (pa_cons (pv 5) pa_nil)) ip_sub) (pss_one (ps_expr (pe_bm PySem.F.plainAttrs_list PySem.F.slot_list_append PySem.F.type_list_append mt_append (pv 3) (pa_cons (pv 5) pa_nil)))))))) (pss_cons (ps_expr (pe_methC (pv 0) T.clReader c_Reader_take hr passX (pa_cons pe_str pa_nil))) (pss_one (ps_ret (pv 3))))))),?_⟩
  walk_at "gs"
  have hR2:=hR
  have hR0:=hR
  have hS0:=hS
  have R:Rdr K a H r ta bs p:=⟨dx,hR,hS,hne⟩
  walk_at "gr"
  refine ⟨by decide,fun l hl=>?_⟩
  walk_at "gr"
  have lr:l≠r:=fun z=>by rw [z,hR] at hl;cases hl
  have kl:Kp [r] H (upd H l (HO.lst [])):=Kp.new hl
  have hR:upd H l (HO.lst []) r=some (HO.ins a.CR dx (rf ta (p:Int))):=by rw [upd_ne (Ne.symm lr)];exact hR
  have R1:Rdr K a (upd H l (HO.lst [])) r ta bs p:=Rdr.move (dx:=dx) hS hne kl hR
  have hR2:=hR
  rw [rowT_eq] at q1 q2
  walk_at "gr"
  refine ⟨r,ta,bs,p,_,61,rfl,R1,by decide,by decide,fun _ p1 H1 e1 k1 R2=>?_,fun p1 H1 e1 R2=>q2 _ ⟨_,then_no e1⟩⟩
  rw [then_ok e1] at q1 q2
  have hl1:H1 l=some (.lst []):=k1 _ _ upd_same (by simpa using lr)
  walk_at "gr"
  obtain ⟨X,hX⟩:∃ X,X=(Vh.andThen (cell_ left) fun (d:List Vh.Letters)=>tailR [d] (m-1) (left-d.length)) p1 (bs.drop p1):=⟨_,rfl⟩
  rw [← hX] at q1 q2
  obtain ⟨Pv,hPv⟩:∃ Pv:WT,Pv=fun i σ H'=>∃ (c:List (List (List Nat))) (ca:List Addr) (p':Nat) (o4 o5:Option V),σ=[some (.ref r),some (.int (m:Int)),some (.int ((left-cnt c:Nat):Int)),some (.ref l),o4,o5]∧c.length=i∧cnt c≤left∧H' l=some (.lst (ca.map V.ref)) ∧
   Paired (CellA (fun z=>H z=none∧z≠l) H') c ca∧Rdr K a H' r ta bs p'∧Kp [r] H H'∧(i=0→c=[]∧p'=p1)∧(0<i→X=tailR c (m-i) (left-cnt c) p' (bs.drop p')):=⟨_,rfl⟩
  refine ⟨_,rfl,(m:Int),rfl,by lia,by lia,for_range (n:=m) Pv ?_ ?_ ?_⟩
  ·rw [hPv]
   exact ⟨[],[],p1,none,none,rfl,rfl,Nat.zero_le _,hl1,.nil,R2,kl.trans k1,fun _=>⟨rfl,rfl⟩,fun z=>absurd z (by decide)⟩
  ·intro i σ H2 hi hw
   rw [hPv] at hw
   obtain ⟨c,ca,p2,o4,o5,rfl,hcl,hcn,hl2,hPc,⟨dx2,hR,hS,hne⟩,k2,hi0,hi1⟩:=hw
   have hR2:=hR
   have R2':Rdr K a H2 r ta bs p2:=⟨dx2,hR,hS,hne⟩
   have hca:=Paired.length hPc
   walk_at "gr"
   have body:∀ (p3:Nat) (H3:Hp),Rdr K a H3 r ta bs p3→Kp [r] H2 H3→X=(Vh.andThen (cell_ (left-cnt c)) fun (d:List Vh.Letters)=>tailR (c++[d]) (m-(i+1)) (left-cnt c-d.length)) p3 (bs.drop p3) →
     ∀ N R B C2,(∀ σ H',Pv (i+1) σ H'→N σ H')→M ⟨N,R,B,C2⟩ [some (V.ref r),some (V.int (m:Int)),some (V.int ((left-cnt c:Nat):Int)),some (V.ref l),some (V.int (0+(i:Int))),o5] H3:=fun p3 H3 R3 k3 e3 N RR B C2 hN=>by
    obtain ⟨dx3,hR,hS,hne⟩:=R3
    have hR2:=hR
    have hl3:H3 l=some (.lst (ca.map V.ref)):=k3 _ _ hl2 (by simpa using lr)
    refine hM _ _ _ ?_
    clear hM
    walk_at "gr"
    refine ⟨r,ta,bs,p3,left-cnt c,rfl,⟨dx3,hR,hS,hne⟩,by lia,fun d p4 H4 q4 e4 hd hq k4 R4=>?_,fun p4 H4 e4 R4=>?_⟩
    ·rw [then_ok e4] at e3
     walk_at "gr"
     have kH3:Kp [r] H H3:=k2.trans k3
     have nw:∀ z,H3 z=none→H z=none∧z≠l:=fun z hz=>⟨kH3.free (by
      intro mm
      rw [List.mem_singleton.mp mm,hR] at hz;cases hz) hz,fun y=>by rw [y,hl3] at hz;cases hz⟩
     obtain ⟨hq0,wa,hqa,hPw⟩:=hq
     have hwl:=Paired.length hPw
     have hl4:H4 l=some (.lst (ca.map V.ref)):=k4 _ _ hl3 (by simpa using lr)
     refine ⟨_,.inl (.inl (.inl hqa)),?_⟩
     walk_at "gr"
     refine ⟨.inl ⟨rfl,_,.inl (.inl hl4)⟩,?_⟩
     walk_at "gr"
     refine ⟨_,hl4,by rw [List.length_map,← hca];exact Nat.lt_of_le_of_lt (show c.length≤4 by lia) (by decide),?_⟩
     walk_at "gr"
     refine hN _ _ ?_
     rw [hPv]
     have hcn2:cnt (c++[d])=cnt c+d.length:=by unfold cnt;rw [List.map_append,List.sum_append];simp
     have el:((left-cnt c:Nat):Int)-((wa.map V.ref).length:Int)=((left-cnt (c++[d]):Nat):Int):=by rw [List.length_map,← hwl,hcn2];lia
     rw [el]
     have k5:Kp [r] H (upd H4 l (HO.lst (ca.map V.ref++[V.ref q4]))):=(kH3.trans k4).put2 (.inr hl)
     obtain ⟨dx4,a1,a2,a3⟩:=R4
     have nr:∀ {z:Addr},H z=none→z ∉ [r]:=fun {z} hz mm=>by rw [List.mem_singleton.mp mm,hR0] at hz;cases hz
     refine ⟨c++[d],ca++[q4],p4,_,_,rfl,by simp [hcl],by rw [hcn2];lia,by rw [upd_same,List.map_append];rfl,Paired.snoc (Paired.imp (fun x z h=>h.keep (fun _ hz=>hz) fun z o hz hz2=>by rw [upd_ne hz.2];exact k4 _ _ (k3 _ _ hz2 (nr hz.1)) (nr hz.1)) hPc) ?_,
      ⟨dx4,by rw [upd_ne (Ne.symm lr)];exact a1,k5.seq (by simpa using a3) hS0,a3⟩,k5,fun z=>absurd z (by lia),fun _=>?_⟩
     ·exact CellA.keep (N:=fun z=>H3 z=none) ⟨hq0,wa,hqa,hPw⟩ nw fun z o hz hz2=>by rw [upd_ne (nw z hz).2];exact hz2
     ·rw [e3,hcn2,Nat.sub_sub]
    ·refine q2 H4 ?_
     rcases e4 with ⟨ii,e4⟩ | ⟨d,e4,hb⟩
     ·rw [then_no e4] at e3
      exact ⟨_,e3⟩
     ·rw [then_ok e4,tailR_bad (ends_not hb).1 (ends_not hb).2] at e3
      exact ⟨_,e3⟩
   rw [Int.zero_add] at body ⊢
   by_cases h0:i=0
   ·obtain ⟨rfl,rfl⟩:=hi0 h0
    rw [if_neg (by lia)]
    refine body p2 H2 R2' Kp.refl ?_ _ _ _ _ fun _ _ z=>z
    rw [hX,h0]
    rfl
   ·rw [if_pos (by lia)]
    have e2:=hi1 (by lia)
    have em:m-i=(m-(i+1))+1:=by lia
    rw [em,tailR_step] at e2
    clear hM
    walk_at "gr"
    refine ⟨r,ta,bs,p2,_,124,rfl,R2',by decide,by decide,fun _ p3 H3 e3 k3 R3=>?_,fun p3 H3 e3 R3=>q2 _ ⟨_,by rw [e2];exact then_no e3⟩⟩
    rw [then_ok e3] at e2
    walk_at "gr"
    exact body p3 H3 R3 k3 e2 _ _ _ _ fun _ _ z=>z
  ·intro σ H2 hw
   rw [hPv] at hw
   obtain ⟨c,ca,p2,o4,o5,rfl,hcl,hcn,hl2,hPc,⟨dx2,hR,hS,hne⟩,k2,hi0,hi1⟩:=hw
   have hR2:=hR
   have e:=hi1 (by lia)
   rw [Nat.sub_self,tailR_zero] at e
   refine hM _ _ _ ?_
   walk_at "gr"
   refine ⟨r,ta,bs,p2,_,10,rfl,⟨dx2,hR,hS,hne⟩,by decide,by decide,fun _ p3 H3 e3 k3 R3=>?_,fun p3 H3 e3 R3=>q2 _ ⟨_,by rw [e];exact then_no e3⟩⟩
   rw [then_ok e3] at e
   walk_at "gr"
   refine q1 c p3 H3 l e hcn ⟨hl,ca,k3 _ _ hl2 (by simpa using lr),Paired.imp (fun x q h=>h.keep (fun z hz=>hz.1) fun z o hz hz2=>k3 _ _ hz2 ?_) hPc⟩ (k2.trans k3) R3
   intro mm
   rw [List.mem_singleton.mp mm,hR0] at hz;cases hz.1
end
set_option hygiene false in
local macro_rules | `(tactic| walk_at "wk")=>`(tactic| (try simp only [tSeq,tIfS,tOr,tAnd,tNot,tTest,tB,tOp,rI0,rI,tVar,tC,tChain,tRet,tRetN,tNext,tDrop,tAsg,gName,rEq,rNe,rIn,tAug,ipI,tCall,tCons,tNil,tUn,rU,tIf,tNotV,tAndV,tOrV,tCB,tRaise,tTup,tLst,L2.start,L2.cxOf,List.map_cons,List.map_nil,List.length_cons,List.length_nil,List.replicate,List.cons_append,List.nil_append,List.append_nil,Nat.sub_self,Nat.zero_add,Nat.add_sub_cancel,Nat.reduceAdd,Nat.reduceSub,List.getElem?_cons_zero,List.getElem?_cons_succ,List.set_cons_zero,List.set_cons_succ,Option.some.injEq,V.int.injEq,V.bl.injEq,V.ref.injEq,V.str.injEq,exists_eq_left',exists_and_left,exists_const,true_and,and_true,scal_ii,scal_ss,scal_bb,scal_nn,scal_in,decide_eq_true_eq,Bool.not_eq_true',decide_eq_false_iff_not,Bool.not_not,Bool.not_true,Bool.not_false,if_true,if_false,ite_true,ite_false,↓reduceIte,Bool.false_eq_true,List.cons.injEq,exists_eq_left,gTup,gCons,gNil,tBM,rAppend,rExtend,tSl,tNoPart,tPart,rSlL,tMake,tFld,tMeth,sFld,sFldAug,rAdd,rIxL,rIxT,hR,hR2,hWk,hWk2,T.clReader,T.n_t,T.n_at,rf_t,rf_at,rf_put,rf_len,T.clWork,T.n_width,T.n_height,T.n_indent,T.n_every,T.n_anew,T.n_loose,T.n_rows,T.n_head,T.n_paragraphs,T.n_words,T.n_signs,T.n_entries,wf_rows,wf_head,wf_paragraphs,wf_words,wf_signs,wf_entries,HO.ins.injEq,and_assoc,upd_same]))
section
variable {P:Program}{w:World}{K:PySem.W.Frag}{mg:Str→Option Value}{base:Heap}{a:Ad}
def sp_line_cost (K:PySem.W.Frag) (a:Ad):Sp:=fun vs H Q _=>∃ (t r:Nat) (b:Bool),vs=[.int (t:Int),.int (r:Int),.bl b]∧r≤1000000∧Q (.int (VhPage.lineCost r t b:Nat)) H
abbrev s_line_cost:Stmt:=top 12
theorem sc_line_cost:FnScope ["taken","room","is_last"] ["taken","room","is_last"] (defScope s_line_cost):=⟨rfl,rfl,rfl,by decide +kernel,rfl,by decide +kernel,by decide +kernel⟩
theorem ok_line_cost {f:Addr}{fd:FuncData} (F:Fun K "line_cost" "line_cost" s_line_cost f fd) (T:Txt K mg a):FnOk P w K mg base CX0 1 f fd ["taken","room","is_last"] (sp_line_cost K a):=by
 refine F.ok sc_line_cost (fun vs H Q E h=>?_) (fun cdv A outer s H vs Q E hr h=>?_)
 ·obtain ⟨t,r,b,rfl,hr0,q⟩:=h
  rfl
 ·obtain ⟨t,r,b,rfl,hr0,q⟩:=h
  have nd:=sc_line_cost.nd
  refine ⟨_,(pss_cons (ps_if (PW.pt (pw_or (pt_truth (pv 2) (fun _=>rfl)) (pw_or1 (pt_cmpR op_gt (pv 0) (pv 1) (nomark _))))) (pss_one (ps_ret pe_int)) pss_nil) (pss_one (ps_ret (pe_op op_pow (pe_op op_sub (pv 1) (pv 0)) pe_int)))),?_⟩
  unfold VhPage.lineCost at q
  walk_at "rd"
  refine ⟨b,rfl,?_⟩
  cases b
  ·rw [if_neg (by decide)]
   split
   ·rename_i h
    rw [if_pos (.inr (by lia))] at q
    exact q
   ·rename_i h
    rw [if_neg (by simp;lia)] at q
    refine ⟨⟨by decide,by decide,by lia⟩,?_⟩
    have e:((r:Int)-(t:Int)) ^ Int.toNat 2=(((r-t) ^ 2:Nat):Int):=by
     have e1:((r:Int)-(t:Int))=((r-t:Nat):Int):=by lia
     rw [e1,Int.natCast_pow];rfl
    rw [e];exact q
  ·rw [if_pos rfl]
   rw [if_pos (.inl rfl)] at q
   exact q
def endAt (r:Nat) (xs:List Nat) (e:Nat):Nat:=if e<xs.length then e+(bst r xs (tab r xs) e).2 else xs.length
def tailV (r:Nat) (xs:List Nat) (e:Nat):List V:=[.int (costAt r xs e:Nat),.int (endAt r xs e:Nat),.int (linesAt r xs e:Nat)]
def TailI (H:Hp) (r:Nat) (xs:List Nat) (e:Nat) (v:V):Prop:=∃ t,v=.ref t∧H t=some (.tup (tailV r xs e))
def sp_best_from (K:PySem.W.Frag) (a:Ad):Sp:=fun vs H Q _=>∃ (tk tl:Addr) (us:List V) (xs:List Nat) (start room r:Nat),vs=[.ref tk,.ref tl,.int (start:Int),.int (room:Int)]∧H tk=some (.lst (lV xs))∧H tl=some (.lst us)∧start<xs.length∧room≤1000000 ∧
 (∀ e,start<e→e≤xs.length→∃ v,us[e]?=some v∧TailI H r xs e v) ∧
 ∀ p,H p=none→Q (.ref p) (upd H p (.tup [.int ((bst room xs (tab r xs) start).1:Nat),.int (start+(bst room xs (tab r xs) start).2:Nat),.int (1+linesAt r xs (start+(bst room xs (tab r xs) start).2):Nat)]))
abbrev s_best_from:Stmt:=top 13
theorem sc_best_from:FnScope ["takes","tails","start","room","end","taken","best_end","least","total"] ["takes","tails","start","room"] (defScope s_best_from):=⟨rfl,rfl,rfl,by decide +kernel,rfl,by decide +kernel,by decide +kernel⟩
theorem ok_best_from {f:Addr}{fd:FuncData} (F:Fun K "best_from" "best_from" s_best_from f fd) (T:Txt K mg a) (c_line_cost:FnC P w K mg base CX0 1 "line_cost" ["taken","room","is_last"] (sp_line_cost K a)):FnOk P w K mg base CX0 2 f fd ["takes","tails","start","room"] (sp_best_from K a):=by
 refine F.ok sc_best_from (fun vs H Q E h=>?_) (fun cdv A outer s H vs Q E hr h=>?_)
 ·obtain ⟨tk,tl,us,xs,start,room,r,rfl,htk,htl,hs,hroom,hT,q⟩:=h
  rfl
 ·obtain ⟨tk,tl,us,xs,start,room,r,rfl,htk,htl,hs,hroom,hT,q⟩:=h
  have nd:=sc_best_from.nd
  refine ⟨_,(pss_cons (ps_set (i:=4) nd rfl (Or.inl rfl) (pe_op op_add (pv 2) pe_int)) (pss_cons (ps_set (i:=5) nd rfl (Or.inl rfl) (pe_ix ix_list (pv 0) (pv 2) (fun _ _=>rfl))) (pss_cons (ps_set (i:=6) nd rfl (Or.inl rfl) (pv 4)) (pss_cons (ps_set (i:=7) nd rfl (Or.inl rfl) (pe_op op_add (pe_callC c_line_cost hr pass0 (pa_cons (pv 5) (pa_cons (pv 3) (pa_cons (pe_cmpR op_eq (pv 4) (pe_callB call_len_seq rfl T.len PySem.boot_len (pa_cons (pv 0) pa_nil)) (nomark _)) pa_nil)))) (pe_ix ix_tup (pe_ix ix_list (pv 1) (pv 4) (fun _ _=>rfl)) pe_int (fun _ _=>rfl)))) (pss_cons (ps_while PassesOwn.never (pt_cmpR op_lt (pv 4) (pe_callB call_len_seq rfl T.len PySem.boot_len (pa_cons (pv 0) pa_nil)) (nomark _)) (pss_cons (ps_aug (i:=5) nd rfl (Or.inl rfl) (pe_op op_add pe_int (pe_ix ix_list (pv 0) (pv 4) (fun _ _=>rfl))) ip_add) (pss_cons (ps_aug (i:=4) nd rfl (Or.inl rfl) pe_int ip_add) (pss_cons (ps_if (pt_cmpR op_gt (pv 5) (pv 3) (nomark _)) (pss_one ps_break) pss_nil) (pss_cons (ps_set (i:=8) nd rfl (Or.inl rfl) (pe_op op_add (pe_callC c_line_cost hr pass0 (pa_cons (pv 5) (pa_cons (pv 3) (pa_cons (pe_cmpR op_eq (pv 4) (pe_callB call_len_seq rfl T.len PySem.boot_len (pa_cons (pv 0) pa_nil)) (nomark _)) pa_nil)))) (pe_ix ix_tup (pe_ix ix_list (pv 1) (pv 4) (fun _ _=>rfl)) pe_int (fun _ _=>rfl)))) (pss_one (ps_if (pt_cmpR op_le (pv 8) (pv 7) (nomark _)) (pss_cons (ps_set (i:=7) nd rfl (Or.inl rfl) (pv 8)) (pss_one (ps_set (i:=6) nd rfl (Or.inl rfl) (pv 4)))) pss_nil))))))) (pss_one (ps_ret (pe_tup (pa_cons (pv 7) (pa_cons (pv 6) (pa_cons (pe_op op_add pe_int (pe_ix ix_tup (pe_ix ix_list (pv 1) (pv 6) (fun _ _=>rfl)) pe_int (fun _ _=>rfl))) pa_nil))))))))))),?_⟩
  obtain ⟨x,hx⟩:∃ x,xs[start]?=some x:=⟨xs[start],List.getElem?_eq_getElem hs⟩
  have hlv:∀ {e y:Nat},xs[e]?=some y→(lV xs)[e]?=some (V.int (y:Int)):=fun h=>by unfold lV;rw [List.getElem?_map,h];rfl
  walk_at "rd"
  refine ixL_go htk (hlv hx) ⟨_,.inl (.inl (.inl htk)),x,room,decide (start+1=xs.length),?_,hroom,?_⟩
  ·rw [lV_len]
   have:decide ((start:Int)+1=(xs.length:Int))=decide (start+1=xs.length):=decide_eq_decide.mpr (by lia)
   rw [this]
  refine foldP fun G0 hG0=>?_
  obtain ⟨v1,hv1,t1,rfl,ht1⟩:=hT (start+1) (by lia) (by lia)
  refine hG0 ?_
  clear hG0
  have es:(start:Int)+1=((start+1:Nat):Int):=rfl
  rw [es]
  refine ixL_go htl hv1 (ixT_go 0 ht1 rfl ⟨_,rfl,_,rfl,?_⟩)
  obtain ⟨W,hW⟩:∃ W:WT,W=fun m σ H'=>H'=H∧∃ (e taken be least:Nat) (o:Option V),σ=[some (.ref tk),some (.ref tl),some (.int (start:Int)),some (.int (room:Int)),some (.int (e:Int)),some (.int (taken:Int)),some (.int ((start+be:Nat):Int)),some (.int (least:Int)),o]∧m=xs.length-e∧start<e∧e≤xs.length∧1≤be∧start+be≤xs.length ∧
   bst room xs (tab r xs) start=VhPage.bestLine room (e-start) taken (xs.drop e) ((tab r xs).drop e) (least,be):=⟨_,rfl⟩
  refine ⟨W,⟨_,by rw [hW];exact ⟨rfl,start+1,x,1,VhPage.lineCost room x (decide (start+1=xs.length))+costAt r xs (start+1),none,rfl,rfl,by lia,by lia,by lia,by lia,by rw [best_first room xs r start hx,Nat.add_sub_cancel_left]⟩⟩,fun m σ H2 hw=>?_⟩
  rw [hW] at hw
  refine foldP fun G0 hG0=>?_
  obtain ⟨rfl,e,taken,be,least,o,rfl,rfl,he1,he2,hb1,hb2,hB⟩:=hw
  refine hG0 ?_
  clear hG0
  have fin:∀ b:Nat×Nat,bst room xs (tab r xs) start=b→b.2=be→b.1=least→rIxL K (V.ref tl) (V.int ((start+be:Nat):Int)) H2 fun x H1=>rIxT K x (V.int 2) H1 fun y H2=>∃ j,y=V.int j∧(3≤sizeLine∧∀ p,H2 p=none→Q (V.ref p) (upd H2 p (HO.tup [V.int (least:Int),V.int ((start+be:Nat):Int),V.int (1+j)]))):=fun b hb h2 h1=>by
   refine foldP fun G0 hG0=>?_
   obtain ⟨v2,hv2,t2,rfl,ht2⟩:=hT (start+be) (by lia) (by lia)
   refine hG0 ?_
   clear hG0
   refine ixL_go htl hv2 (ixT_go 2 ht2 rfl ⟨_,rfl,by decide,fun p hp=>?_⟩)
   have:=q p hp
   rw [hb,h2,h1] at this
   exact this
  walk_at "rd"
  refine ⟨_,.inl (.inl (.inl htk)),?_⟩
  rw [lV_len]
  split
  ·rename_i h
   have he:e<xs.length:=by lia
   obtain ⟨y,hy⟩:∃ y,xs[e]?=some y:=⟨xs[e],List.getElem?_eq_getElem he⟩
   rw [best_step room xs r start e taken _ he1 hy] at hB
   refine ⟨fun σ' H'=>∃ m',m' < xs.length-e∧W m' σ' H',fun _ _ z=>z,?_⟩
   refine ixL_go htk (hlv hy) ⟨_,rfl,?_⟩
   split
   ·rename_i h1
    rw [if_pos (by lia)] at hB
    simp only [tBreak]
    walk_at "rd"
    exact fin _ hB rfl rfl
   ·rename_i h1
    rw [if_neg (by lia)] at hB
    refine ⟨_,.inl (.inl (.inl htk)),taken+1+y,room,decide (e+1=xs.length),?_,hroom,?_⟩
    ·rw [lV_len]
     have:decide ((e:Int)+1=(xs.length:Int))=decide (e+1=xs.length):=decide_eq_decide.mpr (by lia)
     rw [this]
     have:(taken:Int)+(1+(y:Int))=((taken+1+y:Nat):Int):=by lia
     rw [this]
    refine foldP fun G0 hG0=>?_
    obtain ⟨v2,hv2,t2,rfl,ht2⟩:=hT (e+1) (by lia) (by lia)
    refine hG0 ?_
    clear hG0
    have ee:(e:Int)+1=((e+1:Nat):Int):=rfl
    have et:(taken:Int)+(1+(y:Int))=((taken+1+y:Nat):Int):=by lia
    rw [ee,et]
    refine ixL_go htl hv2 (ixT_go 0 ht2 rfl ⟨_,rfl,_,rfl,?_⟩)
    have ec:((VhPage.lineCost room (taken+1+y) (decide (e+1=xs.length)):Nat):Int)+((costAt r xs (e+1):Nat):Int)=((VhPage.lineCost room (taken+1+y) (decide (e+1=xs.length))+costAt r xs (e+1):Nat):Int):=by lia
    rw [ec]
    generalize VhPage.lineCost room (taken+1+y) (decide (e+1=xs.length))+costAt r xs (e+1)=tot at *
    split
    ·rename_i h2
     rw [if_pos (by simp only [];lia)] at hB
     refine ⟨xs.length-(e+1),by lia,?_⟩
     rw [hW]
     have eb:start+(e+1-start)=e+1:=by lia
     exact ⟨rfl,e+1,taken+1+y,e+1-start,tot,_,by rw [eb],rfl,by lia,by lia,by lia,by lia,hB⟩
    ·rename_i h2
     rw [if_neg (by simp only [];lia)] at hB
     refine ⟨xs.length-(e+1),by lia,?_⟩
     rw [hW]
     exact ⟨rfl,e+1,taken+1+y,be,least,_,rfl,rfl,by lia,by lia,by lia,by lia,hB⟩
  ·rename_i h
   have he:e=xs.length:=by lia
   subst he
   rw [List.drop_eq_nil_of_le (Nat.le_refl _)] at hB
   exact fin _ hB rfl rfl
end
section
variable {P:Program}{w:World}{K:PySem.W.Frag}{mg:Str→Option Value}{base:Heap}{a:Ad}
theorem k_call_len_seq {X:Cx}{K:PySem.W.Frag} (h:X.K=K):CallR X (.builtin "len") (fun xs H Q=>∃ p ys,xs=[.ref p]∧(SqL K H p ys∨SqT K H p ys)∧Q (.int ys.length) H):=by subst h;exact call_len_seq
def TailsAt (H:Hp) (tl:Addr) (r:Nat) (xs:List Nat):Prop:=∃ us,H tl=some (.lst us)∧us.length=xs.length+1∧∀ e,1≤e→e≤xs.length→∃ v,us[e]?=some v∧TailI H r xs e v
def sp_tails_of (K:PySem.W.Frag) (a:Ad):Sp:=fun vs H Q _=>∃ (tk:Addr) (xs:List Nat) (room:Nat),vs=[.ref tk,.int (room:Int)]∧H tk=some (.lst (lV xs))∧0<xs.length∧xs.length≤1048576∧room≤1000000 ∧
 ∀ H' p,H p=none→Kp [] H H'→TailsAt H' p room xs→Q (.ref p) H'
abbrev s_tails_of:Stmt:=top 14
theorem sc_tails_of:FnScope ["takes","room","tails","k","start"] ["takes","room"] (defScope s_tails_of):=⟨rfl,rfl,rfl,by decide +kernel,rfl,by decide +kernel,by decide +kernel⟩
theorem bk_tails_of_0:BlkOk ["takes","room","tails","k","start"] (defScope s_tails_of) (lcSc (stVal (stI (defBody s_tails_of) 0))) [("k",3)]:=⟨rfl,by decide +kernel,by decide +kernel,by decide +kernel,by decide +kernel⟩
theorem ok_tails_of {f:Addr}{fd:FuncData} (F:Fun K "tails_of" "tails_of" s_tails_of f fd) (T:Txt K mg a) (c_best_from:FnC P w K mg base CX0 2 "best_from" ["takes","tails","start","room"] (sp_best_from K a)):FnOk P w K mg base CX0 3 f fd ["takes","room"] (sp_tails_of K a):=by
 refine F.ok sc_tails_of (fun vs H Q E h=>?_) (fun cdv A outer s H vs Q E hr h=>?_)
 ·obtain ⟨tk,xs,room,rfl,htk,hn0,hn,hroom,q⟩:=h
  rfl
 ·obtain ⟨tk,xs,room,rfl,htk,hn0,hn,hroom,q⟩:=h
  have nd:=sc_tails_of.nd
  refine ⟨_,(pss_cons (ps_setLc (i:=2) rfl nd rfl rfl (sw_true rfl rfl rfl rfl) (pi_range1 rfl T.range (pa_cons (pe_op op_add (pe_callB call_len_seq rfl T.len PySem.boot_len (pa_cons (pv 0) pa_nil)) pe_int) pa_nil)) bk_tails_of_0 (fun _ _ _ _ _=>(pg_name (i:=3) nd rfl (Or.inl rfl))) (fun _ _ _ _ _=>pts_nil) (fun _ _ _ _ _=>(pe_tup (pa_cons pe_int (pa_cons (pe_callB (k_call_len_seq (K:=K) rfl) rfl T.len PySem.boot_len (pa_cons (pv 0) pa_nil)) (pa_cons pe_int pa_nil)))))) (pss_cons (ps_for PassesOwn.never rfl (pi_range3 rfl T.range (pa_cons (pe_op op_sub (pe_callB call_len_seq rfl T.len PySem.boot_len (pa_cons (pv 0) pa_nil)) pe_int) (pa_cons pe_int (pa_cons (pe_un un_neg pe_int) pa_nil)))) (pg_name (i:=4) nd rfl (Or.inl rfl)) (pss_one (ps_asg (pe_callC c_best_from hr pass0 (pa_cons (pv 0) (pa_cons (pv 2) (pa_cons (pv 4) (pa_cons (pv 1) pa_nil))))) (pg_sub (pv 2) (pv 4) set_list)))) (pss_one (ps_ret (pv 2))))),?_⟩
  have hlen:(lV xs).length=xs.length:=lV_len xs
  refine ⟨_,rfl,tk,_,rfl,.inl (.inl (.inl htk)),_,_,rfl,rfl,_,rfl,by rw [hlen];lia,by rw [hlen];lia,fun D hD=>?_⟩
  have nD:tk≠D:=ne_of_none htk hD
  have ej:Int.toNat (((lV xs).length:Nat)+1:Int)=xs.length+1:=by rw [hlen];lia
  rw [ej]
  have t0:([.int (0:Int),.int (xs.length:Int),.int (0:Int)]:List V)=tailV room xs xs.length:=by
   unfold tailV costAt endAt linesAt
   simp only [Nat.lt_irrefl,if_false];rfl
  obtain ⟨Pv,hPv⟩:∃ Pv:Nat→Hp→Prop,Pv=fun i H'=>Kp [] H H'∧∃ us,us.length=i∧H' D=some (.lst us)∧∀ v∈us,TailI H' room xs xs.length v:=⟨_,rfl⟩
  refine lc_range Pv ?_ ?_ ?_
  ·rw [hPv]
   exact ⟨Kp.new hD,[],rfl,upd_same,fun v hv=>by simp at hv⟩
  ·intro i H2 hi hw
   rw [hPv] at hw
   refine foldP fun G0 hG0=>?_
   obtain ⟨k,us,hul,hD2,hus⟩:=hw
   refine hG0 ?_
   clear hG0
   refine ⟨rfl,?_⟩
   simp only [tYes]
   walk_at "rd"
   refine ⟨_,rfl,_,rfl,_,.inl (.inl (.inl (k _ _ htk (by simp)))),by decide,fun t ht=>?_⟩
   have nDt:D≠t:=ne_of_none hD2 ht
   refine ⟨us,by rw [upd_ne nDt];exact hD2,by rw [hul];exact Nat.lt_of_lt_of_le hi (Nat.le_trans (Nat.succ_le_succ hn) (by decide)),?_⟩
   rw [hPv]
   have kk:=k.trans (Kp.new (o:=HO.tup [V.int 0,V.int ↑(lV xs).length,V.int 0]) ht)
   refine ⟨kk.put2 (.inr hD),us++[.ref t],by simp [hul],upd_same,fun v hv=>?_⟩
   rcases List.mem_append.mp hv with h | h
   ·refine foldP fun G0 hG0=>?_
    obtain ⟨t',e,h'⟩:=hus v h
    refine hG0 ?_
    clear hG0
    exact ⟨t',e,by rw [upd_ne (fun z=>by rw [z,hD2] at h';cases h'),upd_ne (ne_of_none h' ht)];exact h'⟩
   ·have e:v=.ref t:=by simpa using h
    exact ⟨t,e,by rw [upd_ne (Ne.symm nDt),upd_same,hlen,t0]⟩
  ·intro H2 hw
   rw [hPv] at hw
   refine foldP fun G0 hG0=>?_
   obtain ⟨k,us,hul,hD2,hus⟩:=hw
   refine hG0 ?_
   clear hG0
   clear hPv Pv
   have htk2:=k _ _ htk (by simp)
   walk_at "rd"
   obtain ⟨Pv,hPv⟩:∃ Pv:WT,Pv=fun i σ H'=>Kp [] H H'∧∃ (o:Option V) (us:List V),σ=[some (.ref tk),some (.int (room:Int)),some (.ref D),none,o]∧us.length=xs.length+1∧H' D=some (.lst us)∧∀ e,1≤e→xs.length≤e+i→e≤xs.length→∃ v,us[e]?=some v∧TailI H' room xs e v:=⟨_,rfl⟩
   refine ⟨_,rfl,tk,rfl,_,.inl (.inl (.inl htk2)),_,_,rfl,rfl,_,rfl,_,_,_,_,rfl,RgC.neg (by lia) (by lia) (by lia) (by lia),for_rangeC Pv ?_ ?_ ?_⟩
   ·rw [hPv]
    refine ⟨k,none,us,rfl,hul,hD2,fun e h1 h2 h3=>?_⟩
    have e1:e=xs.length:=by lia
    subst e1
    exact ⟨us[xs.length],List.getElem?_eq_getElem (by lia),hus _ (List.getElem_mem _)⟩
   ·intro i σ H3 hi hw
    rw [hlen] at hi
    rw [hPv] at hw
    refine foldP fun G0 hG0=>?_
    obtain ⟨k3,o,us3,rfl,hul3,hD3,hT3⟩:=hw
    refine hG0 ?_
    clear hG0
    have hst:((lV xs).length:Int)-1+(i:Int) * -1=((xs.length-1-i:Nat):Int):=by rw [hlen];lia
    rw [hst]
    obtain ⟨st,hst'⟩:∃ st,st=xs.length-1-i:=⟨_,rfl⟩
    rw [← hst']
    walk_at "rd"
    refine ⟨tk,D,us3,xs,st,room,room,rfl,k3 _ _ htk (by simp),hD3,by lia,hroom,fun e h1 h2=>hT3 e (by lia) (by lia) h2,fun p hp=>?_⟩
    have nDp:D≠p:=ne_of_none hD3 hp
    refine ⟨_,rfl,_,rfl,D,us3,(st:Int),st,rfl,rfl,by rw [upd_ne nDp];exact hD3,?_,?_⟩
    ·unfold ixN
     rw [if_pos (by lia),if_pos (by lia)];simp
    ·have c1:=bst_count (room:=room) (T:=tab room xs) (i:=st) (xs:=xs) (by lia)
     have ev:([.int ((bst room xs (tab room xs) st).1:Nat),.int (st+(bst room xs (tab room xs) st).2:Nat),.int (1+linesAt room xs (st+(bst room xs (tab room xs) st).2):Nat)]:List V)=tailV room xs st:=by
      unfold tailV costAt endAt
      rw [if_pos (by lia),if_pos (by lia),linesAt_eq room xs (e:=st) (by lia),cnts_go room xs (i:=st) (by lia) (by lia),linesAt_eq room xs (by lia),List.length_cons,Nat.add_comm 1]
     rw [ev,hPv]
     refine ⟨(k3.trans (Kp.new hp)).put2 (.inr hD),_,us3.set st (.ref p),rfl,by rw [List.length_set];exact hul3,upd_same,fun e h1 h2 h3=>?_⟩
     by_cases z:e=st
     ·subst z
      exact ⟨.ref p,by rw [List.getElem?_set_self (by lia)],p,rfl,by rw [upd_ne (Ne.symm nDp),upd_same]⟩
     ·refine foldP fun G0 hG0=>?_
      obtain ⟨v,hv,t,rfl,ht⟩:=hT3 e h1 (by lia) h3
      refine hG0 ?_
      clear hG0
      exact ⟨_,by rw [List.getElem?_set_ne (Ne.symm z)];exact hv,t,rfl,by rw [upd_ne (fun z=>by rw [z,hD3] at ht;cases ht),upd_ne (ne_of_none ht hp)];exact ht⟩
   ·intro σ H3 hw
    rw [hPv] at hw
    refine foldP fun G0 hG0=>?_
    obtain ⟨k3,o,us3,rfl,hul3,hD3,hT3⟩:=hw
    refine hG0 ?_
    clear hG0
    walk_at "rd"
    exact q H3 D hD k3 ⟨us3,hD3,hul3,fun e h1 h2=>hT3 e h1 (by rw [hlen];lia) h2⟩
def sums:Nat→List Nat→List Nat
 | _,[]=>[]
 | a,c::cs=>(a+c)::sums (a+c) cs
theorem sums_len:∀ (a:Nat) (l:List Nat),(sums a l).length=l.length
 | _,[]=>rfl
 | a,c::l=>by rw [sums,List.length_cons,List.length_cons,sums_len]
theorem cnts_len (r:Nat) (xs:List Nat) (i:Nat):(cnts r xs i).length≤xs.length:=by
 have h:∀ (f:Nat) (t:List (Nat×Nat)),(VhPage.byTable f t).length≤f:=fun f=>by
  induction f with
  | zero=>intro t;exact Nat.le_refl _
  | succ f ih =>
   intro t
   cases t with
   | nil=>exact Nat.zero_le _
   | cons x t=>exact Nat.succ_le_succ (ih _)
 have:=h (tab r xs).length ((tab r xs).drop (i-1))
 unfold cnts
 refine Nat.le_trans this ?_
 unfold tab;rw [table_len,List.length_drop];lia
def sp_ends_of (K:PySem.W.Frag) (a:Ad):Sp:=fun vs H Q _=>∃ (tk tl:Addr) (xs:List Nat) (fr r:Nat),vs=[.ref tk,.ref tl,.int (fr:Int)]∧H tk=some (.lst (lV xs))∧TailsAt H tl r xs∧0<xs.length∧xs.length≤1048576∧fr≤1000000 ∧
 ∀ H' p,H p=none→Kp [] H H'→H' p=some (.lst (lV (sums 0 (VhPage.broken fr r xs))))→Q (.ref p) H'
abbrev s_ends_of:Stmt:=top 15
theorem sc_ends_of:FnScope ["takes","tails","first_room","end","ends"] ["takes","tails","first_room"] (defScope s_ends_of):=⟨rfl,rfl,rfl,by decide +kernel,rfl,by decide +kernel,by decide +kernel⟩
theorem ok_ends_of {f:Addr}{fd:FuncData} (F:Fun K "ends_of" "ends_of" s_ends_of f fd) (T:Txt K mg a) (c_best_from:FnC P w K mg base CX0 2 "best_from" ["takes","tails","start","room"] (sp_best_from K a)):FnOk P w K mg base CX0 3 f fd ["takes","tails","first_room"] (sp_ends_of K a):=by
 refine F.ok sc_ends_of (fun vs H Q E h=>?_) (fun cdv A outer s H vs Q E hr h=>?_)
 ·obtain ⟨tk,tl,xs,fr,r,rfl,htk,⟨us,htl,hul,hT⟩,hn0,hn,hfr,q⟩:=h
  rfl
 ·obtain ⟨tk,tl,xs,fr,r,rfl,htk,⟨us,htl,hul,hT⟩,hn0,hn,hfr,q⟩:=h
  have nd:=sc_ends_of.nd
  refine ⟨_,(pss_cons (ps_set (i:=3) nd rfl (Or.inl rfl) (pe_ix ix_tup (pe_callC c_best_from hr pass0 (pa_cons (pv 0) (pa_cons (pv 1) (pa_cons pe_int (pa_cons (pv 2) pa_nil))))) pe_int (fun _ _=>rfl))) (pss_cons (ps_set (i:=4) nd rfl (Or.inl rfl) (pe_lst (pa_cons (pv 3) pa_nil))) (pss_cons (ps_while PassesOwn.never (pt_cmpR op_lt (pv 3) (pe_callB call_len_seq rfl T.len PySem.boot_len (pa_cons (pv 0) pa_nil)) (nomark _)) (pss_cons (ps_set (i:=3) nd rfl (Or.inl rfl) (pe_ix ix_tup (pe_ix ix_list (pv 1) (pv 3) (fun _ _=>rfl)) pe_int (fun _ _=>rfl))) (pss_one (ps_expr (pe_bm PySem.F.plainAttrs_list PySem.F.slot_list_append PySem.F.type_list_append mt_append (pv 4) (pa_cons (pv 3) pa_nil)))))) (pss_one (ps_ret (pv 4)))))),?_⟩
  have hlen:(lV xs).length=xs.length:=lV_len xs
  have c1:=bst_count (room:=fr) (T:=tab r xs) (i:=0) hn0
  rw [broken_eq fr r xs hn0] at q
  rw [Nat.zero_add] at c1
  walk_at "rd"
  refine ⟨tk,tl,us,xs,0,fr,r,rfl,htk,htl,hn0,hfr,fun e h1 h2=>hT e h1 h2,fun p hp=>?_⟩
  rw [Nat.zero_add]
  generalize (bst fr xs (tab r xs) 0).2=e0 at *
  refine ixT_go 1 upd_same rfl ?_
  walk_at "rd"
  refine ⟨by decide,fun D hD=>?_⟩
  have k1:Kp [] H (upd H p (HO.tup [V.int ((bst fr xs (tab r xs) 0).1:Nat),V.int (e0:Nat),V.int ((1+linesAt r xs e0:Nat):Int)])):=Kp.new hp
  have hD0:H D=none:=k1.free (by simp) hD
  have k2:=k1.trans (Kp.new (o:=HO.lst [V.int (e0:Int)]) hD)
  generalize upd H p (HO.tup [V.int ((bst fr xs (tab r xs) 0).1:Nat),V.int (e0:Nat),V.int ((1+linesAt r xs e0:Nat):Int)])=H1 at *
  obtain ⟨W,hW⟩:∃ W:WT,W=fun m σ H'=>Kp [] H H'∧∃ (e:Nat) (l:List Nat),σ=[some (.ref tk),some (.ref tl),some (.int (fr:Int)),some (.int (e:Int)),some (.ref D)]∧m=xs.length-e∧1≤e∧e≤xs.length∧H' D=some (.lst (lV l))∧l++sums e (cnts r xs e)=sums 0 (e0::cnts r xs e0):=⟨_,rfl⟩
  refine ⟨W,⟨_,by rw [hW];exact ⟨k2,e0,[e0],rfl,rfl,c1.1,c1.2,upd_same,by rw [sums,Nat.zero_add];rfl⟩⟩,fun m σ H2 hw=>?_⟩
  rw [hW] at hw
  refine foldP fun G0 hG0=>?_
  obtain ⟨k,e,l,rfl,rfl,he1,he2,hD2,hl⟩:=hw
  refine hG0 ?_
  clear hG0
  walk_at "rd"
  refine ⟨_,.inl (.inl (.inl (k _ _ htk (by simp)))),?_⟩
  rw [hlen]
  split
  ·rename_i h
   have he:e<xs.length:=by lia
   refine ⟨fun σ' H'=>∃ m',m' < xs.length-e∧W m' σ' H',fun _ _ z=>z,?_⟩
   refine foldP fun G0 hG0=>?_
   obtain ⟨v,hv,t,rfl,ht⟩:=hT e he1 he2
   refine hG0 ?_
   clear hG0
   refine ixL_go (k _ _ htl (by simp)) hv (ixT_go 1 (k _ _ ht (by simp)) rfl ?_)
   have ee:endAt r xs e=e+(bst r xs (tab r xs) e).2:=if_pos he
   have c2:=bst_count (room:=r) (T:=tab r xs) (i:=e) he
   rw [cnts_go r xs he1 he,sums] at hl
   rw [ee]
   have c3:e<e+(bst r xs (tab r xs) e).2:=by lia
   generalize e+(bst r xs (tab r xs) e).2=e' at *
   have hll:l.length≤xs.length:=by
    have:=congrArg List.length hl
    rw [List.length_append,List.length_cons,sums_len,sums,List.length_cons,sums_len] at this
    have:=cnts_len r xs e0
    lia
   walk_at "rd"
   refine ⟨.inl ⟨rfl,_,.inl (.inl hD2)⟩,_,hD2,by rw [lV_len];exact Nat.lt_of_le_of_lt (Nat.le_trans hll hn) (by decide),xs.length-e',by lia,?_⟩
   rw [hW]
   refine ⟨k.put2 (.inr hD0),e',l++[e'],rfl,rfl,by lia,by lia,?_,by rw [List.append_assoc];exact hl⟩
   rw [upd_same]
   unfold lV
   rw [List.map_append];rfl
  ·rename_i h
   rw [cnts_end r xs he1 (by lia),sums,List.append_nil] at hl
   rw [hl] at hD2
   exact q H2 D hD0 k hD2
end
section
variable {P:Program}{w:World}{K:PySem.W.Frag}{mg:Str→Option Value}{base:Heap}{a:Ad}
def sp_read_head (K:PySem.W.Frag) (a:Ad):Sp:=fun vs H Q E=>∃ (r ta:Addr) (bs:List UInt8),vs=[.ref r]∧Rdr K a H r ta bs 0 ∧
 (∀ w h m g dg e rw p1 H',hdr [(8,120),(6,240),(2,4)] 0 bs=.ok ([w,h,m],p1,bs.drop p1)→H' g=some (.ins a.CT dg (tf w h m e rw))→H' e=some (.lst (bsV (bs.take p1)))→H' rw=some (.lst [])→(H g=none∧H e=none∧H rw=none∧e≠rw)→Kp [r] H H'→Rdr K a H' r ta bs p1→Q (.ref g) H') ∧
 ∀ i H',hdr [(8,120),(6,240),(2,4)] 0 bs=.error i→E (.ref a.CE) none H'
abbrev s_read_head:Stmt:=top 30
theorem sc_read_head:FnScope ["reader","table"] ["reader"] (defScope s_read_head):=⟨rfl,rfl,rfl,by decide +kernel,rfl,by decide +kernel,by decide +kernel⟩
theorem ok_read_head {f:Addr}{fd:FuncData} (F:Fun K "read_head" "read_head" s_read_head f fd) (T:Txt K mg a) (c_Table_init:MakeC P w K mg base CX0 1 a.CT "Table" ["self","settings"] (sp_Table_init K a)) (c_Reader_take_head:MethC P w K mg base (CX1 P w a.CE) 4 a.CR "take_head" ["self","all_bounds"] (sp_Reader_take_head K a)):FnOk P w K mg base (CX1 P w a.CE) 5 f fd ["reader"] (sp_read_head K a):=by
 refine F.okE sc_read_head (fun vs H Q E h=>?_) (fun cdv A outer s H vs Q E hr h=>?_)
 ·obtain ⟨r,ta,bs,rfl,⟨dx,hR,hS,hne⟩,q1,q2⟩:=h
  rfl
 ·obtain ⟨r,ta,bs,rfl,⟨dx,hR,hS,hne⟩,q1,q2⟩:=h
  have nd:=sc_read_head.nd
  refine ⟨_,(pss_cons (ps_set (i:=1) nd rfl (Or.inl rfl) (pe_makeC c_Table_init hr pass0 (pa_cons (pe_methC (pv 0) T.clReader c_Reader_take_head hr passX (pa_cons (pe_gref T.cTABLE_BOUNDS) pa_nil)) pa_nil))) (pss_cons (ps_fld (pv 1) (pe_slice sl_list (pe_fld (pv 0) rfl) po_none (po_some (pe_fld (pv 0) rfl))) rfl) (pss_one (ps_ret (pv 1))))),?_⟩
  walk_at "gs"
  have hR2:=hR
  have hR0:=hR
  have R:Rdr K a H r ta bs 0:=⟨dx,hR,hS,hne⟩
  have hS0:=hS
  walk_at "gr"
  refine ⟨r,a.aTABLE_BOUNDS,ta,bs,0,[(8,120),(6,240),(2,4)],rfl,R,T.tTABLE_BOUNDS,by decide,fun xs p1 H1 l1 e1 hxl hl1 k1 hl1' R1=>?_,fun p1 H1 e1 R1=>q2 p1 H1 (by simpa using e1)⟩
  rw [List.drop_zero] at e1
  obtain ⟨wd,ht,m,rfl⟩:∃ wd ht m,xs=[wd,ht,m]:=by
   match xs,hxl with
   | [x,y,z],_=>exact ⟨x,y,z,rfl⟩
  walk_at "gr"
  intro g dg ng ndg neg
  obtain ⟨dx1,hR,hS,hne⟩:=R1
  have rg:r≠g:=ne_of_none hR ng
  have rdg:r≠dg:=ne_of_none hR ndg
  have l1g:l1≠g:=ne_of_none hl1' ng
  have l1dg:l1≠dg:=ne_of_none hl1' ndg
  have hg0:H g=none:=k1.free (by simp [Ne.symm rg]) ng
  walk_at "gr"
  refine ⟨g,dg,l1,wd,ht,m,rfl,upd_same,by rw [upd_ne l1g,upd_ne l1dg];exact hl1',fun H2 e rw' k2 hG2 hn hd he hrw=>⟨rfl,?_⟩⟩
  obtain ⟨hn1,hn2⟩:=hn
  obtain ⟨hd1,hd2,hd3⟩:=hd
  have new:∀ z,z≠g→(upd (upd H1 dg (HO.own g)) g (HO.ins a.CT dg [])) z=none→H z=none∧z≠r:=fun z zg e=>by
   rw [upd_ne zg] at e
   have zd:z≠dg:=fun y=>by rw [y,upd_same] at e;cases e
   rw [upd_ne zd] at e
   have zr:z≠r:=fun y=>by rw [y,hR] at e;cases e
   exact ⟨k1.free (by simp [zr]) e,zr⟩
  have k02:Kp [r] H H2:=fun z o e n=>by
   have e1:=k1 z o e n
   have n1:z≠g:=ne_of_none e1 ng
   exact k2 z o (by rw [upd_ne n1,upd_ne (ne_of_none e1 ndg)];exact e1) (by simp [n1])
  have hR:H2 r=some (HO.ins a.CR dx1 (rf ta (p1:Int))):=k2 _ _ (by rw [upd_ne rg,upd_ne rdg];exact hR) (by simp [rg])
  have hS:=k02.seq (by simpa using hne) hS0
  have hR2:=hR
  walk_at "gr"
  refine ⟨_,hS,fun hp hhp=>?_⟩
  have hpg:g≠hp:=ne_of_none hG2 hhp
  have hpr:r≠hp:=ne_of_none hR hhp
  have hp0:H hp=none:=k02.free (by simpa using Ne.symm hpr) hhp
  have hprw:hp≠rw':=fun z=>by rw [z,hrw] at hhp;cases hhp
  rw [cut_take]
  walk_at "gr"
  have hG3:upd H2 hp (HO.lst (bsV (bs.take p1))) g=some (.ins a.CT dg (tf wd ht m e rw')):=by rw [upd_ne hpg];exact hG2
  refine g_sfld1 hG3 T.clTable T.nT_head ⟨(show 5<1000 by decide),?_⟩
  rw [tf_put_head]
  walk_at "gr"
  have k4:Kp [r] H (upd (upd H2 hp (HO.lst (bsV (bs.take p1)))) g (HO.ins a.CT dg (tf wd ht m hp rw'))):=((k02.trans (Kp.new hhp)).put2 (.inr hg0))
  refine q1 wd ht m g dg hp rw' p1 _ e1 upd_same (by rw [upd_ne (Ne.symm hpg),upd_same]) (by rw [upd_ne hd2,upd_ne (Ne.symm hprw)];exact hrw) ⟨hg0,hp0,(new _ hd2 hn2).1,hprw⟩ k4 ⟨dx1,by rw [upd_ne rg,upd_ne hpr];exact hR,k4.seq (by simpa using hne) hS0,hne⟩
structure TbAt (a:Ad) (G H:Hp) (g dx e rw:Addr) (w h m:Nat) (hb:List UInt8) (ra:List Addr) (rows:List (List (List (List Nat)))):Prop where
 hg:H g=some (.ins a.CT dx (tf w h m e rw))
 hh:H e=some (.lst (bsV hb))
 hw:H rw=some (.lst (ra.map V.ref))
 rg:Paired (RowA (fun z=>G z=none∧z≠rw) H) rows ra
 er:e≠rw
 nw:G g=none∧G e=none∧G rw=none
theorem TbAt.keep {G H H':Hp}{g dx e rw:Addr}{w h m:Nat}{hb:List UInt8}{ra:List Addr}{rows:List (List (List (List Nat)))} (L:TbAt a G H g dx e rw w h m hb ra rows) {S:List Addr} (k:Kp S H H') (hs:∀ z∈S,∃ o,G z=some o):TbAt a G H' g dx e rw w h m hb ra rows :=
 ⟨keepF k hs L.nw.1 L.hg,keepF k hs L.nw.2.1 L.hh,keepF k hs L.nw.2.2 L.hw,Paired.imp (fun x z hz=>hz.keep (fun _ y=>y) fun z o y e=>keepF k hs y.1 e) L.rg,L.er,L.nw⟩
def sp_read_table (K:PySem.W.Frag) (a:Ad):Sp:=fun vs H Q E=>∃ (r ta:Addr) (bs:List UInt8),vs=[.ref r]∧Rdr K a H r ta bs 0 ∧
 (∀ (x:VhPage.Table) g dg e rw ra H',parseT bs=.ok x→TbAt a H H' g dg e rw x.width x.height x.cols x.head ra x.rows→Kp [r] H H'→Q (.ref g) H') ∧
 ∀ i H',parseT bs=.error i→E (.ref a.CE) none H'
abbrev s_read_table:Stmt:=top 33
theorem sc_read_table:FnScope ["reader","table","left","row","cell"] ["reader"] (defScope s_read_table):=⟨rfl,rfl,rfl,by decide +kernel,rfl,by decide +kernel,by decide +kernel⟩
theorem bk_read_table_0:BlkOk ["reader","table","left","row","cell"] (defScope s_read_table) (lcSc (exArg (stVal (stI (stBody (stI (defBody s_read_table) 2)) 1)) 0)) [("cell",4)]:=⟨rfl,by decide +kernel,by decide +kernel,by decide +kernel,by decide +kernel⟩
theorem ok_read_table {f:Addr}{fd:FuncData} (F:Fun K "read_table" "read_table" s_read_table f fd) (T:Txt K mg a) (c_read_head:FnC P w K mg base (CX1 P w a.CE) 5 "read_head" ["reader"] (sp_read_head K a)) (c_Reader_take_end:MethC P w K mg base (CX1 P w a.CE) 2 a.CR "take_end" ["self"] (sp_Reader_take_end K a)) (c_Reader_sees:MethC P w K mg base CX0 2 a.CR "sees" ["self","sign"] (sp_Reader_sees K a)) (c_read_row:FnC P w K mg base (CX1 P w a.CE) 7 "read_row" ["reader","cell_count","left"] (sp_read_row K a)):FnOk P w K mg base (CX1 P w a.CE) 8 f fd ["reader"] (sp_read_table K a):=by
 refine F.okE sc_read_table (fun vs H Q E h=>?_) (fun cdv A outer s H vs Q E hr h=>?_)
 ·obtain ⟨r,ta,bs,rfl,⟨dx,hR,hS,hne⟩,q1,q2⟩:=h
  rfl
 ·obtain ⟨r,ta,bs,rfl,⟨dx,hR,hS,hne⟩,q1,q2⟩:=h
  have nd:=sc_read_table.nd
  refine ⟨_,(pss_cons (ps_set (i:=1) nd rfl (Or.inl rfl) (pe_callC c_read_head hr passX (pa_cons (pv 0) pa_nil))) (pss_cons (ps_set (i:=2) nd rfl (Or.inl rfl) (pe_gint T.cMOST_TABLE_WORDS)) (pss_cons (ps_while PassesOwn.leaving (PW.pt (pw_and (pt_val (pe_methC (pv 0) T.clReader c_Reader_sees hr pass0 (pa_cons pe_str pa_nil))) (pw_and1 (pt_cmpR op_lt (pe_callB call_len_seq rfl T.len PySem.boot_len (pa_cons (pe_fld (pv 1) rfl) pa_nil)) (pe_gint T.cMOST_TABLE_ROWS) (nomark _))))) (pss_cons (ps_set (i:=3) nd rfl (Or.inl rfl) (pe_callC c_read_row hr passX (pa_cons (pv 0) (pa_cons (pe_fld (pv 1) rfl) (pa_cons (pv 2) pa_nil))))) (pss_cons (ps_aug (i:=2) nd rfl (Or.inl rfl) (pe_callB (cr_sum rfl) rfl T.sum boot_sum (pa_cons (pe_lc rfl nd (pi_list (pv 3)) bk_read_table_0 (fun _ _ _ _ _=>(pg_name (i:=4) nd rfl (Or.inl rfl))) (fun _ _ _ _ _=>pts_nil) (fun _ _ _ _ _=>(pe_callB (k_call_len_seq (K:=K) rfl) rfl T.len PySem.boot_len (pa_cons (pv 4) pa_nil)))) pa_nil)) ip_sub) (pss_one (ps_expr (pe_bm PySem.F.plainAttrs_list PySem.F.slot_list_append PySem.F.type_list_append mt_append (pe_fld (pv 1) rfl) (pa_cons (pv 3) pa_nil))))))) (pss_cons (ps_expr (pe_methC0 (pv 0) T.clReader c_Reader_take_end hr passX)) (pss_one (ps_ret (pv 1))))))),?_⟩
  walk_at "gs"
  have hR2:=hR
  have hR0:=hR
  have R:Rdr K a H r ta bs 0:=⟨dx,hR,hS,hne⟩
  have hS0:=hS
  obtain ⟨hok,her⟩:=table_head bs
  have pE:∀ {i},table_ 0 bs=.error i→parseT bs=.error i:=fun h=>by unfold parseT Vh.readAll;rw [h]
  walk_at "gr"
  refine ⟨r,ta,bs,rfl,R,fun wd ht m g dg e rw p1 H1 e1 hg he hrw hn k1 R1=>?_,fun i H1 e1=>q2 i H1 (pE (her _ e1))⟩
  obtain ⟨w',h',m',hxs,htk,hw8,hh6,hm2,htab⟩:=hok _ _ _ e1
  injection hxs with x1 hxs
  injection hxs with x2 hxs
  injection hxs with x3 hxs
  subst x1 x2 x3
  have L1:TbAt a H H1 g dg e rw wd ht m (VhPage.Table.mk wd ht m []).head [] []:=⟨hg,by rw [he,htk],hrw,.nil,hn.2.2.2,hn.1,hn.2.1,hn.2.2.1⟩
  obtain ⟨W,hW⟩:∃ W:WT,W=fun k σ H'=>∃ (l:List (List (List (List Nat)))) (ra:List Addr) (p':Nat) (o3:Option V),σ=[some (.ref r),some (.ref g),some (.int ((65536-cntT l:Nat):Int)),o3,none]∧TbAt a H H' g dg e rw wd ht m (VhPage.Table.mk wd ht m []).head ra l∧Rdr K a H' r ta bs p'∧Kp [r] H H'∧l.length≤8192∧cntT l≤65536 ∧
   rowsT_ m 8192 65536 p1 (bs.drop p1)=preO l (rowsT_ m (8192-l.length) (65536-cntT l) p' (bs.drop p'))∧k=8192-l.length:=⟨_,rfl⟩
  walk_at "gr"
  refine ⟨W,⟨_,by rw [hW];exact ⟨[],[],p1,none,rfl,L1,R1,k1,by simp,Nat.zero_le _,(preO_nil _).symm,rfl⟩⟩,fun k σ H5 hw5=>?_⟩
  rw [hW] at hw5
  obtain ⟨l,ra,p5,o3,rfl,L5,⟨dx5,hR,hS,hne⟩,k5,hl5,hc5,eq,rfl⟩:=hw5
  have hR2:=hR
  have R5:Rdr K a H5 r ta bs p5:=⟨dx5,hR,hS,hne⟩
  have hral:=Paired.length L5.rg
  have fin:(8192-l.length=0∨pk bs p5≠61)→M { nx:=fun x H'=>Q V.non H',rt:=Q } [some (V.ref r),some (V.ref g),some (V.int ((65536-cntT l:Nat):Int)),o3,none] H5:=fun h=>by
   rw [rowsT_stop h] at eq
   have eq:rowsT_ m 8192 65536 p1 (bs.drop p1)=.ok (l,p5,bs.drop p5):=by rw [eq];show Except.ok (l++[],_,_)=_;rw [List.append_nil]
   obtain ⟨d1,d2⟩:=table_done htab eq
   refine hM _ _ _ ?_
   walk_at "gr"
   refine ⟨r,ta,bs,p5,rfl,R5,fun hz=>?_,fun hz=>q2 _ _ (d2 hz)⟩
   walk_at "gr"
   exact q1 ⟨wd,ht,m,l⟩ g dg e rw ra H5 (d1 hz) L5 k5
  clear hM
  walk_at "gr"
  refine ⟨r,ta,bs,p5,_,61,rfl,R5,by decide,by decide,?_⟩
  walk_at "gr"
  by_cases h61:pk bs p5=61
  ·rw [if_pos (by simpa using h61)]
   walk_at "gr"
   refine g_fld1 L5.hg T.clTable T.nT_rows (tf_rows _ _ _ _ _) ?_
   walk_at "gr"
   refine ⟨_,.inl (.inl (.inl L5.hw)),?_⟩
   walk_at "gr"
   rw [List.length_map,← hral]
   by_cases hfull:l.length=8192
   ·rw [if_neg (by lia)]
    exact fin (.inl (by lia))
   ·rw [if_pos (by lia)]
    refine ⟨fun σ' H'=>∃ m',m' < 8192-l.length∧W m' σ' H',fun _ _ z=>z,?_⟩
    have ex:8192-l.length=(8192-(l.length+1))+1:=by lia
    walk_at "gr"
    refine g_fld1 L5.hg T.clTable T.nT_cell_count (tf_cell_count _ _ _ _ _) ?_
    walk_at "gr"
    refine ⟨r,ta,bs,p5,m,65536-cntT l,rfl,R5,by lia,by lia,by lia,fun row p6 H6 q6 e6 hc6 hq6 k6 R6=>?_,fun H6 e6=>?_⟩
    ·have hr4:row.length≤4:=by
      have:=(Pr.rowT m (65536-cntT l) (by lia) _ _ _ _ _ e6).2.2.1
      lia
     walk_at "gr"
     obtain ⟨hq0,ca,hqa,hPc⟩:=id hq6
     have hcl:=Paired.length hPc
     refine ⟨_,rfl,q6,rfl,⟨_,.inl (.inl hqa)⟩,fun D hD=>?_⟩
     obtain ⟨Pw,hPw⟩:∃ Pw:Nat→Hp→Prop,Pw=fun j H'=>Kp [] H6 H'∧H' D=some (.lst (lV ((row.take j).map List.length))):=⟨_,rfl⟩
     refine lc_list (xs:=ca.map V.ref) Pw ?_ ?_ ?_ ?_
     ·rw [hPw]
      exact ⟨Kp.new hD,upd_same⟩
     ·intro i H' _ h
      rw [hPw] at h
      exact .inl (.inl (h.1 _ _ hqa (by simp)))
     ·intro i v H7 hi h
      rw [hPw] at h
      obtain ⟨k7,hD7⟩:=h
      rw [List.getElem?_map] at hi
      cases hz:ca[i]? with
      | none=>rw [hz] at hi;cases hi
      | some z =>
       rw [hz] at hi
       cases hi
       obtain ⟨cl,hcl2,hz0,wa,hza,hPwz⟩:=Paired.get hPc hz
       have hwl:=Paired.length hPwz
       refine ⟨rfl,?_⟩
       simp only [tYes]
       walk_at "rd"
       refine ⟨_,rfl,z,rfl,_,.inl (.inl (.inl (k7 _ _ hza (by simp)))),_,hD7,?_,?_⟩
       ·have hi4:=(List.getElem?_eq_some_iff.mp hcl2).1
        rw [lV_len,List.length_map,List.length_take]
        exact Nat.lt_of_le_of_lt (show _≤row.length by lia) (Nat.lt_of_le_of_lt hr4 (by decide))
       ·rw [hPw]
        refine ⟨k7.put2 (.inr hD),?_⟩
        rw [upd_same,List.length_map,← hwl,lV_snoc,take_snoc' hcl2,List.map_append];rfl
     ·intro H7 h
      rw [hPw] at h
      obtain ⟨k7,hD7⟩:=h
      rw [List.length_map,← hcl,List.take_of_length_le (Nat.le_refl _)] at hD7
      have hsum:((row.map List.length).map fun (n:Nat)=>(n:Int)).sum=((cnt row:Nat):Int):=by
       unfold cnt
       have:∀ l:List Nat,(l.map fun (n:Nat)=>(n:Int)).sum=((l.sum:Nat):Int):=fun l=>by
        induction l with
        | nil=>rfl
        | cons x l ih=>rw [List.map_cons,List.sum_cons,ih,List.sum_cons];lia
       exact this _
      walk_at "gr"
      refine ⟨D,(row.map List.length).map fun (n:Nat)=>(n:Int),rfl,.inl (.inl (by rw [hD7,List.map_map];rfl)),?_⟩
      rw [hsum]
      have el:((65536-cntT l:Nat):Int)-((cnt row:Nat):Int)=((65536-cntT (l++[row]):Nat):Int):=by
       have:cntT (l++[row])=cntT l+cnt row:=by unfold cntT;rw [List.map_append,List.sum_append];simp
       rw [this];lia
      walk_at "gr"
      have hs1:∀ z∈[r],∃ o,H z=some o:=fun z hz=>by rw [List.mem_singleton.mp hz];exact ⟨_,hR0⟩
      have L7:=(L5.keep k6 hs1).keep k7 (by simp)
      refine g_fld1 L7.hg T.clTable T.nT_rows (tf_rows _ _ _ _ _) ?_
      refine ⟨.inl ⟨rfl,_,.inl (.inl L7.hw)⟩,?_⟩
      walk_at "gr"
      refine ⟨_,L7.hw,by rw [List.length_map,← hral];exact Nat.lt_of_le_of_lt hl5 (by decide),?_⟩
      walk_at "gr"
      refine ⟨8192-(l.length+1),by lia,?_⟩
      rw [hW,el]
      have nw:∀ z,H5 z=none→H z=none∧z≠rw:=fun z hz=>⟨k5.free (by
       intro mm
       rw [List.mem_singleton.mp mm,hR] at hz;cases hz) hz,fun y=>by rw [y,L5.hw] at hz;cases hz⟩
      have k8:Kp [r] H (upd H7 rw (HO.lst (ra.map V.ref++[V.ref q6]))):=((k5.trans k6).trans (k7.mono (by simp))).put2 (.inr L7.nw.2.2)
      obtain ⟨dx6,a1,a2,a3⟩:=R6
      have rrw:r≠rw:=ne_of (k7 _ _ a1 (by simp)) L7.hw (by intro z;cases z)
      have grw:g≠rw:=ne_of L7.hg L7.hw (by intro z;cases z)
      have hcn:cntT (l++[row])=cntT l+cnt row:=by unfold cntT;rw [List.map_append,List.sum_append];simp
      refine ⟨l++[row],ra++[q6],p6,_,rfl,⟨by rw [upd_ne grw];exact L7.hg,by rw [upd_ne L7.er];exact L7.hh,by rw [upd_same,List.map_append];rfl,Paired.snoc (Paired.imp (fun x z hz=>hz.keep (fun _ y=>y) fun z o y e=>by rw [upd_ne y.2];exact e) L7.rg) ?_,L7.er,L7.nw⟩,⟨dx6,by rw [upd_ne rrw];exact k7 _ _ a1 (by simp),k8.seq (by simpa using a3) hS0,a3⟩,k8,by simp;lia,by rw [hcn];lia,?_,by simp⟩
      ·exact hq6.keep nw fun z o y e=>by rw [upd_ne (nw z y).2];exact k7 _ _ e (by simp)
      ·rw [eq,ex,rowsT_go h61 e6,preO_pre,hcn,List.length_append,List.length_singleton,Nat.sub_sub]
    ·obtain ⟨i,e6⟩:=e6
     refine q2 i H6 (table_fail htab ?_)
     rw [eq,ex,rowsT_no h61 e6]
     rfl
  ·rw [if_neg (by simpa using h61)]
   walk_at "gr"
   exact fin (.inr h61)
end
section
variable {P:Program}{w:World}{K:PySem.W.Frag}{mg:Str→Option Value}{base:Heap}{a:Ad}
theorem Paired.drop {α β:Type}{R:α→β→Prop}:∀ {xs:List α}{ys:List β} (k:Nat),Paired R xs ys→Paired R (xs.drop k) (ys.drop k)
 | _,_,0,h=>h
 | _,_,k+1,.nil=>.nil
 | _,_,k+1,.cons _ t=>Paired.drop k t
theorem Paired.take {α β:Type}{R:α→β→Prop}:∀ {xs:List α}{ys:List β} (k:Nat),Paired R xs ys→Paired R (xs.take k) (ys.take k)
 | _,_,0,_=>.nil
 | _,_,k+1,.nil=>.nil
 | _,_,k+1,.cons r t=>.cons r (Paired.take k t)
def upTo (br:List Nat) (i:Nat):Nat:=(br.take i).sum
theorem sums_get:∀ (br:List Nat) (s i:Nat),i<br.length→(sums s br)[i]?=some (s+upTo br (i+1))
 | [],_,_,h=>by simp at h
 | c::br,s,0,_=>by simp [sums,upTo]
 | c::br,s,i+1,h=>by
  rw [sums,List.getElem?_cons_succ,sums_get br (s+c) i (by simpa using h)]
  simp [upTo,List.take_succ_cons];lia
theorem upTo_succ (br:List Nat) {i c:Nat} (h:br[i]?=some c):upTo br (i+1)=upTo br i+c:=by
 unfold upTo;rw [take_snoc' h];simp
theorem cut_get {α:Type}:∀ (br:List Nat) (l:List α) (i c:Nat),br[i]?=some c→(VhPage.cut br l)[i]?=some ((l.drop (upTo br i)).take c)
 | [],_,_,_,h=>by simp at h
 | d::br,l,0,c,h=>by simp at h;subst h;simp [VhPage.cut,upTo]
 | d::br,l,i+1,c,h=>by
  rw [VhPage.cut,List.getElem?_cons_succ,cut_get br (l.drop d) i c (by simpa using h),List.drop_drop]
  simp [upTo,List.take_succ_cons]
theorem cut_len {α:Type}:∀ (br:List Nat) (l:List α),(VhPage.cut br l).length=br.length
 | [],_=>rfl
 | d::br,l=>by rw [VhPage.cut,List.length_cons,List.length_cons,cut_len]
theorem cut_nat (us:List V) {x y:Nat} (h:x≤y):cutV us (some (x:Int)) (some (y:Int))=(us.drop x).take (y-x):=by
 unfold cutV
 rw [HT.sIx_nat,HT.sIx_nat]
 by_cases h1:x≤us.length
 ·rw [Nat.min_eq_left h1]
  by_cases h2:y≤us.length
  ·rw [Nat.min_eq_left h2]
  ·rw [Nat.min_eq_right (by lia),List.take_of_length_le (by simp),List.take_of_length_le (by simp;lia)]
 ·rw [Nat.min_eq_right (show us.length≤x by lia),Nat.min_eq_right (show us.length≤y by lia),List.drop_of_length_le (show us.length≤x by lia)]
  simp
theorem joinL_jn (s:Nat):∀ xs:List (List Nat),joinL s xs=jn s xs
 | []=>rfl
 | [_]=>rfl
 | x::y::r=>by
  show x++s::joinL s (y::r)=x++s::jn s (y::r)
  rw [joinL_jn s (y::r)]
def ForW (J:It) (H1:Hp) (σ:L2.St) (g:TG) (tb:TS) (D:Ends):Prop:=∃ W:Nat→Nat→L2.St→Hp→Prop,(∃ m,W 0 m σ H1)∧∀ i m σ H,W i m σ H →
 (J.stop i H∧D.nx σ H)∨(J.go i H∧∃ N:L2.St→Hp→Prop,(∀ σ' H',N σ' H'→∃ m',m' < m∧W (i+1) m' σ' H')∧∀ x H',J.yld i H x H'→g x σ H' fun σ2 H2=>tb { D with nx:=N,ct:=N,bk:=D.nx } σ2 H2)
theorem g_forL {tl:TE}{g:TG}{tb:TS}{D:Ends}{σ:L2.St}{H:Hp} (h:tl σ H fun x H1=>∃ a,x=.ref a∧(∃ xs,SqL K H1 a xs)∧ForW (Itl K a) H1 σ g tb D):tFor (iList K tl) g tb D σ H:=h
theorem bsV_lV (b:List UInt8):bsV b=lV (b.map fun (c:UInt8)=>c.toNat):=by unfold bsV lV;rw [List.map_map];rfl
theorem lV_app (x y:List Nat):lV x++lV y=lV (x++y):=by unfold lV;rw [List.map_append]
def LsN (H H':Hp) (xs:List (List Nat)) (la:List Addr):Prop:=Paired (fun x p=>H p=none∧H' p=some (.lst (lV x))) xs la
def sp_joined_lines (K:PySem.W.Frag) (a:Ad):Sp:=fun vs H Q _=>∃ (th en:Addr) (wa:List Addr) (xs:List (List Nat)) (br:List Nat),vs=[.ref th,.ref en]∧H th=some (.lst (wa.map V.ref))∧Paired (fun x p=>H p=some (.lst (lV x))) xs wa∧H en=some (.lst (lV (sums 0 br)))∧xs.length≤65536∧br.length≤65536∧(∀ x∈xs,x.length≤64) ∧
 ∀ H' l la,H l=none→Kp [] H H'→H' l=some (.lst (la.map V.ref))→LsN H H' ((VhPage.cut br xs).map (jn 32)) la→Q (.ref l) H'
abbrev s_joined_lines:Stmt:=top 16
theorem sc_joined_lines:FnScope ["things","ends","lines","start","end"] ["things","ends"] (defScope s_joined_lines):=⟨rfl,rfl,rfl,by decide +kernel,rfl,by decide +kernel,by decide +kernel⟩
theorem ok_joined_lines {f:Addr}{fd:FuncData} (F:Fun K "joined_lines" "joined_lines" s_joined_lines f fd) (T:Txt K mg a) (c_joined:FnC P w K mg base CX0 1 "joined" ["things","between"] (sp_joined K a)):FnOk P w K mg base CX0 2 f fd ["things","ends"] (sp_joined_lines K a):=by
 refine F.ok sc_joined_lines (fun vs H Q E h=>?_) (fun cdv A outer s H vs Q E hr h=>?_)
 ·obtain ⟨th,en,wa,xs,br,rfl,hth,hP,hen,hn,hbn,h64,q⟩:=h
  rfl
 ·obtain ⟨th,en,wa,xs,br,rfl,hth,hP,hen,hn,hbn,h64,q⟩:=h
  have nd:=sc_joined_lines.nd
  refine ⟨_,(pss_cons (ps_set (i:=2) nd rfl (Or.inl rfl) (pe_lst pa_nil)) (pss_cons (ps_set (i:=3) nd rfl (Or.inl rfl) pe_int) (pss_cons (ps_for PassesOwn.never rfl (pi_list (pv 1)) (pg_name (i:=4) nd rfl (Or.inl rfl)) (pss_cons (ps_expr (pe_bm PySem.F.plainAttrs_list PySem.F.slot_list_append PySem.F.type_list_append mt_append (pv 2) (pa_cons (pe_callC c_joined hr pass0 (pa_cons (pe_slice sl_list (pv 0) (po_some (pv 3)) (po_some (pv 4))) (pa_cons (pe_gint T.cBLANK) pa_nil))) pa_nil))) (pss_one (ps_set (i:=3) nd rfl (Or.inl rfl) (pv 4))))) (pss_one (ps_ret (pv 2)))))),?_⟩
  have hz:sizeLine=16777216:=by decide
  have hwl:=Paired.length hP
  walk_at "gs"
  walk_at "gr"
  refine ⟨(show 0≤sizeLine by decide),fun l hl=>?_⟩
  walk_at "gr"
  have lth:th≠l:=ne_of_none hth hl
  have len':en≠l:=ne_of_none hen hl
  obtain ⟨Pv,hPv⟩:∃ Pv:WT,Pv=fun i σ H'=>∃ (o:Option V) (la:List Addr),σ=[some (.ref th),some (.ref en),some (.ref l),some (.int ((upTo br i:Nat):Int)),o]∧H' l=some (.lst (la.map V.ref))∧Kp [] H H'∧Paired (fun x p=>(H p=none∧p≠l)∧H' p=some (.lst (lV x))) (((VhPage.cut br xs).take i).map (jn 32)) la:=⟨_,rfl⟩
  refine g_forL ?_
  walk_at "gr"
  refine ⟨en,rfl,⟨_,.inl (.inl (by rw [upd_ne len'];exact hen))⟩,for_list (xs:=lV (sums 0 br)) Pv ?_ ?_ ?_ ?_⟩
  ·rw [hPv]
   exact ⟨none,[],rfl,upd_same,Kp.new hl,.nil⟩
  ·intro i σ H' _ hw'
   rw [hPv] at hw'
   obtain ⟨_,_,rfl,_,k,_⟩:=hw'
   exact .inl (.inl (k _ _ hen (by simp)))
  ·intro i v σ H2 hi hw'
   rw [hPv] at hw'
   obtain ⟨o,la,rfl,hl2,k2,hP2⟩:=hw'
   obtain ⟨n,hn',rfl⟩:=lV_get hi
   have hib:i<br.length:=by
    have:=(List.getElem?_eq_some_iff.mp hn').1
    rw [sums_len] at this;exact this
   rw [sums_get br 0 i hib,Nat.zero_add] at hn'
   cases hn'
   have hbi:br[i]?=some br[i]:=List.getElem?_eq_getElem hib
   have eup:=upTo_succ br hbi
   have hll:=Paired.length hP2
   rw [List.length_map,List.length_take,cut_len] at hll
   walk_at "gr"
   refine ⟨.inl ⟨rfl,_,.inl (.inl hl2)⟩,?_⟩
   walk_at "gr"
   refine ⟨_,.inl (.inl (k2 _ _ hth (by simp))),fun s1 hs1=>?_⟩
   have ed:(((wa.map V.ref).drop (upTo br i)).take (upTo br (i+1)-upTo br i))=((wa.drop (upTo br i)).take br[i]).map V.ref:=by rw [show upTo br (i+1)-upTo br i=br[i] by lia,List.map_take,List.map_drop]
   rw [cut_nat _ (show upTo br i≤upTo br (i+1) by lia),ed]
   walk_at "gr"
   have k3:Kp [] H2 (upd H2 s1 (HO.lst (((wa.drop (upTo br i)).take br[i]).map V.ref))):=Kp.new hs1
   have hPd:Paired (fun x v=>∃ l,v=V.ref l∧upd H2 s1 (HO.lst (((wa.drop (upTo br i)).take br[i]).map V.ref)) l=some (.lst (lV x))) ((xs.drop (upTo br i)).take br[i]) (((wa.drop (upTo br i)).take br[i]).map V.ref):=by
    have h1:=Paired.take br[i] (Paired.drop (upTo br i) hP)
    refine paired_of_get (by rw [List.length_map];exact Paired.length h1) fun j x y hx hy=>?_
    rw [List.getElem?_map] at hy
    cases e:((wa.drop (upTo br i)).take br[i])[j]? with
    | none=>rw [e] at hy;cases hy
    | some z =>
     rw [e] at hy
     cases hy
     obtain ⟨x',hx',hz'⟩:=Paired.get h1 e
     rw [hx] at hx'
     cases hx'
     exact ⟨z,rfl,k3 _ _ (k2 _ _ hz' (by simp)) (by simp)⟩
   have hjl:(jn 32 ((xs.drop (upTo br i)).take br[i])).length≤65536 * 65:=by
    refine Nat.le_trans (jn_le (B:=65) _ fun x hx=>?_) (Nat.mul_le_mul_right 65 ?_)
    ·have:=h64 x (List.mem_of_mem_drop (List.mem_of_mem_take hx));lia
    ·rw [List.length_take,List.length_drop];lia
   refine ⟨s1,_,(xs.drop (upTo br i)).take br[i],32,rfl,upd_same,hPd,by rw [joinL_jn];lia,fun H4 p4 hp4 k4 hl4=>?_⟩
   rw [joinL_jn] at hl4
   have hl24:H4 l=some (.lst (la.map V.ref)):=k4 _ _ (k3 _ _ hl2 (by simp)) (by simp)
   have p4l:p4≠l:=fun z=>by rw [z,k3 _ _ hl2 (by simp)] at hp4;cases hp4
   walk_at "gr"
   refine ⟨_,hl24,by rw [List.length_map];lia,?_⟩
   walk_at "gr"
   rw [hPv]
   have kA:Kp [] H H4:=(k2.trans k3).trans k4
   refine ⟨_,la++[p4],rfl,by rw [upd_same,List.map_append];rfl,kA.put2 (.inr hl),?_⟩
   rw [take_snoc' (cut_get br xs i br[i] hbi),List.map_append]
   exact Paired.snoc (Paired.imp (fun x p h=>⟨h.1,by rw [upd_ne h.1.2];exact k4 _ _ (k3 _ _ h.2 (by simp)) (by simp)⟩) hP2) ⟨⟨(k2.trans k3).free (by simp) hp4,p4l⟩,by rw [upd_ne p4l];exact hl4⟩
  ·intro σ H2 hw'
   rw [hPv] at hw'
   obtain ⟨o,la,rfl,hl2,k2,hP2⟩:=hw'
   rw [lV_len,sums_len,← cut_len br xs,List.take_of_length_le (Nat.le_refl _)] at hP2
   refine hM _ _ _ ?_
   walk_at "gr"
   exact q H2 l la hl k2 hl2 (Paired.imp (fun x p h=>⟨h.1.1,h.2⟩) hP2)
end
section
variable {P:Program}{w:World}{K:PySem.W.Frag}{mg:Str→Option Value}{base:Heap}{a:Ad}
def cellW (wd:Nat) (c:List (List Nat)):List (List (List Nat)):=VhPage.cut (VhPage.broken wd wd (c.map fun (l:List Nat)=>l.length)) c
def sp_lines_of_cell (K:PySem.W.Frag) (a:Ad):Sp:=fun vs H Q _=>∃ (q:Addr) (wd:Nat) (c:List (List Nat)) (wa:List Addr),vs=[.ref q,.int (wd:Int)]∧H q=some (.lst (wa.map V.ref))∧Paired (fun x p=>H p=some (.lst (lV x))) c wa∧wd≤120∧c.length≤65536∧(∀ x∈c,x.length≤64) ∧
 ∀ H' l la,H l=none→Kp [] H H'→H' l=some (.lst (la.map V.ref))→LsN H H' ((cellW wd c).map (jn 32)) la→Q (.ref l) H'
abbrev s_lines_of_cell:Stmt:=top 36
theorem sc_lines_of_cell:FnScope ["cell","width","takes","word"] ["cell","width"] (defScope s_lines_of_cell):=⟨rfl,rfl,rfl,by decide +kernel,rfl,by decide +kernel,by decide +kernel⟩
theorem bk_lines_of_cell_0:BlkOk ["cell","width","takes","word"] (defScope s_lines_of_cell) (lcSc (stVal (stI (defBody s_lines_of_cell) 1))) [("word",3)]:=⟨rfl,by decide +kernel,by decide +kernel,by decide +kernel,by decide +kernel⟩
theorem ok_lines_of_cell {f:Addr}{fd:FuncData} (F:Fun K "lines_of_cell" "lines_of_cell" s_lines_of_cell f fd) (T:Txt K mg a) (c_joined_lines:FnC P w K mg base CX0 2 "joined_lines" ["things","ends"] (sp_joined_lines K a)) (c_ends_of:FnC P w K mg base CX0 3 "ends_of" ["takes","tails","first_room"] (sp_ends_of K a)) (c_tails_of:FnC P w K mg base CX0 3 "tails_of" ["takes","room"] (sp_tails_of K a)):FnOk P w K mg base CX0 4 f fd ["cell","width"] (sp_lines_of_cell K a):=by
 refine F.ok sc_lines_of_cell (fun vs H Q E h=>?_) (fun cdv A outer s H vs Q E hr h=>?_)
 ·obtain ⟨q0,wd,c,wa,rfl,hq,hP,hwd,hn,h64,q⟩:=h
  rfl
 ·obtain ⟨q0,wd,c,wa,rfl,hq,hP,hwd,hn,h64,q⟩:=h
  have nd:=sc_lines_of_cell.nd
  refine ⟨_,(pss_cons (ps_if (pt_cmpR op_eq (pe_callB call_len_seq rfl T.len PySem.boot_len (pa_cons (pv 0) pa_nil)) pe_int (nomark _)) (pss_one (ps_ret (pe_lst pa_nil))) pss_nil) (pss_cons (ps_setLc (i:=2) rfl nd rfl rfl (sw_true rfl rfl rfl rfl) (pi_list (pv 0)) bk_lines_of_cell_0 (fun _ _ _ _ _=>(pg_name (i:=3) nd rfl (Or.inl rfl))) (fun _ _ _ _ _=>pts_nil) (fun _ _ _ _ _=>(pe_callB (k_call_len_seq (K:=K) rfl) rfl T.len PySem.boot_len (pa_cons (pv 3) pa_nil)))) (pss_one (ps_ret (pe_callC c_joined_lines hr pass0 (pa_cons (pv 0) (pa_cons (pe_callC c_ends_of hr pass0 (pa_cons (pv 2) (pa_cons (pe_callC c_tails_of hr pass0 (pa_cons (pv 2) (pa_cons (pv 1) pa_nil))) (pa_cons (pv 1) pa_nil)))) pa_nil))))))),?_⟩
  have hz:sizeLine=16777216:=by decide
  have hwl:=Paired.length hP
  walk_at "gs"
  walk_at "gr"
  refine ⟨_,.inl (.inl (.inl hq)),?_⟩
  walk_at "gr"
  rw [List.length_map,← hwl]
  by_cases h0:c.length=0
  ·rw [if_pos (by lia)]
   have e:c=[]:=List.length_eq_zero_iff.mp h0
   subst e
   walk_at "gr"
   refine ⟨(show 0≤sizeLine by decide),fun l hl=>?_⟩
   walk_at "gr"
   exact q _ l [] hl (Kp.new hl) upd_same .nil
  ·rw [if_neg (by lia)]
   walk_at "gr"
   refine ⟨_,rfl,q0,rfl,⟨_,.inl (.inl hq)⟩,fun D hD=>?_⟩
   obtain ⟨Pw,hPw⟩:∃ Pw:Nat→Hp→Prop,Pw=fun j H'=>Kp [] H H'∧H' D=some (.lst (lV ((c.take j).map fun (l:List Nat)=>l.length))):=⟨_,rfl⟩
   refine lc_list (xs:=wa.map V.ref) Pw ?_ ?_ ?_ ?_
   ·rw [hPw]
    exact ⟨Kp.new hD,upd_same⟩
   ·intro i H' _ h
    rw [hPw] at h
    exact .inl (.inl (h.1 _ _ hq (by simp)))
   ·intro i v H7 hi h
    rw [hPw] at h
    obtain ⟨k7,hD7⟩:=h
    rw [List.getElem?_map] at hi
    cases hz':wa[i]? with
    | none=>rw [hz'] at hi;cases hi
    | some z =>
     rw [hz'] at hi
     cases hi
     obtain ⟨x,hx,hzx⟩:=Paired.get hP hz'
     refine ⟨rfl,?_⟩
     simp only [tYes]
     walk_at "rd"
     refine ⟨_,rfl,z,rfl,_,.inl (.inl (.inl (k7 _ _ hzx (by simp)))),_,hD7,?_,?_⟩
     ·rw [lV_len,List.length_map,List.length_take]
      lia
     ·rw [hPw]
      refine ⟨k7.put2 (.inr hD),?_⟩
      rw [upd_same,lV_len,lV_snoc,take_snoc' hx,List.map_append];rfl
   ·intro H7 h
    rw [hPw] at h
    obtain ⟨k7,hD7⟩:=h
    rw [List.length_map,← hwl,List.take_of_length_le (Nat.le_refl _)] at hD7
    walk_at "gr"
    have hlc:(c.map fun (l:List Nat)=>l.length).length=c.length:=List.length_map ..
    refine ⟨D,c.map fun (l:List Nat)=>l.length,wd,rfl,hD7,by lia,by lia,by lia,fun H8 p8 hp8 k8 hT8=>?_⟩
    walk_at "gr"
    have hD8:=k8 _ _ hD7 (by simp)
    refine ⟨D,p8,c.map fun (l:List Nat)=>l.length,wd,wd,rfl,hD8,hT8,by lia,by lia,by lia,fun H9 p9 hp9 k9 hl9=>?_⟩
    walk_at "gr"
    have k79:Kp [] H H9:=(k7.trans k8).trans k9
    have hbl:=broken_le wd wd (c.map fun (l:List Nat)=>l.length)
    refine ⟨q0,p9,wa,c,VhPage.broken wd wd (c.map fun (l:List Nat)=>l.length),rfl,k79 _ _ hq (by simp),Paired.imp (fun x p h=>k79 _ _ h (by simp)) hP,hl9,hn,by lia,h64,fun H10 l la hl k10 hla hLs=>?_⟩
    walk_at "gr"
    exact q H10 l la (k79.free (by simp) hl) (k79.trans k10) hla (Paired.imp (fun x p h=>⟨k79.free (by simp) h.1,h.2⟩) hLs)
def sp_line_at (K:PySem.W.Frag) (a:Ad):Sp:=fun vs H Q _=>∃ (l:Addr) (la:List Addr) (ls:List (List Nat)) (d:Nat),vs=[.ref l,.int (d:Int)]∧H l=some (.lst (la.map V.ref))∧Paired (fun x p=>H p=some (.lst (lV x))) ls la ∧
 ∀ H' p,Kp [] H H'→H' p=some (.lst (lV (ls.getD d [])))→Q (.ref p) H'
abbrev s_line_at:Stmt:=top 37
theorem sc_line_at:FnScope ["lines","at"] ["lines","at"] (defScope s_line_at):=⟨rfl,rfl,rfl,by decide +kernel,rfl,by decide +kernel,by decide +kernel⟩
theorem ok_line_at {f:Addr}{fd:FuncData} (F:Fun K "line_at" "line_at" s_line_at f fd) (T:Txt K mg a):FnOk P w K mg base CX0 1 f fd ["lines","at"] (sp_line_at K a):=by
 refine F.ok sc_line_at (fun vs H Q E h=>?_) (fun cdv A outer s H vs Q E hr h=>?_)
 ·obtain ⟨l,la,ls,d,rfl,hl,hP,q⟩:=h
  rfl
 ·obtain ⟨l,la,ls,d,rfl,hl,hP,q⟩:=h
  have nd:=sc_line_at.nd
  refine ⟨_,(pss_cons (ps_if (pt_cmpR op_lt (pv 1) (pe_callB call_len_seq rfl T.len PySem.boot_len (pa_cons (pv 0) pa_nil)) (nomark _)) (pss_one (ps_ret (pe_ix ix_list (pv 0) (pv 1) (fun _ _=>rfl)))) pss_nil) (pss_one (ps_ret (pe_lst pa_nil)))),?_⟩
  have hll:=Paired.length hP
  walk_at "gs"
  walk_at "gr"
  refine ⟨_,.inl (.inl (.inl hl)),?_⟩
  walk_at "gr"
  rw [List.length_map,← hll]
  by_cases h:d<ls.length
  ·rw [if_pos (by lia)]
   walk_at "gr"
   have e1:la[d]?=some la[d]:=List.getElem?_eq_getElem (by lia)
   obtain ⟨x,hx,hp⟩:=Paired.get hP e1
   refine ⟨_,.inl (.inl hl),_,atI_nat (j:=d) (v:=V.ref la[d]) (by rw [List.getElem?_map,e1];rfl),?_⟩
   walk_at "gr"
   refine q H _ Kp.refl ?_
   rw [List.getD_eq_getElem?_getD,hx]
   exact hp
  ·rw [if_neg (by lia)]
   walk_at "gr"
   refine ⟨(show 0≤sizeLine by decide),fun p hp=>?_⟩
   walk_at "gr"
   refine q _ p (Kp.new hp) ?_
   rw [List.getD_eq_getElem?_getD,List.getElem?_eq_none (by lia),upd_same]
   rfl
def sp_filled_up (K:PySem.W.Frag) (a:Ad):Sp:=fun vs H Q _=>∃ (p:Addr) (x:List Nat) (wd:Nat),vs=[.ref p,.int (wd:Int)]∧H p=some (.lst (lV x))∧wd≤120∧x.length≤4260000 ∧
 ∀ H' p',H p'=none→Kp [] H H'→H' p'=some (.lst (lV (fillP wd x)))→Q (.ref p') H'
abbrev s_filled_up:Stmt:=top 38
theorem sc_filled_up:FnScope ["line","width"] ["line","width"] (defScope s_filled_up):=⟨rfl,rfl,rfl,by decide +kernel,rfl,by decide +kernel,by decide +kernel⟩
theorem ok_filled_up {f:Addr}{fd:FuncData} (F:Fun K "filled_up" "filled_up" s_filled_up f fd) (T:Txt K mg a):FnOk P w K mg base CX0 1 f fd ["line","width"] (sp_filled_up K a):=by
 refine F.ok sc_filled_up (fun vs H Q E h=>?_) (fun cdv A outer s H vs Q E hr h=>?_)
 ·obtain ⟨p,x,wd,rfl,hp,hwd,hx,q⟩:=h
  rfl
 ·obtain ⟨p,x,wd,rfl,hp,hwd,hx,q⟩:=h
  have nd:=sc_filled_up.nd
  refine ⟨_,(pss_one (ps_ret (pe_op op_cat (pv 0) (pe_op op_rep (pe_lst (pa_cons (pe_gint T.cBLANK) pa_nil)) (pe_op op_sub (pv 1) (pe_callB call_len_seq rfl T.len PySem.boot_len (pa_cons (pv 0) pa_nil))))))),?_⟩
  have hz:sizeLine=16777216:=by decide
  walk_at "gs"
  walk_at "gr"
  refine ⟨(show 1≤sizeLine by decide),fun b hb=>?_⟩
  walk_at "gr"
  have pb:p≠b:=ne_of_none hp hb
  have hp1:upd H b (HO.lst [V.int 32]) p=some (.lst (lV x)):=by rw [upd_ne pb];exact hp
  refine ⟨_,.inl (.inl (.inl hp1)),?_⟩
  walk_at "gr"
  rw [lV_len]
  have ek:((wd:Int)-(x.length:Int)).toNat=wd-x.length:=by lia
  have er:(List.replicate (wd-x.length) [V.int 32]).flatten=lV (List.replicate (wd-x.length) 32):=by
   unfold lV
   rw [List.map_replicate]
   induction wd-x.length with
   | zero=>rfl
   | succ n ih=>rw [List.replicate_succ,List.flatten_cons,ih,List.replicate_succ];rfl
  refine ⟨b,(wd:Int)-(x.length:Int),[V.int 32],rfl,rfl,upd_same,by lia,by lia,by rw [ek];simp;lia,fun p2 hp2=>?_⟩
  rw [ek,er]
  walk_at "gr"
  refine ⟨p,p2,_,_,rfl,rfl,by rw [upd_ne (ne_of_none hp1 hp2)];exact hp1,upd_same,by rw [lV_len,lV_len,List.length_replicate];lia,fun p3 hp3=>?_⟩
  walk_at "gr"
  have kA:Kp [] H (upd (upd H b (HO.lst [V.int 32])) p2 (HO.lst (lV (List.replicate (wd-x.length) 32)))):=(Kp.new hb).trans (Kp.new hp2)
  refine q _ p3 (kA.free (by simp) hp3) (kA.trans (Kp.new hp3)) ?_
  rw [upd_same,lV_app]
  rfl
def CLs (H:Hp) (xs:List (List (List Nat))) (ca:List Addr):Prop:=Paired (fun ls p=>∃ la,H p=some (.lst (la.map V.ref))∧Paired (fun x q=>H q=some (.lst (lV x))) ls la) xs ca
theorem CLs.keep {H H':Hp}{xs:List (List (List Nat))}{ca:List Addr} (h:CLs H xs ca) (k:Kp [] H H'):CLs H' xs ca:=Paired.imp (fun _ _ ⟨la,h1,h2⟩=>⟨la,k _ _ h1 (by simp),Paired.imp (fun _ _ e=>k _ _ e (by simp)) h2⟩) h
theorem cut_last (us:List V) (u:V):cutV (us++[u]) none (some (-1))=us:=by
 have e:HT.sIx (us++[u]).length (us++[u]).length (some (-1))=us.length:=by
  unfold HT.sIx
  simp
  lia
 unfold cutV
 rw [HT.sIx_none,e]
 simp
theorem at_last (us:List V) (u:V):atI (us++[u]) (-1)=some u:=by
 have e:ixN (us++[u]).length (-1)=some us.length:=by
  unfold ixN
  rw [if_neg (by decide),if_pos (by simp;lia)]
  simp
  lia
 unfold atI
 rw [e]
 simp
def LcW (J:It) (H1:Hp) (g:TG) (tt:TT) (te:TE) (vs:List Nat) (σ:L2.St) (Q:VK):Prop:=∀ D,H1 D=none→∃ W:Nat→Nat→Hp→Prop,(∃ m,W 0 m (upd H1 D (.lst [])))∧∀ i m H,W i m H →
 (J.stop i H∧Q (.ref D) H)∨(J.go i H∧∃ Nx:Hp→Prop,(∀ H',Nx H'→∃ m',m' < m∧W (i+1) m' H')∧∀ x H',J.yld i H x H'→g x (wipe σ vs) H' fun σ2 H2=>wipe σ2 vs=wipe σ vs∧tt σ2 H2 fun b H3 =>
  if b=true then te σ2 H3 fun y H4=>∃ acc,H4 D=some (.lst acc)∧acc.length<sizeLine∧Nx (upd H4 D (.lst (acc++[y]))) else Nx H3)
theorem g_lcL {tl:TE}{g:TG}{tt:TT}{te:TE}{vs:List Nat}{σ:L2.St}{H:Hp}{Q:VK} (h:tl σ H fun x H1=>∃ a,x=.ref a∧(∃ xs,SqL K H1 a xs)∧LcW (Itl K a) H1 g tt te vs σ Q):tLc (iList K tl) g tt te vs σ H Q:=h
def sp_printed_line_of_row (K:PySem.W.Frag) (a:Ad):Sp:=fun vs H Q _=>∃ (l:Addr) (d wd:Nat) (cs:List (List (List Nat))) (zs:List (List Nat)) (ca:List Addr) (z:Addr),vs=[.ref l,.int (d:Int),.int (wd:Int)]∧H l=some (.lst ((ca++[z]).map V.ref))∧CLs H (cs++[zs]) (ca++[z])∧wd≤120∧1≤cs.length∧cs.length≤3∧(∀ ls∈cs++[zs],∀ x∈ls,x.length≤4194303) ∧
 (jn 124 (cs.map (fun ls=>fillP wd (ls.getD d []))++[zs.getD d []])).length≤16777000 ∧
 ∀ H' p,H p=none→Kp [] H H'→H' p=some (.lst (lV ((if d=0 then 62 else 32)::(jn 124 (cs.map (fun ls=>fillP wd (ls.getD d []))++[zs.getD d []])++[10]))))→Q (.ref p) H'
abbrev s_printed_line_of_row:Stmt:=top 39
theorem sc_printed_line_of_row:FnScope ["cells","at","width","shown","lines"] ["cells","at","width"] (defScope s_printed_line_of_row):=⟨rfl,rfl,rfl,by decide +kernel,rfl,by decide +kernel,by decide +kernel⟩
theorem bk_printed_line_of_row_0:BlkOk ["cells","at","width","shown","lines"] (defScope s_printed_line_of_row) (lcSc (stVal (stI (defBody s_printed_line_of_row) 0))) [("lines",4)]:=⟨rfl,by decide +kernel,by decide +kernel,by decide +kernel,by decide +kernel⟩
theorem ok_printed_line_of_row {f:Addr}{fd:FuncData} (F:Fun K "printed_line_of_row" "printed_line_of_row" s_printed_line_of_row f fd) (T:Txt K mg a) (c_filled_up:FnC P w K mg base CX0 1 "filled_up" ["line","width"] (sp_filled_up K a)) (c_line_at:FnC P w K mg base CX0 1 "line_at" ["lines","at"] (sp_line_at K a)) (c_characters_of:FnC P w K mg base CX0 1 "characters_of" ["text"] (sp_characters_of K a)) (c_joined:FnC P w K mg base CX0 1 "joined" ["things","between"] (sp_joined K a)):FnOk P w K mg base CX0 2 f fd ["cells","at","width"] (sp_printed_line_of_row K a):=by
 refine F.ok sc_printed_line_of_row (fun vs H Q E h=>?_) (fun cdv A outer s H vs Q E hr h=>?_)
 ·obtain ⟨l,d,wd,cs,zs,ca,z,rfl,hl,hC,hwd,hc1,hc3,hx,hj,q⟩:=h
  rfl
 ·obtain ⟨l,d,wd,cs,zs,ca,z,rfl,hl,hC,hwd,hc1,hc3,hx,hj,q⟩:=h
  have nd:=sc_printed_line_of_row.nd
  refine ⟨_,(pss_cons (ps_setLc (i:=3) rfl nd rfl rfl (sw_true rfl rfl rfl rfl) (pi_list (pe_slice sl_list (pv 0) po_none (po_some (pe_un un_neg pe_int)))) bk_printed_line_of_row_0 (fun _ _ _ _ _=>(pg_name (i:=4) nd rfl (Or.inl rfl))) (fun _ _ _ _ _=>pts_nil) (fun _ _ _ _ _=>(pe_callC c_filled_up hr pass0 (pa_cons (pe_callC c_line_at hr pass0 (pa_cons (pv 4) (pa_cons (pv 1) pa_nil))) (pa_cons (pv 2) pa_nil))))) (pss_cons (ps_expr (pe_bm PySem.F.plainAttrs_list PySem.F.slot_list_append PySem.F.type_list_append mt_append (pv 3) (pa_cons (pe_callC c_line_at hr pass0 (pa_cons (pe_ix ix_list (pv 0) (pe_un un_neg pe_int) (fun _ _=>rfl)) (pa_cons (pv 1) pa_nil))) pa_nil))) (pss_one (ps_ret (pe_op op_cat (pe_op op_cat (pe_callC c_characters_of hr pass0 (pa_cons (pe_ifExp (pt_cmpR op_eq (pv 1) pe_int (nomark _)) pe_str pe_str) pa_nil)) (pe_callC c_joined hr pass0 (pa_cons (pv 3) (pa_cons (pe_gint T.cSTROKE) pa_nil)))) (pe_callC c_characters_of hr pass0 (pa_cons pe_str pa_nil))))))),?_⟩
  have hz:sizeLine=16777216:=by decide
  rw [List.map_append] at hl
  walk_at "gs"
  walk_at "gr"
  refine g_lcL ?_
  walk_at "gr"
  refine g_un ?_
  walk_at "gr"
  refine g_rU ?_
  walk_at "gr"
  refine ⟨_,.inl (.inl hl),fun s1 hs1=>?_⟩
  have em1:(-1:Int)=-1:=rfl
  rw [show ([z].map V.ref)=[V.ref z] from rfl] at hl ⊢
  rw [cut_last]
  have k1:Kp [] H (upd H s1 (HO.lst (ca.map V.ref))):=Kp.new hs1
  have hs1':upd H s1 (HO.lst (ca.map V.ref)) s1=some (.lst (ca.map V.ref)):=upd_same
  have hl1:=k1 _ _ hl (by simp)
  have hC1:=hC.keep k1
  generalize upd H s1 (HO.lst (ca.map V.ref))=H1 at k1 hs1' hl1 hC1 ⊢
  refine ⟨s1,rfl,⟨_,.inl (.inl hs1')⟩,fun D hD=>?_⟩
  have hlenC:=Paired.length hC
  rw [List.length_append,List.length_append] at hlenC
  have hca:ca.length=cs.length:=by simp at hlenC;lia
  obtain ⟨Pw,hPw⟩:∃ Pw:Nat→Hp→Prop,Pw=fun i H'=>Kp [] H1 H'∧∃ fa,H' D=some (.lst (fa.map V.ref))∧Paired (fun x p=>p≠D∧H' p=some (.lst (lV x))) ((cs.take i).map fun ls=>fillP wd (ls.getD d [])) fa:=⟨_,rfl⟩
  refine lc_list (xs:=ca.map V.ref) Pw ?_ ?_ ?_ ?_
  ·rw [hPw]
   exact ⟨Kp.new hD,[],upd_same,.nil⟩
  ·intro i H' _ h
   rw [hPw] at h
   exact .inl (.inl (h.1 _ _ hs1' (by simp)))
  ·intro i v H2 hi h
   rw [hPw] at h
   obtain ⟨k2,fa,hD2,hP2⟩:=h
   rw [List.getElem?_map] at hi
   cases hz':ca[i]? with
   | none=>rw [hz'] at hi;cases hi
   | some y =>
    rw [hz'] at hi
    cases hi
    have hic:=(List.getElem?_eq_some_iff.mp hz').1
    obtain ⟨ls,hls,la,hy,hPy⟩:=Paired.get hC1 (show (ca++[z])[i]?=some y by rw [List.getElem?_append_left hic];exact hz')
    rw [List.getElem?_append_left (by lia)] at hls
    have hfl:=Paired.length hP2
    rw [List.length_map,List.length_take] at hfl
    refine ⟨rfl,?_⟩
    simp only [tYes]
    rw [if_pos trivial]
    walk_at "gr"
    refine ⟨_,rfl,?_⟩
    walk_at "gr"
    refine ⟨_,rfl,?_⟩
    walk_at "gr"
    refine ⟨y,la,ls,d,rfl,k2 _ _ hy (by simp),Paired.imp (fun x q e=>k2 _ _ e (by simp)) hPy,fun H3 p3 k3 hp3=>?_⟩
    walk_at "gr"
    refine ⟨_,rfl,?_⟩
    walk_at "gr"
    have hb3:(ls.getD d []).length≤4194303:=by
     rw [List.getD_eq_getElem?_getD]
     cases e:ls[d]? with
     | none=>simp
     | some x=>exact hx ls (by have:=List.mem_of_getElem? hls;simp [this]) x (List.mem_of_getElem? e)
    refine ⟨p3,ls.getD d [],wd,rfl,hp3,hwd,by lia,fun H4 p4 hp4 k4 hl4=>?_⟩
    have hD4:=k4 _ _ (k3 _ _ hD2 (by simp)) (by simp)
    have p4D:p4≠D:=fun e=>by rw [e,k3 _ _ hD2 (by simp)] at hp4;cases hp4
    refine ⟨_,hD4,by rw [List.length_map];lia,?_⟩
    rw [hPw]
    refine ⟨((k2.trans k3).trans k4).put2 (.inr hD),fa++[p4],by rw [upd_same,List.map_append];rfl,?_⟩
    rw [take_snoc' hls,List.map_append]
    exact Paired.snoc (Paired.imp (fun x p e=>⟨e.1,by rw [upd_ne e.1];exact k4 _ _ (k3 _ _ e.2 (by simp)) (by simp)⟩) hP2) ⟨p4D,by rw [upd_ne p4D];exact hl4⟩
  ·intro H2 h
   rw [hPw] at h
   obtain ⟨k2,fa,hD2,hP2⟩:=h
   rw [List.length_map,hca,List.take_of_length_le (Nat.le_refl _)] at hP2
   have hfl:=Paired.length hP2
   rw [List.length_map] at hfl
   walk_at "gr"
   refine ⟨.inl ⟨rfl,_,.inl (.inl hD2)⟩,?_⟩
   walk_at "gr"
   refine g_un ?_
   walk_at "gr"
   refine g_rU ?_
   walk_at "gr"
   refine ⟨_,.inl (.inl (k2 _ _ hl1 (by simp))),_,at_last _ _,?_⟩
   walk_at "gr"
   obtain ⟨zs',hzs,la,hzl,hPz⟩:=Paired.get hC1 (show (ca++[z])[ca.length]?=some z by simp)
   have ezs:zs'=zs:=by
    rw [hca] at hzs
    simp at hzs
    exact hzs.symm
   subst ezs
   refine ⟨z,la,zs',d,rfl,k2 _ _ hzl (by simp),Paired.imp (fun x q e=>k2 _ _ e (by simp)) hPz,fun H3 p3 k3 hp3=>?_⟩
   have hD3:=k3 _ _ hD2 (by simp)
   walk_at "gr"
   refine ⟨_,hD3,by rw [List.length_map];lia,?_⟩
   walk_at "gr"
   have hD0:H D=none:=k1.free (by simp) hD
   have kA:Kp [] H (upd H3 D (HO.lst (fa.map V.ref++[V.ref p3]))):=((k1.trans k2).trans k3).put2 (.inr hD0)
   have p3D:p3≠D:=fun e=>by
    rw [e,hD3] at hp3
    injection hp3 with h1
    injection h1 with h1
    have hfa:1≤fa.length:=by lia
    match fa,hfa,h1 with
    | [],hfa,_=>exact absurd hfa (by simp)
    | f0::fr,_,h1 =>
     unfold lV at h1
     cases e2:zs'.getD d [] with
     | nil=>rw [e2] at h1;cases h1
     | cons c0 cr=>rw [e2] at h1;injection h1 with h1 _;cases h1
   have hP4:Paired (fun x v=>∃ l,v=V.ref l∧upd H3 D (HO.lst (fa.map V.ref++[V.ref p3])) l=some (.lst (lV x))) (cs.map (fun ls=>fillP wd (ls.getD d []))++[zs'.getD d []]) (fa.map V.ref++[V.ref p3]):=by
    refine Paired.app ?_ (.cons ⟨p3,rfl,by rw [upd_ne p3D];exact hp3⟩ .nil)
    refine paired_of_get (by rw [List.length_map,List.length_map];exact hfl) fun j x y hx' hy=>?_
    rw [List.getElem?_map] at hy
    cases e:fa[j]? with
    | none=>rw [e] at hy;cases hy
    | some y' =>
     rw [e] at hy
     cases hy
     obtain ⟨x',hx2,hz2,hz3⟩:=Paired.get hP2 e
     rw [hx'] at hx2
     cases hx2
     exact ⟨y',rfl,by rw [upd_ne hz2];exact k3 _ _ hz3 (by simp)⟩
   have hD4:upd H3 D (HO.lst (fa.map V.ref++[V.ref p3])) D=some (.lst (fa.map V.ref++[V.ref p3])):=upd_same
   generalize upd H3 D (HO.lst (fa.map V.ref++[V.ref p3]))=H4 at kA hP4 hD4 ⊢
   have b1:(Str.ofString ">").cps.toList=[62]:=by decide
   have b2:(Str.ofString " ").cps.toList=[32]:=by decide
   have b3:(Str.ofString "\n").cps.toList=[10]:=by decide
   refine g_if ?_
   walk_at "gr"
   by_cases hd0:d=0
   ·rw [if_pos (show (d:Int)=0 by lia)]
    walk_at "gr"
    refine ⟨_,rfl,by decide,fun H5 p5 hp5 k5 hl5=>?_⟩
    rw [b1] at hl5
    walk_at "gr"
    refine ⟨D,_,_,124,rfl,k5 _ _ hD4 (by simp),Paired.imp (fun x v ⟨l,e1,e2⟩=>⟨l,e1,k5 _ _ e2 (by simp)⟩) hP4,by rw [joinL_jn];lia,fun H6 p6 hp6 k6 hl6=>?_⟩
    rw [joinL_jn] at hl6
    walk_at "gr"
    refine ⟨p5,p6,_,_,rfl,rfl,k6 _ _ hl5 (by simp),hl6,by rw [lV_len,lV_len];simp only [List.length_cons,List.length_nil];lia,fun p7 hp7=>?_⟩
    walk_at "gr"
    refine ⟨_,rfl,by decide,fun H8 p8 hp8 k8 hl8=>?_⟩
    rw [b3] at hl8
    walk_at "gr"
    refine ⟨p7,p8,_,_,rfl,rfl,k8 _ _ upd_same (by simp),hl8,by rw [List.length_append,lV_len,lV_len,lV_len];simp only [List.length_cons,List.length_nil];lia,fun p9 hp9=>?_⟩
    walk_at "gr"
    have kB:Kp [] H H8:=(((kA.trans k5).trans k6).trans (Kp.new hp7)).trans k8
    refine q _ p9 (kB.free (by simp) hp9) (kB.trans (Kp.new hp9)) ?_
    rw [upd_same,if_pos hd0]
    unfold lV
    rw [← List.map_append,← List.map_append];rfl
   ·rw [if_neg (show ¬ (d:Int)=0 by lia)]
    walk_at "gr"
    refine ⟨_,rfl,by decide,fun H5 p5 hp5 k5 hl5=>?_⟩
    rw [b2] at hl5
    walk_at "gr"
    refine ⟨D,_,_,124,rfl,k5 _ _ hD4 (by simp),Paired.imp (fun x v ⟨l,e1,e2⟩=>⟨l,e1,k5 _ _ e2 (by simp)⟩) hP4,by rw [joinL_jn];lia,fun H6 p6 hp6 k6 hl6=>?_⟩
    rw [joinL_jn] at hl6
    walk_at "gr"
    refine ⟨p5,p6,_,_,rfl,rfl,k6 _ _ hl5 (by simp),hl6,by rw [lV_len,lV_len];simp only [List.length_cons,List.length_nil];lia,fun p7 hp7=>?_⟩
    walk_at "gr"
    refine ⟨_,rfl,by decide,fun H8 p8 hp8 k8 hl8=>?_⟩
    rw [b3] at hl8
    walk_at "gr"
    refine ⟨p7,p8,_,_,rfl,rfl,k8 _ _ upd_same (by simp),hl8,by rw [List.length_append,lV_len,lV_len,lV_len];simp only [List.length_cons,List.length_nil];lia,fun p9 hp9=>?_⟩
    walk_at "gr"
    have kB:Kp [] H H8:=(((kA.trans k5).trans k6).trans (Kp.new hp7)).trans k8
    refine q _ p9 (kB.free (by simp) hp9) (kB.trans (Kp.new hp9)) ?_
    rw [upd_same,if_neg hd0]
    unfold lV
    rw [← List.map_append,← List.map_append];rfl
end
section
variable {P:Program}{w:World}{K:PySem.W.Frag}{mg:Str→Option Value}{base:Heap}{a:Ad}
theorem max_is {l:List Nat}{m:Nat}:∀ {b:Nat},m∈b::l→(∀ y∈b::l,y≤m)→m=l.foldl max b:=by
 induction l with
 | nil=>intro b h1 h2;simpa using h1
 | cons x l ih =>
  intro b h1 h2
  rw [List.foldl_cons]
  refine ih ?_ fun y hy=>?_
  ·have hb:=h2 b (by simp)
   have hx:=h2 x (by simp)
   simp only [List.mem_cons] at h1
   rcases h1 with e | e | e
   ·have:max b x=m:=by lia
    rw [this];simp
   ·have:max b x=m:=by lia
    rw [this];simp
   ·simp [e]
  ·have hb:=h2 b (by simp)
   have hx:=h2 x (by simp)
   rcases List.mem_cons.mp hy with e | e
   ·lia
   ·exact h2 y (by simp [e])
theorem getD_jn (l:List (List (List Nat))) (i:Nat):(l.map (jn 32)).getD i []=jn 32 (l.getD i []):=by
 rw [List.getD_eq_getElem?_getD,List.getD_eq_getElem?_getD,List.getElem?_map]
 cases l[i]? with
 | none=>rfl
 | some x=>rfl
theorem le_sum {x:Nat}:∀ {l:List Nat},x∈l→x≤l.sum
 | [],h=>by simp at h
 | y::l,h=>by
  rw [List.sum_cons]
  rcases List.mem_cons.mp h with e | e
  ·lia
  ·have:=le_sum e;lia
theorem line_le (t:VhPage.Table) (c:List (List Nat)) (d:Nat):(lineC t c d).length≤cellN c:=by
 have h:=line_sum t c (d+1)
 rw [List.range_succ,List.map_append,List.sum_append] at h
 simp at h
 lia
theorem row_le (t:VhPage.Table) (c:List (List (List Nat))) (z:List (List Nat)) (d:Nat):(rowP t c z d).length≤(d+1) * (3+(c.length+1) * (t.width+1))+rowN (c++[z]):=by
 have h:=row_sum t c z (d+1)
 rw [List.range_succ,List.map_append,List.sum_append] at h
 simp only [List.map_cons,List.map_nil,List.sum_cons,List.sum_nil] at h
 lia
def sp_printed_row (K:PySem.W.Frag) (a:Ad):Sp:=fun vs H Q _=>∃ (q:Addr) (t:VhPage.Table) (c:List (List (List Nat))) (z:List (List Nat)) (N:Addr→Prop),vs=[.ref q,.int (t.width:Int)]∧RowA N H (c++[z]) q∧t.width≤120∧1≤c.length∧c.length≤3∧RowOk (c++[z])∧rowN (c++[z])≤16384∧cnt (c++[z])≤16384 ∧
 ∀ H' l la,H l=none→Kp [] H H'→H' l=some (.lst (la.map V.ref))→LsN H H' ((List.range (rowH t (c++[z]))).map (rowP t c z)) la→Q (.ref l) H'
abbrev s_printed_row:Stmt:=top 40
theorem sc_printed_row:FnScope ["row","width","cells","cell","count","lines","at"] ["row","width"] (defScope s_printed_row):=⟨rfl,rfl,rfl,by decide +kernel,rfl,by decide +kernel,by decide +kernel⟩
theorem bk_printed_row_0:BlkOk ["row","width","cells","cell","count","lines","at"] (defScope s_printed_row) (lcSc (stVal (stI (defBody s_printed_row) 2))) [("at",6)]:=⟨rfl,by decide +kernel,by decide +kernel,by decide +kernel,by decide +kernel⟩
theorem bk_printed_row_1:BlkOk ["row","width","cells","cell","count","lines","at"] (defScope s_printed_row) (lcSc (exR (exArg (stVal (stI (defBody s_printed_row) 1)) 0))) [("lines",5)]:=⟨rfl,by decide +kernel,by decide +kernel,by decide +kernel,by decide +kernel⟩
theorem bk_printed_row_2:BlkOk ["row","width","cells","cell","count","lines","at"] (defScope s_printed_row) (lcSc (stVal (stI (defBody s_printed_row) 0))) [("cell",3)]:=⟨rfl,by decide +kernel,by decide +kernel,by decide +kernel,by decide +kernel⟩
theorem ok_printed_row {f:Addr}{fd:FuncData} (F:Fun K "printed_row" "printed_row" s_printed_row f fd) (T:Txt K mg a) (c_lines_of_cell:FnC P w K mg base CX0 4 "lines_of_cell" ["cell","width"] (sp_lines_of_cell K a)) (c_printed_line_of_row:FnC P w K mg base CX0 2 "printed_line_of_row" ["cells","at","width"] (sp_printed_line_of_row K a)):FnOk P w K mg base CX0 5 f fd ["row","width"] (sp_printed_row K a):=by
 refine F.ok sc_printed_row (fun vs H Q E h=>?_) (fun cdv A outer s H vs Q E hr h=>?_)
 ·obtain ⟨q0,t,c,z,N,rfl,hrow,hwd,hc1,hc3,hok,hrn,hcn,q⟩:=h
  rfl
 ·obtain ⟨q0,t,c,z,N,rfl,hrow,hwd,hc1,hc3,hok,hrn,hcn,q⟩:=h
  have nd:=sc_printed_row.nd
  refine ⟨_,(pss_cons (ps_set (i:=2) nd rfl (Or.inr rfl) (pe_lc rfl nd (pi_list (pv 0)) bk_printed_row_2 (fun _ _ _ _ _=>(pg_name (i:=3) nd rfl (Or.inl rfl))) (fun _ _ _ _ _=>pts_nil) (fun _ _ _ _ _=>(pe_callC c_lines_of_cell hr pass0 (pa_cons (pv 3) (pa_cons (pv 1) pa_nil)))))) (pss_cons (ps_set (i:=4) nd rfl (Or.inl rfl) (pe_callB (cr_max rfl) rfl T.max boot_max (pa_cons (pe_op op_cat (pe_lst (pa_cons pe_int pa_nil)) (pe_lc rfl nd (pi_list (pv 2)) bk_printed_row_1 (fun _ _ _ _ _=>(pg_name (i:=5) nd rfl (Or.inl rfl))) (fun _ _ _ _ _=>pts_nil) (fun _ _ _ _ _=>(pe_callB (k_call_len_seq (K:=K) rfl) rfl T.len PySem.boot_len (pa_cons (pv 5) pa_nil))))) pa_nil))) (pss_one (ps_ret (pe_lc rfl nd (pi_range1 rfl T.range (pa_cons (pv 4) pa_nil)) bk_printed_row_0 (fun _ _ _ _ _=>(pg_name (i:=6) nd rfl (Or.inl rfl))) (fun _ _ _ _ _=>pts_nil) (fun _ _ _ _ _=>(pe_callC c_printed_line_of_row hr pass0 (pa_cons (pv 2) (pa_cons (pv 6) (pa_cons (pv 1) pa_nil)))))))))),?_⟩
  have hz:sizeLine=16777216:=by decide
  obtain ⟨hq0,ca,hqa,hPc⟩:=hrow
  have hcl:=Paired.length hPc
  walk_at "gs"
  walk_at "gr"
  refine g_lcL ?_
  walk_at "gr"
  refine ⟨q0,rfl,⟨_,.inl (.inl hqa)⟩,fun D hD=>?_⟩
  obtain ⟨Pw,hPw⟩:∃ Pw:Nat→Hp→Prop,Pw=fun i H'=>Kp [] H H'∧∃ fa,H' D=some (.lst (fa.map V.ref))∧Paired (fun ls p=>p≠D∧∃ la,H' p=some (.lst (la.map V.ref))∧Paired (fun x q=>q≠D∧H' q=some (.lst (lV x))) ls la) (((c++[z]).take i).map fun cl=>(cellW t.width cl).map (jn 32)) fa:=⟨_,rfl⟩
  refine lc_list (xs:=ca.map V.ref) Pw ?_ ?_ ?_ ?_
  ·rw [hPw]
   exact ⟨Kp.new hD,[],upd_same,.nil⟩
  ·intro i H' _ h
   rw [hPw] at h
   exact .inl (.inl (h.1 _ _ hqa (by simp)))
  ·intro i v H2 hi h
   rw [hPw] at h
   obtain ⟨k2,fa,hD2,hP2⟩:=h
   rw [List.getElem?_map] at hi
   cases hz':ca[i]? with
   | none=>rw [hz'] at hi;cases hi
   | some y =>
    rw [hz'] at hi
    cases hi
    obtain ⟨cl,hcl2,hy0,wa,hya,hPy⟩:=Paired.get hPc hz'
    have hmem:cl∈c++[z]:=List.mem_of_getElem? hcl2
    have hcnt:cl.length≤16384:=by
     have:cl.length≤cnt (c++[z]):=by
      unfold cnt
      exact le_sum (List.mem_map.mpr ⟨cl,hmem,rfl⟩)
     lia
    have hfl:=Paired.length hP2
    rw [List.length_map,List.length_take,List.length_append] at hfl
    simp only [List.length_singleton] at hfl
    refine ⟨rfl,?_⟩
    simp only [tYes]
    rw [if_pos trivial]
    walk_at "gr"
    refine ⟨_,rfl,?_⟩
    walk_at "gr"
    refine ⟨_,rfl,?_⟩
    walk_at "gr"
    refine ⟨y,t.width,cl,wa,rfl,k2 _ _ hya (by simp),Paired.imp (fun x p e=>k2 _ _ e.2 (by simp)) hPy,hwd,by lia,fun x hx=>(word_ok (hok cl hmem x hx)).2.1,fun H4 l la hl k4 hla hLs=>?_⟩
    have hD4:=k4 _ _ hD2 (by simp)
    have nD:∀ {u:Addr},H2 u=none→u≠D:=fun {u} hu e=>by rw [e,hD2] at hu;cases hu
    refine ⟨_,hD4,by rw [List.length_map];lia,?_⟩
    rw [hPw]
    refine ⟨(k2.trans k4).put2 (.inr hD),fa++[l],by rw [upd_same,List.map_append];rfl,?_⟩
    rw [take_snoc' hcl2,List.map_append]
    refine Paired.snoc (Paired.imp (fun ls p e=>?_) hP2) ⟨nD hl,la,by rw [upd_ne (nD hl)];exact hla,Paired.imp (fun x p e=>⟨nD e.1,by rw [upd_ne (nD e.1)];exact e.2⟩) hLs⟩
    obtain ⟨e1,la',e2,e3⟩:=e
    exact ⟨e1,la',by rw [upd_ne e1];exact k4 _ _ e2 (by simp),Paired.imp (fun x p e=>⟨e.1,by rw [upd_ne e.1];exact k4 _ _ e.2 (by simp)⟩) e3⟩
  ·intro H2 h
   rw [hPw] at h
   obtain ⟨k2,fa,hD2,hP2⟩:=h
   rw [List.length_map,← hcl,List.take_of_length_le (Nat.le_refl _)] at hP2
   have hC2:CLs H2 ((c++[z]).map fun cl=>(cellW t.width cl).map (jn 32)) fa:=Paired.imp (fun ls p ⟨_,la,e2,e3⟩=>⟨la,e2,Paired.imp (fun x p e=>e.2) e3⟩) hP2
   clear hP2
   have hfl:=Paired.length hC2
   rw [List.length_map,List.length_append] at hfl
   simp only [List.length_singleton] at hfl
   obtain ⟨fa0,fz,rfl⟩:∃ fa0 fz,fa=fa0++[fz]:=⟨fa.dropLast,fa.getLast (by intro e;rw [e] at hfl;simp at hfl),(List.dropLast_concat_getLast _).symm⟩
   walk_at "gr"
   refine ⟨(show 1≤sizeLine by decide),fun b hb=>?_⟩
   walk_at "gr"
   refine g_lcL ?_
   walk_at "gr"
   have k3:Kp [] H2 (upd H2 b (HO.lst [V.int 1])):=Kp.new hb
   have hb3:upd H2 b (HO.lst [V.int 1]) b=some (.lst [V.int 1]):=upd_same
   have hD3:=k3 _ _ hD2 (by simp)
   have hC3:=hC2.keep k3
   generalize upd H2 b (HO.lst [V.int 1])=H3 at k3 hb3 hD3 hC3 ⊢
   refine ⟨D,rfl,⟨_,.inl (.inl hD3)⟩,fun D2 hD2'=>?_⟩
   obtain ⟨Pz,hPz⟩:∃ Pz:Nat→Hp→Prop,Pz=fun j H'=>Kp [] H3 H'∧H' D2=some (.lst (lV (((c++[z]).take j).map fun cl=>(t.cellLines cl).length))):=⟨_,rfl⟩
   refine lc_list (xs:=(fa0++[fz]).map V.ref) Pz ?_ ?_ ?_ ?_
   ·rw [hPz]
    exact ⟨Kp.new hD2',upd_same⟩
   ·intro i H' _ h
    rw [hPz] at h
    exact .inl (.inl (h.1 _ _ hD3 (by simp)))
   ·intro i v H7 hi h
    rw [hPz] at h
    obtain ⟨k7,hD7⟩:=h
    rw [List.getElem?_map] at hi
    cases hz':(fa0++[fz])[i]? with
    | none=>rw [hz'] at hi;cases hi
    | some y =>
     rw [hz'] at hi
     cases hi
     obtain ⟨ls,hls,la,hya,hPy⟩:=Paired.get hC3 hz'
     rw [List.getElem?_map] at hls
     cases hc':(c++[z])[i]? with
     | none=>rw [hc'] at hls;cases hls
     | some cl =>
      rw [hc'] at hls
      cases hls
      have hyl:=Paired.length hPy
      rw [List.length_map] at hyl
      refine ⟨rfl,?_⟩
      simp only [tYes]
      walk_at "rd"
      refine ⟨_,rfl,y,rfl,_,.inl (.inl (.inl (k7 _ _ hya (by simp)))),_,hD7,?_,?_⟩
      ·rw [lV_len,List.length_map,List.length_take,List.length_append]
       simp only [List.length_singleton]
       lia
      ·rw [hPz]
       refine ⟨k7.put2 (.inr hD2'),?_⟩
       rw [upd_same,List.length_map,← hyl,lV_snoc,take_snoc' hc',List.map_append];rfl
   ·intro H7 h
    rw [hPz] at h
    obtain ⟨k7,hD7⟩:=h
    rw [List.length_map,show (fa0++[fz]).length=(c++[z]).length by rw [← hfl,List.length_append];rfl,List.take_of_length_le (Nat.le_refl _)] at hD7
    refine ⟨b,D2,_,_,rfl,rfl,k7 _ _ hb3 (by simp),hD7,by rw [lV_len,List.length_map,List.length_append];simp only [List.length_cons,List.length_nil];lia,fun p5 hp5=>?_⟩
    walk_at "gr"
    refine ⟨p5,((1::(c++[z]).map fun cl=>(t.cellLines cl).length):List Nat).map fun (n:Nat)=>(n:Int),rfl,.inl (.inl (by rw [upd_same,List.map_map];rfl)),by simp,fun m hm hle=>?_⟩
    obtain ⟨mn,hmn,rfl⟩:=List.mem_map.mp hm
    have emn:mn=rowH t (c++[z]):=by
     unfold rowH
     refine max_is hmn fun y hy=>?_
     have:=hle (y:Int) (List.mem_map.mpr ⟨y,hy,rfl⟩)
     lia
    subst emn
    have hH:=rowH_le t (c++[z])
    have k5:Kp [] H3 (upd H7 p5 (HO.lst ([V.int 1]++lV ((c++[z]).map fun cl=>(t.cellLines cl).length)))):=k7.trans (Kp.new hp5)
    have kH5:Kp [] H (upd H7 p5 (HO.lst ([V.int 1]++lV ((c++[z]).map fun cl=>(t.cellLines cl).length)))):=(k2.trans k3).trans k5
    have hD5:=k5 _ _ hD3 (by simp)
    have hC5:=hC3.keep k5
    generalize upd H7 p5 (HO.lst ([V.int 1]++lV ((c++[z]).map fun cl=>(t.cellLines cl).length)))=H5 at k5 kH5 hD5 hC5 ⊢
    walk_at "gr"
    refine ⟨_,rfl,(rowH t (c++[z]):Int),rfl,by lia,by lia,fun D8 hD8=>?_⟩
    obtain ⟨Py,hPy⟩:∃ Py:Nat→Hp→Prop,Py=fun j H'=>Kp [] H5 H'∧∃ la,H' D8=some (.lst (la.map V.ref))∧Paired (fun x p=>(H p=none∧p≠D8)∧H' p=some (.lst (lV x))) ((List.range j).map (rowP t c z)) la:=⟨_,rfl⟩
    refine lc_range (n:=rowH t (c++[z])) Py ?_ ?_ ?_
    ·rw [hPy]
     exact ⟨Kp.new hD8,[],upd_same,.nil⟩
    ·intro i H9 hi h
     rw [hPy] at h
     obtain ⟨k9,la,hD9,hP9⟩:=h
     have hll:=Paired.length hP9
     rw [List.length_map,List.length_range] at hll
     refine ⟨rfl,?_⟩
     simp only [tYes]
     rw [if_pos trivial]
     walk_at "gr"
     refine ⟨_,rfl,?_⟩
     walk_at "gr"
     refine ⟨_,rfl,?_⟩
     walk_at "gr"
     refine ⟨_,rfl,?_⟩
     walk_at "gr"
     rw [Int.zero_add]
     have hC9:=hC5.keep k9
     rw [List.map_append] at hC9
     have ePl:(if i=0 then 62 else 32)::(jn 124 ((c.map fun cl=>(cellW t.width cl).map (jn 32)).map (fun ls=>fillP t.width (ls.getD i []))++[((cellW t.width z).map (jn 32)).getD i []])++[10])=rowP t c z i:=by
      unfold rowP
      rw [List.map_map,getD_jn]
      have e1:(c.map ((fun ls=>fillP t.width (ls.getD i [])) ∘ fun cl=>(cellW t.width cl).map (jn 32)))=c.map fun x=>fillP t.width (lineC t x i):=List.map_congr_left fun x _=>by
       show fillP t.width (((cellW t.width x).map (jn 32)).getD i [])=_
       rw [getD_jn];rfl
      rw [e1];rfl
     have hrl:=row_le t c z i
     have hm1:(i+1) * (3+(c.length+1) * (t.width+1))≤16386 * 487:=Nat.mul_le_mul (by lia) (by
      have:(c.length+1) * (t.width+1)≤4 * 121:=Nat.mul_le_mul (by lia) (by lia)
      lia)
     have hjl:(jn 124 ((c.map fun cl=>(cellW t.width cl).map (jn 32)).map (fun ls=>fillP t.width (ls.getD i []))++[((cellW t.width z).map (jn 32)).getD i []])).length≤16777000:=by
      have:=congrArg List.length ePl
      rw [List.length_cons,List.length_append] at this
      lia
     refine ⟨D,i,t.width,c.map fun cl=>(cellW t.width cl).map (jn 32),(cellW t.width z).map (jn 32),fa0,fz,rfl,k9 _ _ hD5 (by simp),hC9,hwd,by rw [List.length_map];exact hc1,by rw [List.length_map];exact hc3,?_,hjl,fun H10 p10 hp10 k10 hl10=>?_⟩
     ·intro ls hls x hx
      obtain ⟨cl,hcl',rfl⟩:∃ cl∈c++[z],(cellW t.width cl).map (jn 32)=ls:=by
       rcases List.mem_append.mp hls with e | e
       ·obtain ⟨cl,h1,h2⟩:=List.mem_map.mp e
        exact ⟨cl,by simp [h1],h2⟩
       ·exact ⟨z,by simp,(List.mem_singleton.mp e).symm⟩
      obtain ⟨y,hy,rfl⟩:=List.mem_map.mp hx
      obtain ⟨d,hd,ed⟩:=List.mem_iff_getElem.mp hy
      have h1:=line_le t cl d
      have e1:lineC t cl d=jn 32 y:=by
       unfold lineC
       rw [List.getD_eq_getElem?_getD,show (t.cellLines cl)[d]?=some y from by rw [← ed];exact List.getElem?_eq_getElem hd];rfl
      rw [e1] at h1
      have h2:cellN cl≤rowN (c++[z]):=le_sum (List.mem_map.mpr ⟨cl,hcl',rfl⟩)
      lia
     ·rw [ePl] at hl10
      have hD10:=k10 _ _ hD9 (by simp)
      have p10D:p10≠D8:=fun e=>by rw [e,hD9] at hp10;cases hp10
      refine ⟨_,hD10,by rw [List.length_map];lia,?_⟩
      rw [hPy]
      refine ⟨(k9.trans k10).put2 (.inr hD8),la++[p10],by rw [upd_same,List.map_append];rfl,?_⟩
      rw [List.range_succ,List.map_append]
      exact Paired.snoc (Paired.imp (fun x p e=>⟨e.1,by rw [upd_ne e.1.2];exact k10 _ _ e.2 (by simp)⟩) hP9) ⟨⟨(kH5.trans k9).free (by simp) hp10,p10D⟩,by rw [upd_ne p10D];exact hl10⟩
    ·intro H9 h
     rw [hPy] at h
     obtain ⟨k9,la,hD9,hP9⟩:=h
     walk_at "gr"
     exact q H9 D8 la (kH5.free (by simp) hD8) (kH5.trans k9) hD9 (Paired.imp (fun x p e=>⟨e.1.1,e.2⟩) hP9)
end
section
variable {P:Program}{w:World}{K:PySem.W.Frag}{mg:Str→Option Value}{base:Heap}{a:Ad}
def sp_printed_table (K:PySem.W.Frag) (a:Ad):Sp:=fun vs H Q _=>∃ (g dg e rw:Addr) (G:Hp) (ra:List Addr) (x:VhPage.Table),vs=[.ref g]∧TbAt a G H g dg e rw x.width x.height x.cols x.head ra x.rows∧x.ok=true∧x.text.length≤16384 ∧
 ∀ H' p,Kp [] H H'→H' p=some (.lst (bsV x.printed))→x.printed.length≤16777212→Q (.ref p) H'
abbrev s_printed_table:Stmt:=top 41
theorem sc_printed_table:FnScope ["table","printed","page","left","row","lines","line"] ["table"] (defScope s_printed_table):=⟨rfl,rfl,rfl,by decide +kernel,rfl,by decide +kernel,by decide +kernel⟩
theorem ok_printed_table {f:Addr}{fd:FuncData} (F:Fun K "printed_table" "printed_table" s_printed_table f fd) (T:Txt K mg a) (c_bytes_of:FnC P w K mg base CX0 2 "bytes_of" ["characters"] (sp_bytes_of K a)) (c_printed_row:FnC P w K mg base CX0 5 "printed_row" ["row","width"] (sp_printed_row K a)) (c_characters_of:FnC P w K mg base CX0 1 "characters_of" ["text"] (sp_characters_of K a)):FnOk P w K mg base CX0 6 f fd ["table"] (sp_printed_table K a):=by
 refine F.ok sc_printed_table (fun vs H Q E h=>?_) (fun cdv A outer s H vs Q E hr h=>?_)
 ·obtain ⟨g,dg,e,rw,G,ra,x,rfl,L,ok,ht,q⟩:=h
  rfl
 ·obtain ⟨g,dg,e,rw,G,ra,x,rfl,L,ok,ht,q⟩:=h
  have nd:=sc_printed_table.nd
  refine ⟨_,(pss_cons (ps_set (i:=1) nd rfl (Or.inl rfl) (pe_callTy call_list_of rfl T.list boot_list (pa_cons (pe_fld (pv 0) rfl) pa_nil))) (pss_cons (ps_set (i:=2) nd rfl (Or.inl rfl) pe_int) (pss_cons (ps_set (i:=3) nd rfl (Or.inl rfl) pe_int) (pss_cons (ps_for PassesOwn.never rfl (pi_list (pe_fld (pv 0) rfl)) (pg_name (i:=4) nd rfl (Or.inl rfl)) (pss_cons (ps_set (i:=5) nd rfl (Or.inl rfl) (pe_callC c_printed_row hr pass0 (pa_cons (pv 4) (pa_cons (pe_fld (pv 0) rfl) pa_nil)))) (pss_cons (ps_if (pt_cmpR op_gt (pe_callB call_len_seq rfl T.len PySem.boot_len (pa_cons (pv 5) pa_nil)) (pv 3) (nomark _)) (pss_one (ps_set (i:=3) nd rfl (Or.inl rfl) pe_int)) pss_nil) (pss_one (ps_for PassesOwn.never rfl (pi_list (pv 5)) (pg_name (i:=6) nd rfl (Or.inl rfl)) (pss_cons (ps_if (pt_cmpR op_eq (pv 3) pe_int (nomark _)) (pss_cons (ps_aug (i:=2) nd rfl (Or.inl rfl) pe_int ip_add) (pss_cons (ps_expr (pe_bm PySem.F.plainAttrs_list PySem.F.slot_list_extend PySem.F.type_list_extend mt_extend (pv 1) (pa_cons (pe_callC c_characters_of hr pass0 (pa_cons (pe_fstr (PEs.cons pe_str (PEs.cons (pe_fv (pv 2)) (PEs.cons pe_str PEs.nil)))) pa_nil)) pa_nil))) (pss_one (ps_set (i:=3) nd rfl (Or.inl rfl) (pe_fld (pv 0) rfl))))) pss_nil) (pss_cons (ps_expr (pe_bm PySem.F.plainAttrs_list PySem.F.slot_list_extend PySem.F.type_list_extend mt_extend (pv 1) (pa_cons (pv 6) pa_nil))) (pss_one (ps_aug (i:=3) nd rfl (Or.inl rfl) pe_int ip_sub))))))))) (pss_one (ps_ret (pe_callC c_bytes_of hr pass0 (pa_cons (pv 1) pa_nil)))))))),?_⟩
  have hz:sizeLine=16777216:=by decide
  obtain ⟨w1,w2,w3,w4,w5,w6⟩:=table_ok.mp ok
  obtain ⟨bh,bA⟩:=bud_all ok ht
  have hra:=Paired.length L.rg
  walk_at "gs"
  walk_at "gr"
  refine g_fld1 L.hg T.clTable T.nT_head (tf_head _ _ _ _ _) ?_
  walk_at "gr"
  refine ⟨_,.inl (.inl (.inl L.hh)),fun pl hpl=>?_⟩
  walk_at "gr"
  rw [bsV_lV]
  have k1:Kp [] H (upd H pl (HO.lst (lV (x.head.map fun (c:UInt8)=>c.toNat)))):=Kp.new hpl
  have hpl1:upd H pl (HO.lst (lV (x.head.map fun (c:UInt8)=>c.toNat))) pl=some (HO.lst (lV (x.head.map fun (c:UInt8)=>c.toNat))):=upd_same
  generalize upd H pl (HO.lst (lV (x.head.map fun (c:UInt8)=>c.toNat)))=H1 at k1 hpl1 ⊢
  have L1:=L.keep k1 (by simp)
  obtain ⟨qs,hqs⟩:∃ qs:Nat→List (List (List UInt8))×Nat,qs=fun i=>(x.rows.take i).foldl (putT x) ([],0):=⟨_,rfl⟩
  have hhead:PSt x (qs 0) (x.head.map fun (c:UInt8)=>c.toNat) x.head.length:=by
   rw [hqs]
   have hasc:∀ c∈x.head,c.toNat<128:=fun c hc=>by
    have hc:c∈(94::VhPage.numbers [x.width,x.height,x.cols])++[10]:=hc
    rcases List.mem_append.mp hc with h | h
    ·rcases List.mem_cons.mp h with h | h
     ·rw [h];decide
     ·exact num_ascii _ c h
    ·have:c=10:=by simpa using h
     rw [this];decide
   refine ⟨?_,fun c hc=>?_,by rw [List.length_map];exact Nat.le_refl _,fun z=>absurd rfl z⟩
   ·rw [spelt_bytes _ hasc];simp [prB]
   ·obtain ⟨b,hb,rfl⟩:=List.mem_map.mp hc
    have:=hasc b hb;lia
  obtain ⟨Pv,hPv⟩:∃ Pv:WT,Pv=fun i σ H'=>∃ (A:List Nat) (o4 o5 o6:Option V),σ=[some (.ref g),some (.ref pl),some (.int ((qs i).1.length:Int)),some (.int ((qs i).2:Int)),o4,o5,o6]∧Kp [] H H'∧H' pl=some (.lst (lV A))∧PSt x (qs i) A (x.head.length+bud x (x.rows.take i)):=⟨_,rfl⟩
  refine g_forL ?_
  walk_at "gr"
  refine g_fld1 L1.hg T.clTable T.nT_rows (tf_rows _ _ _ _ _) ?_
  refine ⟨rw,rfl,⟨_,.inl (.inl L1.hw)⟩,for_list (xs:=ra.map V.ref) Pv ?_ ?_ ?_ ?_⟩
  ·rw [hPv]
   exact ⟨_,none,none,none,by rw [hqs];rfl,k1,hpl1,by simpa [bud] using hhead⟩
  ·intro i σ H' _ hw'
   rw [hPv] at hw'
   obtain ⟨_,_,_,_,rfl,k,_⟩:=hw'
   exact .inl (.inl (L.keep k (by simp)).hw)
  ·intro i v σ H2 hi hw'
   rw [hPv] at hw'
   obtain ⟨A,o4,o5,o6,rfl,k2,hpl2,hst⟩:=hw'
   rw [List.getElem?_map] at hi
   obtain ⟨qi,hqi,rfl⟩:∃ qi,ra[i]?=some qi∧V.ref qi=v:=by
    cases e':ra[i]? with
    | none=>rw [e'] at hi;cases hi
    | some z=>rw [e'] at hi;exact ⟨z,rfl,by simpa using hi⟩
   have L2:=L.keep k2 (by simp)
   obtain ⟨r,hr,hrow⟩:=Paired.get L2.rg hqi
   have hrm:r∈x.rows:=List.mem_of_getElem? hr
   obtain ⟨hrl,hrok⟩:=w5 r hrm
   obtain ⟨c,z,rfl⟩:∃ c z,r=c++[z]:=⟨r.dropLast,r.getLast (by intro e';rw [e'] at hrl;simp at hrl;lia),(List.dropLast_concat_getLast _).symm⟩
   have hcl:c.length+1=x.cols:=by rw [← hrl];simp
   have hrg:=row_ge (r:=c++[z]) (by simp) hrok
   have hrt:(VhPage.ended (rowB (c++[z]))).length≤16384:=by
    have e1:x.text=x.head++x.rows.flatMap fun r=>VhPage.ended (rowB r):=rfl
    have e2:(VhPage.ended (rowB (c++[z]))).length≤(x.rows.flatMap fun r=>VhPage.ended (rowB r)).length:=by
     rw [sum_flat]
     exact le_sum (List.mem_map.mpr ⟨c++[z],hrm,rfl⟩)
    rw [e1,List.length_append] at ht
    lia
   have ebud:bud x (x.rows.take (i+1))=bud x (x.rows.take i)+(rowH x (c++[z]) * 500+rowN (c++[z])):=by rw [take_snoc' hr,bud_snoc]
   have hbt:=bud_take x x.rows (i+1)
   have eqs:qs (i+1)=putT x (qs i) (c++[z]):=by
    rw [hqs]
    show (x.rows.take (i+1)).foldl (putT x) ([],0)=_
    rw [take_snoc' hr,List.foldl_append];rfl
   generalize hQ0:qs i=s0 at hst eqs ⊢
   walk_at "gr"
   refine g_fld1 L2.hg T.clTable T.nT_width (tf_width _ _ _ _ _) ?_
   walk_at "gr"
   refine ⟨qi,x,c,z,_,rfl,hrow,w1.2,by lia,by lia,hrok,by lia,by lia,fun H3 l la hl k3 hla hLs=>?_⟩
   walk_at "gr"
   have hll:=Paired.length hLs
   rw [List.length_map,List.length_range] at hll
   refine ⟨_,.inl (.inl (.inl hla)),?_⟩
   walk_at "gr"
   rw [List.length_map,← hll]
   have hpln:∀ {p:Addr},H2 p=none→p≠pl:=fun {p} hp e'=>by rw [e',hpl2] at hp;cases hp
   have hpl3:=k3 _ _ hpl2 (by simp)
   obtain ⟨rs,hrs⟩:∃ rs:Nat→Nat,rs=fun j=>((List.range j).map fun d=>(rowP x c z d).length).sum:=⟨_,rfl⟩
   have ers:∀ j,rs (j+1)=rs j+(rowP x c z j).length:=fun j=>by
    rw [hrs]
    show ((List.range (j+1)).map _).sum=_
    rw [List.range_succ,List.map_append,List.sum_append];simp
   have hrsT:rs (rowH x (c++[z]))≤rowH x (c++[z]) * 487+rowN (c++[z]):=by
    have h1:=row_sum x c z (rowH x (c++[z]))
    have h2:rowH x (c++[z]) * (3+(c.length+1) * (x.width+1))≤rowH x (c++[z]) * 487:=Nat.mul_le_mul_left _ (by
     have:(c.length+1) * (x.width+1)≤4 * 121:=Nat.mul_le_mul (by lia) (by lia)
     lia)
    rw [hrs]
    exact Nat.le_trans h1 (by lia)
   have hrsM:∀ j,j≤rowH x (c++[z])→rs j≤rs (rowH x (c++[z])):=fun j hj=>by
    induction hd':rowH x (c++[z])-j generalizing j with
    | zero=>rw [show j=rowH x (c++[z]) by lia];exact Nat.le_refl _
    | succ n ih =>
     have h1:=ih (j+1) (by lia) (by lia)
     rw [ers] at h1;lia
   have body:∀ (n0:Nat),n0=(if s0.2<rowH x (c++[z]) then 0 else s0.2)→∀ N R B C2,(∀ σ H',Pv (i+1) σ H'→N σ H')→M ⟨N,R,B,C2⟩ [some (V.ref g),some (V.ref pl),some (V.int (s0.1.length:Int)),some (V.int (n0:Int)),some (V.ref qi),some (V.ref l),o6] H3:=fun n0 hn0 N RR B C2 hN=>by
    refine hM _ _ _ ?_
    clear hM
    obtain ⟨ss,hss⟩:∃ ss:Nat→List (List (List UInt8))×Nat,ss=fun j=>((List.range j).map fun d=>Vh.spelt (rowP x c z d)).foldl (putL x.height) (s0.1,n0):=⟨_,rfl⟩
    have ess:∀ j,ss (j+1)=putL x.height (ss j) (Vh.spelt (rowP x c z j)):=fun j=>by
     rw [hss]
     show ((List.range (j+1)).map _).foldl _ _=_
     rw [List.range_succ,List.map_append,List.foldl_append];rfl
    have hs00:PSt x (ss 0) A (x.head.length+bud x (x.rows.take i)+0 * 10+rs 0):=by
     rw [hss,hrs]
     refine ⟨hst.sp,hst.ch,by have:=hst.ln;simpa using this,fun hne=>hst.ne ?_⟩
     have hne:n0≠0:=hne
     rw [hn0] at hne
     split at hne
     ·exact absurd rfl hne
     ·exact hne
    obtain ⟨Pw,hPw⟩:∃ Pw:WT,Pw=fun j σ H'=>∃ (A':List Nat) (o6:Option V),σ=[some (.ref g),some (.ref pl),some (.int ((ss j).1.length:Int)),some (.int ((ss j).2:Int)),some (.ref qi),some (.ref l),o6]∧Kp [] H H'∧Kp [pl] H3 H'∧H' pl=some (.lst (lV A'))∧PSt x (ss j) A' (x.head.length+bud x (x.rows.take i)+j * 10+rs j):=⟨_,rfl⟩
    refine g_forL ?_
    walk_at "gr"
    refine ⟨l,rfl,⟨_,.inl (.inl hla)⟩,for_list (xs:=la.map V.ref) Pw ?_ ?_ ?_ ?_⟩
    ·rw [hPw]
     exact ⟨A,o6,by rw [hss];rfl,k2.trans k3,Kp.refl,hpl3,hs00⟩
    ·intro j σ H' _ hw'
     rw [hPw] at hw'
     obtain ⟨_,_,rfl,_,k,_⟩:=hw'
     exact .inl (.inl (k _ _ hla (by simpa using hpln hl)))
    ·intro j v σ H4 hj hw'
     rw [hPw] at hw'
     obtain ⟨A',o6',rfl,k4,k34,hpl4,hst4⟩:=hw'
     rw [List.getElem?_map] at hj
     obtain ⟨pj,hpj,rfl⟩:∃ pj,la[j]?=some pj∧V.ref pj=v:=by
      cases e':la[j]? with
      | none=>rw [e'] at hj;cases hj
      | some z=>rw [e'] at hj;exact ⟨z,rfl,by simpa using hj⟩
     have hjl:j<rowH x (c++[z]):=by rw [hll];exact (List.getElem?_eq_some_iff.mp hpj).1
     obtain ⟨y,hy,hpn,hpv⟩:=Paired.get hLs hpj
     rw [List.getElem?_map,List.getElem?_range hjl] at hy
     cases hy
     have hp4:H4 pj=some (.lst (lV (rowP x c z j))):=k34 _ _ hpv (by simpa using hpln hpn)
     have hch:=rowP_chs (t:=x) (c:=c) (z:=z) hrok j
     have hm:=hrsM (j+1) hjl
     rw [ers] at hm
     have hpg:=hst4.pages (by lia)
     generalize hS:ss j=sj at hst4 hpg ⊢
     obtain ⟨PP,lf⟩:=sj
     walk_at "gr"
     dsimp only at hpg ⊢
     have ej:=ess j
     rw [hS] at ej
     have eb:x.head.length+bud x (x.rows.take i)+(j+1) * 10+rs (j+1)=x.head.length+bud x (x.rows.take i)+j * 10+rs j+10+(rowP x c z j).length:=by rw [ers];lia
     have rest:∀ (A2:List Nat) (H5:Hp) (pg lf2:Nat),Kp [] H H5→Kp [pl] H3 H5→H5 pl=some (.lst (lV A2))→PSt x (ss (j+1)) (A2++rowP x c z j) (x.head.length+bud x (x.rows.take i)+(j+1) * 10+rs (j+1))→pg=(ss (j+1)).1.length→1≤lf2→lf2-1=(ss (j+1)).2 →
       ∀ R B C3,M ⟨Pw (j+1),R,B,C3⟩ [some (V.ref g),some (V.ref pl),some (V.int (pg:Int)),some (V.int (lf2:Int)),some (V.ref qi),some (V.ref l),some (V.ref pj)] H5:=fun A2 H5 pg lf2 k5 k35 hpl5 hst5 epg hlf elf R' B' C3=>by
      refine hM _ _ _ ?_
      clear hM
      have hp5:H5 pj=some (.lst (lV (rowP x c z j))):=k35 _ _ hpv (by simpa using hpln hpn)
      walk_at "gr"
      refine ⟨.inl ⟨rfl,_,.inl (.inl hpl5)⟩,?_⟩
      walk_at "gr"
      have hln:=hst5.ln
      rw [List.length_append] at hln
      rw [ers] at hln
      refine ⟨_,_,hpl5,hp5,by rw [lV_len,lV_len];lia,?_⟩
      walk_at "gr"
      rw [hPw]
      refine ⟨A2++rowP x c z j,some (.ref pj),?_,k5.put2 (.inr hpl),k35.put2 (.inl (by simp)),by rw [upd_same,lV_app],hst5⟩
      have e3:(lf2:Int)-1=((ss (j+1)).2:Int):=by lia
      rw [e3,← epg]
     have hch':=hch
     by_cases hlf:lf=0
     ·subst hlf
      rw [if_pos (by simp)]
      clear hM
      have e2:=putL_new (h:=x.height) (P:=PP) (x:=Vh.spelt (rowP x c z j))
      have hnew:=hst4.new hch (by lia)
      have nl:=num_len (n:=PP.length+1) (k:=8) (by decide) (by lia)
      have ehl:=headL_len (n:=PP.length+1) (by lia)
      have ep:(PP.length:Int)+1=((PP.length+1:Nat):Int):=by lia
      walk_at "gr"
      rw [ep]
      refine ⟨.inl ⟨rfl,_,.inl (.inl hpl4)⟩,?_⟩
      walk_at "gr"
      have bs1:(Str.ofString "=").cps.toList=[61]:=by decide
      have bs2:(Str.ofString "\n").cps.toList=[10]:=by decide
      have be:Str.empty.cps.toList=[]:=by decide
      have eS:(Str.empty++Str.ofString "="++Str.ofString (toString ((PP.length+1:Nat):Int))++Str.ofString "\n").cps.toList=headL (PP.length+1):=by
       rw [str_app,str_app,str_app,be,bs1,bs2,num_text];rfl
      have l3:(Str.empty++Str.ofString "="++Str.ofString (toString ((PP.length+1:Nat):Int))++Str.ofString "\n").length≤10:=by rw [str_len,eS];exact ehl
      have l2:(Str.empty++Str.ofString "="++Str.ofString (toString ((PP.length+1:Nat):Int))).length≤9:=by rw [str_len,str_app,str_app,be,bs1,num_text];simp;lia
      have l1:(Str.empty++Str.ofString "=").length≤1:=by rw [str_len,str_app,be,bs1];simp
      refine ⟨_,rfl,by lia,_,rfl,_,rfl,log_small (by lia),_,rfl,(by rw [hz];exact Nat.le_trans l2 (by decide)),_,rfl,(by rw [hz];exact Nat.le_trans l3 (by decide)),(by rw [hz];exact Nat.le_trans l3 (by decide)),?_⟩
      walk_at "gr"
      refine ⟨_,rfl,by rw [← Array.length_toList,eS];lia,fun H6 p6 hp6 k6 hl6=>?_⟩
      rw [eS] at hl6
      walk_at "gr"
      have hpl6:=k6 _ _ hpl4 (by simp)
      have hl4:=hst4.ln
      refine ⟨_,_,hpl6,hl6,by rw [lV_len,lV_len];lia,?_⟩
      have k7:Kp [] H (upd H6 pl (HO.lst (lV A'++lV (headL (PP.length+1))))):=(k4.trans k6).put2 (.inr hpl)
      have k37:Kp [pl] H3 (upd H6 pl (HO.lst (lV A'++lV (headL (PP.length+1))))):=(k34.trans (k6.mono (by simp))).put2 (.inl (by simp))
      have hpl7:upd H6 pl (HO.lst (lV A'++lV (headL (PP.length+1)))) pl=some (.lst (lV (A'++headL (PP.length+1)))):=by rw [upd_same,lV_app]
      generalize upd H6 pl (HO.lst (lV A'++lV (headL (PP.length+1))))=H7 at k7 k37 hpl7 ⊢
      walk_at "gr"
      refine g_fld1 (L.keep k7 (by simp)).hg T.clTable T.nT_height (tf_height _ _ _ _ _) ?_
      walk_at "gr"
      refine rest _ H7 (PP.length+1) x.height k7 k37 hpl7 (by rw [eb,ej];exact hnew) (by rw [ej];exact e2.2.1.symm) (by lia) (by rw [ej];exact e2.2.2.symm) _ _ _
     ·rw [if_neg (by lia)]
      have hne:=hst4.ne hlf
      obtain ⟨p0,PP',rfl⟩:∃ p0 PP',PP=p0::PP':=by
       cases PP with
       | nil=>exact absurd rfl hne
       | cons a b=>exact ⟨a,b,rfl⟩
      have e2:=putL_on (h:=x.height) (p:=p0) (P:=PP') (x:=Vh.spelt (rowP x c z j)) hlf
      refine rest A' H4 (PP'.length+1) lf k4 k34 hpl4 (by rw [eb,ej];exact hst4.on hlf hch) (by rw [ej];exact e2.2.1.symm) (by lia) (by rw [ej];exact e2.2.2.symm) _ _ _
    ·intro σ H4 hw'
     rw [hPw] at hw'
     obtain ⟨A',o6',rfl,k4,k34,hpl4,hst4⟩:=hw'
     rw [List.length_map,← hll] at hst4 ⊢
     refine hN _ _ ?_
     rw [hPv]
     have e1:ss (rowH x (c++[z]))=qs (i+1):=by
      rw [eqs,hss]
      unfold putT putR
      rw [rowLines_len,← hn0,← spelt_row]
     rw [e1] at hst4 ⊢
     refine ⟨A',_,_,_,rfl,k4,hpl4,⟨hst4.sp,hst4.ch,?_,hst4.ne⟩⟩
     have:=hst4.ln
     rw [ebud];lia
   by_cases hlt:s0.2<rowH x (c++[z])
   ·rw [if_pos (by lia)]
    clear hM
    walk_at "gr"
    exact body 0 (by rw [if_pos hlt]) _ _ _ _ fun _ _ z=>z
   ·rw [if_neg (by lia)]
    exact body s0.2 (by rw [if_neg hlt]) _ _ _ _ fun _ _ z=>z
  ·intro σ H2 hw'
   rw [hPv] at hw'
   obtain ⟨A,o4,o5,o6,rfl,k2,hpl2,hst⟩:=hw'
   rw [List.length_map,← hra,List.take_of_length_le (Nat.le_refl _)] at hst
   refine hM _ _ _ ?_
   walk_at "gr"
   refine ⟨pl,A,rfl,hpl2,hst.ch,by have:=hst.ln;lia,fun H3 p3 hp3 k3 hl3=>?_⟩
   walk_at "gr"
   have ep:Vh.spelt A=x.printed:=by
    rw [hst.sp,pages_prog (t:=x) (by lia),hqs]
    dsimp only
    rw [List.take_of_length_le (Nat.le_refl _)]
   rw [ep] at hl3
   refine q H3 p3 (k2.trans k3) hl3 ?_
   rw [← ep]
   have h1:=spelt_len A
   have h2:=hst.ln
   lia
end
section
variable {P:Program}{w:World}{K:PySem.W.Frag}{mg:Str→Option Value}{base:Heap}{a:Ad}
theorem pk_in {bs:List UInt8}{p:Nat}{c:UInt8} (h:pk bs p=c.toNat):p<bs.length:=by
 have e:=(pk_eq (c:=c)).mp h
 exact (List.getElem?_eq_some_iff.mp e).1
theorem some_moves {bs:List UInt8}{p p':Nat}{x:Vh.Letters} (h:VhPage.someChars_ [] 64 p (bs.drop p)=.ok (x,p',bs.drop p')):p<p'∧p<bs.length:=by
 rw [← someLetters_chars] at h
 obtain ⟨e1,e2,e3⟩:=Pr.word _ _ _ _ _ h
 obtain ⟨h1,_,_⟩:=word_ok e3
 have h2:=spelt_ge x
 have h3:1≤x.length:=by cases x with | nil=>exact absurd rfl h1 | cons _ _=>simp
 refine ⟨by lia,?_⟩
 have:=congrArg List.length e1
 rw [List.length_append,List.length_drop,List.length_drop] at this
 lia
def sp_read_words_shown (K:PySem.W.Frag) (a:Ad):Sp:=fun vs H Q E=>∃ (r ta:Addr) (bs:List UInt8) (p f:Nat),vs=[.ref r]∧Rdr K a H r ta bs p∧bs.length<f∧bs.length≤8191 ∧
 (∀ c p' H' l,wS f p (bs.drop p)=.ok (c,p',bs.drop p')→c.length+p≤p'→c.length≤8191→CellA (fun z=>H z=none) H' c l→Kp [r] H H'→Rdr K a H' r ta bs p'→Q (.ref l) H') ∧
 ∀ H',(∃ i,wS f p (bs.drop p)=.error i)→E (.ref a.CE) none H'
abbrev s_read_words_shown:Stmt:=top 43
theorem sc_read_words_shown:FnScope ["reader","words"] ["reader"] (defScope s_read_words_shown):=⟨rfl,rfl,rfl,by decide +kernel,rfl,by decide +kernel,by decide +kernel⟩
theorem ok_read_words_shown {f:Addr}{fd:FuncData} (F:Fun K "read_words_shown" "read_words_shown" s_read_words_shown f fd) (T:Txt K mg a) (c_Reader_sees:MethC P w K mg base CX0 2 a.CR "sees" ["self","sign"] (sp_Reader_sees K a)) (c_Reader_take:MethC P w K mg base (CX1 P w a.CE) 3 a.CR "take" ["self","sign"] (sp_Reader_take K a)) (c_Reader_take_thing:MethC P w K mg base (CX1 P w a.CE) 4 a.CR "take_thing" ["self","most","marks"] (sp_Reader_take_thing K a)):FnOk P w K mg base (CX1 P w a.CE) 5 f fd ["reader"] (sp_read_words_shown K a):=by
 refine F.okE sc_read_words_shown (fun vs H Q E h=>?_) (fun cdv A outer s H vs Q E hr h=>?_)
 ·obtain ⟨r,ta,bs,p,f,rfl,⟨dx,hR,hS,hne⟩,hf,hb8,q1,q2⟩:=h
  rfl
 ·obtain ⟨r,ta,bs,p,f,rfl,⟨dx,hR,hS,hne⟩,hf,hb8,q1,q2⟩:=h
  have nd:=sc_read_words_shown.nd
  refine ⟨_,(pss_cons (ps_set (i:=1) nd rfl (Or.inl rfl) (pe_lst pa_nil)) (pss_cons (ps_while PassesOwn.leaving (PW.pt (pw_and (pt_not (pt_val (pe_methC (pv 0) T.clReader c_Reader_sees hr pass0 (pa_cons pe_str pa_nil)))) (pw_and1 (pt_not (pt_val (pe_methC (pv 0) T.clReader c_Reader_sees hr pass0 (pa_cons pe_str pa_nil))))))) (pss_one (ps_if (pt_val (pe_methC (pv 0) T.clReader c_Reader_sees hr pass0 (pa_cons pe_str pa_nil))) (pss_one (ps_expr (pe_methC (pv 0) T.clReader c_Reader_take hr passX (pa_cons pe_str pa_nil)))) (pss_one (ps_expr (pe_bm PySem.F.plainAttrs_list PySem.F.slot_list_append PySem.F.type_list_append mt_append (pv 1) (pa_cons (pe_methC (pv 0) T.clReader c_Reader_take_thing hr passX (pa_cons (pe_gint T.cMOST_LETTERS) (pa_cons (pe_tup pa_nil) pa_nil))) pa_nil))))))) (pss_one (ps_ret (pv 1))))),?_⟩
  walk_at "gs"
  have hR2:=hR
  have hR0:=hR
  have hS0:=hS
  walk_at "gr"
  refine ⟨by decide,fun l hl=>?_⟩
  walk_at "gr"
  have lr:l≠r:=fun z=>by rw [z,hR] at hl;cases hl
  have kl:Kp [r] H (upd H l (HO.lst [])):=Kp.new hl
  obtain ⟨W,hW⟩:∃ W:WT,W=fun m σ H'=>∃ (xs:List (List Nat)) (wa:List Addr) (p' k:Nat),σ=[some (.ref r),some (.ref l)]∧H' l=some (.lst (wa.map V.ref))∧Paired (fun x z=>(H z=none∧z≠l)∧H' z=some (.lst (lV x))) xs wa∧Rdr K a H' r ta bs p'∧Kp [r] H H'∧xs.length+p≤p'∧(xs=[]∨xs.length≤bs.length)∧bs.length-p' < k∧wS f p (bs.drop p)=preO xs (wS k p' (bs.drop p'))∧m=bs.length+1-p':=⟨_,rfl⟩
  refine ⟨W,⟨_,by
   rw [hW]
   exact ⟨[],[],p,f,rfl,upd_same,.nil,Rdr.move (dx:=dx) hS hne kl (by rw [upd_ne (Ne.symm lr)];exact hR),kl,by simp,.inl rfl,by lia,(preO_nil _).symm,rfl⟩⟩,fun m σ H2 hw=>?_⟩
  rw [hW] at hw
  obtain ⟨xs,wa,p2,k,rfl,hl2,hP2,⟨dx2,hR,hS,hne⟩,k2,hxp,hxl,hk,eq,rfl⟩:=hw
  have hR2:=hR
  have R2:Rdr K a H2 r ta bs p2:=⟨dx2,hR,hS,hne⟩
  obtain ⟨k',rfl⟩:∃ k',k=k'+1:=⟨k-1,by lia⟩
  have hwl:=Paired.length hP2
  have fin:(pk bs p2=124∨pk bs p2=10)→M { nx:=fun x H'=>Q V.non H',rt:=Q } [some (V.ref r),some (V.ref l)] H2:=fun h=>by
   rw [wS_end h] at eq
   refine hM _ _ _ ?_
   walk_at "gr"
   refine q1 xs p2 H2 l (by rw [eq];show Except.ok (xs++[],_,_)=_;rw [List.append_nil]) hxp (by rcases hxl with z | z;(rw [z];simp);lia) ⟨hl,wa,hl2,Paired.imp (fun x z e=>⟨e.1.1,e.2⟩) hP2⟩ k2 R2
  clear hM
  walk_at "gr"
  refine ⟨r,ta,bs,p2,_,124,rfl,R2,by decide,by decide,?_⟩
  walk_at "gr"
  by_cases h1:pk bs p2=124
  ·rw [if_neg (by simpa using h1),if_neg (by decide)]
   exact fin (.inl h1)
  rw [if_pos (by simpa using h1)]
  walk_at "gr"
  refine ⟨r,ta,bs,p2,_,10,rfl,R2,by decide,by decide,?_⟩
  walk_at "gr"
  by_cases h2:pk bs p2=10
  ·rw [if_neg (by simpa using h2)]
   exact fin (.inr h2)
  rw [if_pos (by simpa using h2)]
  refine ⟨fun σ' H'=>∃ m',m' < bs.length+1-p2∧W m' σ' H',fun _ _ z=>z,?_⟩
  walk_at "gr"
  refine ⟨r,ta,bs,p2,_,32,rfl,R2,by decide,by decide,?_⟩
  walk_at "gr"
  by_cases h3:pk bs p2=32
  ·rw [if_pos (by simpa using h3)]
   have hin:=pk_in (c:=32) h3
   walk_at "gr"
   refine ⟨r,ta,bs,p2,_,32,rfl,R2,by decide,by decide,fun _ p3 H3 e3 k3 R3=>?_,fun p3 H3 e3 R3=>?_⟩
   ·have ep:=bytes_at (c:=32) h3 e3
    subst ep
    walk_at "gr"
    refine ⟨bs.length+1-(p2+1),by lia,?_⟩
    rw [hW]
    have nr:∀ {z:Addr},H z=none→z ∉ [r]:=fun {z} hz mm=>by rw [List.mem_singleton.mp mm,hR0] at hz;cases hz
    exact ⟨xs,wa,p2+1,k',rfl,k3 _ _ hl2 (by simpa using lr),Paired.imp (fun x z e=>⟨e.1,k3 _ _ e.2 (nr e.1.1)⟩) hP2,R3,k2.trans k3,by lia,hxl,by lia,by rw [eq,wS_blank h3],rfl⟩
   ·rw [byte_ok (c:=32) h3] at e3;cases e3
  ·rw [if_neg (by simpa using h3)]
   walk_at "gr"
   refine ⟨.inl ⟨rfl,_,.inl (.inl hl2)⟩,?_⟩
   walk_at "gr"
   refine ⟨by decide,fun t ht=>?_⟩
   walk_at "gr"
   have tr:t≠r:=fun z=>by rw [z,hR] at ht;cases ht
   have kt:Kp [r] H2 (upd H2 t (HO.tup [])):=Kp.new ht
   have hR':upd H2 t (HO.tup []) r=some (HO.ins a.CR dx2 (rf ta (p2:Int))):=by rw [upd_ne (Ne.symm tr)];exact hR
   have R3:Rdr K a (upd H2 t (HO.tup [])) r ta bs p2:=Rdr.move (dx:=dx2) hS hne kt hR'
   have mk0:MkOk K (upd H2 t (HO.tup [])) r t []:=⟨fun H' k'=>.inl (.inl (k' _ _ upd_same (by simp [tr]))),fun c hc=>absurd hc (by simp)⟩
   refine ⟨r,t,ta,bs,[],p2,64,rfl,R3,mk0,by decide,by decide,fun x p4 H4 l4 e4 x2 x1 hl4 l4r k4 hx4 R4=>?_,fun p4 H4 e4 R4=>?_⟩
   ·obtain ⟨mv1,mv2⟩:=some_moves e4
    have k24:=kt.trans k4
    have nr:∀ {z:Addr},H z=none→z ∉ [r]:=fun {z} hz mm=>by rw [List.mem_singleton.mp mm,hR0] at hz;cases hz
    have hl24:=k24 _ _ hl2 (by simpa using lr)
    have hl4b:H2 l4=none:=kt.free (by simpa using l4r) hl4
    have l4l:l4≠l:=fun z=>by rw [z,hl2] at hl4b;cases hl4b
    walk_at "gr"
    refine ⟨_,hl24,?_,bs.length+1-p4,by lia,?_⟩
    ·rw [List.length_map,← hwl]
     exact Nat.lt_of_le_of_lt (show xs.length≤8191 by rcases hxl with z | z;(rw [z];simp);lia) (by decide)
    ·rw [hW]
     have k5:Kp [r] H (upd H4 l (HO.lst (wa.map V.ref++[V.ref l4]))):=(k2.trans k24).put2 (.inr hl)
     obtain ⟨dx4,a1,a2,a3⟩:=R4
     refine ⟨xs++[x],wa++[l4],p4,k',rfl,by rw [upd_same,List.map_append];rfl,Paired.snoc (Paired.imp (fun x z e=>⟨e.1,by rw [upd_ne e.1.2];exact k24 _ _ e.2 (nr e.1.1)⟩) hP2) ⟨⟨k2.free (by simpa using l4r) hl4b,l4l⟩,by rw [upd_ne l4l];exact hx4⟩,⟨dx4,by rw [upd_ne (Ne.symm lr)];exact a1,k5.seq (by simpa using a3) hS0,a3⟩,k5,by simp;lia,.inr (by simp;lia),by lia,?_,rfl⟩
     rw [eq,wS_word h1 h2 h3 e4,preO_pre]
   ·refine q2 H4 ?_
    rcases e4 with e4 | ⟨x,e4,hb,hc⟩
    ·exact ⟨_,by rw [eq,wS_no h1 h2 h3 e4];rfl⟩
    ·obtain ⟨mv1,mv2⟩:=some_moves e4
     obtain ⟨k'',rfl⟩:∃ k'',k'=k''+1:=⟨k' - 1,by lia⟩
     have h32:pk bs p4≠32:=fun z=>by unfold endsT at hb;rw [z] at hb;simp at hb
     have e5:VhPage.someChars_ [] 64 p4 (bs.drop p4)=.error p4:=some_nil (chars_no hc)
     exact ⟨_,by rw [eq,wS_word h1 h2 h3 e4,wS_no (ends_not hb).1 (ends_not hb).2 h32 e5];rfl⟩
end
section
variable {P:Program}{w:World}{K:PySem.W.Frag}{mg:Str→Option Value}{base:Heap}{a:Ad}
def pageS (n:Nat):Vh.Rd Unit:=Vh.andThen (Vh.byte_ 61) fun (_:Unit)=>Vh.andThen (Vh.num n n) fun (_:Nat)=>Vh.andThen (Vh.byte_ 10) fun (_:Unit)=>Vh.gives ()
def sp_read_page_number (K:PySem.W.Frag) (a:Ad):Sp:=fun vs H Q E=>∃ (r ta:Addr) (bs:List UInt8) (p n:Nat),vs=[.ref r,.int (n:Int)]∧Rdr K a H r ta bs p∧n<10 ^ 11 ∧
 (∀ p' H',pageS n p (bs.drop p)=.ok ((),p',bs.drop p')→Kp [r] H H'→Rdr K a H' r ta bs p'→Q .non H') ∧
 ∀ H',(∃ i,pageS n p (bs.drop p)=.error i)→E (.ref a.CE) none H'
abbrev s_read_page_number:Stmt:=top 45
theorem sc_read_page_number:FnScope ["reader","number"] ["reader","number"] (defScope s_read_page_number):=⟨rfl,rfl,rfl,by decide +kernel,rfl,by decide +kernel,by decide +kernel⟩
theorem ok_read_page_number {f:Addr}{fd:FuncData} (F:Fun K "read_page_number" "read_page_number" s_read_page_number f fd) (T:Txt K mg a) (c_Reader_take:MethC P w K mg base (CX1 P w a.CE) 3 a.CR "take" ["self","sign"] (sp_Reader_take K a)) (c_Reader_take_number:MethC P w K mg base (CX1 P w a.CE) 3 a.CR "take_number" ["self","low","high"] (sp_Reader_take_number K a)):FnOk P w K mg base (CX1 P w a.CE) 4 f fd ["reader","number"] (sp_read_page_number K a):=by
 refine F.okE sc_read_page_number (fun vs H Q E h=>?_) (fun cdv A outer s H vs Q E hr h=>?_)
 ·obtain ⟨r,ta,bs,p,n,rfl,⟨dx,hR,hS,hne⟩,hn,q1,q2⟩:=h
  rfl
 ·obtain ⟨r,ta,bs,p,n,rfl,⟨dx,hR,hS,hne⟩,hn,q1,q2⟩:=h
  have nd:=sc_read_page_number.nd
  refine ⟨_,(pss_cons (ps_expr (pe_methC (pv 0) T.clReader c_Reader_take hr passX (pa_cons pe_str pa_nil))) (pss_cons (ps_expr (pe_methC (pv 0) T.clReader c_Reader_take_number hr passX (pa_cons (pv 1) (pa_cons (pv 1) pa_nil)))) (pss_one (ps_expr (pe_methC (pv 0) T.clReader c_Reader_take hr passX (pa_cons pe_str pa_nil)))))),?_⟩
  walk_at "gs"
  have hR2:=hR
  have R:Rdr K a H r ta bs p:=⟨dx,hR,hS,hne⟩
  unfold pageS at q1 q2
  walk_at "gr"
  refine ⟨r,ta,bs,p,_,61,rfl,R,by decide,by decide,fun _ p1 H1 e1 k1 R1=>?_,fun p1 H1 e1 R1=>q2 _ ⟨_,then_no e1⟩⟩
  rw [then_ok e1] at q1 q2
  obtain ⟨dx1,hR,hS,hne⟩:=R1
  have hR2:=hR
  walk_at "gr"
  refine ⟨r,ta,bs,p1,n,n,rfl,⟨dx1,hR,hS,hne⟩,hn,fun x p4 H4 e4 _ _ k4 R4=>?_,fun p4 H4 e4 R4=>q2 _ ⟨_,num_bad e4 fun x hd=>byte_digit hd⟩⟩
  rw [then_ok e4] at q1 q2
  obtain ⟨dx4,hR,hS,hne⟩:=R4
  have hR2:=hR
  walk_at "gr"
  refine ⟨r,ta,bs,p4,_,10,rfl,⟨dx4,hR,hS,hne⟩,by decide,by decide,fun _ p5 H5 e5 k5 R5=>?_,fun p5 H5 e5 R5=>q2 _ ⟨_,then_no e5⟩⟩
  rw [then_ok e5] at q1
  walk_at "gr"
  exact q1 p5 H5 rfl ((k1.trans k4).trans k5) R5
end
section
variable {P:Program}{w:World}{K:PySem.W.Frag}{mg:Str→Option Value}{base:Heap}{a:Ad}
theorem jn_mem {s:Nat}{x:List Nat}:∀ {xs:List (List Nat)},x∈xs→x.length≤(jn s xs).length
 | [],h=>by simp at h
 | [y],h=>by rw [List.mem_singleton.mp h];exact Nat.le_refl _
 | y::z::r,h=>by
  show _≤(y++s::jn s (z::r)).length
  rw [List.length_append,List.length_cons]
  rcases List.mem_cons.mp h with e | e
  ·rw [e];lia
  ·have:=jn_mem (s:=s) e;lia
def sp_table_text (K:PySem.W.Frag) (a:Ad):Sp:=fun vs H Q _=>∃ (g dg e rw:Addr) (G:Hp) (ra:List Addr) (x:VhPage.Table),vs=[.ref g]∧TbAt a G H g dg e rw x.width x.height x.cols x.head ra x.rows∧Chs (rowsC x.rows)∧(rowsC x.rows).length≤4100000∧x.head.length≤8191∧(∀ r∈x.rows,r.length≤4) ∧
 ∀ H' p,H p=none→Kp [] H H'→H' p=some (.lst (bsV x.text))→Q (.ref p) H'
abbrev s_table_text:Stmt:=top 34
theorem sc_table_text:FnScope ["table","text","row","cell"] ["table"] (defScope s_table_text):=⟨rfl,rfl,rfl,by decide +kernel,rfl,by decide +kernel,by decide +kernel⟩
theorem bk_table_text_0:BlkOk ["table","text","row","cell"] (defScope s_table_text) (lcSc (exArg (exArg (stVal (stI (stBody (stI (defBody s_table_text) 1)) 1)) 0) 0)) [("cell",3)]:=⟨rfl,by decide +kernel,by decide +kernel,by decide +kernel,by decide +kernel⟩
theorem ok_table_text {f:Addr}{fd:FuncData} (F:Fun K "table_text" "table_text" s_table_text f fd) (T:Txt K mg a) (c_bytes_of:FnC P w K mg base CX0 2 "bytes_of" ["characters"] (sp_bytes_of K a)) (c_characters_of:FnC P w K mg base CX0 1 "characters_of" ["text"] (sp_characters_of K a)) (c_joined:FnC P w K mg base CX0 1 "joined" ["things","between"] (sp_joined K a)):FnOk P w K mg base CX0 3 f fd ["table"] (sp_table_text K a):=by
 refine F.ok sc_table_text (fun vs H Q E h=>?_) (fun cdv A outer s H vs Q E hr h=>?_)
 ·obtain ⟨g,dg,e,rw,G,ra,x,rfl,L,hch,hln,hhl,hr4,q⟩:=h
  rfl
 ·obtain ⟨g,dg,e,rw,G,ra,x,rfl,L,hch,hln,hhl,hr4,q⟩:=h
  have nd:=sc_table_text.nd
  refine ⟨_,(pss_cons (ps_set (i:=1) nd rfl (Or.inl rfl) (pe_lst pa_nil)) (pss_cons (ps_for PassesOwn.never rfl (pi_list (pe_fld (pv 0) rfl)) (pg_name (i:=2) nd rfl (Or.inl rfl)) (pss_cons (ps_expr (pe_bm PySem.F.plainAttrs_list PySem.F.slot_list_extend PySem.F.type_list_extend mt_extend (pv 1) (pa_cons (pe_callC c_characters_of hr pass0 (pa_cons pe_str pa_nil)) pa_nil))) (pss_cons (ps_expr (pe_bm PySem.F.plainAttrs_list PySem.F.slot_list_extend PySem.F.type_list_extend mt_extend (pv 1) (pa_cons (pe_callC c_joined hr pass0 (pa_cons (pe_lc rfl nd (pi_list (pv 2)) bk_table_text_0 (fun _ _ _ _ _=>(pg_name (i:=3) nd rfl (Or.inl rfl))) (fun _ _ _ _ _=>pts_nil) (fun _ _ _ _ _=>(pe_callC c_joined hr pass0 (pa_cons (pv 3) (pa_cons (pe_gint T.cBLANK) pa_nil))))) (pa_cons (pe_gint T.cSTROKE) pa_nil))) pa_nil))) (pss_one (ps_expr (pe_bm PySem.F.plainAttrs_list PySem.F.slot_list_extend PySem.F.type_list_extend mt_extend (pv 1) (pa_cons (pe_callC c_characters_of hr pass0 (pa_cons pe_str pa_nil)) pa_nil))))))) (pss_one (ps_ret (pe_op op_cat (pe_fld (pv 0) rfl) (pe_callC c_bytes_of hr pass0 (pa_cons (pv 1) pa_nil))))))),?_⟩
  have hz:sizeLine=16777216:=by decide
  have hra:=Paired.length L.rg
  walk_at "gs"
  walk_at "gr"
  refine ⟨(show 0≤sizeLine by decide),fun tx htx=>?_⟩
  walk_at "gr"
  have k1:Kp [] H (upd H tx (HO.lst [])):=Kp.new htx
  have ht1:upd H tx (HO.lst []) tx=some (.lst (lV (rowsC (x.rows.take 0)))):=upd_same
  generalize upd H tx (HO.lst [])=H1 at k1 ht1 ⊢
  have L1:=L.keep k1 (by simp)
  obtain ⟨Pv,hPv⟩:∃ Pv:WT,Pv=fun i σ H'=>∃ (o2:Option V),σ=[some (.ref g),some (.ref tx),o2,none]∧Kp [] H H'∧H' tx=some (.lst (lV (rowsC (x.rows.take i)))):=⟨_,rfl⟩
  refine g_forL ?_
  walk_at "gr"
  refine g_fld1 L1.hg T.clTable T.nT_rows (tf_rows _ _ _ _ _) ?_
  refine ⟨rw,rfl,⟨_,.inl (.inl L1.hw)⟩,for_list (xs:=ra.map V.ref) Pv ?_ ?_ ?_ ?_⟩
  ·rw [hPv]
   exact ⟨none,rfl,k1,ht1⟩
  ·intro i σ H' _ hw'
   rw [hPv] at hw'
   obtain ⟨_,rfl,k,_⟩:=hw'
   exact .inl (.inl (L.keep k (by simp)).hw)
  ·intro i v σ H2 hi hw'
   rw [hPv] at hw'
   obtain ⟨o2,rfl,k2,ht2⟩:=hw'
   rw [List.getElem?_map] at hi
   obtain ⟨qi,hqi,rfl⟩:∃ qi,ra[i]?=some qi∧V.ref qi=v:=by
    cases e':ra[i]? with
    | none=>rw [e'] at hi;cases hi
    | some z=>rw [e'] at hi;exact ⟨z,rfl,by simpa using hi⟩
   have L2:=L.keep k2 (by simp)
   obtain ⟨r,hr,hq0,ca,hqa,hPc⟩:=Paired.get L2.rg hqi
   have hrl:=hr4 r (List.mem_of_getElem? hr)
   have hcl:=Paired.length hPc
   have hle:=rowsC_take x.rows (i+1)
   rw [take_snoc' hr,rowsC_snoc,List.length_append] at hle
   have hrc:(rowC r).length=2+(jn 124 (r.map (jn 32))).length:=by unfold rowC;rw [List.length_cons,List.length_append];simp only [List.length_singleton];lia
   have hPi:Pv (i+1)=fun σ H'=>∃ (o2:Option V),σ=[some (.ref g),some (.ref tx),o2,none]∧Kp [] H H'∧H' tx=some (.lst (lV (rowsC (x.rows.take i)++rowC r))):=by rw [hPv];funext σ H';dsimp only;rw [take_snoc' hr,rowsC_snoc]
   rw [hPi]
   generalize rowsC (x.rows.take i)=A at ht2 hle ⊢
   have b1:(Str.ofString "=").cps.toList=[61]:=by decide
   have b2:(Str.ofString "\n").cps.toList=[10]:=by decide
   walk_at "gr"
   refine ⟨.inl ⟨rfl,_,.inl (.inl ht2)⟩,?_⟩
   walk_at "gr"
   refine ⟨_,rfl,by decide,fun H3 p3 hp3 k3 hl3=>?_⟩
   rw [b1] at hl3
   walk_at "gr"
   have ht3:=k3 _ _ ht2 (by simp)
   refine ⟨_,_,ht3,hl3,by rw [lV_len,lV_len];simp only [List.length_cons,List.length_nil];lia,?_⟩
   rw [lV_app]
   have k4:Kp [] H (upd H3 tx (HO.lst (lV (A++[61])))):=(k2.trans k3).put2 (.inr htx)
   have ht4:upd H3 tx (HO.lst (lV (A++[61]))) tx=some (.lst (lV (A++[61]))):=upd_same
   generalize upd H3 tx (HO.lst (lV (A++[61])))=H4 at k4 ht4 ⊢
   walk_at "gr"
   refine ⟨.inl ⟨rfl,_,.inl (.inl ht4)⟩,?_⟩
   walk_at "gr"
   refine g_lcL ?_
   walk_at "gr"
   have L4:=L.keep k4 (by simp)
   obtain ⟨r',hr',hq0',ca',hqa',hPc'⟩:=Paired.get L4.rg hqi
   rw [hr] at hr'
   cases hr'
   refine ⟨qi,rfl,⟨_,.inl (.inl hqa')⟩,fun D hD=>?_⟩
   obtain ⟨Pw,hPw⟩:∃ Pw:Nat→Hp→Prop,Pw=fun j H'=>Kp [] H4 H'∧∃ fa,H' D=some (.lst (fa.map V.ref))∧Paired (fun x p=>p≠D∧H' p=some (.lst (lV x))) ((r.take j).map (jn 32)) fa:=⟨_,rfl⟩
   have hcl':=Paired.length hPc'
   refine lc_list (xs:=ca'.map V.ref) Pw ?_ ?_ ?_ ?_
   ·rw [hPw]
    exact ⟨Kp.new hD,[],upd_same,.nil⟩
   ·intro j H' _ h
    rw [hPw] at h
    exact .inl (.inl (h.1 _ _ hqa' (by simp)))
   ·intro j v H5 hj h
    rw [hPw] at h
    obtain ⟨k5,fa,hD5,hP5⟩:=h
    rw [List.getElem?_map] at hj
    cases hz':ca'[j]? with
    | none=>rw [hz'] at hj;cases hj
    | some y =>
     rw [hz'] at hj
     cases hj
     obtain ⟨cl,hcl2,hy0,wa,hya,hPy⟩:=Paired.get hPc' hz'
     have hmem:jn 32 cl∈r.map (jn 32):=List.mem_map.mpr ⟨cl,List.mem_of_getElem? hcl2,rfl⟩
     have hjl:=jn_mem (s:=124) hmem
     have hfl:=Paired.length hP5
     rw [List.length_map,List.length_take] at hfl
     refine ⟨rfl,?_⟩
     simp only [tYes]
     rw [if_pos trivial]
     walk_at "gr"
     refine ⟨_,rfl,?_⟩
     walk_at "gr"
     refine ⟨y,_,cl,32,rfl,k5 _ _ hya (by simp),?_,by rw [joinL_jn];lia,fun H6 p6 hp6 k6 hl6=>?_⟩
     ·refine paired_of_get (by rw [List.length_map];exact Paired.length hPy) fun i' x' y' hx' hy'=>?_
      rw [List.getElem?_map] at hy'
      cases e':wa[i']? with
      | none=>rw [e'] at hy';cases hy'
      | some u =>
       rw [e'] at hy'
       cases hy'
       obtain ⟨x2,hx2,hu⟩:=Paired.get hPy e'
       rw [hx'] at hx2
       cases hx2
       exact ⟨u,rfl,k5 _ _ hu.2 (by simp)⟩
     rw [joinL_jn] at hl6
     have hD6:=k6 _ _ hD5 (by simp)
     have p6D:p6≠D:=fun e'=>by rw [e',hD5] at hp6;cases hp6
     refine ⟨_,hD6,by rw [List.length_map];lia,?_⟩
     rw [hPw]
     refine ⟨(k5.trans k6).put2 (.inr hD),fa++[p6],by rw [upd_same,List.map_append];rfl,?_⟩
     rw [take_snoc' hcl2,List.map_append]
     exact Paired.snoc (Paired.imp (fun x p e'=>⟨e'.1,by rw [upd_ne e'.1];exact k6 _ _ e'.2 (by simp)⟩) hP5) ⟨p6D,by rw [upd_ne p6D];exact hl6⟩
   ·intro H5 h
    rw [hPw] at h
    obtain ⟨k5,fa,hD5,hP5⟩:=h
    rw [List.length_map,← hcl',List.take_of_length_le (Nat.le_refl _)] at hP5
    walk_at "gr"
    refine ⟨D,_,r.map (jn 32),124,rfl,hD5,?_,by rw [joinL_jn];lia,fun H6 p6 hp6 k6 hl6=>?_⟩
    ·refine paired_of_get ((Paired.length hP5).trans (List.length_map ..).symm) fun i' x' y' hx' hy'=>?_
     rw [List.getElem?_map] at hy'
     cases e':fa[i']? with
     | none=>rw [e'] at hy';cases hy'
     | some u =>
      rw [e'] at hy'
      cases hy'
      obtain ⟨x2,hx2,hu⟩:=Paired.get hP5 e'
      rw [hx'] at hx2
      cases hx2
      exact ⟨u,rfl,hu.2⟩
    rw [joinL_jn] at hl6
    walk_at "gr"
    have ht6:=k6 _ _ (k5 _ _ ht4 (by simp)) (by simp)
    refine ⟨_,_,ht6,hl6,by rw [lV_len,lV_len,List.length_append];simp only [List.length_singleton];lia,?_⟩
    rw [lV_app]
    have k7:Kp [] H (upd H6 tx (HO.lst (lV (A++[61]++jn 124 (r.map (jn 32)))))):=((k4.trans k5).trans k6).put2 (.inr htx)
    have ht7:upd H6 tx (HO.lst (lV (A++[61]++jn 124 (r.map (jn 32))))) tx=some (.lst (lV (A++[61]++jn 124 (r.map (jn 32))))):=upd_same
    generalize upd H6 tx (HO.lst (lV (A++[61]++jn 124 (r.map (jn 32)))))=H7 at k7 ht7 ⊢
    walk_at "gr"
    refine ⟨.inl ⟨rfl,_,.inl (.inl ht7)⟩,?_⟩
    walk_at "gr"
    refine ⟨_,rfl,by decide,fun H8 p8 hp8 k8 hl8=>?_⟩
    rw [b2] at hl8
    walk_at "gr"
    have ht8:=k8 _ _ ht7 (by simp)
    refine ⟨_,_,ht8,hl8,by rw [lV_len,lV_len,List.length_append,List.length_append];simp only [List.length_cons,List.length_nil];lia,?_⟩
    rw [lV_app]
    walk_at "gr"
    refine ⟨some (.ref qi),rfl,(k7.trans k8).put2 (.inr htx),?_⟩
    rw [upd_same]
    unfold rowC
    simp
  ·intro σ H2 hw'
   rw [hPv] at hw'
   obtain ⟨o2,rfl,k2,ht2⟩:=hw'
   rw [List.length_map,← hra,List.take_of_length_le (Nat.le_refl _)] at ht2
   have L2:=L.keep k2 (by simp)
   refine hM _ _ _ ?_
   walk_at "gr"
   refine g_fld1 L2.hg T.clTable T.nT_head (tf_head _ _ _ _ _) ?_
   walk_at "gr"
   refine ⟨tx,rowsC x.rows,rfl,ht2,hch,by lia,fun H3 p3 hp3 k3 hl3=>?_⟩
   walk_at "gr"
   have L3:=L2.keep k3 (by simp)
   have hsl:=spelt_len (rowsC x.rows)
   refine ⟨e,p3,_,_,rfl,rfl,L3.hh,hl3,by rw [bsV_len,bsV_len];lia,fun p4 hp4=>?_⟩
   walk_at "gr"
   have kA:=k2.trans k3
   refine q _ p4 (kA.free (by simp) hp4) (kA.trans (Kp.new hp4)) ?_
   rw [upd_same,spelt_rowsC]
   unfold bsV
   rw [← List.map_append]
   rfl
end
section
variable {P:Program}{w:World}{K:PySem.W.Frag}{mg:Str→Option Value}{base:Heap}{a:Ad}
theorem CellA.keep2 {N M:Addr→Prop}{H H':Hp}{c:List (List Nat)}{q:Addr} (h:CellA N H c q) (k:∀ z o,N z→H z=some o→M z∧H' z=some o):CellA M H' c q:=by
 obtain ⟨h1,wa,h2,h3⟩:=h
 exact ⟨(k _ _ h1 h2).1,wa,(k _ _ h1 h2).2,Paired.imp (fun x p hp=>k _ _ hp.1 hp.2) h3⟩
theorem RowA.keep2 {N M:Addr→Prop}{H H':Hp}{r:List (List (List Nat))}{q:Addr} (h:RowA N H r q) (k:∀ z o,N z→H z=some o→M z∧H' z=some o):RowA M H' r q:=by
 obtain ⟨h1,ca,h2,h3⟩:=h
 exact ⟨(k _ _ h1 h2).1,ca,(k _ _ h1 h2).2,Paired.imp (fun x p hp=>hp.keep2 k) h3⟩
structure TbO (a:Ad) (G H:Hp) (g dx e rw:Addr) (wd ht m:Nat) (hb:List UInt8) (ra:List Addr) (q:Addr) (ca:List Addr) (rs:List (List (List (List Nat)))) (lr:List (List (List Nat))):Prop where
 hg:H g=some (.ins a.CT dx (tf wd ht m e rw))
 hh:H e=some (.lst (bsV hb))
 hw:H rw=some (.lst ((ra++[q]).map V.ref))
 rg:Paired (RowA (fun z=>(G z=none∧z≠rw)∧z ∉ ca) H) rs ra
 hq:H q=some (.lst (ca.map V.ref))
 nq:(G q=none∧q≠rw)∧q ∉ ca
 nd:ca.Nodup
 cl:Paired (fun c z=>(G z=none∧z≠rw)∧∃ wa,H z=some (.lst (wa.map V.ref))∧Paired (fun x p=>((G p=none∧p≠rw)∧p ∉ ca)∧H p=some (.lst (lV x))) c wa) lr ca
 er:e≠rw∧e ∉ ca
 nw:G g=none∧G e=none∧G rw=none
variable {G H H':Hp}{g dx e rw q:Addr}{wd ht m:Nat}{hb:List UInt8}{ra ca:List Addr}{rs rows:List (List (List (List Nat)))}{lr:List (List (List Nat))}
theorem TbO.keep (L:TbO a G H g dx e rw wd ht m hb ra q ca rs lr) {S:List Addr} (k:Kp S H H') (hs:∀ z∈S,∃ o,G z=some o):TbO a G H' g dx e rw wd ht m hb ra q ca rs lr :=
 ⟨keepF k hs L.nw.1 L.hg,keepF k hs L.nw.2.1 L.hh,keepF k hs L.nw.2.2 L.hw,Paired.imp (fun x z hz=>hz.keep (fun _ y=>y) fun z o y e=>keepF k hs y.1.1 e) L.rg,keepF k hs L.nq.1.1 L.hq,L.nq,L.nd,Paired.imp (fun c z ⟨h1,wa,h2,h3⟩=>⟨h1,wa,keepF k hs h1.1 h2,Paired.imp (fun x p hp=>⟨hp.1,keepF k hs hp.1.1.1 hp.2⟩) h3⟩) L.cl,L.er,L.nw⟩
theorem TbO.shut (L:TbO a G H g dx e rw wd ht m hb ra q ca rs lr):TbAt a G H g dx e rw wd ht m hb (ra++[q]) (rs++[lr]) :=
 ⟨L.hg,L.hh,L.hw,Paired.snoc (Paired.imp (fun x z hz=>hz.keep (fun _ y=>y.1) fun z o _ e=>e) L.rg) ⟨L.nq.1,ca,L.hq,Paired.imp (fun c z ⟨h1,wa,h2,h3⟩=>⟨h1,wa,h2,Paired.imp (fun x p hp=>⟨hp.1.1,hp.2⟩) h3⟩) L.cl⟩,L.er.1,L.nw⟩
theorem TbO.put {H4:Hp}{i:Nat}{z r:Addr}{x d:List (List Nat)}{wa wb:List Addr} (L:TbO a G H g dx e rw wd ht m hb ra q ca rs lr) (kG:Kp [r] G H) (hr:∃ o,G r=some o) (hrH:∃ o,H r=some o) (k:Kp [r] H H4) (hz:ca[i]?=some z) (hx:lr[i]?=some x)
  (hwz:H z=some (.lst (wa.map V.ref))) (hPw:Paired (fun x p=>((G p=none∧p≠rw)∧p ∉ ca)∧H p=some (.lst (lV x))) x wa) (hP:Paired (fun x p=>H p=none∧H4 p=some (.lst (lV x))) d wb):TbO a G (upd H4 z (.lst (wa.map V.ref++wb.map V.ref))) g dx e rw wd ht m hb ra q ca rs (lr.set i (x++d)):=by
 have hs:∀ z∈[r],∃ o,G z=some o:=fun z hz=>by rw [List.mem_singleton.mp hz];exact hr
 have L4:=L.keep k hs
 have hzm:z∈ca:=List.mem_of_getElem? hz
 obtain ⟨_,_,hz0,_⟩:=Paired.get L.cl hz
 have hz4:H4 z=some (.lst (wa.map V.ref)):=keepF k hs hz0.1 hwz
 have gz:g≠z:=ne_of L4.hg hz4 (by intro y;cases y)
 have nz:∀ {b:Addr},b ∉ ca→b≠z:=fun {b} hb y=>hb (by rw [y];exact hzm)
 have hca:∀ b∈ca,∃ o,H b=some o:=fun b hb=>by
  obtain ⟨j,hj⟩:=List.getElem?_of_mem hb
  obtain ⟨_,_,_,_,h2,_⟩:=Paired.get L.cl hj
  exact ⟨_,h2⟩
 have new:∀ {b:Addr},H b=none→(G b=none∧b≠rw)∧b ∉ ca:=fun {b} hb=>by
  refine ⟨⟨kG.free (fun y=>?_) hb,fun y=>?_⟩,fun y=>?_⟩
  ·obtain ⟨o,ho⟩:=hrH
   rw [List.mem_singleton.mp y,ho] at hb;cases hb
  ·rw [y,L.hw] at hb;cases hb
  ·obtain ⟨o,ho⟩:=hca b y
   rw [ho] at hb;cases hb
 refine ⟨by rw [upd_ne gz];exact L4.hg,by rw [upd_ne (nz L.er.2)];exact L4.hh,by rw [upd_ne (Ne.symm hz0.2)];exact L4.hw,Paired.imp (fun x b hb=>hb.keep (fun _ y=>y) fun b o y e=>by rw [upd_ne (nz y.2)];exact e) L4.rg,by rw [upd_ne (nz L.nq.2)];exact L4.hq,L.nq,L.nd,?_,L.er,L.nw⟩
 refine paired_of_get (by rw [List.length_set];exact Paired.length L.cl) fun j c y hc hy=>?_
 by_cases hj:j=i
 ·subst hj
  rw [hz] at hy
  cases hy
  have hlt:=(List.getElem?_eq_some_iff.mp hx).1
  rw [List.getElem?_set_self hlt] at hc
  cases hc
  refine ⟨hz0,wa++wb,by rw [upd_same,List.map_append],Paired.app (Paired.imp (fun x p hp=>⟨hp.1,by rw [upd_ne (nz hp.1.2)];exact keepF k hs hp.1.1.1 hp.2⟩) hPw) (Paired.imp (fun x p hp=>?_) hP)⟩
  have n:=new hp.1
  exact ⟨n,by rw [upd_ne (nz n.2)];exact hp.2⟩
 ·rw [List.getElem?_set_ne (Ne.symm hj)] at hc
  obtain ⟨c',hc',h1,wa',h2,h3⟩:=Paired.get L4.cl hy
  rw [hc] at hc'
  cases hc'
  have yz:y≠z:=fun e=>by
   rw [e] at hy
   have hlt:=(List.getElem?_eq_some_iff.mp hy).1
   exact hj ((List.getElem?_inj hlt L.nd).mp (hy.trans hz.symm))
  exact ⟨h1,wa',by rw [upd_ne yz];exact h2,Paired.imp (fun x p hp=>⟨hp.1,by rw [upd_ne (nz hp.1.2)];exact hp.2⟩) h3⟩
theorem TbO.new {H5:Hp}{r D:Addr} (L:TbAt a G H g dx e rw wd ht m hb ra rows) (kG:Kp [r] G H) (hrH:∃ o,H r=some o) (k:Kp [] H H5) (hD:H D=none) (hD5:H5 D=some (.lst (ca.map V.ref))) (hc:∀ z∈ca,(H z=none∧z≠D)∧H5 z=some (.lst [])) (nd:ca.Nodup) (hl:ca.length=m) :
  TbO a G (upd H5 rw (.lst (ra.map V.ref++[V.ref D]))) g dx e rw wd ht m hb ra D ca rows (List.replicate m []):=by
 have L5:=L.keep k (by simp)
 have free:∀ {b:Addr},H b=none→G b=none∧b≠rw:=fun {b} hb=>by
  refine ⟨kG.free (fun y=>?_) hb,fun y=>?_⟩
  ·obtain ⟨o,ho⟩:=hrH
   rw [List.mem_singleton.mp y,ho] at hb;cases hb
  ·rw [y,L.hw] at hb;cases hb
 have out:∀ {b:Addr}{o:HO},H b=some o→b ∉ ca:=fun {b o} hb y=>by
  rw [(hc b y).1.1] at hb;cases hb
 have grw:g≠rw:=ne_of L.hg L.hw (by intro y;cases y)
 refine ⟨by rw [upd_ne grw];exact L5.hg,by rw [upd_ne L.er];exact L5.hh,by rw [upd_same,List.map_append];rfl,Paired.imp (fun x b hb=>hb.keep2 fun b o y e=>⟨⟨y,out e⟩,by rw [upd_ne y.2];exact k _ _ e (by simp)⟩) L.rg,by rw [upd_ne (free hD).2];exact hD5,⟨free hD,fun y=>(hc D y).1.2 rfl⟩,nd,?_,⟨L.er,out L.hh⟩,L.nw⟩
 refine paired_of_get (by rw [List.length_replicate,hl]) fun j c y hcj hy=>?_
 have e0:c=[]:=List.eq_of_mem_replicate (List.mem_of_getElem? hcj)
 subst e0
 have hy':=hc y (List.mem_of_getElem? hy)
 exact ⟨free hy'.1.1,[],by rw [upd_ne (free hy'.1.1).2];exact hy'.2,.nil⟩
def Opn (a:Ad) (G H:Hp) (g dx e rw:Addr) (wd ht m:Nat) (hb:List UInt8) (rows:List (List (List (List Nat)))):Prop :=
 (rows=[]∧TbAt a G H g dx e rw wd ht m hb [] [])∨∃ ra q ca rs lr,rows=rs++[lr]∧TbO a G H g dx e rw wd ht m hb ra q ca rs lr
theorem Opn.shut (L:Opn a G H g dx e rw wd ht m hb rows):∃ ra,TbAt a G H g dx e rw wd ht m hb ra rows:=by
 rcases L with ⟨rfl,L⟩ | ⟨ra,q,ca,rs,lr,rfl,L⟩
 ·exact ⟨_,L⟩
 ·exact ⟨_,L.shut⟩
theorem Opn.keep (L:Opn a G H g dx e rw wd ht m hb rows) {S:List Addr} (k:Kp S H H') (hs:∀ z∈S,∃ o,G z=some o):Opn a G H' g dx e rw wd ht m hb rows:=by
 rcases L with ⟨rfl,L⟩ | ⟨ra,q,ca,rs,lr,rfl,L⟩
 ·exact .inl ⟨rfl,L.keep k hs⟩
 ·exact .inr ⟨ra,q,ca,rs,lr,rfl,L.keep k hs⟩
theorem byte_pos {c:UInt8}{bs:List UInt8}{p p':Nat}{x:Unit}{b':List UInt8} (h:Vh.byte_ c p (bs.drop p)=.ok (x,p',b')):p'=p+1∧pk bs p=c.toNat:=by
 by_cases z:pk bs p=c.toNat
 ·rw [byte_ok z] at h
  injection h with h;injection h with _ h;injection h with h _
  exact ⟨h.symm,z⟩
 ·rw [byte_no z] at h;cases h
def Few (m p:Nat) (rows:List (List (List (List Nat)))):Prop:=rows.length≤p∧∀ x∈rows,x.length=m∧∀ c∈x,c.length≤p
def sp_read_line_shown (K:PySem.W.Frag) (a:Ad):Sp:=fun vs H Q E=>∃ (r ta g dg e rw:Addr) (G:Hp) (bs hb:List UInt8) (p f wd ht m:Nat) (rows:List (List (List (List Nat)))),vs=[.ref r,.ref g]∧Rdr K a H r ta bs p∧SqL K G ta (bsV bs)∧(∃ o,G r=some o)∧Kp [r] G H∧Opn a G H g dg e rw wd ht m hb rows∧Few m p rows∧(1≤m∧m≤4)∧bs.length<f∧bs.length≤8191∧p<bs.length ∧
 (∀ rows' p' H',lineO f m rows p bs=.ok (rows',p',bs.drop p')→Kp [r] G H'→Rdr K a H' r ta bs p'→Opn a G H' g dg e rw wd ht m hb rows'→Few m p' rows'→p<p'→Q .non H') ∧
 ∀ H',(∃ i,lineO f m rows p bs=.error i)→E (.ref a.CE) none H'
abbrev s_read_line_shown:Stmt:=top 44
theorem sc_read_line_shown:FnScope ["reader","table","rows","k","row"] ["reader","table"] (defScope s_read_line_shown):=⟨rfl,rfl,rfl,by decide +kernel,rfl,by decide +kernel,by decide +kernel⟩
theorem bk_read_line_shown_0:BlkOk ["reader","table","rows","k","row"] (defScope s_read_line_shown) (lcSc (exArg (stVal (stI (stBody (stI (defBody s_read_line_shown) 1)) 1)) 0)) [("k",3)]:=⟨rfl,by decide +kernel,by decide +kernel,by decide +kernel,by decide +kernel⟩
theorem ok_read_line_shown {f:Addr}{fd:FuncData} (F:Fun K "read_line_shown" "read_line_shown" s_read_line_shown f fd) (T:Txt K mg a) (c_Reader_sees:MethC P w K mg base CX0 2 a.CR "sees" ["self","sign"] (sp_Reader_sees K a)) (c_Reader_take:MethC P w K mg base (CX1 P w a.CE) 3 a.CR "take" ["self","sign"] (sp_Reader_take K a)) (c_read_words_shown:FnC P w K mg base (CX1 P w a.CE) 5 "read_words_shown" ["reader"] (sp_read_words_shown K a)):FnOk P w K mg base (CX1 P w a.CE) 6 f fd ["reader","table"] (sp_read_line_shown K a):=by
 refine F.okE sc_read_line_shown (fun vs H Q E h=>?_) (fun cdv A outer s H vs Q E hr h=>?_)
 ·obtain ⟨r,ta,g,dg,e,rw,G,bs,hb,p,f,wd,ht,m,rows,rfl,⟨dx,hR,hS,hne⟩,hSG,hrG,kG,L,hF,hm,hf,hb8,hpl,q1,q2⟩:=h
  rfl
 ·obtain ⟨r,ta,g,dg,e,rw,G,bs,hb,p,f,wd,ht,m,rows,rfl,⟨dx,hR,hS,hne⟩,hSG,hrG,kG,L,hF,hm,hf,hb8,hpl,q1,q2⟩:=h
  have nd:=sc_read_line_shown.nd
  refine ⟨_,(pss_cons (ps_set (i:=2) nd rfl (Or.inl rfl) (pe_fld (pv 1) rfl)) (pss_cons (ps_if (pt_val (pe_methC (pv 0) T.clReader c_Reader_sees hr pass0 (pa_cons pe_str pa_nil))) (pss_cons (ps_expr (pe_methC (pv 0) T.clReader c_Reader_take hr passX (pa_cons pe_str pa_nil))) (pss_one (ps_expr (pe_bm PySem.F.plainAttrs_list PySem.F.slot_list_append PySem.F.type_list_append mt_append (pv 2) (pa_cons (pe_lc rfl nd (pi_range1 rfl T.range (pa_cons (pe_fld (pv 1) rfl) pa_nil)) bk_read_line_shown_0 (fun _ _ _ _ _=>(pg_name (i:=3) nd rfl (Or.inl rfl))) (fun _ _ _ _ _=>pts_nil) (fun _ _ _ _ _=>(pe_lst pa_nil))) pa_nil))))) (pss_one (ps_expr (pe_methC (pv 0) T.clReader c_Reader_take hr passX (pa_cons pe_str pa_nil))))) (pss_cons (ps_if (pt_cmpR op_eq (pe_callB call_len_seq rfl T.len PySem.boot_len (pa_cons (pv 2) pa_nil)) pe_int (nomark _)) (pss_one (ps_raise T.exc rfl (pa_cons pe_str pa_nil))) pss_nil) (pss_cons (ps_set (i:=4) nd rfl (Or.inl rfl) (pe_ix ix_list (pv 2) (pe_un un_neg pe_int) (fun _ _=>rfl))) (pss_cons (ps_for PassesOwn.leaving rfl (pi_range1 rfl T.range (pa_cons (pe_fld (pv 1) rfl) pa_nil)) (pg_name (i:=3) nd rfl (Or.inl rfl)) (pss_cons (ps_if (pt_cmpR op_gt (pv 3) pe_int (nomark _)) (pss_one (ps_expr (pe_methC (pv 0) T.clReader c_Reader_take hr passX (pa_cons pe_str pa_nil)))) pss_nil) (pss_one (ps_expr (pe_bm PySem.F.plainAttrs_list PySem.F.slot_list_extend PySem.F.type_list_extend mt_extend (pe_ix ix_list (pv 4) (pv 3) (fun _ _=>rfl)) (pa_cons (pe_callC c_read_words_shown hr passX (pa_cons (pv 0) pa_nil)) pa_nil)))))) (pss_one (ps_expr (pe_methC (pv 0) T.clReader c_Reader_take hr passX (pa_cons pe_str pa_nil))))))))),?_⟩
  walk_at "gs"
  have hR2:=hR
  have hR0:=hR
  have R:Rdr K a H r ta bs p:=⟨dx,hR,hS,hne⟩
  have hs:∀ z∈[r],∃ o,G z=some o:=fun z hz=>by rw [List.mem_singleton.mp hz];exact hrG
  obtain ⟨ra0,L0⟩:=L.shut
  have hra0:=Paired.length L0.rg
  walk_at "gr"
  refine g_fld1 L0.hg T.clTable T.nT_rows (tf_rows _ _ _ _ _) ?_
  walk_at "gr"
  refine ⟨r,ta,bs,p,_,62,rfl,R,by decide,by decide,?_⟩
  walk_at "gr"
  have rest:∀ (ra:List Addr) (q:Addr) (ca:List Addr) (rs:List (List (List (List Nat)))) (lr:List (List (List Nat))) (H1:Hp),TbO a G H1 g dg e rw wd ht m hb ra q ca rs lr→Rdr K a H1 r ta bs (p+1)→Kp [r] G H1→lr.length=m→(∀ c∈lr,c.length≤p)→rs.length≤p→(∀ x∈rs,x.length=m∧∀ c∈x,c.length≤p) →
    (∀ cells p',lineS f m (p+1) (bs.drop (p+1))=.ok (cells,p',bs.drop p')→cells.length=m→lineO f m rows p bs=.ok (rs++[zapp lr cells],p',bs.drop p'))→(∀ i,lineS f m (p+1) (bs.drop (p+1))=.error i→lineO f m rows p bs=.error i) →
    M { nx:=fun x H'=>Q V.non H',rt:=Q } [some (V.ref r),some (V.ref g),some (V.ref rw),none,none] H1:=fun ra q ca rs lr H1 L1 R1 k1 hlm hlp hrp hrF hok hno=>by
   obtain ⟨dx1,hR,hS,hne⟩:=R1
   have hR2:=hR
   have hcal:=Paired.length L1.cl
   refine hM _ _ _ ?_
   clear hM
   walk_at "gr"
   refine ⟨_,.inl (.inl (.inl L1.hw)),?_⟩
   walk_at "gr"
   rw [List.length_map,List.length_append,List.length_singleton,if_neg (by lia)]
   walk_at "gr"
   refine g_un ?_
   walk_at "gr"
   refine g_rU ?_
   walk_at "gr"
   refine ⟨_,.inl (.inl L1.hw),_,by rw [List.map_append];exact at_last _ _,?_⟩
   walk_at "gr"
   obtain ⟨X,hX⟩:∃ X,X=lineS f m (p+1) (bs.drop (p+1)):=⟨_,rfl⟩
   rw [← hX] at hok hno
   rw [lineS_eq] at hX
   obtain ⟨Pv,hPv⟩:∃ Pv:WT,Pv=fun i σ H'=>∃ (c:List (List (List Nat))) (p':Nat) (o3:Option V),σ=[some (.ref r),some (.ref g),some (.ref rw),o3,some (.ref q)]∧c.length=i∧TbO a G H' g dg e rw wd ht m hb ra q ca rs (zapp lr c)∧Rdr K a H' r ta bs p'∧Kp [r] G H'∧p+1≤p'∧(∀ d∈zapp lr c,d.length≤p')∧(i=0→c=[]∧p'=p+1)∧(0<i→X=tailS f c (m-i) p' (bs.drop p')):=⟨_,rfl⟩
   refine ⟨_,rfl,g,a.CT,dg,_,_,rfl,L1.hg,T.clTable,T.nT_cell_count,tf_cell_count _ _ _ _ _,(m:Int),rfl,by lia,by lia,for_range (n:=m) Pv ?_ ?_ ?_⟩
   ·rw [hPv]
    exact ⟨[],p+1,none,rfl,rfl,by rw [zapp_nil];exact L1,⟨dx1,hR,hS,hne⟩,k1,by lia,fun d hd=>by rw [zapp_nil] at hd;have:=hlp d hd;lia,fun _=>⟨rfl,rfl⟩,fun z=>absurd z (by decide)⟩
   ·intro i σ H2 hi hw
    rw [hPv] at hw
    obtain ⟨c,p2,o3,rfl,hcl,L2,⟨dx2,hR,hS,hne⟩,k2,hp2,hzp,hi0,hi1⟩:=hw
    have hR2:=hR
    have R2':Rdr K a H2 r ta bs p2:=⟨dx2,hR,hS,hne⟩
    walk_at "gr"
    have body:∀ (p3:Nat) (H3:Hp),p2≤p3→Rdr K a H3 r ta bs p3→Kp [r] H2 H3→X=(Vh.andThen (wS f) fun (d:List Vh.Letters)=>tailS f (c++[d]) (m-(i+1))) p3 (bs.drop p3) →
      ∀ N R B C2,(∀ σ H',Pv (i+1) σ H'→N σ H')→M ⟨N,R,B,C2⟩ [some (V.ref r),some (V.ref g),some (V.ref rw),some (V.int (0+(i:Int))),some (V.ref q)] H3:=fun p3 H3 hp23 R3 k3 e3 N RR B C2 hN=>by
     obtain ⟨dx3,hR,hS,hne⟩:=R3
     have hR2:=hR
     have L3:=L2.keep k3 hs
     have kG3:=k2.trans k3
     refine hM _ _ _ ?_
     clear hM
     walk_at "gr"
     have hic:i<ca.length:=by rw [← hcal,hlm];exact hi
     have e1:ca[i]?=some ca[i]:=List.getElem?_eq_getElem hic
     obtain ⟨x,hx,hz0,wa,hwz,hPw⟩:=Paired.get L3.cl e1
     have hxl:lr[i]?=some x:=by rw [← hx];exact (zapp_at (by lia) (by lia)).symm
     have hxp:=hlp x (List.mem_of_getElem? hxl)
     rw [Int.zero_add]
     refine ⟨_,.inl (.inl L3.hq),_,atI_nat (j:=i) (v:=V.ref ca[i]) (by rw [List.getElem?_map,e1];rfl),?_⟩
     walk_at "gr"
     refine ⟨.inl ⟨rfl,_,.inl (.inl hwz)⟩,?_⟩
     walk_at "gr"
     refine ⟨r,ta,bs,p3,f,rfl,⟨dx3,hR,hS,hne⟩,hf,hb8,fun d p4 H4 q4 e4 hdp hd8 hq k4 R4=>?_,fun H4 e4=>?_⟩
     ·rw [then_ok e4] at e3
      walk_at "gr"
      obtain ⟨hq0,wb,hqb,hPb⟩:=hq
      have hwl:=Paired.length hPw
      have hbl:=Paired.length hPb
      refine ⟨_,_,keepF k4 hs hz0.1 hwz,hqb,by rw [List.length_map,List.length_map,← hwl,← hbl];exact Nat.le_trans (show _≤16382 by lia) (by decide),?_⟩
      walk_at "gr"
      refine hN _ _ ?_
      rw [hPv]
      have L5:=L3.put kG3 hrG ⟨_,hR⟩ k4 e1 hx hwz hPw hPb
      have hz5:zapp lr (c++[d])=(zapp lr c).set i (x++d):=by rw [zapp_snoc (by rw [hcl];exact hxl),hcl]
      rw [← hz5] at L5
      have kG5:Kp [r] G (upd H4 ca[i] (HO.lst (wa.map V.ref++wb.map V.ref))):=(kG3.trans k4).put2 (.inr hz0.1)
      obtain ⟨dx4,a1,a2,a3⟩:=R4
      have rz:r≠ca[i]:=ne_of hR hwz (by intro y;cases y)
      refine ⟨c++[d],p4,_,rfl,by simp [hcl],L5,⟨dx4,by rw [upd_ne rz];exact a1,kG5.seq (by simpa using a3) hSG,a3⟩,kG5,by lia,fun y hy=>?_,fun z=>absurd z (by lia),fun _=>e3⟩
      rw [hz5] at hy
      rcases List.mem_or_eq_of_mem_set hy with y1 | y1
      ·have:=hzp y y1;lia
      ·rw [y1,List.length_append];lia
     ·obtain ⟨j,e4⟩:=e4
      rw [then_no e4] at e3
      exact q2 H4 ⟨_,hno _ e3⟩
    rw [Int.zero_add] at body ⊢
    by_cases h0:i=0
    ·obtain ⟨rfl,rfl⟩:=hi0 h0
     rw [if_neg (by lia)]
     refine body (p+1) H2 (Nat.le_refl _) R2' Kp.refl ?_ _ _ _ _ fun _ _ z=>z
     rw [hX,h0]
     rfl
    ·rw [if_pos (by lia)]
     have e2:=hi1 (by lia)
     have em:m-i=(m-(i+1))+1:=by lia
     rw [em,tailS_step] at e2
     clear hM
     walk_at "gr"
     refine ⟨r,ta,bs,p2,_,124,rfl,R2',by decide,by decide,fun _ p3 H3 e3 k3 R3=>?_,fun p3 H3 e3 R3=>q2 _ ⟨_,hno _ (by rw [e2];exact then_no e3)⟩⟩
     have hp3:=(byte_pos e3).1
     rw [then_ok e3] at e2
     walk_at "gr"
     exact body p3 H3 (by lia) R3 k3 e2 _ _ _ _ fun _ _ z=>z
   ·intro σ H2 hw
    rw [hPv] at hw
    obtain ⟨c,p2,o3,rfl,hcl,L2,⟨dx2,hR,hS,hne⟩,k2,hp2,hzp,hi0,hi1⟩:=hw
    have hR2:=hR
    have e2:=hi1 (by lia)
    rw [Nat.sub_self,tailS_zero] at e2
    refine hM _ _ _ ?_
    walk_at "gr"
    refine ⟨r,ta,bs,p2,_,10,rfl,⟨dx2,hR,hS,hne⟩,by decide,by decide,fun _ p3 H3 e3 k3 R3=>?_,fun p3 H3 e3 R3=>q2 _ ⟨_,hno _ (by rw [e2];exact then_no e3)⟩⟩
    have hp3:=(byte_pos e3).1
    rw [then_ok e3] at e2
    walk_at "gr"
    have hzl:=zapp_len (l:=lr) (c:=c) (by lia)
    refine q1 (rs++[zapp lr c]) p3 H3 (hok c p3 e2 hcl) (k2.trans k3) R3 (.inr ⟨ra,q,ca,rs,zapp lr c,rfl,L2.keep k3 hs⟩) ⟨by simp;lia,fun x hx=>?_⟩ (by lia)
    rcases List.mem_append.mp hx with y | y
    ·exact ⟨(hrF x y).1,fun d hd=>by have:=(hrF x y).2 d hd;lia⟩
    ·rw [List.mem_singleton.mp y]
     exact ⟨by rw [hzl,hlm],fun d hd=>by have:=hzp d hd;lia⟩
  have bad:∀ (H1:Hp),H1 rw=some (.lst [])→(∃ i,lineO f m rows p bs=.error i)→M { nx:=fun x H'=>Q V.non H',rt:=Q } [some (V.ref r),some (V.ref g),some (V.ref rw),none,none] H1:=fun H1 hw he=>by
   refine hM _ _ _ ?_
   clear hM rest
   walk_at "gr"
   refine ⟨_,.inl (.inl (.inl hw)),?_⟩
   walk_at "gr"
   rw [List.length_nil,if_pos (by simp)]
   walk_at "gr"
   exact ⟨by decide,q2 H1 he⟩
  by_cases h62:pk bs p=62
  ·rw [if_pos (by simpa using h62)]
   clear hM
   walk_at "gr"
   refine ⟨r,ta,bs,p,_,62,rfl,R,by decide,by decide,fun _ p1 H1 e1 k1 R1=>?_,fun p1 H1 e1 R1=>?_⟩
   ·have hp1:=(byte_pos e1).1
    subst hp1
    obtain ⟨dx1,hR,hS,hne⟩:=R1
    have hR2:=hR
    have L1:=L0.keep k1 hs
    walk_at "gr"
    refine ⟨.inl ⟨rfl,_,.inl (.inl L1.hw)⟩,?_⟩
    walk_at "gr"
    refine ⟨_,rfl,g,a.CT,dg,_,_,rfl,L1.hg,T.clTable,T.nT_cell_count,tf_cell_count _ _ _ _ _,(m:Int),rfl,by lia,by lia,fun D hD=>?_⟩
    obtain ⟨Py,hPy⟩:∃ Py:Nat→Hp→Prop,Py=fun j H'=>Kp [] H1 H'∧∃ ca:List Addr,ca.length=j∧H' D=some (.lst (ca.map V.ref))∧(∀ z∈ca,(H1 z=none∧z≠D)∧H' z=some (.lst []))∧ca.Nodup:=⟨_,rfl⟩
    refine lc_range (n:=m) Py ?_ ?_ ?_
    ·rw [hPy]
     exact ⟨Kp.new hD,[],rfl,upd_same,fun z hz=>absurd hz (by simp),List.nodup_nil⟩
    ·intro i H5 hi h
     rw [hPy] at h
     obtain ⟨k5,ca,hcl,hD5,hc5,nd5⟩:=h
     refine ⟨rfl,?_⟩
     simp only [tYes]
     rw [if_pos trivial]
     walk_at "gr"
     refine ⟨(show 0≤sizeLine by decide),fun z hz=>?_⟩
     have zD:z≠D:=fun y=>by rw [y,hD5] at hz;cases hz
     refine ⟨_,by rw [upd_ne (Ne.symm zD)];exact hD5,by rw [List.length_map,hcl];exact Nat.lt_of_lt_of_le hi (Nat.le_trans hm.2 (by decide)),?_⟩
     rw [hPy]
     have zc:z ∉ ca:=fun y=>by rw [(hc5 z y).2] at hz;cases hz
     refine ⟨(k5.trans (Kp.new hz)).put2 (.inr hD),ca++[z],by simp [hcl],by rw [upd_same,List.map_append];rfl,fun y hy=>?_,?_⟩
     ·rcases List.mem_append.mp hy with y1 | y1
      ·have h:=hc5 y y1
       have yz:y≠z:=fun t=>zc (by rw [← t];exact y1)
       exact ⟨h.1,by rw [upd_ne h.1.2,upd_ne yz];exact h.2⟩
      ·rw [List.mem_singleton.mp y1]
       exact ⟨⟨k5.free (by simp) hz,zD⟩,by rw [upd_ne zD,upd_same]⟩
     ·exact List.nodup_append.mpr ⟨nd5,by simp,fun y hy t ht=>by rw [List.mem_singleton.mp ht];exact fun u=>zc (by rw [← u];exact hy)⟩
    ·intro H5 h
     rw [hPy] at h
     obtain ⟨k5,ca,hcl,hD5,hc5,nd5⟩:=h
     have L5:=L1.keep k5 (by simp)
     walk_at "gr"
     refine ⟨_,L5.hw,by rw [List.length_map,← hra0];exact Nat.lt_of_le_of_lt (show rows.length≤8191 by have:=hF.1;lia) (by decide),?_⟩
     walk_at "gr"
     have kG1:=kG.trans k1
     have L6:=TbO.new L1 kG1 ⟨_,hR⟩ k5 hD hD5 hc5 nd5 hcl
     have k6:Kp [r] G (upd H5 rw (HO.lst (ra0.map V.ref++[V.ref D]))):=(kG1.trans (k5.mono (by simp))).put2 (.inr L1.nw.2.2)
     have rrw:r≠rw:=ne_of hR L1.hw (by intro y;cases y)
     refine rest ra0 D ca rows (List.replicate m []) _ L6 ⟨dx1,by rw [upd_ne rrw];exact k5 _ _ hR (by simp),k6.seq (by simpa using hne) hSG,hne⟩ k6 (by simp) (fun c hc=>by rw [List.eq_of_mem_replicate hc];simp) hF.1 hF.2 (fun cells p' hc hl=>?_) (fun i hi'=>?_)
     ·unfold lineO
      rw [if_pos h62,then_ok hc,zapp_rep hl]
      rfl
     ·unfold lineO
      rw [if_pos h62,then_no hi']
   ·rw [byte_ok (c:=62) h62] at e1;cases e1
  ·rw [if_neg (by simpa using h62)]
   clear hM
   walk_at "gr"
   refine ⟨r,ta,bs,p,_,32,rfl,R,by decide,by decide,fun _ p1 H1 e1 k1 R1=>?_,fun p1 H1 e1 R1=>?_⟩
   ·have hp1:=(byte_pos e1).1
    subst hp1
    rcases L with ⟨rfl,L⟩ | ⟨ra,q,ca,rs,lr,rfl,L⟩
    ·refine bad H1 (L.keep k1 hs).hw ⟨p+1,?_⟩
     unfold lineO
     rw [if_neg h62,then_ok e1,if_pos rfl]
     rfl
    ·have hl:=hF.2 lr (by simp)
     have hl1:=hF.1
     rw [List.length_append,List.length_singleton] at hl1
     refine rest ra q ca rs lr H1 (L.keep k1 hs) R1 (kG.trans k1) hl.1 hl.2 (by lia) (fun x hx=>hF.2 x (by simp [hx])) (fun cells p' hc hlc=>?_) (fun i hi'=>?_)
     ·unfold lineO
      rw [if_neg h62,then_ok e1,if_neg (by simp),then_ok hc,zapp_add (by rw [hlc,hl.1])]
      rfl
     ·unfold lineO
      rw [if_neg h62,then_ok e1,if_neg (by simp),then_no hi']
   ·refine q2 H1 ⟨p1,?_⟩
    unfold lineO
    rw [if_neg h62,then_no e1]
end
section
variable {P:Program}{w:World}{K:PySem.W.Frag}{mg:Str→Option Value}{base:Heap}{a:Ad}
theorem colsS_pageS {bs:List UInt8}{f m k n p:Nat}{rows:List (List (List Vh.Letters))} (h:pk bs p=61):colsS f m (k+1) n rows p (bs.drop p)=(Vh.andThen (pageS (n+1)) fun (_:Unit)=>colsS f m k (n+1) rows) p (bs.drop p):=by
 rw [colsS_page h]
 unfold pageS
 rw [then_assoc]
 congr 1;funext _
 rw [then_assoc]
 congr 1;funext _
 rw [then_assoc]
 congr 1
theorem pageS_moves {bs:List UInt8}{n p p':Nat} (h:pageS n p (bs.drop p)=.ok ((),p',bs.drop p')):p<p':=by
 unfold pageS at h
 obtain ⟨_,p1,b1,e1,h⟩:=then_inv h
 obtain ⟨x,p2,b2,e2,h⟩:=then_inv h
 obtain ⟨_,p3,b3,e3,h⟩:=then_inv h
 obtain ⟨_,h1,h2⟩:=ok_inj h
 have s1:=byte_inv e1
 have s3:=byte_inv e3
 obtain ⟨d1,_,_⟩:=Pr.num _ _ _ _ _ _ _ e2
 have s2:b1.length=(Vh.decimal x).length+b2.length:=by rw [d1,List.length_append]
 rw [h2,List.length_drop] at s3
 rw [List.length_drop] at s1
 lia
def sp_read_columns (K:PySem.W.Frag) (a:Ad):Sp:=fun vs H Q E=>∃ (r ta:Addr) (bs:List UInt8),vs=[.ref r]∧Rdr K a H r ta bs 0∧bs.length≤8191 ∧
 (∀ (x:VhPage.Table) g dg e rw ra H',colsP bs=.ok x→TbAt a H H' g dg e rw x.width x.height x.cols x.head ra x.rows→Kp [r] H H'→Q (.ref g) H') ∧
 ∀ i H',colsP bs=.error i→E (.ref a.CE) none H'
theorem colsP_ok {bs:List UInt8}{w h m p1 p':Nat}{l:List (List (List Vh.Letters))} (e:hdr [(8,120),(6,240),(2,4)] 0 bs=.ok ([w,h,m],p1,bs.drop p1)) (hl:colsS fuel m fuel 0 [] p1 (bs.drop p1)=.ok (l,p',bs.drop p')):colsP bs=.ok ⟨w,h,m,l⟩:=by
 unfold colsP Vh.readAll colsT_
 rw [then_ok e]
 have hl:colsS fuel ([w,h,m].getD 2 0) fuel 0 [] p1 (bs.drop p1)=.ok (l,p',bs.drop p'):=hl
 rw [then_ok hl]
 rfl
theorem colsP_no {bs:List UInt8}{w h m p1 i:Nat} (e:hdr [(8,120),(6,240),(2,4)] 0 bs=.ok ([w,h,m],p1,bs.drop p1)) (hl:colsS fuel m fuel 0 [] p1 (bs.drop p1)=.error i):colsP bs=.error i:=by
 unfold colsP Vh.readAll colsT_
 rw [then_ok e]
 have hl:colsS fuel ([w,h,m].getD 2 0) fuel 0 [] p1 (bs.drop p1)=.error i:=hl
 rw [then_no hl]
abbrev s_read_columns:Stmt:=top 46
theorem sc_read_columns:FnScope ["reader","table","number"] ["reader"] (defScope s_read_columns):=⟨rfl,rfl,rfl,by decide +kernel,rfl,by decide +kernel,by decide +kernel⟩
theorem ok_read_columns {f:Addr}{fd:FuncData} (F:Fun K "read_columns" "read_columns" s_read_columns f fd) (T:Txt K mg a) (c_read_head:FnC P w K mg base (CX1 P w a.CE) 5 "read_head" ["reader"] (sp_read_head K a)) (c_Reader_peek:MethC P w K mg base CX0 1 a.CR "peek" ["self"] (sp_Reader_peek K a)) (c_Reader_sees:MethC P w K mg base CX0 2 a.CR "sees" ["self","sign"] (sp_Reader_sees K a)) (c_read_page_number:FnC P w K mg base (CX1 P w a.CE) 4 "read_page_number" ["reader","number"] (sp_read_page_number K a)) (c_read_line_shown:FnC P w K mg base (CX1 P w a.CE) 6 "read_line_shown" ["reader","table"] (sp_read_line_shown K a)):FnOk P w K mg base (CX1 P w a.CE) 7 f fd ["reader"] (sp_read_columns K a):=by
 refine F.okE sc_read_columns (fun vs H Q E h=>?_) (fun cdv A outer s H vs Q E hr h=>?_)
 ·obtain ⟨r,ta,bs,rfl,⟨dx,hR,hS,hne⟩,hb8,q1,q2⟩:=h
  rfl
 ·obtain ⟨r,ta,bs,rfl,⟨dx,hR,hS,hne⟩,hb8,q1,q2⟩:=h
  have nd:=sc_read_columns.nd
  refine ⟨_,(pss_cons (ps_set (i:=1) nd rfl (Or.inl rfl) (pe_callC c_read_head hr passX (pa_cons (pv 0) pa_nil))) (pss_cons (ps_set (i:=2) nd rfl (Or.inl rfl) pe_int) (pss_cons (ps_while PassesOwn.leaving (pt_cmpR op_ne (pe_methC0 (pv 0) T.clReader c_Reader_peek hr pass0) (pe_gint T.cNO_BYTE) (nomark _)) (pss_one (ps_if (pt_val (pe_methC (pv 0) T.clReader c_Reader_sees hr pass0 (pa_cons pe_str pa_nil))) (pss_cons (ps_aug (i:=2) nd rfl (Or.inl rfl) pe_int ip_add) (pss_one (ps_expr (pe_callC c_read_page_number hr passX (pa_cons (pv 0) (pa_cons (pv 2) pa_nil)))))) (pss_one (ps_expr (pe_callC c_read_line_shown hr passX (pa_cons (pv 0) (pa_cons (pv 1) pa_nil)))))))) (pss_one (ps_ret (pv 1)))))),?_⟩
  walk_at "gs"
  have hR2:=hR
  have hR0:=hR
  have R:Rdr K a H r ta bs 0:=⟨dx,hR,hS,hne⟩
  have hS0:=hS
  have hs:∀ z∈[r],∃ o,H z=some o:=fun z hz=>by rw [List.mem_singleton.mp hz];exact ⟨_,hR0⟩
  obtain ⟨hok,her⟩:=table_head bs
  walk_at "gr"
  refine ⟨r,ta,bs,rfl,R,fun wd ht m g dg e rw p1 H1 e1 hg he hrw hn k1 R1=>?_,fun i H1 e1=>q2 i H1 (by unfold colsP Vh.readAll colsT_;rw [then_no e1])⟩
  obtain ⟨w',h',m',hxs,htk,hw8,hh6,hm2,htab⟩:=hok _ _ _ e1
  injection hxs with x1 hxs
  injection hxs with x2 hxs
  injection hxs with x3 hxs
  subst x1 x2 x3
  have L1:TbAt a H H1 g dg e rw wd ht m (VhPage.Table.mk wd ht m []).head [] []:=⟨hg,by rw [he,htk],hrw,.nil,hn.2.2.2,hn.1,hn.2.1,hn.2.2.1⟩
  clear htab her hok
  generalize hfu:fuel=fu
  have hfl:bs.length<fu:=by rw [← hfu];unfold fuel;lia
  have cok:=fun (l:List (List (List Vh.Letters))) (p':Nat)=>colsP_ok (p':=p') (l:=l) e1
  have cno:=fun (i:Nat)=>colsP_no (i:=i) e1
  rw [hfu] at cok cno
  obtain ⟨W,hW⟩:∃ W:WT,W=fun k σ H'=>∃ (l:List (List (List (List Nat)))) (p' n fk:Nat),σ=[some (.ref r),some (.ref g),some (.int (n:Int))]∧Opn a H H' g dg e rw wd ht m (VhPage.Table.mk wd ht m []).head l∧Rdr K a H' r ta bs p'∧Kp [r] H H'∧Few m p' l∧n≤p'∧bs.length-p' < fk ∧
   colsS fu m fu 0 [] p1 (bs.drop p1)=colsS fu m fk n l p' (bs.drop p')∧k=bs.length+1-p':=⟨_,rfl⟩
  walk_at "gr"
  refine ⟨W,⟨_,by rw [hW];exact ⟨[],p1,0,fu,rfl,.inl ⟨rfl,L1⟩,R1,k1,⟨by simp,fun x hx=>by simp at hx⟩,by lia,by lia,rfl,rfl⟩⟩,fun k σ H5 hw5=>?_⟩
  rw [hW] at hw5
  obtain ⟨l,p5,n,fk,rfl,L5,⟨dx5,hR,hS,hne⟩,k5,hF5,hn5,hfk,eq,rfl⟩:=hw5
  have hR2:=hR
  have R5:Rdr K a H5 r ta bs p5:=⟨dx5,hR,hS,hne⟩
  obtain ⟨k',rfl⟩:∃ k',fk=k'+1:=⟨fk-1,by lia⟩
  have fin:bs[p5]?=none→M { nx:=fun x H'=>Q V.non H',rt:=Q } [some (V.ref r),some (V.ref g),some (V.int (n:Int))] H5:=fun h=>by
   rw [colsS_end h] at eq
   obtain ⟨ra,L6⟩:=L5.shut
   refine hM _ _ _ ?_
   walk_at "gr"
   exact q1 ⟨wd,ht,m,l⟩ g dg e rw ra H5 (cok l p5 eq) L6 k5
  clear hM
  walk_at "gr"
  refine ⟨r,ta,bs,p5,rfl,R5,?_⟩
  walk_at "gr"
  by_cases h0:pk bs p5=256
  ·rw [h0]
   refine g_neI ?_
   walk_at "gr"
   rw [if_neg (by simp)]
   exact fin (pk_none.mp h0)
  ·have hin:bs[p5]?≠none:=fun z=>h0 (pk_none.mpr z)
   have hpl:p5<bs.length:=by
    rcases Nat.lt_or_ge p5 bs.length with z | z
    ·exact z
    ·exact absurd (List.getElem?_eq_none z) hin
   refine g_neI ?_
   walk_at "gr"
   rw [if_pos (by simpa using h0)]
   refine ⟨fun σ' H'=>∃ m',m' < bs.length+1-p5∧W m' σ' H',fun _ _ z=>z,?_⟩
   walk_at "gr"
   refine ⟨r,ta,bs,p5,_,61,rfl,R5,by decide,by decide,?_⟩
   walk_at "gr"
   by_cases h61:pk bs p5=61
   ·rw [if_pos (by simpa using h61)]
    rw [colsS_pageS h61] at eq
    walk_at "gr"
    refine ⟨r,ta,bs,p5,n+1,rfl,R5,by lia,fun p6 H6 e6 k6 R6=>?_,fun H6 e6=>?_⟩
    ·walk_at "gr"
     have hmv:=pageS_moves e6
     rw [then_ok e6] at eq
     refine ⟨bs.length+1-p6,by lia,?_⟩
     rw [hW]
     exact ⟨l,p6,n+1,k',rfl,L5.keep k6 hs,R6,k5.trans k6,⟨by have:=hF5.1;lia,fun x hx=>⟨(hF5.2 x hx).1,fun c hc=>by have:=(hF5.2 x hx).2 c hc;lia⟩⟩,by lia,by lia,eq,rfl⟩
    ·obtain ⟨i,e6⟩:=e6
     rw [then_no e6] at eq
     exact q2 _ H6 (cno _ eq)
   ·rw [if_neg (by simpa using h61)]
    walk_at "gr"
    refine ⟨r,ta,g,dg,e,rw,H,bs,_,p5,fu,wd,ht,m,l,rfl,R5,hS0,⟨_,hR0⟩,k5,L5,hF5,by lia,hfl,hb8,hpl,fun l' p6 H6 e6 k6 R6 L6 hF6 hmv=>?_,fun H6 e6=>?_⟩
    ·walk_at "gr"
     rw [colsS_go hin h61 e6] at eq
     refine ⟨bs.length+1-p6,by lia,?_⟩
     rw [hW]
     exact ⟨l',p6,n,k',rfl,L6,R6,k6,hF6,by lia,by lia,eq,rfl⟩
    ·obtain ⟨i,e6⟩:=e6
     rw [colsS_no hin h61 e6] at eq
     exact q2 _ H6 (cno _ eq)
end
section
variable {P:Program}{w:World}{K:PySem.W.Frag}{mg:Str→Option Value}{base:Heap}{a:Ad}
def lamSc:Expr→Scope
 | .Lambda _ _ sc _=>sc
 | _=>{ kind:=.function,names:=[],isGenerator:=false,isCoroutine:=false }
def lamBody:Expr→Expr
 | .Lambda _ b _ _=>b
 | e=>e
def dataL (x:List Nat):List PyData:=x.map fun (n:Nat)=>PyData.int (n:Int)
theorem dp_all (H:Hp):∀ x:List Nat,DpAll K H (lV x) (dataL x)
 | []=>.nil
 | n::x=>.cons (.int _) (dp_all H x)
theorem data_lay:∀ x:List Nat,PyData.canLayAll0 (dataL x)=true
 | []=>rfl
 | n::x=>by
  show (PyData.canLay0 (.int n) && PyData.canLayAll0 (dataL x))=true
  rw [data_lay x];rfl
theorem data_depth:∀ x:List Nat,PyData.depthAll (dataL x)=0
 | []=>rfl
 | n::x=>by
  show max (PyData.depth (.int n)) (PyData.depthAll (dataL x))=0
  rw [data_depth x];rfl
theorem data_shaped (x:List Nat):SeqAt.shaped (.list (dataL x))=true:=by
 unfold SeqAt.shaped
 have h1:PyData.canLay0 (.list (dataL x))=true:=data_lay x
 have h2:PyData.depth (.list (dataL x))=1:=by
  show PyData.depthAll (dataL x)+1=1
  rw [data_depth]
 rw [h1,h2];rfl
theorem data_eqv:∀ x y:List Nat,PyData.eqvAll (dataL x) (dataL y)=(x==y)
 | [],[]=>rfl
 | [],_::_=>rfl
 | _::_,[]=>rfl
 | m::x,n::y=>by
  show (PyData.eqv (.int m) (.int n) && PyData.eqvAll (dataL x) (dataL y))=_
  rw [data_eqv x y]
  show ((((m:Nat):Int)==((n:Nat):Int)) && (x==y))=(m==n && (x==y))
  congr 1
  by_cases z:m=n
  ·subst z;simp
  ·rw [beq_eq_false_iff_ne.mpr z,beq_eq_false_iff_ne];lia
theorem q_neD {X:Cx}{K:PySem.W.Frag} (h:X.K=K) (hu:X.A.units+64<cLine):OpR X (compareOp .NotEq) (rNeD K):=by subst h;exact op_neD hu
theorem neD_go {H:Hp}{p q:Addr}{x y:List UInt8}{Q:VK} (h1:SqL K H p (bsV x)) (h2:SqL K H q (bsV y)) (k:Q (.bl (!(decide (x=y)))) H):rNeD K (.ref p) (.ref q) H Q:=by
 rw [bsV_lV] at h1 h2
 refine ⟨.list (dataL (x.map fun (c:UInt8)=>c.toNat)),.list (dataL (y.map fun (c:UInt8)=>c.toNat)),.lst h1 (dp_all H _),.lst h2 (dp_all H _),data_shaped _,data_shaped _,?_⟩
 have e:PyData.eqv (.list (dataL (x.map fun (c:UInt8)=>c.toNat))) (.list (dataL (y.map fun (c:UInt8)=>c.toNat)))=decide (x=y):=by
  refine (data_eqv _ _).trans ?_
  by_cases z:x=y
  ·subst z;simp
  ·rw [decide_eq_false z,beq_eq_false_iff_ne]
   intro t
   refine z ?_
   have inj:∀ a b:List UInt8,(a.map fun (c:UInt8)=>c.toNat)=(b.map fun (c:UInt8)=>c.toNat)→a=b:=fun a=>by
    induction a with
    | nil=>intro b h;cases b with | nil=>rfl | cons _ _=>simp at h
    | cons u a ih =>
     intro b h
     cases b with
     | nil=>simp at h
     | cons v b =>
      rw [List.map_cons,List.map_cons] at h
      injection h with h1 h2
      rw [UInt8.toNat_inj.mp h1,ih b h2]
   exact inj _ _ t
 rw [e];exact k
def spL1 (K:PySem.W.Frag) (a:Ad):Sp:=fun vs H Q E=>∃ (r ta:Addr) (bs:List UInt8),vs=[.ref r]∧Rdr K a H r ta bs 0∧bs.length≤8191 ∧
 (∀ (x:VhPage.Table) p H',colsP bs=.ok x→Kp [r] H H'→H' p=some (.lst (bsV x.text))→Q (.ref p) H')∧∀ i H',colsP bs=.error i→E (.ref a.CE) none H'
def spL2 (K:PySem.W.Frag) (a:Ad):Sp:=fun vs H Q E=>∃ (r ta:Addr) (bs:List UInt8),vs=[.ref r]∧Rdr K a H r ta bs 0∧bs.length≤16384 ∧
 (∀ (y:VhPage.Table) p H',parseT bs=.ok y→Kp [r] H H'→H' p=some (.lst (bsV y.printed))→Q (.ref p) H')∧∀ i H',parseT bs=.error i→E (.ref a.CE) none H'
def ansU (bs:List UInt8):List V:=match backU bs with
 | some b=>.int (b.length:Int)::bsV b
 | none=>[.int (-6)]
def spA (K:PySem.W.Frag) (a:Ad) (f1 f2:Addr):Sp:=fun vs H Q _=>∃ (ta:Addr) (bs:List UInt8),vs=[.ref ta,.ref f1,.ref f2]∧SqL K H ta (bsV bs)∧bs.length≤8191∧∀ H' p,H' p=some (.lst (ansU bs))→Q (.ref p) H'
theorem back_no1 {bs:List UInt8}{i:Nat} (h:colsP bs=.error i):ansU bs=[.int (-6)]:=by unfold ansU backU;rw [h]
theorem back_no2 {bs:List UInt8}{i:Nat}{x:VhPage.Table} (h:colsP bs=.ok x) (h2:parseT x.text=.error i):ansU bs=[.int (-6)]:=by
 have:backU bs=none:=by
  unfold backU;rw [h]
  show (match parseT x.text with | .error _=>none | .ok y=>_)=_
  rw [h2]
 unfold ansU;rw [this]
theorem back_is {bs:List UInt8}{x y:VhPage.Table} (h:colsP bs=.ok x) (h2:parseT x.text=.ok y) (h3:x.text.length≤16384):ansU bs=if y.printed=bs then .int (x.text.length:Int)::bsV x.text else [.int (-6)]:=by
 have e:backU bs=if VhPage.MOST<x.text.length∨y.printed≠bs then none else some x.text:=by
  unfold backU;rw [h]
  show (match parseT x.text with | .error _=>none | .ok y=>_)=_
  rw [h2]
 have hM:¬ VhPage.MOST<x.text.length:=by unfold VhPage.MOST;lia
 unfold ansU
 rw [e]
 by_cases z:y.printed=bs
 ·rw [if_neg (by rintro (u | u);exact hM u;exact u z),if_pos z]
 ·rw [if_pos (.inr z),if_neg z]
abbrev s_given_back:Stmt:=top 50
theorem sc_given_back:FnScope ["t","text_told","printed_again","text","again"] ["t","text_told","printed_again"] (defScope s_given_back):=⟨rfl,rfl,rfl,by decide +kernel,rfl,by decide +kernel,by decide +kernel⟩
theorem ok_given_back {f1 f2:Addr}{fd1 fd2:FuncData}{f:Addr}{fd:FuncData} (F:Fun K "given_back" "given_back" s_given_back f fd) (T:Txt K mg a) (hat1:PySem.W.FnAt f1 base) (hat2:PySem.W.FnAt f2 base) (FA1:FnOk P w K mg base (CX1 P w a.CE) 8 f1 fd1 ["reader"] (spL1 K a)) (FA2:FnOk P w K mg base (CX1 P w a.CE) 9 f2 fd2 ["reader"] (spL2 K a))
  (hbA1:∀ (s:Shared) (us:List Value),us.length=["reader"].length→BindsTo s fd1 ⟨us,[]⟩ ((["reader"]:List Str).zip us)) (hbA2:∀ (s:Shared) (us:List Value),us.length=["reader"].length→BindsTo s fd2 ⟨us,[]⟩ ((["reader"]:List Str).zip us)) (c_Reader_init:MakeC P w K mg base CX0 1 a.CR "Reader" ["self","t"] (sp_Reader_init K a)):FnOk P w K mg base CX0 10 f fd ["t","text_told","printed_again"] (spA K a f1 f2):=by
 refine F.ok sc_given_back (fun vs H Q E h=>?_) (fun cdv A outer s H vs Q E hr h=>?_)
 ·obtain ⟨ta,bs,rfl,h⟩:=h
  rfl
 ·obtain ⟨ta,bs,rfl,hS,hlen,q⟩:=h
  have nd:=sc_given_back.nd
  refine ⟨_,(pss_cons (ps_if (pt_cmpR op_gt (pe_callB call_len_seq rfl T.len PySem.boot_len (pa_cons (pv 0) pa_nil)) (pe_gint T.cMOST_PRINTED_BYTES) (nomark _)) (pss_one (ps_ret (pe_lst (pa_cons (pe_un un_neg pe_int) pa_nil)))) pss_nil) (pss_cons (by refine' ps_try2 (C:=a.CE) ?eT ?eg ?eb ?ec ?es;(case eT=>exact T.exc);(case eg=>exact rfl);(case eb=>exact (pxs_set (i:=3) nd rfl (Or.inl rfl) (px_callF 1 hat1 FA1 hbA1 hr (pa_cons (pe_makeC c_Reader_init hr pass0 (pa_cons (pv 0) pa_nil)) pa_nil))));(case ec=>exact (pxs_set (i:=4) nd rfl (Or.inl rfl) (px_callF 2 hat2 FA2 hbA2 hr (pa_cons (pe_makeC c_Reader_init hr pass0 (pa_cons (pv 3) pa_nil)) pa_nil))));(case es=>exact fun _=>(pss_one (ps_ret (pe_lst (pa_cons (pe_un un_neg pe_int) pa_nil)))))) (pss_cons (ps_if (PW.pt (pw_or (pt_cmpR op_gt (pe_callB call_len_seq rfl T.len PySem.boot_len (pa_cons (pv 3) pa_nil)) (pe_gint T.cMOST_TEXT_BYTES) (nomark _)) (pw_or1 (pt_cmpR (q_neD (K:=K) rfl hr.units) (pv 4) (pv 0) (nomark _))))) (pss_one (ps_ret (pe_lst (pa_cons (pe_un un_neg pe_int) pa_nil)))) pss_nil) (pss_one (ps_ret (pe_op op_cat (pe_lst (pa_cons (pe_callB call_len_seq rfl T.len PySem.boot_len (pa_cons (pv 3) pa_nil)) pa_nil)) (pv 3))))))),?_⟩
  obtain ⟨ot,hta⟩:=SqL.is T hS
  walk_at "rd"
  refine ⟨_,.inl hS,?_⟩
  rw [bsV_len,if_neg (by lia)]
  simp only [tCallXL,tCallX]
  walk_at "rd"
  intro x dx nx ndx nex
  have tax:ta≠x:=ne_of_none hta nx
  have k0:Kp [] H (upd (upd H dx (HO.own x)) x (HO.ins a.CR dx [])):=fun c o e _=>by
   rw [upd_ne (ne_of_none e nx),upd_ne (ne_of_none e ndx)];exact e
  refine ⟨x,dx,ta,bs,rfl,upd_same,k0.seq (by simp) hS,tax,fun H2 k2 R2=>⟨rfl,?_⟩⟩
  have k02:Kp [x] H H2:=(k0.mono (by simp)).trans k2
  refine ⟨x,ta,bs,rfl,R2,hlen,fun xt p3 H3 e3 k3 hl3=>?_,fun i H3 e3 ea=>?_⟩
  ·have k03:=k02.trans k3
   have hta3:=k03 _ _ hta (by simpa using tax)
   obtain ⟨_,_,_,_,hsm⟩:=cols_small e3 hlen
   walk_at "rd"
   intro y dy ny ndy ney
   have k3y:Kp [] H3 (upd (upd H3 dy (HO.own y)) y (HO.ins a.CR dy [])):=fun c o e _=>by
    rw [upd_ne (ne_of_none e ny),upd_ne (ne_of_none e ndy)];exact e
   have py:p3≠y:=ne_of_none hl3 ny
   have tay:ta≠y:=ne_of_none hta3 ny
   refine ⟨y,dy,p3,xt.text,rfl,upd_same,.inl (.inl (k3y _ _ hl3 (by simp))),py,fun H4 k4 R4=>⟨rfl,?_⟩⟩
   have k34:Kp [y] H3 H4:=(k3y.mono (by simp)).trans k4
   refine ⟨y,p3,xt.text,rfl,R4,hsm,fun yt p5 H5 e5 k5 hl5=>?_,fun i H5 e5 ea=>?_⟩
   ·have k35:=k34.trans k5
    have hx5:=k35 _ _ hl3 (by simpa using py)
    have hS5:SqL K H5 ta (bsV bs):=k35.seq (by simpa using tay) (k03.seq (by simpa using tax) hS)
    have ans:=back_is e3 e5 hsm
    walk_at "rd"
    refine ⟨_,.inl (.inl (.inl hx5)),?_⟩
    rw [bsV_len,if_neg (by lia)]
    refine neD_go (.inl (.inl hl5)) hS5 ?_
    by_cases hpr:yt.printed=bs
    ·rw [if_pos hpr] at ans
     rw [decide_eq_true hpr]
     walk_at "rd"
     refine ⟨_,.inl (.inl (.inl hx5)),?_⟩
     rw [bsV_len]
     refine ⟨by decide,fun p6 hp6=>?_⟩
     refine ⟨p6,p3,_,_,rfl,rfl,upd_same,by rw [upd_ne (ne_of_none hx5 hp6)];exact hx5,by rw [bsV_len];exact Nat.le_trans (show _≤16385 by simp;lia) (by decide),fun p7 hp7=>q _ p7 ?_⟩
     rw [upd_same,ans]
     rfl
    ·rw [if_neg hpr] at ans
     rw [decide_eq_false hpr]
     walk_at "rd"
     refine ⟨by decide,fun l hl=>q _ l ?_⟩
     rw [upd_same,ans]
   ·walk_at "rd"
    refine ⟨by decide,fun l hl=>q _ l ?_⟩
    rw [upd_same,back_no2 e3 e5]
  ·walk_at "rd"
   refine ⟨by decide,fun l hl=>q _ l ?_⟩
   rw [upd_same,back_no1 e3]
abbrev lam1:Expr:=exArg (stVal (stI (defBody (top 51)) 0)) 1
abbrev lam2:Expr:=exArg (stVal (stI (defBody (top 51)) 0)) 2
theorem ls_lam1:LamScope0 "reader" (lamSc lam1):=⟨rfl,rfl,rfl,rfl,by decide +kernel,by decide +kernel⟩
theorem ls_lam2:LamScope0 "reader" (lamSc lam2):=⟨rfl,rfl,rfl,rfl,by decide +kernel,by decide +kernel⟩
def sp_uncolumns (K:PySem.W.Frag) (PT:Addr):Sp:=fun vs H Q _=>∃ (ta:Addr) (bs:List UInt8),vs=[.ref ta]∧SqL K H ta (bsV bs)∧H PT=some (.tbl #[])∧bs.length≤8191∧∀ H' p,H' p=some (.lst (ansU bs))→Q (.ref p) H'
abbrev s_uncolumns:Stmt:=top 51
theorem sc_uncolumns:FnScope ["t"] ["t"] (defScope s_uncolumns):=⟨rfl,rfl,rfl,by decide +kernel,rfl,by decide +kernel,by decide +kernel⟩
theorem run_lam1 {ql:Str}{f c':Addr}{A:Around}{outer:List Env}{s:Shared}{H:Hp}{v:V}{Q:VK}{E:XK} (c_table_text:FnC P w K mg base CX0 3 "table_text" ["table"] (sp_table_text K a)) (c_read_columns:FnC P w K mg base (CX1 P w a.CE) 7 "read_columns" ["reader"] (sp_read_columns K a))
  (hr:Room 7 (A.deeper (PySem.W.envX ql (lamSc lam1) s.heap.objs.size f (.ref c') []))) (h:spL1 K a [v] H Q E) :
  ∃ t,PE (cxLamX P w K mg base a.CE ["reader"] ql (lamSc lam1) f (.ref c') A outer s H E) (lamBody lam1) t∧t [some v] H Q:=by
 refine ⟨_,(pe_callC c_table_text hr pass0 (pa_cons (pe_callC c_read_columns hr passL (pa_cons (pv 0) pa_nil)) pa_nil)),?_⟩
 obtain ⟨r,ta,bs,hv,R,hb,q1,q2⟩:=h
 cases hv
 walk_at "rd"
 refine ⟨r,ta,bs,rfl,R,hb,fun x g dg e rw ra H' e1 L k=>?_,fun i H' e1=>q2 i H' e1⟩
 obtain ⟨s1,s2,s3,s4,s5⟩:=cols_small e1 hb
 exact ⟨g,dg,e,rw,_,ra,x,rfl,L,s1,by lia,s3,s4,fun H2 p hp k2 hl=>q1 x p H2 e1 (k.trans (k2.mono (by simp))) hl⟩
theorem run_lam2 {ql:Str}{f c':Addr}{A:Around}{outer:List Env}{s:Shared}{H:Hp}{v:V}{Q:VK}{E:XK} (c_printed_table:FnC P w K mg base CX0 6 "printed_table" ["table"] (sp_printed_table K a)) (c_read_table:FnC P w K mg base (CX1 P w a.CE) 8 "read_table" ["reader"] (sp_read_table K a))
  (hr:Room 8 (A.deeper (PySem.W.envX ql (lamSc lam2) s.heap.objs.size f (.ref c') []))) (h:spL2 K a [v] H Q E) :
  ∃ t,PE (cxLamX P w K mg base a.CE ["reader"] ql (lamSc lam2) f (.ref c') A outer s H E) (lamBody lam2) t∧t [some v] H Q:=by
 refine ⟨_,(pe_callC c_printed_table hr pass0 (pa_cons (pe_callC c_read_table hr passL (pa_cons (pv 0) pa_nil)) pa_nil)),?_⟩
 obtain ⟨r,ta,bs,hv,R,hb,q1,q2⟩:=h
 cases hv
 walk_at "rd"
 refine ⟨r,ta,bs,rfl,R,fun x g dg e rw ra H' e1 L k=>?_,fun i H' e1=>q2 i H' e1⟩
 obtain ⟨e4,ok⟩:=table_back e1
 exact ⟨g,dg,e,rw,_,ra,x,rfl,L,ok,by rw [e4];exact hb,fun H2 p k2 hl _=>q1 x p H2 e1 (k.trans (k2.mono (by simp))) hl⟩
theorem ok_uncolumns {f c gf:Addr}{oc kV doc pm ct:Value}{od an:Option Addr}{osl:Array (Option Value)} (lk:K.lookup f=some ⟨oc,od,.func (PySem.W.fnOf "uncolumns" "uncolumns" (defArgs s_uncolumns) (defBody s_uncolumns) (defScope s_uncolumns) .none kV doc pm an (.ref c) ct),osl⟩) (hcd:PySem.W.codeIn K (.ref c) "uncolumns"=true) (T:Txt K mg a)
  (hC:∀ h,K.In h→PySem.W.CodeHd h c a.PT) (hB:base.BuiltinsAt mg a.PT) (hgP:mainGlobals≠a.PT) (hm:mg "given_back"=some (.ref gf)) (hk:PySem.W.keepIn K (.ref gf)=true)
  (hA:∀ (base':Heap) (f1 f2:Addr) (fd1 fd2:FuncData),PySem.W.FnAt f1 base'→PySem.W.FnAt f2 base'→(∀ (s:Shared) (us:List Value),us.length=["reader"].length→BindsTo s fd1 ⟨us,[]⟩ ((["reader"]:List Str).zip us))→(∀ (s:Shared) (us:List Value),us.length=["reader"].length→BindsTo s fd2 ⟨us,[]⟩ ((["reader"]:List Str).zip us)) →
   FnOk P w K mg base' (CX1 P w a.CE) 8 f1 fd1 ["reader"] (spL1 K a)→FnOk P w K mg base' (CX1 P w a.CE) 9 f2 fd2 ["reader"] (spL2 K a)→FnC P w K mg base' CX0 10 "given_back" ["t","text_told","printed_again"] (spA K a f1 f2))
  (h1:∀ base',FnC P w K mg base' CX0 3 "table_text" ["table"] (sp_table_text K a)) (h2:∀ base',FnC P w K mg base' (CX1 P w a.CE) 7 "read_columns" ["reader"] (sp_read_columns K a))
  (h3:∀ base',FnC P w K mg base' CX0 6 "printed_table" ["table"] (sp_printed_table K a)) (h4:∀ base',FnC P w K mg base' (CX1 P w a.CE) 8 "read_table" ["reader"] (sp_read_table K a)) :
  FnOk P w K mg base CX0 11 f (PySem.W.fnOf "uncolumns" "uncolumns" (defArgs s_uncolumns) (defBody s_uncolumns) (defScope s_uncolumns) .none kV doc pm an (.ref c) ct) ["t"] (sp_uncolumns K a.PT):=by
 refine fn_of lk hcd sc_uncolumns (fun vs H Q E h=>?_) (fun A outer s H vs Q E hr h=>?_)
 ·obtain ⟨ta,bs,rfl,h⟩:=h
  rfl
 ·obtain ⟨ta,bs,rfl,hS,hPT,hlen,q⟩:=h
  refine ⟨_,pss_one (ps_ret (pe_callLam2 (i:=0) (t:="t") (x1:="reader") (x2:="reader") (c:=c) (PT:=a.PT) (C:=a.CE) (gf:=gf) (k:=10) (j1:=7) (j2:=8) (spL1:=spL1 K a) (spL2:=spL2 K a) (spA:=spA K a) (ps2:=["t","text_told","printed_again"]) (E:=E) ls_lam1 ls_lam2 rfl hC hB rfl (Or.inl rfl) rfl rfl rfl rfl rfl rfl hm hk hr
   (fun vs H Q E h=>by obtain ⟨_,_,_,rfl,_⟩:=h;rfl) (fun vs H Q E h=>by obtain ⟨_,_,_,rfl,_⟩:=h;rfl) (fun base' f1 f2 fd1 fd2 hM a1 a2 b1 b2 F1 F2=>hA base' f1 f2 fd1 fd2 a1 a2 b1 b2 F1 F2) (fun c' pm ctv s us hu=>match us,hu with | [_],_=>.of_eq rfl) (fun c' pm ctv s us hu=>match us,hu with | [_],_=>.of_eq rfl)
   (fun base' f c' A outer s H v Q E hr h=>run_lam1 (h1 base') (h2 base') hr h) (fun base' f c' A outer s H v Q E hr h=>run_lam2 (h3 base') (h4 base') hr h) pass0 hgP)),?_⟩
  refine ⟨.ref ta,#[],rfl,hPT,trivial,rfl,fun c'=>⟨?_,?_⟩,fun f1 f2 ps' hf1 hf2=>⟨ta,bs,rfl,?_,hlen,q⟩⟩
  ·exact trivial
  ·rfl
  ·rcases hS with (h | ⟨o,h⟩) | h
   ·exact .inl (.inl (by rw [upd_ne (fun z=>by rw [z,hPT] at h;cases h)];exact h))
   ·exact .inl (.inr ⟨o,by rw [upd_ne (fun z=>by rw [z,hPT] at h;cases h)];exact h⟩)
   ·exact .inr h
end
end Vp
end
section
set_option maxRecDepth 100000
set_option maxHeartbeats 4000000
namespace Vp
open PySem PySem.Spec PyProof.Rows L2
open PySem.W (Codec)
theorem sqT_of {K:PySem.W.Frag}{a:Addr}{d:Option Addr}{its:Array Value}{n:Nat}{sl:Array (Option Value)}{xs:List V} (l:K.lookup a=some ⟨.type "tuple",d,.seq its n,sl⟩) (hz:its.size≤1000) (v:Vals xs its.toList) (H:Hp):SqT K H a xs :=
 .inr ⟨_,its,n,l,rfl,rfl,Nat.le_trans hz (by decide),v⟩
theorem mem_lk {b:Addr}{o:Obj}:∀ {K:PySem.W.Frag},K.lookup b=some o→(b,o)∈K
 | [],h=>by cases h
 | (c,u)::r,h=>by
  rw [List.lookup_cons] at h
  cases e:b==c with
  | true =>
   rw [e] at h
   have h':u=o:=Option.some.inj h
   rw [← h',eq_of_beq e]
   exact List.mem_cons_self
  | false =>
   rw [e] at h
   exact List.mem_cons_of_mem _ (mem_lk h)
theorem lcs {us:List Value}{n:Nat} (h:us.length=n+1):∃ a r,us=a::r∧r.length=n:=match us,h with | a::r,h=>⟨a,r,rfl,Nat.succ.inj h⟩
theorem fb1 {K:PySem.W.Frag}{x qual:Str}{st:Stmt}{f:Addr}{fd:FuncData}{p0:Str} (F:Fun K x qual st f fd) (h:∀ (kV doc pm:Value) (an:Option Addr) (cdv ct a0:Value),bindArgs (PySem.W.fnOf x qual (defArgs st) (defBody st) (defScope st) .none kV doc pm an cdv ct) ⟨[a0],[]⟩=pure ([p0].zip [a0])):Binds K fd [p0] []:=F.binds fun kV doc pm an cdv ct us hl=>by
 obtain ⟨a0,r0,rfl,h0⟩:=lcs (n:=0) hl
 obtain rfl:=List.eq_nil_of_length_eq_zero h0
 exact h kV doc pm an cdv ct a0
theorem fb2 {K:PySem.W.Frag}{x qual:Str}{st:Stmt}{f:Addr}{fd:FuncData}{p0 p1:Str} (F:Fun K x qual st f fd) (h:∀ (kV doc pm:Value) (an:Option Addr) (cdv ct a0 a1:Value),bindArgs (PySem.W.fnOf x qual (defArgs st) (defBody st) (defScope st) .none kV doc pm an cdv ct) ⟨[a0,a1],[]⟩=pure ([p0,p1].zip [a0,a1])):Binds K fd [p0,p1] []:=F.binds fun kV doc pm an cdv ct us hl=>by
 obtain ⟨a0,r0,rfl,h0⟩:=lcs (n:=1) hl
 obtain ⟨a1,r1,rfl,h1⟩:=lcs (n:=0) h0
 obtain rfl:=List.eq_nil_of_length_eq_zero h1
 exact h kV doc pm an cdv ct a0 a1
theorem fb3 {K:PySem.W.Frag}{x qual:Str}{st:Stmt}{f:Addr}{fd:FuncData}{p0 p1 p2:Str} (F:Fun K x qual st f fd) (h:∀ (kV doc pm:Value) (an:Option Addr) (cdv ct a0 a1 a2:Value),bindArgs (PySem.W.fnOf x qual (defArgs st) (defBody st) (defScope st) .none kV doc pm an cdv ct) ⟨[a0,a1,a2],[]⟩=pure ([p0,p1,p2].zip [a0,a1,a2])):Binds K fd [p0,p1,p2] []:=F.binds fun kV doc pm an cdv ct us hl=>by
 obtain ⟨a0,r0,rfl,h0⟩:=lcs (n:=2) hl
 obtain ⟨a1,r1,rfl,h1⟩:=lcs (n:=1) h0
 obtain ⟨a2,r2,rfl,h2⟩:=lcs (n:=0) h1
 obtain rfl:=List.eq_nil_of_length_eq_zero h2
 exact h kV doc pm an cdv ct a0 a1 a2
theorem fb4 {K:PySem.W.Frag}{x qual:Str}{st:Stmt}{f:Addr}{fd:FuncData}{p0 p1 p2 p3:Str} (F:Fun K x qual st f fd) (h:∀ (kV doc pm:Value) (an:Option Addr) (cdv ct a0 a1 a2 a3:Value),bindArgs (PySem.W.fnOf x qual (defArgs st) (defBody st) (defScope st) .none kV doc pm an cdv ct) ⟨[a0,a1,a2,a3],[]⟩=pure ([p0,p1,p2,p3].zip [a0,a1,a2,a3])):Binds K fd [p0,p1,p2,p3] []:=F.binds fun kV doc pm an cdv ct us hl=>by
 obtain ⟨a0,r0,rfl,h0⟩:=lcs (n:=3) hl
 obtain ⟨a1,r1,rfl,h1⟩:=lcs (n:=2) h0
 obtain ⟨a2,r2,rfl,h2⟩:=lcs (n:=1) h1
 obtain ⟨a3,r3,rfl,h3⟩:=lcs (n:=0) h2
 obtain rfl:=List.eq_nil_of_length_eq_zero h3
 exact h kV doc pm an cdv ct a0 a1 a2 a3
theorem all_mk {P:Program}{w:World}{K:PySem.W.Frag}{h:Heap}{mg:Str→Option Value}{fa c0 PT:Addr}{CE CR CT f0 f1 f2 f3 f4 f5 f6 f7 f8 f9 f10 f11 f12 f13 f14 f15 f16 f17 f18 f19 f20 f21 f22 f23 f24 f25 f26 f27 f28 f29 f30 f31 f32 f33 f34 f35 f36 f37 f38 f39 f40 f41 f42 f43 aMARKS aENDS aTABLE_BOUNDS bTABLE_BOUNDS0 bTABLE_BOUNDS1 bTABLE_BOUNDS2:Addr}{tBLANK tSTROKE tFIRST_LETTER tMOST_LETTERS tNO_BYTE tMOST_TABLE_ROWS tMOST_TABLE_WORDS tMOST_TEXT_BYTES tMOST_PRINTED_BYTES uMARKS0 uMARKS1 uMARKS2 uMARKS3 uMARKS4 uMARKS5 uMARKS6 uMARKS7 uMARKS8 uMARKS9 uMARKS10 uMARKS11 uMARKS12 uMARKS13 uMARKS14 uMARKS15 uENDS0 uENDS1 uTABLE_BOUNDS0_0 uTABLE_BOUNDS0_1 uTABLE_BOUNDS1_0 uTABLE_BOUNDS1_1 uTABLE_BOUNDS2_0 uTABLE_BOUNDS2_1:Tok}{od0 od1 od2 od3 od4 od5 od6 od7 od8 od9 od10 od11 od12 od13 od14 od15 od16 od17 od18 od19 od20 od21 od22 od23 od24 od25 od26 od27 od28 od29 od30 od31 od32 od33 od34 od35 od36 od37 od38 od39 od40 od41 od42 od43 an0 an1 an2 an3 an4 an5 an6 an7 an8 an9 an10 an11 an12 an13 an14 an15 an16 an17 an18 an19 an20 an21 an22 an23 an24 an25 an26 an27 an28 an29 an30 an31 an32 an33 an34 an35 an36 an37 an38 an39 an40 an41 an42 an43 dMARKS dENDS dTABLE_BOUNDS dTABLE_BOUNDS0 dTABLE_BOUNDS1 dTABLE_BOUNDS2:Option Addr}{sl0 sl1 sl2 sl3 sl4 sl5 sl6 sl7 sl8 sl9 sl10 sl11 sl12 sl13 sl14 sl15 sl16 sl17 sl18 sl19 sl20 sl21 sl22 sl23 sl24 sl25 sl26 sl27 sl28 sl29 sl30 sl31 sl32 sl33 sl34 sl35 sl36 sl37 sl38 sl39 sl40 sl41 sl42 sl43 sMARKS sENDS sTABLE_BOUNDS sTABLE_BOUNDS0 sTABLE_BOUNDS1 sTABLE_BOUNDS2:Array (Option Value)}{nMARKS nENDS nTABLE_BOUNDS nTABLE_BOUNDS0 nTABLE_BOUNDS1 nTABLE_BOUNDS2:Nat}{oc0 kV0 dc0 pm0 cd0 ct0 oc1 kV1 dc1 pm1 cd1 ct1 oc2 kV2 dc2 pm2 cd2 ct2 oc3 kV3 dc3 pm3 cd3 ct3 oc4 kV4 dc4 pm4 cd4 ct4 oc5 kV5 dc5 pm5 cd5 ct5 oc6 kV6 dc6 pm6 cd6 ct6 oc7 kV7 dc7 pm7 cd7 ct7 oc8 kV8 dc8 pm8 cd8 ct8 oc9 kV9 dc9 pm9 cd9 ct9 oc10 kV10 dc10 pm10 cd10 ct10 oc11 kV11 dc11 pm11 cd11 ct11 oc12 kV12 dc12 pm12 cd12 ct12 oc13 kV13 dc13 pm13 cd13 ct13 oc14 kV14 dc14 pm14 cd14 ct14 oc15 kV15 dc15 pm15 cd15 ct15 oc16 kV16 dc16 pm16 cd16 ct16 oc17 kV17 dc17 pm17 cd17 ct17 oc18 kV18 dc18 pm18 cd18 ct18 oc19 kV19 dc19 pm19 cd19 ct19 oc20 kV20 dc20 pm20 cd20 ct20 oc21 kV21 dc21 pm21 cd21 ct21 oc22 kV22 dc22 pm22 cd22 ct22 oc23 kV23 dc23 pm23 cd23 ct23 oc24 kV24 dc24 pm24 cd24 ct24 oc25 kV25 dc25 pm25 cd25 ct25 oc26 kV26 dc26 pm26 cd26 ct26 oc27 kV27 dc27 pm27 cd27 ct27 oc28 kV28 dc28 pm28 cd28 ct28 oc29 kV29 dc29 pm29 cd29 ct29 oc30 kV30 dc30 pm30 cd30 ct30 oc31 kV31 dc31 pm31 cd31 ct31 oc32 kV32 dc32 pm32 cd32 ct32 oc33 kV33 dc33 pm33 cd33 ct33 oc34 kV34 dc34 pm34 cd34 ct34 oc35 kV35 dc35 pm35 cd35 ct35 oc36 kV36 dc36 pm36 cd36 ct36 oc37 kV37 dc37 pm37 cd37 ct37 oc38 kV38 dc38 pm38 cd38 ct38 oc39 kV39 dc39 pm39 cd39 ct39 oc40 kV40 dc40 pm40 cd40 ct40 oc41 kV41 dc41 pm41 cd41 ct41 oc42 kV42 dc42 pm42 cd42 ct42 oc43 kV43 dc43 pm43 cd43 ct43:Value} (X:K.In h) (G:h.Ns mainGlobals mg) (hfa:mg "uncolumns"=some (.ref fa)) (htab:PySem.W.tabIn K "uncolumns"=some (c0,PT)) (hC:∀ h2,K.In h2→PySem.W.CodeHd h2 c0 PT) (hgP:mainGlobals≠PT) (qCE:PySem.W.excIn K CE [.type "ValueError",.type "Exception",.type "BaseException",.type "object"] "ValueError.__new__"=true) (nl:(K.all fun p=>!(p.2.cls==.type "list"))=true)
  (aCR:PySem.W.nsIn K mainGlobals "Reader"=some (some (.ref CR)))
  (pgR:PySem.W.plainGet K CR Str.empty=true)
  (hdR:PySem.W.hasDictIn K CR=true)
  (poR:PySem.W.plainOver K CR=true)
  (saR:PySem.W.findIn K (.ref CR) "__setattr__"=some (some (.builtin "object.__setattr__")))
  (mkR:PySem.W.makesIn K CR=true)
  (kcR:PySem.W.keepIn K (.ref CR)=true)
  (nR_t:PySem.W.findIn K (.ref CR) "t"=some none)
  (nR_at:PySem.W.findIn K (.ref CR) "at"=some none)
  (aCT:PySem.W.nsIn K mainGlobals "Table"=some (some (.ref CT)))
  (pgT:PySem.W.plainGet K CT Str.empty=true)
  (hdT:PySem.W.hasDictIn K CT=true)
  (poT:PySem.W.plainOver K CT=true)
  (saT:PySem.W.findIn K (.ref CT) "__setattr__"=some (some (.builtin "object.__setattr__")))
  (mkT:PySem.W.makesIn K CT=true)
  (kcT:PySem.W.keepIn K (.ref CT)=true)
  (nT_width:PySem.W.findIn K (.ref CT) "width"=some none)
  (nT_height:PySem.W.findIn K (.ref CT) "height"=some none)
  (nT_cell_count:PySem.W.findIn K (.ref CT) "cell_count"=some none)
  (nT_head:PySem.W.findIn K (.ref CT) "head"=some none)
  (nT_rows:PySem.W.findIn K (.ref CT) "rows"=some none)
  (aCE:PySem.W.nsIn K mainGlobals "NoText"=some (some (.ref CE)))
  (iBLANK:PySem.W.nsIn K mainGlobals "BLANK"=some (some (.int 32 tBLANK)))
  (iSTROKE:PySem.W.nsIn K mainGlobals "STROKE"=some (some (.int 124 tSTROKE)))
  (iFIRST_LETTER:PySem.W.nsIn K mainGlobals "FIRST_LETTER"=some (some (.int 33 tFIRST_LETTER)))
  (iMOST_LETTERS:PySem.W.nsIn K mainGlobals "MOST_LETTERS"=some (some (.int 64 tMOST_LETTERS)))
  (iNO_BYTE:PySem.W.nsIn K mainGlobals "NO_BYTE"=some (some (.int 256 tNO_BYTE)))
  (iMOST_TABLE_ROWS:PySem.W.nsIn K mainGlobals "MOST_TABLE_ROWS"=some (some (.int 8192 tMOST_TABLE_ROWS)))
  (iMOST_TABLE_WORDS:PySem.W.nsIn K mainGlobals "MOST_TABLE_WORDS"=some (some (.int 65536 tMOST_TABLE_WORDS)))
  (iMOST_TEXT_BYTES:PySem.W.nsIn K mainGlobals "MOST_TEXT_BYTES"=some (some (.int 1048576 tMOST_TEXT_BYTES)))
  (iMOST_PRINTED_BYTES:PySem.W.nsIn K mainGlobals "MOST_PRINTED_BYTES"=some (some (.int 16777216 tMOST_PRINTED_BYTES)))
  (gMARKS:PySem.W.nsIn K mainGlobals "MARKS"=some (some (.ref aMARKS)))
  (lMARKS:K.lookup aMARKS=some ⟨.type "tuple",dMARKS,.seq #[.int 124 uMARKS0,.int 47 uMARKS1,.int 40 uMARKS2,.int 41 uMARKS3,.int 91 uMARKS4,.int 93 uMARKS5,.int 60 uMARKS6,.int 62 uMARKS7,.int 123 uMARKS8,.int 125 uMARKS9,.int 61 uMARKS10,.int 43 uMARKS11,.int 126 uMARKS12,.int 94 uMARKS13,.int 35 uMARKS14,.int 34 uMARKS15] nMARKS,sMARKS⟩)
  (gENDS:PySem.W.nsIn K mainGlobals "ENDS"=some (some (.ref aENDS)))
  (lENDS:K.lookup aENDS=some ⟨.type "tuple",dENDS,.seq #[.int 32 uENDS0,.int 10 uENDS1] nENDS,sENDS⟩)
  (gTABLE_BOUNDS:PySem.W.nsIn K mainGlobals "TABLE_BOUNDS"=some (some (.ref aTABLE_BOUNDS)))
  (lTABLE_BOUNDS:K.lookup aTABLE_BOUNDS=some ⟨.type "tuple",dTABLE_BOUNDS,.seq #[.ref bTABLE_BOUNDS0,.ref bTABLE_BOUNDS1,.ref bTABLE_BOUNDS2] nTABLE_BOUNDS,sTABLE_BOUNDS⟩)
  (lTABLE_BOUNDS0:K.lookup bTABLE_BOUNDS0=some ⟨.type "tuple",dTABLE_BOUNDS0,.seq #[.int 8 uTABLE_BOUNDS0_0,.int 120 uTABLE_BOUNDS0_1] nTABLE_BOUNDS0,sTABLE_BOUNDS0⟩)
  (lTABLE_BOUNDS1:K.lookup bTABLE_BOUNDS1=some ⟨.type "tuple",dTABLE_BOUNDS1,.seq #[.int 6 uTABLE_BOUNDS1_0,.int 240 uTABLE_BOUNDS1_1] nTABLE_BOUNDS1,sTABLE_BOUNDS1⟩)
  (lTABLE_BOUNDS2:K.lookup bTABLE_BOUNDS2=some ⟨.type "tuple",dTABLE_BOUNDS2,.seq #[.int 2 uTABLE_BOUNDS2_0,.int 4 uTABLE_BOUNDS2_1] nTABLE_BOUNDS2,sTABLE_BOUNDS2⟩)
  (bl_len:PySem.W.nsIn K mainGlobals "len"=some none)
  (bl_ord:PySem.W.nsIn K mainGlobals "ord"=some none)
  (bl_min:PySem.W.nsIn K mainGlobals "min"=some none)
  (bl_max:PySem.W.nsIn K mainGlobals "max"=some none)
  (bl_range:PySem.W.nsIn K mainGlobals "range"=some none)
  (bl_enumerate:PySem.W.nsIn K mainGlobals "enumerate"=some none)
  (bl_str:PySem.W.nsIn K mainGlobals "str"=some none)
  (bl_list:PySem.W.nsIn K mainGlobals "list"=some none)
  (bl_sum:PySem.W.nsIn K mainGlobals "sum"=some none)
  (a_is_letter:PySem.W.nsIn K mainGlobals "is_letter"=some (some (.ref f0)))
  (l_is_letter:K.lookup f0=some ⟨oc0,od0,.func (PySem.W.fnOf "is_letter" "is_letter" (defArgs s_is_letter) (defBody s_is_letter) (defScope s_is_letter) .none kV0 dc0 pm0 an0 cd0 ct0),sl0⟩)
  (c_is_letter:PySem.W.codeIn K cd0 "is_letter"=true)
  (k_is_letter:PySem.W.keepIn K (.ref f0)=true)
  (a_begins_some:PySem.W.nsIn K mainGlobals "begins_some"=some (some (.ref f1)))
  (l_begins_some:K.lookup f1=some ⟨oc1,od1,.func (PySem.W.fnOf "begins_some" "begins_some" (defArgs s_begins_some) (defBody s_begins_some) (defScope s_begins_some) .none kV1 dc1 pm1 an1 cd1 ct1),sl1⟩)
  (c_begins_some:PySem.W.codeIn K cd1 "begins_some"=true)
  (k_begins_some:PySem.W.keepIn K (.ref f1)=true)
  (a_size_by_lead:PySem.W.nsIn K mainGlobals "size_by_lead"=some (some (.ref f2)))
  (l_size_by_lead:K.lookup f2=some ⟨oc2,od2,.func (PySem.W.fnOf "size_by_lead" "size_by_lead" (defArgs s_size_by_lead) (defBody s_size_by_lead) (defScope s_size_by_lead) .none kV2 dc2 pm2 an2 cd2 ct2),sl2⟩)
  (c_size_by_lead:PySem.W.codeIn K cd2 "size_by_lead"=true)
  (k_size_by_lead:PySem.W.keepIn K (.ref f2)=true)
  (a_bounds_behind:PySem.W.nsIn K mainGlobals "bounds_behind"=some (some (.ref f3)))
  (l_bounds_behind:K.lookup f3=some ⟨oc3,od3,.func (PySem.W.fnOf "bounds_behind" "bounds_behind" (defArgs s_bounds_behind) (defBody s_bounds_behind) (defScope s_bounds_behind) .none kV3 dc3 pm3 an3 cd3 ct3),sl3⟩)
  (c_bounds_behind:PySem.W.codeIn K cd3 "bounds_behind"=true)
  (k_bounds_behind:PySem.W.keepIn K (.ref f3)=true)
  (a_Reader_init:PySem.W.findIn K (.ref CR) "__init__"=some (some (.ref f4)))
  (i_Reader_init:PySem.W.isFn K (.ref f4)=true)
  (l_Reader_init:K.lookup f4=some ⟨oc4,od4,.func (PySem.W.fnOf "__init__" "Reader.__init__" (defArgs s_Reader_init) (defBody s_Reader_init) (defScope s_Reader_init) .none kV4 dc4 pm4 an4 cd4 ct4),sl4⟩)
  (c_Reader_init:PySem.W.codeIn K cd4 "Reader.__init__"=true)
  (k_Reader_init:PySem.W.keepIn K (.ref f4)=true)
  (a_Reader_peek:PySem.W.findIn K (.ref CR) "peek"=some (some (.ref f5)))
  (i_Reader_peek:PySem.W.isFn K (.ref f5)=true)
  (l_Reader_peek:K.lookup f5=some ⟨oc5,od5,.func (PySem.W.fnOf "peek" "Reader.peek" (defArgs s_Reader_peek) (defBody s_Reader_peek) (defScope s_Reader_peek) .none kV5 dc5 pm5 an5 cd5 ct5),sl5⟩)
  (c_Reader_peek:PySem.W.codeIn K cd5 "Reader.peek"=true)
  (k_Reader_peek:PySem.W.keepIn K (.ref f5)=true)
  (a_Reader_sees:PySem.W.findIn K (.ref CR) "sees"=some (some (.ref f6)))
  (i_Reader_sees:PySem.W.isFn K (.ref f6)=true)
  (l_Reader_sees:K.lookup f6=some ⟨oc6,od6,.func (PySem.W.fnOf "sees" "Reader.sees" (defArgs s_Reader_sees) (defBody s_Reader_sees) (defScope s_Reader_sees) .none kV6 dc6 pm6 an6 cd6 ct6),sl6⟩)
  (c_Reader_sees:PySem.W.codeIn K cd6 "Reader.sees"=true)
  (k_Reader_sees:PySem.W.keepIn K (.ref f6)=true)
  (a_Reader_take:PySem.W.findIn K (.ref CR) "take"=some (some (.ref f7)))
  (i_Reader_take:PySem.W.isFn K (.ref f7)=true)
  (l_Reader_take:K.lookup f7=some ⟨oc7,od7,.func (PySem.W.fnOf "take" "Reader.take" (defArgs s_Reader_take) (defBody s_Reader_take) (defScope s_Reader_take) .none kV7 dc7 pm7 an7 cd7 ct7),sl7⟩)
  (c_Reader_take:PySem.W.codeIn K cd7 "Reader.take"=true)
  (k_Reader_take:PySem.W.keepIn K (.ref f7)=true)
  (a_Reader_take_end:PySem.W.findIn K (.ref CR) "take_end"=some (some (.ref f8)))
  (i_Reader_take_end:PySem.W.isFn K (.ref f8)=true)
  (l_Reader_take_end:K.lookup f8=some ⟨oc8,od8,.func (PySem.W.fnOf "take_end" "Reader.take_end" (defArgs s_Reader_take_end) (defBody s_Reader_take_end) (defScope s_Reader_take_end) .none kV8 dc8 pm8 an8 cd8 ct8),sl8⟩)
  (c_Reader_take_end:PySem.W.codeIn K cd8 "Reader.take_end"=true)
  (k_Reader_take_end:PySem.W.keepIn K (.ref f8)=true)
  (a_Reader_take_digit:PySem.W.findIn K (.ref CR) "take_digit"=some (some (.ref f9)))
  (i_Reader_take_digit:PySem.W.isFn K (.ref f9)=true)
  (l_Reader_take_digit:K.lookup f9=some ⟨oc9,od9,.func (PySem.W.fnOf "take_digit" "Reader.take_digit" (defArgs s_Reader_take_digit) (defBody s_Reader_take_digit) (defScope s_Reader_take_digit) .none kV9 dc9 pm9 an9 cd9 ct9),sl9⟩)
  (c_Reader_take_digit:PySem.W.codeIn K cd9 "Reader.take_digit"=true)
  (k_Reader_take_digit:PySem.W.keepIn K (.ref f9)=true)
  (a_Reader_take_number:PySem.W.findIn K (.ref CR) "take_number"=some (some (.ref f10)))
  (i_Reader_take_number:PySem.W.isFn K (.ref f10)=true)
  (l_Reader_take_number:K.lookup f10=some ⟨oc10,od10,.func (PySem.W.fnOf "take_number" "Reader.take_number" (defArgs s_Reader_take_number) (defBody s_Reader_take_number) (defScope s_Reader_take_number) .none kV10 dc10 pm10 an10 cd10 ct10),sl10⟩)
  (c_Reader_take_number:PySem.W.codeIn K cd10 "Reader.take_number"=true)
  (k_Reader_take_number:PySem.W.keepIn K (.ref f10)=true)
  (a_Reader_take_long_letter:PySem.W.findIn K (.ref CR) "take_long_letter"=some (some (.ref f11)))
  (i_Reader_take_long_letter:PySem.W.isFn K (.ref f11)=true)
  (l_Reader_take_long_letter:K.lookup f11=some ⟨oc11,od11,.func (PySem.W.fnOf "take_long_letter" "Reader.take_long_letter" (defArgs s_Reader_take_long_letter) (defBody s_Reader_take_long_letter) (defScope s_Reader_take_long_letter) .none kV11 dc11 pm11 an11 cd11 ct11),sl11⟩)
  (c_Reader_take_long_letter:PySem.W.codeIn K cd11 "Reader.take_long_letter"=true)
  (k_Reader_take_long_letter:PySem.W.keepIn K (.ref f11)=true)
  (a_Reader_take_character:PySem.W.findIn K (.ref CR) "take_character"=some (some (.ref f12)))
  (i_Reader_take_character:PySem.W.isFn K (.ref f12)=true)
  (l_Reader_take_character:K.lookup f12=some ⟨oc12,od12,.func (PySem.W.fnOf "take_character" "Reader.take_character" (defArgs s_Reader_take_character) (defBody s_Reader_take_character) (defScope s_Reader_take_character) .none kV12 dc12 pm12 an12 cd12 ct12),sl12⟩)
  (c_Reader_take_character:PySem.W.codeIn K cd12 "Reader.take_character"=true)
  (k_Reader_take_character:PySem.W.keepIn K (.ref f12)=true)
  (a_Reader_ends_thing:PySem.W.findIn K (.ref CR) "ends_thing"=some (some (.ref f13)))
  (i_Reader_ends_thing:PySem.W.isFn K (.ref f13)=true)
  (l_Reader_ends_thing:K.lookup f13=some ⟨oc13,od13,.func (PySem.W.fnOf "ends_thing" "Reader.ends_thing" (defArgs s_Reader_ends_thing) (defBody s_Reader_ends_thing) (defScope s_Reader_ends_thing) .none kV13 dc13 pm13 an13 cd13 ct13),sl13⟩)
  (c_Reader_ends_thing:PySem.W.codeIn K cd13 "Reader.ends_thing"=true)
  (k_Reader_ends_thing:PySem.W.keepIn K (.ref f13)=true)
  (a_Reader_take_thing:PySem.W.findIn K (.ref CR) "take_thing"=some (some (.ref f14)))
  (i_Reader_take_thing:PySem.W.isFn K (.ref f14)=true)
  (l_Reader_take_thing:K.lookup f14=some ⟨oc14,od14,.func (PySem.W.fnOf "take_thing" "Reader.take_thing" (defArgs s_Reader_take_thing) (defBody s_Reader_take_thing) (defScope s_Reader_take_thing) .none kV14 dc14 pm14 an14 cd14 ct14),sl14⟩)
  (c_Reader_take_thing:PySem.W.codeIn K cd14 "Reader.take_thing"=true)
  (k_Reader_take_thing:PySem.W.keepIn K (.ref f14)=true)
  (a_Reader_take_things:PySem.W.findIn K (.ref CR) "take_things"=some (some (.ref f15)))
  (i_Reader_take_things:PySem.W.isFn K (.ref f15)=true)
  (l_Reader_take_things:K.lookup f15=some ⟨oc15,od15,.func (PySem.W.fnOf "take_things" "Reader.take_things" (defArgs s_Reader_take_things) (defBody s_Reader_take_things) (defScope s_Reader_take_things) .none kV15 dc15 pm15 an15 cd15 ct15),sl15⟩)
  (c_Reader_take_things:PySem.W.codeIn K cd15 "Reader.take_things"=true)
  (k_Reader_take_things:PySem.W.keepIn K (.ref f15)=true)
  (a_Reader_take_head:PySem.W.findIn K (.ref CR) "take_head"=some (some (.ref f16)))
  (i_Reader_take_head:PySem.W.isFn K (.ref f16)=true)
  (l_Reader_take_head:K.lookup f16=some ⟨oc16,od16,.func (PySem.W.fnOf "take_head" "Reader.take_head" (defArgs s_Reader_take_head) (defBody s_Reader_take_head) (defScope s_Reader_take_head) .none kV16 dc16 pm16 an16 cd16 ct16),sl16⟩)
  (c_Reader_take_head:PySem.W.codeIn K cd16 "Reader.take_head"=true)
  (k_Reader_take_head:PySem.W.keepIn K (.ref f16)=true)
  (a_joined:PySem.W.nsIn K mainGlobals "joined"=some (some (.ref f17)))
  (l_joined:K.lookup f17=some ⟨oc17,od17,.func (PySem.W.fnOf "joined" "joined" (defArgs s_joined) (defBody s_joined) (defScope s_joined) .none kV17 dc17 pm17 an17 cd17 ct17),sl17⟩)
  (c_joined:PySem.W.codeIn K cd17 "joined"=true)
  (k_joined:PySem.W.keepIn K (.ref f17)=true)
  (a_characters_of:PySem.W.nsIn K mainGlobals "characters_of"=some (some (.ref f18)))
  (l_characters_of:K.lookup f18=some ⟨oc18,od18,.func (PySem.W.fnOf "characters_of" "characters_of" (defArgs s_characters_of) (defBody s_characters_of) (defScope s_characters_of) .none kV18 dc18 pm18 an18 cd18 ct18),sl18⟩)
  (c_characters_of:PySem.W.codeIn K cd18 "characters_of"=true)
  (k_characters_of:PySem.W.keepIn K (.ref f18)=true)
  (a_bytes_of_character:PySem.W.nsIn K mainGlobals "bytes_of_character"=some (some (.ref f19)))
  (l_bytes_of_character:K.lookup f19=some ⟨oc19,od19,.func (PySem.W.fnOf "bytes_of_character" "bytes_of_character" (defArgs s_bytes_of_character) (defBody s_bytes_of_character) (defScope s_bytes_of_character) .none kV19 dc19 pm19 an19 cd19 ct19),sl19⟩)
  (c_bytes_of_character:PySem.W.codeIn K cd19 "bytes_of_character"=true)
  (k_bytes_of_character:PySem.W.keepIn K (.ref f19)=true)
  (a_bytes_of:PySem.W.nsIn K mainGlobals "bytes_of"=some (some (.ref f20)))
  (l_bytes_of:K.lookup f20=some ⟨oc20,od20,.func (PySem.W.fnOf "bytes_of" "bytes_of" (defArgs s_bytes_of) (defBody s_bytes_of) (defScope s_bytes_of) .none kV20 dc20 pm20 an20 cd20 ct20),sl20⟩)
  (c_bytes_of:PySem.W.codeIn K cd20 "bytes_of"=true)
  (k_bytes_of:PySem.W.keepIn K (.ref f20)=true)
  (a_Table_init:PySem.W.findIn K (.ref CT) "__init__"=some (some (.ref f21)))
  (i_Table_init:PySem.W.isFn K (.ref f21)=true)
  (l_Table_init:K.lookup f21=some ⟨oc21,od21,.func (PySem.W.fnOf "__init__" "Table.__init__" (defArgs s_Table_init) (defBody s_Table_init) (defScope s_Table_init) .none kV21 dc21 pm21 an21 cd21 ct21),sl21⟩)
  (c_Table_init:PySem.W.codeIn K cd21 "Table.__init__"=true)
  (k_Table_init:PySem.W.keepIn K (.ref f21)=true)
  (a_read_cell:PySem.W.nsIn K mainGlobals "read_cell"=some (some (.ref f22)))
  (l_read_cell:K.lookup f22=some ⟨oc22,od22,.func (PySem.W.fnOf "read_cell" "read_cell" (defArgs s_read_cell) (defBody s_read_cell) (defScope s_read_cell) .none kV22 dc22 pm22 an22 cd22 ct22),sl22⟩)
  (c_read_cell:PySem.W.codeIn K cd22 "read_cell"=true)
  (k_read_cell:PySem.W.keepIn K (.ref f22)=true)
  (a_read_row:PySem.W.nsIn K mainGlobals "read_row"=some (some (.ref f23)))
  (l_read_row:K.lookup f23=some ⟨oc23,od23,.func (PySem.W.fnOf "read_row" "read_row" (defArgs s_read_row) (defBody s_read_row) (defScope s_read_row) .none kV23 dc23 pm23 an23 cd23 ct23),sl23⟩)
  (c_read_row:PySem.W.codeIn K cd23 "read_row"=true)
  (k_read_row:PySem.W.keepIn K (.ref f23)=true)
  (a_line_cost:PySem.W.nsIn K mainGlobals "line_cost"=some (some (.ref f24)))
  (l_line_cost:K.lookup f24=some ⟨oc24,od24,.func (PySem.W.fnOf "line_cost" "line_cost" (defArgs s_line_cost) (defBody s_line_cost) (defScope s_line_cost) .none kV24 dc24 pm24 an24 cd24 ct24),sl24⟩)
  (c_line_cost:PySem.W.codeIn K cd24 "line_cost"=true)
  (k_line_cost:PySem.W.keepIn K (.ref f24)=true)
  (a_best_from:PySem.W.nsIn K mainGlobals "best_from"=some (some (.ref f25)))
  (l_best_from:K.lookup f25=some ⟨oc25,od25,.func (PySem.W.fnOf "best_from" "best_from" (defArgs s_best_from) (defBody s_best_from) (defScope s_best_from) .none kV25 dc25 pm25 an25 cd25 ct25),sl25⟩)
  (c_best_from:PySem.W.codeIn K cd25 "best_from"=true)
  (k_best_from:PySem.W.keepIn K (.ref f25)=true)
  (a_tails_of:PySem.W.nsIn K mainGlobals "tails_of"=some (some (.ref f26)))
  (l_tails_of:K.lookup f26=some ⟨oc26,od26,.func (PySem.W.fnOf "tails_of" "tails_of" (defArgs s_tails_of) (defBody s_tails_of) (defScope s_tails_of) .none kV26 dc26 pm26 an26 cd26 ct26),sl26⟩)
  (c_tails_of:PySem.W.codeIn K cd26 "tails_of"=true)
  (k_tails_of:PySem.W.keepIn K (.ref f26)=true)
  (a_ends_of:PySem.W.nsIn K mainGlobals "ends_of"=some (some (.ref f27)))
  (l_ends_of:K.lookup f27=some ⟨oc27,od27,.func (PySem.W.fnOf "ends_of" "ends_of" (defArgs s_ends_of) (defBody s_ends_of) (defScope s_ends_of) .none kV27 dc27 pm27 an27 cd27 ct27),sl27⟩)
  (c_ends_of:PySem.W.codeIn K cd27 "ends_of"=true)
  (k_ends_of:PySem.W.keepIn K (.ref f27)=true)
  (a_read_head:PySem.W.nsIn K mainGlobals "read_head"=some (some (.ref f28)))
  (l_read_head:K.lookup f28=some ⟨oc28,od28,.func (PySem.W.fnOf "read_head" "read_head" (defArgs s_read_head) (defBody s_read_head) (defScope s_read_head) .none kV28 dc28 pm28 an28 cd28 ct28),sl28⟩)
  (c_read_head:PySem.W.codeIn K cd28 "read_head"=true)
  (k_read_head:PySem.W.keepIn K (.ref f28)=true)
  (a_read_table:PySem.W.nsIn K mainGlobals "read_table"=some (some (.ref f29)))
  (l_read_table:K.lookup f29=some ⟨oc29,od29,.func (PySem.W.fnOf "read_table" "read_table" (defArgs s_read_table) (defBody s_read_table) (defScope s_read_table) .none kV29 dc29 pm29 an29 cd29 ct29),sl29⟩)
  (c_read_table:PySem.W.codeIn K cd29 "read_table"=true)
  (k_read_table:PySem.W.keepIn K (.ref f29)=true)
  (a_joined_lines:PySem.W.nsIn K mainGlobals "joined_lines"=some (some (.ref f30)))
  (l_joined_lines:K.lookup f30=some ⟨oc30,od30,.func (PySem.W.fnOf "joined_lines" "joined_lines" (defArgs s_joined_lines) (defBody s_joined_lines) (defScope s_joined_lines) .none kV30 dc30 pm30 an30 cd30 ct30),sl30⟩)
  (c_joined_lines:PySem.W.codeIn K cd30 "joined_lines"=true)
  (k_joined_lines:PySem.W.keepIn K (.ref f30)=true)
  (a_lines_of_cell:PySem.W.nsIn K mainGlobals "lines_of_cell"=some (some (.ref f31)))
  (l_lines_of_cell:K.lookup f31=some ⟨oc31,od31,.func (PySem.W.fnOf "lines_of_cell" "lines_of_cell" (defArgs s_lines_of_cell) (defBody s_lines_of_cell) (defScope s_lines_of_cell) .none kV31 dc31 pm31 an31 cd31 ct31),sl31⟩)
  (c_lines_of_cell:PySem.W.codeIn K cd31 "lines_of_cell"=true)
  (k_lines_of_cell:PySem.W.keepIn K (.ref f31)=true)
  (a_line_at:PySem.W.nsIn K mainGlobals "line_at"=some (some (.ref f32)))
  (l_line_at:K.lookup f32=some ⟨oc32,od32,.func (PySem.W.fnOf "line_at" "line_at" (defArgs s_line_at) (defBody s_line_at) (defScope s_line_at) .none kV32 dc32 pm32 an32 cd32 ct32),sl32⟩)
  (c_line_at:PySem.W.codeIn K cd32 "line_at"=true)
  (k_line_at:PySem.W.keepIn K (.ref f32)=true)
  (a_filled_up:PySem.W.nsIn K mainGlobals "filled_up"=some (some (.ref f33)))
  (l_filled_up:K.lookup f33=some ⟨oc33,od33,.func (PySem.W.fnOf "filled_up" "filled_up" (defArgs s_filled_up) (defBody s_filled_up) (defScope s_filled_up) .none kV33 dc33 pm33 an33 cd33 ct33),sl33⟩)
  (c_filled_up:PySem.W.codeIn K cd33 "filled_up"=true)
  (k_filled_up:PySem.W.keepIn K (.ref f33)=true)
  (a_printed_line_of_row:PySem.W.nsIn K mainGlobals "printed_line_of_row"=some (some (.ref f34)))
  (l_printed_line_of_row:K.lookup f34=some ⟨oc34,od34,.func (PySem.W.fnOf "printed_line_of_row" "printed_line_of_row" (defArgs s_printed_line_of_row) (defBody s_printed_line_of_row) (defScope s_printed_line_of_row) .none kV34 dc34 pm34 an34 cd34 ct34),sl34⟩)
  (c_printed_line_of_row:PySem.W.codeIn K cd34 "printed_line_of_row"=true)
  (k_printed_line_of_row:PySem.W.keepIn K (.ref f34)=true)
  (a_printed_row:PySem.W.nsIn K mainGlobals "printed_row"=some (some (.ref f35)))
  (l_printed_row:K.lookup f35=some ⟨oc35,od35,.func (PySem.W.fnOf "printed_row" "printed_row" (defArgs s_printed_row) (defBody s_printed_row) (defScope s_printed_row) .none kV35 dc35 pm35 an35 cd35 ct35),sl35⟩)
  (c_printed_row:PySem.W.codeIn K cd35 "printed_row"=true)
  (k_printed_row:PySem.W.keepIn K (.ref f35)=true)
  (a_printed_table:PySem.W.nsIn K mainGlobals "printed_table"=some (some (.ref f36)))
  (l_printed_table:K.lookup f36=some ⟨oc36,od36,.func (PySem.W.fnOf "printed_table" "printed_table" (defArgs s_printed_table) (defBody s_printed_table) (defScope s_printed_table) .none kV36 dc36 pm36 an36 cd36 ct36),sl36⟩)
  (c_printed_table:PySem.W.codeIn K cd36 "printed_table"=true)
  (k_printed_table:PySem.W.keepIn K (.ref f36)=true)
  (a_read_words_shown:PySem.W.nsIn K mainGlobals "read_words_shown"=some (some (.ref f37)))
  (l_read_words_shown:K.lookup f37=some ⟨oc37,od37,.func (PySem.W.fnOf "read_words_shown" "read_words_shown" (defArgs s_read_words_shown) (defBody s_read_words_shown) (defScope s_read_words_shown) .none kV37 dc37 pm37 an37 cd37 ct37),sl37⟩)
  (c_read_words_shown:PySem.W.codeIn K cd37 "read_words_shown"=true)
  (k_read_words_shown:PySem.W.keepIn K (.ref f37)=true)
  (a_read_page_number:PySem.W.nsIn K mainGlobals "read_page_number"=some (some (.ref f38)))
  (l_read_page_number:K.lookup f38=some ⟨oc38,od38,.func (PySem.W.fnOf "read_page_number" "read_page_number" (defArgs s_read_page_number) (defBody s_read_page_number) (defScope s_read_page_number) .none kV38 dc38 pm38 an38 cd38 ct38),sl38⟩)
  (c_read_page_number:PySem.W.codeIn K cd38 "read_page_number"=true)
  (k_read_page_number:PySem.W.keepIn K (.ref f38)=true)
  (a_table_text:PySem.W.nsIn K mainGlobals "table_text"=some (some (.ref f39)))
  (l_table_text:K.lookup f39=some ⟨oc39,od39,.func (PySem.W.fnOf "table_text" "table_text" (defArgs s_table_text) (defBody s_table_text) (defScope s_table_text) .none kV39 dc39 pm39 an39 cd39 ct39),sl39⟩)
  (c_table_text:PySem.W.codeIn K cd39 "table_text"=true)
  (k_table_text:PySem.W.keepIn K (.ref f39)=true)
  (a_read_line_shown:PySem.W.nsIn K mainGlobals "read_line_shown"=some (some (.ref f40)))
  (l_read_line_shown:K.lookup f40=some ⟨oc40,od40,.func (PySem.W.fnOf "read_line_shown" "read_line_shown" (defArgs s_read_line_shown) (defBody s_read_line_shown) (defScope s_read_line_shown) .none kV40 dc40 pm40 an40 cd40 ct40),sl40⟩)
  (c_read_line_shown:PySem.W.codeIn K cd40 "read_line_shown"=true)
  (k_read_line_shown:PySem.W.keepIn K (.ref f40)=true)
  (a_read_columns:PySem.W.nsIn K mainGlobals "read_columns"=some (some (.ref f41)))
  (l_read_columns:K.lookup f41=some ⟨oc41,od41,.func (PySem.W.fnOf "read_columns" "read_columns" (defArgs s_read_columns) (defBody s_read_columns) (defScope s_read_columns) .none kV41 dc41 pm41 an41 cd41 ct41),sl41⟩)
  (c_read_columns:PySem.W.codeIn K cd41 "read_columns"=true)
  (k_read_columns:PySem.W.keepIn K (.ref f41)=true)
  (a_given_back:PySem.W.nsIn K mainGlobals "given_back"=some (some (.ref f42)))
  (l_given_back:K.lookup f42=some ⟨oc42,od42,.func (PySem.W.fnOf "given_back" "given_back" (defArgs s_given_back) (defBody s_given_back) (defScope s_given_back) .none kV42 dc42 pm42 an42 cd42 ct42),sl42⟩)
  (c_given_back:PySem.W.codeIn K cd42 "given_back"=true)
  (k_given_back:PySem.W.keepIn K (.ref f42)=true)
  (a_uncolumns:PySem.W.nsIn K mainGlobals "uncolumns"=some (some (.ref f43)))
  (l_uncolumns:K.lookup f43=some ⟨oc43,od43,.func (PySem.W.fnOf "uncolumns" "uncolumns" (defArgs s_uncolumns) (defBody s_uncolumns) (defScope s_uncolumns) .none kV43 dc43 pm43 an43 cd43 ct43),sl43⟩)
  (c_uncolumns:PySem.W.codeIn K cd43 "uncolumns"=true)
  (k_uncolumns:PySem.W.keepIn K (.ref f43)=true) :
  ∃ fd:FuncData,(∀ (s:Shared) (us:List Value),us.length=(["t"]:List Str).length→BindsTo s fd ⟨us,[]⟩ ((["t"]:List Str).zip us))∧∀ base:Heap,K.In base→base.Ns mainGlobals mg→base.BuiltinsAt mg PT→FnOk P w K mg base CX0 11 fa fd ["t"] (sp_uncolumns K PT):=by
 have e:=hfa.symm.trans (PySem.W.mg_of X G a_uncolumns)
 cases e
 have hc0:cd43=.ref c0:=by
  unfold PySem.W.tabIn at htab
  rw [a_uncolumns] at htab
  dsimp only at htab
  rw [l_uncolumns] at htab
  dsimp only at htab
  split at htab
  ·rename_i c1 hc1
   split at htab
   ·split at htab
    ·injection htab with htab
     injection htab with h1 h2
     first | (rw [← h1];exact hc1) | rw [← h1]
    ·cases htab
   ·cases htab
  ·cases htab
 subst hc0
 have nl':∀ b o,K.lookup b=some o→o.cls≠.type "list":=fun b o hb z=>by
  have q:=List.all_eq_true.mp nl _ (mem_lk hb)
  rw [z] at q
  exact absurd q (by decide)
 have T:Txt K mg ⟨CE,CR,CT,aMARKS,aENDS,aTABLE_BOUNDS,PT⟩:={
  exc:=⟨PySem.W.mg_of X G aCE,qCE⟩
  clReader:=⟨pgR,hdR,poR,saR⟩
  clTable:=⟨pgT,hdT,poT,saT⟩
  n_t:=nR_t
  n_at:=nR_at
  nT_width:=nT_width
  nT_height:=nT_height
  nT_cell_count:=nT_cell_count
  nT_head:=nT_head
  nT_rows:=nT_rows
  nl:=nl'
  len:=PySem.W.ns_none_of X G bl_len
  ord:=PySem.W.ns_none_of X G bl_ord
  min:=PySem.W.ns_none_of X G bl_min
  max:=PySem.W.ns_none_of X G bl_max
  range:=PySem.W.ns_none_of X G bl_range
  enumerate:=PySem.W.ns_none_of X G bl_enumerate
  str:=PySem.W.ns_none_of X G bl_str
  list:=PySem.W.ns_none_of X G bl_list
  sum:=PySem.W.ns_none_of X G bl_sum
  cBLANK:=⟨tBLANK,PySem.W.mg_of X G iBLANK⟩
  cSTROKE:=⟨tSTROKE,PySem.W.mg_of X G iSTROKE⟩
  cFIRST_LETTER:=⟨tFIRST_LETTER,PySem.W.mg_of X G iFIRST_LETTER⟩
  cMOST_LETTERS:=⟨tMOST_LETTERS,PySem.W.mg_of X G iMOST_LETTERS⟩
  cNO_BYTE:=⟨tNO_BYTE,PySem.W.mg_of X G iNO_BYTE⟩
  cMOST_TABLE_ROWS:=⟨tMOST_TABLE_ROWS,PySem.W.mg_of X G iMOST_TABLE_ROWS⟩
  cMOST_TABLE_WORDS:=⟨tMOST_TABLE_WORDS,PySem.W.mg_of X G iMOST_TABLE_WORDS⟩
  cMOST_TEXT_BYTES:=⟨tMOST_TEXT_BYTES,PySem.W.mg_of X G iMOST_TEXT_BYTES⟩
  cMOST_PRINTED_BYTES:=⟨tMOST_PRINTED_BYTES,PySem.W.mg_of X G iMOST_PRINTED_BYTES⟩
  cMARKS:=PySem.W.mg_of X G gMARKS
  tMARKS:=sqT_of lMARKS (by simp) (by first | exact .nil | (repeat (first | exact .nil | refine .cons ⟨_,rfl⟩ ?_ | refine .cons rfl ?_)))
  cENDS:=PySem.W.mg_of X G gENDS
  tENDS:=sqT_of lENDS (by simp) (by first | exact .nil | (repeat (first | exact .nil | refine .cons ⟨_,rfl⟩ ?_ | refine .cons rfl ?_)))
  cTABLE_BOUNDS:=PySem.W.mg_of X G gTABLE_BOUNDS
  tTABLE_BOUNDS:=⟨_,sqT_of (xs:=[V.ref bTABLE_BOUNDS0,V.ref bTABLE_BOUNDS1,V.ref bTABLE_BOUNDS2]) lTABLE_BOUNDS (by simp) (by first | exact .nil | (repeat (first | exact .nil | refine .cons ⟨_,rfl⟩ ?_ | refine .cons rfl ?_))),(.cons ⟨_,rfl,sqT_of lTABLE_BOUNDS0 (by simp) (by first | exact .nil | (repeat (first | exact .nil | refine .cons ⟨_,rfl⟩ ?_ | refine .cons rfl ?_))),by decide⟩ (.cons ⟨_,rfl,sqT_of lTABLE_BOUNDS1 (by simp) (by first | exact .nil | (repeat (first | exact .nil | refine .cons ⟨_,rfl⟩ ?_ | refine .cons rfl ?_))),by decide⟩ (.cons ⟨_,rfl,sqT_of lTABLE_BOUNDS2 (by simp) (by first | exact .nil | (repeat (first | exact .nil | refine .cons ⟨_,rfl⟩ ?_ | refine .cons rfl ?_))),by decide⟩ .nil)))⟩ }
 have F0:=fun_mk (st:=s_is_letter) l_is_letter c_is_letter k_is_letter
 have b0:Binds K _ ["character"] []:=fb1 F0 fun _ _ _ _ _ _ _=>rfl
 have F1:=fun_mk (st:=s_begins_some) l_begins_some c_begins_some k_begins_some
 have b1:Binds K _ ["value","low","high"] []:=fb3 F1 fun _ _ _ _ _ _ _ _ _=>rfl
 have F2:=fun_mk (st:=s_size_by_lead) l_size_by_lead c_size_by_lead k_size_by_lead
 have b2:Binds K _ ["lead"] []:=fb1 F2 fun _ _ _ _ _ _ _=>rfl
 have F3:=fun_mk (st:=s_bounds_behind) l_bounds_behind c_bounds_behind k_bounds_behind
 have b3:Binds K _ ["lead"] []:=fb1 F3 fun _ _ _ _ _ _ _=>rfl
 have F4:=fun_mk (st:=s_Reader_init) l_Reader_init c_Reader_init k_Reader_init
 have b4:Binds K _ ["self","t"] []:=fb2 F4 fun _ _ _ _ _ _ _ _=>rfl
 have F5:=fun_mk (st:=s_Reader_peek) l_Reader_peek c_Reader_peek k_Reader_peek
 have b5:Binds K _ ["self"] []:=fb1 F5 fun _ _ _ _ _ _ _=>rfl
 have F6:=fun_mk (st:=s_Reader_sees) l_Reader_sees c_Reader_sees k_Reader_sees
 have b6:Binds K _ ["self","sign"] []:=fb2 F6 fun _ _ _ _ _ _ _ _=>rfl
 have F7:=fun_mk (st:=s_Reader_take) l_Reader_take c_Reader_take k_Reader_take
 have b7:Binds K _ ["self","sign"] []:=fb2 F7 fun _ _ _ _ _ _ _ _=>rfl
 have F8:=fun_mk (st:=s_Reader_take_end) l_Reader_take_end c_Reader_take_end k_Reader_take_end
 have b8:Binds K _ ["self"] []:=fb1 F8 fun _ _ _ _ _ _ _=>rfl
 have F9:=fun_mk (st:=s_Reader_take_digit) l_Reader_take_digit c_Reader_take_digit k_Reader_take_digit
 have b9:Binds K _ ["self","value","low","high"] []:=fb4 F9 fun _ _ _ _ _ _ _ _ _ _=>rfl
 have F10:=fun_mk (st:=s_Reader_take_number) l_Reader_take_number c_Reader_take_number k_Reader_take_number
 have b10:Binds K _ ["self","low","high"] []:=fb3 F10 fun _ _ _ _ _ _ _ _ _=>rfl
 have F11:=fun_mk (st:=s_Reader_take_long_letter) l_Reader_take_long_letter c_Reader_take_long_letter k_Reader_take_long_letter
 have b11:Binds K _ ["self","lead","size"] []:=fb3 F11 fun _ _ _ _ _ _ _ _ _=>rfl
 have F12:=fun_mk (st:=s_Reader_take_character) l_Reader_take_character c_Reader_take_character k_Reader_take_character
 have b12:Binds K _ ["self","marks"] []:=fb2 F12 fun _ _ _ _ _ _ _ _=>rfl
 have F13:=fun_mk (st:=s_Reader_ends_thing) l_Reader_ends_thing c_Reader_ends_thing k_Reader_ends_thing
 have b13:Binds K _ ["self","marks"] []:=fb2 F13 fun _ _ _ _ _ _ _ _=>rfl
 have F14:=fun_mk (st:=s_Reader_take_thing) l_Reader_take_thing c_Reader_take_thing k_Reader_take_thing
 have b14:Binds K _ ["self","most","marks"] []:=fb3 F14 fun _ _ _ _ _ _ _ _ _=>rfl
 have F15:=fun_mk (st:=s_Reader_take_things) l_Reader_take_things c_Reader_take_things k_Reader_take_things
 have b15:Binds K _ ["self","most_things","most","marks"] []:=fb4 F15 fun _ _ _ _ _ _ _ _ _ _=>rfl
 have F16:=fun_mk (st:=s_Reader_take_head) l_Reader_take_head c_Reader_take_head k_Reader_take_head
 have b16:Binds K _ ["self","all_bounds"] []:=fb2 F16 fun _ _ _ _ _ _ _ _=>rfl
 have F17:=fun_mk (st:=s_joined) l_joined c_joined k_joined
 have b17:Binds K _ ["things","between"] []:=fb2 F17 fun _ _ _ _ _ _ _ _=>rfl
 have F18:=fun_mk (st:=s_characters_of) l_characters_of c_characters_of k_characters_of
 have b18:Binds K _ ["text"] []:=fb1 F18 fun _ _ _ _ _ _ _=>rfl
 have F19:=fun_mk (st:=s_bytes_of_character) l_bytes_of_character c_bytes_of_character k_bytes_of_character
 have b19:Binds K _ ["character"] []:=fb1 F19 fun _ _ _ _ _ _ _=>rfl
 have F20:=fun_mk (st:=s_bytes_of) l_bytes_of c_bytes_of k_bytes_of
 have b20:Binds K _ ["characters"] []:=fb1 F20 fun _ _ _ _ _ _ _=>rfl
 have F21:=fun_mk (st:=s_Table_init) l_Table_init c_Table_init k_Table_init
 have b21:Binds K _ ["self","settings"] []:=fb2 F21 fun _ _ _ _ _ _ _ _=>rfl
 have F22:=fun_mk (st:=s_read_cell) l_read_cell c_read_cell k_read_cell
 have b22:Binds K _ ["reader","left"] []:=fb2 F22 fun _ _ _ _ _ _ _ _=>rfl
 have F23:=fun_mk (st:=s_read_row) l_read_row c_read_row k_read_row
 have b23:Binds K _ ["reader","cell_count","left"] []:=fb3 F23 fun _ _ _ _ _ _ _ _ _=>rfl
 have F24:=fun_mk (st:=s_line_cost) l_line_cost c_line_cost k_line_cost
 have b24:Binds K _ ["taken","room","is_last"] []:=fb3 F24 fun _ _ _ _ _ _ _ _ _=>rfl
 have F25:=fun_mk (st:=s_best_from) l_best_from c_best_from k_best_from
 have b25:Binds K _ ["takes","tails","start","room"] []:=fb4 F25 fun _ _ _ _ _ _ _ _ _ _=>rfl
 have F26:=fun_mk (st:=s_tails_of) l_tails_of c_tails_of k_tails_of
 have b26:Binds K _ ["takes","room"] []:=fb2 F26 fun _ _ _ _ _ _ _ _=>rfl
 have F27:=fun_mk (st:=s_ends_of) l_ends_of c_ends_of k_ends_of
 have b27:Binds K _ ["takes","tails","first_room"] []:=fb3 F27 fun _ _ _ _ _ _ _ _ _=>rfl
 have F28:=fun_mk (st:=s_read_head) l_read_head c_read_head k_read_head
 have b28:Binds K _ ["reader"] []:=fb1 F28 fun _ _ _ _ _ _ _=>rfl
 have F29:=fun_mk (st:=s_read_table) l_read_table c_read_table k_read_table
 have b29:Binds K _ ["reader"] []:=fb1 F29 fun _ _ _ _ _ _ _=>rfl
 have F30:=fun_mk (st:=s_joined_lines) l_joined_lines c_joined_lines k_joined_lines
 have b30:Binds K _ ["things","ends"] []:=fb2 F30 fun _ _ _ _ _ _ _ _=>rfl
 have F31:=fun_mk (st:=s_lines_of_cell) l_lines_of_cell c_lines_of_cell k_lines_of_cell
 have b31:Binds K _ ["cell","width"] []:=fb2 F31 fun _ _ _ _ _ _ _ _=>rfl
 have F32:=fun_mk (st:=s_line_at) l_line_at c_line_at k_line_at
 have b32:Binds K _ ["lines","at"] []:=fb2 F32 fun _ _ _ _ _ _ _ _=>rfl
 have F33:=fun_mk (st:=s_filled_up) l_filled_up c_filled_up k_filled_up
 have b33:Binds K _ ["line","width"] []:=fb2 F33 fun _ _ _ _ _ _ _ _=>rfl
 have F34:=fun_mk (st:=s_printed_line_of_row) l_printed_line_of_row c_printed_line_of_row k_printed_line_of_row
 have b34:Binds K _ ["cells","at","width"] []:=fb3 F34 fun _ _ _ _ _ _ _ _ _=>rfl
 have F35:=fun_mk (st:=s_printed_row) l_printed_row c_printed_row k_printed_row
 have b35:Binds K _ ["row","width"] []:=fb2 F35 fun _ _ _ _ _ _ _ _=>rfl
 have F36:=fun_mk (st:=s_printed_table) l_printed_table c_printed_table k_printed_table
 have b36:Binds K _ ["table"] []:=fb1 F36 fun _ _ _ _ _ _ _=>rfl
 have F37:=fun_mk (st:=s_read_words_shown) l_read_words_shown c_read_words_shown k_read_words_shown
 have b37:Binds K _ ["reader"] []:=fb1 F37 fun _ _ _ _ _ _ _=>rfl
 have F38:=fun_mk (st:=s_read_page_number) l_read_page_number c_read_page_number k_read_page_number
 have b38:Binds K _ ["reader","number"] []:=fb2 F38 fun _ _ _ _ _ _ _ _=>rfl
 have F39:=fun_mk (st:=s_table_text) l_table_text c_table_text k_table_text
 have b39:Binds K _ ["table"] []:=fb1 F39 fun _ _ _ _ _ _ _=>rfl
 have F40:=fun_mk (st:=s_read_line_shown) l_read_line_shown c_read_line_shown k_read_line_shown
 have b40:Binds K _ ["reader","table"] []:=fb2 F40 fun _ _ _ _ _ _ _ _=>rfl
 have F41:=fun_mk (st:=s_read_columns) l_read_columns c_read_columns k_read_columns
 have b41:Binds K _ ["reader"] []:=fb1 F41 fun _ _ _ _ _ _ _=>rfl
 have F42:=fun_mk (st:=s_given_back) l_given_back c_given_back k_given_back
 have b42:Binds K _ ["t","text_told","printed_again"] []:=fb3 F42 fun _ _ _ _ _ _ _ _ _=>rfl
 have F43:=fun_mk (st:=s_uncolumns) l_uncolumns c_uncolumns k_uncolumns
 have b43:Binds K _ ["t"] []:=fb1 F43 fun _ _ _ _ _ _ _=>rfl
 refine ⟨PySem.W.fnOf "uncolumns" "uncolumns" (defArgs s_uncolumns) (defBody s_uncolumns) (defScope s_uncolumns) .none kV43 dc43 pm43 an43 (.ref c0) ct43,fun s us hu=>match us,hu with | [_],_=>.of_eq rfl,fun base _ _ hB=>?_⟩
 have C_is_letter:∀ base:Heap,FnC P w K mg base CX0 1 "is_letter" ["character"] (sp_is_letter K ⟨CE,CR,CT,aMARKS,aENDS,aTABLE_BOUNDS,PT⟩):=fun base=>⟨⟨f0,_,PySem.W.mg_of X G a_is_letter,k_is_letter,b0,(ok_is_letter F0 T)⟩⟩
 have C_begins_some:∀ base:Heap,FnC P w K mg base CX0 1 "begins_some" ["value","low","high"] (sp_begins_some K ⟨CE,CR,CT,aMARKS,aENDS,aTABLE_BOUNDS,PT⟩):=fun base=>⟨⟨f1,_,PySem.W.mg_of X G a_begins_some,k_begins_some,b1,(ok_begins_some F1 T)⟩⟩
 have C_size_by_lead:∀ base:Heap,FnC P w K mg base CX0 1 "size_by_lead" ["lead"] (sp_size_by_lead K ⟨CE,CR,CT,aMARKS,aENDS,aTABLE_BOUNDS,PT⟩):=fun base=>⟨⟨f2,_,PySem.W.mg_of X G a_size_by_lead,k_size_by_lead,b2,(ok_size_by_lead F2 T)⟩⟩
 have C_bounds_behind:∀ base:Heap,FnC P w K mg base CX0 1 "bounds_behind" ["lead"] (sp_bounds_behind K ⟨CE,CR,CT,aMARKS,aENDS,aTABLE_BOUNDS,PT⟩):=fun base=>⟨⟨f3,_,PySem.W.mg_of X G a_bounds_behind,k_bounds_behind,b3,(ok_bounds_behind F3 T)⟩⟩
 have C_Reader_init:∀ base:Heap,MakeC P w K mg base CX0 1 CR "Reader" ["self","t"] (sp_Reader_init K ⟨CE,CR,CT,aMARKS,aENDS,aTABLE_BOUNDS,PT⟩):=fun base=>⟨⟨f4,_,PySem.W.mg_of X G aCR,⟨mkR,a_Reader_init,i_Reader_init,kcR⟩,b4,(ok_Reader_init F4 T)⟩⟩
 have C_Reader_peek:∀ base:Heap,MethC P w K mg base CX0 1 CR "peek" ["self"] (sp_Reader_peek K ⟨CE,CR,CT,aMARKS,aENDS,aTABLE_BOUNDS,PT⟩):=fun base=>⟨⟨f5,_,⟨a_Reader_peek,i_Reader_peek,k_Reader_peek⟩,b5,(ok_Reader_peek F5 T)⟩⟩
 have C_Reader_sees:∀ base:Heap,MethC P w K mg base CX0 2 CR "sees" ["self","sign"] (sp_Reader_sees K ⟨CE,CR,CT,aMARKS,aENDS,aTABLE_BOUNDS,PT⟩):=fun base=>⟨⟨f6,_,⟨a_Reader_sees,i_Reader_sees,k_Reader_sees⟩,b6,(ok_Reader_sees F6 T (C_Reader_peek base))⟩⟩
 have C_Reader_take:∀ base:Heap,MethC P w K mg base (CX1 P w CE) 3 CR "take" ["self","sign"] (sp_Reader_take K ⟨CE,CR,CT,aMARKS,aENDS,aTABLE_BOUNDS,PT⟩):=fun base=>⟨⟨f7,_,⟨a_Reader_take,i_Reader_take,k_Reader_take⟩,b7,(ok_Reader_take F7 T (C_Reader_sees base))⟩⟩
 have C_Reader_take_end:∀ base:Heap,MethC P w K mg base (CX1 P w CE) 2 CR "take_end" ["self"] (sp_Reader_take_end K ⟨CE,CR,CT,aMARKS,aENDS,aTABLE_BOUNDS,PT⟩):=fun base=>⟨⟨f8,_,⟨a_Reader_take_end,i_Reader_take_end,k_Reader_take_end⟩,b8,(ok_Reader_take_end F8 T (C_Reader_peek base))⟩⟩
 have C_Reader_take_digit:∀ base:Heap,MethC P w K mg base (CX1 P w CE) 2 CR "take_digit" ["self","value","low","high"] (sp_Reader_take_digit K ⟨CE,CR,CT,aMARKS,aENDS,aTABLE_BOUNDS,PT⟩):=fun base=>⟨⟨f9,_,⟨a_Reader_take_digit,i_Reader_take_digit,k_Reader_take_digit⟩,b9,(ok_Reader_take_digit F9 T (C_Reader_peek base) (C_begins_some base))⟩⟩
 have C_Reader_take_number:∀ base:Heap,MethC P w K mg base (CX1 P w CE) 3 CR "take_number" ["self","low","high"] (sp_Reader_take_number K ⟨CE,CR,CT,aMARKS,aENDS,aTABLE_BOUNDS,PT⟩):=fun base=>⟨⟨f10,_,⟨a_Reader_take_number,i_Reader_take_number,k_Reader_take_number⟩,b10,(ok_Reader_take_number F10 T (C_Reader_take_digit base) (C_Reader_peek base))⟩⟩
 have C_Reader_take_long_letter:∀ base:Heap,MethC P w K mg base (CX1 P w CE) 2 CR "take_long_letter" ["self","lead","size"] (sp_Reader_take_long_letter K ⟨CE,CR,CT,aMARKS,aENDS,aTABLE_BOUNDS,PT⟩):=fun base=>⟨⟨f11,_,⟨a_Reader_take_long_letter,i_Reader_take_long_letter,k_Reader_take_long_letter⟩,b11,(ok_Reader_take_long_letter F11 T (C_bounds_behind base) (C_Reader_peek base) (C_is_letter base))⟩⟩
 have C_Reader_take_character:∀ base:Heap,MethC P w K mg base (CX1 P w CE) 3 CR "take_character" ["self","marks"] (sp_Reader_take_character K ⟨CE,CR,CT,aMARKS,aENDS,aTABLE_BOUNDS,PT⟩):=fun base=>⟨⟨f12,_,⟨a_Reader_take_character,i_Reader_take_character,k_Reader_take_character⟩,b12,(ok_Reader_take_character F12 T (C_Reader_peek base) (C_size_by_lead base) (C_Reader_take_long_letter base) (C_is_letter base))⟩⟩
 have C_Reader_ends_thing:∀ base:Heap,MethC P w K mg base CX0 2 CR "ends_thing" ["self","marks"] (sp_Reader_ends_thing K ⟨CE,CR,CT,aMARKS,aENDS,aTABLE_BOUNDS,PT⟩):=fun base=>⟨⟨f13,_,⟨a_Reader_ends_thing,i_Reader_ends_thing,k_Reader_ends_thing⟩,b13,(ok_Reader_ends_thing F13 T (C_Reader_peek base))⟩⟩
 have C_Reader_take_thing:∀ base:Heap,MethC P w K mg base (CX1 P w CE) 4 CR "take_thing" ["self","most","marks"] (sp_Reader_take_thing K ⟨CE,CR,CT,aMARKS,aENDS,aTABLE_BOUNDS,PT⟩):=fun base=>⟨⟨f14,_,⟨a_Reader_take_thing,i_Reader_take_thing,k_Reader_take_thing⟩,b14,(ok_Reader_take_thing F14 T (C_Reader_take_character base) (C_Reader_ends_thing base))⟩⟩
 have C_Reader_take_things:∀ base:Heap,MethC P w K mg base (CX1 P w CE) 5 CR "take_things" ["self","most_things","most","marks"] (sp_Reader_take_things K ⟨CE,CR,CT,aMARKS,aENDS,aTABLE_BOUNDS,PT⟩):=fun base=>⟨⟨f15,_,⟨a_Reader_take_things,i_Reader_take_things,k_Reader_take_things⟩,b15,(ok_Reader_take_things F15 T (C_Reader_take_thing base) (C_Reader_sees base) (C_Reader_take base))⟩⟩
 have C_Reader_take_head:∀ base:Heap,MethC P w K mg base (CX1 P w CE) 4 CR "take_head" ["self","all_bounds"] (sp_Reader_take_head K ⟨CE,CR,CT,aMARKS,aENDS,aTABLE_BOUNDS,PT⟩):=fun base=>⟨⟨f16,_,⟨a_Reader_take_head,i_Reader_take_head,k_Reader_take_head⟩,b16,(ok_Reader_take_head F16 T (C_Reader_take base) (C_Reader_take_number base))⟩⟩
 have C_joined:∀ base:Heap,FnC P w K mg base CX0 1 "joined" ["things","between"] (sp_joined K ⟨CE,CR,CT,aMARKS,aENDS,aTABLE_BOUNDS,PT⟩):=fun base=>⟨⟨f17,_,PySem.W.mg_of X G a_joined,k_joined,b17,(ok_joined F17 T)⟩⟩
 have C_characters_of:∀ base:Heap,FnC P w K mg base CX0 1 "characters_of" ["text"] (sp_characters_of K ⟨CE,CR,CT,aMARKS,aENDS,aTABLE_BOUNDS,PT⟩):=fun base=>⟨⟨f18,_,PySem.W.mg_of X G a_characters_of,k_characters_of,b18,(ok_characters_of F18 T)⟩⟩
 have C_bytes_of_character:∀ base:Heap,FnC P w K mg base CX0 1 "bytes_of_character" ["character"] (sp_bytes_of_character K ⟨CE,CR,CT,aMARKS,aENDS,aTABLE_BOUNDS,PT⟩):=fun base=>⟨⟨f19,_,PySem.W.mg_of X G a_bytes_of_character,k_bytes_of_character,b19,(ok_bytes_of_character F19 T)⟩⟩
 have C_bytes_of:∀ base:Heap,FnC P w K mg base CX0 2 "bytes_of" ["characters"] (sp_bytes_of K ⟨CE,CR,CT,aMARKS,aENDS,aTABLE_BOUNDS,PT⟩):=fun base=>⟨⟨f20,_,PySem.W.mg_of X G a_bytes_of,k_bytes_of,b20,(ok_bytes_of F20 T (C_bytes_of_character base))⟩⟩
 have C_Table_init:∀ base:Heap,MakeC P w K mg base CX0 1 CT "Table" ["self","settings"] (sp_Table_init K ⟨CE,CR,CT,aMARKS,aENDS,aTABLE_BOUNDS,PT⟩):=fun base=>⟨⟨f21,_,PySem.W.mg_of X G aCT,⟨mkT,a_Table_init,i_Table_init,kcT⟩,b21,(ok_Table_init F21 T)⟩⟩
 have C_read_cell:∀ base:Heap,FnC P w K mg base (CX1 P w CE) 6 "read_cell" ["reader","left"] (sp_read_cell K ⟨CE,CR,CT,aMARKS,aENDS,aTABLE_BOUNDS,PT⟩):=fun base=>⟨⟨f22,_,PySem.W.mg_of X G a_read_cell,k_read_cell,b22,(ok_read_cell F22 T (C_Reader_take_things base) (C_Reader_sees base))⟩⟩
 have C_read_row:∀ base:Heap,FnC P w K mg base (CX1 P w CE) 7 "read_row" ["reader","cell_count","left"] (sp_read_row K ⟨CE,CR,CT,aMARKS,aENDS,aTABLE_BOUNDS,PT⟩):=fun base=>⟨⟨f23,_,PySem.W.mg_of X G a_read_row,k_read_row,b23,(ok_read_row F23 T (C_Reader_take base) (C_read_cell base))⟩⟩
 have C_line_cost:∀ base:Heap,FnC P w K mg base CX0 1 "line_cost" ["taken","room","is_last"] (sp_line_cost K ⟨CE,CR,CT,aMARKS,aENDS,aTABLE_BOUNDS,PT⟩):=fun base=>⟨⟨f24,_,PySem.W.mg_of X G a_line_cost,k_line_cost,b24,(ok_line_cost F24 T)⟩⟩
 have C_best_from:∀ base:Heap,FnC P w K mg base CX0 2 "best_from" ["takes","tails","start","room"] (sp_best_from K ⟨CE,CR,CT,aMARKS,aENDS,aTABLE_BOUNDS,PT⟩):=fun base=>⟨⟨f25,_,PySem.W.mg_of X G a_best_from,k_best_from,b25,(ok_best_from F25 T (C_line_cost base))⟩⟩
 have C_tails_of:∀ base:Heap,FnC P w K mg base CX0 3 "tails_of" ["takes","room"] (sp_tails_of K ⟨CE,CR,CT,aMARKS,aENDS,aTABLE_BOUNDS,PT⟩):=fun base=>⟨⟨f26,_,PySem.W.mg_of X G a_tails_of,k_tails_of,b26,(ok_tails_of F26 T (C_best_from base))⟩⟩
 have C_ends_of:∀ base:Heap,FnC P w K mg base CX0 3 "ends_of" ["takes","tails","first_room"] (sp_ends_of K ⟨CE,CR,CT,aMARKS,aENDS,aTABLE_BOUNDS,PT⟩):=fun base=>⟨⟨f27,_,PySem.W.mg_of X G a_ends_of,k_ends_of,b27,(ok_ends_of F27 T (C_best_from base))⟩⟩
 have C_read_head:∀ base:Heap,FnC P w K mg base (CX1 P w CE) 5 "read_head" ["reader"] (sp_read_head K ⟨CE,CR,CT,aMARKS,aENDS,aTABLE_BOUNDS,PT⟩):=fun base=>⟨⟨f28,_,PySem.W.mg_of X G a_read_head,k_read_head,b28,(ok_read_head F28 T (C_Table_init base) (C_Reader_take_head base))⟩⟩
 have C_read_table:∀ base:Heap,FnC P w K mg base (CX1 P w CE) 8 "read_table" ["reader"] (sp_read_table K ⟨CE,CR,CT,aMARKS,aENDS,aTABLE_BOUNDS,PT⟩):=fun base=>⟨⟨f29,_,PySem.W.mg_of X G a_read_table,k_read_table,b29,(ok_read_table F29 T (C_read_head base) (C_Reader_take_end base) (C_Reader_sees base) (C_read_row base))⟩⟩
 have C_joined_lines:∀ base:Heap,FnC P w K mg base CX0 2 "joined_lines" ["things","ends"] (sp_joined_lines K ⟨CE,CR,CT,aMARKS,aENDS,aTABLE_BOUNDS,PT⟩):=fun base=>⟨⟨f30,_,PySem.W.mg_of X G a_joined_lines,k_joined_lines,b30,(ok_joined_lines F30 T (C_joined base))⟩⟩
 have C_lines_of_cell:∀ base:Heap,FnC P w K mg base CX0 4 "lines_of_cell" ["cell","width"] (sp_lines_of_cell K ⟨CE,CR,CT,aMARKS,aENDS,aTABLE_BOUNDS,PT⟩):=fun base=>⟨⟨f31,_,PySem.W.mg_of X G a_lines_of_cell,k_lines_of_cell,b31,(ok_lines_of_cell F31 T (C_joined_lines base) (C_ends_of base) (C_tails_of base))⟩⟩
 have C_line_at:∀ base:Heap,FnC P w K mg base CX0 1 "line_at" ["lines","at"] (sp_line_at K ⟨CE,CR,CT,aMARKS,aENDS,aTABLE_BOUNDS,PT⟩):=fun base=>⟨⟨f32,_,PySem.W.mg_of X G a_line_at,k_line_at,b32,(ok_line_at F32 T)⟩⟩
 have C_filled_up:∀ base:Heap,FnC P w K mg base CX0 1 "filled_up" ["line","width"] (sp_filled_up K ⟨CE,CR,CT,aMARKS,aENDS,aTABLE_BOUNDS,PT⟩):=fun base=>⟨⟨f33,_,PySem.W.mg_of X G a_filled_up,k_filled_up,b33,(ok_filled_up F33 T)⟩⟩
 have C_printed_line_of_row:∀ base:Heap,FnC P w K mg base CX0 2 "printed_line_of_row" ["cells","at","width"] (sp_printed_line_of_row K ⟨CE,CR,CT,aMARKS,aENDS,aTABLE_BOUNDS,PT⟩):=fun base=>⟨⟨f34,_,PySem.W.mg_of X G a_printed_line_of_row,k_printed_line_of_row,b34,(ok_printed_line_of_row F34 T (C_filled_up base) (C_line_at base) (C_characters_of base) (C_joined base))⟩⟩
 have C_printed_row:∀ base:Heap,FnC P w K mg base CX0 5 "printed_row" ["row","width"] (sp_printed_row K ⟨CE,CR,CT,aMARKS,aENDS,aTABLE_BOUNDS,PT⟩):=fun base=>⟨⟨f35,_,PySem.W.mg_of X G a_printed_row,k_printed_row,b35,(ok_printed_row F35 T (C_lines_of_cell base) (C_printed_line_of_row base))⟩⟩
 have C_printed_table:∀ base:Heap,FnC P w K mg base CX0 6 "printed_table" ["table"] (sp_printed_table K ⟨CE,CR,CT,aMARKS,aENDS,aTABLE_BOUNDS,PT⟩):=fun base=>⟨⟨f36,_,PySem.W.mg_of X G a_printed_table,k_printed_table,b36,(ok_printed_table F36 T (C_bytes_of base) (C_printed_row base) (C_characters_of base))⟩⟩
 have C_read_words_shown:∀ base:Heap,FnC P w K mg base (CX1 P w CE) 5 "read_words_shown" ["reader"] (sp_read_words_shown K ⟨CE,CR,CT,aMARKS,aENDS,aTABLE_BOUNDS,PT⟩):=fun base=>⟨⟨f37,_,PySem.W.mg_of X G a_read_words_shown,k_read_words_shown,b37,(ok_read_words_shown F37 T (C_Reader_sees base) (C_Reader_take base) (C_Reader_take_thing base))⟩⟩
 have C_read_page_number:∀ base:Heap,FnC P w K mg base (CX1 P w CE) 4 "read_page_number" ["reader","number"] (sp_read_page_number K ⟨CE,CR,CT,aMARKS,aENDS,aTABLE_BOUNDS,PT⟩):=fun base=>⟨⟨f38,_,PySem.W.mg_of X G a_read_page_number,k_read_page_number,b38,(ok_read_page_number F38 T (C_Reader_take base) (C_Reader_take_number base))⟩⟩
 have C_table_text:∀ base:Heap,FnC P w K mg base CX0 3 "table_text" ["table"] (sp_table_text K ⟨CE,CR,CT,aMARKS,aENDS,aTABLE_BOUNDS,PT⟩):=fun base=>⟨⟨f39,_,PySem.W.mg_of X G a_table_text,k_table_text,b39,(ok_table_text F39 T (C_bytes_of base) (C_characters_of base) (C_joined base))⟩⟩
 have C_read_line_shown:∀ base:Heap,FnC P w K mg base (CX1 P w CE) 6 "read_line_shown" ["reader","table"] (sp_read_line_shown K ⟨CE,CR,CT,aMARKS,aENDS,aTABLE_BOUNDS,PT⟩):=fun base=>⟨⟨f40,_,PySem.W.mg_of X G a_read_line_shown,k_read_line_shown,b40,(ok_read_line_shown F40 T (C_Reader_sees base) (C_Reader_take base) (C_read_words_shown base))⟩⟩
 have C_read_columns:∀ base:Heap,FnC P w K mg base (CX1 P w CE) 7 "read_columns" ["reader"] (sp_read_columns K ⟨CE,CR,CT,aMARKS,aENDS,aTABLE_BOUNDS,PT⟩):=fun base=>⟨⟨f41,_,PySem.W.mg_of X G a_read_columns,k_read_columns,b41,(ok_read_columns F41 T (C_read_head base) (C_Reader_peek base) (C_Reader_sees base) (C_read_page_number base) (C_read_line_shown base))⟩⟩
 have C_given_back:∀ (base:Heap) (fL1 fL2:Addr) (fdL1 fdL2:FuncData),PySem.W.FnAt fL1 base→PySem.W.FnAt fL2 base→(∀ (s:Shared) (us:List Value),us.length=["reader"].length→BindsTo s fdL1 ⟨us,[]⟩ ((["reader"]:List Str).zip us))→(∀ (s:Shared) (us:List Value),us.length=["reader"].length→BindsTo s fdL2 ⟨us,[]⟩ ((["reader"]:List Str).zip us))→FnOk P w K mg base (CX1 P w CE) 8 fL1 fdL1 ["reader"] (spL1 K ⟨CE,CR,CT,aMARKS,aENDS,aTABLE_BOUNDS,PT⟩)→FnOk P w K mg base (CX1 P w CE) 9 fL2 fdL2 ["reader"] (spL2 K ⟨CE,CR,CT,aMARKS,aENDS,aTABLE_BOUNDS,PT⟩)→FnC P w K mg base CX0 10 "given_back" ["t","text_told","printed_again"] (spA K ⟨CE,CR,CT,aMARKS,aENDS,aTABLE_BOUNDS,PT⟩ fL1 fL2):=fun base fL1 fL2 fdL1 fdL2 h1 h2 h3 h4 h5 h6=>⟨⟨f42,_,PySem.W.mg_of X G a_given_back,k_given_back,b42,ok_given_back F42 T h1 h2 h5 h6 h3 h4 (C_Reader_init base)⟩⟩
 have fin:=ok_uncolumns (P:=P) (w:=w) (base:=base) (a:=⟨CE,CR,CT,aMARKS,aENDS,aTABLE_BOUNDS,PT⟩) l_uncolumns c_uncolumns T hC hB hgP (PySem.W.mg_of X G a_given_back) k_given_back C_given_back C_table_text C_read_columns C_printed_table C_read_table
 exact fin
end Vp
theorem Vp.ans_uncolumns (l:List Int) (h:(PageNeutral.text l).length≤8191):(PyWqasbc.uncolumns l).map L2.V.int=Vp.ansU (PageNeutral.text l):=by
 have e:PyWqasbc.uncolumns l=PageNeutral.shown (VhG.answer (.uncolumns (PageNeutral.text l))):=rfl
 rw [e]
 unfold VhG.answer Vp.ansU
 dsimp only
 rw [if_neg (show ¬ VhPage.WIDE<(PageNeutral.text l).length by unfold VhPage.WIDE;lia),Vp.back_eq]
 cases VhPage.uncolumned (PageNeutral.text l) with
 | none=>rfl
 | some x =>
  show ((((x.text.length:Int)::x.text.map fun (c:UInt8)=>(c.toNat:Int))).map L2.V.int)=_
  rw [List.map_cons,List.map_map];rfl
theorem Vp.u8_map (l:List Int) (h:∀ x∈l,0≤x∧x≤255):l.map L2.V.int=Vp.bsV (PageNeutral.text l):=by
 unfold Vp.bsV PageNeutral.text
 rw [List.map_map]
 refine List.map_congr_left fun x hx=>?_
 have b:=h x hx
 show L2.V.int x=L2.V.int ((UInt8.ofNat x.toNat).toNat:Int)
 rw [UInt8.toNat_ofNat',Nat.mod_eq_of_lt (by lia),Int.toNat_of_nonneg b.1]
namespace PySem.W.Fast
end PySem.W.Fast
namespace PySem.W.Fast
theorem tw10047296619992968701:True:=⟨⟩
theorem tw10069557267476848997:True:=⟨⟩
theorem tw10176928848664114736:True:=⟨⟩
theorem tw10363306928904861272:True:=⟨⟩
theorem tw1037844742149966697:True:=⟨⟩
theorem tw10422652889004463324:True:=⟨⟩
theorem tw10430699964603399239:True:=⟨⟩
theorem tw10513793342058865565:True:=⟨⟩
theorem tw10517960932484029482:True:=⟨⟩
theorem tw10524670312987625563:True:=⟨⟩
theorem tw10537071544589358932:True:=⟨⟩
theorem tw10554055658243520397:True:=⟨⟩
theorem tw10582413009284992754:True:=⟨⟩
theorem tw10607052852308474061:True:=⟨⟩
theorem tw10710142896078012545:True:=⟨⟩
theorem tw10717374609010229670:True:=⟨⟩
theorem tw10756947134658730086:True:=⟨⟩
theorem tw10797683393029822518:True:=⟨⟩
theorem tw1081859402236378486:True:=⟨⟩
theorem tw10957832721856183325:True:=⟨⟩
theorem tw10989815325112588895:True:=⟨⟩
theorem tw1100889717631717681:True:=⟨⟩
theorem tw11091320351725180816:True:=⟨⟩
theorem tw11102638210455532578:True:=⟨⟩
theorem tw11150318938948496231:True:=⟨⟩
theorem tw11199023791494858585:True:=⟨⟩
theorem tw11210914517992827094:True:=⟨⟩
theorem tw11226872177889071567:True:=⟨⟩
theorem tw1127200022673956478:True:=⟨⟩
theorem tw11273901645310774251:True:=⟨⟩
theorem tw11282692183860999098:True:=⟨⟩
theorem tw11377679617412217008:True:=⟨⟩
theorem tw11402684895733388615:True:=⟨⟩
theorem tw11404733190738557815:True:=⟨⟩
theorem tw11444977160884122912:True:=⟨⟩
theorem tw11464725474094571300:True:=⟨⟩
theorem tw11481363047921495609:True:=⟨⟩
theorem tw11528437941740343865:True:=⟨⟩
theorem tw11536518513560147448:True:=⟨⟩
theorem tw11574415899533541406:True:=⟨⟩
theorem tw11576697711507400543:True:=⟨⟩
theorem tw11619916025963135896:True:=⟨⟩
theorem tw11676748066429863979:True:=⟨⟩
theorem tw11681444309664740599:True:=⟨⟩
theorem tw11709748704139944795:True:=⟨⟩
theorem tw11884819737460007204:True:=⟨⟩
theorem tw1192616892698849827:True:=⟨⟩
theorem tw11942383072854178636:True:=⟨⟩
theorem tw12041791316962560306:True:=⟨⟩
theorem tw1208410366608232541:True:=⟨⟩
theorem tw121221451649712387:True:=⟨⟩
theorem tw12155460460898680286:True:=⟨⟩
theorem tw12163283930732734999:True:=⟨⟩
theorem tw12179515086498652185:True:=⟨⟩
theorem tw12256465111939378540:True:=⟨⟩
theorem tw12291258091447298514:True:=⟨⟩
theorem tw12300425976871383195:True:=⟨⟩
theorem tw12347019848132663094:True:=⟨⟩
theorem tw12374960667029635546:True:=⟨⟩
theorem tw12378105035221463145:True:=⟨⟩
theorem tw12402253200519309903:True:=⟨⟩
theorem tw12516332752313338500:True:=⟨⟩
theorem tw12548185840833747386:True:=⟨⟩
theorem tw1257415691086321913:True:=⟨⟩
theorem tw12605990108111628232:True:=⟨⟩
theorem tw12612301529803628382:True:=⟨⟩
theorem tw12624467381196836201:True:=⟨⟩
theorem tw12700830929396247003:True:=⟨⟩
theorem tw1280533172240927142:True:=⟨⟩
theorem tw1280948612170371334:True:=⟨⟩
theorem tw12956682852379604406:True:=⟨⟩
theorem tw13036586671148318406:True:=⟨⟩
theorem tw13070893609466814188:True:=⟨⟩
theorem tw13097519179623153716:True:=⟨⟩
theorem tw13111855219529530171:True:=⟨⟩
theorem tw13177458417593083485:True:=⟨⟩
theorem tw13196428127779304280:True:=⟨⟩
theorem tw1320558403861494652:True:=⟨⟩
theorem tw13279411877717466387:True:=⟨⟩
theorem tw13281960505543489584:True:=⟨⟩
theorem tw13320087540219028545:True:=⟨⟩
theorem tw13361660037054715336:True:=⟨⟩
theorem tw13368786916717593277:True:=⟨⟩
theorem tw13394747412113093516:True:=⟨⟩
theorem tw13519091846463923276:True:=⟨⟩
theorem tw13589826731737950213:True:=⟨⟩
theorem tw13630718738905380262:True:=⟨⟩
theorem tw13749844486725497943:True:=⟨⟩
theorem tw13756717471460668327:True:=⟨⟩
theorem tw13777067831204887043:True:=⟨⟩
theorem tw13803891421381932951:True:=⟨⟩
theorem tw13858912611056095442:True:=⟨⟩
theorem tw13862878685036138471:True:=⟨⟩
theorem tw1393865310237674637:True:=⟨⟩
theorem tw13955682257232487314:True:=⟨⟩
theorem tw14000407233948298135:True:=⟨⟩
theorem tw14013483293376100127:True:=⟨⟩
theorem tw14055966091074586904:True:=⟨⟩
theorem tw14133187979399535130:True:=⟨⟩
theorem tw14253794869772487366:True:=⟨⟩
theorem tw1437814107476718789:True:=⟨⟩
theorem tw1448716025283502923:True:=⟨⟩
theorem tw145265508569693565:True:=⟨⟩
theorem tw1454925066462669793:True:=⟨⟩
theorem tw14554880718222474502:True:=⟨⟩
theorem tw14735659255122151166:True:=⟨⟩
theorem tw14802757787984837894:True:=⟨⟩
theorem tw14816461768524959671:True:=⟨⟩
theorem tw14831917213904097461:True:=⟨⟩
theorem tw14845643814641670194:True:=⟨⟩
theorem tw14858348883035125976:True:=⟨⟩
theorem tw14936363459183880907:True:=⟨⟩
theorem tw14950708581770186964:True:=⟨⟩
theorem tw14972976350127444783:True:=⟨⟩
theorem tw15016800575795132922:True:=⟨⟩
theorem tw1517390604143922341:True:=⟨⟩
theorem tw15300297678051650320:True:=⟨⟩
theorem tw15327703693605560992:True:=⟨⟩
theorem tw15465021045129206973:True:=⟨⟩
theorem tw15500686121720926718:True:=⟨⟩
theorem tw156336272900787330:True:=⟨⟩
theorem tw15664206265762450843:True:=⟨⟩
theorem tw15693675457631843591:True:=⟨⟩
theorem tw15772175576782893486:True:=⟨⟩
theorem tw15807973930493297819:True:=⟨⟩
theorem tw15834916274188853490:True:=⟨⟩
theorem tw15864138529374067833:True:=⟨⟩
theorem tw15867956461516613409:True:=⟨⟩
theorem tw15879186319070388851:True:=⟨⟩
theorem tw15901256148795319189:True:=⟨⟩
theorem tw15904855717200156696:True:=⟨⟩
theorem tw15967940706493906390:True:=⟨⟩
theorem tw16153811030276398431:True:=⟨⟩
theorem tw16223930302044748042:True:=⟨⟩
theorem tw16257540869839018239:True:=⟨⟩
theorem tw16276397409993664199:True:=⟨⟩
theorem tw16280526988952152209:True:=⟨⟩
theorem tw16340276932774362742:True:=⟨⟩
theorem tw16354193723672371319:True:=⟨⟩
theorem tw1635440888943652136:True:=⟨⟩
theorem tw16426927087209290354:True:=⟨⟩
theorem tw16440750715736882207:True:=⟨⟩
theorem tw16443177689924073140:True:=⟨⟩
theorem tw16477370246748556886:True:=⟨⟩
theorem tw1651428103230861518:True:=⟨⟩
theorem tw16540543185648454987:True:=⟨⟩
theorem tw16561743898755537851:True:=⟨⟩
theorem tw1671424985565278287:True:=⟨⟩
theorem tw16775579104045309032:True:=⟨⟩
theorem tw16800764258067121490:True:=⟨⟩
theorem tw16861327590087338712:True:=⟨⟩
theorem tw16863875526887948156:True:=⟨⟩
theorem tw16868569779862233131:True:=⟨⟩
theorem tw1689008105737653764:True:=⟨⟩
theorem tw16892359409531083099:True:=⟨⟩
theorem tw1690069760878187879:True:=⟨⟩
theorem tw16913752722143882518:True:=⟨⟩
theorem tw16943529076868986296:True:=⟨⟩
theorem tw16962275499511309030:True:=⟨⟩
theorem tw169842368079268559:True:=⟨⟩
theorem tw17003713205777841288:True:=⟨⟩
theorem tw17021934713252878198:True:=⟨⟩
theorem tw17026552940560780371:True:=⟨⟩
theorem tw170376865594225417:True:=⟨⟩
theorem tw17052057795534571447:True:=⟨⟩
theorem tw17095323575093881519:True:=⟨⟩
theorem tw1710263363377838465:True:=⟨⟩
theorem tw17107467649633142837:True:=⟨⟩
theorem tw17171128616121919743:True:=⟨⟩
theorem tw17291250650624034890:True:=⟨⟩
theorem tw17325364314424467615:True:=⟨⟩
theorem tw17339794846267579047:True:=⟨⟩
theorem tw1745870961287705601:True:=⟨⟩
theorem tw17467281047708881365:True:=⟨⟩
theorem tw17471855952493792361:True:=⟨⟩
theorem tw1752805896754206111:True:=⟨⟩
theorem tw17576071259436283322:True:=⟨⟩
theorem tw17603319407297731538:True:=⟨⟩
theorem tw17637042626275620155:True:=⟨⟩
theorem tw17676122045617361258:True:=⟨⟩
theorem tw17683070420323704172:True:=⟨⟩
theorem tw17707253594803786854:True:=⟨⟩
theorem tw1772082336286298011:True:=⟨⟩
theorem tw17729111050173823007:True:=⟨⟩
theorem tw17750994899866890072:True:=⟨⟩
theorem tw17761616498671792510:True:=⟨⟩
theorem tw17765509763702270899:True:=⟨⟩
theorem tw17788117698404362505:True:=⟨⟩
theorem tw17833336478035069243:True:=⟨⟩
theorem tw17856067035437094024:True:=⟨⟩
theorem tw17930276764366501391:True:=⟨⟩
theorem tw17951010393830017063:True:=⟨⟩
theorem tw17994043679328613601:True:=⟨⟩
theorem tw1800638164689197891:True:=⟨⟩
theorem tw1802489472221344482:True:=⟨⟩
theorem tw18099518257320855014:True:=⟨⟩
theorem tw18100870929632521030:True:=⟨⟩
theorem tw18147035790672271327:True:=⟨⟩
theorem tw18206731210776766132:True:=⟨⟩
theorem tw18215290309000720175:True:=⟨⟩
theorem tw18260084456832791920:True:=⟨⟩
theorem tw18311309880929561096:True:=⟨⟩
theorem tw18315080835419213473:True:=⟨⟩
theorem tw18317377857928524174:True:=⟨⟩
theorem tw18338649200429721689:True:=⟨⟩
theorem tw18390223352199243305:True:=⟨⟩
theorem tw18414145437242892277:True:=⟨⟩
theorem tw1897793924318745372:True:=⟨⟩
theorem tw1924083980387785112:True:=⟨⟩
theorem tw1956680107447666712:True:=⟨⟩
theorem tw196862783451072814:True:=⟨⟩
theorem tw2023451973638775473:True:=⟨⟩
theorem tw2026078784490827440:True:=⟨⟩
theorem tw204757948315040830:True:=⟨⟩
theorem tw216663474651687028:True:=⟨⟩
theorem tw2187613993214275339:True:=⟨⟩
theorem tw2232435516219807929:True:=⟨⟩
theorem tw225982335590211206:True:=⟨⟩
theorem tw2277376023909182859:True:=⟨⟩
theorem tw2354103009496463488:True:=⟨⟩
theorem tw2368924130365331262:True:=⟨⟩
theorem tw2373981759773420920:True:=⟨⟩
theorem tw2429510792298632586:True:=⟨⟩
theorem tw2440268359652696215:True:=⟨⟩
theorem tw2443402865862004463:True:=⟨⟩
theorem tw2523070494291075491:True:=⟨⟩
theorem tw2583038434388001432:True:=⟨⟩
theorem tw2623031427317500235:True:=⟨⟩
theorem tw2623539311346764070:True:=⟨⟩
theorem tw2646089180858645466:True:=⟨⟩
theorem tw2696490225373388247:True:=⟨⟩
theorem tw2714676351802659726:True:=⟨⟩
theorem tw2754787145112805112:True:=⟨⟩
theorem tw2795255606011457770:True:=⟨⟩
theorem tw2904836982721917196:True:=⟨⟩
theorem tw2957089715091542634:True:=⟨⟩
theorem tw2993135947804136915:True:=⟨⟩
theorem tw3097168868352056743:True:=⟨⟩
theorem tw3142258572774681371:True:=⟨⟩
theorem tw3283019481495723233:True:=⟨⟩
theorem tw33556604059577866:True:=⟨⟩
theorem tw3434036308098617629:True:=⟨⟩
theorem tw3452098794751471599:True:=⟨⟩
theorem tw3501195680383696660:True:=⟨⟩
theorem tw3679457463642204393:True:=⟨⟩
theorem tw3680143393064078572:True:=⟨⟩
theorem tw368312575553160100:True:=⟨⟩
theorem tw3693104001577449898:True:=⟨⟩
theorem tw3709748701910027442:True:=⟨⟩
theorem tw3931246934200213993:True:=⟨⟩
theorem tw3941688247006841458:True:=⟨⟩
theorem tw398928810659769668:True:=⟨⟩
theorem tw3990846904626950174:True:=⟨⟩
theorem tw4005350973647706451:True:=⟨⟩
theorem tw4008862934995150188:True:=⟨⟩
theorem tw4018917524396967022:True:=⟨⟩
theorem tw4044081384450605367:True:=⟨⟩
theorem tw4071418925397491363:True:=⟨⟩
theorem tw4110657738387699435:True:=⟨⟩
theorem tw4157423336848021964:True:=⟨⟩
theorem tw4189876018651862197:True:=⟨⟩
theorem tw4222698704151228339:True:=⟨⟩
theorem tw428962894084431725:True:=⟨⟩
theorem tw4329100989885182490:True:=⟨⟩
theorem tw434160711184205183:True:=⟨⟩
theorem tw4407372342425964307:True:=⟨⟩
theorem tw4458128731218927984:True:=⟨⟩
theorem tw4525377688791536090:True:=⟨⟩
theorem tw4621470810116659677:True:=⟨⟩
theorem tw4669542089033272893:True:=⟨⟩
theorem tw4679171696795983261:True:=⟨⟩
theorem tw4830672174902273604:True:=⟨⟩
theorem tw4937452353054472895:True:=⟨⟩
theorem tw4938471015376836850:True:=⟨⟩
theorem tw4981439016040883432:True:=⟨⟩
theorem tw5003351635662262633:True:=⟨⟩
theorem tw5004209914082753283:True:=⟨⟩
theorem tw5066194658506990079:True:=⟨⟩
theorem tw5122993010968118414:True:=⟨⟩
theorem tw5136612911291878189:True:=⟨⟩
theorem tw5209854550684103161:True:=⟨⟩
theorem tw5268220484314038964:True:=⟨⟩
theorem tw5276546582089323637:True:=⟨⟩
theorem tw5325782085798405838:True:=⟨⟩
theorem tw5340198765187066519:True:=⟨⟩
theorem tw544093787385658321:True:=⟨⟩
theorem tw5441161987314041474:True:=⟨⟩
theorem tw551965596114291078:True:=⟨⟩
theorem tw5520492577231635525:True:=⟨⟩
theorem tw5617507942456779364:True:=⟨⟩
theorem tw5652228623552746985:True:=⟨⟩
theorem tw5654265066183074741:True:=⟨⟩
theorem tw5716579142241420934:True:=⟨⟩
theorem tw5743450148697785251:True:=⟨⟩
theorem tw5800280768322212994:True:=⟨⟩
theorem tw5862468748533802973:True:=⟨⟩
theorem tw5862794358017174337:True:=⟨⟩
theorem tw5868803242688742395:True:=⟨⟩
theorem tw5869146336517158786:True:=⟨⟩
theorem tw5931731187770559798:True:=⟨⟩
theorem tw5980132134976810702:True:=⟨⟩
theorem tw5996109747219689678:True:=⟨⟩
theorem tw6036194042982528295:True:=⟨⟩
theorem tw6042313733339972326:True:=⟨⟩
theorem tw6050898783269799816:True:=⟨⟩
theorem tw6130661818402859048:True:=⟨⟩
theorem tw6349850517821831399:True:=⟨⟩
theorem tw6389554878808032258:True:=⟨⟩
theorem tw6539218397288963786:True:=⟨⟩
theorem tw6567867694094790202:True:=⟨⟩
theorem tw6611382411025483112:True:=⟨⟩
theorem tw6628728407737881048:True:=⟨⟩
theorem tw6649748406340319009:True:=⟨⟩
theorem tw6703798967290581294:True:=⟨⟩
theorem tw6867891523383192978:True:=⟨⟩
theorem tw6908320138919306161:True:=⟨⟩
theorem tw6978083246087450149:True:=⟨⟩
theorem tw7011010693998190256:True:=⟨⟩
theorem tw7156597652522988228:True:=⟨⟩
theorem tw7188091462444152832:True:=⟨⟩
theorem tw7200501313578012038:True:=⟨⟩
theorem tw7225562028823862244:True:=⟨⟩
theorem tw7276196801932717990:True:=⟨⟩
theorem tw7292779286118585443:True:=⟨⟩
theorem tw7320998673961255887:True:=⟨⟩
theorem tw7331852410672314926:True:=⟨⟩
theorem tw7489104667065733286:True:=⟨⟩
theorem tw7502896545013590702:True:=⟨⟩
theorem tw7577147110800820485:True:=⟨⟩
theorem tw7578580922034202458:True:=⟨⟩
theorem tw7691066080864898639:True:=⟨⟩
theorem tw783273588734773426:True:=⟨⟩
theorem tw7863410945054086239:True:=⟨⟩
theorem tw7867729445461573735:True:=⟨⟩
theorem tw7900726206130130679:True:=⟨⟩
theorem tw7959261058484040083:True:=⟨⟩
theorem tw7971486200418754581:True:=⟨⟩
theorem tw7982497724702787556:True:=⟨⟩
theorem tw8017182192780822577:True:=⟨⟩
theorem tw8018239527908722734:True:=⟨⟩
theorem tw8025127436912939851:True:=⟨⟩
theorem tw8036600060871989579:True:=⟨⟩
theorem tw8128898629354366104:True:=⟨⟩
theorem tw8208587119260761307:True:=⟨⟩
theorem tw8230827835396309700:True:=⟨⟩
theorem tw8257766479407005216:True:=⟨⟩
theorem tw8265756479681508102:True:=⟨⟩
theorem tw8277178588343878232:True:=⟨⟩
theorem tw8332242002029869474:True:=⟨⟩
theorem tw8386174801252386309:True:=⟨⟩
theorem tw8406834540590047413:True:=⟨⟩
theorem tw8466932985321395135:True:=⟨⟩
theorem tw8468390966091410674:True:=⟨⟩
theorem tw8488823669904930270:True:=⟨⟩
theorem tw8497376501098500573:True:=⟨⟩
theorem tw8546173772289697492:True:=⟨⟩
theorem tw856253316581199827:True:=⟨⟩
theorem tw8565134783067680635:True:=⟨⟩
theorem tw858091146478489881:True:=⟨⟩
theorem tw8699044117277408627:True:=⟨⟩
theorem tw8813382451149993496:True:=⟨⟩
theorem tw8864631644007237953:True:=⟨⟩
theorem tw8886078448656836581:True:=⟨⟩
theorem tw8899630642765238333:True:=⟨⟩
theorem tw8938215970525590948:True:=⟨⟩
theorem tw9012635127033670593:True:=⟨⟩
theorem tw9052221970759944807:True:=⟨⟩
theorem tw909061827190454351:True:=⟨⟩
theorem tw9091685956653970901:True:=⟨⟩
theorem tw9107493113614274648:True:=⟨⟩
theorem tw9125815785039237677:True:=⟨⟩
theorem tw9193162215309306388:True:=⟨⟩
theorem tw9194599865160321424:True:=⟨⟩
theorem tw9253553708004913939:True:=⟨⟩
theorem tw9254545504286942985:True:=⟨⟩
theorem tw927124828109366471:True:=⟨⟩
theorem tw9271369602319015818:True:=⟨⟩
theorem tw9271427209046290041:True:=⟨⟩
theorem tw9320696592259048657:True:=⟨⟩
theorem tw9324701869032062777:True:=⟨⟩
theorem tw9326846524334952797:True:=⟨⟩
theorem tw9337380813380852564:True:=⟨⟩
theorem tw9337819329903253344:True:=⟨⟩
theorem tw9432527419840078455:True:=⟨⟩
theorem tw9455761192500992264:True:=⟨⟩
theorem tw9516801847917926290:True:=⟨⟩
theorem tw9528669848960654509:True:=⟨⟩
theorem tw9587397783028807671:True:=⟨⟩
theorem tw9603779673559104557:True:=⟨⟩
theorem tw9615936963845505476:True:=⟨⟩
theorem tw968584679939619317:True:=⟨⟩
theorem tw9832829864312212173:True:=⟨⟩
theorem tw9869022618501868395:True:=⟨⟩
theorem tw9878650201459135608:True:=⟨⟩
end PySem.W.Fast
open PySem PySem.W PyProof.Rows
set_option maxRecDepth 100000 in
set_option maxHeartbeats 0 in
theorem PySem.Challenge.cw_vellumpages_s08_uncolumns_holds : PySem.Challenge.rw_vellumpages_s08_uncolumns.Holds := by
 w_on;k_headS;(case hw=>exact ⟨[.list []],by decide +kernel,by decide +kernel⟩)
 k_fillS
 refine L2.walk_specT (r:=PySem.Challenge.rw_vellumpages_s08_uncolumns) (k:=11) (ps:=["t"]) (sp:=fun K PT=>Vp.sp_uncolumns K PT) (by decide +kernel) rfl rfl ⟨rfl,by decide,by decide⟩ (fun w h Y=>PySem.W.kIn_of Y) rfl ?hnt ?htab ?F ?S
 case hnt =>
  intro w
  kernel_rfl
 case htab =>
  intro w
  kernel_rfl
 case F =>
  intro w mg fa c0 PT h Y KX G hmg htb hC hgP
  refine' Vp.all_mk KX G hmg htb hC hgP ?qCE ?nl ?aCR ?pgR ?hdR ?poR ?saR ?mkR ?kcR ?nR_t ?nR_at ?aCT ?pgT ?hdT ?poT ?saT ?mkT ?kcT ?nT_width ?nT_height ?nT_cell_count ?nT_head ?nT_rows ?aCE ?iBLANK ?iSTROKE ?iFIRST_LETTER ?iMOST_LETTERS ?iNO_BYTE ?iMOST_TABLE_ROWS ?iMOST_TABLE_WORDS ?iMOST_TEXT_BYTES ?iMOST_PRINTED_BYTES ?gMARKS ?lMARKS ?gENDS ?lENDS ?gTABLE_BOUNDS ?lTABLE_BOUNDS ?lTABLE_BOUNDS0 ?lTABLE_BOUNDS1 ?lTABLE_BOUNDS2 ?bl_len ?bl_ord ?bl_min ?bl_max ?bl_range ?bl_enumerate ?bl_str ?bl_list ?bl_sum ?a_is_letter ?l_is_letter ?c_is_letter ?k_is_letter ?a_begins_some ?l_begins_some ?c_begins_some ?k_begins_some ?a_size_by_lead ?l_size_by_lead ?c_size_by_lead ?k_size_by_lead ?a_bounds_behind ?l_bounds_behind ?c_bounds_behind ?k_bounds_behind ?a_Reader_init ?i_Reader_init ?l_Reader_init ?c_Reader_init ?k_Reader_init ?a_Reader_peek ?i_Reader_peek ?l_Reader_peek ?c_Reader_peek ?k_Reader_peek ?a_Reader_sees ?i_Reader_sees ?l_Reader_sees ?c_Reader_sees ?k_Reader_sees ?a_Reader_take ?i_Reader_take ?l_Reader_take ?c_Reader_take ?k_Reader_take ?a_Reader_take_end ?i_Reader_take_end ?l_Reader_take_end ?c_Reader_take_end ?k_Reader_take_end ?a_Reader_take_digit ?i_Reader_take_digit ?l_Reader_take_digit ?c_Reader_take_digit ?k_Reader_take_digit ?a_Reader_take_number ?i_Reader_take_number ?l_Reader_take_number ?c_Reader_take_number ?k_Reader_take_number ?a_Reader_take_long_letter ?i_Reader_take_long_letter ?l_Reader_take_long_letter ?c_Reader_take_long_letter ?k_Reader_take_long_letter ?a_Reader_take_character ?i_Reader_take_character ?l_Reader_take_character ?c_Reader_take_character ?k_Reader_take_character ?a_Reader_ends_thing ?i_Reader_ends_thing ?l_Reader_ends_thing ?c_Reader_ends_thing ?k_Reader_ends_thing ?a_Reader_take_thing ?i_Reader_take_thing ?l_Reader_take_thing ?c_Reader_take_thing ?k_Reader_take_thing ?a_Reader_take_things ?i_Reader_take_things ?l_Reader_take_things ?c_Reader_take_things ?k_Reader_take_things ?a_Reader_take_head ?i_Reader_take_head ?l_Reader_take_head ?c_Reader_take_head ?k_Reader_take_head ?a_joined ?l_joined ?c_joined ?k_joined ?a_characters_of ?l_characters_of ?c_characters_of ?k_characters_of ?a_bytes_of_character ?l_bytes_of_character ?c_bytes_of_character ?k_bytes_of_character ?a_bytes_of ?l_bytes_of ?c_bytes_of ?k_bytes_of ?a_Table_init ?i_Table_init ?l_Table_init ?c_Table_init ?k_Table_init ?a_read_cell ?l_read_cell ?c_read_cell ?k_read_cell ?a_read_row ?l_read_row ?c_read_row ?k_read_row ?a_line_cost ?l_line_cost ?c_line_cost ?k_line_cost ?a_best_from ?l_best_from ?c_best_from ?k_best_from ?a_tails_of ?l_tails_of ?c_tails_of ?k_tails_of ?a_ends_of ?l_ends_of ?c_ends_of ?k_ends_of ?a_read_head ?l_read_head ?c_read_head ?k_read_head ?a_read_table ?l_read_table ?c_read_table ?k_read_table ?a_joined_lines ?l_joined_lines ?c_joined_lines ?k_joined_lines ?a_lines_of_cell ?l_lines_of_cell ?c_lines_of_cell ?k_lines_of_cell ?a_line_at ?l_line_at ?c_line_at ?k_line_at ?a_filled_up ?l_filled_up ?c_filled_up ?k_filled_up ?a_printed_line_of_row ?l_printed_line_of_row ?c_printed_line_of_row ?k_printed_line_of_row ?a_printed_row ?l_printed_row ?c_printed_row ?k_printed_row ?a_printed_table ?l_printed_table ?c_printed_table ?k_printed_table ?a_read_words_shown ?l_read_words_shown ?c_read_words_shown ?k_read_words_shown ?a_read_page_number ?l_read_page_number ?c_read_page_number ?k_read_page_number ?a_table_text ?l_table_text ?c_table_text ?k_table_text ?a_read_line_shown ?l_read_line_shown ?c_read_line_shown ?k_read_line_shown ?a_read_columns ?l_read_columns ?c_read_columns ?k_read_columns ?a_given_back ?l_given_back ?c_given_back ?k_given_back ?a_uncolumns ?l_uncolumns ?c_uncolumns ?k_uncolumns
  (case aCR=>k_is)
  (case pgR=>k_is)
  (case hdR=>k_is)
  (case poR=>k_is)
  (case saR=>k_is)
  (case mkR=>k_is)
  (case kcR=>k_is)
  (case nR_t=>k_is)
  (case nR_at=>k_is)
  (case aCT=>k_is)
  (case pgT=>k_is)
  (case hdT=>k_is)
  (case poT=>k_is)
  (case saT=>k_is)
  (case mkT=>k_is)
  (case kcT=>k_is)
  (case nT_width=>k_is)
  (case nT_height=>k_is)
  (case nT_cell_count=>k_is)
  (case nT_head=>k_is)
  (case nT_rows=>k_is)
  (case aCE=>k_is)
  (case iBLANK=>k_is)
  (case iSTROKE=>k_is)
  (case iFIRST_LETTER=>k_is)
  (case iMOST_LETTERS=>k_is)
  (case iNO_BYTE=>k_is)
  (case iMOST_TABLE_ROWS=>k_is)
  (case iMOST_TABLE_WORDS=>k_is)
  (case iMOST_TEXT_BYTES=>k_is)
  (case iMOST_PRINTED_BYTES=>k_is)
  (case gMARKS=>k_is)
  (case lMARKS=>k_is)
  (case gENDS=>k_is)
  (case lENDS=>k_is)
  (case gTABLE_BOUNDS=>k_is)
  (case lTABLE_BOUNDS=>k_is)
  (case lTABLE_BOUNDS0=>k_is)
  (case lTABLE_BOUNDS1=>k_is)
  (case lTABLE_BOUNDS2=>k_is)
  (case bl_len=>k_is)
  (case bl_ord=>k_is)
  (case bl_min=>k_is)
  (case bl_max=>k_is)
  (case bl_range=>k_is)
  (case bl_enumerate=>k_is)
  (case bl_str=>k_is)
  (case bl_list=>k_is)
  (case bl_sum=>k_is)
  (case a_is_letter=>k_is)
  (case l_is_letter=>k_is)
  (case c_is_letter=>k_is)
  (case k_is_letter=>k_is)
  (case a_begins_some=>k_is)
  (case l_begins_some=>k_is)
  (case c_begins_some=>k_is)
  (case k_begins_some=>k_is)
  (case a_size_by_lead=>k_is)
  (case l_size_by_lead=>k_is)
  (case c_size_by_lead=>k_is)
  (case k_size_by_lead=>k_is)
  (case a_bounds_behind=>k_is)
  (case l_bounds_behind=>k_is)
  (case c_bounds_behind=>k_is)
  (case k_bounds_behind=>k_is)
  (case a_Reader_init=>k_is)
  (case i_Reader_init=>k_is)
  (case l_Reader_init=>k_is)
  (case c_Reader_init=>k_is)
  (case k_Reader_init=>k_is)
  (case a_Reader_peek=>k_is)
  (case i_Reader_peek=>k_is)
  (case l_Reader_peek=>k_is)
  (case c_Reader_peek=>k_is)
  (case k_Reader_peek=>k_is)
  (case a_Reader_sees=>k_is)
  (case i_Reader_sees=>k_is)
  (case l_Reader_sees=>k_is)
  (case c_Reader_sees=>k_is)
  (case k_Reader_sees=>k_is)
  (case a_Reader_take=>k_is)
  (case i_Reader_take=>k_is)
  (case l_Reader_take=>k_is)
  (case c_Reader_take=>k_is)
  (case k_Reader_take=>k_is)
  (case a_Reader_take_end=>k_is)
  (case i_Reader_take_end=>k_is)
  (case l_Reader_take_end=>k_is)
  (case c_Reader_take_end=>k_is)
  (case k_Reader_take_end=>k_is)
  (case a_Reader_take_digit=>k_is)
  (case i_Reader_take_digit=>k_is)
  (case l_Reader_take_digit=>k_is)
  (case c_Reader_take_digit=>k_is)
  (case k_Reader_take_digit=>k_is)
  (case a_Reader_take_number=>k_is)
  (case i_Reader_take_number=>k_is)
  (case l_Reader_take_number=>k_is)
  (case c_Reader_take_number=>k_is)
  (case k_Reader_take_number=>k_is)
  (case a_Reader_take_long_letter=>k_is)
  (case i_Reader_take_long_letter=>k_is)
  (case l_Reader_take_long_letter=>k_is)
  (case c_Reader_take_long_letter=>k_is)
  (case k_Reader_take_long_letter=>k_is)
  (case a_Reader_take_character=>k_is)
  (case i_Reader_take_character=>k_is)
  (case l_Reader_take_character=>k_is)
  (case c_Reader_take_character=>k_is)
  (case k_Reader_take_character=>k_is)
  (case a_Reader_ends_thing=>k_is)
  (case i_Reader_ends_thing=>k_is)
  (case l_Reader_ends_thing=>k_is)
  (case c_Reader_ends_thing=>k_is)
  (case k_Reader_ends_thing=>k_is)
  (case a_Reader_take_thing=>k_is)
  (case i_Reader_take_thing=>k_is)
  (case l_Reader_take_thing=>k_is)
  (case c_Reader_take_thing=>k_is)
  (case k_Reader_take_thing=>k_is)
  (case a_Reader_take_things=>k_is)
  (case i_Reader_take_things=>k_is)
  (case l_Reader_take_things=>k_is)
  (case c_Reader_take_things=>k_is)
  (case k_Reader_take_things=>k_is)
  (case a_Reader_take_head=>k_is)
  (case i_Reader_take_head=>k_is)
  (case l_Reader_take_head=>k_is)
  (case c_Reader_take_head=>k_is)
  (case k_Reader_take_head=>k_is)
  (case a_joined=>k_is)
  (case l_joined=>k_is)
  (case c_joined=>k_is)
  (case k_joined=>k_is)
  (case a_characters_of=>k_is)
  (case l_characters_of=>k_is)
  (case c_characters_of=>k_is)
  (case k_characters_of=>k_is)
  (case a_bytes_of_character=>k_is)
  (case l_bytes_of_character=>k_is)
  (case c_bytes_of_character=>k_is)
  (case k_bytes_of_character=>k_is)
  (case a_bytes_of=>k_is)
  (case l_bytes_of=>k_is)
  (case c_bytes_of=>k_is)
  (case k_bytes_of=>k_is)
  (case a_Table_init=>k_is)
  (case i_Table_init=>k_is)
  (case l_Table_init=>k_is)
  (case c_Table_init=>k_is)
  (case k_Table_init=>k_is)
  (case a_read_cell=>k_is)
  (case l_read_cell=>k_is)
  (case c_read_cell=>k_is)
  (case k_read_cell=>k_is)
  (case a_read_row=>k_is)
  (case l_read_row=>k_is)
  (case c_read_row=>k_is)
  (case k_read_row=>k_is)
  (case a_line_cost=>k_is)
  (case l_line_cost=>k_is)
  (case c_line_cost=>k_is)
  (case k_line_cost=>k_is)
  (case a_best_from=>k_is)
  (case l_best_from=>k_is)
  (case c_best_from=>k_is)
  (case k_best_from=>k_is)
  (case a_tails_of=>k_is)
  (case l_tails_of=>k_is)
  (case c_tails_of=>k_is)
  (case k_tails_of=>k_is)
  (case a_ends_of=>k_is)
  (case l_ends_of=>k_is)
  (case c_ends_of=>k_is)
  (case k_ends_of=>k_is)
  (case a_read_head=>k_is)
  (case l_read_head=>k_is)
  (case c_read_head=>k_is)
  (case k_read_head=>k_is)
  (case a_read_table=>k_is)
  (case l_read_table=>k_is)
  (case c_read_table=>k_is)
  (case k_read_table=>k_is)
  (case a_joined_lines=>k_is)
  (case l_joined_lines=>k_is)
  (case c_joined_lines=>k_is)
  (case k_joined_lines=>k_is)
  (case a_lines_of_cell=>k_is)
  (case l_lines_of_cell=>k_is)
  (case c_lines_of_cell=>k_is)
  (case k_lines_of_cell=>k_is)
  (case a_line_at=>k_is)
  (case l_line_at=>k_is)
  (case c_line_at=>k_is)
  (case k_line_at=>k_is)
  (case a_filled_up=>k_is)
  (case l_filled_up=>k_is)
  (case c_filled_up=>k_is)
  (case k_filled_up=>k_is)
  (case a_printed_line_of_row=>k_is)
  (case l_printed_line_of_row=>k_is)
  (case c_printed_line_of_row=>k_is)
  (case k_printed_line_of_row=>k_is)
  (case a_printed_row=>k_is)
  (case l_printed_row=>k_is)
  (case c_printed_row=>k_is)
  (case k_printed_row=>k_is)
  (case a_printed_table=>k_is)
  (case l_printed_table=>k_is)
  (case c_printed_table=>k_is)
  (case k_printed_table=>k_is)
  (case a_read_words_shown=>k_is)
  (case l_read_words_shown=>k_is)
  (case c_read_words_shown=>k_is)
  (case k_read_words_shown=>k_is)
  (case a_read_page_number=>k_is)
  (case l_read_page_number=>k_is)
  (case c_read_page_number=>k_is)
  (case k_read_page_number=>k_is)
  (case a_table_text=>k_is)
  (case l_table_text=>k_is)
  (case c_table_text=>k_is)
  (case k_table_text=>k_is)
  (case a_read_line_shown=>k_is)
  (case l_read_line_shown=>k_is)
  (case c_read_line_shown=>k_is)
  (case k_read_line_shown=>k_is)
  (case a_read_columns=>k_is)
  (case l_read_columns=>k_is)
  (case c_read_columns=>k_is)
  (case k_read_columns=>k_is)
  (case a_given_back=>k_is)
  (case l_given_back=>k_is)
  (case c_given_back=>k_is)
  (case k_given_back=>k_is)
  (case a_uncolumns=>k_is)
  (case l_uncolumns=>k_is)
  (case c_uncolumns=>k_is)
  (case k_uncolumns=>k_is)
  (case qCE=>kernel_rfl)
  (case nl=>kernel_rfl)
 case S =>
  intro K PT H xs a hPT hwi hask hx
  cases hx with
  | cons h1 h2 =>
   cases h2
   cases h1 with
   | lst hs ha =>
    have e:=L2.ints_dw a.1 _ ha
    subst e
    have q:((Codec.inLen 0 8191 a.1 && a.1.all (Codec.inInt 0 255)) && true)=true:=hwi
    rw [Bool.and_eq_true,Bool.and_eq_true] at q
    have hin:∀ x∈a.1,0≤x∧x≤255:=fun x hx=>Codec.inInt_iff.mp (List.all_eq_true.mp q.1.2 x hx)
    have hl:(PageNeutral.text a.1).length≤8191:=by
     unfold PageNeutral.text
     rw [List.length_map]
     exact (Codec.inNat_iff.mp q.1.1).2
    rw [Vp.u8_map _ hin] at hs
    refine ⟨_,PageNeutral.text a.1,rfl,hs,hPT,hl,fun H' p hp=>.lst (L2.SqL.of hp) ?_⟩
    have ee:=Vp.ans_uncolumns a.1 hl
    rw [← ee]
    exact L2.dw_ints _
end
