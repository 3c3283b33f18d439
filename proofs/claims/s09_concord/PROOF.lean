import PyProof.Rows.All
import Wide.All
import OpenK.AllK
import Wide.FinOn
import PyProof.EqAt
import PyProof.EqKinds
import PyProof.TupleCall
import KE.BitLaws
import Open.SpecLaws
import KE.OsHead
import KE.OsGo
import PyProof.Rows.FStr
import PyProof.Rows.StrIntSpec
import PyProof.Rows.StrPadWhole
import PyProof.StrCalls
import PyProof.StrOps2
import KE.KDictLaws
import KE.KDictList
import KE.KSortTupG
import PySem.Challenge.RW_vellumpages_s09_concord
set_option Elab.async false
set_option linter.all false
section
set_option Elab.async false
set_option linter.all false
set_option maxRecDepth 100000
namespace L2
open PySem PySem.Spec PyProof.Rows
abbrev Key:=Sum Int Str
def keyIs:Key→Value→Bool
 | .inl k,v=>Value.isInt k v
 | .inr x,v=>Value.isStrOf x v
def keyH (w:World):Key→Int
 | .inl k=>hashInt k
 | .inr x=>hashStr w x
theorem keyIs_shape:∀ {k:Key}{v:Value},keyIs k v=true→(∃ i t,k=Sum.inl i∧v=Value.int i t)∨(∃ x t,k=Sum.inr x∧v=Value.str x t)
 | .inl i,v,h=>by
  obtain ⟨t,e⟩:=Value.isInt_shape (k:=i) (v:=v) h
  exact .inl ⟨i,t,rfl,e⟩
 | .inr x,v,h=>by
  obtain ⟨t,e⟩:=Value.isStrOf_shape (x:=x) (v:=v) h
  exact .inr ⟨x,t,rfl,e⟩
theorem keyIs_int (i:Int) (t:Tok):keyIs (.inl i) (.int i t)=true:=by simp [keyIs,Value.isInt]
theorem keyIs_str (x:Str) (t:Tok):keyIs (.inr x) (.str x t)=true:=by simp [keyIs,Value.isStrOf]
theorem key_ll (a b:Int):decide ((Sum.inl a:Key)=Sum.inl b)=(a==b):=by
 by_cases e:a=b
 ·subst e;simp
 ·have h:¬ (Sum.inl a:Key)=Sum.inl b:=fun q=>e (Sum.inl.inj q)
  rw [decide_eq_false h]
  exact (beq_eq_false_iff_ne.mpr e).symm
theorem key_rr (a b:Str):decide ((Sum.inr a:Key)=Sum.inr b)=decide (a=b):=by
 by_cases e:a=b
 ·subst e;simp
 ·have h:¬ (Sum.inr a:Key)=Sum.inr b:=fun q=>e (Sum.inr.inj q)
  rw [decide_eq_false h,decide_eq_false e]
theorem key_lr (a:Int) (b:Str):decide ((Sum.inl a:Key)=Sum.inr b)=false:=decide_eq_false (fun q=>nomatch q)
theorem key_rl (a:Str) (b:Int):decide ((Sum.inr a:Key)=Sum.inl b)=false:=decide_eq_false (fun q=>nomatch q)
def mixKind (prog:Program) (w:World):PySem.KeyKind prog w Key where
 is:=keyIs
 hash:=keyH w
 inj:=fun v a b ha hb=>by
  rcases keyIs_shape ha with ⟨i,t,rfl,rfl⟩ | ⟨x,t,rfl,rfl⟩
  ·rcases keyIs_shape hb with ⟨j,u,rfl,e⟩ | ⟨y,u,rfl,e⟩
   ·injection e with e1 _;rw [e1]
   ·exact nomatch e
  ·rcases keyIs_shape hb with ⟨j,u,rfl,e⟩ | ⟨y,u,rfl,e⟩
   ·exact nomatch e
   ·injection e with e1 _;rw [e1]
 byValue:=fun k v h=>by
  rcases keyIs_shape h with ⟨i,t,rfl,rfl⟩ | ⟨x,t,rfl,rfl⟩ <;> rfl
 pyHash:=fun hv h=>by
  rcases keyIs_shape hv with ⟨i,t,rfl,rfl⟩ | ⟨x,t,rfl,rfl⟩
  ·exact wpAny_pyHash_int h
  ·exact wpAny_pyHash_str h
 eqBool:=fun hu hv h=>by
  rcases keyIs_shape hu with ⟨i,t,rfl,rfl⟩ | ⟨x,t,rfl,rfl⟩
  ·rcases keyIs_shape hv with ⟨j,u,rfl,rfl⟩ | ⟨y,u,rfl,rfl⟩
   ·rw [key_ll] at h;exact wpAny_eqBool_int h
   ·rw [key_lr] at h;exact SeqAt.EqAt.int_str i t y u _ _ _ _ h
  ·rcases keyIs_shape hv with ⟨j,u,rfl,rfl⟩ | ⟨y,u,rfl,rfl⟩
   ·rw [key_rl] at h;exact SeqAt.EqAt.str_int x t j u _ _ _ _ h
   ·rw [key_rr] at h;exact wpAny_eqBool_str h
 «strs»:=fun k x t v h=>by
  rcases keyIs_shape h with ⟨i,u,rfl,e⟩ | ⟨y,u,rfl,e⟩
  ·exact nomatch e
  ·injection e with e1 _
   subst e1
   cases v <;> rfl
theorem mixKind_int (prog:Program) (w:World) (i:Int) (t:Tok):(mixKind prog w).is (.inl i) (.int i t)=true:=keyIs_int i t
theorem mixKind_str (prog:Program) (w:World) (x:Str) (t:Tok):(mixKind prog w).is (.inr x) (.str x t)=true:=keyIs_str x t
end L2
namespace L2
open PySem PySem.Spec PyProof.Rows
inductive V where
 | non | bl (b:Bool) | int (i:Int) | str (x:Str) | byt (b:Array UInt8) | flt (b:UInt64) | ref (a:Addr) | ty (n:String)
 deriving DecidableEq
def RelV:V→Value→Prop
 | .non,u=>u=Value.none
 | .bl b,u=>u=Value.bool b
 | .int i,u=>∃ t,u=Value.int i t
 | .str x,u=>∃ t,u=Value.str x t
 | .byt b,u=>∃ t,u=Value.bytes b t
 | .flt b,u=>∃ t,u=Value.float b t
 | .ref a,u=>u=Value.ref a
 | .ty n,u=>u=Value.type n
abbrev Vals:List V→List Value→Prop:=Paired RelV
theorem Vals.length {xs:List V}{us:List Value} (r:Vals xs us):xs.length=us.length:=Paired.length r
theorem Vals.get:∀ {xs:List V}{us:List Value}{i:Nat}{x:V},Vals xs us→xs[i]?=some x→∃ u,us[i]?=some u∧RelV x u
 | _,_,_,_,.nil,e=>by simp at e
 | _,_,0,_,.cons r _,e=>by simp at e;subst e;exact ⟨_,rfl,r⟩
 | _,_,i+1,x,.cons _ t,e=>by
  obtain ⟨u,h1,h2⟩:=Vals.get (i:=i) (x:=x) t (by simpa using e)
  exact ⟨u,by simpa using h1,h2⟩
theorem Vals.append:∀ {xs ys:List V}{us ws:List Value},Vals xs us→Vals ys ws→Vals (xs++ys) (us++ws)
 | _,_,_,_,.nil,s=>s
 | _,_,_,_,.cons r t,s=>.cons r (Vals.append t s)
theorem Vals.take:∀ {xs:List V}{us:List Value} (n:Nat),Vals xs us→Vals (xs.take n) (us.take n)
 | _,_,0,_=>.nil
 | _,_,_+1,.nil=>.nil
 | _,_,n+1,.cons r t=>.cons r (Vals.take n t)
theorem Vals.drop:∀ {xs:List V}{us:List Value} (n:Nat),Vals xs us→Vals (xs.drop n) (us.drop n)
 | _,_,0,r=>r
 | _,_,_+1,.nil=>.nil
 | _,_,n+1,.cons _ t=>Vals.drop n t
def RelO:Option V→Option Value→Prop
 | some v,some u=>RelV v u
 | none,none=>True
 | _,_=>False
def KV {κ:Type}:List (κ×V)→List (κ×Value)→Prop:=Paired fun (p:κ×V) (q:κ×Value)=>p.1=q.1∧RelV p.2 q.2
def kV:Key→V
 | .inl i=>.int i
 | .inr x=>.str x
inductive HO where
 /-- a list -/
 | lst (xs:List V)
 /-- a tuple (never changes) -/
 | tup (xs:List V)
 /-- a dict whose keys are ints and texts;one whose keys are tuples of ints and texts (the empty one is both) -/
 | dK (kvs:List (Key×V)) | dT (kvs:List (List Key×V))
 /-- a set of ints: its members,its size -/
 | set (S:Int→Bool) (n:Nat)
 /-- an instance of the class at C,its dict at dx,its attributes -/
 | ins (C dx:Addr) (fs:List (Str×V))
 /-- the dict of the instance at x -/
 | own (x:Addr)
 /-- the dict of an exception -/
 | xd (fs:List (Str×V))
 /-- a bound method,f of x -/
 | met (f x:Addr)
 /-- a range object lo,lo+1,.. below hi -/
 | rng (lo hi:Int)
 /-- a thing that is known to the object (the script;a dict while a loop walks it): read,never written while it is so -/
 | frz (o:Obj) (u:HO)
 /-- a code object's table -/
 | tbl (ps:Array Value)
 /-- any other thing,by what is true of its one object (a def of one's own: SetO a S n:=HO.ext fun h=>..) -/
 | ext (φ:Heap→Prop)
abbrev Hp:=Addr→Option HO
def upd (H:Hp) (a:Addr) (o:HO):Hp:=fun b=>if b=a then some o else H b
theorem upd_same {H:Hp}{a:Addr}{o:HO}:upd H a o a=some o:=by unfold upd;rw [if_pos rfl]
theorem upd_ne {H:Hp}{a b:Addr}{o:HO} (h:b≠a):upd H a o b=H b:=by unfold upd;rw [if_neg h]
theorem upd_upd {H:Hp}{a:Addr}{o u:HO}:upd (upd H a o) a u=upd H a u:=by
 funext b;unfold upd;split <;> rfl
theorem ne_of {H:Hp}{a b:Addr}{o u:HO} (h:H a=some o) (h':H b=some u) (d:o≠u):a≠b:=by
 intro e;subst e;rw [h] at h';exact d (Option.some.inj h')
theorem ne_of_none {H:Hp}{a b:Addr}{o:HO} (h:H a=some o) (h':H b=none):a≠b:=by
 intro e;subst e;rw [h] at h';cases h'
section
variable (P:Program) (w:World)
def ObjOk (H:Hp) (h:Heap) (a:Addr):HO→Prop
 | .lst xs=>xs.length≤sizeLine∧∃ (its:List Value) (n:Nat),Vals xs its∧h.get? a=some { cls:=.type "list",data:=.seq its.toArray n }
 | .tup xs=>xs.length≤sizeLine∧∃ its:List Value,Vals xs its∧IsTup h a its.toArray
 | .dK kvs=>kvs.length≤sizeLine∧(a==sysModules)=false∧∃ vs,KV kvs vs∧h.DictOf (mixKind P w) a vs
 | .dT kvs=>kvs.length≤sizeLine∧(a==sysModules)=false∧∃ xs:List (List Key×Addr×Value),
   Paired (fun (p:List Key×V) (q:List Key×Addr×Value)=>p.1=q.1∧H q.2.1=some (.tup (p.1.map kV))∧RelV p.2 q.2.2) kvs xs ∧
   ∃ o es ep,h.get? a=some o∧o.ExactDict∧o.data=.dict es ep∧es.toList=xs.map (entryOfKey (tupleKind (mixKind P w)))∧(xs.map (·.1)).Nodup
 | .set S n=>h.SetOf (intKind P w) a S n
 | .ins C dx fs=>H dx=some (.own a)∧fs.length≤1000∧dx≠a∧h.get? a=some (PySem.W.instObj C dx) ∧
   ∃ mA,h.Ns1 dx mA∧(∀ f,RelO (fs.lookup f) (mA f))∧PySem.Within mA (fs.map (·.1))
 | .own _=>∃ o,h.get? a=some o
 | .xd fs=>∃ mA,h.Ns1 a mA∧∀ f,RelO (fs.lookup f) (mA f)
 | .rng lo hi=>∃ t u v,h.get? a=some { cls:=.type "range",data:=.fields #[.int lo t,.int hi u,.int 1 v] }
 | .frz o u=>h.get? a=some o∧ObjOk H h a u
 | .tbl ps=>h.get? a=some { cls:=.none,data:=.fields ps }
 | .met f x=>h.get? a=some (PySem.W.methodObj (.ref f) (.ref x))
 | .ext φ=>φ h∧(∃ o,h.get? a=some o)∧∀ h1 h2:Heap,φ h1→(∀ o,h1.get? a=some o→h2.get? a=some o)→φ h2
def HOk (H:Hp) (h:Heap):Prop:=∀ a o,H a=some o→ObjOk P w H h a o
end
section
variable {P:Program}{w:World}{H H':Hp}{h h':Heap}{a:Addr}{o:HO}
theorem ObjOk.lt (x:ObjOk P w H h a o):a<h.objs.size:=by
 cases o with
 | lst xs=>obtain ⟨_,_,_,_,e⟩:=x;exact Heap.lt_size e
 | tup xs=>obtain ⟨_,_,_,p⟩:=x;exact p.lt
 | dK kvs=>obtain ⟨_,_,_,_,o,_,_,e,_⟩:=x;exact Heap.lt_size e
 | dT kvs=>obtain ⟨_,_,_,_,o,_,_,e,_⟩:=x;exact Heap.lt_size e
 | set S n=>obtain ⟨o,_,_,_,e,_⟩:=x;exact Heap.lt_size e
 | ins C dx fs=>obtain ⟨_,_,_,e,_⟩:=x;exact Heap.lt_size e
 | own y=>obtain ⟨_,e⟩:=x;exact Heap.lt_size e
 | xd fs=>obtain ⟨_,⟨_,_,_,e,_⟩,_⟩:=x;exact Heap.lt_size e
 | rng lo hi=>obtain ⟨_,_,_,e⟩:=x;exact Heap.lt_size e
 | frz ob u=>obtain ⟨e,_⟩:=x;exact Heap.lt_size e
 | tbl ps=>exact Heap.lt_size (show h.get? a=some _ from x)
 | met f y=>exact Heap.lt_size (show h.get? a=some _ from x)
 | ext φ=>obtain ⟨_,⟨_,e⟩,_⟩:=x;exact Heap.lt_size e
theorem Paired.mapP {α β:Type}{F G:α→β→Prop}:∀ {l₁:List α}{l₂:List β},Paired F l₁ l₂→(∀ a b,F a b→G a b)→Paired G l₁ l₂
 | _,_,.nil,_=>.nil
 | _,_,.cons r t,f=>.cons (f _ _ r) (Paired.mapP t f)
theorem ObjOk.stay (x:ObjOk P w H h a o) (k:∀ b u,(b=a∨H b=some (.own a))→h.get? b=some u→h'.get? b=some u)
  (ho:∀ b,H b=some (.own a)→H' b=some (.own a)) (ht:∀ b xs,H b=some (.tup xs)→H' b=some (.tup xs)):ObjOk P w H' h' a o:=by
 induction o with
 | lst xs=>obtain ⟨z,its,n,r,e⟩:=x;exact ⟨z,its,n,r,k _ _ (.inl rfl) e⟩
 | tup xs=>obtain ⟨z,its,r,ob,e,c⟩:=x;exact ⟨z,its,r,ob,k _ _ (.inl rfl) e,c⟩
 | dK kvs=>obtain ⟨z,y,vs,r,ob,es,ep,e,c⟩:=x;exact ⟨z,y,vs,r,ob,es,ep,k _ _ (.inl rfl) e,c⟩
 | dT kvs =>
  obtain ⟨z,y,xs,r,ob,es,ep,e,c⟩:=x
  exact ⟨z,y,xs,Paired.mapP r fun p q z=>⟨z.1,ht _ _ z.2.1,z.2.2⟩,ob,es,ep,k _ _ (.inl rfl) e,c⟩
 | set S n=>obtain ⟨ob,es,ep,t,e,c⟩:=x;exact ⟨ob,es,ep,t,k _ _ (.inl rfl) e,c⟩
 | ins C dx fs =>
  obtain ⟨d,z,ne,e,mA,⟨od,es,ep,e2,c⟩,r⟩:=x
  exact ⟨ho _ d,z,ne,k _ _ (.inl rfl) e,mA,⟨od,es,ep,k _ _ (.inr d) e2,c⟩,r⟩
 | own y=>obtain ⟨ob,e⟩:=x;exact ⟨ob,k _ _ (.inl rfl) e⟩
 | xd fs=>obtain ⟨mA,⟨od,es,ep,e,c⟩,r⟩:=x;exact ⟨mA,⟨od,es,ep,k _ _ (.inl rfl) e,c⟩,r⟩
 | rng lo hi=>obtain ⟨t,u,v,e⟩:=x;exact ⟨t,u,v,k _ _ (.inl rfl) e⟩
 | frz ob u ih=>obtain ⟨e,q⟩:=x;exact ⟨k _ _ (.inl rfl) e,ih q⟩
 | tbl ps =>
  have e:h.get? a=some { cls:=.none,data:=.fields ps }:=x
  show h'.get? a=some { cls:=.none,data:=.fields ps }
  exact k a _ (.inl rfl) e
 | met f y =>
  have e:h.get? a=some (PySem.W.methodObj (.ref f) (.ref y)):=x
  show h'.get? a=some (PySem.W.methodObj (.ref f) (.ref y))
  exact k a _ (.inl rfl) e
 | ext φ=>obtain ⟨p,⟨o,e⟩,st⟩:=x;exact ⟨st _ _ p fun o q=>k _ _ (.inl rfl) q,⟨o,k _ _ (.inl rfl) e⟩,st⟩
theorem HOk.lt (x:HOk P w H h) (e:H a=some o):a<h.objs.size:=(x a o e).lt
theorem HOk.fresh (x:HOk P w H h) (e:h.objs.size≤a):H a=none:=by
 cases q:H a with
 | none=>rfl
 | some u=>exact absurd (Nat.lt_of_lt_of_le (x.lt q) e) (Nat.lt_irrefl _)
theorem HOk.kept (x:HOk P w H h) (k:∀ b u,h.get? b=some u→h'.get? b=some u):HOk P w H h':=fun a o e =>
 (x a o e).stay (fun b u _ q=>k b u q) (fun _ q=>q) fun _ _ q=>q
theorem HOk.laid (x:HOk P w H h) (k:∀ b u,h.get? b=some u→h'.get? b=some u) (hp:h.objs.size≤a) (new:ObjOk P w (upd H a o) h' a o):HOk P w (upd H a o) h':=fun b u e=>by
 have hn:=x.fresh hp
 by_cases hb:b=a
 ·subst hb;rw [upd_same] at e;cases e;exact new
 ·rw [upd_ne hb] at e
  exact (x b u e).stay (fun c v _ q=>k c v q) (fun c q=>by rw [upd_ne (ne_of_none q hn)];exact q) fun c xs q=>by rw [upd_ne (ne_of_none q hn)];exact q
end
def Rd (H:Hp) (a:Addr) (u:HO):Prop:=H a=some u∨∃ o,H a=some (.frz o u)
theorem Rd.ok {P:Program}{w:World}{H:Hp}{h:Heap}{a:Addr}{u:HO} (r:Rd H a u) (x:HOk P w H h):ObjOk P w H h a u:=by
 rcases r with r | ⟨o,r⟩
 ·exact x a u r
 ·obtain ⟨_,q⟩:=x a _ r
  exact q
def Mut:Option HO→Prop
 | some (.lst _)=>True
 | some (.dK _)=>True
 | some (.dT _)=>True
 | some (.set _ _)=>True
 | some (.ins _ _ _)=>True
 | some (.ext _)=>True
 | _=>False
section
variable {P:Program}{w:World}{H:Hp}{h h':Heap}{x e:Addr}{o':HO}
theorem HOk.write (ok:HOk P w H h) (mu:Mut (H x)) (he:e=x∨H e=some (.own x)) (k:∀ b u,b≠e→h.get? b=some u→h'.get? b=some u) (heo:∃ u,h'.get? e=some u)
  (new:ObjOk P w (upd H x o') h' x o'):HOk P w (upd H x o') h':=fun b u q=>by
 have nown:∀ c y,H c=some (.own y)→c≠x:=fun c y r z=>by subst z;rw [r] at mu;exact mu
 have ntup:∀ c xs,H c=some (.tup xs)→c≠x:=fun c xs r z=>by subst z;rw [r] at mu;exact mu
 by_cases hb:b=x
 ·subst hb;rw [upd_same] at q;cases q;exact new
 ·rw [upd_ne hb] at q
  by_cases hbe:b=e
  ·have q':H b=some (.own x):=by
    rcases he with z | z
    ·exact absurd (hbe.trans z) hb
    ·rw [hbe];exact z
   rw [q] at q';cases q'
   obtain ⟨v,hv⟩:=heo
   exact ⟨v,by rw [hbe];exact hv⟩
  ·refine (ok b u q).stay (fun c v hc r=>k c v ?_ r) (fun c r=>by rw [upd_ne (nown c b r)];exact r) fun c xs r=>by rw [upd_ne (ntup c xs r)];exact r
   rcases hc with rfl | hc
   ·exact hbe
   ·rintro rfl
    rcases he with z | z
    ·exact nown c b hc z
    ·rw [hc] at z;cases z;exact hb rfl
end
structure Un (fs ex:List Addr) (H H':Hp) (h h':Heap):Prop where
 keep:∀ b o,h.get? b=some o→H b=none→b ∉ fs→b ∉ ex→h'.get? b=some o
 slot:∀ b o,h.get? b=some o→H b=none→b∈fs→b ∉ ex→∃ sl,h'.get? b=some { o with slots:=sl }
 free:∀ b o,h.get? b=some o→H b=none→b ∉ ex→H' b=none
 there:∀ b o,h.get? b=some o→b ∉ ex→∃ o',h'.get? b=some o'
 tups:∀ b xs,H b=some (.tup xs)→H' b=some (.tup xs)
 frzs:∀ b o u,H b=some (.frz o u)→H' b=some (.frz o u)
 tbls:∀ b ps,H b=some (.tbl ps)→∃ more,H' b=some (.tbl (ps++more))
section
variable {fs fs' ex ex':List Addr}{H H1 H2:Hp}{h h1 h2 h':Heap}{a x e:Addr}{o:HO}
theorem Un.any (u:Un fs ex H H1 h h1) {b:Addr}{ob:Obj} (q:h.get? b=some ob) (n:H b=none) (hx:b ∉ ex):∃ sl,h1.get? b=some { ob with slots:=sl }:=by
 by_cases hb:b∈fs
 ·exact u.slot b ob q n hb hx
 ·exact ⟨ob.slots,u.keep b ob q n hb hx⟩
theorem Un.kept (k:∀ b u,h.get? b=some u→h'.get? b=some u):Un fs ex H H h h' :=
 ⟨fun b ob q _ _ _=>k b ob q,fun b ob q _ _ _=>⟨ob.slots,k b ob q⟩,fun _ _ _ n _=>n,fun b ob q _=>⟨ob,k b ob q⟩,fun _ _ q=>q,fun _ _ _ q=>q,fun _ ps q=>⟨#[],by rw [q];simp⟩⟩
theorem Un.refl:Un fs ex H H h h:=Un.kept fun _ _ q=>q
theorem Un.laid (k:∀ b u,h.get? b=some u→h'.get? b=some u) (hp:h.objs.size≤a) (hn:H a=none):Un fs ex H (upd H a o) h h' where
 keep:=fun b u q _ _ _=>k b u q
 slot:=fun b u q _ _ _=>⟨u.slots,k b u q⟩
 free:=fun b u q n _=>by rw [upd_ne (Nat.ne_of_lt (Nat.lt_of_lt_of_le (Heap.lt_size q) hp))];exact n
 there:=fun b u q _=>⟨u,k b u q⟩
 tups:=fun b xs q=>by rw [upd_ne (ne_of_none q hn)];exact q
 frzs:=fun b u xs q=>by rw [upd_ne (ne_of_none q hn)];exact q
 tbls:=fun b ps q=>⟨#[],by rw [upd_ne (ne_of_none q hn),q];simp⟩
theorem Un.write (mu:Mut (H x)) (he:e=x∨H e=some (.own x)) (k:∀ b u,b≠e→h.get? b=some u→h'.get? b=some u) (heo:∃ u,h'.get? e=some u):Un fs ex H (upd H x o) h h':=by
 have hx:∀ b,H b=none→b≠x:=fun b n z=>by subst z;rw [n] at mu;exact mu
 have hb:∀ b,H b=none→b≠e:=fun b n z=>by
  subst z
  rcases he with r | r
  ·exact hx b n r
  ·rw [n] at r;cases r
 have hm:∀ b u,H b=some u→¬ Mut (some u)→b≠x:=fun b u q nm z=>by subst z;rw [q] at mu;exact nm mu
 refine ⟨fun b u q n _ _=>k b u (hb b n) q,fun b u q n _ _=>⟨u.slots,k b u (hb b n) q⟩,fun b u q n _=>by rw [upd_ne (hx b n)];exact n,fun b u q _=>?_,
  fun b xs q=>by rw [upd_ne (hm b _ q fun z=>z)];exact q,fun b u xs q=>by rw [upd_ne (hm b _ q fun z=>z)];exact q,fun b ps q=>⟨#[],by rw [upd_ne (hm b _ q fun z=>z),q];simp⟩⟩
 by_cases hbe:b=e
 ·subst hbe;exact heo
 ·exact ⟨u,k b u hbe q⟩
end
def trk (h:Heap) (H:Hp):List Addr:=(List.range h.objs.size).filter fun a=>(H a).isSome
def hidT (h:Heap) (H:Hp):Heap:=PySem.W.hideAll h (trk h H)
theorem hidT_size (h:Heap) (H:Hp):(hidT h H).objs.size=h.objs.size:=PySem.W.hideAll_size _ _
theorem hidT_get {h:Heap}{H:Hp}{b:Addr}{o:Obj} (e:h.get? b=some o) (n:H b=none):(hidT h H).get? b=some o :=
 PySem.W.hideAll_get _ e fun hm=>by
  have q:(H b).isSome=true:=(List.mem_filter.mp hm).2
  rw [n] at q;simp at q
theorem of_hidT {h:Heap}{H:Hp}{b:Addr}{o:Obj} (e:(hidT h H).get? b=some o):h.get? b=some o∧H b=none:=by
 have e':h.get? b=some o:=PySem.W.of_hideAll (trk h H) e
 refine ⟨e',?_⟩
 cases q:H b with
 | none=>rfl
 | some x =>
  have hm:b∈trk h H:=List.mem_filter.mpr ⟨List.mem_range.mpr (Heap.lt_size e'),by simp [q]⟩
  have z:(hidT h H).get? b=none:=PySem.W.hideAll_none (trk h H) hm
  rw [z] at e;cases e
def allNews (g h:Heap) (L:Addr):List (Addr×Obj):=(List.range h.objs.size).filterMap fun a=>if a=L∨(g.get? a).isSome=true then none else (h.get? a).map fun o=>(a,o)
def rest (g h:Heap) (L d:Addr):List (Addr×Obj):=(allNews g h L).filter fun p=>decide (p.1≠d)
end L2
namespace L2
open PySem PySem.Spec PyProof.Rows
structure Mod (K:PySem.W.Frag) (mg:Str→Option Value) (base:Heap):Prop where
 kin:K.In base
 glob:base.Ns mainGlobals mg
 blt:∃ mb,base.Ns builtinsNs mb∧∀ x:Str,x≠"__name__"→mb x=bootBuiltins x
 nolimit:base.NoLimit
structure Cx where
 prog:Program
 w:World
 K:PySem.W.Frag
 mg:Str→Option Value
 base:Heap
 A:Around
 N:List Str
 s_0:Shared
 H_0:Hp
 env:Env
 outer:List Env
 stack:List Env
 ex:List Addr
 fn:Str→Bool
 calm:Bool
 pn:List (Addr×Obj)
 xe:Value→Shared→Prop
def frs (l:List Env):List Addr:=l.filterMap (·.frame)
abbrev Cx.fs (X:Cx):List Addr:=frs X.outer
def Vis (sc:Scope) (x:Str):Prop:=sc.names.lookup x=some .local∨sc.names.lookup x=some .cell∨sc.names.lookup x=some .free
def Loc (sc:Scope) (x:Str):Prop:=sc.names.lookup x=some .local∨sc.names.lookup x=some .cell
def Look (env:Env) (h:Heap) (m:Str→Option Value) (x:Str) (u:Value):Prop :=
 (env.kindOf x=some .local∧m x=some u)∨((env.kindOf x=some .cell∨env.kindOf x=some .free)∧∃ c,env.cells.lookup x=some c∧h.IsCell c (some u))
structure Cx.Ok (X:Cx):Prop where
 mod:Mod X.K X.mg X.base
 kind:X.env.scope.kind=.function
 glob:X.env.globals=mainGlobals
 blt:X.env.builtins=builtinsNs
 above:X.s_0.heap.objs.size≤X.env.locals
 inj:∀ x y c,X.env.cells.lookup x=some c→X.env.cells.lookup y=some c→x=y
 has:∀ x,(X.env.kindOf x=some .cell∨X.env.kindOf x=some .free)→∃ c,X.env.cells.lookup x=some c
 cab:∀ x c,X.fn x=true→X.env.cells.lookup x=some c→X.s_0.heap.objs.size≤c
 hd:X.calm=true→X.A.handled=none
 frames:X.A.frames=some X.stack
 stk:X.stack=X.outer∨(X.stack=X.env::X.outer∧X.env.frame=some X.env.locals)
 exf:∀ b∈X.ex,b≠X.env.locals∧∀ x c,X.env.cells.lookup x=some c→c≠b
 bs:∀ b o,X.base.get? b=some o→X.s_0.heap.get? b=some o∧X.H_0 b=none
 bsz:X.base.objs.size≤X.s_0.heap.objs.size
 noex:∀ b o,X.base.get? b=some o→b ∉ X.ex
 exfs:∀ b∈X.ex,b ∉ X.fs
 funs:X.s_0.heap.FunFrames X.base X.outer
 frf:∀ b∈X.fs,X.H_0 b=none
structure Inv (X:Cx) (pins:List (Addr×Obj)) (σ:List (Option V)) (H:Hp) (s:Shared):Prop where
 ok:X.Ok
 os:s.os=X.s_0.os
 bare:AllBare s.gens
 base:Un X.fs X.ex X.H_0 H X.s_0.heap s.heap
 loc:∃ m,s.heap.Ns X.env.locals m∧∀ (i:Nat) (x:Str) (v:V),X.N[i]?=some x→σ[i]?=some (some v)→Vis X.env.scope x→∃ u,RelV v u∧Look X.env s.heap m x u
 cell:∀ x c,X.env.cells.lookup x=some c→∃ v,s.heap.IsCell c v
 free:H X.env.locals=none
 freeC:∀ x c,X.env.cells.lookup x=some c→H c=none
 pin:∀ p∈X.pn++pins,s.heap.get? p.1=some p.2∧H p.1=none∧p.1≠X.env.locals∧p.1 ∉ X.fs∧∀ v,p.2.data≠.cell v
 hok:HOk X.prog X.w H s.heap
 len:σ.length=X.N.length
section
variable {X:Cx}{pins:List (Addr×Obj)}{σ:List (Option V)}{H H':Hp}{s:Shared}{h':Heap}
theorem Cx.Ok.nofr (ok:X.Ok) {b:Addr}{o:Obj} (e:X.base.get? b=some o):b ∉ X.fs:=fun hb=>by
 have:=(ok.funs.mem hb).1
 rw [e] at this;cases this
theorem Inv.bs (I:Inv X pins σ H s):∀ b o,X.base.get? b=some o→s.heap.get? b=some o∧H b=none:=fun b o e =>
 ⟨I.base.keep b o (I.ok.bs b o e).1 (I.ok.bs b o e).2 (I.ok.nofr e) (I.ok.noex b o e),I.base.free b o (I.ok.bs b o e).1 (I.ok.bs b o e).2 (I.ok.noex b o e)⟩
theorem Inv.bk (I:Inv X pins σ H s):∀ b o,X.base.get? b=some o→s.heap.get? b=some o:=fun b o e=>(I.bs b o e).1
theorem Inv.mod (I:Inv X pins σ H s):Mod X.K X.mg X.base:=I.ok.mod
theorem Inv.kIn (I:Inv X pins σ H s):X.K.In s.heap:=I.ok.mod.kin.keeps I.bk
theorem Inv.fr (I:Inv X pins σ H s):∃ m,Fr X.base X.env.locals s.heap m :=
 let ⟨m,hn,_⟩:=I.loc
 ⟨m,hn,I.bk,Nat.le_trans I.ok.bsz I.ok.above⟩
theorem Inv.lt (I:Inv X pins σ H s):X.env.locals<s.heap.objs.size:=let ⟨_,hn,_⟩:=I.loc;hn.lt
theorem Inv.sz (I:Inv X pins σ H s):X.s_0.heap.objs.size≤s.heap.objs.size:=Nat.le_trans I.ok.above (Nat.le_of_lt I.lt)
theorem Inv.nofs (I:Inv X pins σ H s) {a:Addr} (h:s.heap.objs.size≤a):a ∉ X.fs:=fun hb=>by
 obtain ⟨_,o,ho,_⟩:=I.ok.funs.mem hb
 exact absurd (Nat.lt_of_lt_of_le (Heap.lt_size ho) (Nat.le_trans I.sz h)) (Nat.lt_irrefl _)
theorem Inv.cne (I:Inv X pins σ H s):∀ x c,X.env.cells.lookup x=some c→c≠X.env.locals:=fun x c e z=>by
 obtain ⟨v,o,ho,hd⟩:=I.cell x c e
 obtain ⟨m,⟨o',es,ep,ho',hd',_⟩,_⟩:=I.loc
 rw [z,ho'] at ho;cases ho;rw [hd'] at hd;cases hd
theorem Inv.funs (I:Inv X pins σ H s):s.heap.FunFrames X.base X.outer:=by
 have all:∀ (l:List Env),(∀ b∈frs l,b∈X.fs)→X.s_0.heap.FunFrames X.base l→s.heap.FunFrames X.base l:=by
  intro l
  induction l with
  | nil=>intro _ _;trivial
  | cons env r ih =>
   intro hs hl
   obtain ⟨hk,⟨L,o,hf,hn,ho,hd⟩,hr⟩:=hl
   have hL:L∈X.fs:=hs L (by unfold frs;rw [List.filterMap_cons,hf];exact List.mem_cons_self)
   obtain ⟨sl,e⟩:=I.base.slot L o ho (I.ok.frf L hL) hL fun z=>I.ok.exfs L z hL
   exact ⟨hk,⟨L,_,hf,hn,e,hd⟩,ih (fun b hb=>hs b (by unfold frs;rw [List.filterMap_cons,hf];exact List.mem_cons_of_mem _ hb)) hr⟩
 exact all X.outer (fun _ hb=>hb) I.ok.funs
theorem Inv.stack (I:Inv X pins σ H s):s.heap.FunFrames X.base X.stack:=by
 rcases I.ok.stk with e | ⟨e,hf⟩
 ·rw [e];exact I.funs
 ·rw [e]
  obtain ⟨m,hn,_⟩:=I.loc
  refine .cons (by rw [I.ok.kind];decide) hf hn ?_ I.funs
  exact Heap.get?_none_of_le (Nat.le_trans I.ok.bsz I.ok.above)
theorem Inv.stkSub (I:Inv X pins σ H s):∀ b∈frs X.stack,b∈X.env.locals::X.fs:=fun b hb=>by
 rcases I.ok.stk with e | ⟨e,hf⟩
 ·rw [e] at hb;exact List.mem_cons_of_mem _ hb
 ·rw [e] at hb
  unfold frs at hb
  rw [List.filterMap_cons,hf] at hb
  exact hb
theorem Inv.stkFree (I:Inv X pins σ H s):∀ b∈frs X.stack,H b=none:=fun b hb=>by
 rcases List.mem_cons.mp (I.stkSub b hb) with e | hb
 ·rw [e];exact I.free
 ·obtain ⟨_,o,ho,_⟩:=I.ok.funs.mem hb
  exact I.base.free b o ho (I.ok.frf b hb) fun z=>I.ok.exfs b z hb
theorem Inv.step {g':Array GenState}{t':Nat}{d':Drawn}{ch:List Addr} (I:Inv X pins σ H s)
  (hch:∀ b∈ch,(b∈X.ex∨X.s_0.heap.objs.size≤b)∧b≠X.env.locals∧(∀ x c,X.env.cells.lookup x=some c→c≠b)∧∀ p∈X.pn++pins,p.1≠b)
  (keep:∀ b o,b≠X.env.locals→b ∉ X.fs→b ∉ ch→s.heap.get? b=some o→H b=none→h'.get? b=some o)
  (slot:∀ b o,b≠X.env.locals→b∈X.fs→b ∉ ch→s.heap.get? b=some o→H b=none→∃ sl,h'.get? b=some { o with slots:=sl }) (free:∀ b o,b ∉ ch→s.heap.get? b=some o→H b=none→H' b=none)
  (there:∀ b o,b ∉ ch→s.heap.get? b=some o→∃ o',h'.get? b=some o')
  (tups:∀ b xs,H b=some (.tup xs)→H' b=some (.tup xs)) (frzs:∀ b o u,H b=some (.frz o u)→H' b=some (.frz o u)) (tbls:∀ b ps,H b=some (.tbl ps)→∃ more,H' b=some (.tbl (ps++more)))
  (ns:∀ m,s.heap.Ns X.env.locals m→h'.Ns X.env.locals m) (hok:HOk X.prog X.w H' h') (hg:AllBare g') :
  Inv X pins σ H' { s with heap:=h',gens:=g',drawn:=d',toks:=t' }:=by
 have neL:∀ b o,X.s_0.heap.get? b=some o→b≠X.env.locals:=fun b o e=>Nat.ne_of_lt (Nat.lt_of_lt_of_le (Heap.lt_size e) I.ok.above)
 have neC:∀ b o,X.s_0.heap.get? b=some o→b ∉ X.ex→b ∉ ch:=fun b o e hx hb=>by
  rcases (hch b hb).1 with z | z
  ·exact hx z
  ·exact absurd (Nat.lt_of_lt_of_le (Heap.lt_size e) z) (Nat.lt_irrefl _)
 have cellK:∀ x c,X.env.cells.lookup x=some c→∀ v,s.heap.IsCell c v→h'.IsCell c v:=fun x c e v ⟨o,ho,hd⟩=>by
  have nch:c ∉ ch:=fun z=>(hch c z).2.2.1 x c e rfl
  by_cases hc:c∈X.fs
  ·obtain ⟨sl,q⟩:=slot c o (I.cne x c e) hc nch ho (I.freeC x c e)
   exact ⟨_,q,hd⟩
  ·exact ⟨o,keep c o (I.cne x c e) hc nch ho (I.freeC x c e),hd⟩
 refine ⟨I.ok,I.os,hg,⟨fun b o e n hb hx=>?_,fun b o e n hb hx=>?_,fun b o e n hx=>?_,fun b o e hx=>?_,fun b xs e=>tups b xs (I.base.tups b xs e),fun b o xs e=>frzs b o xs (I.base.frzs b o xs e),fun b ps e=>?_⟩,?_,fun x c e=>?_,?_,fun x c e=>?_,fun p hp=>?_,hok,I.len⟩
 ·exact keep b o (neL b o e) hb (neC b o e hx) (I.base.keep b o e n hb hx) (I.base.free b o e n hx)
 ·obtain ⟨sl,e1⟩:=I.base.slot b o e n hb hx
  obtain ⟨sl',e2⟩:=slot b _ (neL b o e) hb (neC b o e hx) e1 (I.base.free b o e n hx)
  exact ⟨sl',e2⟩
 ·obtain ⟨o',e1⟩:=I.base.there b o e hx
  exact free b o' (neC b o e hx) e1 (I.base.free b o e n hx)
 ·obtain ⟨o',e1⟩:=I.base.there b o e hx
  exact there b o' (neC b o e hx) e1
 ·obtain ⟨m1,e1⟩:=I.base.tbls b ps e
  obtain ⟨m2,e2⟩:=tbls b _ e1
  exact ⟨m1++m2,by rw [e2,Array.append_assoc]⟩
 ·obtain ⟨m,hn,hl⟩:=I.loc
  refine ⟨m,ns m hn,fun i x v e1 e2 e3=>?_⟩
  obtain ⟨u,r,l⟩:=hl i x v e1 e2 e3
  refine ⟨u,r,?_⟩
  rcases l with l | ⟨k,c,e,z⟩
  ·exact .inl l
  ·exact .inr ⟨k,c,e,cellK x c e _ z⟩
 ·obtain ⟨v,z⟩:=I.cell x c e
  exact ⟨v,cellK x c e v z⟩
 ·obtain ⟨m,⟨o,_,_,ho,_⟩,_⟩:=I.loc
  exact free _ o (fun z=>(hch _ z).2.1 rfl) ho I.free
 ·obtain ⟨v,o,ho,hd⟩:=I.cell x c e
  exact free c o (fun z=>(hch c z).2.2.1 x c e rfl) ho (I.freeC x c e)
 ·obtain ⟨e,n,ne,nf,d⟩:=I.pin p hp
  have nch:p.1 ∉ ch:=fun z=>(hch p.1 z).2.2.2 p hp rfl
  exact ⟨keep p.1 p.2 ne nf nch e n,free p.1 p.2 nch e n,ne,nf,d⟩
theorem Inv.un {t':Nat} (I:Inv X pins σ H s) (u:Un X.fs [] H H' s.heap h') (hok:HOk X.prog X.w H' h'):Inv X pins σ H' { s with heap:=h',toks:=t' }:=by
 obtain ⟨m,⟨o,es,ep,ho,r⟩,_⟩:=id I.loc
 obtain ⟨sl,hL⟩:=u.any ho I.free (by simp)
 exact I.step (g':=s.gens) (d':=s.drawn) (ch:=[]) (fun _ z=>nomatch z) (fun b o _ hb _ e n=>u.keep b o e n hb (by simp)) (fun b o _ hb _ e n=>u.slot b o e n hb (by simp)) (fun b o _ e n=>u.free b o e n (by simp)) (fun b o _ e=>u.there b o e (by simp)) u.tups u.frzs u.tbls (fun m' hm=>by
  obtain ⟨o',es',ep',ho',r'⟩:=hm
  rw [ho] at ho';cases ho'
  exact ⟨_,es',ep',hL,r'⟩) hok I.bare
theorem Inv.call {g':Array GenState}{t':Nat}{d':Drawn}{ch:List Addr} (I:Inv X pins σ H s) (u:Un (frs X.stack) ch H H' s.heap h') (hok:HOk X.prog X.w H' h') (hg:AllBare g')
  (hch:∀ b∈ch,(b∈X.ex∨X.s_0.heap.objs.size≤b)∧b≠X.env.locals∧(∀ x c,X.env.cells.lookup x=some c→c≠b)∧∀ p∈X.pn++pins,p.1≠b) :
  Inv X pins σ H' { s with heap:=h',gens:=g',drawn:=d',toks:=t' }:=by
 obtain ⟨m,⟨o,es,ep,ho,r⟩,_⟩:=id I.loc
 obtain ⟨sl,hL⟩:=u.any ho I.free fun z=>(hch _ z).2.1 rfl
 exact I.step (ch:=ch) hch (fun b o hL hb hc e n=>u.keep b o e n (fun z=>(List.mem_cons.mp (I.stkSub b z)).elim hL hb) hc) (fun b o _ _ hc e n=>u.any e n hc) (fun b o hc e n=>u.free b o e n hc) (fun b o hc e=>u.there b o e hc) u.tups u.frzs u.tbls (fun m' hm=>by
  obtain ⟨o',es',ep',ho',r'⟩:=hm
  rw [ho] at ho';cases ho'
  exact ⟨_,es',ep',hL,r'⟩) hok hg
theorem Inv.turned {t':Nat}{it:Addr} (I:Inv X pins σ H s) (k:∀ b o,b≠it→s.heap.get? b=some o→h'.get? b=some o) (hn:H it=none) (hL:it≠X.env.locals)
  (h1:it∈X.ex∨X.s_0.heap.objs.size≤it) (h2:∀ x c,X.env.cells.lookup x=some c→c≠it) (h3:∀ p∈X.pn++pins,p.1≠it):Inv X pins σ H { s with heap:=h',toks:=t' }:=by
 have nit:∀ b u,H b=some u→b≠it:=fun b u e z=>by rw [z,hn] at e;cases e
 refine I.step (g':=s.gens) (d':=s.drawn) (ch:=[it]) (fun b hb=>?_) (fun b o _ _ hc e _=>k b o (fun z=>hc (by simp [z])) e) (fun b o _ _ hc e _=>⟨o.slots,k b o (fun z=>hc (by simp [z])) e⟩) (fun _ _ _ _ n=>n)
  (fun b o hc e=>⟨o,k b o (fun z=>hc (by simp [z])) e⟩) (fun _ _ e=>e) (fun _ _ _ e=>e) (fun b ps e=>⟨#[],by rw [e];simp⟩) (fun m hm=>?_) (fun b u e=>?_) I.bare
 ·have e:b=it:=by simpa using hb
  subst e
  exact ⟨h1,hL,h2,h3⟩
 ·obtain ⟨o,es,ep,ho,r⟩:=hm
  exact ⟨o,es,ep,k _ o (Ne.symm hL) ho,r⟩
 ·refine (I.hok b u e).stay (fun c v hc q=>k c v ?_ q) (fun _ q=>q) fun _ _ q=>q
  rcases hc with z | z
  ·rw [z];exact nit b u e
  ·exact nit c _ z
theorem Inv.tok (I:Inv X pins σ H s) (t:Nat):Inv X pins σ H { s with toks:=t }:=I.un (h':=s.heap) (t':=t) Un.refl I.hok
theorem Inv.kept {t':Nat} (I:Inv X pins σ H s) (k:∀ b u,s.heap.get? b=some u→h'.get? b=some u):Inv X pins σ H { s with heap:=h',toks:=t' }:=I.un (Un.kept k) (I.hok.kept k)
theorem Inv.laid {a:Addr}{o:HO}{t':Nat} (I:Inv X pins σ H s) (k:∀ b u,s.heap.get? b=some u→h'.get? b=some u) (hp:s.heap.objs.size≤a) (new:ObjOk X.prog X.w (upd H a o) h' a o) :
  Inv X pins σ (upd H a o) { s with heap:=h',toks:=t' }:=I.un (Un.laid k hp (I.hok.fresh hp)) (I.hok.laid k hp new)
theorem Inv.write {x e:Addr}{o:HO}{t':Nat} (I:Inv X pins σ H s) (mu:Mut (H x)) (he:e=x∨H e=some (.own x)) (k:∀ b u,b≠e→s.heap.get? b=some u→h'.get? b=some u) (heo:∃ u,h'.get? e=some u)
  (new:ObjOk X.prog X.w (upd H x o) h' x o):Inv X pins σ (upd H x o) { s with heap:=h',toks:=t' }:=I.un (Un.write mu he k heo) (I.hok.write mu he k heo new)
theorem Inv.weak {σ':List (Option V)} (I:Inv X pins σ H s) (hl:σ'.length=σ.length) (w:∀ (i:Nat) v,σ'[i]?=some (some v)→σ[i]?=some (some v)):Inv X pins σ' H s :=
 ⟨I.ok,I.os,I.bare,I.base,let ⟨m,hn,hl'⟩:=I.loc;⟨m,hn,fun i x v e1 e2 e3=>hl' i x v e1 (w i v e2) e3⟩,I.cell,I.free,I.freeC,I.pin,I.hok,hl.trans I.len⟩
theorem Inv.pins_of {pins':List (Addr×Obj)} (I:Inv X pins σ H s) (h:∀ p∈pins',s.heap.get? p.1=some p.2∧H p.1=none∧p.1≠X.env.locals∧p.1 ∉ X.fs∧∀ v,p.2.data≠.cell v):Inv X pins' σ H s :=
 ⟨I.ok,I.os,I.bare,I.base,I.loc,I.cell,I.free,I.freeC,fun p hp=>(List.mem_append.mp hp).elim (fun z=>I.pin p (List.mem_append_left _ z)) (h p),I.hok,I.len⟩
theorem nodup_ix {N:List Str} (hN:N.Nodup) {i j:Nat}{x:Str} (a:N[i]?=some x) (b:N[j]?=some x):i=j:=by
 obtain ⟨h1,e1⟩:=List.getElem?_eq_some_iff.mp a
 obtain ⟨h2,e2⟩:=List.getElem?_eq_some_iff.mp b
 exact (List.getElem_inj hN).mp (e1.trans e2.symm)
theorem store_ok2 {M:Model}{A:Around}{E:Value→Shared→Prop}{i:Nat}{x:Str}{v:V}{u:Value}{Q:Unit→Shared→Prop} (I:Inv X pins σ H s) (hN:X.N.Nodup) (hi:X.N[i]?=some x) (hx:Loc X.env.scope x) (r:RelV v u)
  (h:∀ s',Inv X pins (σ.set i (some v)) H s'→(∃ a,Heap.SameBut a s.heap s'.heap∧(a=X.env.locals∨X.env.cells.lookup x=some a))→Q () s') (hf:X.fn x=true∨X.env.scope.names.lookup x=some .local:=by first | exact .inl rfl | exact .inr rfl | assumption):wpAny M A (storeName X.env x u) Q E s:=by
 obtain ⟨m,hn,hl⟩:=id I.loc
 have hcls:(X.env.scope.kind==.class || (X.env.scope.kind==.module && X.env.locals != X.env.globals))=false:=by rw [I.ok.kind];rfl
 have hiσ:i<σ.length:=by rw [I.len];exact (List.getElem?_eq_some_iff.mp hi).1
 have cne:=I.cne
 have tracked:∀ {a:Addr}{h':Heap},(∃ o,s.heap.get? a=some o∧H a=none)→Heap.SameBut a s.heap h'→HOk X.prog X.w H h':=fun {a h'} ha hs b ob e=>by
  obtain ⟨_,_,hfree⟩:=ha
  refine (I.hok b ob e).stay (fun c w' hc q=>(hs.2 c ?_).trans q) (fun _ q=>q) fun _ _ q=>q
  rintro rfl
  rcases hc with rfl | hc
  ·rw [hfree] at e;cases e
  ·rw [hfree] at hc;cases hc
 rcases hx with hk | hk
 ·refine wpAny_storeName_local hk hn (fun h' hn' hs=>?_) hcls
  obtain ⟨oL,_,_,hoL,_⟩:=id hn
  refine h _ ⟨I.ok,I.os,I.bare,⟨fun b o e n hb hx=>?_,fun b o e n hb hx=>?_,I.base.free,fun b o e hx=>?_,I.base.tups,I.base.frzs,I.base.tbls⟩,⟨_,hn',fun j y v' e1 e2 e3=>?_⟩,fun y c e=>?_,I.free,I.freeC,fun p hp=>?_,tracked ⟨oL,hoL,I.free⟩ hs,by simpa using I.len⟩ ⟨_,hs,.inl rfl⟩
  ·exact (hs.2 b (Nat.ne_of_lt (Nat.lt_of_lt_of_le (Heap.lt_size e) I.ok.above))).trans (I.base.keep b o e n hb hx)
  ·obtain ⟨sl,e1⟩:=I.base.slot b o e n hb hx
   exact ⟨sl,(hs.2 b (Nat.ne_of_lt (Nat.lt_of_lt_of_le (Heap.lt_size e) I.ok.above))).trans e1⟩
  ·obtain ⟨o',e1⟩:=I.base.there b o e hx
   exact ⟨o',(hs.2 b (Nat.ne_of_lt (Nat.lt_of_lt_of_le (Heap.lt_size e) I.ok.above))).trans e1⟩
  ·by_cases hj:j=i
   ·subst hj
    rw [hi] at e1;cases e1
    rw [List.getElem?_set_self hiσ] at e2
    cases e2
    exact ⟨u,r,.inl ⟨hk,by simp⟩⟩
   ·rw [List.getElem?_set_ne (Ne.symm hj)] at e2
    obtain ⟨u',r',q⟩:=hl j y v' e1 e2 e3
    refine ⟨u',r',?_⟩
    rcases q with ⟨k,e⟩ | ⟨k,c,e,z⟩
    ·refine .inl ⟨k,?_⟩
     have:y≠x:=fun e=>hj (nodup_ix hN e1 (e ▸ hi))
     simp [this,e]
    ·exact .inr ⟨k,c,e,z.sameBut hs (cne y c e)⟩
  ·obtain ⟨w',z⟩:=I.cell y c e
   exact ⟨w',z.sameBut hs (cne y c e)⟩
  ·obtain ⟨e,n,ne,nf,d⟩:=I.pin p hp
   exact ⟨(hs.2 p.1 ne).trans e,n,ne,nf,d⟩
 ·have hfn:X.fn x=true:=by
   rcases hf with z | z
   ·exact z
   ·rw [z] at hk;cases hk
  obtain ⟨c,hc⟩:=I.ok.has x (.inl hk)
  obtain ⟨w',z⟩:=I.cell x c hc
  refine wpAny_storeName_cell I.ok.kind hk hc z (fun h' hc' hs=>?_)
  obtain ⟨oc,hoc,hocd⟩:=id z
  refine h { s with heap:=h' } ⟨I.ok,I.os,I.bare,⟨fun b o e n hb hx=>?_,fun b o e n hb hx=>?_,I.base.free,fun b o e hx=>?_,I.base.tups,I.base.frzs,I.base.tbls⟩,⟨m,hn.sameBut hs (Ne.symm (cne x c hc)),fun j y v' e1 e2 e3=>?_⟩,fun y c' e=>?_,I.free,I.freeC,fun p hp=>?_,tracked ⟨oc,hoc,I.freeC x c hc⟩ hs,by simpa using I.len⟩ ⟨c,hs,.inr hc⟩
  ·exact (hs.2 b (Nat.ne_of_lt (Nat.lt_of_lt_of_le (Heap.lt_size e) (I.ok.cab x c hfn hc)))).trans (I.base.keep b o e n hb hx)
  ·obtain ⟨sl,e1⟩:=I.base.slot b o e n hb hx
   exact ⟨sl,(hs.2 b (Nat.ne_of_lt (Nat.lt_of_lt_of_le (Heap.lt_size e) (I.ok.cab x c hfn hc)))).trans e1⟩
  ·obtain ⟨o',e1⟩:=I.base.there b o e hx
   exact ⟨o',(hs.2 b (Nat.ne_of_lt (Nat.lt_of_lt_of_le (Heap.lt_size e) (I.ok.cab x c hfn hc)))).trans e1⟩
  ·by_cases hj:j=i
   ·subst hj
    rw [hi] at e1;cases e1
    rw [List.getElem?_set_self hiσ] at e2
    cases e2
    exact ⟨u,r,.inr ⟨.inl hk,c,hc,hc'⟩⟩
   ·rw [List.getElem?_set_ne (Ne.symm hj)] at e2
    obtain ⟨u',r',q⟩:=hl j y v' e1 e2 e3
    refine ⟨u',r',?_⟩
    rcases q with q | ⟨k,c',e,z'⟩
    ·exact .inl q
    ·refine .inr ⟨k,c',e,z'.sameBut hs ?_⟩
     rintro rfl
     exact hj (nodup_ix hN e1 (I.ok.inj _ _ _ e hc ▸ hi))
  ·by_cases hcc:c'=c
   ·subst hcc;exact ⟨_,hc'⟩
   ·obtain ⟨w2,z2⟩:=I.cell y c' e
    exact ⟨w2,z2.sameBut hs hcc⟩
  ·obtain ⟨e,n,ne,nf,d⟩:=I.pin p hp
   refine ⟨(hs.2 p.1 ?_).trans e,n,ne,nf,d⟩
   intro q
   rw [q,hoc] at e
   have q':oc=p.2:=Option.some.inj e
   exact d w' (by rw [← q'];exact hocd)
theorem store_ok {M:Model}{A:Around}{E:Value→Shared→Prop}{i:Nat}{x:Str}{v:V}{u:Value}{Q:Unit→Shared→Prop} (I:Inv X pins σ H s) (hN:X.N.Nodup) (hi:X.N[i]?=some x) (hx:Loc X.env.scope x) (r:RelV v u)
  (h:∀ s',Inv X pins (σ.set i (some v)) H s'→Q () s') (hf:X.fn x=true∨X.env.scope.names.lookup x=some .local:=by first | exact .inl rfl | exact .inr rfl | assumption):wpAny M A (storeName X.env x u) Q E s :=
 store_ok2 I hN hi hx r (fun s' I' _=>h s' I') hf
theorem Inv.call' {s':Shared}{ch:List Addr} (I:Inv X pins σ H s) (ho:s'.os=s.os) (u:Un (frs X.stack) ch H H' s.heap s'.heap) (hok:HOk X.prog X.w H' s'.heap) (hg:AllBare s'.gens)
  (hch:∀ b∈ch,(b∈X.ex∨X.s_0.heap.objs.size≤b)∧b≠X.env.locals∧(∀ x c,X.env.cells.lookup x=some c→c≠b)∧∀ p∈X.pn++pins,p.1≠b):Inv X pins σ H' s':=by
 obtain ⟨h',g',d',t',o'⟩:=s'
 have e:o'=s.os:=ho
 subst e
 exact I.call (g':=g') (t':=t') (d':=d') u hok hg hch
end
abbrev XK:=Value→Option Addr→Hp→Prop
abbrev St:=List (Option V)
abbrev VK:=V→Hp→Prop
abbrev TE:=St→Hp→VK→Prop
abbrev TT:=St→Hp→(Bool→Hp→Prop)→Prop
abbrev TA:=St→Hp→(List V→Hp→Prop)→Prop
structure Ends where
 nx:St→Hp→Prop
 rt:VK
 bk:St→Hp→Prop:=fun _ _=>False
 ct:St→Hp→Prop:=fun _ _=>False
abbrev TS:=Ends→St→Hp→Prop
def EP (X:Cx) (pins:List (Addr×Obj)) (σ:St) (Q:VK) (u:Value) (s':Shared):Prop:=∃ v H',Inv X pins σ H' s'∧RelV v u∧Q v H'
def TP (X:Cx) (pins:List (Addr×Obj)) (σ:St) (Q:Bool→Hp→Prop) (b:Bool) (s':Shared):Prop:=∃ H',Inv X pins σ H' s'∧Q b H'
def AP (X:Cx) (pins:List (Addr×Obj)) (σ:St) (Q:List V→Hp→Prop) (us:List Value) (s':Shared):Prop:=∃ vs H',Inv X pins σ H' s'∧Vals vs us∧Q vs H'
def SP (X:Cx) (pins:List (Addr×Obj)) (D:Ends) (f:Flow) (s':Shared):Prop :=
 match f with
 | .next=>∃ σ' H',Inv X pins σ' H' s'∧D.nx σ' H'
 | .brk=>∃ σ' H',Inv X pins σ' H' s'∧D.bk σ' H'
 | .cont=>∃ σ' H',Inv X pins σ' H' s'∧D.ct σ' H'
 | .ret u=>∃ v σ' H',Inv X pins σ' H' s'∧RelV v u∧D.rt v H'
def PE (X:Cx) (e:Expr) (t:TE):Prop :=
 ∀ (pins:List (Addr×Obj)) (s:Shared) (σ:St) (H:Hp) (Q:VK),Inv X pins σ H s→t σ H Q→wpAny (model X.prog X.w) X.A (eval e X.env) (EP X pins σ Q) X.xe s
def PT (X:Cx) (e:Expr) (t:TT):Prop :=
 ∀ (pins:List (Addr×Obj)) (s:Shared) (σ:St) (H:Hp) (Q:Bool→Hp→Prop),Inv X pins σ H s→t σ H Q→wpAny (model X.prog X.w) X.A (isTrue e X.env (eval e X.env)) (TP X pins σ Q) X.xe s
def PW (X:Cx) (e:Expr) (t:TT):Prop :=
 ∀ (whole:Sem Value) (pins:List (Addr×Obj)) (s:Shared) (σ:St) (H:Hp) (Q:Bool→Hp→Prop),Inv X pins σ H s→t σ H Q→wpAny (model X.prog X.w) X.A (isTrue e X.env whole) (TP X pins σ Q) X.xe s
theorem PW.pt {X:Cx}{e:Expr}{t:TT} (h:PW X e t):PT X e t:=h _
def PA (X:Cx) (es:List Expr) (t:TA):Prop :=
 ∀ (pos:Pos) (pins:List (Addr×Obj)) (s:Shared) (σ:St) (H:Hp) (Q:List V→Hp→Prop),Inv X pins σ H s→t σ H Q→wpAny (model X.prog X.w) X.A (spliced (backTo pos (starEach es X.env))) (AP X pins σ Q) X.xe s
def PS (X:Cx) (st:Stmt) (t:TS):Prop :=
 ∀ (pins:List (Addr×Obj)) (s:Shared) (σ:St) (H:Hp) (D:Ends),Inv X pins σ H s→t D σ H→wpAny (model X.prog X.w) X.A (exec st X.env) (SP X pins D) X.xe s
def PSs (X:Cx) (st:List Stmt) (t:TS):Prop :=
 ∀ (pins:List (Addr×Obj)) (s:Shared) (σ:St) (H:Hp) (D:Ends),Inv X pins σ H s→t D σ H→wpAny (model X.prog X.w) X.A (execs st X.env) (SP X pins D) X.xe s
theorem thn {α:Type}{t:Sem α}{Q Q':α→Shared→Prop}{M:Model}{A:Around}{E:Value→Shared→Prop}{s:Shared} (h:wpAny M A t Q E s) (hQ:∀ a s,Q a s→Q' a s):wpAny M A t Q' E s:=wpAny_mono h hQ fun _ _ x=>x
end L2
namespace L2
open PySem PySem.Spec PyProof.Rows
section
variable {X:Cx}
theorem bin {a b:Expr}{ta tb:TE} (ha:PE X a ta) (hb:PE X b tb) {pins:List (Addr×Obj)}{s:Shared}{σ:St}{H:Hp}{R:V→V→Hp→Prop} (I:Inv X pins σ H s) (h:ta σ H fun x H1=>tb σ H1 fun y H2=>R x y H2)
  {α:Type}{Q:α→Shared→Prop}{f:Value→Value→Sem α}
  (hf:∀ v u s2 x y H2,Inv X pins σ H2 s2→RelV x v→RelV y u→R x y H2→wpAny (model X.prog X.w) X.A (f v u) Q X.xe s2) :
  wpAny (model X.prog X.w) X.A (eval a X.env) (fun v s₁=>wpAny (model X.prog X.w) X.A (eval b X.env) (fun u s₂=>wpAny (model X.prog X.w) X.A (f v u) Q X.xe s₂) X.xe s₁) X.xe s:=by
 refine thn (ha pins s σ H _ I h) fun v s1 ⟨x,H1,I1,r1,q1⟩=>?_
 refine thn (hb pins s1 σ H1 _ I1 q1) fun u s2 ⟨y,H2,I2,r2,q2⟩=>?_
 exact hf v u s2 x y H2 I2 r1 r2 q2
def tVar (i:Nat):TE:=fun σ H Q=>∃ v,σ[i]?=some (some v)∧Q v H
def tC (v:V):TE:=fun _ H Q=>Q v H
theorem pe_var {i:Nat}{x:Str}{pos:Pos} (hN:X.N[i]?=some x) (hv:Vis X.env.scope x) (hd:(x==("__debug__":Str))=false:=by decide) (hcd:(x==("__classdict__":Str))=false:=by decide):PE X (.Name x pos) (tVar i):=by
 intro pins s σ H Q I h
 obtain ⟨v,e,h⟩:=h
 obtain ⟨m,hn,hl⟩:=I.loc
 obtain ⟨u,r,l⟩:=hl i x v hN e hv
 have fin:EP X pins σ Q u s:=⟨v,H,I,r,h⟩
 rcases l with ⟨hk,hm⟩ | ⟨hk,c,hc,hcell⟩
 ·exact wpAny_Name (wpAny_loadName_local I.ok.kind hk hn hm fin) hd
 ·rcases hk with hk | hk
  ·exact wpAny_Name (wpAny_loadName_cell I.ok.kind hk hc hcell fin) hd
  ·exact wpAny_Name (wpAny_loadName_free I.ok.kind hk hc hcell fin hcd) hd
theorem pe_int {i j pos}:PE X (.Constant (.int i) j pos) (tC (.int i)):=fun _ _ _ H _ I h=>wpAny_Constant_int ⟨.int i,H,I.tok _,⟨_,rfl⟩,h⟩
theorem pe_bl {b j pos}:PE X (.Constant (.bool b) j pos) (tC (.bl b)):=fun _ _ _ H _ I h=>Constant_bool ⟨.bl b,H,I,rfl,h⟩
theorem pe_str {x j pos}:PE X (.Constant (.str x) j pos) (tC (.str x)):=fun _ _ _ H _ I h=>Calls.Constant_str ⟨.str x,H,I.tok _,⟨_,rfl⟩,h⟩
def Gl (X:Cx) (x:Str):Prop:=X.env.kindOf x=some .globalImplicit
theorem ld_glob {E:Value→Shared→Prop}{pins:List (Addr×Obj)}{s:Shared}{σ:St}{H:Hp}{x:Str}{u:Value}{pos:Pos}{Q:Value→Shared→Prop} (I:Inv X pins σ H s) (hg:Gl X x) (hm:X.mg x=some u) (h:Q u s)
  (hd:(x==("__debug__":Str))=false:=by decide):wpAny (model X.prog X.w) X.A (eval (.Name x pos) X.env) Q E s :=
 Calls.Name_function_global I.ok.kind hg (Calls.loadGlobal_global (by rw [I.ok.glob];exact I.mod.glob.keeps I.bk) hm h) hd
theorem ld_blt {E:Value→Shared→Prop}{pins:List (Addr×Obj)}{s:Shared}{σ:St}{H:Hp}{x:Str}{u:Value}{pos:Pos}{Q:Value→Shared→Prop} (I:Inv X pins σ H s) (hg:Gl X x) (hm:X.mg x=none) (hv:bootBuiltins x=some u) (h:Q u s)
  (hn:x≠"__name__":=by decide) (hd:(x==("__debug__":Str))=false:=by decide):wpAny (model X.prog X.w) X.A (eval (.Name x pos) X.env) Q E s:=by
 obtain ⟨mb,h1,h2⟩:=I.mod.blt
 exact Calls.Name_function_global I.ok.kind hg (Calls.loadGlobal_builtin (by rw [I.ok.glob];exact I.mod.glob.keeps I.bk) hm (by rw [I.ok.blt];exact h1.keeps I.bk) ((h2 x hn).trans hv) h) hd
theorem pe_glob {x:Str}{v:V}{u:Value}{pos:Pos} (hg:Gl X x) (hm:X.mg x=some u) (r:RelV v u) (hd:(x==("__debug__":Str))=false:=by decide):PE X (.Name x pos) (tC v) :=
 fun _ _ _ H _ I h=>ld_glob I hg hm ⟨v,H,I,r,h⟩ hd
variable {a b:Expr}{ta tb:TE}{pos:Pos}
def PC (X:Cx) (op:CmpOp) (a b:Expr) (t:TE):Prop :=
 ∀ (pins:List (Addr×Obj)) (s:Shared) (σ:St) (H:Hp) (Q:VK),Inv X pins σ H s→t σ H Q →
  wpAny (model X.prog X.w) X.A (eval a X.env) (fun v s₁=>wpAny (model X.prog X.w) X.A (eval b X.env) (fun u s₂=>wpAny (model X.prog X.w) X.A (compareOp op v u) (EP X pins σ Q) X.xe s₂) X.xe s₁) X.xe s
theorem nobehind (b:Expr) {op:CmpOp} (h:op≠.In) (h2:op≠.NotIn):behindInMarks op b=false:=by
 have e1:(op==CmpOp.In)=false:=by cases op <;> first | rfl | exact absurd rfl h
 have e2:(op==CmpOp.NotIn)=false:=by cases op <;> first | rfl | exact absurd rfl h2
 cases b <;> simp [behindInMarks,e1,e2]
def tB (t:TE):TT:=fun σ H Q=>t σ H fun x H1=>∃ c,x=.bl c∧Q c H1
theorem pt_cmp {op:CmpOp}{t:TE} (h:PC X op a b t) (h1:behindInMarks op b=false:=by first | exact nobehind _ (by decide) (by decide) | rfl):PT X (.Compare a [op] [b] pos) (tB t):=by
 intro pins s σ H Q I hw
 refine wpAny_isTrue_Compare1 (thn (h pins s σ H _ I hw) fun v s1 h1=>thn h1 fun u s2 h2=>thn h2 fun c s3 ⟨x,H1,I1,r1,q1⟩=>?_) h1
 obtain ⟨d,rfl,q⟩:=q1
 cases r1
 exact wpAny_truthy_bool ⟨H1,I1,q⟩
theorem pt_val {e:Expr}{t:TE} (h:PE X e t) (he:∀ whole,isTrue e X.env whole=(do let v ← whole;standAt e.pos;holding [v] (truthy v)):=by intro _;rfl):PT X e (tB t):=by
 intro pins s σ H Q I hw
 refine isTrue_plain (thn (h pins s σ H _ I hw) fun v s1 ⟨x,H1,I1,r1,q1⟩=>?_) (he _)
 obtain ⟨d,rfl,q⟩:=q1
 cases r1
 exact wpAny_truthy_bool ⟨H1,I1,q⟩
variable {tA tB':TT}{rest:List Expr}
def tAnd (t u:TT):TT:=fun σ H Q=>t σ H fun c H1=>if c=true then u σ H1 Q else Q false H1
def tOr (t u:TT):TT:=fun σ H Q=>t σ H fun c H1=>if c=true then Q true H1 else u σ H1 Q
def tNot (t:TT):TT:=fun σ H Q=>t σ H fun c H1=>Q (!c) H1
theorem pw_and1 (ha:PT X a tA):PW X (.BoolOp .And [a] pos) tA:=by
 intro wh pins s σ H Q I h
 refine isTrue_and (thn (ha pins s σ H Q I h) fun c s1 e=>?_)
 cases c with
 | true=>exact isTrue_and_nil e
 | false=>exact e
theorem pw_or1 (ha:PT X a tA):PW X (.BoolOp .Or [a] pos) tA:=by
 intro wh pins s σ H Q I h
 refine isTrue_or (thn (ha pins s σ H Q I h) fun c s1 e=>?_)
 cases c with
 | false=>exact isTrue_or_nil e
 | true=>exact e
theorem pw_and (ha:PT X a tA) (hb:PW X (.BoolOp .And (b::rest) pos) tB'):PW X (.BoolOp .And (a::b::rest) pos) (tAnd tA tB'):=by
 intro wh pins s σ H Q I h
 refine isTrue_and (thn (ha pins s σ H _ I h) fun c s1 ⟨H1,I1,q1⟩=>?_)
 cases c with
 | true=>exact hb wh pins s1 σ H1 Q I1 q1
 | false=>exact ⟨H1,I1,q1⟩
theorem pw_or (ha:PT X a tA) (hb:PW X (.BoolOp .Or (b::rest) pos) tB'):PW X (.BoolOp .Or (a::b::rest) pos) (tOr tA tB'):=by
 intro wh pins s σ H Q I h
 refine isTrue_or (thn (ha pins s σ H _ I h) fun c s1 ⟨H1,I1,q1⟩=>?_)
 cases c with
 | true=>exact ⟨H1,I1,q1⟩
 | false=>exact hb wh pins s1 σ H1 Q I1 q1
theorem pt_not (ha:PT X a tA):PT X (.UnaryOp .Not a pos) (tNot tA):=by
 intro pins s σ H Q I h
 exact isTrue_not (ha pins s σ H (fun c H1=>Q (!c) H1) I h)
def tAndV (ta tb:TE):TE:=fun σ H Q=>ta σ H fun x H1=>∃ c,x=.bl c∧if c=true then tb σ H1 Q else Q (.bl false) H1
def tOrV (ta tb:TE):TE:=fun σ H Q=>ta σ H fun x H1=>∃ c,x=.bl c∧if c=true then Q (.bl true) H1 else tb σ H1 Q
def tNotV (ta:TE):TE:=fun σ H Q=>ta σ H fun x H1=>∃ c,x=.bl c∧Q (.bl (!c)) H1
theorem pe_one {op}{t:TE} (h:PE X a t):PE X (.BoolOp op [a] pos) t:=fun pins s σ H Q I hw=>BoolOp_one (h pins s σ H Q I hw)
theorem pe_and (ha:PE X a ta) (hb:PE X (.BoolOp .And (b::rest) pos) tb):PE X (.BoolOp .And (a::b::rest) pos) (tAndV ta tb):=by
 intro pins s σ H Q I h
 refine BoolOp_and (thn (ha pins s σ H _ I h) fun v s1 ⟨x,H1,I1,r1,q1⟩=>?_)
 obtain ⟨c,rfl,q1⟩:=q1
 cases r1
 refine wpAny_truthy_bool ?_
 cases c with
 | true=>exact hb pins s1 σ H1 Q I1 q1
 | false=>exact ⟨.bl false,H1,I1,rfl,q1⟩
theorem pe_or (ha:PE X a ta) (hb:PE X (.BoolOp .Or (b::rest) pos) tb):PE X (.BoolOp .Or (a::b::rest) pos) (tOrV ta tb):=by
 intro pins s σ H Q I h
 refine BoolOp_or (thn (ha pins s σ H _ I h) fun v s1 ⟨x,H1,I1,r1,q1⟩=>?_)
 obtain ⟨c,rfl,q1⟩:=q1
 cases r1
 refine wpAny_truthy_bool ?_
 cases c with
 | false=>exact hb pins s1 σ H1 Q I1 q1
 | true=>exact ⟨.bl true,H1,I1,rfl,q1⟩
def tIf (t:TT) (ta tb:TE):TE:=fun σ H Q=>t σ H fun c H1=>if c=true then ta σ H1 Q else tb σ H1 Q
end
end L2
namespace L2
open PySem PySem.Spec PyProof.Rows
def SqL (K:PySem.W.Frag) (H:Hp) (a:Addr) (xs:List V):Prop :=
 Rd H a (.lst xs) ∨
  ∃ (o:Obj) (its:Array Value) (n:Nat),K.lookup a=some o∧o.cls=.type "list"∧o.dict=none∧o.data=.seq its n∧its.size≤sizeLine∧Vals xs its.toList
def SqT (K:PySem.W.Frag) (H:Hp) (a:Addr) (xs:List V):Prop :=
 Rd H a (.tup xs) ∨
  ∃ (o:Obj) (its:Array Value) (n:Nat),K.lookup a=some o∧o.cls=.type "tuple"∧o.data=.seq its n∧its.size≤sizeLine∧Vals xs its.toList
def absV:Value→Option V
 | .none=>some .non
 | .bool b=>some (.bl b)
 | .int i _=>some (.int i)
 | .str x _=>some (.str x)
 | .bytes b _=>some (.byt b)
 | .float b _=>some (.flt b)
 | .ref a=>some (.ref a)
 | .type n=>some (.ty n)
 | _=>none
theorem RelV.abs {x:V}{u:Value} (r:RelV x u):absV u=some x:=by
 cases x with
 | non=>cases r;rfl
 | bl _=>cases r;rfl
 | int _=>obtain ⟨t,rfl⟩:=r;rfl
 | str _=>obtain ⟨t,rfl⟩:=r;rfl
 | byt _=>obtain ⟨t,rfl⟩:=r;rfl
 | flt _=>obtain ⟨t,rfl⟩:=r;rfl
 | ref _=>cases r;rfl
 | ty _=>cases r;rfl
theorem RelV.inj {x y:V}{u:Value} (r:RelV x u) (q:RelV y u):x=y:=Option.some.inj (r.abs.symm.trans q.abs)
theorem Vals.inj:∀ {xs ys:List V}{us:List Value},Vals xs us→Vals ys us→xs=ys
 | _,_,_,.nil,.nil=>rfl
 | _,_,_,.cons r t,.cons r' t'=>by rw [r.inj r',Vals.inj t t']
section
variable {X:Cx}{pins:List (Addr×Obj)}{σ:St}{H:Hp}{s:Shared}{a:Addr}{xs ys:List V}
theorem SqL.of {K:PySem.W.Frag} (h:H a=some (.lst xs)):SqL K H a xs:=.inl (.inl h)
theorem Inv.list (I:Inv X pins σ H s) (h:SqL X.K H a xs):∃ its:List Value,Vals xs its∧PlainL s.heap a its.toArray∧xs.length≤sizeLine:=by
 rcases h with h | ⟨o,its,n,hk,hc,hd,hs,hz,r⟩
 ·obtain ⟨z,its,n,r,e⟩:=h.ok I.hok
  exact ⟨its,r,⟨_,n,e,rfl,rfl,rfl⟩,z⟩
 ·refine ⟨its.toList,r,⟨o,n,I.kIn a o hk,hc,hd,by simpa using hs⟩,?_⟩
  have e:=r.length
  simp only [Array.length_toList] at e
  omega
theorem Inv.tuple (I:Inv X pins σ H s) (h:SqT X.K H a xs):∃ its:List Value,Vals xs its∧IsTup s.heap a its.toArray∧xs.length≤sizeLine:=by
 rcases h with h | ⟨o,its,n,hk,hc,hs,hz,r⟩
 ·obtain ⟨z,its,r,p⟩:=h.ok I.hok
  exact ⟨its,r,p,z⟩
 ·refine ⟨its.toList,r,⟨o,I.kIn a o hk,hc,n,by simpa using hs⟩,?_⟩
  have e:=r.length
  simp only [Array.length_toList] at e
  omega
theorem Inv.list_inj (I:Inv X pins σ H s) (h:SqL X.K H a xs) (h':SqL X.K H a ys):xs=ys:=by
 obtain ⟨its,r,⟨o,n,e,_,_,d⟩,_⟩:=I.list h
 obtain ⟨its',r',⟨o',n',e',_,_,d'⟩,_⟩:=I.list h'
 rw [e] at e';cases e'
 rw [d] at d'
 injection d' with d1 _
 have:its=its':=by simpa using congrArg Array.toList d1
 subst this
 exact r.inj r'
theorem Inv.tuple_inj (I:Inv X pins σ H s) (h:SqT X.K H a xs) (h':SqT X.K H a ys):xs=ys:=by
 obtain ⟨its,r,⟨o,e,_,n,d⟩,_⟩:=I.tuple h
 obtain ⟨its',r',⟨o',e',_,n',d'⟩,_⟩:=I.tuple h'
 rw [e] at e';cases e'
 rw [d] at d'
 injection d' with d1 _
 have:its=its':=by simpa using congrArg Array.toList d1
 subst this
 exact r.inj r'
end
abbrev Cx.wish (X:Cx) (E:Value→Shared→Prop):Cx:={ X with xe:=E }
abbrev Cx.nox (X:Cx):Cx:=X.wish fun _ _=>False
theorem Cx.Ok.wish {X:Cx} (ok:X.Ok) (E:Value→Shared→Prop):(X.wish E).Ok :=
 ⟨ok.mod,ok.kind,ok.glob,ok.blt,ok.above,ok.inj,ok.has,ok.cab,ok.hd,ok.frames,ok.stk,ok.exf,ok.bs,ok.bsz,ok.noex,ok.exfs,ok.funs,ok.frf⟩
theorem Cx.Ok.unwish {X:Cx}{E:Value→Shared→Prop} (ok:(X.wish E).Ok):X.Ok :=
 ⟨ok.mod,ok.kind,ok.glob,ok.blt,ok.above,ok.inj,ok.has,ok.cab,ok.hd,ok.frames,ok.stk,ok.exf,ok.bs,ok.bsz,ok.noex,ok.exfs,ok.funs,ok.frf⟩
section
variable {X:Cx}{pins:List (Addr×Obj)}{σ:St}{H:Hp}{s:Shared}{E:Value→Shared→Prop}
theorem Inv.wish (I:Inv X pins σ H s) (E:Value→Shared→Prop):Inv (X.wish E) pins σ H s:=⟨I.ok.wish E,I.os,I.bare,I.base,I.loc,I.cell,I.free,I.freeC,I.pin,I.hok,I.len⟩
theorem Inv.unwish (I:Inv (X.wish E) pins σ H s):Inv X pins σ H s:=⟨I.ok.unwish,I.os,I.bare,I.base,I.loc,I.cell,I.free,I.freeC,I.pin,I.hok,I.len⟩
theorem SP.unwish {D:Ends}{f:Flow}{s':Shared} (h:SP (X.wish E) pins D f s'):SP X pins D f s':=by
 cases f with
 | next=>obtain ⟨σ',H',I,q⟩:=h;exact ⟨σ',H',I.unwish,q⟩
 | brk=>obtain ⟨σ',H',I,q⟩:=h;exact ⟨σ',H',I.unwish,q⟩
 | cont=>obtain ⟨σ',H',I,q⟩:=h;exact ⟨σ',H',I.unwish,q⟩
 | ret u=>obtain ⟨v,σ',H',I,r,q⟩:=h;exact ⟨v,σ',H',I.unwish,r,q⟩
theorem PSs.nox {st:List Stmt}{t:TS} (h:PSs X.nox st t):PSs X st t:=fun pins s σ H D I hw =>
 wpAny_mono (h pins s σ H D (I.wish _) hw) (fun _ _ q=>q.unwish) fun _ _ z=>False.elim z
end
section
variable {X:Cx}{st:Stmt}{rest:List Stmt}{t u:TS}{e:Expr}{te:TE}{pos:Pos}
def tNext:TS:=fun D σ H=>D.nx σ H
def tSeq (t u:TS):TS:=fun D σ H=>t { D with nx:=u D } σ H
theorem pss_nil:PSs X [] tNext:=fun _ _ σ H _ I h=>wpAny_execs_nil ⟨σ,H,I,h⟩
theorem pss_cons (h1:PS X st t) (h2:PSs X rest u):PSs X (st::rest) (tSeq t u):=by
 intro pins s σ H D I h
 refine wpAny_execs_cons (thn (h1 pins s σ H { D with nx:=u D } I h) fun f s1 q=>?_)
 cases f with
 | next =>
  obtain ⟨σ',H',I',q⟩:=q
  exact h2 pins s1 σ' H' D I' q
 | ret v=>exact q
 | brk=>exact q
 | cont=>exact q
theorem pss_one (h1:PS X st t):PSs X [st] t:=by
 intro pins s σ H D I h
 refine wpAny_execs_cons (thn (h1 pins s σ H D I h) fun f s1 q=>?_)
 cases f with
 | next=>exact wpAny_execs_nil q
 | ret v=>exact q
 | brk=>exact q
 | cont=>exact q
theorem Inv.quiet {pins:List (Addr×Obj)}{σ:St}{H:Hp}{s:Shared} (I:Inv X pins σ H s):interactive X.env=false:=by simp [interactive,I.ok.kind]
def tDrop (te:TE):TS:=fun D σ H=>te σ H fun _ H1=>D.nx σ H1
theorem ps_expr (he:PE X e te) (hs:swapsWith e none pos.line X.env=pure false:=by rfl):PS X (.Expr e pos) (tDrop te):=by
 intro pins s σ H D I h
 exact wpAny_Expr_any (thn (he pins s σ H _ I h) fun v s1 ⟨x,H1,I1,r1,q1⟩=>⟨σ,H1,I1,q1⟩) I.quiet hs
def tRet (te:TE):TS:=fun D σ H=>te σ H D.rt
theorem ps_ret (he:PE X e te):PS X (.Return (some e) pos) (tRet te):=by
 intro pins s σ H D I h
 exact wpAny_Return_some (thn (he pins s σ H _ I h) fun v s1 ⟨x,H1,I1,r1,q1⟩=>⟨x,σ,H1,I1,r1,q1⟩)
def tRetN:TS:=fun D _ H=>D.rt .non H
def tIfS (c:TT) (t u:TS):TS:=fun D σ H=>c σ H fun b H1=>if b=true then t D σ H1 else u D σ H1
theorem ps_if {c:Expr}{a b:List Stmt}{tc:TT} (hc:PT X c tc) (ha:PSs X a t) (hb:PSs X b u):PS X (.If c a b pos) (tIfS tc t u):=by
 intro pins s σ H D I h
 refine wpAny_If (thn (hc pins s σ H _ I h) fun d s1 ⟨H1,I1,q1⟩=>?_)
 cases d with
 | true=>exact ha pins s1 σ H1 D I1 q1
 | false=>exact hb pins s1 σ H1 D I1 q1
end
abbrev TG:=V→St→Hp→(St→Hp→Prop)→Prop
abbrev TGs:=List V→St→Hp→(St→Hp→Prop)→Prop
def PG (X:Cx) (target:Expr) (t:TG):Prop :=
 ∀ (pins:List (Addr×Obj)) (s:Shared) (σ:St) (H:Hp) (v:V) (u:Value) (Q:St→Hp→Prop),Inv X pins σ H s→RelV v u→t v σ H Q →
  wpAny (model X.prog X.w) X.A (assign target X.env u) (fun _ s'=>∃ σ' H',Inv X pins σ' H' s'∧Q σ' H') X.xe s
def PGs (X:Cx) (ts:List Expr) (t:TGs):Prop :=
 ∀ (pins:List (Addr×Obj)) (s:Shared) (σ:St) (H:Hp) (vs:List V) (us:List Value) (Q:St→Hp→Prop),Inv X pins σ H s→Vals vs us→t vs σ H Q →
  wpAny (model X.prog X.w) X.A (assignInOrder ((assignEach ts X.env).map (·.2)) us) (fun _ s'=>∃ σ' H',Inv X pins σ' H' s'∧Q σ' H') X.xe s
abbrev TIp:=V→V→Hp→VK→Prop
section
variable {X:Cx}{pos:Pos}
def gName (i:Nat):TG:=fun v σ H Q=>Q (σ.set i (some v)) H
theorem pg_name {i:Nat}{x:Str} (hN:X.N.Nodup) (hi:X.N[i]?=some x) (hx:Loc X.env.scope x) (hf:X.fn x=true∨X.env.scope.names.lookup x=some .local:=by first | exact .inl rfl | exact .inr rfl | assumption):PG X (.Name x pos) (gName i):=by
 intro pins s σ H v u Q I r h
 exact wpAny_assign_Name (store_ok I hN hi hx r (fun s' I'=>⟨_,H,I',h⟩) hf)
def gNil:TGs:=fun vs σ H Q=>vs=[]∧Q σ H
def gCons (t:TG) (u:TGs):TGs:=fun vs σ H Q=>∃ v r,vs=v::r∧t v σ H fun σ' H'=>u r σ' H' Q
theorem pgs_nil:PGs X [] gNil:=by
 intro pins s σ H vs us Q I r h
 obtain ⟨e,h⟩:=h
 subst e
 cases r
 exact assignInOrder_nil ⟨σ,H,I,h⟩
theorem pgs_cons {e:Expr}{es:List Expr}{t:TG}{u:TGs} (h1:PG X e t) (h2:PGs X es u)
  (hs:(assignEach (e::es) X.env).map (·.2)=assign e X.env::(assignEach es X.env).map (·.2):=by rfl):PGs X (e::es) (gCons t u):=by
 intro pins s σ H vs us Q I r h
 obtain ⟨v,vr,e1,h⟩:=h
 subst e1
 cases r with
 | cons r rr =>
  rw [hs]
  refine assignInOrder_cons (thn (h1 pins s σ H _ _ _ I r h) fun _ s1 ⟨σ1,H1,I1,q1⟩=>?_)
  exact h2 pins s1 σ1 H1 _ _ Q I1 rr q1
def gTup (K:PySem.W.Frag) (n:Nat) (t:TGs):TG:=fun v σ H Q=>∃ a xs,v=.ref a∧SqT K H a xs∧xs.length=n∧t xs σ H Q
theorem pg_tup {es:List Expr}{k:Nat}{t:TGs}{n:Nat} (hc:X.calm=true) (h:PGs X es t)
  (hn:(assignEach es X.env).length=n:=by rfl) (hst:(assignEach es X.env).findIdx? (·.1)=none:=by rfl):PG X (.Tuple es k pos) (gTup X.K n t):=by
 intro pins s σ H v u Q I r hw
 obtain ⟨a,xs,e1,hq,hl,hw⟩:=hw
 subst e1
 cases r
 obtain ⟨its,rv,ht,hz⟩:=I.tuple hq
 refine assign_Tuple_tuple (I.ok.hd hc) ht (by simp [hn,← hl,rv.length]) hst fun h' hx=>?_
 have I1:Inv X pins σ H { s with heap:=h' }:=I.kept (t':=s.toks) fun b o e=>hx b o (Nat.ne_of_lt (Heap.lt_size e)) e
 exact h pins _ σ H xs _ Q I1 (by simpa using rv) hw
def tAsg (te:TE) (g:TG):TS:=fun D σ H=>te σ H fun x H1=>g x σ H1 D.nx
theorem ps_set {i:Nat}{x:Str}{e:Expr}{te:TE}{pos':Pos} (hN:X.N.Nodup) (hi:X.N[i]?=some x) (hx:Loc X.env.scope x) (he:PE X e te) (hs:swapsWith e (some (.Name x pos')) pos.line X.env=pure false:=by rfl) (hf:X.fn x=true∨X.env.scope.names.lookup x=some .local:=by first | exact .inl rfl | exact .inr rfl | assumption) :
  PS X (.Assign [.Name x pos'] e pos) (tAsg te (gName i)):=by
 intro pins s σ H D I h
 refine wpAny_Assign_Name (thn (he pins s σ H _ I h) fun v s1 ⟨y,H1,I1,r1,q1⟩=>?_) hs
 exact store_ok I1 hN hi hx r1 (fun s2 I2=>⟨_,H1,I2,q1⟩) hf
def tAug (i:Nat) (te:TE) (ti:TIp):TS:=fun D σ H=>∃ x,σ[i]?=some (some x)∧te σ H fun y H1=>ti x y H1 fun z H2=>D.nx (σ.set i (some z)) H2
def ipI (f:Int→Int→Int):TIp:=fun x y H Q=>∃ i j,x=.int i∧y=.int j∧Q (.int (f i j)) H
end
section
variable {X:Cx}{pos:Pos}
def tWhile (c:TT) (tb:TS):TS:=fun D σ H=>∃ W:Nat→St→Hp→Prop,(∃ m,W m σ H)∧∀ m σ H,W m σ H →
 c σ H fun b H1=>if b=true then ∃ N:St→Hp→Prop,(∀ σ' H',N σ' H'→∃ m',m' < m∧W m' σ' H')∧tb { D with nx:=N,ct:=N,bk:=D.nx } σ H1 else D.nx σ H1
theorem ps_while {c:Expr}{body:List Stmt}{tc:TT}{tb:TS} (hp:PassesOwn (model X.prog X.w) X.A X.env X.xe) (hc:PT X c tc) (hb:PSs X body tb):PS X (.While c body [] pos) (tWhile tc tb):=by
 intro pins s σ H D I h
 obtain ⟨W,⟨m0,w0⟩,turn⟩:=h
 refine wpAny_While (codeAny_whileLoop (fun n s'=>∃ σ' H',Inv X pins σ' H' s'∧W n σ' H') ?_ m0 ⟨σ,H,I,w0⟩)
 rintro n s1 ⟨σ1,H1,I1,w1⟩
 refine wpAny_passesOwn hp (thn (hc pins s1 σ1 H1 _ I1 (turn n σ1 H1 w1)) fun b s2 ⟨H2,I2,q2⟩=>?_)
 cases b with
 | true =>
  obtain ⟨N,hN,q2⟩:=q2
  rw [if_pos rfl]
  refine wpAny_passesOwn hp (thn (hb pins s2 σ1 H2 _ I2 q2) fun f s3 q3=>?_)
  cases f with
  | next =>
   obtain ⟨σ3,H3,I3,n3⟩:=q3
   obtain ⟨m',hm,w3⟩:=hN σ3 H3 n3
   exact ⟨m',hm,σ3,H3,I3,w3⟩
  | cont =>
   obtain ⟨σ3,H3,I3,n3⟩:=q3
   obtain ⟨m',hm,w3⟩:=hN σ3 H3 n3
   exact ⟨m',hm,σ3,H3,I3,w3⟩
  | brk=>exact q3
  | ret v=>exact q3
 | false =>
  rw [if_neg Bool.false_ne_true]
  exact wpAny_execs_nil ⟨σ1,H2,I2,q2⟩
end
structure It where
 go:Nat→Hp→Prop
 yld:Nat→Hp→V→Hp→Prop
 stop:Nat→Hp→Prop
def FpOk (X:Cx) (pins:List (Addr×Obj)) (H:Hp) (b:Addr):Prop :=
 H b=none∧b≠X.env.locals∧b ∉ X.fs∧(b∈X.ex∨X.s_0.heap.objs.size≤b)∧(∀ x c,X.env.cells.lookup x=some c→c≠b)∧∀ p∈X.pn++pins,p.1≠b
theorem Inv.fpOk {X:Cx}{pins:List (Addr×Obj)}{σ:St}{H H':Hp}{s:Shared}{b:Addr} (I:Inv X pins σ H s) (hb:s.heap.objs.size≤b) (hn:H' b=none):FpOk X pins H' b:=by
 refine ⟨hn,Nat.ne_of_gt (Nat.lt_of_lt_of_le I.lt hb),I.nofs hb,.inr (Nat.le_trans I.sz hb),fun x c e z=>?_,fun p hp z=>?_⟩
 ·obtain ⟨v,q⟩:=I.cell x c e
  exact absurd (Nat.lt_of_lt_of_le q.lt (by rw [z];exact hb)) (Nat.lt_irrefl _)
 ·exact absurd (Nat.lt_of_lt_of_le (Heap.lt_size (I.pin p hp).1) (by rw [z];exact hb)) (Nat.lt_irrefl _)
structure Turn (P:Program) (w:World) (K:PySem.W.Frag) (tg:Expr) (J:It) (fp:List Addr) (it:Addr) (tn:Nat→Heap→Prop):Prop where
 mem:it∈fp
 obj:∀ i h,tn i h→∀ b∈fp,∃ o,h.get? b=some o∧∀ v,o.data≠.cell v
 keep:∀ i h h',tn i h→(∀ b∈fp,∀ o,h.get? b=some o→h'.get? b=some o)→tn i h'
 item:∀ (X:Cx),X.prog=P→X.w=w→X.K=K→X.calm=true→∀ (i:Nat) (pins:List (Addr×Obj)) (s:Shared) (σ:St) (H:Hp) (E:Value→Shared→Prop),Inv X pins σ H s→(∀ b∈fp,FpOk X pins H b)→tn i s.heap→J.go i H →
  wpAny (model P w) X.A (pyNext (.ref it)) (fun r s1=>∃ u,r=some u ∧
   wpAny (model P w) X.A (letOwnedTupleGo tg (.ref it) u) (fun _ s2=>∃ x H',Inv X pins σ H' s2∧RelV x u∧J.yld i H x H'∧tn (i+1) s2.heap∧∀ b∈fp,H' b=none) E s1) E s
 done:∀ (X:Cx),X.prog=P→X.w=w→X.K=K→X.calm=true→∀ (i:Nat) (pins:List (Addr×Obj)) (s:Shared) (σ:St) (H:Hp) (E:Value→Shared→Prop),Inv X pins σ H s→(∀ b∈fp,FpOk X pins H b)→tn i s.heap→J.stop i H →
  wpAny (model P w) X.A (pyNext (.ref it)) (fun r s1=>r=none∧Inv X pins σ H s1) E s
 self:∀ (A:Around) (i:Nat) (s:Shared) (Q:Value→Shared→Prop) (E:Value→Shared→Prop),tn i s.heap→Q (.ref it) s→wpAny (model P w) A (pyIter (.ref it)) Q E s
abbrev TI:=St→Hp→(It→Hp→Prop)→Prop
def PIE (X:Cx) (pins:List (Addr×Obj)) (σ:St) (tg:Expr) (R:It→Hp→Prop) (itv:Value) (s2:Shared):Prop :=
 ∃ (it:Addr) (fp:List Addr) (tn:Nat→Heap→Prop) (J:It) (H':Hp),itv=.ref it∧Inv X pins σ H' s2∧Turn X.prog X.w X.K tg J fp it tn∧tn 0 s2.heap∧(∀ b∈fp,FpOk X pins H' b)∧R J H'
def PI (X:Cx) (tg iter:Expr) (wi:TI):Prop :=
 ∀ (pins:List (Addr×Obj)) (s:Shared) (σ:St) (H:Hp) (R:It→Hp→Prop),Inv X pins σ H s→wi σ H R →
  wpAny (model X.prog X.w) X.A (eval iter X.env) (fun v s1=>wpAny (model X.prog X.w) X.A (pyIter v) (PIE X pins σ tg R) X.xe s1) X.xe s
theorem go_of {M:Model}{A:Around}{E:Value→Shared→Prop}{s:Shared}{tg:Expr}{it:Addr}{u:Value}{o:Obj}{n:String}{vs:Array Value}{Q:Unit→Shared→Prop} (ho:s.heap.get? it=some o) (hc:o.cls=.type n) (hd:o.data=.fields vs)
    (hn:["enumerate","zip","dict_itemiterator","dict_reverseitemiterator","odict_iterator","itertools.zip_longest","itertools.pairwise"].contains n=false) (hQ:Q () s):wpAny M A (letOwnedTupleGo tg (.ref it) u) Q E s:=by
  unfold letOwnedTupleGo
  cases tg <;> first
    | exact wpAny_pure hQ
    | (cases u <;> first
        | exact wpAny_pure hQ
        | (refine wpAny_bind (wpAny_load ho ?_)
           rw [hc,hd]
           show wpAny M A (if (["enumerate","zip","dict_itemiterator","dict_reverseitemiterator","odict_iterator","itertools.zip_longest","itertools.pairwise"].contains n && vs[0]?==some (rawInt _))=true then _ else _) Q E s
           rw [if_neg (by intro h;rw [hn,Bool.false_and] at h;cases h)]
           exact wpAny_pure hQ))
def Itl (K:PySem.W.Frag) (a:Addr):It :=
 ⟨fun i H=>∃ xs x,SqL K H a xs∧xs[i]?=some x,fun i H x H'=>H'=H∧∀ xs,SqL K H a xs→xs[i]?=some x,fun i H=>∃ xs,SqL K H a xs∧xs.length≤i⟩
def Itt (K:PySem.W.Frag) (a:Addr):It :=
 ⟨fun i H=>∃ xs x,SqT K H a xs∧xs[i]?=some x,fun i H x H'=>H'=H∧∀ xs,SqT K H a xs→xs[i]?=some x,fun i H=>∃ xs,SqT K H a xs∧xs.length≤i⟩
def Itr (lo:Int) (n:Nat):It:=⟨fun i _=>i<n,fun i H x H'=>H'=H∧x=.int (lo+i),fun i _=>n≤i⟩
theorem turn_list {P:Program}{w:World}{K:PySem.W.Frag}{tg:Expr} (a it:Addr):Turn P w K tg (Itl K a) [it] it (fun i h=>h.IsListIter it a i) where
 mem:=by simp
 obj:=fun i h st b hb=>by
  have e:b=it:=by simpa using hb
  subst e
  obtain ⟨o,e,c,d⟩:=st
  exact ⟨o,e,fun v z=>by rw [d] at z;cases z⟩
 keep:=fun i h h' st k=>st.at fun o e=>k it (by simp) o e
 item:=by
  intro X hP hw hK hc i pins s σ H E I hf st hg
  subst hP hw hK
  obtain ⟨xs,x,hq,hx⟩:=hg
  obtain ⟨its,rv,p,hz⟩:=I.list hq
  obtain ⟨u,hu,ru⟩:=rv.get hx
  obtain ⟨f0,f1,f2,f3,f4,f5⟩:=hf it (by simp)
  refine wpAny_pyNext_list_item st p.isList (x:=u) (by simpa using hu) fun h' st' sb=>?_
  have I1:Inv X pins σ H { s with heap:=h' }:=I.turned (t':=s.toks) (fun b o hb e=>(sb.2 b hb).trans e) f0 f1 f3 f4 f5
  obtain ⟨o,e,c,d⟩:=id st'
  exact ⟨u,rfl,go_of (s:={ s with heap:=h' }) e c d (by decide) ⟨x,H,I1,ru,⟨rfl,fun ys hy=>by rw [I.list_inj hy hq];exact hx⟩,st',fun b hb=>(hf b hb).1⟩⟩
 done:=by
  intro X hP hw hK hc i pins s σ H E I hf st hg
  subst hP hw hK
  obtain ⟨xs,hq,hx⟩:=hg
  obtain ⟨its,rv,p,hz⟩:=I.list hq
  obtain ⟨f0,f1,f2,f3,f4,f5⟩:=hf it (by simp)
  have hl:=rv.length
  exact wpAny_pyNext_list_end (I.ok.hd hc) st p.isList (by simp;omega) fun h' eb=>⟨rfl,I.turned (t':=s.toks) (fun b o hb e=>eb b o hb e) f0 f1 f3 f4 f5⟩
 self:=fun _ _ _ _ _ st h=>wpAny_pyIter_listiter st h
theorem turn_tuple {P:Program}{w:World}{K:PySem.W.Frag}{tg:Expr} (a it:Addr):Turn P w K tg (Itt K a) [it] it (fun i h=>h.IsTupleIter it a i) where
 mem:=by simp
 obj:=fun i h st b hb=>by
  have e:b=it:=by simpa using hb
  subst e
  obtain ⟨o,e,c,d⟩:=st
  exact ⟨o,e,fun v z=>by rw [d] at z;cases z⟩
 keep:=fun i h h' st k=>st.at fun o e=>k it (by simp) o e
 item:=by
  intro X hP hw hK hc i pins s σ H E I hf st hg
  subst hP hw hK
  obtain ⟨xs,x,hq,hx⟩:=hg
  obtain ⟨its,rv,p,hz⟩:=I.tuple hq
  obtain ⟨u,hu,ru⟩:=rv.get hx
  obtain ⟨f0,f1,f2,f3,f4,f5⟩:=hf it (by simp)
  refine wpAny_pyNext_tuple_item st (show s.heap.IsTuple a its.toArray from p) (x:=u) (by simpa using hu) fun h' st' sb=>?_
  have I1:Inv X pins σ H { s with heap:=h' }:=I.turned (t':=s.toks) (fun b o hb e=>(sb.2 b hb).trans e) f0 f1 f3 f4 f5
  obtain ⟨o,e,c,d⟩:=id st'
  exact ⟨u,rfl,go_of (s:={ s with heap:=h' }) e c d (by decide) ⟨x,H,I1,ru,⟨rfl,fun ys hy=>by rw [I.tuple_inj hy hq];exact hx⟩,st',fun b hb=>(hf b hb).1⟩⟩
 done:=by
  intro X hP hw hK hc i pins s σ H E I hf st hg
  subst hP hw hK
  obtain ⟨xs,hq,hx⟩:=hg
  obtain ⟨its,rv,p,hz⟩:=I.tuple hq
  obtain ⟨f0,f1,f2,f3,f4,f5⟩:=hf it (by simp)
  have hl:=rv.length
  exact wpAny_pyNext_tuple_end (I.ok.hd hc) st (show s.heap.IsTuple a its.toArray from p) (by simp;omega) fun h' eb=>⟨rfl,I.turned (t':=s.toks) (fun b o hb e=>eb b o hb e) f0 f1 f3 f4 f5⟩
 self:=fun _ _ _ _ _ st h=>wpAny_pyIter_tupleiter st h
theorem turn_range {P:Program}{w:World}{K:PySem.W.Frag}{tg:Expr} (it:Addr) (lo:Int) (n:Nat):Turn P w K tg (Itr lo n) [it] it (fun i h=>IsRangeIter h it (lo+(i:Nat) * 1) ((n:Int)-(i:Nat)) 1) where
 mem:=by simp
 obj:=fun i h st b hb=>by
  have e:b=it:=by simpa using hb
  subst e
  exact ⟨_,st,fun v z=>by
   have z':Data.fields _=Data.cell v:=z
   cases z'⟩
 keep:=fun i h h' st k=>k it (by simp) _ st
 item:=by
  intro X hP hw hK hc i pins s σ H E I hf st hg
  subst hP hw hK
  obtain ⟨f0,f1,f2,f3,f4,f5⟩:=hf it (by simp)
  have W:=Walks.range (prog:=X.prog) (w:=X.w) (I.ok.hd hc) it lo 1 n
  refine W.item i s _ _ hg st fun v h' tk hv st' kk=>?_
  obtain ⟨t,rfl⟩:=hv
  have I1:Inv X pins σ H { s with heap:=h',toks:=tk }:=I.turned (fun b o hb e=>kk b o (by simpa using hb) e) f0 f1 f3 f4 f5
  refine ⟨_,rfl,go_of (s:={ s with heap:=h',toks:=tk }) (n:="range_iterator") st' rfl rfl (by decide) ⟨.int (lo+i),H,I1,⟨t,?_⟩,⟨rfl,rfl⟩,st',fun b hb=>(hf b hb).1⟩⟩
  rw [Int.mul_one]
 done:=by
  intro X hP hw hK hc i pins s σ H E I hf st hg
  subst hP hw hK
  obtain ⟨f0,f1,f2,f3,f4,f5⟩:=hf it (by simp)
  exact wpAny_pyNext_range_end (I.ok.hd hc) st (by have:n≤i:=hg;omega) fun h' eb=>⟨rfl,I.turned (t':=s.toks) (fun b o hb e=>eb b o hb e) f0 f1 f3 f4 f5⟩
 self:=fun _ _ _ _ _ st h=>wpAny_pyIter_rangeiter st h
end L2
namespace L2
open PySem PySem.Spec PyProof.Rows
section
variable {X:Cx}{tg:Expr}
def iList (K:PySem.W.Frag) (tl:TE):TI:=fun σ H R=>tl σ H fun x H1=>∃ a,x=.ref a∧(∃ xs,SqL K H1 a xs)∧R (Itl K a) H1
def iTup (K:PySem.W.Frag) (tl:TE):TI:=fun σ H R=>tl σ H fun x H1=>∃ a,x=.ref a∧(∃ xs,SqT K H1 a xs)∧R (Itt K a) H1
theorem pi_list {l:Expr}{tl:TE} (hl:PE X l tl):PI X tg l (iList X.K tl):=by
 intro pins s σ H R I h
 refine thn (hl pins s σ H _ I h) fun v s1 ⟨x,H1,I1,r1,q1⟩=>?_
 obtain ⟨a,e,⟨xs,hq⟩,q⟩:=q1
 subst e
 cases r1
 obtain ⟨its,rv,p,hz⟩:=I1.list hq
 refine wpAny_pyIter_list p.isList ?_
 refine ⟨s1.heap.objs.size,[s1.heap.objs.size],_,_,H1,rfl,I1.kept (t':=s1.toks) fun b o e=>Heap.get?_push_of_some _ e,turn_list a _,⟨_,Heap.get?_push_size _ rfl,rfl,rfl⟩,fun b hb=>?_,q⟩
 have e:b=s1.heap.objs.size:=by simpa using hb
 subst e
 exact I1.fpOk (Nat.le_refl _) (I1.hok.fresh (Nat.le_refl _))
theorem pi_tup {l:Expr}{tl:TE} (hl:PE X l tl):PI X tg l (iTup X.K tl):=by
 intro pins s σ H R I h
 refine thn (hl pins s σ H _ I h) fun v s1 ⟨x,H1,I1,r1,q1⟩=>?_
 obtain ⟨a,e,⟨xs,hq⟩,q⟩:=q1
 subst e
 cases r1
 obtain ⟨its,rv,p,hz⟩:=I1.tuple hq
 refine wpAny_pyIter_tuple (show s1.heap.IsTuple a its.toArray from p) ?_
 refine ⟨s1.heap.objs.size,[s1.heap.objs.size],_,_,H1,rfl,I1.kept (t':=s1.toks) fun b o e=>Heap.get?_push_of_some _ e,turn_tuple a _,⟨_,Heap.get?_push_size _ rfl,rfl,rfl⟩,fun b hb=>?_,q⟩
 have e:b=s1.heap.objs.size:=by simpa using hb
 subst e
 exact I1.fpOk (Nat.le_refl _) (I1.hok.fresh (Nat.le_refl _))
def tFor (wi:TI) (g:TG) (tb:TS):TS:=fun D σ H=>wi σ H fun J H1=>∃ W:Nat→Nat→St→Hp→Prop,(∃ m,W 0 m σ H1)∧∀ i m σ H,W i m σ H →
 (J.stop i H∧D.nx σ H)∨(J.go i H∧∃ N:St→Hp→Prop,(∀ σ' H',N σ' H'→∃ m',m' < m∧W (i+1) m' σ' H')∧∀ x H',J.yld i H x H'→g x σ H' fun σ2 H2=>tb { D with nx:=N,ct:=N,bk:=D.nx } σ2 H2)
def pinsAt (fp:List Addr) (h:Heap):List (Addr×Obj):=fp.filterMap fun b=>(h.get? b).map fun o=>(b,o)
theorem mem_pinsAt {fp:List Addr}{h:Heap}{b:Addr}{o:Obj} (hb:b∈fp) (e:h.get? b=some o):(b,o)∈pinsAt fp h:=List.mem_filterMap.mpr ⟨b,hb,by rw [e];rfl⟩
theorem of_pinsAt {fp:List Addr}{h:Heap}{p:Addr×Obj} (hp:p∈pinsAt fp h):p.1∈fp∧h.get? p.1=some p.2:=by
 obtain ⟨b,hb,e⟩:=List.mem_filterMap.mp hp
 cases q:h.get? b with
 | none=>rw [q] at e;cases e
 | some o =>
  rw [q] at e
  have e':(b,o)=p:=Option.some.inj e
  subst e'
  exact ⟨hb,q⟩
theorem Inv.pinned {pins:List (Addr×Obj)}{σ:St}{H:Hp}{s:Shared}{fp:List Addr} (I:Inv X pins σ H s) (hf:∀ b∈fp,FpOk X pins H b) (ho:∀ b∈fp,∃ o,s.heap.get? b=some o∧∀ v,o.data≠.cell v):Inv X (pins++pinsAt fp s.heap) σ H s :=
 I.pins_of fun p hp=>(List.mem_append.mp hp).elim (fun z=>I.pin p (List.mem_append_right _ z)) fun z=>by
  obtain ⟨hb,e⟩:=of_pinsAt z
  obtain ⟨f0,f1,f2,_⟩:=hf p.1 hb
  obtain ⟨o,e',d⟩:=ho p.1 hb
  rw [e] at e';cases e'
  exact ⟨e,f0,f1,f2,d⟩
theorem Inv.unpinned {pins pl:List (Addr×Obj)}{σ:St}{H:Hp}{s:Shared} (I:Inv X (pins++pl) σ H s):Inv X pins σ H s:=I.pins_of fun p hp=>I.pin p (List.mem_append_right _ (List.mem_append_left _ hp))
theorem ps_for {iter:Expr}{body:List Stmt}{wi:TI}{g:TG}{tb:TS}{pos:Pos} (hp:PassesOwn (model X.prog X.w) X.A X.env X.xe) (hc:X.calm=true) (hi:PI X tg iter wi) (hg:PG X tg g) (hb:PSs X body tb)
  (hs:∀ x,foldedSetIterable iter X.env x=pure x:=by intro _;rfl):PS X (.For tg iter body [] pos) (tFor wi g tb):=by
 intro pins s σ H D I h
 refine wpAny_For (thn (hi pins s σ H _ I h) fun v s1 h1=>thn h1 fun itv s2 h2=>?_) hs
 obtain ⟨it,fp,tn,J,H2,e,I2,T,st2,f2,W,⟨m0,w0⟩,turn⟩:=h2
 subst e
 -- what stays true of the iterator's objects through the loop
 have stat:∀ {H':Hp},(∀ b∈fp,H' b=none)→∀ b∈fp,FpOk X pins H' b:=fun hn b hb=>⟨hn b hb,(f2 b hb).2⟩
 refine codeAny_forLoop_any (fun n s'=>∃ i σ' H',Inv X pins σ' H' s'∧tn i s'.heap∧(∀ b∈fp,H' b=none)∧W i n σ' H') ?_ m0 ⟨0,σ,H2,I2,st2,fun b hb=>(f2 b hb).1,w0⟩
 rintro n s3 ⟨i,σ3,H3,I3,st3,fr3,w3⟩
 rcases turn i n σ3 H3 w3 with ⟨stop,qn⟩ | ⟨go,N,hN,step⟩
 ·refine wpAny_passesOwn hp (thn (T.done X rfl rfl rfl hc i pins s3 σ3 H3 X.xe I3 (stat fr3) st3 stop) fun r s4 ⟨hr,I4⟩=>?_)
  subst hr
  exact wpAny_execs_nil ⟨σ3,H3,I4,qn⟩
 ·refine wpAny_passesOwn hp (thn (T.item X rfl rfl rfl hc i pins s3 σ3 H3 X.xe I3 (stat fr3) st3 go) fun r s4 ⟨u,hr,h4⟩=>?_)
  subst hr
  refine wpAny_passesOwn hp (thn h4 fun _ s5 ⟨x,H5,I5,r5,y5,st5,fr5⟩=>?_)
  have I5':=I5.pinned (stat fr5) (T.obj _ _ st5)
  refine wpAny_passesOwn hp (thn (hg _ s5 σ3 H5 x u _ I5' r5 (step x H5 y5)) fun _ s6 ⟨σ6,H6,I6,q6⟩=>?_)
  refine wpAny_passesOwn hp (thn (hb _ s6 σ6 H6 _ I6 q6) fun f s7 q7=>?_)
  have again:∀ {σ7:St}{H7:Hp},Inv X (pins++pinsAt fp s5.heap) σ7 H7 s7→N σ7 H7→∃ m,m<n∧∃ i σ' H',Inv X pins σ' H' s7∧tn i s7.heap∧(∀ b∈fp,H' b=none)∧W i m σ' H':=fun {σ7 H7} I7 n7=>by
   obtain ⟨m',hm,w7⟩:=hN σ7 H7 n7
   refine ⟨m',hm,i+1,σ7,H7,I7.unpinned,T.keep _ _ _ st5 fun b hb o e=>(I7.pin (b,o) (List.mem_append_right _ (List.mem_append_right _ (mem_pinsAt hb e)))).1,fun b hb=>?_,w7⟩
   obtain ⟨o,e,d⟩:=T.obj _ _ st5 b hb
   exact (I7.pin (b,o) (List.mem_append_right _ (List.mem_append_right _ (mem_pinsAt hb e)))).2.1
  cases f with
  | next=>obtain ⟨σ7,H7,I7,n7⟩:=q7;exact again I7 n7
  | cont=>obtain ⟨σ7,H7,I7,n7⟩:=q7;exact again I7 n7
  | brk=>obtain ⟨σ7,H7,I7,q7⟩:=q7;exact ⟨σ7,H7,I7.unpinned,q7⟩
  | ret v=>obtain ⟨x7,σ7,H7,I7,r7,q7⟩:=q7;exact ⟨x7,σ7,H7,I7.unpinned,r7,q7⟩
end
theorem for_list {K:PySem.W.Frag}{a:Addr}{xs:List V}{g:TG}{tb:TS}{D:Ends}{σ:St}{H:Hp} (Pv:Nat→St→Hp→Prop) (h0:Pv 0 σ H) (hl:∀ i σ H,i≤xs.length→Pv i σ H→SqL K H a xs)
  (hs:∀ i x σ H,xs[i]?=some x→Pv i σ H→g x σ H fun σ2 H2=>tb { D with nx:=Pv (i+1),ct:=Pv (i+1),bk:=D.nx } σ2 H2) (hd:∀ σ H,Pv xs.length σ H→D.nx σ H) :
  ∃ W:Nat→Nat→St→Hp→Prop,(∃ m,W 0 m σ H)∧∀ i m σ H,W i m σ H →
   ((Itl K a).stop i H∧D.nx σ H)∨((Itl K a).go i H∧∃ N:St→Hp→Prop,(∀ σ' H',N σ' H'→∃ m',m' < m∧W (i+1) m' σ' H')∧∀ x H',(Itl K a).yld i H x H'→g x σ H' fun σ2 H2=>tb { D with nx:=N,ct:=N,bk:=D.nx } σ2 H2):=by
 refine ⟨fun i m σ H=>m=xs.length-i∧i≤xs.length∧Pv i σ H,⟨xs.length,by simp,Nat.zero_le _,h0⟩,?_⟩
 rintro i m σ H ⟨rfl,hi,p⟩
 have q:=hl i σ H hi p
 by_cases hlt:i<xs.length
 ·refine .inr ⟨⟨xs,xs[i],q,by simp [hlt]⟩,Pv (i+1),fun σ' H' p'=>⟨xs.length-(i+1),by omega,rfl,hlt,p'⟩,fun x H' y=>?_⟩
  obtain ⟨e,y⟩:=y
  subst e
  exact hs i x σ _ (y xs q) p
 ·have e:i=xs.length:=by omega
  subst e
  exact .inl ⟨⟨xs,q,Nat.le_refl _⟩,hd σ H p⟩
theorem for_tup {K:PySem.W.Frag}{a:Addr}{xs:List V}{g:TG}{tb:TS}{D:Ends}{σ:St}{H:Hp} (Pv:Nat→St→Hp→Prop) (h0:Pv 0 σ H) (hl:∀ i σ H,i≤xs.length→Pv i σ H→SqT K H a xs)
  (hs:∀ i x σ H,xs[i]?=some x→Pv i σ H→g x σ H fun σ2 H2=>tb { D with nx:=Pv (i+1),ct:=Pv (i+1),bk:=D.nx } σ2 H2) (hd:∀ σ H,Pv xs.length σ H→D.nx σ H) :
  ∃ W:Nat→Nat→St→Hp→Prop,(∃ m,W 0 m σ H)∧∀ i m σ H,W i m σ H →
   ((Itt K a).stop i H∧D.nx σ H)∨((Itt K a).go i H∧∃ N:St→Hp→Prop,(∀ σ' H',N σ' H'→∃ m',m' < m∧W (i+1) m' σ' H')∧∀ x H',(Itt K a).yld i H x H'→g x σ H' fun σ2 H2=>tb { D with nx:=N,ct:=N,bk:=D.nx } σ2 H2):=by
 refine ⟨fun i m σ H=>m=xs.length-i∧i≤xs.length∧Pv i σ H,⟨xs.length,by simp,Nat.zero_le _,h0⟩,?_⟩
 rintro i m σ H ⟨rfl,hi,p⟩
 have q:=hl i σ H hi p
 by_cases hlt:i<xs.length
 ·refine .inr ⟨⟨xs,xs[i],q,by simp [hlt]⟩,Pv (i+1),fun σ' H' p'=>⟨xs.length-(i+1),by omega,rfl,hlt,p'⟩,fun x H' y=>?_⟩
  obtain ⟨e,y⟩:=y
  subst e
  exact hs i x σ _ (y xs q) p
 ·have e:i=xs.length:=by omega
  subst e
  exact .inl ⟨⟨xs,q,Nat.le_refl _⟩,hd σ H p⟩
theorem for_range {lo:Int}{n:Nat}{g:TG}{tb:TS}{D:Ends}{σ:St}{H:Hp} (Pv:Nat→St→Hp→Prop) (h0:Pv 0 σ H)
  (hs:∀ i σ H,i<n→Pv i σ H→g (.int (lo+i)) σ H fun σ2 H2=>tb { D with nx:=Pv (i+1),ct:=Pv (i+1),bk:=D.nx } σ2 H2) (hd:∀ σ H,Pv n σ H→D.nx σ H) :
  ∃ W:Nat→Nat→St→Hp→Prop,(∃ m,W 0 m σ H)∧∀ i m σ H,W i m σ H →
   ((Itr lo n).stop i H∧D.nx σ H)∨((Itr lo n).go i H∧∃ N:St→Hp→Prop,(∀ σ' H',N σ' H'→∃ m',m' < m∧W (i+1) m' σ' H')∧∀ x H',(Itr lo n).yld i H x H'→g x σ H' fun σ2 H2=>tb { D with nx:=N,ct:=N,bk:=D.nx } σ2 H2):=by
 refine ⟨fun i m σ H=>m=n-i∧i≤n∧Pv i σ H,⟨n,by simp,Nat.zero_le _,h0⟩,?_⟩
 rintro i m σ H ⟨rfl,hi,p⟩
 by_cases hlt:i<n
 ·refine .inr ⟨hlt,Pv (i+1),fun σ' H' p'=>⟨n-(i+1),by omega,rfl,hlt,p'⟩,fun x H' y=>?_⟩
  obtain ⟨e,y⟩:=y
  subst e y
  exact hs i σ _ hlt p
 ·have e:i=n:=by omega
  subst e
  exact .inl ⟨Nat.le_refl _,hd σ H p⟩
end L2
namespace L2
open PySem PySem.Spec PyProof.Rows
abbrev R2:=V→V→Hp→VK→Prop
def OpR (X:Cx) (f:Value→Value→Sem Value) (r:R2):Prop :=
 ∀ (pins:List (Addr×Obj)) (s:Shared) (σ:St) (H:Hp) (x y:V) (v u:Value) (Q:VK),Inv X pins σ H s→RelV x v→RelV y u→r x y H Q →
  wpAny (model X.prog X.w) X.A (f v u) (EP X pins σ Q) X.xe s
def UnR (X:Cx) (f:Value→Sem Value) (r:V→Hp→VK→Prop):Prop :=
 ∀ (pins:List (Addr×Obj)) (s:Shared) (σ:St) (H:Hp) (x:V) (v:Value) (Q:VK),Inv X pins σ H s→RelV x v→r x H Q →
  wpAny (model X.prog X.w) X.A (f v) (EP X pins σ Q) X.xe s
def CallR (X:Cx) (f:Value) (r:List V→Hp→VK→Prop):Prop :=
 ∀ (pins:List (Addr×Obj)) (s:Shared) (σ:St) (H:Hp) (xs:List V) (us:List Value) (Q:VK),Inv X pins σ H s→Vals xs us→r xs H Q →
  wpAny (model X.prog X.w) X.A (call f us) (EP X pins σ Q) X.xe s
def tOp (r:R2) (ta tb:TE):TE:=fun σ H Q=>ta σ H fun x H1=>tb σ H1 fun y H2=>r x y H2 Q
def tUn (r:V→Hp→VK→Prop) (ta:TE):TE:=fun σ H Q=>ta σ H fun x H1=>r x H1 Q
def rI (C:Int→Int→Prop) (g:Int→Int→V):R2:=fun x y H Q=>∃ i j,x=.int i∧y=.int j∧C i j∧Q (g i j) H
def rI0 (g:Int→Int→V):R2:=fun x y H Q=>∃ i j,x=.int i∧y=.int j∧Q (g i j) H
def rU (g:Int→V):V→Hp→VK→Prop:=fun x H Q=>∃ i,x=.int i∧Q (g i) H
section
variable {X:Cx}{a b c:Expr}{ta tb tc:TE}{pos:Pos}
theorem binT (ha:PE X a ta) (hb:PE X b tb) {pins:List (Addr×Obj)}{s:Shared}{σ:St}{H:Hp}{R:V→V→Hp→Prop} (I:Inv X pins σ H s)
  (h:ta σ H fun x H1=>tb σ H1 fun y H2=>R x y H2) {Q:Value→Shared→Prop}{f:Value→Value→Sem Value}
  (hf:∀ v u s2 x y H2,Inv X pins σ H2 s2→RelV x v→RelV y u→R x y H2→wpAny (model X.prog X.w) X.A (f v u) Q X.xe s2) :
  wpAny (model X.prog X.w) X.A (eval a X.env) (fun v s₁=>wpAny (model X.prog X.w) X.A (eval b X.env) (fun u s₂=>wpAny (model X.prog X.w) X.A (f v u) Q X.xe s₂) X.xe s₁) X.xe s:=by
 refine thn (ha pins s σ H _ I h) fun v s1 ⟨x,H1,I1,r1,q1⟩=>?_
 refine thn (hb pins s1 σ H1 _ I1 q1) fun u s2 ⟨y,H2,I2,r2,q2⟩=>?_
 exact hf v u s2 x y H2 I2 r1 r2 q2
theorem pe_op {op:Operator}{r:R2} (ho:OpR X (binaryOp op) r) (ha:PE X a ta) (hb:PE X b tb):PE X (.BinOp a op b pos) (tOp r ta tb):=by
 intro pins s σ H Q I h
 exact wpAny_BinOp (binT ha hb I h fun v u s2 x y H2 I2 rx ry q=>ho pins s2 σ H2 x y v u Q I2 rx ry q)
theorem pe_un {op:UnaryOp}{r:V→Hp→VK→Prop} (ho:UnR X (unaryOp op) r) (ha:PE X a ta):PE X (.UnaryOp op a pos) (tUn r ta):=by
 intro pins s σ H Q I h
 exact UnaryOp_ (thn (ha pins s σ H _ I h) fun v s1 ⟨x,H1,I1,r1,q1⟩=>ho pins s1 σ H1 x v Q I1 r1 q1)
theorem opI {f:Value→Value→Sem Value}{C:Int→Int→Prop}{g:Int→Int→Int}
  (rule:∀ (i j:Int) (t u:Tok) (s:Shared) (Q:Value→Shared→Prop) (E:Value→Shared→Prop),C i j→Q (.int (g i j) s.toks) { s with toks:=s.toks+1 }→wpAny (model X.prog X.w) X.A (f (.int i t) (.int j u)) Q E s) :
  OpR X f (rI C fun i j=>.int (g i j)):=by
 intro pins s σ H x y v u Q I rx ry h
 obtain ⟨i,j,rfl,rfl,hc,q⟩:=h
 obtain ⟨t,rfl⟩:=rx
 obtain ⟨t',rfl⟩:=ry
 exact rule i j t t' s _ _ hc ⟨.int (g i j),H,I.tok _,⟨_,rfl⟩,q⟩
theorem opI0 {f:Value→Value→Sem Value}{g:Int→Int→Int}
  (rule:∀ (i j:Int) (t u:Tok) (s:Shared) (Q:Value→Shared→Prop) (E:Value→Shared→Prop),Q (.int (g i j) s.toks) { s with toks:=s.toks+1 }→wpAny (model X.prog X.w) X.A (f (.int i t) (.int j u)) Q E s) :
  OpR X f (rI0 fun i j=>.int (g i j)):=by
 intro pins s σ H x y v u Q I rx ry h
 obtain ⟨i,j,rfl,rfl,q⟩:=h
 obtain ⟨t,rfl⟩:=rx
 obtain ⟨t',rfl⟩:=ry
 exact rule i j t t' s _ _ ⟨.int (g i j),H,I.tok _,⟨_,rfl⟩,q⟩
theorem opB0 {f:Value→Value→Sem Value}{g:Int→Int→Bool}
  (rule:∀ (i j:Int) (t u:Tok) (s:Shared) (Q:Value→Shared→Prop) (E:Value→Shared→Prop),Q (.bool (g i j)) s→wpAny (model X.prog X.w) X.A (f (.int i t) (.int j u)) Q E s) :
  OpR X f (rI0 fun i j=>.bl (g i j)):=by
 intro pins s σ H x y v u Q I rx ry h
 obtain ⟨i,j,rfl,rfl,q⟩:=h
 obtain ⟨t,rfl⟩:=rx
 obtain ⟨t',rfl⟩:=ry
 exact rule i j t t' s _ _ ⟨.bl (g i j),H,I,rfl,q⟩
def CDiv (i j:Int):Prop:=0<j∧j<1073741824
def CMul (i j:Int):Prop:=(-(2 ^ 64)<i∧i<2 ^ 64)∨(-(2 ^ 64)<j∧j<2 ^ 64)
theorem CMul.ok {i j:Int} (h:CMul i j):IntMulOk i j:=by
 rcases h with ⟨h1,h2⟩ | ⟨h1,h2⟩
 ·exact .of_left (intBits_le_64 h1 h2)
 ·exact .of_right (intBits_le_64 h1 h2)
theorem op_add:OpR X (binaryOp .Add) (rI0 fun i j=>.int (i+j)):=opI0 fun _ _ _ _ _ _ _ q=>add_int q
theorem op_sub:OpR X (binaryOp .Sub) (rI0 fun i j=>.int (i-j)):=opI0 fun _ _ _ _ _ _ _ q=>sub_int q
theorem op_mul:OpR X (binaryOp .Mult) (rI CMul fun i j=>.int (i * j)):=opI fun _ _ _ _ _ _ _ hc q=>mul_int q hc.ok
theorem op_fdiv:OpR X (binaryOp .FloorDiv) (rI CDiv fun i j=>.int (i / j)):=opI fun i j _ _ _ _ _ hc q=>by
 have h1:(0:Int)<j:=hc.1
 have h2:j<1073741824:=hc.2
 exact floordiv_int (by omega) (by rw [Int.fdiv_eq_ediv_of_nonneg i (by omega)];exact q) (.inl (PyProof.noPylong_small (by omega)))
theorem op_mod:OpR X (binaryOp .Mod) (rI (fun _ j=>0<j) fun i j=>.int (i % j)):=opI fun i j _ _ _ _ _ hc q=>by
 have h1:(0:Int)<j:=hc
 exact mod_int' (by omega) (by rw [Int.fmod_eq_emod_of_nonneg i (by omega)];exact q)
theorem unI {f:Value→Sem Value}{g:Int→Int}
  (rule:∀ (i:Int) (t:Tok) (s:Shared) (Q:Value→Shared→Prop) (E:Value→Shared→Prop),Q (.int (g i) s.toks) { s with toks:=s.toks+1 }→wpAny (model X.prog X.w) X.A (f (.int i t)) Q E s) :
  UnR X f (rU fun i=>.int (g i)):=by
 intro pins s σ H x v Q I rx h
 obtain ⟨i,rfl,q⟩:=h
 obtain ⟨t,rfl⟩:=rx
 exact rule i t s _ _ ⟨.int (g i),H,I.tok _,⟨_,rfl⟩,q⟩
theorem un_neg:UnR X (unaryOp .USub) (rU fun i=>.int (-i)):=unI fun _ _ _ _ _ q=>neg_int q
end
def scal:V→V→Bool
 | .non,.non=>true | .non,.int _=>true | .int _,.non=>true | .non,.bl _=>true | .bl _,.non=>true | .non,.str _=>true | .str _,.non=>true
 | .int _,.int _=>true | .bl _,.bl _=>true | .str _,.str _=>true | .byt _,.byt _=>true
 | .int _,.str _=>true | .str _,.int _=>true | .bl _,.str _=>true | .str _,.bl _=>true
 | _,_=>false
def rEq:R2:=fun x y H Q=>scal x y=true∧Q (.bl (decide (x=y))) H
def rNe:R2:=fun x y H Q=>scal x y=true∧Q (.bl (!decide (x=y))) H
theorem dec_int {i j:Int}:decide (V.int i=V.int j)=(i==j):=by
 rw [Bool.eq_iff_iff]
 simp
theorem dec_bl {i j:Bool}:decide (V.bl i=V.bl j)=(i==j):=by
 rw [Bool.eq_iff_iff]
 simp
theorem dec_str {i j:Str}:decide (V.str i=V.str j)=(i==j):=by
 rw [Bool.eq_iff_iff]
 simp
theorem dec_byt {i j:Array UInt8}:decide (V.byt i=V.byt j)=(i.toList==j.toList):=by
 rw [Bool.eq_iff_iff]
 cases i
 cases j
 simp
section
variable {X:Cx}{a b c:Expr}{ta tb tc:TE}{pos:Pos}
theorem fin_bl {pins:List (Addr×Obj)}{σ:St}{H:Hp}{s:Shared}{Q:VK}{k k':Bool} (I:Inv X pins σ H s) (q:Q (.bl k) H) (e:k=k'):EP X pins σ Q (.bool k') s:=by
 subst e
 exact ⟨.bl k,H,I,rfl,q⟩
theorem op_eq:OpR X (compareOp .Eq) rEq:=by
 intro pins s σ H x y v u Q I rx ry h
 obtain ⟨hs,q⟩:=h
 cases x with
 | non =>
  cases rx
  cases y with
  | non=>cases ry;exact PySem.EqNone.eq_none_none (fin_bl I q (by simp))
  | bl j=>cases ry;exact PySem.EqNone.eq_none_bool (fin_bl I q (by simp))
  | int j=>obtain ⟨t',rfl⟩:=ry;exact PySem.EqNone.eq_none_int (fin_bl I q (by simp))
  | str j=>obtain ⟨t',rfl⟩:=ry;exact PySem.EqNone.eq_none_str (fin_bl I q (by simp))
  | _=>exact absurd (show false=true from hs) Bool.false_ne_true
 | bl i =>
  cases rx
  cases y with
  | non=>cases ry;exact PySem.EqNone.eq_bool_none (fin_bl I q (by simp))
  | bl j=>cases ry;exact eq_bool (fin_bl I q dec_bl)
  | str j=>obtain ⟨t',rfl⟩:=ry;exact PySem.EqMixed.eq_bool_str (fin_bl I q (by simp))
  | _=>exact absurd (show false=true from hs) Bool.false_ne_true
 | int i =>
  obtain ⟨t,rfl⟩:=rx
  cases y with
  | non=>cases ry;exact PySem.EqNone.eq_int_none (fin_bl I q (by simp))
  | int j=>obtain ⟨t',rfl⟩:=ry;exact eq_int (fin_bl I q dec_int)
  | str j=>obtain ⟨t',rfl⟩:=ry;exact PySem.EqMixed.eq_int_str (fin_bl I q (by simp))
  | _=>exact absurd (show false=true from hs) Bool.false_ne_true
 | str i =>
  obtain ⟨t,rfl⟩:=rx
  cases y with
  | non=>cases ry;exact PySem.EqNone.eq_str_none (fin_bl I q (by simp))
  | bl j=>cases ry;exact PySem.EqMixed.eq_str_bool (fin_bl I q (by simp))
  | int j=>obtain ⟨t',rfl⟩:=ry;exact PySem.EqMixed.eq_str_int (fin_bl I q (by simp))
  | str j=>obtain ⟨t',rfl⟩:=ry;exact eq_str (fin_bl I q dec_str)
  | _=>exact absurd (show false=true from hs) Bool.false_ne_true
 | byt i =>
  obtain ⟨t,rfl⟩:=rx
  cases y with
  | byt j=>obtain ⟨t',rfl⟩:=ry;exact PySem.W.eq_bytes (fin_bl I q dec_byt)
  | _=>exact absurd (show false=true from hs) Bool.false_ne_true
 | _=>cases y <;> exact absurd (show false=true from hs) Bool.false_ne_true
theorem op_ne:OpR X (compareOp .NotEq) rNe:=by
 intro pins s σ H x y v u Q I rx ry h
 obtain ⟨hs,q⟩:=h
 cases x with
 | non =>
  cases rx
  cases y with
  | non=>cases ry;exact PySem.EqNone.ne_none_none (fin_bl I q (by simp))
  | bl j=>cases ry;exact PySem.EqNone.ne_none_bool (fin_bl I q (by simp))
  | int j=>obtain ⟨t',rfl⟩:=ry;exact PySem.EqNone.ne_none_int (fin_bl I q (by simp))
  | str j=>obtain ⟨t',rfl⟩:=ry;exact PySem.EqNone.ne_none_str (fin_bl I q (by simp))
  | _=>exact absurd (show false=true from hs) Bool.false_ne_true
 | bl i =>
  cases rx
  cases y with
  | non=>cases ry;exact PySem.EqNone.ne_bool_none (fin_bl I q (by simp))
  | bl j=>cases ry;exact ne_bool (fin_bl I q (congrArg not dec_bl))
  | str j=>obtain ⟨t',rfl⟩:=ry;exact PySem.EqMixed.ne_bool_str (fin_bl I q (by simp))
  | _=>exact absurd (show false=true from hs) Bool.false_ne_true
 | int i =>
  obtain ⟨t,rfl⟩:=rx
  cases y with
  | non=>cases ry;exact PySem.EqNone.ne_int_none (fin_bl I q (by simp))
  | int j=>obtain ⟨t',rfl⟩:=ry;exact ne_int (fin_bl I q (congrArg not dec_int))
  | str j=>obtain ⟨t',rfl⟩:=ry;exact PySem.EqMixed.ne_int_str (fin_bl I q (by simp))
  | _=>exact absurd (show false=true from hs) Bool.false_ne_true
 | str i =>
  obtain ⟨t,rfl⟩:=rx
  cases y with
  | non=>cases ry;exact PySem.EqNone.ne_str_none (fin_bl I q (by simp))
  | bl j=>cases ry;exact PySem.EqMixed.ne_str_bool (fin_bl I q (by simp))
  | int j=>obtain ⟨t',rfl⟩:=ry;exact PySem.EqMixed.ne_str_int (fin_bl I q (by simp))
  | str j=>obtain ⟨t',rfl⟩:=ry;exact ne_str (fin_bl I q (congrArg not dec_str))
  | _=>exact absurd (show false=true from hs) Bool.false_ne_true
 | byt i =>
  obtain ⟨t,rfl⟩:=rx
  cases y with
  | byt j=>obtain ⟨t',rfl⟩:=ry;exact PySem.W.ne_bytes (fin_bl I q (congrArg not dec_byt))
  | _=>exact absurd (show false=true from hs) Bool.false_ne_true
 | _=>cases y <;> exact absurd (show false=true from hs) Bool.false_ne_true
theorem op_lt:OpR X (compareOp .Lt) (rI0 fun i j=>.bl (decide (i<j))):=opB0 fun _ _ _ _ _ _ _ q=>lt_int q
theorem op_le:OpR X (compareOp .LtE) (rI0 fun i j=>.bl (decide (i≤j))):=opB0 fun _ _ _ _ _ _ _ q=>le_int q
theorem op_gt:OpR X (compareOp .Gt) (rI0 fun i j=>.bl (decide (j<i))):=opB0 fun _ _ _ _ _ _ _ q=>gt_int q
theorem op_ge:OpR X (compareOp .GtE) (rI0 fun i j=>.bl (decide (j≤i))):=opB0 fun _ _ _ _ _ _ _ q=>ge_int q
theorem nomark (b:Expr) {op:CmpOp} (h:op≠.In:=by decide) (h2:op≠.NotIn:=by decide):behindInMarks op b=false:=by
 have e1:(op==CmpOp.In)=false:=by cases op <;> first | rfl | exact absurd rfl h
 have e2:(op==CmpOp.NotIn)=false:=by cases op <;> first | rfl | exact absurd rfl h2
 cases b <;> simp [behindInMarks,e1,e2]
theorem pe_cmpR {op:CmpOp}{r:R2} (ho:OpR X (compareOp op) r) (ha:PE X a ta) (hb:PE X b tb) (hm:behindInMarks op b=false):PE X (.Compare a [op] [b] pos) (tOp r ta tb):=by
 intro pins s σ H Q I h
 exact wpAny_Compare1 (binT ha hb I h fun v u s2 x y H2 I2 rx ry q=>ho pins s2 σ H2 x y v u Q I2 rx ry q) hm
def tTest (t:TE):TT:=fun σ H Q=>t σ H fun x H'=>∃ k,x=.bl k∧Q k H'
theorem pt_cmpR {op:CmpOp}{r:R2} (ho:OpR X (compareOp op) r) (ha:PE X a ta) (hb:PE X b tb) (hm:behindInMarks op b=false):PT X (.Compare a [op] [b] pos) (tTest (tOp r ta tb)):=by
 intro pins s σ H Q I h
 refine wpAny_isTrue_Compare1 (thn (ha pins s σ H _ I h) fun v s1 ⟨x,H1,I1,r1,q1⟩=>thn (hb pins s1 σ H1 _ I1 q1) fun u s2 ⟨y,H2,I2,r2,q2⟩ =>
  thn (ho pins s2 σ H2 x y v u _ I2 r1 r2 q2) fun c s3 ⟨z,H3,I3,r3,k,e,q3⟩=>?_) hm
 subst e
 cases r3
 exact wpAny_truthy_bool ⟨H3,I3,q3⟩
def tChain (r r':R2) (ta tb tc:TE):TE:=fun σ H Q=>ta σ H fun x H1=>tb σ H1 fun y H2=>r x y H2 fun z H3=>∃ k,z=.bl k ∧
 (if k=true then tc σ H3 fun w' H4=>r' y w' H4 Q else Q (.bl false) H3)
theorem pt_chain {op op':CmpOp}{r r':R2} (ho:OpR X (compareOp op) r) (ho':OpR X (compareOp op') r') (ha:PE X a ta) (hb:PE X b tb) (hc:PE X c tc)
  (hm:lastMarks [op,op'] [b,c]=false:=by with_unfolding_all rfl):PT X (.Compare a [op,op'] [b,c] pos) (tTest (tChain r r' ta tb tc)):=by
 intro pins s σ H Q I h
 refine isTrue_chain (thn (ha pins s σ H _ I h) fun v s1 ⟨x,H1,I1,r1,q1⟩=>test_link (thn (hb pins s1 σ H1 _ I1 q1) fun u s2 ⟨y,H2,I2,r2,q2⟩ =>
  thn (ho pins s2 σ H2 x y v u _ I2 r1 r2 q2) fun d s3 ⟨z,H3,I3,r3,k,e,q3⟩=>?_)) hm
 subst e
 cases r3
 refine wpAny_truthy_bool ?_
 cases k with
 | false =>
  obtain ⟨k',e',q'⟩:=q3
  cases e'
  exact ite_ff ⟨H3,I3,q'⟩
 | true =>
  refine ite_tt (test_last (thn (hc pins s3 σ H3 _ I3 q3) fun w' s4 ⟨z',H4,I4,r4,q4⟩=>thn (ho' pins s4 σ H4 y z' u w' _ I4 r2 r4 q4) fun d' s5 ⟨z2,H5,I5,r5,k2,e2,q5⟩=>?_))
  subst e2
  cases r5
  exact wpAny_truthy_bool ⟨H5,I5,q5⟩
theorem line63:(sizeLine:Nat)<2 ^ 63:=by rw [sizeLine_eq];decide
theorem vals1 {x:V}{us:List Value} (r:Vals [x] us):∃ u,us=[u]∧RelV x u:=by
 cases r with
 | cons r1 r2=>cases r2;exact ⟨_,rfl,r1⟩
theorem vals2 {x y:V}{us:List Value} (r:Vals [x,y] us):∃ u w',us=[u,w']∧RelV x u∧RelV y w':=by
 cases r with
 | cons r1 r2 =>
  cases r2 with
  | cons r3 r4=>cases r4;exact ⟨_,_,rfl,r1,r3⟩
theorem call_max2 (hc:X.calm=true):CallR X (.builtin "max") (fun xs H Q=>∃ i j,xs=[.int i,.int j]∧Q (.int (if j > i then j else i)) H):=by
 intro pins s σ H xs us Q I r h
 obtain ⟨i,j,rfl,q⟩:=h
 obtain ⟨u,w',rfl,⟨t,rfl⟩,⟨t',rfl⟩⟩:=vals2 r
 refine max_two_ints (I.ok.hd hc) fun h' tk k=>⟨_,H,I.kept k,?_,q⟩
 by_cases hj:j > i
 ·rw [if_pos hj,if_pos hj];exact ⟨_,rfl⟩
 ·rw [if_neg hj,if_neg hj];exact ⟨_,rfl⟩
theorem call_ord:CallR X (.builtin "ord") (fun xs H Q=>∃ x,xs=[.str x]∧x.length=1∧Q (.int (x.cps.getD 0 0:Nat)) H):=by
 intro pins s σ H xs us Q I r h
 obtain ⟨x,rfl,hz,q⟩:=h
 obtain ⟨u,rfl,t,rfl⟩:=vals1 r
 exact ord_of_one hz ⟨.int _,H,I.tok _,⟨_,rfl⟩,q⟩
end
end L2
namespace L2
open PySem PySem.Spec PyProof.Rows
structure ObjM (h:Heap) (x dx C:Addr) (mA:Str→Option Value):Prop where
 obj:h.get? x=some (PySem.W.instObj C dx)
 ns:h.Ns1 dx mA
 ne:dx≠x
theorem lookIn_ns {h:Heap}{dx:Addr}{mA:Str→Option Value} (n:h.Ns1 dx mA):∃ od,h.get? dx=some od∧∀ name,PySem.W.lookIn name od=some (mA name):=by
 obtain ⟨o,es,ep,ho,hd,hk,_,hm⟩:=n
 refine ⟨o,ho,fun name=>?_⟩
 have e:=hm name
 unfold nsFind findBy at e
 rw [← Array.find?_toList] at e
 unfold PySem.W.lookIn
 rw [hd]
 dsimp only
 split
 ·rename_i y q
  rw [q] at e
  exact congrArg some e
 ·rename_i q
  rw [q] at e
  have a:es.toList.any (·.refKey)=false:=by
   rw [List.any_eq_false]
   intro y hy
   obtain ⟨z,t,hkey⟩:=hk y (Array.mem_toList_iff.mp hy)
   simp [DictEntry.refKey,hkey]
  have a':¬ es.toList.any (·.refKey)=true:=by rw [a];exact Bool.false_ne_true
  rw [if_neg a']
  exact congrArg some e
theorem ObjM.look {h:Heap}{x dx C:Addr}{mA:Str→Option Value} (I:ObjM h x dx C mA):∃ od,PySem.W.InstAt h x (PySem.W.instObj C dx) C (some od)∧∀ name,PySem.W.lookIn name od=some (mA name) :=
 let ⟨od,ho,hl⟩:=lookIn_ns I.ns
 ⟨od,⟨I.obj,rfl,rfl,ho⟩,hl⟩
section
variable {prog:Program}{w:World}{A:Around}{E:Value→Shared→Prop}{s:Shared}{K:PySem.W.Frag}{x dx C f:Addr}{mA:Str→Option Value}{name:Str}{v:Value}
theorem get_map {expr:Bool}{Q:Value→Shared→Prop} (X:K.In s.heap) (I:ObjM s.heap x dx C mA) (hg:PySem.W.plainGet K C name=true) (hh:PySem.W.hasDictIn K C=true)
  (ha:PySem.W.findIn K (.ref C) name=some none) (hv:mA name=some v) (hv':PySem.W.handedIn v=true) (h:Q v { s with toks:=s.toks+1 }) :
  wpAny (model prog w) A (getAttr (.ref x) name expr) Q E s:=by
 obtain ⟨od,J,hl⟩:=I.look
 exact PySem.W.get_value X J (PySem.W.plainGet_of hg).1 (PySem.W.findObj_own hh ha rfl (by rw [hl,hv])) hv' h
theorem get_meth {pl:Sem Bool}{Q:Value×List Value→Shared→Prop} (X:K.In s.heap) (I:ObjM s.heap x dx C mA) (hg:PySem.W.plainGet K C name=true)
  (hf:PySem.W.findIn K (.ref C) name=some (some (.ref f))) (ht:PySem.W.isFn K (.ref f)=true) (hv:mA name=none) (h:Q (.ref f,[.ref x]) s) :
  wpAny (model prog w) A (getMethod (.ref x) name pl) Q E s:=by
 obtain ⟨od,J,hl⟩:=I.look
 exact PySem.W.method_fn X J (PySem.W.plainGet_of hg).1 (PySem.W.plainGet_of hg).2 hf (beq_iff_eq.mp ht) (by show (PySem.W.lookIn name od).map (·.isSome)=some false;rw [hl,hv];rfl) h
theorem set_map {ns:List Str}{Q:Unit→Shared→Prop} (X:K.In s.heap) (I:ObjM s.heap x dx C mA)
  (hs:PySem.W.findIn K (.ref C) "__setattr__"=some (some (.builtin "object.__setattr__"))) (hp:PySem.W.plainOver K C=true) (ht:PySem.W.takerIn K C name=some none) (hh:PySem.W.hasDictIn K C=true)
  (hw:PySem.Within mA ns) (hsz:ns.length≤sizeLine)
  (h:∀ h',ObjM h' x dx C (fun y=>if y=name then some v else mA y)→Heap.SameBut dx s.heap h'→Q () { s with heap:=h',toks:=s.toks+2 }) :
  wpAny (model prog w) A (setAttr (.ref x) name v) Q E s:=by
 obtain ⟨od,J,hl⟩:=I.look
 refine PySem.W.set_plain X J hs (PySem.W.osa_open (s:={ s with toks:=s.toks+1 }) (r:=none) X J hp ht fun b=>?_)
 obtain ⟨cd,hc,hd'⟩:=PySem.W.any_some hh
 have hx:s.heap.get? x=some ⟨.ref C,some dx,.plain,#[]⟩:=I.obj
 refine wpAny_bind (wpAny_pure (wpAny_bind (wpAny_bind (wpAny_loadPart hx (wpAny_bind (PySem.W.Looks.here (s:={ s with toks:=s.toks+1 }) (PySem.W.looks_clsIn X hc) ?_))))))
 rw [hd']
 refine wpAny_pure (a:=some dx) (wpAny_bind (wpAny_pure (wpAny_bind ?_)))
 refine wpAny_nsSet1 (s:={ s with toks:=s.toks+1 }) I.ns fun h' hn2 hs2=>?_
 obtain ⟨oD,esD,epD,hoD,hdD,hcD⟩:=hn2.count (PySem.Within.cons name v hw)
 refine wpAny_bind (wpAny_lookBehind hoD (by rw [hdD];exact pastItsLine_dict (Nat.le_trans hcD (by rw [List.length_cons];omega))) ?_)
 exact wpAny_pure (h _ ⟨(hs2.2 _ (Ne.symm I.ne)).trans I.obj,hn2,I.ne⟩ hs2)
theorem make_map {R:Result→Shared→Prop}{vs:List Value}{kw:List (Str×Value)} (X:K.In s.heap) (hm:PySem.W.makesIn K C=true)
  (hi:PySem.W.findIn K (.ref C) "__init__"=some (some (.ref f))) (hf:PySem.W.typeIn K (.ref f)=some (.type "function"))
  (h:codeAny (model prog w) (A.under (.builtin "type.__call__" ⟨.ref C::vs,kw⟩)) (.call (.ref f) ⟨.ref (s.heap.objs.size+1)::vs,kw⟩) (PySem.W.InitBack (s.heap.objs.size+1) R)
   { s with heap:=(s.heap.push PySem.W.emptyDict).push (PySem.W.instObj C s.heap.objs.size) }) :
  codeAny (model prog w) A (.call (.ref C) ⟨vs,kw⟩) R s:=by
 obtain ⟨hh,g,d,t,os⟩:=s
 exact PySem.W.make_core (PySem.W.makes_of X hm) (PySem.W.looks_findIn X hi) (fun self=>PySem.W.bind_fn X self hf) (.inl rfl) h
end
def putF (f:Str) (v:V):List (Str×V)→List (Str×V)
 | []=>[(f,v)]
 | (g,x)::r=>if g=f then (g,v)::r else (g,x)::putF f v r
theorem lookup_putF (f g:Str) (v:V):∀ fs:List (Str×V),(putF f v fs).lookup g=if g=f then some v else fs.lookup g
 | []=>by
  show List.lookup g [(f,v)]=_
  by_cases h:g=f
  ·have hb:(g==f)=true:=beq_iff_eq.mpr h
   simp only [List.lookup,hb,if_pos h]
  ·have hb:(g==f)=false:=beq_eq_false_iff_ne.mpr h
   simp only [List.lookup,hb,if_neg h]
 | (k,x)::r=>by
  have ih:=lookup_putF f g v r
  rw [show putF f v ((k,x)::r)=(if k=f then (k,v)::r else (k,x)::putF f v r) from rfl]
  by_cases hk:k=f
  ·rw [if_pos hk]
   by_cases h:g=k
   ·have hb:(g==k)=true:=beq_iff_eq.mpr h
    simp only [List.lookup,hb,if_pos (h.trans hk)]
   ·have hb:(g==k)=false:=beq_eq_false_iff_ne.mpr h
    simp only [List.lookup,hb,if_neg (fun e:g=f=>h (e.trans hk.symm))]
  ·rw [if_neg hk]
   by_cases h:g=k
   ·have hb:(g==k)=true:=beq_iff_eq.mpr h
    simp only [List.lookup,hb,if_neg (fun e:g=f=>hk (h.symm.trans e))]
   ·have hb:(g==k)=false:=beq_eq_false_iff_ne.mpr h
    simp only [List.lookup,hb]
    exact ih
theorem keys_putF (f:Str) (v:V):∀ fs:List (Str×V),f∈(putF f v fs).map (·.1)∧∀ g,g∈fs.map (·.1)→g∈(putF f v fs).map (·.1)
 | []=>⟨by simp [putF],fun g h=>by simp at h⟩
 | (k,x)::r=>by
  obtain ⟨i1,i2⟩:=keys_putF f v r
  rw [show putF f v ((k,x)::r)=(if k=f then (k,v)::r else (k,x)::putF f v r) from rfl]
  by_cases hk:k=f
  ·rw [if_pos hk]
   subst hk
   exact ⟨by simp,fun g h=>by simpa using h⟩
  ·rw [if_neg hk]
   refine ⟨?_,fun g h=>?_⟩
   ·rw [List.map_cons]
    exact List.mem_cons_of_mem _ i1
   ·rw [List.map_cons] at h ⊢
    rcases List.mem_cons.mp h with e | e
    ·exact List.mem_cons.mpr (.inl e)
    ·exact List.mem_cons_of_mem _ (i2 g e)
theorem length_putF (f:Str) (v:V):∀ fs:List (Str×V),(putF f v fs).length≤fs.length+1
 | []=>by simp [putF]
 | (k,x)::r=>by
  have ih:=length_putF f v r
  rw [show putF f v ((k,x)::r)=(if k=f then (k,v)::r else (k,x)::putF f v r) from rfl]
  by_cases hk:k=f
  ·rw [if_pos hk,List.length_cons,List.length_cons];omega
  ·rw [if_neg hk,List.length_cons,List.length_cons];omega
theorem RelO.some_of {v:V}{o:Option Value} (r:RelO (some v) o):∃ u,o=some u∧RelV v u:=by
 cases o with
 | none=>exact (show False from r).elim
 | some u=>exact ⟨u,rfl,r⟩
theorem RelO.none_of {o:Option Value} (r:RelO none o):o=none:=by
 cases o with
 | none=>rfl
 | some u=>exact (show False from r).elim
theorem handed_of {v:V}{u:Value} (r:RelV v u):PySem.W.handedIn u=true:=by
 cases v with
 | non=>cases (show u=Value.none from r);rfl
 | bl b=>cases (show u=Value.bool b from r);rfl
 | int i=>obtain ⟨t,e⟩:=(show ∃ t,u=Value.int i t from r);cases e;rfl
 | str x=>obtain ⟨t,e⟩:=(show ∃ t,u=Value.str x t from r);cases e;rfl
 | byt b=>obtain ⟨t,e⟩:=(show ∃ t,u=Value.bytes b t from r);cases e;rfl
 | flt b=>obtain ⟨t,e⟩:=(show ∃ t,u=Value.float b t from r);cases e;rfl
 | ref a=>cases (show u=Value.ref a from r);rfl
 | ty n=>cases (show u=Value.type n from r);rfl
section
variable {P:Program}{w:World}{H H':Hp}{h h':Heap}{a C dx:Addr}{fs fs':List (Str×V)}
theorem ins_get (hok:HOk P w H h) (e:H a=some (.ins C dx fs)):∃ mA,ObjM h a dx C mA∧(∀ f,RelO (fs.lookup f) (mA f))∧PySem.Within mA (fs.map (·.1))∧fs.length≤1000∧H dx=some (.own a):=by
 obtain ⟨d,z,ne,ob,mA,n,r,q⟩:=(show ObjOk P w H h a (.ins C dx fs) from hok a _ e)
 exact ⟨mA,⟨ob,n,ne⟩,r,q,z,d⟩
end
structure Cls (K:PySem.W.Frag) (C:Addr):Prop where
 pg:PySem.W.plainGet K C Str.empty=true
 hd:PySem.W.hasDictIn K C=true
 po:PySem.W.plainOver K C=true
 sa:PySem.W.findIn K (.ref C) "__setattr__"=some (some (.builtin "object.__setattr__"))
theorem Cls.get {K:PySem.W.Frag}{C:Addr} (c:Cls K C) (f:Str):PySem.W.plainGet K C f=true:=c.pg
def NoAttr (K:PySem.W.Frag) (C:Addr) (f:Str):Prop:=PySem.W.findIn K (.ref C) f=some none
theorem NoAttr.taker {K:PySem.W.Frag}{C:Addr}{f:Str} (n:NoAttr K C f):PySem.W.takerIn K C f=some none:=by
 unfold PySem.W.takerIn
 rw [show PySem.W.findIn K (.ref C) f=some none from n]
 rfl
structure Meth (K:PySem.W.Frag) (C:Addr) (m:Str) (f:Addr):Prop where
 at_:PySem.W.findIn K (.ref C) m=some (some (.ref f))
 fn:PySem.W.isFn K (.ref f)=true
 kp:PySem.W.keepIn K (.ref f)=true
section
variable {X:Cx}{pins:List (Addr×Obj)}{σ:St}{H:Hp}{s:Shared}{a C dx:Addr}{fs:List (Str×V)}{f:Str}{v:V}{A:Around}{E:Value→Shared→Prop}
theorem getattr_ok {b:Bool}{Q:Value→Shared→Prop} (I:Inv X pins σ H s) (e:H a=some (.ins C dx fs)) (c:Cls X.K C) (n:NoAttr X.K C f) (l:fs.lookup f=some v)
  (h:∀ u s',Inv X pins σ H s'→RelV v u→Q u s'):wpAny (model X.prog X.w) A (getAttr (.ref a) f b) Q E s:=by
 obtain ⟨mA,O,r,_,_,_⟩:=ins_get I.hok e
 obtain ⟨u,hu,ru⟩:=RelO.some_of (v:=v) (o:=mA f) (by rw [← l];exact r f)
 exact get_map I.kIn O (c.get f) c.hd n hu (handed_of ru) (h u _ (I.tok _) ru)
theorem getmeth_ok {m:Str}{g:Addr}{pl:Sem Bool}{Q:Value×List Value→Shared→Prop} (I:Inv X pins σ H s) (e:H a=some (.ins C dx fs)) (c:Cls X.K C) (k:Meth X.K C m g) (l:fs.lookup m=none)
  (h:Q (.ref g,[.ref a]) s):wpAny (model X.prog X.w) A (getMethod (.ref a) m pl) Q E s:=by
 obtain ⟨mA,O,r,_,_,_⟩:=ins_get I.hok e
 have hn:mA m=none:=RelO.none_of (by rw [← l];exact r m)
 exact get_meth I.kIn O (c.get m) k.at_ k.fn hn h
theorem setattr_ok {y:V}{u:Value}{Q:Unit→Shared→Prop} (I:Inv X pins σ H s) (e:H a=some (.ins C dx fs)) (c:Cls X.K C) (n:NoAttr X.K C f) (hl:fs.length<1000) (ry:RelV y u)
  (h:∀ s',Inv X pins σ (upd H a (.ins C dx (putF f y fs))) s'→Q () s'):wpAny (model X.prog X.w) A (setAttr (.ref a) f u) Q E s:=by
 obtain ⟨mA,O,r,wi,_,ho⟩:=ins_get I.hok e
 have hz:(fs.map (·.1)).length≤sizeLine:=by rw [List.length_map,sizeLine_eq];omega
 refine set_map I.kIn O c.sa c.po n.taker c.hd wi hz fun h' O' sb=>h _ ?_
 have hd:∃ o,h'.get? dx=some o:=let ⟨o,_,_,e',_⟩:=O'.ns;⟨o,e'⟩
 refine I.write (x:=a) (e:=dx) (by rw [e];exact True.intro) (.inr ho) (fun b q hb z=>(sb.2 b hb).trans z) hd ?_
 refine ⟨by rw [upd_ne O.ne];exact ho,?_,O.ne,O'.obj,_,O'.ns,fun g=>?_,fun g hg=>?_⟩
 ·have:=length_putF f y fs;omega
 ·show RelO ((putF f y fs).lookup g) (if g=f then some u else mA g)
  rw [lookup_putF]
  by_cases q:g=f
  ·rw [if_pos q,if_pos q];exact ry
  ·rw [if_neg q,if_neg q];exact r g
 ·by_cases q:g=f
  ·rw [q];exact (keys_putF f y fs).1
  ·refine (keys_putF f y fs).2 g (wi g fun z=>hg ?_)
   show (if g=f then some u else mA g)=none
   rw [if_neg q];exact z
theorem Inv.made (I:Inv X pins σ H s):Inv X pins σ (upd (upd H s.heap.objs.size (.own (s.heap.objs.size+1))) (s.heap.objs.size+1) (.ins C s.heap.objs.size []))
  { s with heap:=(s.heap.push PySem.W.emptyDict).push (PySem.W.instObj C s.heap.objs.size) }:=by
 have e1:(s.heap.push PySem.W.emptyDict).get? s.heap.objs.size=some PySem.W.emptyDict:=Heap.get?_push_size s.heap rfl
 have e2:((s.heap.push PySem.W.emptyDict).push (PySem.W.instObj C s.heap.objs.size)).get? (s.heap.objs.size+1)=some (PySem.W.instObj C s.heap.objs.size):=by
  have:=Heap.get?_push_size (s.heap.push PySem.W.emptyDict) (o:=PySem.W.instObj C s.heap.objs.size) rfl
  rwa [Heap.size_push] at this
 have e3:(s.heap.push PySem.W.emptyDict).Ns s.heap.objs.size (fun _=>none):=⟨PySem.W.emptyDict,#[],_,e1,rfl,(fun e he=>absurd he (by simp)),fun _=>rfl⟩
 have I1:=I.laid (a:=s.heap.objs.size) (o:=.own (s.heap.objs.size+1)) (h':=s.heap.push PySem.W.emptyDict) (t':=s.toks) (fun b u q=>Heap.get?_push_of_some _ q) (Nat.le_refl _) ⟨_,e1⟩
 refine I1.laid (a:=s.heap.objs.size+1) (o:=.ins C s.heap.objs.size []) (t':=s.toks) (fun b u q=>Heap.get?_push_of_some _ q) (Nat.le_of_eq (Heap.size_push _ _)) ?_
 have ne:s.heap.objs.size≠s.heap.objs.size+1:=Nat.ne_of_lt (Nat.lt_succ_self _)
 refine ⟨by rw [upd_ne ne,upd_same],Nat.zero_le _,ne,e2,fun _=>none,(Heap.Ns1.of_empty e3).at fun o q=>Heap.get?_push_of_some _ q,fun _=>True.intro,fun y hy=>absurd rfl hy⟩
theorem attr_of {prog:Program}{w:World}{env:Env}{e:Expr}{f:Str}{pos:Pos}{s:Shared}{Q:Value→Shared→Prop} (hb:attributeBase e f env (eval e env)=eval e env)
  (h:wpAny (model prog w) A (eval e env) (fun o s₁=>wpAny (model prog w) A (getAttr o f true) Q E s₁) E s):wpAny (model prog w) A (eval (.Attribute e f pos) env) Q E s :=
 Attribute_any_ h (by rw [arm_eval_Attribute,hb])
end
def tFld (K:PySem.W.Frag) (ta:TE) (f:Str):TE:=fun σ H Q=>ta σ H fun x H1=>∃ a C dx fs v,x=.ref a∧H1 a=some (.ins C dx fs)∧Cls K C∧NoAttr K C f∧fs.lookup f=some v∧Q v H1
def sFld (K:PySem.W.Frag) (ta tv:TE) (f:Str):TS:=fun D σ H=>tv σ H fun y H1=>ta σ H1 fun x H2=>∃ a C dx fs,x=.ref a∧H2 a=some (.ins C dx fs)∧Cls K C∧NoAttr K C f∧fs.length<1000 ∧
 D.nx σ (upd H2 a (.ins C dx (putF f y fs)))
def InOp (X:Cx) (op:Operator) (rd:V→V→Hp→VK→Prop):Prop :=
 ∀ (pins:List (Addr×Obj)) (s:Shared) (σ:St) (H:Hp) (x y:V) (u v:Value) (Q:VK),Inv X pins σ H s→RelV x u→RelV y v→rd x y H Q→wpAny (model X.prog X.w) X.A (inplaceOp op u v) (EP X pins σ Q) X.xe s
def sFldAug (K:PySem.W.Frag) (ta tv:TE) (rd:V→V→Hp→VK→Prop) (f:Str):TS:=fun D σ H=>ta σ H fun x H1=>∃ a C dx fs v,x=.ref a∧H1 a=some (.ins C dx fs)∧Cls K C∧NoAttr K C f∧fs.lookup f=some v ∧
 tv σ H1 fun y H2=>rd v y H2 fun z H3=>∃ dx' fs',H3 a=some (.ins C dx' fs')∧fs'.length<1000∧D.nx σ (upd H3 a (.ins C dx' (putF f z fs')))
section
variable {X:Cx}{o e value:Expr}{f:Str}{pos pos' tpos:Pos}{ta tv:TE}
theorem pe_fld (he:PE X e ta) (hb:attributeBase e f X.env (eval e X.env)=eval e X.env):PE X (.Attribute e f pos) (tFld X.K ta f):=by
 intro pins s σ H Q I h
 refine attr_of hb (thn (he pins s σ H _ I h) fun u s1 ⟨x,H1,I1,rx,a,C,dx,fs,v,ex,ea,c,n,l,q⟩=>?_)
 subst ex
 obtain rfl:u=Value.ref a:=rx
 exact getattr_ok I1 ea c n l fun u' s2 I2 ru=>⟨v,H1,I2,ru,q⟩
theorem ps_fld (ha:PE X o ta) (hv:PE X value tv) (hs:swapsWith value (some (.Attribute o f pos')) pos.line X.env=pure false):PS X (.Assign [.Attribute o f pos'] value pos) (sFld X.K ta tv f):=by
 intro pins s σ H D I h
 refine plainObj_wpAny_Assign_Attribute (thn (hv pins s σ H _ I h) fun u s1 ⟨y,H1,I1,ry,q⟩=>thn (ha pins s1 σ H1 _ I1 q) fun ov s2 ⟨x,H2,I2,rx,a,C,dx,fs,ex,ea,c,n,l,q2⟩=>?_) hs
 subst ex
 obtain rfl:ov=Value.ref a:=rx
 exact setattr_ok I2 ea c n l ry fun s3 I3=>⟨σ,_,I3,q2⟩
theorem ps_fldaug {op:Operator}{rd:V→V→Hp→VK→Prop} (ha:PE X o ta) (hv:PE X value tv) (hop:InOp X op rd):PS X (.AugAssign (.Attribute o f tpos) op value pos) (sFldAug X.K ta tv rd f):=by
 intro pins s σ H D I h
 refine wpAny_AugAssign_AttributeAny (thn (ha pins s σ H _ I h) fun ov s1 ⟨x,H1,I1,rx,a,C,dx,fs,v,ex,ea,c,n,l,q⟩=>?_)
 subst ex
 obtain rfl:ov=Value.ref a:=rx
 refine getattr_ok I1 ea c n l fun u s2 I2 ru=>thn (hv pins s2 σ H1 _ I2 q) fun w3 s3 ⟨y,H2,I3,ry,q3⟩=>thn (hop pins s3 σ H2 v y u w3 _ I3 ru ry q3) fun w4 s4 ⟨z,H3,I4,rz,dx',fs',ea',l',q4⟩=>?_
 exact setattr_ok I4 ea' c n l' rz fun s5 I5=>⟨σ,_,I5,q4⟩
def rAdd:V→V→Hp→VK→Prop:=fun x y H Q=>∃ i j,x=.int i∧y=.int j∧Q (.int (i+j)) H
theorem in_add:InOp X .Add rAdd:=by
 rintro pins s σ H x y u v Q I rx ry ⟨i,j,rfl,rfl,q⟩
 obtain ⟨t,rfl⟩:=(show ∃ t,u=Value.int i t from rx)
 obtain ⟨t',rfl⟩:=(show ∃ t',v=Value.int j t' from ry)
 exact PyProof.Rows.iadd_int ⟨.int (i+j),H,I.tok _,⟨_,rfl⟩,q⟩
theorem methcall_of {pl:Sem Bool}{m:Str}{apos:Pos}{args:List Expr}{pins:List (Addr×Obj)}{s:Shared}{σ:St}{H:Hp}{Q:Value→Shared→Prop}{te:TE} (he:PE X e te) (I:Inv X pins σ H s)
  (h:te σ H fun x H1=>∃ a C dx fs g,x=.ref a∧H1 a=some (.ins C dx fs)∧Cls X.K C∧Meth X.K C m g∧fs.lookup m=none ∧
   ∀ s1,Inv X pins σ H1 s1→wpAny (model X.prog X.w) X.A (callWith pos (.ref g) [.ref a] (backTo pos (starEach args X.env)) (backToKw pos (keywordEach [] X.env))) Q X.xe s1)
  (ht:eval (.Call (.Attribute e m apos) args [] pos) X.env=(do
   let ov ← eval e X.env
   standAt apos.atName
   let (f,first) ← holding [ov] (getMethod ov m pl)
   callWith pos f first (backTo pos (starEach args X.env)) (backToKw pos (keywordEach [] X.env)))) :
  wpAny (model X.prog X.w) X.A (eval (.Call (.Attribute e m apos) args [] pos) X.env) Q X.xe s:=by
 refine PySem.W.methodCall_KW (pl:=pl) (thn (he pins s σ H _ I h) fun u s1 ⟨x,H1,I1,rx,a,C,dx,fs,g,ex,ea,c,k,l,q⟩=>?_) ht
 subst ex
 obtain rfl:u=Value.ref a:=rx
 exact getmeth_ok I1 ea c k l (q s1 I1)
end
section
variable {X:Cx}{pins:List (Addr×Obj)}{σ:St}{H:Hp}{s:Shared}{A:Around}{E:Value→Shared→Prop}{Q:Value→Shared→Prop}{c:Value}{b:Bool}
end
end L2
namespace L2
open PySem PySem.Spec PyProof.Rows
structure Room (k:Nat) (A:Around):Prop where
 hd:A.handled=none
 dp:A.depth+3 * k+5<recursionLimit
 un:A.units+16 * k+200<cLine
theorem Room.mono {j k:Nat}{A:Around} (r:Room k A) (h:j≤k):Room j A:=⟨r.hd,by have:=r.dp;omega,by have:=r.un;omega⟩
theorem Room.deeper {k:Nat}{A:Around} (r:Room (k+1) A) (env:Env):Room k (A.deeper env) :=
 ⟨r.hd,by have:=r.dp;show A.depth+1+3 * k+5<_;omega,by have:=r.un;show A.units+3+16 * k+200<_;omega⟩
theorem make_depth {A:Around}{C:Addr}{us:List Value}{kw:List (Str×Value)}:(A.under (.builtin "type.__call__" ⟨.ref C::us,kw⟩)).depth=A.depth+1:=by
 first | rfl | simp [Around.under,Code.weight,Code.isCreation,Code.isGuard,Code.isCaller,Code.frames,Code.isFrame,guardIds]
theorem make_units {A:Around}{C:Addr}{us:List Value}{kw:List (Str×Value)}:(A.under (.builtin "type.__call__" ⟨.ref C::us,kw⟩)).units=A.units+1:=by
 first | rfl | simp [Around.under,Code.cUnits,Code.frames,Code.isFrame]
theorem Room.make {k:Nat}{A:Around} (r:Room (k+1) A) (C:Addr) (us:List Value) (kw:List (Str×Value)):Room k (A.under (.builtin "type.__call__" ⟨.ref C::us,kw⟩)) :=
 ⟨r.hd,by have:=r.dp;rw [make_depth];omega,by have:=r.un;rw [make_units];omega⟩
theorem Room.depth {k:Nat}{A:Around} (r:Room k A):A.depth<recursionLimit:=by have:=r.dp;omega
theorem Room.units {k:Nat}{A:Around} (r:Room k A):A.units+64<cLine:=by have:=r.un;omega
def tNil:TA:=fun _ H Q=>Q [] H
def tCons (ta:TE) (tr:TA):TA:=fun σ H Q=>ta σ H fun x H1=>tr σ H1 fun xs H2=>Q (x::xs) H2
section
variable {X:Cx}{e:Expr}{es:List Expr}{te:TE}{t:TA}{pos:Pos}
theorem pa_nil:PA X [] tNil:=fun _ _ _ _ H Q I h=>Calls.spliced_nil ⟨[],H,I,.nil,h⟩
theorem pa_cons (ha:PE X e te) (hr:PA X es t) (hs:starEach (e::es) X.env=(false,eval e X.env)::starEach es X.env:=by rfl):PA X (e::es) (tCons te t):=by
 intro pos pins s σ H Q I h
 rw [hs]
 show wpAny _ _ (spliced ((false,eval e X.env)::backTo pos (starEach es X.env))) _ _ s
 refine Calls.spliced_cons (thn (ha pins s σ H _ I h) fun u s1 ⟨x,H1,I1,r1,q1⟩=>?_)
 exact thn (hr pos pins s1 σ H1 _ I1 q1) fun us s2 ⟨xs,H2,I2,r2,q2⟩=>⟨x::xs,H2,I2,.cons r1 r2,q2⟩
def tTup (t:TA):TE:=fun σ H Q=>t σ H fun xs H1=>xs.length≤sizeLine∧∀ p,H1 p=none→Q (.ref p) (upd H1 p (.tup xs))
def tLst (t:TA):TE:=fun σ H Q=>t σ H fun xs H1=>xs.length≤sizeLine∧∀ p,H1 p=none→Q (.ref p) (upd H1 p (.lst xs))
theorem pe_tup {x1} (h:PA X es t):PE X (.Tuple es x1 pos) (tTup t):=by
 intro pins s σ H Q I hq
 refine wpAny_Tuple_spliced (thn (h pos pins s σ H _ I hq) fun us s1 ⟨xs,H1,I1,r,z,q⟩=>⟨by rw [← r.length];exact z,?_⟩)
 have hf:H1 s1.heap.objs.size=none:=I1.hok.fresh (Nat.le_refl _)
 refine ⟨.ref s1.heap.objs.size,upd H1 s1.heap.objs.size (.tup xs),I1.laid (t':=s1.toks) (fun b u e=>Heap.get?_push_of_some _ e) (Nat.le_refl _) ?_,rfl,q _ hf⟩
 exact ⟨z,us,r,⟨_,Heap.get?_push_size _ rfl,rfl,_,rfl⟩⟩
theorem pe_lst (h:PA X es t):PE X (.List es pos) (tLst t):=by
 intro pins s σ H Q I hq
 refine wpAny_List_spliced (thn (h pos pins s σ H _ I hq) fun us s1 ⟨xs,H1,I1,r,z,q⟩=>⟨by rw [← r.length];exact z,?_⟩)
 have hf:H1 s1.heap.objs.size=none:=I1.hok.fresh (Nat.le_refl _)
 refine ⟨.ref s1.heap.objs.size,upd H1 s1.heap.objs.size (.lst xs),I1.laid (t':=s1.toks) (fun b u e=>Heap.get?_push_of_some _ e) (Nat.le_refl _) ?_,rfl,q _ hf⟩
 exact ⟨z,us,0,r,Heap.get?_push_size _ rfl⟩
end
abbrev Sp:=List V→Hp→VK→XK→Prop
abbrev CXT:=List Env→Hp→Shared→XK→Value→Shared→Prop
structure Env0 (P:Program) (w:World) (K:PySem.W.Frag) (mg:Str→Option Value) (base:Heap) (A:Around) (outer:List Env) (s:Shared) (H:Hp):Prop where
 frames:A.frames=some outer
 mod:Mod K mg base
 bs:∀ b o,base.get? b=some o→s.heap.get? b=some o∧H b=none
 bsz:base.objs.size≤s.heap.objs.size
 funs:s.heap.FunFrames base outer
 frf:∀ b∈frs outer,H b=none
 hok:HOk P w H s.heap
 bare:AllBare s.gens
def CE (outer:List Env) (P:Program) (w:World) (H:Hp) (s:Shared) (Q:VK) (u:Value) (s':Shared):Prop :=
 ∃ v H',s'.os=s.os∧AllBare s'.gens∧Un (frs outer) [] H H' s.heap s'.heap∧HOk P w H' s'.heap∧RelV v u∧Q v H'
def CR (CX:CXT) (outer:List Env) (P:Program) (w:World) (H:Hp) (s:Shared) (Q:VK) (E:XK) (r:Result) (s':Shared):Prop :=
 match r with
 | .ok (.ret u)=>CE outer P w H s Q u s'
 | .ok _=>False
 | .error e=>CX outer H s E e s'
structure FnOk (P:Program) (w:World) (K:PySem.W.Frag) (mg:Str→Option Value) (base:Heap) (CX:CXT) (k:Nat) (f:Addr) (fd:FuncData) (ps:List Str) (sp:Sp):Prop where
 len:∀ vs H Q E,sp vs H Q E→vs.length=ps.length
 run:∀ (A:Around) (outer:List Env) (s:Shared) (H:Hp) (args:Args) (us:List Value) (vs:List V) (Q:VK) (E:XK),Room k A→Env0 P w K mg base A outer s H→BindsTo s fd args (ps.zip us)→Vals vs us→sp vs H Q E →
  codeAny (model P w) A (.call (.ref f) args) (CR CX outer P w H s Q E) s
theorem Env0.make {P:Program}{w:World}{K:PySem.W.Frag}{mg:Str→Option Value}{base:Heap}{A:Around}{outer:List Env}{s:Shared}{H:Hp} (e:Env0 P w K mg base A outer s H) (C:Addr) (us:List Value) (kw:List (Str×Value)) :
  Env0 P w K mg base (A.under (.builtin "type.__call__" ⟨.ref C::us,kw⟩)) outer s H:=⟨by first | exact e.frames | (simpa [Around.under,Code.envs,Code.isFrame,pushEnvs] using e.frames),e.mod,e.bs,e.bsz,e.funs,e.frf,e.hok,e.bare⟩
section
variable {X:Cx}{pins:List (Addr×Obj)}{σ:St}{H:Hp}{s s':Shared}
theorem Inv.env0 (I:Inv X pins σ H s):Env0 X.prog X.w X.K X.mg X.base X.A X.stack s H :=
 ⟨I.ok.frames,I.ok.mod,I.bs,Nat.le_trans I.ok.bsz I.sz,I.stack,I.stkFree,I.hok,I.bare⟩
theorem Inv.after {Q:VK}{u:Value} (I:Inv X pins σ H s) (h:CE X.stack X.prog X.w H s Q u s'):EP X pins σ Q u s':=by
 obtain ⟨v,H',os,bare,un,hok,r,q⟩:=h
 obtain ⟨hh,g,d,t,os'⟩:=s'
 obtain rfl:os'=s.os:=os
 exact ⟨v,H',I.call (h':=hh) (g':=g) (d':=d) (t':=t) (ch:=[]) un hok bare (fun b z=>absurd z (by simp)),r,q⟩
end
def tCall (sp:Sp) (dvs:List V) (E:XK) (t:TA):TE:=fun σ H Q=>t σ H fun vs H1=>sp (vs++dvs) H1 Q E
def tMeth (C:Addr) (m:Str) (sp:Sp) (dvs:List V) (E:XK) (ta:TE) (t:TA):TE:=fun σ H Q=>ta σ H fun x H1=>∃ a dx fs,x=.ref a∧H1 a=some (.ins C dx fs)∧fs.lookup m=none ∧
 t σ H1 fun vs H2=>sp (x::(vs++dvs)) H2 Q E
def tMake (C:Addr) (sp:Sp) (dvs:List V) (E:XK) (t:TA):TE:=fun σ H Q=>t σ H fun vs H1=>∀ x dx,H1 x=none→H1 dx=none→dx≠x →
 sp (.ref x::(vs++dvs)) (upd (upd H1 dx (.own x)) x (.ins C dx [])) (fun v H2=>v=.non∧Q (.ref x) H2) E
def Binds (K:PySem.W.Frag) (fd:FuncData) (ps:List Str) (ds:List Value):Prop :=
 ∀ (s:Shared) (us:List Value),K.In s.heap→(us++ds).length=ps.length→BindsTo s fd ⟨us,[]⟩ (ps.zip (us++ds))
theorem Binds.all {K:PySem.W.Frag}{fd:FuncData}{ps:List Str} (h:∀ us:List Value,us.length=ps.length→bindArgs fd ⟨us,[]⟩=pure (ps.zip us)):Binds K fd ps []:=fun s us _ hl=>by
 rw [List.append_nil] at hl ⊢
 exact .of_eq (h us hl)
def Passes (CX:CXT) (X:Cx) (E:XK):Prop:=∀ (pins:List (Addr×Obj)) (σ:St) (H:Hp) (s:Shared) (e:Value) (s':Shared),Inv X pins σ H s→CX X.stack H s E e s'→X.xe e s'
section
variable {X:Cx}{CX:CXT}{k:Nat}{f C:Addr}{fd:FuncData}{ps:List Str}{sp:Sp}{dvs:List V}{ds:List Value}{E:XK}{x m:Str}{p pos apos:Pos}{e o:Expr}{es:List Expr}{ta:TE}{t:TA}
theorem run_fn {pins:List (Addr×Obj)}{σ:St}{H:Hp}{s:Shared}{Q:VK}{us:List Value}{vs:List V} (F:FnOk X.prog X.w X.K X.mg X.base CX k f fd ps sp) (hr:Room k X.A) (hb:Binds X.K fd ps ds) (hd:Vals dvs ds) (hx:Passes CX X E)
  (I:Inv X pins σ H s) (r:Vals vs us) (h:sp (vs++dvs) H Q E):wpAny (model X.prog X.w) X.A (call (.ref f) us) (EP X pins σ Q) X.xe s:=by
 have r2:Vals (vs++dvs) (us++ds):=r.append hd
 have hl:(us++ds).length=ps.length:=by rw [← r2.length];exact F.len _ _ _ _ h
 refine wpAny_call (codeAny_mono (F.run X.A X.stack s H ⟨us,[]⟩ (us++ds) (vs++dvs) Q E hr I.env0 (hb s us I.kIn hl) r2 h) fun r s' hq=>?_)
 cases r with
 | error e=>exact hx pins σ H s e s' I hq
 | ok fl =>
  cases fl with
  | ret u=>exact I.after hq
  | next=>exact False.elim hq
  | brk=>exact False.elim hq
  | cont=>exact False.elim hq
theorem pe_call (F:FnOk X.prog X.w X.K X.mg X.base CX k f fd ps sp) (hr:Room k X.A) (hg:Gl X x) (hm:X.mg x=some (.ref f)) (hk:PySem.W.keepIn X.K (.ref f)=true) (hb:Binds X.K fd ps ds) (hd:Vals dvs ds) (hx:Passes CX X E)
  (ha:PA X (e::es) t) (hdb:(x==("__debug__":Str))=false:=by decide) (he:starEach (e::es) X.env=(false,eval e X.env)::starEach es X.env:=by rfl) (hpl:(backTo pos (starEach es X.env)).any (·.1)=false:=by rfl) :
  PE X (.Call (.Name x p) (e::es) [] pos) (tCall sp dvs E t):=by
 intro pins s σ H Q I h
 refine wpAny_Call_Name_kw (ld_glob I hg hm ?_ hdb)
 refine PySem.W.callWith_K (h₀:=X.base) I.ok.mod.kin hk (thn (ha pos pins s σ H _ I h) fun us s1 ⟨vs,H1,I1,r,q⟩=>⟨I1.kIn,?_⟩) he hpl
 exact run_fn F hr hb hd hx I1 r q
theorem pe_meth {pl:Sem Bool} (he:PE X o ta) (c:Cls X.K C) (hm:Meth X.K C m f) (F:FnOk X.prog X.w X.K X.mg X.base CX k f fd ps sp) (hr:Room k X.A) (hb:Binds X.K fd ps ds) (hd:Vals dvs ds) (hx:Passes CX X E) (ha:PA X (e::es) t)
  (hst:starEach (e::es) X.env=(false,eval e X.env)::starEach es X.env:=by rfl) (hpl:(backTo pos (starEach es X.env)).any (·.1)=false:=by rfl)
  (ht:eval (.Call (.Attribute o m apos) (e::es) [] pos) X.env=(do
   let ov ← eval o X.env
   standAt apos.atName
   let (f,first) ← holding [ov] (getMethod ov m pl)
   callWith pos f first (backTo pos (starEach (e::es) X.env)) (backToKw pos (keywordEach [] X.env))):=by rfl) :
  PE X (.Call (.Attribute o m apos) (e::es) [] pos) (tMeth C m sp dvs E ta t):=by
 intro pins s σ H Q I h
 refine PySem.W.methodCall_KW (pl:=pl) (thn (he pins s σ H _ I h) fun u s1 ⟨x,H1,I1,rx,a,dx,fs,ex,ea,l,q⟩=>?_) ht
 subst ex
 obtain rfl:u=Value.ref a:=rx
 refine getmeth_ok I1 ea c hm l ?_
 refine PySem.W.callWith_K (first:=[.ref a]) (h₀:=X.base) I.ok.mod.kin hm.kp (thn (ha pos pins s1 σ H1 _ I1 q) fun us s2 ⟨vs,H2,I2,r,q2⟩=>⟨I2.kIn,?_⟩) hst hpl
 exact run_fn (us:=.ref a::us) (vs:=.ref a::vs) F hr hb hd hx I2 (.cons rfl r) q2
theorem pe_meth0 {pl:Sem Bool} (he:PE X o ta) (c:Cls X.K C) (hm:Meth X.K C m f) (F:FnOk X.prog X.w X.K X.mg X.base CX k f fd ps sp) (hr:Room k X.A) (hb:Binds X.K fd ps ds) (hd:Vals dvs ds) (hx:Passes CX X E)
  (ht:eval (.Call (.Attribute o m apos) [] [] pos) X.env=(do
   let ov ← eval o X.env
   standAt apos.atName
   let (f,first) ← holding [ov] (getMethod ov m pl)
   callWith pos f first (backTo pos (starEach [] X.env)) (backToKw pos (keywordEach [] X.env))):=by rfl) :
  PE X (.Call (.Attribute o m apos) [] [] pos) (tMeth C m sp dvs E ta tNil):=by
 intro pins s σ H Q I h
 refine PySem.W.methodCall_KW (pl:=pl) (thn (he pins s σ H _ I h) fun u s1 ⟨x,H1,I1,rx,a,dx,fs,ex,ea,l,q⟩=>?_) ht
 subst ex
 obtain rfl:u=Value.ref a:=rx
 refine getmeth_ok I1 ea c hm l ?_
 exact PySem.W.callWith_K0 (first:=[.ref a]) I1.kIn hm.kp (run_fn (us:=[.ref a]) (vs:=[.ref a]) F hr hb hd hx I1 (.cons rfl .nil) q)
structure Mk (K:PySem.W.Frag) (C f:Addr):Prop where
 makes:PySem.W.makesIn K C=true
 init:PySem.W.findIn K (.ref C) "__init__"=some (some (.ref f))
 fn:PySem.W.isFn K (.ref f)=true
 kp:PySem.W.keepIn K (.ref C)=true
theorem run_make {pins:List (Addr×Obj)}{σ:St}{H:Hp}{s:Shared}{Q:VK}{us:List Value}{vs:List V} (M:Mk X.K C f) (F:FnOk X.prog X.w X.K X.mg X.base CX k f fd ps sp) (hr:Room (k+1) X.A) (hb:Binds X.K fd ps ds) (hd:Vals dvs ds)
  (hx:Passes CX X E) (I:Inv X pins σ H s) (r:Vals vs us)
  (h:∀ x dx,H x=none→H dx=none→dx≠x→sp (.ref x::(vs++dvs)) (upd (upd H dx (.own x)) x (.ins C dx [])) (fun v H2=>v=.non∧Q (.ref x) H2) E) :
  wpAny (model X.prog X.w) X.A (call (.ref C) us) (EP X pins σ Q) X.xe s:=by
 have hq:=h (s.heap.objs.size+1) s.heap.objs.size (I.hok.fresh (Nat.le_succ _)) (I.hok.fresh (Nat.le_refl _)) (Nat.ne_of_lt (Nat.lt_succ_self _))
 have I2:=Inv.made (C:=C) I
 have r2:Vals (V.ref (s.heap.objs.size+1)::(vs++dvs)) (Value.ref (s.heap.objs.size+1)::(us++ds)):=.cons rfl (r.append hd)
 have hl:(Value.ref (s.heap.objs.size+1)::us++ds).length=ps.length:=by
  have e:=r2.length
  rw [F.len _ _ _ _ hq] at e
  exact e.symm
 refine wpAny_call (make_map (f:=f) I.kIn M.makes M.init (beq_iff_eq.mp M.fn) (codeAny_mono (F.run _ X.stack _ _ ⟨Value.ref (s.heap.objs.size+1)::us,[]⟩ (Value.ref (s.heap.objs.size+1)::(us++ds)) _ _ E (hr.make C us [])
  (I2.env0.make C us []) (hb _ (Value.ref (s.heap.objs.size+1)::us) I2.kIn hl) r2 hq) fun r s' hq'=>?_))
 cases r with
 | error e=>exact hx pins σ _ _ e s' I2 hq'
 | ok fl =>
  cases fl with
  | ret u =>
   obtain ⟨v,H',I3,rv,ev,q3⟩:=I2.after hq'
   subst ev
   exact ⟨rv,⟨V.ref (s.heap.objs.size+1),H',I3,rfl,q3⟩⟩
  | next=>exact False.elim hq'
  | brk=>exact False.elim hq'
  | cont=>exact False.elim hq'
theorem pe_make (M:Mk X.K C f) (F:FnOk X.prog X.w X.K X.mg X.base CX k f fd ps sp) (hr:Room (k+1) X.A) (hg:Gl X x) (hm:X.mg x=some (.ref C)) (hb:Binds X.K fd ps ds) (hd:Vals dvs ds) (hx:Passes CX X E)
  (ha:PA X (e::es) t) (hdb:(x==("__debug__":Str))=false:=by decide) (he:starEach (e::es) X.env=(false,eval e X.env)::starEach es X.env:=by rfl) (hpl:(backTo pos (starEach es X.env)).any (·.1)=false:=by rfl) :
  PE X (.Call (.Name x p) (e::es) [] pos) (tMake C sp dvs E t):=by
 intro pins s σ H Q I h
 refine wpAny_Call_Name_kw (ld_glob I hg hm ?_ hdb)
 refine PySem.W.callWith_K (h₀:=X.base) I.ok.mod.kin M.kp (thn (ha pos pins s σ H _ I h) fun us s1 ⟨vs,H1,I1,r,q⟩=>⟨I1.kIn,?_⟩) he hpl
 exact run_make M F hr hb hd hx I1 r q
end
section
variable {X:Cx}{CX:CXT}{k:Nat}{f C:Addr}{fd:FuncData}{ps ks:List Str}{sp:Sp}{E:XK}{x m:Str}{p pos apos kpos:Pos}{e o:Expr}{es:List Expr}{kws:List Keyword}{te ta:TE}{t tk:TA}{nm:Option Str}
variable {g:List Value→List Value→List Value}{gV:List V→List V→List V}
end
structure FnScope (N P:List Str) (sc:Scope):Prop where
 kind:sc.kind=.function
 co:sc.isCoroutine=false
 gen:sc.isGenerator=false
 nd:N.Nodup
 pre:N.take P.length=P
 par:∀ x∈P,sc.names.lookup x=some .local∨sc.names.lookup x=some .cell
 nofree:∀ y∈sc.names,y.2≠.free
theorem bindL_out {kindOf:Str→Option NameKind}{x:Str}:∀ {binds:List (Str×Value)}{m:Str→Option Value},(∀ v,(x,v) ∉ binds)→bindL kindOf binds m x=m x
 | [],_,_=>rfl
 | (n,v)::r,m,h=>by
  unfold bindL
  rw [bindL_out fun w hw=>h w (List.mem_cons_of_mem _ hw)]
  split
  ·have:x≠n:=by rintro rfl;exact h v List.mem_cons_self
   simp [this]
  ·rfl
theorem bindC_out {kindOf:Str→Option NameKind}{x:Str}:∀ {binds:List (Str×Value)}{m:Str→Option Value},(∀ v,(x,v) ∉ binds)→bindC kindOf binds m x=m x
 | [],_,_=>rfl
 | (n,v)::r,m,h=>by
  unfold bindC
  rw [bindC_out fun w hw=>h w (List.mem_cons_of_mem _ hw)]
  split
  ·rfl
  ·have:x≠n:=by rintro rfl;exact h v List.mem_cons_self
   simp [this]
theorem bindL_get {kindOf:Str→Option NameKind}{x:Str}{v:Value}:∀ {P:List Str}{vs:List Value}{i:Nat}{m:Str→Option Value},P.Nodup→P[i]?=some x→vs[i]?=some v→kindOf x=some .local →
  bindL kindOf (P.zip vs) m x=some v
 | [],_,_,_,_,h,_,_=>by simp at h
 | _::_,[],_,_,_,_,h,_=>by simp at h
 | p::P,w::vs,0,m,nd,h1,h2,hk=>by
  simp at h1 h2;subst h1;subst h2
  show bindL kindOf ((p,w)::P.zip vs) m p=_
  unfold bindL
  rw [bindL_out fun v hv=>(List.nodup_cons.mp nd).1 (List.of_mem_zip hv).1,if_pos hk]
  simp
 | p::P,w::vs,i+1,m,nd,h1,h2,hk=>by
  show bindL kindOf ((p,w)::P.zip vs) m x=_
  unfold bindL
  exact bindL_get (i:=i) (List.nodup_cons.mp nd).2 (by simpa using h1) (by simpa using h2) hk
theorem bindC_get {kindOf:Str→Option NameKind}{x:Str}{v:Value}:∀ {P:List Str}{vs:List Value}{i:Nat}{m:Str→Option Value},P.Nodup→P[i]?=some x→vs[i]?=some v→kindOf x≠some .local →
  bindC kindOf (P.zip vs) m x=some v
 | [],_,_,_,_,h,_,_=>by simp at h
 | _::_,[],_,_,_,_,h,_=>by simp at h
 | p::P,w::vs,0,m,nd,h1,h2,hk=>by
  simp at h1 h2;subst h1;subst h2
  show bindC kindOf ((p,w)::P.zip vs) m p=_
  unfold bindC
  rw [bindC_out fun v hv=>(List.nodup_cons.mp nd).1 (List.of_mem_zip hv).1,if_neg hk]
  simp
 | p::P,w::vs,i+1,m,nd,h1,h2,hk=>by
  show bindC kindOf ((p,w)::P.zip vs) m x=_
  unfold bindC
  exact bindC_get (i:=i) (List.nodup_cons.mp nd).2 (by simpa using h1) (by simpa using h2) hk
def start (N:List Str) (vs:List V):St:=vs.map some++List.replicate (N.length-vs.length) none
def cxOf (CX:CXT) (P:Program) (w:World) (K:PySem.W.Frag) (mg:Str→Option Value) (base:Heap) (N:List Str) (qual:Str) (scope:Scope) (f:Addr) (cd:Value) (A:Around) (outer:List Env) (s:Shared) (H:Hp) (E:XK):Cx where
 prog:=P
 w:=w
 K:=K
 mg:=mg
 base:=base
 A:=A.deeper (envOfC qual scope s.heap.objs.size f cd)
 N:=N
 s_0:=s
 H_0:=H
 env:=envOfC qual scope s.heap.objs.size f cd
 outer:=outer
 stack:=envOfC qual scope s.heap.objs.size f cd::outer
 ex:=[]
 calm:=true
 fn:=fun _=>true
 pn:=[]
 xe:=fun e s'=>wpAny (model P w) (A.deeper (envOfC qual scope s.heap.objs.size f cd)) (leaving (envOfC qual scope s.heap.objs.size f cd) e) (fun _ s''=>CX outer H s E e s'') (fun e' s''=>CX outer H s E e' s'') s'
theorem cell_has {sc:Scope}{n:Nat}{x:Str} (h:sc.names.lookup x=some .cell):∃ c,(cellsFrom n sc.names []).lookup x=some c:=by
 have q:=PySem.W.cellsFrom_some sc.names n [] (.inl h)
 exact Option.isSome_iff_exists.mp q
theorem inv_start {CX:CXT}{P:Program}{w:World}{K:PySem.W.Frag}{mg:Str→Option Value}{base:Heap}{N ps:List Str}{qual:Str}{scope:Scope}{f:Addr}{cd:Value}{A:Around}{outer:List Env}{s s1:Shared}{H:Hp}{E:XK}{us:List Value}{vs:List V}
  (S:FnScope N ps scope) (hd:A.handled=none) (e0:Env0 P w K mg base A outer s H) (hl:vs.length=ps.length) (r:Vals vs us)
  (x:InCallC s s.heap.objs.size (bindL (envOfC qual scope s.heap.objs.size f cd).kindOf (ps.zip us) fun _=>none) (cellsFrom (s.heap.objs.size+1) scope.names []) (bindC (envOfC qual scope s.heap.objs.size f cd).kindOf (ps.zip us) fun _=>none) s1) :
  Inv (cxOf CX P w K mg base N qual scope f cd A outer s H E) [] (start N vs) H s1:=by
 have hpl:ps.length≤N.length:=by have:=congrArg List.length S.pre;rw [List.length_take] at this;omega
 obtain ⟨h1,tk,rfl,hk⟩:=x.done
 have noA:∀ b:Addr,b ∉ (cxOf CX P w K mg base N qual scope f cd A outer s H E).ex:=fun b z=>absurd (show b∈([]:List Addr) from z) (by simp)
 refine ⟨⟨e0.mod,S.kind,rfl,rfl,Nat.le_refl _,fun y z c h1 h2=>?_,fun y hy=>?_,fun y c _ h=>?_,fun _=>hd,Around.frames_deeper e0.frames,.inr ⟨rfl,rfl⟩,fun b z=>absurd z (noA b),e0.bs,e0.bsz,fun b _ _=>noA b,fun b z=>absurd z (noA b),e0.funs,e0.frf⟩,
  rfl,e0.bare,Un.kept hk,⟨_,x.toInCall.ns,fun i y v h1 h2 h3=>?_⟩,fun y c h=>⟨_,x.cell y c h⟩,e0.hok.fresh (Nat.le_refl _),fun y c h=>?_,fun p hp=>absurd (show p∈([]:List (Addr×Obj)) from hp) (by simp),e0.hok.kept hk,?_⟩
 ·exact name_of_addr x.apart (PySem.mem_of_lookup h1) (PySem.mem_of_lookup h2)
 ·have hy:scope.names.lookup y=some .cell∨scope.names.lookup y=some .free:=hy
  rcases hy with hy | hy
  ·exact cell_has hy
  ·exact absurd rfl (S.nofree _ (PySem.mem_of_lookup hy))
 ·exact Nat.le_of_lt (x.above y c (PySem.mem_of_lookup h))
 ·have hi:i<vs.length:=by
   unfold start at h2
   by_cases hi:i<vs.length
   ·exact hi
   ·rw [List.getElem?_append_right (by simpa using hi)] at h2
    rw [List.getElem?_replicate] at h2
    split at h2 <;> cases h2
  have ha:vs[i]?=some v:=by
   unfold start at h2
   rw [List.getElem?_append_left (by simpa using hi),List.getElem?_map] at h2
   cases e:vs[i]? with
   | none=>rw [e] at h2;cases h2
   | some a=>rw [e] at h2;cases h2;rfl
  obtain ⟨u,hu,rv⟩:=r.get ha
  have hp:ps[i]?=some y:=by
   rw [← S.pre,List.getElem?_take_of_lt (by omega)];exact h1
  have ndP:ps.Nodup:=by rw [← S.pre];exact S.nd.sublist (List.take_sublist _ _)
  refine ⟨u,rv,?_⟩
  rcases S.par y (List.mem_of_getElem? hp) with k | k
  ·exact .inl ⟨k,bindL_get ndP hp hu k⟩
  ·obtain ⟨c,e⟩:=cell_has (n:=s.heap.objs.size+1) k
   refine .inr ⟨.inl k,c,e,?_⟩
   have q:=x.cell y c e
   rw [bindC_get ndP hp hu (by show scope.names.lookup y≠_;rw [k];decide)] at q
   exact q
 ·exact e0.hok.fresh (Nat.le_of_lt (x.above y c (PySem.mem_of_lookup h)))
 ·unfold start
  show _=N.length
  rw [List.length_append,List.length_map,List.length_replicate]
  omega
theorem fn_of {CX:CXT}{P:Program}{w:World}{K:PySem.W.Frag}{mg:Str→Option Value}{base:Heap}{k:Nat}{f:Addr}{name qual:Str}{params:Arguments}{body:List Stmt}{scope:Scope}{dV kV doc pm cdv ct oc:Value}{an od:Option Addr}
  {osl:Array (Option Value)}{N ps:List Str}{sp:Sp} (lk:K.lookup f=some ⟨oc,od,.func (PySem.W.fnOf name qual params body scope dV kV doc pm an cdv ct),osl⟩) (hcd:PySem.W.codeIn K cdv qual=true) (S:FnScope N ps scope)
  (len:∀ vs H Q E,sp vs H Q E→vs.length=ps.length)
  (hbody:∀ (A:Around) (outer:List Env) (s:Shared) (H:Hp) (vs:List V) (Q:VK) (E:XK),Room k (A.deeper (envOfC qual scope s.heap.objs.size f cdv))→sp vs H Q E →
   ∃ t,PSs (cxOf CX P w K mg base N qual scope f cdv A outer s H E) body t∧t { nx:=fun _ H'=>Q .non H',rt:=Q } (start N vs) H) :
  FnOk P w K mg base CX (k+1) f (PySem.W.fnOf name qual params body scope dV kV doc pm an cdv ct) ps sp:=by
 refine ⟨len,fun A outer s H args us vs Q E hr e0 hb r hsp=>?_⟩
 have hl:=len _ _ _ _ hsp
 have KX:K.In s.heap:=e0.mod.kin.keeps fun b o e=>(e0.bs b o e).1
 have lim:s.heap.NoLimit:=e0.mod.nolimit.keeps fun b o e=>(e0.bs b o e).1
 have hkind:∀ y∈ps.zip us,scope.names.lookup y.1=some .local∨(scope.names.lookup y.1=some .cell∧((cellsFrom (s.heap.objs.size+1) scope.names []).lookup y.1).isSome=true):=fun ⟨n,v⟩ hy=>by
  rcases S.par n (List.of_mem_zip hy).1 with q | q
  ·exact .inl q
  ·exact .inr ⟨q,PySem.W.cellsFrom_some _ _ _ (.inl q)⟩
 refine codeAny_call_function hr.depth (KX _ _ lk) rfl S.co S.gen rfl (PySem.W.codeRec_of KX hcd) (hb _ _ _ _ ?_)
 refine wpAny_newFunctionEnv_cells S.kind hkind fun env he s1 x=>?_
 subst he
 refine ⟨lim.keeps x.toInCall.keep,codeAny_func ?_⟩
 obtain ⟨t,ht,hq⟩:=hbody A outer s H vs Q E (hr.deeper _) hsp
 have I:Inv (cxOf CX P w K mg base N qual scope f cdv A outer s H E) [] (start N vs) H s1:=inv_start S hr.hd e0 hl r x
 refine wpAny_mono (ht [] s1 (start N vs) H _ I hq) (fun fl s' hs=>?_) fun e s' hs=>hs
 have fin:∀ {σ':St}{H':Hp}{v:V}{u:Value},Inv (cxOf CX P w K mg base N qual scope f cdv A outer s H E) [] σ' H' s'→RelV v u→Q v H'→CE outer P w H s Q u s' :=
  fun {σ' H' v u} J rv q=>⟨v,H',J.os,J.bare,J.base,J.hok,rv,q⟩
 cases fl with
 | ret u =>
  obtain ⟨v,σ',H',J,rv,q⟩:=hs
  exact fin J rv q
 | next =>
  obtain ⟨σ',H',J,q⟩:=hs
  exact fin (v:=V.non) (u:=Value.none) J rfl q
 | brk =>
  obtain ⟨_,_,_,q⟩:=hs
  exact False.elim q
 | cont =>
  obtain ⟨_,_,_,q⟩:=hs
  exact False.elim q
end L2
namespace L2
open PySem PySem.Spec PyProof.Rows
section
variable {X:Cx}{x:Str}{p pos:Pos}{e:Expr}{es:List Expr}{t:TA}{id T:String}{r:List V→Hp→VK→Prop}
def tCB (r:List V→Hp→VK→Prop) (t:TA):TE:=fun σ H Q=>t σ H fun vs H1=>r vs H1 Q
theorem pe_callB (hc:CallR X (.builtin id) r) (hg:Gl X x) (hm:X.mg x=none) (hv:bootBuiltins x=some (.builtin id)) (ha:PA X (e::es) t) (hn:x≠"__name__":=by decide) (hdb:(x==("__debug__":Str))=false:=by decide)
  (he:starEach (e::es) X.env=(false,eval e X.env)::starEach es X.env:=by rfl) (hpl:(backTo pos (starEach es X.env)).any (·.1)=false:=by rfl):PE X (.Call (.Name x p) (e::es) [] pos) (tCB r t):=by
 intro pins s σ H Q I h
 refine wpAny_Call_Name_kw (ld_blt I hg hm hv ?_ hn hdb)
 exact PyProof.Rows.callWith_builtin1 (thn (ha pos pins s σ H _ I h) fun us s1 ⟨vs,H1,I1,r1,q1⟩=>hc pins s1 σ H1 vs us Q I1 r1 q1) he hpl
theorem pe_callTy (hc:CallR X (.type T) r) (hg:Gl X x) (hm:X.mg x=none) (hv:bootBuiltins x=some (.type T)) (ha:PA X (e::es) t) (hn:x≠"__name__":=by decide) (hdb:(x==("__debug__":Str))=false:=by decide)
  (he:starEach (e::es) X.env=(false,eval e X.env)::starEach es X.env:=by rfl) (hpl:(backTo pos (starEach es X.env)).any (·.1)=false:=by rfl):PE X (.Call (.Name x p) (e::es) [] pos) (tCB r t):=by
 intro pins s σ H Q I h
 refine wpAny_Call_Name_kw (ld_blt I hg hm hv ?_ hn hdb)
 exact PyProof.Rows.callWith_type1 (thn (ha pos pins s σ H _ I h) fun us s1 ⟨vs,H1,I1,r1,q1⟩=>hc pins s1 σ H1 vs us Q I1 r1 q1) he hpl
end
end L2
namespace HT
open PySem PyProof.Rows
def lexLt:List Int→List Int→Bool
 | [],[]=>false
 | [],_::_=>true
 | _::_,[]=>false
 | x::xs,y::ys=>if x=y then lexLt xs ys else decide (x<y)
section
open PySem.SeqAt
open PySem.AutoSeq1 (wpAny_loadPart')
open PySem.MeetsSeq PySem.MeetsSeq2 PySem.MeetsSeq3
end
section
variable {prog:Program}{w:World}{A:Around}{E:Value→Shared→Prop}{s:Shared}
def sIx (n d:Nat):Option Int→Nat
 | none=>d
 | some v=>if v<0 then (v+(n:Int)).toNat else min v.toNat n
theorem sIx_none (n d:Nat):sIx n d none=d:=rfl
theorem sIx_nat (n d k:Nat):sIx n d (some (k:Int))=min k n:=by
 show (if (k:Int)<0 then ((k:Int)+(n:Int)).toNat else min (k:Int).toNat n)=min k n
 rw [if_neg (by omega),Int.toNat_natCast]
end
end HT
namespace L2
open PySem PySem.Spec PyProof.Rows
abbrev TO:=St→Hp→(Option Int→Hp→Prop)→Prop
def PO (X:Cx) (e:Option Expr) (t:TO):Prop :=
 ∀ (pins:List (Addr×Obj)) (s:Shared) (σ:St) (H:Hp) (Q:Option Int→Hp→Prop),Inv X pins σ H s→t σ H Q →
  wpAny (model X.prog X.w) X.A (evalPart e X.env) (fun u s'=>∃ o H',Inv X pins σ H' s'∧IsPart u o∧Q o H') X.xe s
def tNoPart:TO:=fun _ H Q=>Q none H
def tPart (t:TE):TO:=fun σ H Q=>t σ H fun x H1=>∃ i,x=.int i∧Q (some i) H1
section
variable {X:Cx}{e:Expr}{te:TE}{lo hi:Option Expr}{tl th:TO}{pos p2:Pos}
theorem po_none:PO X none tNoPart:=by
 intro pins s σ H Q I h
 rw [evalPart_none]
 exact wpAny_pure ⟨none,H,I,.none,h⟩
theorem po_some (h:PE X e te):PO X (some e) (tPart te):=by
 intro pins s σ H Q I hw
 rw [evalPart_some]
 refine thn (h pins s σ H _ I hw) fun u s1 ⟨x,H1,I1,r1,q1⟩=>?_
 obtain ⟨i,rfl,q⟩:=q1
 obtain ⟨t,rfl⟩:=r1
 exact ⟨some i,H1,I1,.int i t,q⟩
def SlR (X:Cx) (r:V→Option Int→Option Int→Hp→VK→Prop):Prop :=
 ∀ (pins:List (Addr×Obj)) (s:Shared) (σ:St) (H:Hp) (x:V) (v vl vu:Value) (lo hi:Option Int) (sl:Addr) (Q:VK),Inv X pins σ H s→RelV x v→s.heap.IsSliceOf sl vl vu .none→IsPart vl lo→IsPart vu hi→r x lo hi H Q →
  ∃ T id,typeLookup (.type T) "__getitem__"=pure (some (.builtin id))∧s.TypeIs v T∧wpAny (model X.prog X.w) X.A (getItem v (.ref sl)) (EP X pins σ Q) X.xe s
def tSl (r:V→Option Int→Option Int→Hp→VK→Prop) (te:TE) (tl th:TO):TE:=fun σ H Q=>te σ H fun x H1=>tl σ H1 fun l H2=>th σ H2 fun u H3=>r x l u H3 Q
theorem pe_slice {r:V→Option Int→Option Int→Hp→VK→Prop} (hr:SlR X r) (he:PE X e te) (hl:PO X lo tl) (hu:PO X hi th):PE X (.Subscript e (.Slice lo hi none p2) pos) (tSl r te tl th):=by
 intro pins s σ H Q I h
 refine Subscript_ (thn (he pins s σ H _ I h) fun v s1 ⟨x,H1,I1,r1,q1⟩=>?_)
 refine wpAny_Slice (thn (hl pins s1 σ H1 _ I1 q1) fun vl s2 ⟨l,H2,I2,pl,q2⟩=>thn (hu pins s2 σ H2 _ I2 q2) fun vu s3 ⟨u,H3,I3,pu,q3⟩=>?_)
 rw [evalPart_none]
 refine wpAny_pure ?_
 have I4:Inv X pins σ H3 { s3 with heap:=s3.heap.push { cls:=.type "slice",data:=.fields #[vl,vu,.none] } }:=I3.kept (t':=s3.toks) fun b ob q=>Heap.get?_push_of_some _ q
 obtain ⟨T,id,hT,ht,hg⟩:=hr pins { s3 with heap:=s3.heap.push { cls:=.type "slice",data:=.fields #[vl,vu,.none] } } σ H3 x v vl vu l u s3.heap.objs.size Q I4 r1 (Heap.IsSliceOf.new ..) pl pu q3
 show wpAny (model X.prog X.w) X.A (subscriptTail e (.Slice lo hi none p2) v (.ref s3.heap.objs.size)) (EP X pins σ Q) X.xe { s3 with heap:=s3.heap.push { cls:=.type "slice",data:=.fields #[vl,vu,.none] } }
 exact tail_any (ops:=[.ref s3.heap.objs.size,v]) ht hT hg (by with_unfolding_all rfl)
def cutV (xs:List V) (lo hi:Option Int):List V:=(xs.drop (HT.sIx xs.length 0 lo)).take (HT.sIx xs.length xs.length hi-HT.sIx xs.length 0 lo)
theorem cutV_length (xs:List V) (lo hi:Option Int):(cutV xs lo hi).length≤xs.length:=by
 unfold cutV
 rw [List.length_take,List.length_drop]
 omega
end
end L2
namespace L2
open PySem PySem.Spec PyProof.Rows
def ixN (n:Nat) (i:Int):Option Nat:=if 0≤i then (if i<n then some i.toNat else none) else if -(n:Int)≤i then some (i+n).toNat else none
def atI {α:Type} (xs:List α) (i:Int):Option α:=(ixN xs.length i).bind fun j=>xs[j]?
theorem ixN_seq {n:Nat}{i:Int}{j:Nat} (h:ixN n i=some j):seqIndex? i n=some j∧j<n∧-(n:Int)≤i∧i<n:=by
 unfold ixN at h
 by_cases h0:0≤i
 ·rw [if_pos h0] at h
  by_cases h1:i<n
  ·rw [if_pos h1] at h
   have e:i.toNat=j:=Option.some.inj h
   exact ⟨by rw [seqIndex_of h0 h1,e],by omega,by omega,h1⟩
  ·rw [if_neg h1] at h;cases h
 ·rw [if_neg h0] at h
  by_cases h1:-(n:Int)≤i
  ·rw [if_pos h1] at h
   have e:(i+n).toNat=j:=Option.some.inj h
   exact ⟨by rw [seqIndex_neg (by omega) h1,e],by omega,h1,by omega⟩
  ·rw [if_neg h1] at h;cases h
theorem atI_get {α:Type}{xs:List α}{i:Int}{v:α} (h:atI xs i=some v):∃ j,seqIndex? i xs.length=some j∧xs[j]?=some v∧j<xs.length∧-(xs.length:Int)≤i∧i<xs.length:=by
 unfold atI at h
 cases e:ixN xs.length i with
 | none=>rw [e] at h;cases h
 | some j =>
  rw [e] at h
  obtain ⟨h1,h2,h3,h4⟩:=ixN_seq e
  exact ⟨j,h1,h,h2,h3,h4⟩
theorem atI_nat {α:Type}{xs:List α}{j:Nat}{v:α} (h:xs[j]?=some v):atI xs (j:Int)=some v:=by
 have hj:j<xs.length:=(List.getElem?_eq_some_iff.mp h).1
 have e:ixN xs.length (j:Int)=some j:=by
  unfold ixN
  rw [if_pos (by omega),if_pos (by omega)];simp
 unfold atI;rw [e];exact h
def PlainIx (b:Expr):Prop:=∀ o i,subscripted b false o i=operate [o,i] (getItem o i)
def IxR (X:Cx) (r:R2):Prop :=
 ∀ (value slice:Expr) (pins:List (Addr×Obj)) (s:Shared) (σ:St) (H:Hp) (x y:V) (v u:Value) (Q:VK),Inv X pins σ H s→RelV x v→RelV y u→r x y H Q →
  subscripted slice false v u=operate [v,u] (getItem v u)→wpAny (model X.prog X.w) X.A (subscriptTail value slice v u) (EP X pins σ Q) X.xe s
def MtR (X:Cx) (id:String) (r:V→List V→Hp→VK→Prop):Prop :=
 ∀ (pins:List (Addr×Obj)) (s:Shared) (σ:St) (H:Hp) (x:V) (xs:List V) (v:Value) (us:List Value) (Q:VK),Inv X pins σ H s→RelV x v→Vals xs us→r x xs H Q →
  wpAny (model X.prog X.w) X.A (call (.builtin id) (v::us)) (EP X pins σ Q) X.xe s
section
variable {X:Cx}{a b:Expr}{ta tb:TE}{pos:Pos}
theorem pe_ix {r:R2} (hr:IxR X r) (ha:PE X a ta) (hb:PE X b tb) (hs:PlainIx b):PE X (.Subscript a b pos) (tOp r ta tb):=by
 intro pins s σ H Q I h
 exact Subscript_ (binT ha hb I h fun v u s2 x y H2 I2 rx ry q=>hr a b pins s2 σ H2 x y v u Q I2 rx ry q (hs _ _))
def rIxL (K:PySem.W.Frag):R2:=fun x y H Q=>∃ p xs i v,x=.ref p∧y=.int i∧SqL K H p xs∧atI xs i=some v∧Q v H
def rIxT (K:PySem.W.Frag):R2:=fun x y H Q=>∃ p xs i v,x=.ref p∧y=.int i∧SqT K H p xs∧atI xs i=some v∧Q v H
theorem ix_list:IxR X (rIxL X.K):=by
 intro value slice pins s σ H x y v u Q I rx ry h hs
 obtain ⟨p,xs,i,z,rfl,rfl,hq,he,q⟩:=h
 cases rx
 obtain ⟨t,rfl⟩:=ry
 obtain ⟨its,r,pl,hz⟩:=I.list hq
 obtain ⟨j,h1,h2,h3,h4,h5⟩:=atI_get he
 obtain ⟨w,ew,rw'⟩:=r.get h2
 have hl:=r.length
 have hn:=line63
 have fin:EP X pins σ Q w s:=⟨z,H,I,rw',q⟩
 by_cases h0:0≤i
 ·have hj:i.toNat=j:=by
   rw [seqIndex_of h0 h5] at h1
   exact Option.some.inj h1
  exact item_listR pl.isList h0 (by omega) (by rw [hj];simpa using ew) fin hs
 ·have hj:(i+(its.toArray.size:Int)).toNat=j:=by
   rw [seqIndex_neg (by omega) h4] at h1
   rw [List.size_toArray,← hl]
   exact Option.some.inj h1
  exact subscriptTail_builtinR (x:=w) pl.isList.typeIs slot_list_getitem.lookup
   (wpAny_getItem_list_neg (Q:=fun r s'=>r=w∧EP X pins σ Q r s') pl.isList (by omega) (by rw [List.size_toArray] <;> omega) (by omega) (by rw [hj];simpa using ew) ⟨rfl,fin⟩) hs
theorem ix_tup:IxR X (rIxT X.K):=by
 intro value slice pins s σ H x y v u Q I rx ry h hs
 obtain ⟨p,xs,i,z,rfl,rfl,hq,he,q⟩:=h
 cases rx
 obtain ⟨t,rfl⟩:=ry
 obtain ⟨its,r,pl,hz⟩:=I.tuple hq
 obtain ⟨j,h1,h2,h3,h4,h5⟩:=atI_get he
 obtain ⟨w,ew,rw'⟩:=r.get h2
 have hl:=r.length
 have hn:=line63
 have fin:EP X pins σ Q w s:=⟨z,H,I,rw',q⟩
 exact subscriptTail_builtinR (x:=w) pl.typeIs slot_tuple_getitem.lookup
  (getItem_tuple (j:=j) (Q:=fun r s'=>r=w∧EP X pins σ Q r s') pl (by omega) (by omega) (by rw [List.size_toArray,← hl];exact h1) (by simpa using ew) ⟨rfl,fin⟩) hs
theorem slice_bounds (lo hi:Option Int) (n:Nat):(sliceBounds lo hi none n).1=((HT.sIx n 0 lo:Nat):Int)∧(sliceBounds lo hi none n).2.1=((HT.sIx n n hi:Nat):Int)∧(sliceBounds lo hi none n).2.2=1:=by
 refine ⟨?_,?_,rfl⟩
 ·cases lo with
  | none=>simp [sliceBounds,HT.sIx]
  | some i =>
   simp only [sliceBounds,HT.sIx,Option.getD_none,show (1:Int) > 0 by decide,if_true]
   by_cases h:i<0
   ·simp only [h,if_true] <;> omega
   ·simp only [h,if_false] <;> omega
 ·cases hi with
  | none=>simp [sliceBounds,HT.sIx]
  | some i =>
   simp only [sliceBounds,HT.sIx,Option.getD_none,show (1:Int) > 0 by decide,if_true]
   by_cases h:i<0
   ·simp only [h,if_true] <;> omega
   ·simp only [h,if_false] <;> omega
theorem slicePick_cut (its:List Value) (lo hi:Option Int):slicePick its.toArray lo hi none=((its.drop (HT.sIx its.length 0 lo)).take (HT.sIx its.length its.length hi-HT.sIx its.length 0 lo)).toArray:=by
 obtain ⟨h1,h2,h3⟩:=slice_bounds lo hi its.toArray.size
 unfold slicePick
 rw [h1,h2,h3]
 simp only [sliceRange_one,pick_run,List.size_toArray] <;> rfl
def rSlL (K:PySem.W.Frag):V→Option Int→Option Int→Hp→VK→Prop:=fun x lo hi H Q=>∃ a xs,x=.ref a∧SqL K H a xs∧∀ p,H p=none→Q (.ref p) (upd H p (.lst (cutV xs lo hi)))
theorem sl_list:SlR X (rSlL X.K):=by
 intro pins s σ H x v vl vu lo hi sl Q I rx hs pl pu h
 obtain ⟨a,xs,rfl,hx,q⟩:=h
 cases rx
 obtain ⟨its,r,ht,hz⟩:=I.list hx
 have hlen:=r.length
 refine ⟨"list",_,slot_list_getitem.lookup,ht.isList.typeIs,?_⟩
 refine wpAny_getItem_list_slice ht.isList hs pl pu .none (by simp) ?_ (by rw [List.size_toArray] <;> omega)
 rw [slicePick_cut,← hlen]
 refine ⟨.ref s.heap.objs.size,_,I.laid (t':=s.toks) (o:=.lst (cutV xs lo hi)) (fun b ob q=>Heap.get?_push_of_some _ q) (Nat.le_refl _) ?_,rfl,q _ (I.hok.fresh (Nat.le_refl _))⟩
 exact ⟨Nat.le_trans (cutV_length xs lo hi) hz,_,0,(r.drop (HT.sIx xs.length 0 lo)).take (HT.sIx xs.length xs.length hi-HT.sIx xs.length 0 lo),Heap.get?_push_size _ rfl⟩
def flatV:V→Bool
 | .non=>true
 | .bl _=>true
 | .int _=>true
 | .str _=>true
 | _=>false
def eqV:V→V→Bool
 | .non,.non=>true
 | .bl a,.bl b=>a==b
 | .bl a,.int b=>(if a then 1 else 0)==b
 | .int a,.bl b=>a==(if b then 1 else 0)
 | .int a,.int b=>a==b
 | .str a,.str b=>a==b
 | _,_=>false
theorem eqAt_V {A:Around}{s:Shared}{y x:V}{u v:Value} (ry:RelV y u) (rx:RelV x v) (fy:flatV y=true) (fx:flatV x=true):SeqAt.EqAt A s u v (eqV y x):=by
 cases y with
 | non =>
  cases ry
  cases x with
  | non=>cases rx;exact SeqAt.EqAt.same _
  | bl b=>cases rx;exact SeqAt.EqAt.none_bool b
  | int b=>obtain ⟨t,rfl⟩:=rx;exact SeqAt.EqAt.none_int b t
  | str b=>obtain ⟨t,rfl⟩:=rx;exact SeqAt.EqAt.none_str b t
  | _=>exact absurd (show false=true from fx) Bool.false_ne_true
 | bl a =>
  cases ry
  cases x with
  | non=>cases rx;exact SeqAt.EqAt.bool_none a
  | bl b=>cases rx;exact SeqAt.EqAt.bool_bool a b
  | int b=>obtain ⟨t,rfl⟩:=rx;exact SeqAt.EqAt.bool_int a b t
  | str b=>obtain ⟨t,rfl⟩:=rx;exact SeqAt.EqAt.bool_str a b t
  | _=>exact absurd (show false=true from fx) Bool.false_ne_true
 | int a =>
  obtain ⟨t',rfl⟩:=ry
  cases x with
  | non=>cases rx;exact SeqAt.EqAt.int_none a t'
  | bl b=>cases rx;exact SeqAt.EqAt.int_bool a t' b
  | int b=>obtain ⟨t,rfl⟩:=rx;exact SeqAt.EqAt.int_int a t' b t
  | str b=>obtain ⟨t,rfl⟩:=rx;exact SeqAt.EqAt.int_str a t' b t
  | _=>exact absurd (show false=true from fx) Bool.false_ne_true
 | str a =>
  obtain ⟨t',rfl⟩:=ry
  cases x with
  | non=>cases rx;exact SeqAt.EqAt.str_none a t'
  | bl b=>cases rx;exact SeqAt.EqAt.str_bool a t' b
  | int b=>obtain ⟨t,rfl⟩:=rx;exact SeqAt.EqAt.str_int a t' b t
  | str b=>obtain ⟨t,rfl⟩:=rx;exact SeqAt.EqAt.str_str a t' b t
  | _=>exact absurd (show false=true from fx) Bool.false_ne_true
 | _=>exact absurd (show false=true from fy) Bool.false_ne_true
def eqU (x:V) (u:Value):Bool:=match u with
 | .none=>eqV .non x
 | .bool b=>eqV (.bl b) x
 | .int i _=>eqV (.int i) x
 | .str z _=>eqV (.str z) x
 | _=>false
theorem eqU_of {x y:V}{u:Value} (r:RelV y u) (f:flatV y=true):eqU x u=eqV y x:=by
 cases y with
 | non=>cases r;rfl
 | bl b=>cases r;rfl
 | int i=>obtain ⟨t,rfl⟩:=r;rfl
 | str z=>obtain ⟨t,rfl⟩:=r;rfl
 | _=>exact absurd (show false=true from f) Bool.false_ne_true
theorem any_eqU {x:V}:∀ {xs:List V}{us:List Value},Vals xs us→xs.all flatV=true→us.any (eqU x)=xs.any fun y=>eqV y x
 | _,_,.nil,_=>rfl
 | y::xs,u::us,.cons r t,f=>by
  rw [List.all_cons,Bool.and_eq_true] at f
  rw [List.any_cons,List.any_cons,eqU_of r f.1,any_eqU t f.2]
theorem mem_eqAt {A:Around}{s:Shared}{x:V}{v:Value} (rx:RelV x v) (fx:flatV x=true):∀ {xs:List V}{us:List Value},Vals xs us→xs.all flatV=true→∀ u∈us,SeqAt.EqAt A s u v (eqU x u)
 | _,_,.nil,_=>fun u hu=>by cases hu
 | y::xs,u::us,.cons r t,f=>fun u' hu=>by
  rw [List.all_cons,Bool.and_eq_true] at f
  rcases List.mem_cons.mp hu with rfl | hu
  ·rw [eqU_of r f.1];exact eqAt_V r rx f.1 fx
  ·exact mem_eqAt rx fx t f.2 u' hu
def inV (x:V) (xs:List V):Bool:=xs.any fun y=>eqV y x
def rIn (K:PySem.W.Frag) (neg:Bool):R2:=fun x y H Q=>∃ p xs,y=.ref p∧(SqL K H p xs∨SqT K H p xs)∧flatV x=true∧xs.all flatV=true∧Q (.bl (if neg then !inV x xs else inV x xs)) H
theorem op_in_seq:OpR X (compareOp .In) (rIn X.K false):=by
 intro pins s σ H x y v u Q I rx ry h
 obtain ⟨p,xs,rfl,hq,fx,fs,q⟩:=h
 cases ry
 rcases hq with hq | hq
 ·obtain ⟨its,r,pl,hz⟩:=I.list hq
  refine SeqAt.in_listAt (eqU x) pl.isList (fun w hw=>mem_eqAt rx fx r fs w (by simpa using hw)) ⟨.bl _,H,I,rfl,?_⟩
  rw [show its.toArray.any (eqU x)=its.any (eqU x) by simp,any_eqU r fs]
  exact q
 ·obtain ⟨its,r,pl,hz⟩:=I.tuple hq
  refine SeqAt.in_tupleAt (eqU x) pl (fun w hw=>mem_eqAt rx fx r fs w (by simpa using hw)) ⟨.bl _,H,I,rfl,?_⟩
  rw [show its.toArray.any (eqU x)=its.any (eqU x) by simp,any_eqU r fs]
  exact q
theorem op_notIn_seq:OpR X (compareOp .NotIn) (rIn X.K true):=by
 intro pins s σ H x y v u Q I rx ry h
 obtain ⟨p,xs,rfl,hq,fx,fs,q⟩:=h
 cases ry
 rcases hq with hq | hq
 ·obtain ⟨its,r,pl,hz⟩:=I.list hq
  refine SeqAt.notIn_listAt (eqU x) pl.isList (fun w hw=>mem_eqAt rx fx r fs w (by simpa using hw)) ⟨.bl _,H,I,rfl,?_⟩
  rw [show its.toArray.any (eqU x)=its.any (eqU x) by simp,any_eqU r fs]
  exact q
 ·obtain ⟨its,r,pl,hz⟩:=I.tuple hq
  refine SeqAt.notIn_tupleAt (eqU x) pl (fun w hw=>mem_eqAt rx fx r fs w (by simpa using hw)) ⟨.bl _,H,I,rfl,?_⟩
  rw [show its.toArray.any (eqU x)=its.any (eqU x) by simp,any_eqU r fs]
  exact q
theorem call_len_seq:CallR X (.builtin "len") (fun xs H Q=>∃ p ys,xs=[.ref p]∧(SqL X.K H p ys∨SqT X.K H p ys)∧Q (.int ys.length) H):=by
 intro pins s σ H xs us Q I r h
 obtain ⟨p,ys,rfl,hq,q⟩:=h
 obtain ⟨u,rfl,rx⟩:=vals1 r
 cases rx
 have hn:=line63
 rcases hq with hq | hq
 ·obtain ⟨its,r',pl,hz⟩:=I.list hq
  have hlen:=r'.length
  exact Calls.call_len_list pl.isList (by simp only [List.size_toArray] <;> omega) ⟨.int ys.length,H,I.tok _,⟨s.toks+1,by rw [List.size_toArray,hlen]⟩,q⟩
 ·obtain ⟨its,r',pl,hz⟩:=I.tuple hq
  have hlen:=r'.length
  exact len_tuple pl (by simp only [List.size_toArray] <;> omega) ⟨.int ys.length,H,I.tok _,⟨s.toks+1,by rw [List.size_toArray,hlen]⟩,q⟩
theorem call_list_of:CallR X (.type "list") (fun xs H Q=>∃ p ys,xs=[.ref p]∧(SqL X.K H p ys∨SqT X.K H p ys)∧∀ l,H l=none→Q (.ref l) (upd H l (.lst ys))):=by
 intro pins s σ H xs us Q I r h
 obtain ⟨p,ys,rfl,hq,q⟩:=h
 obtain ⟨u,rfl,rx⟩:=vals1 r
 cases rx
 have fin:∀ (its:List Value),Vals ys its→ys.length≤sizeLine→∀ (h':Heap) (c':Nat),(∀ b o',s.heap.get? b=some o'→h'.get? b=some o') →
   h'.get? s.heap.objs.size=some { cls:=.type "list",dict:=none,data:=.seq its.toArray c',slots:=#[] }→EP X pins σ Q (.ref s.heap.objs.size) { s with heap:=h' }:=fun its r' hz h' c' kp e =>
  ⟨.ref s.heap.objs.size,_,I.laid (t':=s.toks) kp (Nat.le_refl _) (show ObjOk X.prog X.w _ h' _ (.lst ys) from ⟨hz,its,c',r',e⟩),rfl,q _ (I.hok.fresh (Nat.le_refl _))⟩
 rcases hq with hq | hq
 ·obtain ⟨its,r',pl,hz⟩:=I.list hq
  have hlen:=r'.length
  obtain ⟨o,ho,hc,n,hd⟩:=pl.isList
  exact call_list_seq p (.inl rfl) ho hc hd (fun h' c' kp e=>fin its r' hz h' c' kp e) (by simp only [List.size_toArray] <;> omega)
 ·obtain ⟨its,r',pl,hz⟩:=I.tuple hq
  have hlen:=r'.length
  obtain ⟨o,ho,hc,n,hd⟩:=pl
  exact call_list_seq p (.inr rfl) ho hc hd (fun h' c' kp e=>fin its r' hz h' c' kp e) (by simp only [List.size_toArray] <;> omega)
theorem call_tuple_of:CallR X (.type "tuple") (fun xs H Q=>∃ p ys,xs=[.ref p]∧((SqL X.K H p ys∧∀ l,H l=none→Q (.ref l) (upd H l (.tup ys)))∨(SqT X.K H p ys∧Q (.ref p) H))):=by
 intro pins s σ H xs us Q I r h
 obtain ⟨p,ys,rfl,h⟩:=h
 obtain ⟨u,rfl,rx⟩:=vals1 r
 cases rx
 rcases h with ⟨hq,q⟩ | ⟨hq,q⟩
 ·obtain ⟨its,r',pl,hz⟩:=I.list hq
  have hlen:=r'.length
  refine call_tuple_list pl.isList (fun h' kp=>?_) (by simp only [List.size_toArray] <;> omega)
  have I1:Inv X pins σ H { s with heap:=h' }:=I.kept (t':=s.toks) kp
  have I2:Inv X pins σ (upd H h'.objs.size (.tup ys)) { s with heap:=h'.push { cls:=.type "tuple",data:=.seq its.toArray } } :=
   I1.laid (t':=s.toks) (fun b o e=>Heap.get?_push_of_some _ e) (Nat.le_refl _) (show ObjOk X.prog X.w _ _ _ (.tup ys) from ⟨hz,its,r',IsTup.new _ _⟩)
  exact ⟨.ref h'.objs.size,_,I2,rfl,q _ (I1.hok.fresh (Nat.le_refl _))⟩
 ·obtain ⟨its,r',pl,hz⟩:=I.tuple hq
  exact call_tuple_same pl ⟨.ref p,H,I,rfl,q⟩
def tyV (K:PySem.W.Frag) (T:String) (x:V) (H:Hp):Prop:=match x with
 | .str _=>T="str"
 | .int _=>T="int"
 | .ref p=>(T="list"∧∃ xs,SqL K H p xs)∨(T="tuple"∧∃ o,K.lookup p=some o∧o.cls=.type "tuple"∧o.dict=none) ∨
   (T="dict"∧((∃ kvs,H p=some (.dK kvs))∨∃ kvs,H p=some (.dT kvs)))∨(T="set"∧∃ S n,H p=some (.set S n))
 | _=>False
theorem tyV_is {pins:List (Addr×Obj)}{σ:St}{H:Hp}{s:Shared}{T:String}{x:V}{v:Value} (I:Inv X pins σ H s) (r:RelV x v) (ty:tyV X.K T x H) :
  s.TypeIs v T∧∀ a,v=.ref a→∃ ob,s.heap.get? a=some ob∧ob.dict=none:=by
 cases x with
 | str z =>
  obtain ⟨t,rfl⟩:=r
  cases (show T="str" from ty)
  exact ⟨typeIs_str s z t,fun _ e=>nomatch e⟩
 | int i =>
  obtain ⟨t,rfl⟩:=r
  cases (show T="int" from ty)
  exact ⟨typeIs_int s i t,fun _ e=>nomatch e⟩
 | ref p =>
  cases r
  rcases ty with ⟨rfl,xs,hq⟩ | ⟨rfl,o,hk,hc,hd⟩ | ⟨rfl,hk⟩ | ⟨rfl,S,n,hk⟩
  ·obtain ⟨its,_,pl,_⟩:=I.list hq
   refine ⟨pl.isList.typeIs,fun a e=>?_⟩
   cases e
   obtain ⟨o,n,e,c,hd,_⟩:=pl
   exact ⟨o,e,hd⟩
  ·refine ⟨⟨o,I.kIn p o hk,hc⟩,fun a e=>?_⟩
   cases e
   exact ⟨o,I.kIn _ o hk,hd⟩
  ·have z:∃ o,s.heap.get? p=some o∧o.ExactDict:=by
    rcases hk with ⟨kvs,hk⟩ | ⟨kvs,hk⟩
    ·obtain ⟨_,_,_,_,o,_,_,e,ex,_⟩:=I.hok p _ hk
     exact ⟨o,e,ex⟩
    ·obtain ⟨_,_,_,_,o,_,_,e,ex,_⟩:=I.hok p _ hk
     exact ⟨o,e,ex⟩
   obtain ⟨o,e,ex⟩:=z
   refine ⟨⟨o,e,ex.1⟩,fun a e2=>?_⟩
   cases e2
   exact ⟨o,e,ex.2.1⟩
  ·obtain ⟨o,_,_,_,e,ex,_⟩:=I.hok p _ hk
   refine ⟨⟨o,e,ex.1⟩,fun a e2=>?_⟩
   cases e2
   exact ⟨o,e,ex.2.1⟩
 | _=>exact False.elim ty
def tBM (K:PySem.W.Frag) (T:String) (r:V→List V→Hp→VK→Prop) (to:TE) (t:TA):TE:=fun σ H Q=>to σ H fun x H1=>tyV K T x H1∧t σ H1 fun xs H2=>r x xs H2 Q
variable {o e:Expr}{es:List Expr}{to:TE}{t:TA}{name:Str}{apos cpos:Pos}{T id:String}{r:V→List V→Hp→VK→Prop}
theorem pe_bm (pa:PlainAttrs T) (slot:Slot T name id) (hty:typeOf (.builtin id)=pure (.type "method_descriptor")) (hm:MtR X id r) (ho:PE X o to) (ha:PA X (e::es) t)
  (hbase:attributeBase o name X.env (eval o X.env)=eval o X.env:=by rfl)
  (hfew:((backTo cpos (starEach (e::es) X.env)).all (fun x=>!x.1) && (backToKw cpos (keywordEach [] X.env)).all (fun x=>x.1.isSome)
   && decide ((e::es).length+([]:List Keyword).length+(if ([]:List Keyword).isEmpty then 0 else 1)<30))=true:=by rfl)
  (hline:(apos.endLine==cpos.line)=true:=by rfl) (hs:starEach (e::es) X.env=(false,eval e X.env)::starEach es X.env:=by rfl) (hplain:(backTo cpos (starEach es X.env)).any (·.1)=false:=by rfl) :
  PE X (.Call (.Attribute o name apos) (e::es) [] cpos) (tBM X.K T r to t):=by
 intro pins s σ H Q I h
 refine wpAny_Call_method_late hbase hfew hline rfl (thn (ho pins s σ H _ I h) fun v s1 ⟨x,H1,I1,r1,ty,q1⟩=>?_)
 obtain ⟨h1,h2⟩:=tyV_is I1 r1 ty
 refine ⟨T,id,pa,slot,hty,h1,h2,?_⟩
 have hA:=ha cpos pins s1 σ H1 _ I1 q1
 rw [hs] at hA ⊢
 refine Calls.callWith_builtin (by show (false || (backTo cpos (starEach es X.env)).any (·.1))=false;rw [hplain] <;> rfl) (Calls.evalArgs_plain ?_)
 exact thn hA fun us s2 ⟨vs,H2,I2,r2,q2⟩=>hm pins s2 σ H2 x vs v us Q I2 r1 r2 q2
end
end L2
namespace L2
open PySem PySem.Spec PyProof.Rows
def MtM (X:Cx) (id:String) (r:V→List V→Hp→VK→Prop):Prop :=
 ∀ (pins:List (Addr×Obj)) (s:Shared) (σ:St) (H:Hp) (x:V) (xs:List V) (v:Value) (us:List Value) (Q:VK),Inv X pins σ H s→RelV x v→Vals xs us→r x xs H Q →
  wpAny (model X.prog X.w) X.A (call (.builtin id) (v::us)) (EP X pins σ Q) X.xe s
theorem Vals.one:∀ {x:V}{us:List Value},Vals [x] us→∃ u,us=[u]∧RelV x u
 | _,_,.cons r .nil=>⟨_,rfl,r⟩
section
variable {X:Cx}{pins:List (Addr×Obj)}{σ:St}{H:Hp}{s:Shared}{l b:Addr}{xs ys zs:List V}
theorem Inv.lset {its its':List Value}{n:Nat}{f:Array Value→Array Value}{t':Nat} (I:Inv X pins σ H s) (hH:H l=some (.lst xs))
  (e:s.heap.get? l=some { cls:=.type "list",data:=.seq its.toArray n }) (hf:f its.toArray=its'.toArray) (hv:Vals ys its') (hz:ys.length≤sizeLine) :
  Inv X pins σ (upd H l (.lst ys)) { s with heap:=s.heap.update l (Obj.mapSeq f),toks:=t' }:=by
 have q:=PySem.IsL.update e f
 rw [hf] at q
 refine I.write (x:=l) (e:=l) (by rw [hH];exact trivial) (.inl rfl) (fun b' u hb hu=>(Heap.get?_update_other s.heap (Obj.mapSeq f) (Ne.symm hb)).trans hu) ⟨_,q⟩ ?_
 exact ⟨hz,its',_,hv,q⟩
theorem Inv.lnew {its:List Value}{t':Nat} (I:Inv X pins σ H s) (hv:Vals ys its) (hz:ys.length≤sizeLine) :
  Inv X pins σ (upd H s.heap.objs.size (.lst ys)) { s with heap:=s.heap.push { cls:=.type "list",data:=.seq its.toArray },toks:=t' } :=
 I.laid (fun _ _ q=>Heap.get?_push_of_some _ q) (Nat.le_refl _) ⟨hz,its,0,hv,Heap.get?_push_size _ rfl⟩
theorem Inv.fresh (I:Inv X pins σ H s):H s.heap.objs.size=none:=I.hok.fresh (Nat.le_refl _)
theorem Inv.lstM (I:Inv X pins σ H s) (hH:H l=some (.lst xs)):xs.length≤sizeLine∧∃ (its:List Value) (n:Nat),Vals xs its∧xs.length=its.length∧s.heap.get? l=some { cls:=.type "list",data:=.seq its.toArray n }:=by
 obtain ⟨z,its,n,r,e⟩:=I.hok l _ hH
 exact ⟨z,its,n,r,r.length,e⟩
theorem notLongL {n:Nat} (h:n≤sizeLine):Builtin.List.listTooLong n=false:=by
 unfold Builtin.List.listTooLong
 exact decide_eq_false (by omega)
end
section
variable {X:Cx}
def rAppend:V→List V→Hp→VK→Prop:=fun x vs H Q=>∃ l xs y,x=.ref l∧vs=[y]∧H l=some (.lst xs)∧xs.length<sizeLine∧Q .non (upd H l (.lst (xs++[y])))
theorem mt_append:MtM X "list.append" rAppend:=by
 intro pins s σ H x vs v us Q I rx rv h
 obtain ⟨l,xs,y,rfl,rfl,hH,hz,q⟩:=h
 cases rx
 obtain ⟨u,rfl,ru⟩:=rv.one
 obtain ⟨z,its,n,r,hl,e⟩:=I.lstM hH
 refine call_meets F.slot_list_append ⟨_,e,rfl⟩ F.entry_list_append (F.args_list_append_2 _ _) (PySem.list_append l its.toArray n u (by rw [List.size_toArray];omega)) ⟨e,?_⟩
 refine ⟨.non,_,I.lset (its':=its++[u]) hH e (by simp) (r.append (.cons ru .nil)) ?_,rfl,q⟩
 rw [List.length_append,List.length_singleton]
 omega
def rExtend:V→List V→Hp→VK→Prop:=fun x vs H Q=>∃ l b xs zs,x=.ref l∧vs=[.ref b]∧H l=some (.lst xs)∧H b=some (.lst zs)∧xs.length+zs.length≤sizeLine∧Q .non (upd H l (.lst (xs++zs)))
theorem mt_extend:MtM X "list.extend" rExtend:=by
 intro pins s σ H x vs v us Q I rx rv h
 obtain ⟨l,b,xs,zs,rfl,rfl,hH,hB,hz,q⟩:=h
 cases rx
 obtain ⟨u,rfl,ru⟩:=rv.one
 cases ru
 obtain ⟨z,its,n,r,hl,e⟩:=I.lstM hH
 obtain ⟨z2,its2,n2,r2,hl2,e2⟩:=I.lstM hB
 have hsz:its.toArray.size+its2.toArray.size≤sizeLine:=by rw [List.size_toArray,List.size_toArray];omega
 have hlong:¬ (!its.toArray.isEmpty && Builtin.List.listTooLong (its.toArray.size+its2.toArray.size))=true:=by
  rw [notLongL hsz,Bool.and_false]
  exact Bool.false_ne_true
 refine call_meets F.slot_list_extend ⟨_,e,rfl⟩ F.entry_list_extend (F.args_list_extend_2 _ _)
  (AutoSeq1.list_extend_list_list_0 l its.toArray n b its2.toArray n2 hlong (by rw [List.size_toArray];omega) (by omega)) ⟨e,e2,?_⟩
 refine ⟨.non,_,I.lset (its':=its++its2) hH e (by simp) (r.append r2) ?_,rfl,q⟩
 rw [List.length_append]
 omega
def rCat:R2:=fun x y H Q=>∃ l b xs zs,x=.ref l∧y=.ref b∧H l=some (.lst xs)∧H b=some (.lst zs)∧xs.length+zs.length≤sizeLine∧∀ p,H p=none→Q (.ref p) (upd H p (.lst (xs++zs)))
theorem op_cat:OpR X (binaryOp .Add) rCat:=by
 intro pins s σ H x y v u Q I rx ry h
 obtain ⟨l,b,xs,zs,rfl,rfl,hH,hB,hz,q⟩:=h
 cases rx
 cases ry
 obtain ⟨z,its,n,r,hl,e⟩:=I.lstM hH
 obtain ⟨z2,its2,n2,r2,hl2,e2⟩:=I.lstM hB
 refine PySem.P.add_list e e2 ?_ (by rw [List.size_toArray,List.size_toArray];omega)
 have ea:its.toArray++its2.toArray=(its++its2).toArray:=by simp
 rw [ea]
 exact ⟨.ref _,_,I.lnew (t':=s.toks) (r.append r2) (by rw [List.length_append];omega),rfl,q _ I.fresh⟩
end
section
variable {prog:Program}{w:World}{A:Around}{E:Value→Shared→Prop}{s:Shared}
end
section
variable {X:Cx}
end
end L2
namespace L2
open PySem PySem.Spec PyProof.Rows
theorem Vals.ref1 {a:Addr}{us:List Value} (r:Vals [V.ref a] us):us=[Value.ref a]:=by
 cases r with
 | cons r t =>
  cases t
  cases r
  rfl
section
variable {prog:Program}{w:World}{A:Around}{E:Value→Shared→Prop}{s:Shared}{l:Addr}{its:List Value}{ns:List Int}{Q:Value→Shared→Prop}
end
section
variable {X:Cx}
end
section
variable {X:Cx}
end
section
variable {X:Cx}
end
section
variable {X:Cx}
end
section
variable {X:Cx}{pins:List (Addr×Obj)}{σ:St}{H:Hp}{s:Shared}
end
section
variable {X:Cx}
end
end L2
namespace L2
open PySem PySem.Spec PyProof.Rows
abbrev CellAt (h:Heap) (c:Addr) (v:Option Value):Prop:=h.IsCell c v
def relS (scope sc:Scope):Scope :=
 { scope with names:=scope.names.map fun (n,k)=>if (k==.free && sc.kind==.function && sc.names.lookup n==some .cell) then (n,.cell) else (n,k) }
def cloFrom (cells:List (Str×Addr)):List (Str×NameKind)→List (Str×Addr)→List (Str×Addr)
 | [],acc=>acc
 | (n,k)::r,acc=>if k==.free then cloFrom cells r ((n,(cells.lookup n).getD 0)::acc) else cloFrom cells r acc
theorem closure_loop (env:Env) (f:Str×NameKind→List (Str×Addr)→Sem (ForInStep (List (Str×Addr))))
  (hf:∀ n k c,f (n,k) c=if k==.free then (do let a ← cellOf env n;pure (.yield ((n,a)::c))) else pure (.yield c)) :
  ∀ (names:List (Str×NameKind)) (acc:List (Str×Addr)),(∀ y∈names,y.2=.free→∃ c,env.cells.lookup y.1=some c)→forIn names acc f=pure (cloFrom env.cells names acc)
 | [],acc,_=>by rw [List.forIn_nil];rfl
 | (n,k)::r,acc,h=>by
  rw [List.forIn_cons,hf]
  have ih:=fun acc=>closure_loop env f hf r acc fun y hy=>h y (List.mem_cons_of_mem _ hy)
  unfold cloFrom
  by_cases hk:(k==NameKind.free)=true
  ·rw [if_pos hk,if_pos hk]
   obtain ⟨c,hc⟩:=h (n,k) List.mem_cons_self (by simpa using hk)
   have e:cellOf env n=pure c:=by unfold cellOf;rw [hc]
   rw [e]
   have e2:(env.cells.lookup n).getD 0=c:=by rw [hc];rfl
   rw [e2]
   exact ih _
  ·rw [if_neg hk,if_neg hk]
   exact ih _
theorem closure_ok {scope:Scope}{env:Env} (h:∀ y∈scope.names,y.2=.free→∃ c,env.cells.lookup y.1=some c):closureFor scope env=pure (cloFrom env.cells scope.names []):=by
 simp only [closureFor]
 rw [closure_loop env _ (fun n k c=>rfl) scope.names [] h]
 rfl
theorem mem_lookup {α:Type}:∀ {l:List (Str×α)}{n:Str}{c:α},(n,c)∈l→∃ c',l.lookup n=some c'
 | (k,v)::r,n,c,h=>by
  rw [List.lookup_cons]
  cases hb:n==k with
  | true=>exact ⟨_,rfl⟩
  | false =>
   rcases List.mem_cons.mp h with e | h
   ·cases e;simp at hb
   ·exact mem_lookup h
theorem cloFrom_mem {cells:List (Str×Addr)}:∀ {names:List (Str×NameKind)}{acc:List (Str×Addr)}{n:Str}{c:Addr},(n,c)∈cloFrom cells names acc→(n,c)∈acc∨((n,.free)∈names∧c=(cells.lookup n).getD 0)
 | [],_,_,_,h=>.inl h
 | (m,k)::r,acc,n,c,h=>by
  unfold cloFrom at h
  split at h
  ·rename_i hk
   have hk:k=.free:=by simpa using hk
   rcases cloFrom_mem h with h | ⟨h1,h2⟩
   ·rcases List.mem_cons.mp h with e | h
    ·cases e;exact .inr ⟨hk ▸ List.mem_cons_self,rfl⟩
    ·exact .inl h
   ·exact .inr ⟨List.mem_cons_of_mem _ h1,h2⟩
  ·rcases cloFrom_mem h with h | ⟨h1,h2⟩
   ·exact .inl h
   ·exact .inr ⟨List.mem_cons_of_mem _ h1,h2⟩
theorem cloFrom_acc {cells:List (Str×Addr)}:∀ {names:List (Str×NameKind)}{acc:List (Str×Addr)}{p:Str×Addr},p∈acc→p∈cloFrom cells names acc
 | [],_,_,h=>h
 | (m,k)::r,acc,p,h=>by
  unfold cloFrom
  split
  ·exact cloFrom_acc (List.mem_cons_of_mem _ h)
  ·exact cloFrom_acc h
theorem cloFrom_has {cells:List (Str×Addr)}:∀ {names:List (Str×NameKind)}{acc:List (Str×Addr)}{n:Str},(n,.free)∈names→(n,(cells.lookup n).getD 0)∈cloFrom cells names acc
 | (m,k)::r,acc,n,h=>by
  unfold cloFrom
  rcases List.mem_cons.mp h with e | h
  ·cases e
   exact cloFrom_acc List.mem_cons_self
  ·split
   ·exact cloFrom_has h
   ·exact cloFrom_has h
theorem cells_mem:∀ {names:List (Str×NameKind)}{h:Heap}{acc:List (Str×Addr)}{x:Str}{c:Addr},(x,c)∈cellsFrom h.objs.size names acc →
  (x,c)∈acc∨((x,.cell)∈names∧h.objs.size≤c∧CellAt (pushCells h names) c none)
 | [],_,_,_,_,h=>.inl h
 | (n,k)::r,h,acc,x,c,hm=>by
  unfold cellsFrom at hm
  unfold pushCells
  split at hm
  ·rename_i hk
   rw [if_pos hk]
   have hk:k=.cell:=by simpa using hk
   rw [← Heap.size_push h { cls:=.type "cell",data:=.cell none }] at hm
   rcases cells_mem hm with hm | ⟨h1,h2,h3⟩
   ·rcases List.mem_cons.mp hm with e | hm
    ·cases e
     exact .inr ⟨hk ▸ List.mem_cons_self,Nat.le_refl _,_,pushCells_keeps r _ _ _ (Heap.get?_push_size _ rfl),rfl⟩
    ·exact .inl hm
   ·rw [Heap.size_push] at h2
    exact .inr ⟨List.mem_cons_of_mem _ h1,Nat.le_of_succ_le h2,h3⟩
  ·rename_i hk
   rw [if_neg hk]
   rcases cells_mem hm with hm | ⟨h1,h2,h3⟩
   ·exact .inl hm
   ·exact .inr ⟨List.mem_cons_of_mem _ h1,h2,h3⟩
theorem cells_acc:∀ {names:List (Str×NameKind)}{n:Nat}{acc:List (Str×Addr)}{p:Str×Addr},p∈acc→p∈cellsFrom n names acc
 | [],_,_,_,h=>h
 | (m,k)::r,n,acc,p,h=>by
  unfold cellsFrom
  split
  ·exact cells_acc (List.mem_cons_of_mem _ h)
  ·exact cells_acc h
theorem cells_has:∀ {names:List (Str×NameKind)}{n:Nat}{acc:List (Str×Addr)}{x:Str},(x,.cell)∈names→∃ c,(x,c)∈cellsFrom n names acc
 | (m,k)::r,n,acc,x,h=>by
  unfold cellsFrom
  rcases List.mem_cons.mp h with e | h
  ·cases e
   exact ⟨n,cells_acc List.mem_cons_self⟩
  ·split
   ·exact cells_has h
   ·exact cells_has h
theorem cells_inj:∀ {names:List (Str×NameKind)}{h:Heap}{acc:List (Str×Addr)}{x y:Str}{c:Addr},(∀ p∈acc,p.2<h.objs.size)→(∀ x y c,(x,c)∈acc→(y,c)∈acc→x=y) →
  (x,c)∈cellsFrom h.objs.size names acc→(y,c)∈cellsFrom h.objs.size names acc→x=y
 | [],_,_,_,_,_,_,hi,h1,h2=>hi _ _ _ h1 h2
 | (n,k)::r,h,acc,x,y,c,hl,hi,h1,h2=>by
  unfold cellsFrom at h1 h2
  split at h1
  ·rename_i hk
   rw [if_pos hk] at h2
   rw [← Heap.size_push h { cls:=.type "cell",data:=.cell none }] at h1 h2
   refine cells_inj (h:=h.push _) (fun p hp=>?_) (fun x y c a b=>?_) h1 h2
   ·rw [Heap.size_push]
    rcases List.mem_cons.mp hp with rfl | hp
    ·exact Nat.lt_succ_self _
    ·exact Nat.lt_succ_of_lt (hl p hp)
   ·rcases List.mem_cons.mp a with e | a <;> rcases List.mem_cons.mp b with e' | b
    ·cases e;cases e';rfl
    ·cases e;exact absurd (hl _ b) (Nat.lt_irrefl _)
    ·cases e';exact absurd (hl _ a) (Nat.lt_irrefl _)
    ·exact hi _ _ _ a b
  ·rename_i hk
   rw [if_neg hk] at h2
   exact cells_inj hl hi h1 h2
theorem newEnv_comp {M:Model}{A:Around}{E:Value→Shared→Prop}{s:Shared}{scope:Scope}{globals:Addr}{closure:List (Str×Addr)}{qual:Str}{func:Option Addr}{code:Value}{around:Env}{builtins:Addr}{Q:Env→Shared→Prop}
  (h:Q (newEnv scope s.heap.objs.size globals (cellsFrom (s.heap.objs.size+1) scope.names closure) qual func code (some around) builtins)
   { s with heap:=pushCells (s.heap.push { cls:=.type "dict",data:=.dict #[] }) scope.names }) :
  wpAny M A (newFunctionEnv scope globals closure [] qual func code (some around) builtins) Q E s:=by
 simp only [newFunctionEnv,Option.isSome_some,if_true]
 refine wpAny_bind (wpAny_alloc ?_)
 refine wpAny_bind (wpAny_layCells _ (fun n k c=>rfl) scope.names closure _ _ ?_)
 rw [show ({ s with heap:=s.heap.push { cls:=.type "dict",data:=.dict #[] } }:Shared).heap.objs.size=s.heap.objs.size+1 from Heap.size_push ..]
 rw [List.forIn_nil]
 exact wpAny_bind (wpAny_pure (wpAny_pure h))
theorem lookup_relS {sc:Scope}:∀ {names:List (Str×NameKind)}{x:Str}{k:NameKind},
  (names.map fun (n,k)=>if (k==NameKind.free && sc.kind==.function && sc.names.lookup n==some .cell) then (n,NameKind.cell) else (n,k)).lookup x=some k →
  ∃ k',names.lookup x=some k'∧(k=k'∨(k'=.free∧k=.cell))
 | [],_,_,h=>by simp at h
 | (n,k₀)::r,x,k,h=>by
  have ih:=@lookup_relS sc r x k
  have h':List.lookup x ((if (k₀==NameKind.free && sc.kind==.function && sc.names.lookup n==some .cell)=true then (n,NameKind.cell) else (n,k₀))::(r.map _))=some k:=h
  cases hx:x==n with
  | true =>
   simp only [List.lookup_cons,hx]
   by_cases hc:(k₀==NameKind.free && sc.kind==.function && sc.names.lookup n==some .cell)=true
   ·rw [if_pos hc] at h'
    simp only [List.lookup_cons,hx] at h'
    cases h'
    simp only [Bool.and_eq_true,beq_iff_eq] at hc
    exact ⟨k₀,rfl,.inr ⟨hc.1.1,rfl⟩⟩
   ·rw [if_neg hc] at h'
    simp only [List.lookup_cons,hx] at h'
    cases h'
    exact ⟨_,rfl,.inl rfl⟩
  | false =>
   simp only [List.lookup_cons,hx]
   by_cases hc:(k₀==NameKind.free && sc.kind==.function && sc.names.lookup n==some .cell)=true
   ·rw [if_pos hc] at h'
    simp only [List.lookup_cons,hx] at h'
    exact ih h'
   ·rw [if_neg hc] at h'
    simp only [List.lookup_cons,hx] at h'
    exact ih h'
structure BlkOk (N:List Str) (sc scope:Scope) (own:List (Str×Nat)):Prop where
 kind:scope.kind=.function
 uniq:∀ y∈scope.names,scope.names.lookup y.1=some y.2
 ix:∀ p∈own,N[p.2]?=some p.1
 free:∀ y∈scope.names,y.2=.free→sc.names.lookup y.1=some .cell∨sc.names.lookup y.1=some .free
 own:∀ y∈scope.names,y.2=.local∨y.2=.cell→y.1∈own.map (·.1)∨y.1 ∉ N
def wipe (σ:St):List Nat→St
 | []=>σ
 | v::vs=>(wipe σ vs).set v none
theorem wipe_length (σ:St):∀ vs:List Nat,(wipe σ vs).length=σ.length
 | []=>rfl
 | v::vs=>by unfold wipe;rw [List.length_set,wipe_length σ vs]
theorem wipe_some {σ:St}{i:Nat}{x:V}:∀ {vs:List Nat},(wipe σ vs)[i]?=some (some x)→σ[i]?=some (some x)∧i ∉ vs
 | [],h=>⟨h,by simp⟩
 | v::vs,h=>by
  unfold wipe at h
  by_cases hi:v=i
  ·subst hi
   by_cases hv:v<(wipe σ vs).length
   ·rw [List.getElem?_set_self hv] at h;cases h
   ·rw [List.getElem?_eq_none (by simpa using hv)] at h;cases h
  ·rw [List.getElem?_set_ne hi] at h
   obtain ⟨h1,h2⟩:=wipe_some h
   exact ⟨h1,by simp only [List.mem_cons,not_or];exact ⟨fun e=>hi e.symm,h2⟩⟩
abbrev Cx.blk (X:Cx) (s:Shared) (H:Hp) (scope:Scope) (cenv:Env) (fp:List Addr):Cx:={ X with s_0:=s,H_0:=H,env:=cenv,outer:=X.stack,ex:=fp,fn:=fun x=>scope.names.lookup x==some .cell,pn:=[],xe:=fun _ _=>False }
section
variable {X:Cx}{pins:List (Addr×Obj)}{σ:St}{H:Hp}{s:Shared}
theorem block_start {scope:Scope}{own:List (Str×Nat)}{fp:List Addr} (I:Inv X pins σ H s) (ok:BlkOk X.N X.env.scope scope own) (hN:X.N.Nodup) (hfp:∀ b∈fp,FpOk X pins H b∧b<s.heap.objs.size) :
  Inv (X.blk s H scope (compEnvC scope (cellsFrom (s.heap.objs.size+1) scope.names (cloFrom X.env.cells scope.names [])) s.heap.objs.size X.env) fp) [] (wipe σ (own.map (·.2))) H { s with heap:=pushCells (s.heap.push { cls:=.type "dict",data:=.dict #[] }) scope.names }:=by
 have hfree:∀ y∈scope.names,y.2=.free→∃ c,X.env.cells.lookup y.1=some c:=fun y hy e=>by
  rcases ok.free y hy e with k | k
  ·exact I.ok.has _ (.inl k)
  ·exact I.ok.has _ (.inr k)
 generalize hcenv:compEnvC scope (cellsFrom (s.heap.objs.size+1) scope.names (cloFrom X.env.cells scope.names [])) s.heap.objs.size X.env=cenv
 have kp:∀ b o,s.heap.get? b=some o→(pushCells (s.heap.push { cls:=.type "dict",data:=.dict #[] }) scope.names).get? b=some o:=fun b o e=>pushCells_keeps _ _ _ _ (Heap.get?_push_of_some _ e)
 have hL:cenv.locals=s.heap.objs.size:=by rw [← hcenv];rfl
 have hcl:cenv.cells=cellsFrom (s.heap.objs.size+1) scope.names (cloFrom X.env.cells scope.names []):=by rw [← hcenv];rfl
 have hsc:cenv.scope=relS scope X.env.scope:=by rw [← hcenv];rfl
 rw [← Heap.size_push s.heap { cls:=.type "dict",data:=.dict #[] }] at hcl
 have cm:∀ {y c},(y,c)∈cloFrom X.env.cells scope.names []→X.env.cells.lookup y=some c∧c<s.heap.objs.size:=fun {y c} hm=>by
  rcases cloFrom_mem hm with hm | ⟨h1,rfl⟩
  ·cases hm
  ·obtain ⟨c,hc⟩:=hfree _ h1 rfl
   rw [hc]
   obtain ⟨w,z⟩:=I.cell _ _ hc
   exact ⟨rfl,z.lt⟩
 have mem:∀ {y c},cenv.cells.lookup y=some c→(X.env.cells.lookup y=some c∧c<s.heap.objs.size)∨(s.heap.objs.size+1≤c∧CellAt (pushCells (s.heap.push { cls:=.type "dict",data:=.dict #[] }) scope.names) c none):=fun {y c} e=>by
  rw [hcl] at e
  rcases cells_mem (PySem.mem_of_lookup e) with hm | ⟨_,h2,h3⟩
  ·exact .inl (cm hm)
  ·rw [Heap.size_push] at h2;exact .inr ⟨h2,h3⟩
 have look:∀ {y},scope.names.lookup y=some .free→∃ c,cenv.cells.lookup y=some c∧X.env.cells.lookup y=some c:=fun {y} hl=>by
  have hy:(y,NameKind.free)∈scope.names:=PySem.mem_of_lookup hl
  obtain ⟨c',e'⟩:=mem_lookup (cells_acc (names:=scope.names) (n:=(s.heap.push { cls:=.type "dict",data:=.dict #[] }).objs.size) (cloFrom_has (cells:=X.env.cells) (acc:=[]) hy))
  rw [← hcl] at e'
  refine ⟨c',e',?_⟩
  rw [hcl] at e'
  rcases cells_mem (PySem.mem_of_lookup e') with hm | ⟨h1,_,_⟩
  ·exact (cm hm).1
  ·have:=ok.uniq _ h1
   rw [hl] at this;cases this
 have okB:(X.blk s H scope cenv fp).Ok:=by
  refine ⟨I.ok.mod,by show cenv.scope.kind=_;rw [hsc];exact ok.kind,by show cenv.globals=_;rw [← hcenv];exact I.ok.glob,by show cenv.builtins=_;rw [← hcenv];exact I.ok.blt,by show s.heap.objs.size≤cenv.locals;rw [hL];exact Nat.le_refl _,
   fun y z c e1 e2=>?_,fun y hy=>?_,fun y c z e=>?_,I.ok.hd,I.ok.frames,.inl rfl,fun b hb=>⟨?_,fun y c e z=>?_⟩,I.bs,Nat.le_trans I.ok.bsz I.sz,fun b o e hb=>?_,fun b hb z=>?_,I.stack,I.stkFree⟩
  ·have e1:cenv.cells.lookup y=some c:=e1
   have e2:cenv.cells.lookup z=some c:=e2
   rw [hcl] at e1 e2
   refine cells_inj (fun p hp=>?_) (fun y z c a b=>I.ok.inj y z c (cm a).1 (cm b).1) (PySem.mem_of_lookup e1) (PySem.mem_of_lookup e2)
   rw [Heap.size_push]
   exact Nat.lt_succ_of_lt (cm (y:=p.1) (c:=p.2) hp).2
  ·show ∃ c,cenv.cells.lookup y=some c
   have key:∀ k,cenv.kindOf y=some k→(k=.cell∨k=.free)→∃ c,cenv.cells.lookup y=some c:=fun k hk hk'=>by
    unfold Env.kindOf at hk
    rw [hsc] at hk
    obtain ⟨k',e,r⟩:=lookup_relS hk
    have:k'=.cell∨k'=.free:=by
     rcases r with rfl | ⟨rfl,_⟩
     ·exact hk'
     ·exact .inr rfl
    rcases this with rfl | rfl
    ·obtain ⟨c,hm⟩:=cells_has (n:=(s.heap.push { cls:=.type "dict",data:=.dict #[] }).objs.size) (acc:=cloFrom X.env.cells scope.names []) (PySem.mem_of_lookup e)
     obtain ⟨c',e'⟩:=mem_lookup hm
     exact ⟨c',by rw [hcl];exact e'⟩
    ·obtain ⟨c,h1,_⟩:=look e
     exact ⟨c,h1⟩
   rcases hy with hy | hy
   ·exact key _ hy (.inl rfl)
   ·exact key _ hy (.inr rfl)
  ·have z:(scope.names.lookup y==some NameKind.cell)=true:=z
   have z:scope.names.lookup y=some .cell:=by simpa using z
   have e:cenv.cells.lookup y=some c:=e
   rw [hcl] at e
   rcases cells_mem (PySem.mem_of_lookup e) with hm | ⟨_,h2,_⟩
   ·rcases cloFrom_mem hm with hm | ⟨h1,_⟩
    ·cases hm
    ·have q:=ok.uniq _ h1
     rw [z] at q;cases q
   ·rw [Heap.size_push] at h2
    exact Nat.le_of_succ_le h2
  ·show b≠cenv.locals
   rw [hL];exact Nat.ne_of_lt (hfp b hb).2
  ·have e:cenv.cells.lookup y=some c:=e
   rcases mem e with ⟨h1,_⟩ | ⟨h1,_⟩
   ·exact (hfp b hb).1.2.2.2.2.1 y c h1 z
   ·have h2:s.heap.objs.size+1≤b:=by rw [← z];exact h1
    exact absurd (Nat.lt_of_lt_of_le (hfp b hb).2 (Nat.le_of_succ_le h2)) (Nat.lt_irrefl _)
  ·rcases (hfp b hb).1.2.2.2.1 with z | z
   ·exact I.ok.noex b o e z
   ·exact absurd (Nat.lt_of_lt_of_le (Heap.lt_size e) (Nat.le_trans I.ok.bsz z)) (Nat.lt_irrefl _)
  ·rcases List.mem_cons.mp (I.stkSub b z) with z | z
   ·exact (hfp b hb).1.2.1 z
   ·exact (hfp b hb).1.2.2.1 z
 refine ⟨okB,rfl,I.bare,Un.kept kp,⟨fun _=>none,?_,fun i y av e1 e2 e3=>?_⟩,fun y c e=>?_,?_,fun y c e=>?_,fun p hp=>?_,I.hok.kept kp,by rw [wipe_length];exact I.len⟩
 ·show Heap.Ns _ cenv.locals _
  rw [hL]
  exact Heap.Ns.keeps (Heap.Ns.new ..) fun b o e=>pushCells_keeps _ _ _ _ e
 ·obtain ⟨e2,hne⟩:=wipe_some e2
  have hfr:scope.names.lookup y=some .free∧(cenv.kindOf y=some .cell∨cenv.kindOf y=some .free):=by
   have key:∀ k,cenv.scope.names.lookup y=some k→k=.local∨k=.cell∨k=.free→scope.names.lookup y=some .free∧(cenv.kindOf y=some .cell∨cenv.kindOf y=some .free):=fun k hk hk'=>by
    have hk0:=hk
    rw [hsc] at hk
    obtain ⟨k',e,r⟩:=lookup_relS hk
    have no:¬ (k'=.local∨k'=.cell):=fun hh=>by
     rcases ok.own _ (PySem.mem_of_lookup e) hh with e' | e'
     ·obtain ⟨p,hp,hpy⟩:=List.mem_map.mp e'
      have e3:=ok.ix p hp
      have:p.1=y:=hpy
      rw [this] at e3
      exact hne (List.mem_map.mpr ⟨p,hp,nodup_ix hN e3 e1⟩)
     ·exact e' (List.mem_of_getElem? e1)
    rcases r with rfl | ⟨rfl,rfl⟩
    ·rcases hk' with rfl | rfl | rfl
     ·exact absurd (.inl rfl) no
     ·exact absurd (.inr rfl) no
     ·exact ⟨e,.inr hk0⟩
    ·exact ⟨e,.inl hk0⟩
   have e3:Vis cenv.scope y:=e3
   rcases e3 with e3 | e3 | e3
   ·exact key _ e3 (.inl rfl)
   ·exact key _ e3 (.inr (.inl rfl))
   ·exact key _ e3 (.inr (.inr rfl))
  obtain ⟨m,hn,hl⟩:=I.loc
  have hvis:Vis X.env.scope y:=(ok.free _ (PySem.mem_of_lookup hfr.1) rfl).elim (fun k=>.inr (.inl k)) (fun k=>.inr (.inr k))
  obtain ⟨w,r,q⟩:=hl i y av e1 e2 hvis
  refine ⟨w,r,.inr ⟨hfr.2,?_⟩⟩
  obtain ⟨c,h1,h2⟩:=look hfr.1
  rcases q with ⟨k,_⟩ | ⟨_,c',e',z⟩
  ·have k:X.env.scope.names.lookup y=some .local:=k
   rcases ok.free _ (PySem.mem_of_lookup hfr.1) rfl with k' | k' <;> rw [show X.env.scope.names.lookup y=_ from k'] at k <;> cases k
  ·rw [h2] at e';cases e'
   exact ⟨c,h1,z.keeps kp⟩
 ·have e:cenv.cells.lookup y=some c:=e
  rcases mem e with ⟨h1,_⟩ | ⟨_,z⟩
  ·obtain ⟨w,z⟩:=I.cell y c h1
   exact ⟨w,z.keeps kp⟩
  ·exact ⟨_,z⟩
 ·show H cenv.locals=none
  rw [hL];exact I.hok.fresh (Nat.le_refl _)
 ·have e:cenv.cells.lookup y=some c:=e
  rcases mem e with ⟨h1,_⟩ | ⟨h1,_⟩
  ·exact I.freeC y c h1
  ·exact I.hok.fresh (Nat.le_of_succ_le h1)
 ·exact absurd (show p∈([]:List (Addr×Obj))++[] from hp) (by simp)
theorem app_ok {E:Value→Shared→Prop}{D:Addr}{xs:List V}{y:V}{v:Value}{Q:Value→Shared→Prop} (I:Inv X pins σ H s) (hD:H D=some (.lst xs)) (hz:xs.length<sizeLine) (r:RelV y v)
  (h:∀ s',Inv X pins σ (upd H D (.lst (xs++[y]))) s'→Q .none s'):wpAny (model X.prog X.w) X.A (call (.builtin "list.append") [.ref D,v]) Q E s:=by
 obtain ⟨hz',its,n,ri,e⟩:=I.hok D _ hD
 have hl:=ri.length
 refine append_at (hsz:=by rw [List.size_toArray];omega) e fun h' sb ho'=>?_
 refine h { s with heap:=h' } (I.write (t':=s.toks) (by rw [hD];trivial) (.inl rfl) (fun b u hb q=>(sb.2 b hb).trans q) ⟨_,ho'⟩ ⟨by rw [List.length_append];exact hz,its++[v],n+1,ri.append (.cons r .nil),?_⟩)
 rw [ho']
 simp
def PTs (X:Cx) (ifs:List Expr) (t:TT):Prop :=
 ∀ (pins:List (Addr×Obj)) (s:Shared) (σ:St) (H:Hp) (Q:Bool→Hp→Prop),Inv X pins σ H s→t σ H Q →
  wpAny (model X.prog X.w) X.A (forIn ifs true fun c r=>if r=true then do let ok ← isTrue c X.env (eval c X.env);pure (ForInStep.yield ok) else pure (ForInStep.yield r)) (TP X pins σ Q) X.xe s
def tYes:TT:=fun _ H Q=>Q true H
theorem pts_nil:PTs X [] tYes:=fun _ _ _ H _ I h=>wpAny_tests_nil ⟨H,I,h⟩
end
theorem thnF {α:Type}{t:Sem α}{Q Q':α→Shared→Prop}{M:Model}{A:Around}{E:Value→Shared→Prop}{s:Shared} (h:wpAny M A t Q (fun _ _=>False) s) (hQ:∀ a s,Q a s→Q' a s):wpAny M A t Q' E s:=wpAny_mono h hQ fun _ _ z=>False.elim z
theorem compLoop_any {prog:Program}{w:World}{A:Around}{R:Result→Shared→Prop}{s:Shared}{elt target iter:Expr}{ifs:List Expr}{scope:Scope}{pos:Pos}{it acc:Value}{env:Env} (I:Nat→Shared→Prop)
  (turn:∀ n s,I n s→wpAny (model prog w) A (pyNext it) (fun r s₁=>match r with
   | none=>R (.ok .next) s₁
   | some v=>wpAny (model prog w) A (letOwnedTupleGo target it v) (fun _ s₁'=>wpAny (model prog w) A (assign target env v) (fun _ s₂ =>
     wpAny (model prog w) A (forIn ifs true fun c r=>if r=true then do let ok ← isTrue c env (eval c env);pure (ForInStep.yield ok) else pure (ForInStep.yield r)) (fun ok s₃ =>
      if ok=true then wpAny (model prog w) A (eval elt env) (fun x s₄ =>
       wpAny (model prog w) A (call (.builtin "list.append") [acc,x]) (fun _ s₅=>∃ m,m<n∧I m s₅) (notedBy (model prog w) A env fun e s'=>R (.error e) s') s₄) (notedBy (model prog w) A env fun e s'=>R (.error e) s') s₃
      else ∃ m,m<n∧I m s₃) (notedBy (model prog w) A env fun e s'=>R (.error e) s') s₂) (notedBy (model prog w) A env fun e s'=>R (.error e) s') s₁') (notedBy (model prog w) A env fun e s'=>R (.error e) s') s₁) (notedBy (model prog w) A env fun e s'=>R (.error e) s') s)
  (n:Nat) (h:I n s) :
  codeAny (model prog w) A (.compLoop (.ListComp elt [⟨target,iter,ifs,0⟩] scope pos) 0 it acc env) R s:=by
 refine codeAny_loop rfl I (fun n s hI=>?_) n h
 show wpAny _ A ((compTurn (.ListComp elt [⟨target,iter,ifs,0⟩] scope pos) 0 it acc env).onRaise (fun x=>do noteFrame x env;theTreesLotGoes x)) _ _ s
 refine wpAny_noted ?_
 rw [compTurn_list]
 refine wpAny_bind (wpAny_standAt (wpAny_bind (wpAny_mono (turn n s hI) (fun r s₁ h₁=>?_) fun _ _ h'=>h')))
 cases r with
 | none=>exact wpAny_pure h₁
 | some v =>
  refine wpAny_bind (wpAny_mono h₁ (fun _ s₁' h₁'=>?_) fun _ _ h'=>h')
  refine wpAny_bind (wpAny_mono h₁' (fun _ s₂ h₂=>wpAny_bind (wpAny_mono h₂ (fun ok s₃ h₃=>?_) fun _ _ h'=>h')) fun _ _ h'=>h')
  cases ok with
  | false=>exact wpAny_pure ⟨rfl,h₃⟩
  | true =>
   exact wpAny_bind (wpAny_bind (wpAny_mono h₃ (fun x s₄ h₄=>wpAny_bind (wpAny_mono h₄ (fun _ s₅ h₅=>wpAny_pure (wpAny_pure ⟨rfl,h₅⟩)) fun _ _ h'=>h')) fun _ _ h'=>h'))
section
variable {X:Cx}
def tLc (wi:TI) (g:TG) (tt:TT) (te:TE) (vs:List Nat):TE:=fun σ H Q=>wi σ H fun J H1=>∀ D,H1 D=none→∃ W:Nat→Nat→Hp→Prop,(∃ m,W 0 m (upd H1 D (.lst [])))∧∀ i m H,W i m H →
 (J.stop i H∧Q (.ref D) H)∨(J.go i H∧∃ Nx:Hp→Prop,(∀ H',Nx H'→∃ m',m' < m∧W (i+1) m' H')∧∀ x H',J.yld i H x H'→g x (wipe σ vs) H' fun σ2 H2=>wipe σ2 vs=wipe σ vs∧tt σ2 H2 fun b H3 =>
  if b=true then te σ2 H3 fun y H4=>∃ acc,H4 D=some (.lst acc)∧acc.length<sizeLine∧Nx (upd H4 D (.lst (acc++[y]))) else Nx H3)
theorem lc_core {pins:List (Addr×Obj)}{s:Shared}{σ:St}{H:Hp}{Q:VK}{elt tg iter:Expr}{ifs:List Expr}{scope:Scope}{own:List (Str×Nat)}{pos pos':Pos}{wi:TI}{g:TG}{tt:TT}{te:TE}{use:Option (Value→Sem Unit)}{Qf:Value→Shared→Prop}
  (hc:X.calm=true) (hN:X.N.Nodup) (I:Inv X pins σ H s) (hi:PI X tg iter wi) (ok:BlkOk X.N X.env.scope scope own)
  (hg:∀ (s:Shared) (H:Hp) (C:Addr) (cl:List (Str×Addr)) (fp:List Addr),PG (X.blk s H scope (compEnvC scope cl C X.env) fp) tg g) (ht:∀ (s:Shared) (H:Hp) (C:Addr) (cl:List (Str×Addr)) (fp:List Addr),PTs (X.blk s H scope (compEnvC scope cl C X.env) fp) ifs tt)
  (he:∀ (s:Shared) (H:Hp) (C:Addr) (cl:List (Str×Addr)) (fp:List Addr),PE (X.blk s H scope (compEnvC scope cl C X.env) fp) elt te) (hs:∀ x,foldedSetIterable iter X.env x=pure x)
  (h:tLc wi g tt te (own.map (·.2)) σ H Q)
  (hRR:∀ D C s' m H',Inv X pins σ H' s'→Q (.ref D) H'→s'.heap.Ns C m→FpOk X pins H' C→compPost (model X.prog X.w) X.A X.xe use Qf (.ref D) C (.ok .next) s') :
  wpAny (model X.prog X.w) X.A (comprehension (.ListComp elt [⟨tg,iter,ifs,0⟩] scope pos) scope X.env pos' (newList []) false (eval iter X.env) use) Qf X.xe s:=by
 have hfree:∀ y∈scope.names,y.2=.free→∃ c,X.env.cells.lookup y.1=some c:=fun y hy e=>by
  rcases ok.free y hy e with k | k
  ·exact I.ok.has _ (.inl k)
  ·exact I.ok.has _ (.inr k)
 refine wpAny_comprehension_free (use:=use) rfl hs (closure_ok hfree) ok.kind (fun y hy e=>by rw [ok.uniq y hy,e])
  (thn (hi pins s σ H _ I h) fun xv s1 hx=>thn hx fun itv s2 h2=>?_)
 obtain ⟨it,fp,tn,J,H2,e,I2,T,st2,f2,q⟩:=h2
 subst e
 refine wpAny_newObj_type (newEnv_comp ?_) (by show 0≤sizeLine;decide)
 generalize hD:s2.heap.objs.size=D
 have hDn:H2 D=none:=I2.hok.fresh (Nat.le_of_eq hD)
 obtain ⟨W,⟨m0,w0⟩,turn⟩:=q D hDn
 -- the new list
 generalize hs3:({ s2 with heap:=s2.heap.push { cls:=.type "list",data:=.seq ([]:List Value).toArray } }:Shared)=s3
 have I3:Inv X pins σ (upd H2 D (.lst [])) s3:=by
  rw [← hs3]
  refine I2.laid (t':=s2.toks) (fun b o e=>Heap.get?_push_of_some _ e) (Nat.le_of_eq hD) ⟨Nat.zero_le _,[],0,.nil,?_⟩
  rw [← hD]
  exact Heap.get?_push_size _ rfl
 have h3:s3.heap=s2.heap.push { cls:=.type "list",data:=.seq ([]:List Value).toArray }:=by rw [← hs3]
 have sz:∀ b∈fp,b<s2.heap.objs.size:=fun b hb=>by
  obtain ⟨o,e,_⟩:=T.obj _ _ st2 b hb
  exact Heap.lt_size e
 have f3:∀ b∈fp,FpOk X pins (upd H2 D (.lst [])) b∧b<s3.heap.objs.size:=fun b hb=>by
  have hlt:=sz b hb
  refine ⟨⟨?_,(f2 b hb).2⟩,by rw [h3,Heap.size_push];exact Nat.lt_succ_of_lt hlt⟩
  rw [upd_ne (by rw [← hD];exact Nat.ne_of_lt hlt)]
  exact (f2 b hb).1
 have st3:tn 0 s3.heap:=T.keep _ _ _ st2 fun b _ o e=>by rw [h3];exact Heap.get?_push_of_some _ e
 have I4:=block_start I3 ok hN f3
 have pg:=hg s3 (upd H2 D (.lst [])) s3.heap.objs.size (cellsFrom (s3.heap.objs.size+1) scope.names (cloFrom X.env.cells scope.names [])) fp
 have pt:=ht s3 (upd H2 D (.lst [])) s3.heap.objs.size (cellsFrom (s3.heap.objs.size+1) scope.names (cloFrom X.env.cells scope.names [])) fp
 have pe:=he s3 (upd H2 D (.lst [])) s3.heap.objs.size (cellsFrom (s3.heap.objs.size+1) scope.names (cloFrom X.env.cells scope.names [])) fp
 show codeAny _ _ (.compStart (.ListComp elt [⟨tg,iter,ifs,0⟩] scope pos) 0 (.ref it) (.ref D) (compEnvC scope (cellsFrom (s3.heap.objs.size+1) scope.names (cloFrom X.env.cells scope.names [])) s3.heap.objs.size X.env)) (compPost (model X.prog X.w) X.A X.xe use Qf (.ref D) s3.heap.objs.size) { s3 with heap:=pushCells (s3.heap.push { cls:=.type "dict",data:=.dict #[] }) scope.names }
 have nfp:∀ b∈fp,(upd H2 D (.lst [])) b=none:=fun b hb=>(f3 b hb).1.1
 generalize hce:compEnvC scope (cellsFrom (s3.heap.objs.size+1) scope.names (cloFrom X.env.cells scope.names [])) s3.heap.objs.size X.env=ce at I4 pg pt pe ⊢
 have cL:ce.locals=s3.heap.objs.size:=by subst hce;rfl
 generalize hH3:upd H2 D (.lst [])=H3 at I3 I4 pg pt pe w0 nfp f3
 generalize hs4:({ s3 with heap:=pushCells (s3.heap.push { cls:=.type "dict",data:=.dict #[] }) scope.names }:Shared)=s4 at I4 ⊢
 have st4:tn 0 s4.heap:=T.keep _ _ _ st3 fun b _ o e=>by rw [← hs4];exact pushCells_keeps _ _ _ _ (Heap.get?_push_of_some _ e)
 have stat:∀ {σ':St}{H':Hp}{s':Shared},Inv (X.blk s3 H3 scope ce fp) [] σ' H' s'→(∀ b∈fp,H' b=none)→∀ b∈fp,FpOk (X.blk s3 H3 scope ce fp) [] H' b:=fun {σ' H' s'} I' hn b hb =>
  ⟨hn b hb,(I'.ok.exf b hb).1,I'.ok.exfs b hb,.inl hb,fun x c e=>(I'.ok.exf b hb).2 x c e,fun p hp=>absurd (show p∈([]:List (Addr×Obj))++[] from hp) (by simp)⟩
 have loop:codeAny (model X.prog X.w) X.A (.compLoop (.ListComp elt [⟨tg,iter,ifs,0⟩] scope pos) 0 (.ref it) (.ref D) ce) (compPost (model X.prog X.w) X.A X.xe use Qf (.ref D) s3.heap.objs.size) s4:=by
  refine compLoop_any (fun n s'=>∃ i H',Inv (X.blk s3 H3 scope ce fp) [] (wipe σ (own.map (·.2))) H' s'∧tn i s'.heap∧(∀ b∈fp,H' b=none)∧W i n H') ?_ m0 ⟨0,H3,I4,st4,nfp,w0⟩
  rintro n s5 ⟨i,H5,I5,st5,n5,w5⟩
  rcases turn i n H5 w5 with ⟨stop,qq⟩ | ⟨go,Nx,hNx,step⟩
  ·have td:=T.done (X.blk s3 H3 scope ce fp) rfl rfl rfl hc i [] s5 _ H5 (fun _ _=>False) I5 (stat I5 n5) st5 stop
   refine thnF td fun r s6 ⟨hr,I6⟩=>?_
   subst hr
   -- back in the def's context
   have I7:Inv X pins σ H5 s6:=I3.call' (ch:=fp) I6.os I6.base I6.hok I6.bare fun b hb=>⟨(f3 b hb).1.2.2.2.1,(f3 b hb).1.2.1,(f3 b hb).1.2.2.2.2.1,(f3 b hb).1.2.2.2.2.2⟩
   have nC:H5 s3.heap.objs.size=none:=by
    have z:H5 ce.locals=none:=I6.free
    rw [cL] at z
    exact z
   obtain ⟨m,hn,_⟩:=I6.loc
   have hn:s6.heap.Ns ce.locals m:=hn
   rw [cL] at hn
   exact hRR D s3.heap.objs.size s6 m H5 I7 qq hn (I3.fpOk (Nat.le_refl _) nC)
  ·have ti:=T.item (X.blk s3 H3 scope ce fp) rfl rfl rfl hc i [] s5 _ H5 (fun _ _=>False) I5 (stat I5 n5) st5 go
   refine thnF ti fun r s6 ⟨u,hr,h6⟩=>?_
   subst hr
   refine thnF h6 fun _ s7 ⟨x,H7,I7,r7,y7,st7,n7⟩=>?_
   have I7':=I7.pinned (stat I7 n7) (T.obj _ _ st7)
   refine thnF (pg _ s7 _ H7 x u _ I7' r7 (step x H7 y7)) fun _ s8 ⟨σ8,H8,I8,hw8,q8⟩=>?_
   refine thnF (pt _ s8 σ8 H8 _ I8 q8) fun b s9 ⟨H9,I9,q9⟩=>?_
   -- the turn's end
   have fin:∀ {s':Shared}{H':Hp},Inv (X.blk s3 H3 scope ce fp) ([]++pinsAt fp s7.heap) σ8 H' s'→Nx H'→∃ m,m<n∧∃ i H',Inv (X.blk s3 H3 scope ce fp) [] (wipe σ (own.map (·.2))) H' s'∧tn i s'.heap∧(∀ b∈fp,H' b=none)∧W i m H':=fun {s' H'} I' nx=>by
    obtain ⟨m',hm,w'⟩:=hNx H' nx
    have pin':∀ b∈fp,∀ o,s7.heap.get? b=some o→s'.heap.get? b=some o∧H' b=none:=fun b hb o e =>
     let z:=I'.pin (b,o) (List.mem_append_right _ (List.mem_append_right _ (mem_pinsAt hb e)))
     ⟨z.1,z.2.1⟩
    have hl:(wipe σ (own.map (·.2))).length=σ8.length:=by rw [← hw8,wipe_length]
    refine ⟨m',hm,i+1,H',(I'.unpinned (pins:=[])).weak hl (fun j v e=>?_),T.keep _ _ _ st7 fun b hb o e=>(pin' b hb o e).1,fun b hb=>?_,w'⟩
    ·rw [← hw8] at e
     exact (wipe_some e).1
    ·obtain ⟨o,e,_⟩:=T.obj _ _ st7 b hb
     exact (pin' b hb o e).2
   cases b with
   | false =>
    simp only [Bool.false_eq_true,if_false] at q9 ⊢
    exact fin I9 q9
   | true =>
    simp only [if_true] at q9 ⊢
    refine thnF (pe _ s9 σ8 H9 _ I9 q9) fun z s10 ⟨yv,H10,I10,r10,acc,hD10,hz10,nx⟩=>?_
    exact app_ok (X:=X.blk s3 H3 scope ce fp) I10 hD10 hz10 r10 fun s11 I11=>fin I11 nx
 exact codeAny_compStart_list loop (T.self X.A 0 _ _ _ st4 loop)
theorem pe_lc {elt tg iter:Expr}{ifs:List Expr}{scope:Scope}{own:List (Str×Nat)}{pos:Pos}{wi:TI}{g:TG}{tt:TT}{te:TE} (hc:X.calm=true) (hN:X.N.Nodup) (hi:PI X tg iter wi) (ok:BlkOk X.N X.env.scope scope own)
  (hg:∀ (s:Shared) (H:Hp) (C:Addr) (cl:List (Str×Addr)) (fp:List Addr),PG (X.blk s H scope (compEnvC scope cl C X.env) fp) tg g) (ht:∀ (s:Shared) (H:Hp) (C:Addr) (cl:List (Str×Addr)) (fp:List Addr),PTs (X.blk s H scope (compEnvC scope cl C X.env) fp) ifs tt)
  (he:∀ (s:Shared) (H:Hp) (C:Addr) (cl:List (Str×Addr)) (fp:List Addr),PE (X.blk s H scope (compEnvC scope cl C X.env) fp) elt te) (hs:∀ x,foldedSetIterable iter X.env x=pure x:=by intro _;rfl) :
  PE X (.ListComp elt [⟨tg,iter,ifs,0⟩] scope pos) (tLc wi g tt te (own.map (·.2))):=by
 intro pins s σ H Q I h
 rw [eval_ListComp]
 refine lc_core hc hN I hi ok hg ht he hs h fun D C s' m H' I' q hn f=>⟨m,hn,fun h'' sb=>?_⟩
 obtain ⟨f0,f1,f2,f3,f4,f5⟩:=f
 exact ⟨.ref D,H',I'.turned (t':=s'.toks) (fun b o hb e=>(sb.2 b hb).trans e) f0 f1 f3 f4 f5,rfl,q⟩
end
end L2
namespace L2
open PySem PySem.Spec PyProof.Rows
section
variable {prog:Program}{w:World}{A:Around}{R:Result→Shared→Prop}{s:Shared}{elt t0 i0 t1 i1:Expr}{ifs0 ifs1:List Expr}{scope:Scope}{pos:Pos}{it acc:Value}{env:Env}
end
section
variable {X:Cx}
end
end L2
namespace L2
open PySem PySem.Spec PyProof.Rows
section
variable {κ:Type} [DecidableEq κ]
def valV (kvs:List (κ×V)) (k:κ):Option V:=(kvs.find? fun kv=>decide (kv.1=k)).map (·.2)
def putK (kvs:List (κ×V)) (k:κ) (v:V):List (κ×V) :=
 if (kvs.any fun kv=>decide (kv.1=k))=true then kvs.map (fun kv=>if kv.1=k then (kv.1,v) else kv) else kvs++[(k,v)]
theorem valV_pos {p:κ×V}{r:List (κ×V)}{k:κ} (e:p.1=k):valV (p::r) k=some p.2:=by simp [valV,List.find?_cons,e]
theorem valV_neg {p:κ×V}{r:List (κ×V)}{k:κ} (e:¬ p.1=k):valV (p::r) k=valV r k:=by simp [valV,List.find?_cons,e]
theorem valV_any (k:κ):∀ kvs:List (κ×V),(kvs.any fun kv=>decide (kv.1=k))=(valV kvs k).isSome
 | []=>rfl
 | p::r=>by
  rw [List.any_cons]
  by_cases e:p.1=k
  ·simp only [valV_pos e,decide_eq_true e,Bool.true_or,Option.isSome_some]
  ·rw [valV_neg e,decide_eq_false e,Bool.false_or];exact valV_any k r
theorem length_putK (kvs:List (κ×V)) (k:κ) (v:V):(putK kvs k v).length≤kvs.length+1:=by
 unfold putK
 split
 ·rw [List.length_map];omega
 ·rw [List.length_append,List.length_cons,List.length_nil];omega
theorem putK_new {kvs:List (κ×V)}{k:κ} (v:V) (h:valV kvs k=none):putK kvs k v=kvs++[(k,v)]:=by
 unfold putK
 rw [valV_any,h]
 exact if_neg (by decide)
theorem RelO.isSome_eq {o:Option V}{u:Option Value} (r:RelO o u):o.isSome=u.isSome:=by
 cases o with
 | none=>cases u with
  | none=>rfl
  | some _=>exact (show False from r).elim
 | some _=>cases u with
  | none=>exact (show False from r).elim
  | some _=>rfl
theorem KV.val {kvs:List (κ×V)}{vs:List (κ×Value)} (r:KV kvs vs) (k:κ):RelO (valV kvs k) (valueAt vs k):=by
 unfold KV at r
 induction r with
 | nil=>exact True.intro
 | @cons p q ps qs h t ih =>
  obtain ⟨h1,h2⟩:=h
  by_cases e:p.1=k
  ·have e':q.1=k:=h1.symm.trans e
   have b:valueAt (q::qs) k=some q.2:=by simp [valueAt,List.find?_cons,e']
   rw [valV_pos e,b];exact h2
  ·have e':¬ q.1=k:=fun z=>e (h1.trans z)
   have b:valueAt (q::qs) k=valueAt qs k:=by simp [valueAt,List.find?_cons,e']
   rw [valV_neg e,b];exact ih
end
theorem kV_is {P:Program}{w:World}{k:Key}{u:Value} (r:RelV (kV k) u):(mixKind P w).is k u=true:=by
 cases k with
 | inl i=>obtain ⟨t,e⟩:=(show ∃ t,u=Value.int i t from r);subst e;exact mixKind_int P w i t
 | inr x=>obtain ⟨t,e⟩:=(show ∃ t,u=Value.str x t from r);subst e;exact mixKind_str P w x t
theorem items_are {P:Program}{w:World}:∀ {ks:List Key}{us:List Value},Vals (ks.map kV) us→ItemsAre (mixKind P w) ks us
 | [],_,r=>by rw [List.map_nil] at r;cases r;exact .nil
 | k::ks,_,r=>by
  rw [List.map_cons] at r
  cases r with
  | cons h t=>exact .cons (kV_is h) (items_are t)
abbrev KT (H:Hp):List (List Key×V)→List (List Key×Addr×Value)→Prop:=Paired fun p q=>p.1=q.1∧H q.2.1=some (.tup (p.1.map kV))∧RelV p.2 q.2.2
theorem KT.val {H:Hp}{kvs:List (List Key×V)}{xs:List (List Key×Addr×Value)} (r:KT H kvs xs) (k:List Key):RelO (valV kvs k) ((atKey xs k).map (·.2)):=by
 induction r with
 | nil=>exact True.intro
 | @cons p q ps qs h t ih =>
  obtain ⟨h1,_,h2⟩:=h
  by_cases e:p.1=k
  ·have e':q.1=k:=h1.symm.trans e
   have b:atKey (q::qs) k=some q.2:=by simp [atKey,List.find?_cons,e']
   rw [valV_pos e,b];exact h2
  ·have e':¬ q.1=k:=fun z=>e (h1.trans z)
   have b:atKey (q::qs) k=atKey qs k:=by simp [atKey,List.find?_cons,e']
   rw [valV_neg e,b];exact ih
theorem KT.repl {H:Hp}{kvs:List (List Key×V)}{xs:List (List Key×Addr×Value)} (r:KT H kvs xs) (k:List Key) {y:V}{u:Value} (ry:RelV y u) :
  KT H (kvs.map fun kv=>if kv.1=k then (kv.1,y) else kv) (xs.map (putAt k u)):=by
 induction r with
 | nil=>exact .nil
 | @cons p q ps qs h t ih =>
  rw [List.map_cons,List.map_cons]
  refine .cons ?_ ih
  obtain ⟨h1,h2,h3⟩:=h
  unfold putAt
  by_cases e:p.1=k
  ·rw [if_pos e,if_pos (h1.symm.trans e)];exact ⟨h1,h2,ry⟩
  ·rw [if_neg e,if_neg (fun z=>e (h1.trans z))];exact ⟨h1,h2,h3⟩
theorem KT.put {H:Hp}{kvs:List (List Key×V)}{xs:List (List Key×Addr×Value)} (r:KT H kvs xs) (k:List Key) {b:Addr}{y:V}{u:Value} (hb:H b=some (.tup (k.map kV))) (ry:RelV y u) :
  KT H (putK kvs k y) (storedH xs k b u):=by
 have e:(kvs.any fun kv=>decide (kv.1=k))=(atKey xs k).isSome:=by
  rw [valV_any,(r.val k).isSome_eq,Option.isSome_map]
 unfold putK storedH
 rw [e]
 by_cases q:(atKey xs k).isSome=true
 ·rw [if_pos q,if_pos q];exact r.repl k ry
 ·rw [if_neg q,if_neg q];exact Paired.snoc r ⟨rfl,hb,ry⟩
theorem KT.keeps {H H':Hp}{kvs:List (List Key×V)}{xs:List (List Key×Addr×Value)} (r:KT H kvs xs) (ht:∀ b ys,H b=some (.tup ys)→H' b=some (.tup ys)):KT H' kvs xs :=
 Paired.mapP r fun _ _ z=>⟨z.1,ht _ _ z.2.1,z.2.2⟩
section
variable {P:Program}{w:World}{H:Hp}{h:Heap}{a:Addr}
theorem rd_of {u:HO} (ok:HOk P w H h) (e:Rd H a u):ObjOk P w H h a u:=e.ok ok
theorem dk_rd {kvs:List (Key×V)} (ok:HOk P w H h) (e:Rd H a (.dK kvs)):kvs.length≤sizeLine∧(a==sysModules)=false∧∃ vs,KV kvs vs∧h.DictOf (mixKind P w) a vs :=
 show ObjOk P w H h a (.dK kvs) from rd_of ok e
theorem key_of {ks:List Key} (ok:HOk P w H h) (e:H a=some (.tup (ks.map kV))):(tupleKind (mixKind P w)).is h ks a:=by
 obtain ⟨_,its,r,o,h1,h2,n,h3⟩:=(show ObjOk P w H h a (.tup (ks.map kV)) from ok a _ e)
 exact ⟨o,its.toArray,n,h1,h2,h3,by simpa using items_are r⟩
theorem dt_rd {kvs:List (List Key×V)} (ok:HOk P w H h) (e:Rd H a (.dT kvs)):kvs.length≤sizeLine∧(a==sysModules)=false ∧
  ∃ xs,KT H kvs xs∧h.DictOfH (tupleKind (mixKind P w)) a xs:=by
 obtain ⟨z,y,xs,r,o,es,ep,h1,h2,h3,h4,h5⟩:=(show ObjOk P w H h a (.dT kvs) from rd_of ok e)
 refine ⟨z,y,xs,r,o,es,ep,h1,h2,h3,h4,fun x hx=>?_,h5⟩
 have all:∀ {l:List (List Key×V)}{m:List (List Key×Addr×Value)},KT H l m→∀ x∈m,(tupleKind (mixKind P w)).is h x.1 x.2.1:=by
  intro l m q
  induction q with
  | nil=>intro x hx;exact nomatch hx
  | @cons p q ps qs hq t ih =>
   intro x hx
   rcases List.mem_cons.mp hx with e | hx
   ·subst e
    exact key_of ok (by rw [← hq.1];exact hq.2.1)
   ·exact ih x hx
 exact all r x hx
theorem dt_of {kvs:List (List Key×V)} (ok:HOk P w H h) (e:H a=some (.dT kvs)):kvs.length≤sizeLine∧(a==sysModules)=false ∧
  ∃ xs,KT H kvs xs∧h.DictOfH (tupleKind (mixKind P w)) a xs:=dt_rd ok (.inl e)
end
def DGet (H:Hp) (a:Addr) (y:V) (r:Option V):Prop :=
 (∃ kvs k,Rd H a (.dK kvs)∧y=kV k∧r=valV kvs k)∨∃ kvs k b,Rd H a (.dT kvs)∧y=.ref b∧H b=some (.tup (k.map kV))∧r=valV kvs k
theorem DGet.t {H:Hp}{a b:Addr}{kvs:List (List Key×V)}{k:List Key} (e:H a=some (.dT kvs)) (eb:H b=some (.tup (k.map kV))):DGet H a (.ref b) (valV kvs k):=.inr ⟨kvs,k,b,.inl e,rfl,eb,rfl⟩
section
variable {X:Cx}{pins:List (Addr×Obj)}{σ:St}{H:Hp}{s:Shared}{a:Addr}{y v:V}{u r:Value}{o:Option V}{A:Around}{E:Value→Shared→Prop}
theorem Inv.big (I:Inv X pins σ H s):sysModules<s.heap.objs.size:=by
 have h:mainGlobals<s.heap.objs.size:=(I.mod.glob.keeps I.bk).lt
 exact Nat.lt_trans (by decide) h
theorem d_getItem {Q:Value→Shared→Prop} (hu:A.units+1<cLine) (I:Inv X pins σ H s) (g:DGet H a y (some v)) (ry:RelV y u) (h:∀ w' s',Inv X pins σ H s'→RelV v w'→Q w' s') :
  wpAny (model X.prog X.w) A (getItem (.ref a) u) Q E s:=by
 rcases g with ⟨kvs,k,e,ey,l⟩ | ⟨kvs,k,b,e,ey,eb,l⟩
 ·subst ey
  obtain ⟨z,hd,vs,rel,dd⟩:=dk_rd I.hok e
  obtain ⟨w',hw,rw'⟩:=RelO.some_of (v:=v) (o:=valueAt vs k) (by rw [l];exact rel.val k)
  exact wpAny_getItem_of (kV_is ry) dd.mapOf hw (h w' _ (I.tok _) rw')
 ·subst ey
  cases (show u=Value.ref b from ry)
  obtain ⟨z,hd,xs,rel,dd⟩:=dt_rd I.hok e
  obtain ⟨w',hw,rw'⟩:=RelO.some_of (v:=v) (o:=(atKey xs k).map (·.2)) (by rw [l];exact rel.val k)
  obtain ⟨p,hp,hp2⟩:=Option.map_eq_some_iff.mp hw
  refine wpAny_getItem_heap (tupleKind_room_in1 hu) (key_of I.hok eb) dd hp ?_
  rw [hp2]
  exact h w' _ (I.tok _) rw'
theorem d_write {h':Heap}{t':Nat}{ob:HO} (I:Inv X pins σ H s) (mu:Mut (H a)) (hs:Heap.SameBut a s.heap h') (he:∃ q,h'.get? a=some q) (new:ObjOk X.prog X.w (upd H a ob) h' a ob) :
  Inv X pins σ (upd H a ob) { s with heap:=h',toks:=t' } :=
 I.write (x:=a) (e:=a) mu (.inl rfl) (fun b q hb z=>(hs.2 b hb).trans z) he new
end
section
variable {X:Cx}{pins:List (Addr×Obj)}{σ:St}{H:Hp}{s:Shared}{a:Addr}{kvs:List (Key×V)}{k:Key}{u:Value}{A:Around}{E:Value→Shared→Prop}
end
def NoSl (i:Expr):Prop:=∀ ov iv,subscripted i false ov iv=operate [ov,iv] (getItem ov iv)
theorem subD_of {prog:Program}{w:World}{A:Around}{E:Value→Shared→Prop}{s:Shared}{env:Env}{value slice:Expr}{pos:Pos}{T id:String}{Q:Value→Shared→Prop}
  (hl:typeLookup (.type T) "__getitem__"=pure (some (.builtin id))) (hs:NoSl slice)
  (h:wpAny (model prog w) A (eval value env) (fun o s₁=>wpAny (model prog w) A (eval slice env) (fun i s₂=>s₂.TypeIs o T∧wpAny (model prog w) A (getItem o i) Q E s₂) E s₁) E s) :
  wpAny (model prog w) A (eval (.Subscript value slice pos) env) Q E s:=by
 refine Subscript_ (wpAny_mono h (fun o s₁ h₁=>wpAny_mono h₁ (fun i s₂ h₂=>?_) fun _ _ x=>x) fun _ _ x=>x)
 obtain ⟨hT,h₂⟩:=h₂
 unfold subscriptTail
 refine wpAny_bind ?_
 rw [getitemInPython_of_ne hT.not_modules]
 refine wpAny_bind (wpAny_specialOf hT hl ?_)
 have fin:wpAny (model prog w) A (subscripted slice false o i) (fun r s₃=>wpAny (model prog w) A (letTemporaryGo value o r >>= fun _=>pure r) Q E s₃) E s₂:=by
  rw [hs o i]
  exact wpAny_operating (wpAny_mono h₂ (fun r s₃ h₃=>wpAny_bind (wpAny_letTemporaryGo (wpAny_pure h₃))) fun _ _ x=>x)
 first
  | exact wpAny_pure (wpAny_bind fin)
  | exact wpAny_bind (wpAny_pure (wpAny_bind fin))
  | exact wpAny_bind fin
theorem dict_typeIs {X:Cx}{pins:List (Addr×Obj)}{σ:St}{H:Hp}{s:Shared}{a:Addr}{y:V}{o:Option V} (I:Inv X pins σ H s) (g:DGet H a y o):s.TypeIs (.ref a) "dict":=by
 rcases g with ⟨kvs,k,e,_,_⟩ | ⟨kvs,k,b,e,_,_,_⟩
 ·obtain ⟨_,_,vs,_,dd⟩:=dk_rd I.hok e
  exact dd.typeIs
 ·obtain ⟨_,_,xs,_,dd⟩:=dt_rd I.hok e
  exact dd.typeIs
def tDGet (td ty:TE):TE:=fun σ H Q=>td σ H fun x H1=>ty σ H1 fun y H2=>∃ a v,x=.ref a∧DGet H2 a y (some v)∧Q v H2
section
variable {X:Cx}{o i e value:Expr}{pos pos' tpos:Pos}{td ty tv:TE}
theorem pe_dget (hu:X.A.units+1<cLine) (ho:PE X o td) (hi:PE X i ty) (hs:NoSl i):PE X (.Subscript o i pos) (tDGet td ty):=by
 intro pins s σ H Q I h
 refine subD_of PySem.F.slot_dict_getitem.lookup hs (thn (ho pins s σ H _ I h) fun u s1 ⟨x,H1,I1,rx,q1⟩=>thn (hi pins s1 σ H1 _ I1 q1) fun iv s2 ⟨y,H2,I2,ry,a,v,ex,g,q2⟩=>?_)
 subst ex
 obtain rfl:u=Value.ref a:=rx
 exact ⟨dict_typeIs I2 g,d_getItem hu I2 g ry fun w' s3 I3 rw'=>⟨v,H2,I3,rw',q2⟩⟩
end
theorem dt_empty {P:Program}{w:World}{H:Hp} (h:Heap) (hb:sysModules<h.objs.size):ObjOk P w H (h.push { cls:=.type "dict",data:=.dict #[] }) h.objs.size (.dT []) :=
 ⟨Nat.zero_le _,beq_eq_false_iff_ne.mpr (Ne.symm (Nat.ne_of_lt hb)),[],.nil,_,#[],0,Heap.get?_push_size _ rfl,⟨rfl,rfl,rfl⟩,rfl,rfl,List.nodup_nil⟩
def tDNewT:TE:=fun _ H Q=>∀ p,H p=none→Q (.ref p) (upd H p (.dT []))
section
variable {X:Cx}{pos:Pos}
theorem pe_dnewT:PE X (.Dict [] [] pos) tDNewT:=fun pins s σ H Q I h =>
 wpAny_Dict_empty ⟨.ref s.heap.objs.size,_,I.laid (a:=s.heap.objs.size) (o:=.dT []) (t':=s.toks) (fun _ _ q=>Heap.get?_push_of_some _ q) (Nat.le_refl _) (dt_empty s.heap I.big),rfl,h _ (I.hok.fresh (Nat.le_refl _))⟩
end
section
variable {X:Cx}{pins:List (Addr×Obj)}{σ:St}{H:Hp}{s:Shared}{a:Addr}{y d:V}{u r:Value}{o:Option V}{A:Around}{E:Value→Shared→Prop}
end
section
variable {X:Cx}{o e f:Expr}{apos cpos:Pos}{td ty tx:TE}
end
section
variable {X:Cx}{pins:List (Addr×Obj)}{σ:St}{H:Hp}{s:Shared}{a:Addr}{kvs:List (Key×V)}{A:Around}{E:Value→Shared→Prop}
end
section
variable {X:Cx}{pins:List (Addr×Obj)}{σ:St}{H:Hp}{s:Shared}{a:Addr}{y:V}{u:Value}{A:Around}{E:Value→Shared→Prop}
end
end L2
namespace L2
open PySem PySem.Spec PyProof.Rows
section
variable {prog:Program}{w:World}{A:Around}{E:Value→Shared→Prop}
end
section
variable {X:Cx}
end
end L2
namespace L2
open PySem PySem.Spec PyProof.Rows
section
variable {X:Cx}{pins:List (Addr×Obj)}{σ:St}{H:Hp}{s:Shared}{h':Heap}
theorem Inv.turnedNew {t':Nat}{ch:List Addr}{T:Addr}{ob:HO} (I:Inv X pins σ H s) (k:∀ b o,b ∉ ch→s.heap.get? b=some o→h'.get? b=some o) (hf:∀ b∈ch,FpOk X pins H b) (hT:s.heap.objs.size≤T)
  (new:ObjOk X.prog X.w (upd H T ob) h' T ob):Inv X pins σ (upd H T ob) { s with heap:=h',toks:=t' }:=by
 have hn:H T=none:=I.hok.fresh hT
 have nit:∀ b u,H b=some u→b ∉ ch:=fun b u e z=>by
  have q:=(hf b z).1
  rw [q] at e;cases e
 refine I.step (g':=s.gens) (d':=s.drawn) (ch:=ch) (fun b hb=>⟨(hf b hb).2.2.2.1,(hf b hb).2.1,(hf b hb).2.2.2.2.1,(hf b hb).2.2.2.2.2⟩) (fun b o _ _ hc e _=>k b o hc e) (fun b o _ _ hc e _=>⟨o.slots,k b o hc e⟩)
  (fun b o _ e n=>?_) (fun b o hc e=>⟨o,k b o hc e⟩) (fun b xs e=>?_) (fun b o u e=>?_) (fun b ps e=>⟨#[],?_⟩) (fun m hm=>?_) (fun b u e=>?_) I.bare
 ·rw [upd_ne (Nat.ne_of_lt (Nat.lt_of_lt_of_le (Heap.lt_size e) hT))];exact n
 ·rw [upd_ne (ne_of_none e hn)];exact e
 ·rw [upd_ne (ne_of_none e hn)];exact e
 ·rw [upd_ne (ne_of_none e hn),e];simp
 ·obtain ⟨o,es,ep,ho,r⟩:=hm
  exact ⟨o,es,ep,k _ o (fun z=>(hf _ z).2.1 rfl) ho,r⟩
 ·by_cases hb:b=T
  ·subst hb
   rw [upd_same] at e
   cases e
   exact new
  ·rw [upd_ne hb] at e
   refine (I.hok b u e).stay (fun c v hc q=>k c v ?_ q) (fun c q=>by rw [upd_ne (ne_of_none q hn)];exact q) fun c xs q=>by rw [upd_ne (ne_of_none q hn)];exact q
   rcases hc with z | z
   ·rw [z];exact nit b u e
   ·exact nit c _ z
end
section
variable {X:Cx}
theorem pi_one {tg:Expr}{pins:List (Addr×Obj)}{σ:St}{H:Hp}{s:Shared}{R:It→Hp→Prop}{J:It}{tn:Nat→Heap→Prop}{tk:Nat} (I:Inv X pins σ H s) (o:Obj)
  (T:Turn X.prog X.w X.K tg J [s.heap.objs.size] s.heap.objs.size tn) (st:tn 0 (s.heap.push o)) (q:R J H):PIE X pins σ tg R (.ref s.heap.objs.size) { s with heap:=s.heap.push o,toks:=tk }:=by
 refine ⟨s.heap.objs.size,[s.heap.objs.size],tn,J,H,rfl,I.kept fun b ob e=>Heap.get?_push_of_some _ e,T,st,fun b hb=>?_,q⟩
 have e:b=s.heap.objs.size:=by simpa using hb
 subst e
 exact I.fpOk (Nat.le_refl _) (I.hok.fresh (Nat.le_refl _))
end
def Itc (lo c:Int) (n:Nat):It:=⟨fun i _=>i<n,fun i H x H'=>H'=H∧x=.int (lo+(i:Nat) * c),fun i _=>n≤i⟩
theorem turn_rangeC {P:Program}{w:World}{K:PySem.W.Frag}{tg:Expr} (it:Addr) (lo c:Int) (n:Nat):Turn P w K tg (Itc lo c n) [it] it (fun i h=>IsRangeIter h it (lo+(i:Nat) * c) ((n:Int)-(i:Nat)) c) where
 mem:=by simp
 obj:=fun i h st b hb=>by
  have e:b=it:=by simpa using hb
  subst e
  exact ⟨_,st,fun v z=>nomatch z⟩
 keep:=fun i h h' st k=>k it (by simp) _ st
 item:=by
  intro X hP hw hK hc i pins s σ H E I hf st hg
  subst hP hw hK
  obtain ⟨f0,f1,f2,f3,f4,f5⟩:=hf it (by simp)
  have W:=Walks.range (prog:=X.prog) (w:=X.w) (I.ok.hd hc) it lo c n
  refine W.item i s _ _ hg st fun v h' tk hv st' kk=>?_
  obtain ⟨t,rfl⟩:=hv
  have I1:Inv X pins σ H { s with heap:=h',toks:=tk }:=I.turned (fun b o hb e=>kk b o (by simpa using hb) e) f0 f1 f3 f4 f5
  exact ⟨_,rfl,go_of (s:={ s with heap:=h',toks:=tk }) (n:="range_iterator") st' rfl rfl (by decide) ⟨.int (lo+(i:Nat) * c),H,I1,⟨t,rfl⟩,⟨rfl,rfl⟩,st',fun b hb=>(hf b hb).1⟩⟩
 done:=by
  intro X hP hw hK hc i pins s σ H E I hf st hg
  subst hP hw hK
  obtain ⟨f0,f1,f2,f3,f4,f5⟩:=hf it (by simp)
  exact wpAny_pyNext_range_end (I.ok.hd hc) st (by have:n≤i:=hg;omega) fun h' eb=>⟨rfl,I.turned (t':=s.toks) (fun b o hb e=>eb b o hb e) f0 f1 f3 f4 f5⟩
 self:=fun A i s Q E st h=>wpAny_pyIter_rangeiter st h
def RgC (i j c:Int) (n:Nat):Prop:=c≠0∧c.natAbs<1073741824∧Builtin.Range.small i j c=true∧Builtin.Range.rangeSize i j c=n
theorem RgC.neg {i j:Int} (ha:-(2 ^ 62)≤i) (ha':i<2 ^ 62) (hb:-(2 ^ 62)≤j) (hb':j<2 ^ 62):RgC i j (-1) (i-j).toNat :=
 ⟨by decide,by decide,PySem.W.small_down ha ha' hb hb',PySem.W.rangeSize_downNat i j⟩
def iRng3 (ta:TA):TI:=fun σ H R=>ta σ H fun vs H1=>∃ (i j c:Int) (n:Nat),vs=[.int i,.int j,.int c]∧RgC i j c n∧R (Itc i c n) H1
section
variable {X:Cx}{tg:Expr}
theorem pi_range3 {a b c:Expr}{ta:TA}{p pos:Pos} (hg:Gl X "range") (hm:X.mg "range"=none) (ha:PA X [a,b,c] ta)
  (hs:starEach [a,b,c] X.env=(false,eval a X.env)::starEach [b,c] X.env:=by rfl) (hpl:(backTo pos (starEach [b,c] X.env)).any (·.1)=false:=by rfl) :
  PI X tg (.Call (.Name "range" p) [a,b,c] [] pos) (iRng3 ta):=by
 intro pins s σ H R I h
 refine Call_ (ld_blt I hg hm boot_range (PyProof.Rows.callWith_type1 (thn (ha pos pins s σ H _ I h) fun us s1 ⟨vs,H1,I1,r1,q1⟩=>?_) hs hpl))
 obtain ⟨i,j,k,n,e,⟨c0,c1,c2,c3⟩,q⟩:=q1
 subst e
 cases r1 with
 | cons r rr =>
  cases rr with
  | cons r' rr =>
   cases rr with
   | cons r'' rr =>
    cases rr
    obtain ⟨t,rfl⟩:=r
    obtain ⟨t',rfl⟩:=r'
    obtain ⟨t'',rfl⟩:=r''
    refine call_range_3 c0 ?_ (.inl (PyProof.noPylong_small c1))
    refine wpAny_pyIter_range (IsRange.new ..) c2 ?_
    have I2:Inv X pins σ H1 { s1 with heap:=s1.heap.push { cls:=.type "range",data:=.fields #[.int i t,.int j t',.int k t''] } }:=I1.kept (t':=s1.toks) fun b o e=>Heap.get?_push_of_some _ e
    refine pi_one (tk:=s1.toks) I2 _ (turn_rangeC _ i k n) ?_ q
    have e1:i+((0:Nat):Int) * k=i:=by simp
    have e2:(n:Int)-((0:Nat):Int)=Builtin.Range.rangeSize i j k:=by rw [c3];simp
    show IsRangeIter _ _ (i+((0:Nat):Int) * k) ((n:Int)-((0:Nat):Int)) k
    rw [e1,e2]
    exact Heap.get?_push_size _ rfl
end
theorem for_rangeC {lo c:Int}{n:Nat}{g:TG}{tb:TS}{D:Ends}{σ:St}{H:Hp} (Pv:Nat→St→Hp→Prop) (h0:Pv 0 σ H)
  (hs:∀ i σ H,i<n→Pv i σ H→g (.int (lo+(i:Nat) * c)) σ H fun σ2 H2=>tb { D with nx:=Pv (i+1),ct:=Pv (i+1),bk:=D.nx } σ2 H2) (hd:∀ σ H,Pv n σ H→D.nx σ H) :
  ∃ W:Nat→Nat→St→Hp→Prop,(∃ m,W 0 m σ H)∧∀ i m σ H,W i m σ H →
   ((Itc lo c n).stop i H∧D.nx σ H)∨((Itc lo c n).go i H∧∃ N:St→Hp→Prop,(∀ σ' H',N σ' H'→∃ m',m' < m∧W (i+1) m' σ' H')∧∀ x H',(Itc lo c n).yld i H x H'→g x σ H' fun σ2 H2=>tb { D with nx:=N,ct:=N,bk:=D.nx } σ2 H2):=by
 refine ⟨fun i m σ H=>m=n-i∧i≤n∧Pv i σ H,⟨n,by simp,Nat.zero_le _,h0⟩,?_⟩
 rintro i m σ H ⟨rfl,hi,p⟩
 by_cases hlt:i<n
 ·refine .inr ⟨hlt,Pv (i+1),fun σ' H' p'=>⟨n-(i+1),by omega,rfl,hlt,p'⟩,fun x H' y=>?_⟩
  obtain ⟨e,y⟩:=y
  subst e y
  exact hs i σ _ hlt p
 ·have e:i=n:=by omega
  subst e
  exact .inl ⟨Nat.le_refl _,hd σ H p⟩
section
variable {X:Cx}{tg:Expr}
end
def Its (x:Str):It:=⟨fun i _=>i<x.cps.size,fun i H v H'=>H'=H∧∃ c,x.cps[i]?=some c∧v=.str ⟨#[c]⟩,fun i _=>x.cps.size≤i⟩
theorem turn_str {P:Program}{w:World}{K:PySem.W.Frag}{tg:Expr} (it:Addr) (x:Str) (t:Tok) (ty:String) (hty:ty="str_ascii_iterator"∨ty="str_iterator") :
  Turn P w K tg (Its x) [it] it (fun i h=>h.IsStrIter it ty x t i) where
 mem:=by simp
 obj:=fun i h st b hb=>by
  have e:b=it:=by simpa using hb
  subst e
  obtain ⟨o,e,c,d⟩:=st
  exact ⟨o,e,fun v z=>by rw [d] at z;cases z⟩
 keep:=fun i h h' st k=>let ⟨o,ho,r⟩:=st;⟨o,k it (by simp) o ho,r⟩
 item:=by
  intro X hP hw hK hc i pins s σ H E I hf st hg
  subst hP hw hK
  obtain ⟨f0,f1,f2,f3,f4,f5⟩:=hf it (by simp)
  have W:Walks X.prog X.w X.A it [it] [it] x.cps.size (SignAt x) (fun i h=>h.IsStrIter it ty x t i):=by
   rcases hty with e | e
   ·rw [e];exact Walks.strAscii (I.ok.hd hc) it x t
   ·rw [e];exact Walks.strWide (I.ok.hd hc) it x t
  have hno:["enumerate","zip","dict_itemiterator","dict_reverseitemiterator","odict_iterator","itertools.zip_longest","itertools.pairwise"].contains ty=false:=by
   rcases hty with e | e
   ·rw [e];decide
   ·rw [e];decide
  refine W.item i s _ _ hg st fun v h' tk hv st' kk=>?_
  obtain ⟨c,u,hcx,rfl⟩:=hv
  have I1:Inv X pins σ H { s with heap:=h',toks:=tk }:=I.turned (fun b o hb e=>kk b o (by simpa using hb) e) f0 f1 f3 f4 f5
  obtain ⟨oi,e,cc,dd⟩:=id st'
  exact ⟨_,rfl,go_of (s:={ s with heap:=h',toks:=tk }) e cc dd hno ⟨.str ⟨#[c]⟩,H,I1,⟨u,rfl⟩,⟨rfl,c,hcx,rfl⟩,st',fun b hb=>(hf b hb).1⟩⟩
 done:=by
  intro X hP hw hK hc i pins s σ H E I hf st hg
  subst hP hw hK
  obtain ⟨f0,f1,f2,f3,f4,f5⟩:=hf it (by simp)
  have hx:x.cps[i]?=none:=Array.getElem?_eq_none hg
  rcases hty with e | e
  ·rw [e] at st
   exact wpAny_pyNext_ascii_end (I.ok.hd hc) st hx fun h' eb=>⟨rfl,I.turned (t':=s.toks) (fun b o hb e=>eb b o hb e) f0 f1 f3 f4 f5⟩
  ·rw [e] at st
   exact wpAny_pyNext_wide_end (I.ok.hd hc) st hx fun h' eb=>⟨rfl,I.turned (t':=s.toks) (fun b o hb e=>eb b o hb e) f0 f1 f3 f4 f5⟩
 self:=fun A i s Q E st h=>by
  rcases hty with e | e
  ·rw [e] at st;exact wpAny_pyIter_striter_ascii st h
  ·rw [e] at st;exact wpAny_pyIter_striter_wide st h
def iStr (te:TE):TI:=fun σ H R=>te σ H fun v H1=>∃ x,v=.str x∧R (Its x) H1
theorem pi_str {X:Cx}{tg e:Expr}{te:TE} (he:PE X e te):PI X tg e (iStr te):=by
 intro pins s σ H R I h
 refine thn (he pins s σ H _ I h) fun v s1 ⟨y,H1,I1,r1,x,ex,q⟩=>?_
 subst ex
 obtain ⟨t,rfl⟩:=r1
 cases ha:x.cps.all (· < 128)
 ·exact wpAny_pyIter_wide ha (pi_one (tk:=s1.toks) I1 _ (turn_str _ x t "str_iterator" (.inr rfl)) ⟨_,Heap.get?_push_size _ rfl,rfl,rfl⟩ q)
 ·exact wpAny_pyIter_ascii ha (pi_one (tk:=s1.toks) I1 _ (turn_str _ x t "str_ascii_iterator" (.inl rfl)) ⟨_,Heap.get?_push_size _ rfl,rfl,rfl⟩ q)
section
variable {prog:Program}{w:World}{A:Around}{E:Value→Shared→Prop}{s:Shared}
theorem iter_keys {d:Addr}{o:Obj}{es:Array DictEntry}{ep:Nat}{Q:Value→Shared→Prop} (hd:(d==sysModules)=false) (ho:s.heap.get? d=some o) (hc:o.ExactDict) (hdat:o.data=.dict es ep)
  (hQ:Q (.ref s.heap.objs.size) { s with heap:=s.heap.push { cls:=.type "dict_keyiterator",data:=.fields #[.ref d,.int 0 0,.int es.size 0,.int ep 0] } }) :
  wpAny (model prog w) A (pyIter (.ref d)) Q E s:=by
 have hT:s.TypeIs (.ref d) "dict":=⟨o,ho,hc.1⟩
 refine wpAny_pyIter_slot hT F.slot_dict_iter (wpAny_call_entry F.slot_dict_iter hT F.entry_dict_iter ?_ (F.args_dict_iter_1 _))
 unfold Builtin.«dict.__iter__»
 refine wpAny_bind ?_
 unfold Builtin.Dict.dictSlotNone
 refine wpAny_bind (wpAny_notOrdered_dict hT ?_)
 show wpAny _ _ (pure (Value.ref d)) _ _ s
 refine wpAny_pure ?_
 show wpAny _ _ (Builtin.Dict.showsAll d >>= _) _ _ s
 unfold Builtin.Dict.showsAll
 rw [if_neg (by rw [hd];exact Bool.false_ne_true)]
 refine wpAny_bind (wpAny_pure ?_)
 refine wpAny_bind (wpAny_dictEntries ho hdat ?_)
 refine wpAny_bind (wpAny_dictEpoch ho hdat ?_)
 refine wpAny_bind (wpAny_newObj_type (wpAny_pure ⟨_,rfl,"dict_keyiterator",_,⟨_,Heap.get?_push_size _ rfl,rfl⟩,F.slot_dict_keyiterator_next.lookup,?_⟩))
 simpa [rawInt] using hQ
theorem next_key_item {it d:Addr}{i n ep:Nat}{od:Obj}{es:Array DictEntry}{en:DictEntry}{Q:Option Value→Shared→Prop} (hit:s.heap.IsKeyIter it d i n ep) (hod:s.heap.get? d=some od) (hdd:od.data=.dict es ep)
  (hsz:es.size=n) (hx:es[i]?=some en) (hQ:∀ h',h'.IsKeyIter it d (i+1) n ep→Heap.SameBut it s.heap h'→Q (some en.key) { s with heap:=h' }):wpAny (model prog w) A (pyNext (.ref it)) Q E s:=by
 obtain ⟨o,ho,hc,hd⟩:=id hit
 unfold pyNext
 refine wpAny_bind (wpAny_attempt (wpAny_callSpecial?_slot (name:=Str.ofString "__next__") hit.typeIs F.slot_dict_keyiterator_next
  (wpAny_call_entry F.slot_dict_keyiterator_next hit.typeIs F.entry_dict_keyiterator_next ?_ (F.args_dict_keyiterator_next_1 _))))
 refine wpAny_bind (wpAny_pure ?_)
 refine wpAny_bind ?_
 refine wpAny_bind ?_
 first | refine wpAny_bind (wpAny_typeNameOfWhole_keyiter hit.typeIs (wpAny_pure ?_)) | refine wpAny_bind (wpAny_typeNameOf_keyiter hit.typeIs (wpAny_pure ?_))
 refine wpAny_bind (wpAny_fieldsOf ho hd ?_)
 have hown:Builtin.Dict_items.ownsTuple "dict_keyiterator"=false:=by decide
 simp only [hown,Bool.false_eq_true,if_false]
 show wpAny _ _ (if (Value.ref d==Value.none)=true then _ else _) _ _ s
 rw [if_neg (show ¬ ((Value.ref d==Value.none)=true) from Bool.false_ne_true)]
 refine wpAny_bind (wpAny_pure ?_)
 refine wpAny_bind (wpAny_dictEntries hod hdd ?_)
 rw [if_neg (by rw [hsz];simp)]
 refine wpAny_bind (wpAny_pure ?_)
 refine wpAny_bind (wpAny_dictEpoch hod hdd ?_)
 rw [if_neg (by simp)]
 refine wpAny_pure ?_
 obtain ⟨hlt',hen⟩:=Array.getElem?_eq_some_iff.mp hx
 simp only [show ¬ ((i:Int)<0) from by omega,if_false,Int.toNat_natCast,Array.getElem?_eq_getElem hlt']
 refine wpAny_bind ?_
 first | refine wpAny_bind (wpAny_typeNameOfWhole_keyiter hit.typeIs (wpAny_pure ?_)) | refine wpAny_bind (wpAny_typeNameOf_keyiter hit.typeIs (wpAny_pure ?_))
 refine wpAny_bind (wpAny_isOneOf_keyiter hit.typeIs ?_)
 show wpAny _ _ (setField (.ref it) 1 (rawInt ((i:Int)+1)) >>= _) _ _ s
 refine wpAny_bind (wpAny_setField ho hd (by simp) ?_)
 have hit':(s.heap.update it (Obj.mapFields (·.setIfInBounds 1 (rawInt ((i:Int)+1))))).IsKeyIter it d (i+1) n ep :=
  ⟨_,Heap.get?_update_self _ ho (Obj.isFreed_of_fields (Obj.data_mapFields hd _)),(Obj.cls_mapFields ..).trans hc,by rw [Obj.data_mapFields hd];simp [rawInt]⟩
 refine wpAny_bind (wpAny_holding ?_)
 refine wpAny_bind (wpAny_isOneOf_keyiter (s:={ s with heap:=s.heap.update it (Obj.mapFields (·.setIfInBounds 1 (rawInt ((i:Int)+1)))) }) hit'.typeIs ?_)
 show wpAny _ _ (pure es[i].key) _ _ _
 rw [hen]
 exact wpAny_pure (wpAny_pure ⟨_,rfl,wpAny_pure (hQ _ hit' (Heap.SameBut.update ..))⟩)
theorem next_key_end {it d:Addr}{i n ep:Nat}{od:Obj}{es:Array DictEntry}{Q:Option Value→Shared→Prop} (hh:A.handled=none) (hit:s.heap.IsKeyIter it d i n ep) (hod:s.heap.get? d=some od) (hdd:od.data=.dict es ep)
  (hsz:es.size=n) (hge:n≤i) (hQ:∀ h',Heap.ExtBut it s.heap h'→Q none { s with heap:=h' }):wpAny (model prog w) A (pyNext (.ref it)) Q E s:=by
 obtain ⟨o,ho,hc,hd⟩:=id hit
 unfold pyNext
 refine wpAny_bind (wpAny_attempt (wpAny_callSpecial?_slot (name:=Str.ofString "__next__") hit.typeIs F.slot_dict_keyiterator_next
  (wpAny_call_entry F.slot_dict_keyiterator_next hit.typeIs F.entry_dict_keyiterator_next ?_ (F.args_dict_keyiterator_next_1 _))))
 refine wpAny_bind (wpAny_pure ?_)
 refine wpAny_bind ?_
 refine wpAny_bind ?_
 first | refine wpAny_bind (wpAny_typeNameOfWhole_keyiter hit.typeIs (wpAny_pure ?_)) | refine wpAny_bind (wpAny_typeNameOf_keyiter hit.typeIs (wpAny_pure ?_))
 refine wpAny_bind (wpAny_fieldsOf ho hd ?_)
 have hown:Builtin.Dict_items.ownsTuple "dict_keyiterator"=false:=by decide
 simp only [hown,Bool.false_eq_true,if_false]
 show wpAny _ _ (if (Value.ref d==Value.none)=true then _ else _) _ _ s
 rw [if_neg (show ¬ ((Value.ref d==Value.none)=true) from Bool.false_ne_true)]
 refine wpAny_bind (wpAny_pure ?_)
 refine wpAny_bind (wpAny_dictEntries hod hdd ?_)
 rw [if_neg (by rw [hsz];simp)]
 refine wpAny_bind (wpAny_pure ?_)
 refine wpAny_bind (wpAny_dictEpoch hod hdd ?_)
 rw [if_neg (by simp)]
 refine wpAny_pure ?_
 have hge':es.size≤i:=by rw [hsz];exact hge
 simp only [show ¬ ((i:Int)<0) from by omega,if_false,Int.toNat_natCast,Array.getElem?_eq_none hge']
 refine wpAny_bind ?_
 first | refine wpAny_bind (wpAny_typeNameOfWhole_keyiter hit.typeIs (wpAny_pure ?_)) | refine wpAny_bind (wpAny_typeNameOf_keyiter hit.typeIs (wpAny_pure ?_))
 show wpAny _ _ (setField (.ref it) 0 .none >>= _) _ _ s
 refine wpAny_bind (wpAny_setField ho hd (by simp) ?_)
 show wpAny _ _ (newExc (.type "StopIteration") [] >>= _) _ _ _
 refine wpAny_bind ?_
 simp only [newExc,newTuple]
 refine wpAny_bind (wpAny_newObj_type ?_ (by size_fits))
 refine wpAny_bind (m:=firstArgMember _ _) (wpAny_of_eq (a:=Value.none) (by first | rfl | (simp only [firstArgMember];rfl)) ?_)
 refine wpAny_newObj_type ?_ (by size_fits)
 simp only [raiseNew]
 refine wpAny_bind (wpAny_handled ?_)
 rw [show A.in1.handled=none from hh]
 refine wpAny_bind (wpAny_pure (wpAny_throw ?_))
 refine wpAny_bind (wpAny_isInstance (T:="StopIteration") (b:=true) ⟨_,Heap.get?_push_size _ rfl,rfl⟩ isSubtype_stop ?_)
 exact wpAny_pure (hQ _ (((Heap.SameBut.update ..).extBut.push _).push _))
end
theorem paired_get {α β:Type}{G:α→β→Prop}{l₁:List α}{l₂:List β} (h:Paired G l₁ l₂):∀ {i:Nat}{a:α},l₁[i]?=some a→∃ b,l₂[i]?=some b∧G a b:=by
 induction h with
 | nil=>intro i a e;simp at e
 | @cons a b l₁ l₂ r t ih =>
  intro i a' e
  cases i with
  | zero =>
   simp only [List.getElem?_cons_zero,Option.some.injEq] at e
   subst e
   exact ⟨b,rfl,r⟩
  | succ j =>
   simp only [List.getElem?_cons_succ] at e ⊢
   exact ih e
section
variable {X:Cx}{pins:List (Addr×Obj)}{σ:St}{H:Hp}{s:Shared}{d:Addr}{o:Obj}
end
section
variable {P:Program}{w:World}{K:PySem.W.Frag}{tg:Expr}{d:Addr}{o:Obj}{es:Array DictEntry}{ep:Nat}
end
section
variable {X:Cx}{tg e:Expr}{td:TE}{apos cpos:Pos}
end
def Ite (K:PySem.W.Frag) (a:Addr):It :=
 ⟨fun i H=>∃ (xs:List V) (x:V),SqL K H a xs∧xs[i]?=some x,fun i H v H'=>∃ T x,v=.ref T∧H T=none∧H'=upd H T (.tup [.int (i:Nat),x])∧∀ xs,SqL K H a xs→xs[i]?=some x,fun i H=>∃ xs:List V,SqL K H a xs∧xs.length≤i⟩
theorem turn_enum {P:Program}{w:World}{K:PySem.W.Frag}{elts:List Expr}{kk:Nat}{tpos:Pos} (a e it:Addr) :
  Turn P w K (.Tuple elts kk tpos) (Ite K a) [e,it] e (fun i h=>(∃ old,IsEnum h e it ((i:Nat):Int) old)∧h.IsListIter it a i∧e≠it) where
 mem:=by simp
 obj:=fun i h st b hb=>by
  obtain ⟨⟨old,he⟩,⟨o,ho,hc,hd⟩,_⟩:=st
  have e':b=e∨b=it:=by simpa using hb
  rcases e' with z | z
  ·rw [z];exact ⟨_,he,fun v q=>nomatch q⟩
  ·rw [z];exact ⟨o,ho,fun v q=>by rw [hd] at q;cases q⟩
 keep:=fun i h h' st k=>let ⟨⟨old,he⟩,hi,hne⟩:=st;⟨⟨old,k e (by simp) _ he⟩,hi.at fun o q=>k it (by simp) o q,hne⟩
 item:=by
  intro X hP hw hK hc i pins s σ H E I hf st hg
  subst hP hw hK
  obtain ⟨⟨old,he⟩,hit,hne⟩:=st
  obtain ⟨xs,x,hq,hx⟩:=hg
  obtain ⟨its,rv,p,hz⟩:=I.list hq
  obtain ⟨u,hu,ru⟩:=rv.get hx
  have hel:e<s.heap.objs.size:=Heap.lt_size he
  have hil:it<s.heap.objs.size:=by obtain ⟨_,q,_⟩:=hit;exact Heap.lt_size q
  refine wpAny_pyNext_enum_item he hit p.isList (x:=u) (by simpa using hu) hne fun h' ho hit' hT hsz hk=>?_
  refine ⟨_,rfl,wpAny_letOwnedTupleGo_enum (s:={ s with heap:=h',toks:=s.toks+1 }) ho fun h'' he' sb=>?_⟩
  have hT2:h''.get? s.heap.objs.size=some { cls:=.type "tuple",data:=.seq #[.int i s.toks,u] }:=(sb.2 _ (Nat.ne_of_gt hel)).trans hT
  have new:ObjOk X.prog X.w (upd H s.heap.objs.size (.tup [.int (i:Nat),x])) h'' s.heap.objs.size (.tup [.int (i:Nat),x]) :=
   ⟨by show 2≤sizeLine;decide,[.int i s.toks,u],.cons ⟨_,rfl⟩ (.cons ru .nil),⟨_,hT2,rfl,_,rfl⟩⟩
  have I1:Inv X pins σ (upd H s.heap.objs.size (.tup [.int (i:Nat),x])) { s with heap:=h'',toks:=s.toks+1 } :=
   I.turnedNew (ch:=[e,it]) (fun b ob hb q=>(sb.2 b (fun z=>hb (by simp [z]))).trans (hk b ob (fun z=>hb (by simp [z])) (fun z=>hb (by simp [z])) q)) hf (Nat.le_refl _) new
  refine ⟨.ref s.heap.objs.size,_,I1,rfl,⟨_,x,rfl,I.hok.fresh (Nat.le_refl _),rfl,fun ys hy=>by rw [I.list_inj hy hq];exact hx⟩,⟨⟨u,?_⟩,hit'.at fun o q=>(sb.2 it (Ne.symm hne)).trans q,hne⟩,fun b hb=>?_⟩
  ·have e1:((i+1:Nat):Int)=(i:Int)+1:=by omega
   rw [e1];exact he'
  ·have hb':b<s.heap.objs.size:=by
    have e':b=e∨b=it:=by simpa using hb
    rcases e' with z | z
    ·rw [z];exact hel
    ·rw [z];exact hil
   rw [upd_ne (Nat.ne_of_lt hb')]
   exact (hf b hb).1
 done:=by
  intro X hP hw hK hc i pins s σ H E I hf st hg
  subst hP hw hK
  obtain ⟨⟨old,he⟩,hit,hne⟩:=st
  obtain ⟨xs,hq,hx⟩:=hg
  obtain ⟨its,rv,p,hz⟩:=I.list hq
  obtain ⟨f0,f1,f2,f3,f4,f5⟩:=hf it (by simp)
  have hl:=rv.length
  exact wpAny_pyNext_enum_end (I.ok.hd hc) he hit p.isList (by simp;omega) fun h' eb=>⟨rfl,I.turned (t':=s.toks) (fun b o hb q=>eb b o hb q) f0 f1 f3 f4 f5⟩
 self:=fun A i s Q E st h=>let ⟨⟨_,he⟩,_⟩:=st;wpAny_pyIter_enum he h
def iEnum (K:PySem.W.Frag) (ta:TA):TI:=fun σ H R=>ta σ H fun vs H1=>∃ a xs,vs=[.ref a]∧SqL K H1 a xs∧R (Ite K a) H1
theorem pi_enum {X:Cx}{e:Expr}{ta:TA}{p pos tpos:Pos}{elts:List Expr}{kk:Nat} (hg:Gl X "enumerate") (hm:X.mg "enumerate"=none) (ha:PA X [e] ta) (hs:starEach [e] X.env=[(false,eval e X.env)]:=by rfl) :
  PI X (.Tuple elts kk tpos) (.Call (.Name "enumerate" p) [e] [] pos) (iEnum X.K ta):=by
 intro pins s σ H R I h
 refine Call_ (ld_blt I hg hm boot_enumerate (PyProof.Rows.callWith_type1 (thn (ha pos pins s σ H _ I h) fun us s1 ⟨vs,H1,I1,r1,q1⟩=>?_) hs rfl))
 obtain ⟨a,xs,ex,hq,q⟩:=q1
 subst ex
 cases r1 with
 | cons r rr =>
  cases rr
  cases r
  obtain ⟨its,rv,p',hz⟩:=I1.list hq
  refine call_enumerate_list p'.isList fun h' he hit hsz hk=>wpAny_pyIter_enum he ?_
  have I2:Inv X pins σ H1 { s1 with heap:=h' }:=I1.kept (t':=s1.toks) hk
  refine ⟨s1.heap.objs.size+1,[s1.heap.objs.size+1,s1.heap.objs.size],_,_,H1,rfl,I2,turn_enum a (s1.heap.objs.size+1) s1.heap.objs.size,⟨⟨.none,he⟩,hit,Nat.succ_ne_self _⟩,fun b hb=>?_,q⟩
  have e':b=s1.heap.objs.size+1∨b=s1.heap.objs.size:=by simpa using hb
  have hle:s1.heap.objs.size≤b:=by
   rcases e' with z | z
   ·rw [z];exact Nat.le_add_right _ _
   ·rw [z];exact Nat.le_refl _
  exact I1.fpOk hle (I1.hok.fresh hle)
end L2
section 
namespace Bits
open PySem PyProof.Rows
end Bits
end 
section 
namespace TL
open PySem PySem.Builtin PySem.Builtin.Str PySem.StrLaws
abbrev tl (x:Str):List Nat:=x.cps.toList
def pre (S l:List Nat):Bool:=l.take S.length==S
def par (S:List Nat):List Nat→List Nat→Option (List Nat×List Nat)
 | _,[]=>none
 | acc,c::r=>if pre S (c::r)=true then some (acc,(c::r).drop S.length) else par S (acc++[c]) r
def joinL (S:List Nat):List (List Nat)→List Nat
 | []=>[]
 | [p]=>p
 | p::q::r=>p++(S++joinL S (q::r))
end TL
end 
namespace L2
open PySem PySem.Spec PyProof.Rows
section
variable {X:Cx}{pins:List (Addr×Obj)}{σ:St}{H:Hp}{s:Shared}{Q:VK}
end
section
variable {X:Cx}
end
section
variable {X:Cx}{o e:Expr}{to te:TE}
end
end L2
namespace L2
open PySem PySem.Spec PyProof.Rows
section
variable {X:Cx}
end
end L2
namespace Att
open PySem PySem.W PySem.Calls PyProof.Rows
section
variable {prog:Program}{w:World}{A:Around}{E:Value→Shared→Prop}{s:Shared}{K:Frag}
end
end Att
namespace L2
open PySem PySem.Spec PyProof.Rows
end L2
namespace L2
open PySem PySem.Spec PyProof.Rows
end L2
namespace L2
open PySem PySem.Spec PyProof.Rows
def inClass (s:Stmt) (j:Nat):Stmt:=match s with
 | .ClassDef _ _ _ body _ _ _ _ _ _ _=>body.getD j (.Pass ⟨0,0,0,0⟩)
 | _=>.Pass ⟨0,0,0,0⟩
def defArgs (s:Stmt):Arguments:=match s with
 | .FunctionDef _ a _ _ _ _ _ _ _ _=>a
 | _=>{ posonlyargs:=[],args:=[],vararg:=none,kwonlyargs:=[],kw_defaults:=[],kwarg:=none,defaults:=[] }
def defBody (s:Stmt):List Stmt:=match s with
 | .FunctionDef _ _ b _ _ _ _ _ _ _=>b
 | _=>[]
def defScope (s:Stmt):Scope:=match s with
 | .FunctionDef _ _ _ _ _ _ sc _ _ _=>sc
 | _=>{ kind:=.function,names:=[],isGenerator:=false,isCoroutine:=false }
abbrev CX0:CXT:=fun _ _ _ _ _ _=>False
abbrev E0:XK:=fun _ _ _=>False
theorem pass0 {X:Cx}:Passes CX0 X E0:=fun _ _ _ _ _ _ _ h=>h.elim
structure Fun (K:PySem.W.Frag) (x qual:Str) (st:Stmt) (f:Addr) (fd:FuncData):Prop where
 ex:∃ (oc:Value) (od:Option Addr) (kV doc pm:Value) (an:Option Addr) (cdv ct:Value) (osl:Array (Option Value)),
  fd=PySem.W.fnOf x qual (defArgs st) (defBody st) (defScope st) .none kV doc pm an cdv ct∧K.lookup f=some ⟨oc,od,.func fd,osl⟩∧PySem.W.codeIn K cdv qual=true
 kp:PySem.W.keepIn K (.ref f)=true
section
variable {P:Program}{w:World}{K:PySem.W.Frag}{mg:Str→Option Value}{base:Heap}
theorem Fun.ok {x qual:Str}{st:Stmt}{f:Addr}{fd:FuncData}{N ps:List Str}{k:Nat}{sp:Sp} (F:Fun K x qual st f fd) (S:FnScope N ps (defScope st)) (len:∀ vs H Q E,sp vs H Q E→vs.length=ps.length)
  (hbody:∀ (cdv:Value) (A:Around) (outer:List Env) (s:Shared) (H:Hp) (vs:List V) (Q:VK) (E:XK),Room k (A.deeper (envOfC qual (defScope st) s.heap.objs.size f cdv))→sp vs H Q E →
   ∃ t,PSs (cxOf CX0 P w K mg base N qual (defScope st) f cdv A outer s H E).nox (defBody st) t∧t { nx:=fun _ H'=>Q .non H',rt:=Q } (start N vs) H):FnOk P w K mg base CX0 (k+1) f fd ps sp:=by
 obtain ⟨oc,od,kV,doc,pm,an,cdv,ct,osl,rfl,lk,hcd⟩:=F.ex
 refine fn_of lk hcd S len fun A outer s H vs Q E hr hsp=>?_
 obtain ⟨t,h,q⟩:=hbody cdv A outer s H vs Q E hr hsp
 exact ⟨t,h.nox,q⟩
theorem Fun.binds {x qual:Str}{st:Stmt}{f:Addr}{fd:FuncData}{ps:List Str} (F:Fun K x qual st f fd)
  (h:∀ (kV doc pm:Value) (an:Option Addr) (cdv ct:Value) (us:List Value),us.length=ps.length→bindArgs (PySem.W.fnOf x qual (defArgs st) (defBody st) (defScope st) .none kV doc pm an cdv ct) ⟨us,[]⟩=pure (ps.zip us)):Binds K fd ps []:=by
 obtain ⟨oc,od,kV,doc,pm,an,cdv,ct,osl,rfl,lk,hcd⟩:=F.ex
 exact .all (h kV doc pm an cdv ct)
theorem fun_mk {x qual:Str}{st:Stmt}{f:Addr}{oc:Value}{od an:Option Addr}{osl:Array (Option Value)}{kV doc pm cdv ct:Value} (l:K.lookup f=some ⟨oc,od,.func (PySem.W.fnOf x qual (defArgs st) (defBody st) (defScope st) .none kV doc pm an cdv ct),osl⟩)
  (c:PySem.W.codeIn K cdv qual=true) (k:PySem.W.keepIn K (.ref f)=true):Fun K x qual st f (PySem.W.fnOf x qual (defArgs st) (defBody st) (defScope st) .none kV doc pm an cdv ct):=⟨⟨oc,od,kV,doc,pm,an,cdv,ct,osl,rfl,l,c⟩,k⟩
end
theorem hu_of {A:Around}{k:Nat} (hr:Room k A):A.units+1<cLine:=Nat.lt_of_le_of_lt (Nat.add_le_add_left (by decide:1≤64) _) hr.units
section
variable {X:Cx}
theorem pv (i:Nat) {x:Str}{pos:Pos} (hN:X.N[i]?=some x:=by rfl) (hv:Vis X.env.scope x:=by first | exact Or.inl rfl | exact Or.inr (Or.inl rfl) | exact Or.inr (Or.inr rfl)) (hd:(x==("__debug__":Str))=false:=by decide)
  (hcd:(x==("__classdict__":Str))=false:=by decide):PE X (.Name x pos) (tVar i):=pe_var hN hv hd hcd
end
section
variable {κ:Type} [DecidableEq κ]
end
end L2
end
section
section
set_option maxRecDepth 100000
set_option maxHeartbeats 2000000
namespace L2
open PySem PySem.Spec PyProof.Rows
open PySem.W (WData Codec OpenSpec Well WellAll ReadsW ReadsAllW)
mutual
inductive Dw (K:PySem.W.Frag) (H:Hp):V→WData→Prop
 | non:Dw K H .non .none
 | bl (b:Bool):Dw K H (.bl b) (.bool b)
 | int (i:Int):Dw K H (.int i) (.int i)
 | str (x:Str):Dw K H (.str x) (.str x)
 | byt (b:Array UInt8):Dw K H (.byt b) (.bytes b.toList)
 | lst {a:Addr}{xs:List V}{ds:List WData}:SqL K H a xs→DwAll K H xs ds→Dw K H (.ref a) (.list ds)
 | tup {a:Addr}{xs:List V}{ds:List WData}:SqT K H a xs→DwAll K H xs ds→Dw K H (.ref a) (.tuple ds)
inductive DwAll (K:PySem.W.Frag) (H:Hp):List V→List WData→Prop
 | nil:DwAll K H [] []
 | cons {v:V}{vs:List V}{d:WData}{ds:List WData}:Dw K H v d→DwAll K H vs ds→DwAll K H (v::vs) (d::ds)
end
theorem dw_ints {K:PySem.W.Frag}{H:Hp}:∀ ns:List Int,DwAll K H (ns.map V.int) (ns.map WData.int)
 | []=>.nil
 | n::r=>.cons (.int n) (dw_ints r)
theorem ints_dw {K:PySem.W.Frag}{H:Hp}:∀ (ns:List Int) (xs:List V),DwAll K H xs (ns.map WData.int)→xs=ns.map V.int
 | [],xs,h=>by
  cases h
  rfl
 | n::r,xs,h=>by
  cases h with
  | cons h1 h2 =>
   cases h1
   rw [ints_dw r _ h2] <;> rfl
section
variable {P:Program}{w:World}{K:PySem.W.Frag}{H:Hp}{h:Heap}{R:PySem.W.WRecords}{cl:Str→Option Addr}
theorem sqL_at {a:Addr}{xs:List V} (hok:HOk P w H h) (KX:K.In h) (q:SqL K H a xs):∃ (its:List Value) (o:Obj) (n:Nat),Vals xs its∧h.get? a=some o∧o.cls=.type "list"∧o.data=.seq its.toArray n:=by
 rcases q with q | ⟨o,its,n,e,hc,_,hd,_,hv⟩
 ·obtain ⟨_,its,n,hv,e⟩:=(show ObjOk P w H h a (.lst xs) from q.ok hok)
  exact ⟨its,_,n,hv,e,rfl,rfl⟩
 ·exact ⟨its.toList,o,n,hv,KX _ _ e,hc,by simp [hd]⟩
theorem sqT_at {a:Addr}{xs:List V} (hok:HOk P w H h) (KX:K.In h) (q:SqT K H a xs):∃ (its:List Value) (o:Obj) (n:Nat),Vals xs its∧h.get? a=some o∧o.cls=.type "tuple"∧o.data=.seq its.toArray n:=by
 rcases q with q | ⟨o,its,n,e,hc,hd,_,hv⟩
 ·obtain ⟨_,its,hv,o,e,hc,n,hd⟩:=(show ObjOk P w H h a (.tup xs) from q.ok hok)
  exact ⟨its,o,n,hv,e,hc,hd⟩
 ·exact ⟨its.toList,o,n,hv,KX _ _ e,hc,by simp [hd]⟩
mutual
theorem Dw.reads (hok:HOk P w H h) (KX:K.In h):∀ (d:WData) (v:V) (u:Value),Dw K H v d→RelV v u→∃ as,ReadsW R cl h u d as
 | .none,_,_,x,r=>by
  cases x
  cases r
  exact ⟨_,ReadsW.none⟩
 | .bool b,_,_,x,r=>by
  cases x
  cases r
  exact ⟨_,ReadsW.bool b⟩
 | .int i,_,_,x,r=>by
  cases x
  obtain ⟨t,rfl⟩:=r
  exact ⟨_,ReadsW.int i t⟩
 | .str s,_,_,x,r=>by
  cases x
  obtain ⟨t,rfl⟩:=r
  exact ⟨_,ReadsW.str s t⟩
 | .bytes b,_,_,x,r=>by
  cases x
  obtain ⟨t,rfl⟩:=r
  exact ⟨_,ReadsW.bytes _ t⟩
 | .list ds,_,_,x,r=>by
  cases x with
  | lst hs ha =>
   cases r
   obtain ⟨its,o,n,rv,ho,hc,hd⟩:=sqL_at hok KX hs
   obtain ⟨as,hr⟩:=Dw.readsAll hok KX ds _ its ha rv
   exact ⟨_,ReadsW.list ho hc hd hr⟩
 | .tuple ds,_,_,x,r=>by
  cases x with
  | tup hs ha =>
   cases r
   obtain ⟨its,o,n,rv,ho,hc,hd⟩:=sqT_at hok KX hs
   obtain ⟨as,hr⟩:=Dw.readsAll hok KX ds _ its ha rv
   exact ⟨_,ReadsW.tuple ho hc hd hr⟩
 | .float _,_,_,x,_=>by cases x
 | .dict _,_,_,x,_=>by cases x
 | .bytearray _,_,_,x,_=>by cases x
 | .set _,_,_,x,_=>by cases x
 | .frozenset _,_,_,x,_=>by cases x
 | .obj _ _,_,_,x,_=>by cases x
theorem Dw.readsAll (hok:HOk P w H h) (KX:K.In h):∀ (ds:List WData) (vs:List V) (us:List Value),DwAll K H vs ds→Vals vs us→∃ as,ReadsAllW R cl h us ds as
 | [],_,_,x,r=>by
  cases x
  cases r
  exact ⟨_,ReadsAllW.nil⟩
 | d::ds,_,_,x,r=>by
  cases x with
  | cons h1 h2 =>
   cases r with
   | cons r1 r2 =>
    obtain ⟨as,q1⟩:=Dw.reads hok KX d _ _ h1 r1
    obtain ⟨bs,q2⟩:=Dw.readsAll hok KX ds _ _ h2 r2
    exact ⟨_,ReadsAllW.cons q1 q2⟩
end
end
mutual
def plW:WData→Bool
 | .none=>true
 | .bool _=>true
 | .int _=>true
 | .str _=>true
 | .bytes _=>true
 | .list xs=>plWs xs
 | .tuple xs=>plWs xs
 | _=>false
def plWs:List WData→Bool
 | []=>true
 | x::r=>plW x && plWs r
end
theorem plWs_map {α:Type}{f:α→WData} (h:∀ a,plW (f a)=true):∀ l:List α,plWs (l.map f)=true
 | []=>rfl
 | x::r=>by
  show (plW (f x) && plWs (r.map f))=true
  rw [h x,plWs_map h r] <;> rfl
theorem pl_enc:∀ (c:Codec) (a:c.denote),plW (c.enc a)=true
 | .unit,_=>rfl
 | .bool,_=>rfl
 | .int _ _,_=>rfl
 | .nat _ _,_=>rfl
 | .u8,_=>rfl
 | .bytes _ _,_=>rfl
 | .text _ _ _ _,_=>rfl
 | .list _ _ c,a=>plWs_map (fun x=>pl_enc c x) a
 | .pair c d,a=>by
  show (plW (c.enc a.1) && (plW (d.enc a.2) && true))=true
  rw [pl_enc c a.1,pl_enc d a.2] <;> rfl
 | .triple c d e,a=>by
  show (plW (c.enc a.1) && (plW (d.enc a.2.1) && (plW (e.enc a.2.2) && true)))=true
  rw [pl_enc c a.1,pl_enc d a.2.1,pl_enc e a.2.2] <;> rfl
 | .option c,none=>rfl
 | .option c,some x=>pl_enc c x
theorem pl_encAll:∀ (cs:List Codec) (a:Codec.denoteAll cs),plWs (Codec.encAll cs a)=true
 | [],_=>rfl
 | c::cs,a=>by
  show (plW (c.enc a.1) && plWs (Codec.encAll cs a.2))=true
  rw [pl_enc c a.1,pl_encAll cs a.2] <;> rfl
theorem weight_mem:∀ {xs:List WData}{d:WData},d∈xs→d.weight≤WData.weightAll xs
 | [],d,h=>absurd h (by simp)
 | x::r,d,h=>by
  show d.weight≤x.weight+1+WData.weightAll r
  rcases List.mem_cons.mp h with e | m
  ·rw [e]
   lia
  ·have z:=weight_mem m
   lia
def toV:Value→V
 | .none=>.non
 | .bool b=>.bl b
 | .int i _=>.int i
 | .str x _=>.str x
 | .bytes b _=>.byt b
 | .ref a=>.ref a
 | _=>.non
def OkU (A:List Addr):Value→Prop
 | .none=>True
 | .bool _=>True
 | .int _ _=>True
 | .str _ _=>True
 | .bytes _ _=>True
 | .ref a=>a∈A
 | _=>False
theorem OkU.mono {A B:List Addr} (h:∀ a∈A,a∈B):∀ {u:Value},OkU A u→OkU B u:=fun {u} x=>by
 cases u with
 | ref a=>exact h a x
 | none=>trivial
 | bool b=>trivial
 | int i t=>trivial
 | str s t=>trivial
 | bytes b t=>trivial
 | _=>exact False.elim x
theorem relV_toV {A:List Addr}{u:Value} (x:OkU A u):RelV (toV u) u:=by
 cases u with
 | ref a=>rfl
 | none=>rfl
 | bool b=>rfl
 | int i t=>exact ⟨t,rfl⟩
 | str s t=>exact ⟨t,rfl⟩
 | bytes b t=>exact ⟨t,rfl⟩
 | _=>exact False.elim x
theorem vals_toV {A:List Addr}:∀ {vs:List Value},(∀ u∈vs,OkU A u)→Vals (vs.map toV) vs
 | [],_=>.nil
 | u::r,h=>.cons (relV_toV (h u (List.mem_cons_self ..))) (vals_toV fun x hx=>h x (List.mem_cons_of_mem _ hx))
def ArgOb (h:Heap) (A:List Addr) (a:Addr):Prop:=∃ vs:List Value,vs.length≤sizeLine∧(∀ u∈vs,OkU A u) ∧
 (h.get? a=some { cls:=.type "list",data:=.seq vs.toArray }∨h.get? a=some { cls:=.type "tuple",data:=.seq vs.toArray })
theorem ArgOb.mono {h:Heap}{A B:List Addr}{a:Addr} (k:∀ a∈A,a∈B) (x:ArgOb h A a):ArgOb h B a:=by
 obtain ⟨vs,h1,h2,h3⟩:=x
 exact ⟨vs,h1,fun u hu=>(h2 u hu).mono k,h3⟩
theorem wellAll_len {P:Params}{h:Heap}:∀ {vs:List Value}{ds:List WData},WellAll P h vs ds→vs.length=ds.length
 | _,_,.nil=>rfl
 | _,_,.cons _ b=>by
  show _+1=_+1
  rw [wellAll_len b]
theorem well_list {P:Params}{h:Heap}{v:Value}{ds:List WData} (x:Well P h v (.list ds)):∃ (a:Addr) (vs:List Value),v=.ref a∧h.get? a=some { cls:=.type "list",data:=.seq vs.toArray }∧WellAll P h vs ds:=by
 cases x with
 | list ho hall=>exact ⟨_,_,rfl,ho,hall⟩
theorem well_tuple {P:Params}{h:Heap}{v:Value}{ds:List WData} (x:Well P h v (.tuple ds)):∃ (a:Addr) (vs:List Value),v=.ref a∧h.get? a=some { cls:=.type "tuple",data:=.seq vs.toArray }∧WellAll P h vs ds:=by
 cases x with
 | tuple ho hall=>exact ⟨_,_,rfl,ho,hall⟩
theorem well_cons {P:Params}{h:Heap}{us:List Value}{d:WData}{ds:List WData} (x:WellAll P h us (d::ds)):∃ (v:Value) (vs:List Value),us=v::vs∧Well P h v d∧WellAll P h vs ds:=by
 cases x with
 | cons a b=>exact ⟨_,_,rfl,a,b⟩
theorem line_of {n:Nat} (h:n≤1048576):n≤sizeLine:=Nat.le_trans h (by decide)
section
variable {P:Params}{h:Heap}
mutual
theorem area_one:∀ (d:WData) (v:Value),Well P h v d→plW d=true→d.weight≤1048576→∃ A:List Addr,OkU A v∧∀ a∈A,ArgOb h A a
 | .none,_,x,_,_=>by
  cases x
  exact ⟨[],trivial,fun a m=>absurd m (by simp)⟩
 | .bool b,_,x,_,_=>by
  cases x
  exact ⟨[],trivial,fun a m=>absurd m (by simp)⟩
 | .int i,_,x,_,_=>by
  cases x
  exact ⟨[],trivial,fun a m=>absurd m (by simp)⟩
 | .str s,_,x,_,_=>by
  cases x
  exact ⟨[],trivial,fun a m=>absurd m (by simp)⟩
 | .bytes b,_,x,_,_=>by
  cases x
  exact ⟨[],trivial,fun a m=>absurd m (by simp)⟩
 | .list ds,_,x,p,z=>by
  obtain ⟨a,vs,rfl,ho,hall⟩:=well_list x
  have z2:WData.weightAll ds≤1048576:=z
  obtain ⟨A,h1,h2⟩:=area_all ds _ hall p fun d hd=>Nat.le_trans (weight_mem hd) z2
  have k:∀ b∈A,b∈a::A:=fun b hb=>List.mem_cons_of_mem _ hb
  refine ⟨a::A,List.mem_cons_self ..,fun b hb=>?_⟩
  rcases List.mem_cons.mp hb with e | m
  ·rw [e]
   exact ⟨vs,line_of (by rw [wellAll_len hall];exact Nat.le_trans (PySem.W.length_le_weightAllW ds) z2),fun u hu=>(h1 u hu).mono k,.inl ho⟩
  ·exact (h2 b m).mono k
 | .tuple ds,_,x,p,z=>by
  obtain ⟨a,vs,rfl,ho,hall⟩:=well_tuple x
  have z2:WData.weightAll ds≤1048576:=z
  obtain ⟨A,h1,h2⟩:=area_all ds _ hall p fun d hd=>Nat.le_trans (weight_mem hd) z2
  have k:∀ b∈A,b∈a::A:=fun b hb=>List.mem_cons_of_mem _ hb
  refine ⟨a::A,List.mem_cons_self ..,fun b hb=>?_⟩
  rcases List.mem_cons.mp hb with e | m
  ·rw [e]
   exact ⟨vs,line_of (by rw [wellAll_len hall];exact Nat.le_trans (PySem.W.length_le_weightAllW ds) z2),fun u hu=>(h1 u hu).mono k,.inr ho⟩
  ·exact (h2 b m).mono k
 | .float _,_,_,p,_=>Bool.noConfusion (show false=true from p)
 | .dict _,_,_,p,_=>Bool.noConfusion (show false=true from p)
 | .bytearray _,_,_,p,_=>Bool.noConfusion (show false=true from p)
 | .set _,_,_,p,_=>Bool.noConfusion (show false=true from p)
 | .frozenset _,_,_,p,_=>Bool.noConfusion (show false=true from p)
 | .obj _ _,_,_,p,_=>Bool.noConfusion (show false=true from p)
theorem area_all:∀ (ds:List WData) (vs:List Value),WellAll P h vs ds→plWs ds=true→(∀ d∈ds,d.weight≤1048576)→∃ A:List Addr,(∀ u∈vs,OkU A u)∧∀ a∈A,ArgOb h A a
 | [],_,x,_,_=>by
  cases x
  exact ⟨[],fun u m=>absurd m (by simp),fun a m=>absurd m (by simp)⟩
 | d::ds,_,x,p,z=>by
  obtain ⟨v,vs,rfl,x1,x2⟩:=well_cons x
  have q:plW d=true∧plWs ds=true:=Bool.and_eq_true_iff.mp p
  obtain ⟨A,a1,a2⟩:=area_one d v x1 q.1 (z d (List.mem_cons_self ..))
  obtain ⟨B,b1,b2⟩:=area_all ds vs x2 q.2 fun e he=>z e (List.mem_cons_of_mem _ he)
  have kA:∀ b∈A,b∈A++B:=fun b hb=>List.mem_append.mpr (.inl hb)
  have kB:∀ b∈B,b∈A++B:=fun b hb=>List.mem_append.mpr (.inr hb)
  refine ⟨A++B,fun u hu=>?_,fun b hb=>?_⟩
  ·rcases List.mem_cons.mp hu with e | m
   ·rw [e]
    exact a1.mono kA
   ·exact (b1 u m).mono kB
  ·rcases List.mem_append.mp hb with m | m
   ·exact (a2 b m).mono kA
   ·exact (b2 b m).mono kB
end
end
def hoOf (o:Obj):Option HO:=match o.data with
 | .seq vs _=>if (o.cls==Value.type "list")=true then some (.frz o (.lst (vs.toList.map toV))) else some (.frz o (.tup (vs.toList.map toV)))
 | _=>none
def argH (K:PySem.W.Frag) (h:Heap) (A:List Addr):Hp:=fun b=>if b∈A then (if (K.lookup b).isNone=true then (h.get? b).bind hoOf else none) else none
def OnlyF (H:Hp):Prop:=∀ b,H b=none∨∃ o u,H b=some (.frz o u)
theorem hoOf_lst (vs:List Value):hoOf { cls:=.type "list",data:=.seq vs.toArray }=some (.frz { cls:=.type "list",data:=.seq vs.toArray } (.lst (vs.map toV))):=by
 show (if (Value.type "list"==Value.type "list")=true then some (HO.frz { cls:=.type "list",data:=.seq vs.toArray } (.lst (vs.toArray.toList.map toV))) else some (HO.frz { cls:=.type "list",data:=.seq vs.toArray } (.tup (vs.toArray.toList.map toV))))=_
 rw [if_pos (beq_self_eq_true _)]
theorem hoOf_tup (vs:List Value):hoOf { cls:=.type "tuple",data:=.seq vs.toArray }=some (.frz { cls:=.type "tuple",data:=.seq vs.toArray } (.tup (vs.map toV))):=by
 show (if (Value.type "tuple"==Value.type "list")=true then some (HO.frz { cls:=.type "tuple",data:=.seq vs.toArray } (.lst (vs.toArray.toList.map toV))) else some (HO.frz { cls:=.type "tuple",data:=.seq vs.toArray } (.tup (vs.toArray.toList.map toV))))=_
 rw [if_neg (by decide)]
section
variable {P:Program}{w:World}{K:PySem.W.Frag}{h:Heap}{A:List Addr}
theorem argH_at {b:Addr}{o:Obj} (hb:b∈A) (hk:K.lookup b=none) (e:h.get? b=some o):argH K h A b=hoOf o:=by
 unfold argH
 rw [if_pos hb,hk,if_pos (show (none:Option Obj).isNone=true from rfl),e] <;> rfl
theorem of_argH {b:Addr}{u:HO} (q:argH K h A b=some u):b∈A∧K.lookup b=none:=by
 unfold argH at q
 by_cases hb:b∈A
 ·rw [if_pos hb] at q
  cases hk:K.lookup b with
  | none=>exact ⟨hb,rfl⟩
  | some o =>
   rw [hk,if_neg (by simp)] at q
   cases q
 ·rw [if_neg hb] at q
  cases q
theorem argH_is (ar:∀ a∈A,ArgOb h A a) {b:Addr}{u:HO} (q:argH K h A b=some u):K.lookup b=none∧∃ vs:List Value,vs.length≤sizeLine∧(∀ u∈vs,OkU A u) ∧
  ((h.get? b=some { cls:=.type "list",data:=.seq vs.toArray }∧u=.frz { cls:=.type "list",data:=.seq vs.toArray } (.lst (vs.map toV))) ∨
   (h.get? b=some { cls:=.type "tuple",data:=.seq vs.toArray }∧u=.frz { cls:=.type "tuple",data:=.seq vs.toArray } (.tup (vs.map toV)))):=by
 obtain ⟨hb,hk⟩:=of_argH q
 obtain ⟨vs,h1,h2,h3⟩:=ar b hb
 refine ⟨hk,vs,h1,h2,?_⟩
 rcases h3 with e | e
 ·rw [argH_at hb hk e,hoOf_lst] at q
  exact .inl ⟨e,(Option.some.inj q).symm⟩
 ·rw [argH_at hb hk e,hoOf_tup] at q
  exact .inr ⟨e,(Option.some.inj q).symm⟩
theorem argH_only (ar:∀ a∈A,ArgOb h A a):OnlyF (argH K h A):=fun b=>by
 cases q:argH K h A b with
 | none=>exact .inl rfl
 | some u =>
  obtain ⟨_,vs,_,_,⟨_,e⟩ | ⟨_,e⟩⟩:=argH_is ar q
  ·exact .inr ⟨_,_,by rw [e]⟩
  ·exact .inr ⟨_,_,by rw [e]⟩
theorem argH_ok (ar:∀ a∈A,ArgOb h A a):HOk P w (argH K h A) h:=fun b u q=>by
 obtain ⟨_,vs,h1,h2,⟨e,rfl⟩ | ⟨e,rfl⟩⟩:=argH_is ar q
 ·exact ⟨e,by rw [List.length_map];exact h1,vs,_,vals_toV h2,e⟩
 ·exact ⟨e,by rw [List.length_map];exact h1,vs,vals_toV h2,_,e,rfl,_,rfl⟩
theorem seq_inj {c c':Value}{vs us:List Value} (e:(some { cls:=c,data:=.seq vs.toArray }:Option Obj)=some { cls:=c',data:=.seq us.toArray }):c=c'∧vs=us:=by
 have e1:=Option.some.inj e
 have e2:c=c':=congrArg Obj.cls e1
 have e3:Data.seq vs.toArray=Data.seq us.toArray:=congrArg Obj.data e1
 injection e3 with e4
 refine ⟨e2,?_⟩
 have e5:=congrArg Array.toList e4
 simpa using e5
theorem argL (KX:K.In h) (ar:∀ a∈A,ArgOb h A a) {a:Addr}{vs:List Value} (ha:a∈A) (e:h.get? a=some { cls:=.type "list",data:=.seq vs.toArray }):(∀ u∈vs,OkU A u)∧SqL K (argH K h A) a (vs.map toV):=by
 obtain ⟨us,h1,h2,h3⟩:=ar a ha
 have hu:us=vs:=by
  rcases h3 with q | q
  ·rw [e] at q
   exact (seq_inj q).2.symm
  ·rw [e] at q
   exact absurd (Value.type.inj (seq_inj q).1) (by decide)
 subst hu
 refine ⟨h2,?_⟩
 cases hk:K.lookup a with
 | none=>exact .inl (.inr ⟨_,by rw [argH_at ha hk e,hoOf_lst]⟩)
 | some o =>
  have e2:=KX a o hk
  rw [e] at e2
  obtain rfl:=Option.some.inj e2
  exact .inr ⟨_,us.toArray,_,hk,rfl,rfl,rfl,by rw [List.size_toArray];exact h1,by simpa using vals_toV h2⟩
theorem argT (KX:K.In h) (ar:∀ a∈A,ArgOb h A a) {a:Addr}{vs:List Value} (ha:a∈A) (e:h.get? a=some { cls:=.type "tuple",data:=.seq vs.toArray }):(∀ u∈vs,OkU A u)∧SqT K (argH K h A) a (vs.map toV):=by
 obtain ⟨us,h1,h2,h3⟩:=ar a ha
 have hu:us=vs:=by
  rcases h3 with q | q
  ·rw [e] at q
   exact absurd (Value.type.inj (seq_inj q).1) (by decide)
  ·rw [e] at q
   exact (seq_inj q).2.symm
 subst hu
 refine ⟨h2,?_⟩
 cases hk:K.lookup a with
 | none=>exact .inl (.inr ⟨_,by rw [argH_at ha hk e,hoOf_tup]⟩)
 | some o =>
  have e2:=KX a o hk
  rw [e] at e2
  obtain rfl:=Option.some.inj e2
  exact .inr ⟨_,us.toArray,_,hk,rfl,rfl,by rw [List.size_toArray];exact h1,by simpa using vals_toV h2⟩
mutual
theorem dw_one {Pm:Params} (KX:K.In h) (ar:∀ a∈A,ArgOb h A a):∀ (d:WData) (v:Value),Well Pm h v d→plW d=true→OkU A v→Dw K (argH K h A) (toV v) d
 | .none,_,x,_,_=>by
  cases x
  exact .non
 | .bool b,_,x,_,_=>by
  cases x
  exact .bl b
 | .int i,_,x,_,_=>by
  cases x
  exact .int i
 | .str s,_,x,_,_=>by
  cases x
  exact .str s
 | .bytes b,_,x,_,_=>by
  cases x
  have z:=Dw.byt (K:=K) (H:=argH K h A) b.toArray
  exact z
 | .list ds,_,x,p,hu=>by
  obtain ⟨a,vs,rfl,ho,hall⟩:=well_list x
  obtain ⟨h2,hs⟩:=argL KX ar hu ho
  exact .lst hs (dw_all KX ar ds _ hall p h2)
 | .tuple ds,_,x,p,hu=>by
  obtain ⟨a,vs,rfl,ho,hall⟩:=well_tuple x
  obtain ⟨h2,hs⟩:=argT KX ar hu ho
  exact .tup hs (dw_all KX ar ds _ hall p h2)
 | .float _,_,_,p,_=>Bool.noConfusion (show false=true from p)
 | .dict _,_,_,p,_=>Bool.noConfusion (show false=true from p)
 | .bytearray _,_,_,p,_=>Bool.noConfusion (show false=true from p)
 | .set _,_,_,p,_=>Bool.noConfusion (show false=true from p)
 | .frozenset _,_,_,p,_=>Bool.noConfusion (show false=true from p)
 | .obj _ _,_,_,p,_=>Bool.noConfusion (show false=true from p)
theorem dw_all {Pm:Params} (KX:K.In h) (ar:∀ a∈A,ArgOb h A a):∀ (ds:List WData) (vs:List Value),WellAll Pm h vs ds→plWs ds=true→(∀ u∈vs,OkU A u)→DwAll K (argH K h A) (vs.map toV) ds
 | [],_,x,_,_=>by
  cases x
  exact .nil
 | d::ds,_,x,p,hu=>by
  obtain ⟨v,vs,rfl,x1,x2⟩:=well_cons x
  have q:plW d=true∧plWs ds=true:=Bool.and_eq_true_iff.mp p
  exact .cons (dw_one KX ar d v x1 q.1 (hu _ (List.mem_cons_self ..))) (dw_all KX ar ds vs x2 q.2 fun u m=>hu u (List.mem_cons_of_mem _ m))
end
end
theorem layable_weight {ds:List WData} (h:WData.layableAll ds=true):∀ d∈ds,d.weight≤1048576:=fun d hd =>
 (PySem.W.layableW_iff.mp (List.all_eq_true.mp h d hd)).2.2
theorem encAll_len:∀ (cs:List Codec) (a:Codec.denoteAll cs),(Codec.encAll cs a).length=cs.length
 | [],_=>rfl
 | c::cs,a=>by
  show (Codec.encAll cs a.2).length+1=cs.length+1
  rw [encAll_len cs a.2]
end L2
end
end
section
set_option maxRecDepth 100000
namespace L2
open PySem PySem.Spec PyProof.Rows
theorem ObjOk.is {P:Program}{w:World}{H:Hp}{h:Heap}{a:Addr}{o:HO} (x:ObjOk P w H h a o):∃ ob,h.get? a=some ob:=by
 cases o with
 | lst xs=>exact let ⟨_,_,_,_,e⟩:=x;⟨_,e⟩
 | tup xs=>exact let ⟨_,_,_,ob,e,_⟩:=x;⟨ob,e⟩
 | dK kvs=>exact let ⟨_,_,_,_,ob,_,_,e,_⟩:=x;⟨ob,e⟩
 | dT kvs=>exact let ⟨_,_,_,_,ob,_,_,e,_⟩:=x;⟨ob,e⟩
 | set S n=>exact let ⟨ob,_,_,_,e,_⟩:=x;⟨ob,e⟩
 | ins C dx fs=>exact let ⟨_,_,_,e,_⟩:=x;⟨_,e⟩
 | own y=>exact x
 | xd fs=>exact let ⟨_,⟨ob,_,_,e,_⟩,_⟩:=x;⟨ob,e⟩
 | rng lo hi=>exact let ⟨_,_,_,e⟩:=x;⟨_,e⟩
 | frz ob u=>exact let ⟨e,_⟩:=x;⟨_,e⟩
 | tbl ps=>exact ⟨_,(show h.get? a=some _ from x)⟩
 | met f y=>exact ⟨_,(show h.get? a=some _ from x)⟩
 | ext φ=>exact let ⟨_,e,_⟩:=x;e
theorem HOk.none {P:Program}{w:World}{H:Hp}{h:Heap}{a:Addr} (x:HOk P w H h) (e:h.get? a=Option.none):H a=Option.none:=by
 cases q:H a with
 | none=>rfl
 | some o =>
  obtain ⟨ob,z⟩:=(x a o q).is
  rw [e] at z;cases z
def Fly (h:Heap) (e T:Addr) (cls:Value):Prop :=
 ∃ oe vs a0 oT ts,h.get? e=some oe∧(oe.cls=cls∧vs[0]?=some a0)∧oe.data=.fields vs∧vs[1]?=some (.ref T)∧T≠e∧h.get? T=some oT∧oT.data=.fields ts∧ts[3]?=some .none
structure Flown (P:Program) (w:World) (cls:Value) (l:List Env) (H H':Hp) (h h':Heap) (e T:Addr):Prop where
 un:Un (frs l) [] H H' h h'
 hok:HOk P w H' h'
 ne:h.get? e=none
 nT:h.get? T=none
 fe:H' e=none
 fT:H' T=none
 fly:Fly h' e T cls
def CX1 (P:Program) (w:World) (C:Addr):CXT:=fun outer H s E v s' =>
 ∃ e T H',v=.ref e∧s'.os=s.os∧AllBare s'.gens∧Flown P w (.ref C) outer H H' s.heap s'.heap e T∧E (.ref C) none H'
def cover (h:Heap) (l:List Env) (e T:Addr):Heap:=PySem.W.hideAll h (frs l++[e,T])
theorem cover_get {h:Heap}{l:List Env}{e T b:Addr}{o:Obj} (q:h.get? b=some o) (n:b ∉ frs l) (ne:b≠e) (nT:b≠T):(cover h l e T).get? b=some o :=
 PySem.W.hideAll_get _ q fun m=>by
  rcases List.mem_append.mp m with z | z
  ·exact n z
  ·simp at z;exact z.elim ne nT
theorem cover_stays {h:Heap}{l:List Env}{e T:Addr}:(cover h l e T).StaysIn h:=fun _ _ q=>PySem.W.of_hideAll _ q
theorem flown_on {P:Program}{w:World}{cls a0:Value}{l l':List Env}{H H':Hp}{h h' h2:Heap}{e T:Addr}{bs:Heap} (un:Un (frs l) [] H H' h h') (hok:HOk P w H' h') (ne:h.get? e=none) (nT:h.get? T=none) (fe:H' e=none) (fT:H' T=none)
  (hf:h'.FunFrames bs l) (fr:∀ b∈frs l,H' b=none) (fl:Heap.FlyingW (cover h' l e T) l' e cls a0 h2) (up:h'.UpToSlots h2) :
  ∃ T',Flown P w cls l H H' h h2 e T':=by
 obtain ⟨st,_,_,oe,vs,T',oT,ts,he,hc,hd,h1,nT',hne,hT,hdT,h3⟩:=fl
 have kp:∀ b o,h'.get? b=some o→b ∉ frs l→b≠e→b≠T→h2.get? b=some o:=fun b o q n n1 n2=>st b o (cover_get q n n1 n2)
 have sl:∀ b o,h'.get? b=some o→b∈frs l→∃ s,h2.get? b=some { o with slots:=s }:=fun b o q m=>by
  obtain ⟨_,o',ho',hnf⟩:=hf.mem m
  rw [q] at ho';cases ho'
  exact up b o q hnf
 have nn:∀ b o,h.get? b=some o→b≠e∧b≠T:=fun b o q=>⟨fun z=>(by rw [z,ne] at q;cases q),fun z=>(by rw [z,nT] at q;cases q)⟩
 have tk:∀ b u,H' b=some u→b ∉ frs l∧b≠e∧b≠T:=fun b u q=>⟨fun z=>(by rw [fr b z] at q;cases q),fun z=>(by rw [z,fe] at q;cases q),fun z=>(by rw [z,fT] at q;cases q)⟩
 have nofr:T' ∉ frs l:=fun m=>by
  obtain ⟨_,o',ho',hnf⟩:=hf.mem m
  obtain ⟨s,hs⟩:=sl T' o' ho' m
  rw [hT] at hs;cases hs
  exact hnf _ hdT
 refine ⟨T',⟨fun b o q n hb hx=>kp b o (un.keep b o q n hb hx) hb (nn b o q).1 (nn b o q).2,fun b o q n hb hx=>?_,un.free,fun b o q hx=>?_,un.tups,un.frzs,un.tbls⟩,fun b u q=>?_,ne,?_,fe,?_,⟨oe,vs,a0,oT,ts,he,hc,hd,h1,hne,hT,hdT,h3⟩⟩
 ·obtain ⟨s,e1⟩:=un.slot b o q n hb hx
  obtain ⟨s2,e2⟩:=sl b _ e1 hb
  exact ⟨s2,e2⟩
 ·obtain ⟨o',e1⟩:=un.there b o q hx
  by_cases m:b∈frs l
  ·obtain ⟨s,e2⟩:=sl b _ e1 m
   exact ⟨_,e2⟩
  ·exact ⟨o',kp b o' e1 m (nn b o q).1 (nn b o q).2⟩
 ·refine (hok b u q).stay (fun c v hc r=>?_) (fun _ z=>z) fun _ _ z=>z
  have z:∃ u',H' c=some u':=by
   rcases hc with rfl | hc
   ·exact ⟨u,q⟩
   ·exact ⟨_,hc⟩
  obtain ⟨u',z⟩:=z
  exact kp c v r (tk c u' z).1 (tk c u' z).2.1 (tk c u' z).2.2
 ·cases q:h.get? T' with
  | none=>rfl
  | some o =>
   obtain ⟨o',e1⟩:=un.there T' o q (by simp)
   rw [cover_get e1 nofr hne (nn T' o q).2] at nT'
   cases nT'
 ·cases q:H' T' with
  | none=>rfl
  | some u =>
   obtain ⟨ob,z⟩:=(hok _ _ q).is
   rw [cover_get z nofr hne (tk _ _ q).2.2] at nT'
   cases nT'
theorem cover_e {h:Heap}{l:List Env}{e T:Addr}:(cover h l e T).get? e=none:=PySem.W.hideAll_none _ (by simp)
theorem cover_T {h:Heap}{l:List Env}{e T:Addr}:(cover h l e T).get? T=none:=PySem.W.hideAll_none _ (by simp)
theorem cover_frames {h bs:Heap}{l:List Env}{e T:Addr} (hf:h.FunFrames bs l):h.FunFrames (cover h l e T) l :=
 PySem.W.funFrames_hide hf fun env he a ha=>List.mem_append_left _ (List.mem_filterMap.mpr ⟨env,he,ha⟩)
theorem Fly.traced {h:Heap}{l:List Env}{e T:Addr}{cls:Value} (f:Fly h e T cls):∃ a0,h.TracedW (cover h l e T) e cls a0:=by
 obtain ⟨oe,vs,a0,oT,ts,he,hc,hd,h1,hne,hT,hdT,h3⟩:=f
 exact ⟨a0,oe,vs,T,oT,ts,he,hc,hd,h1,cover_T,hne,hT,hdT,h3⟩
theorem Inv.flown {X:Cx}{pins:List (Addr×Obj)}{σ:St}{H H':Hp}{s s':Shared}{cls:Value}{e T:Addr} (I:Inv X pins σ H s) (os:s'.os=s.os) (bare:AllBare s'.gens)
  (F:Flown X.prog X.w cls X.stack H H' s.heap s'.heap e T):Inv X pins σ H' s':=I.call' os F.un F.hok bare fun b z=>absurd z (by simp)
section
variable {P:Program}{w:World}{K:PySem.W.Frag}{mg:Str→Option Value}{base:Heap}{N:List Str}{qual:Str}{scope:Scope}{f C:Addr}{cd:Value}{A:Around}{outer:List Env}{s:Shared}{H:Hp}{E:XK}
abbrev cxE (P:Program) (w:World) (K:PySem.W.Frag) (mg:Str→Option Value) (base:Heap) (C:Addr) (N:List Str) (qual:Str) (scope:Scope) (f:Addr) (cd:Value) (A:Around) (outer:List Env) (s:Shared) (H:Hp) (E:XK):Cx :=
 cxOf (CX1 P w C) P w K mg base N qual scope f cd A outer s H E
theorem flown_out {pins:List (Addr×Obj)}{σ:St}{H1 H':Hp}{s1 s2:Shared}{e T:Addr} (I:Inv (cxE P w K mg base C N qual scope f cd A outer s H E) pins σ H1 s1) (os:s2.os=s1.os) (bare:AllBare s2.gens)
  (F:Flown P w (.ref C) (cxE P w K mg base C N qual scope f cd A outer s H E).stack H1 H' s1.heap s2.heap e T) (hE:E (.ref C) none H'):CX1 P w C outer H s E (.ref e) s2:=by
 have J:=I.flown os bare F
 have old:∀ b,s1.heap.get? b=none→s.heap.get? b=none:=fun b n=>by
  cases q:s.heap.get? b with
  | none=>rfl
  | some o =>
   obtain ⟨o',z⟩:=I.base.there b o q (by show b ∉ ([]:List Addr);simp)
   rw [n] at z;cases z
 exact ⟨e,T,H',rfl,J.os,J.bare,⟨J.base,J.hok,old _ F.ne,old _ F.nT,F.fe,F.fT,F.fly⟩,hE⟩
theorem passX:Passes (CX1 P w C) (cxE P w K mg base C N qual scope f cd A outer s H E) E:=by
 intro pins σ H1 s1 v s' I h
 obtain ⟨e,T,H',rfl,os,bare,F,hE⟩:=h
 have J:=I.flown os bare F
 obtain ⟨a0,tr⟩:=F.fly.traced (l:=(cxE P w K mg base C N qual scope f cd A outer s H E).stack)
 refine wpAny_leaves_onW (L:=s.heap.objs.size) J.ok.frames rfl ⟨cover_stays,cover_e,cover_frames J.stack,tr⟩ fun h2 fl up=>?_
 obtain ⟨T',F'⟩:=flown_on F.un F.hok F.ne F.nT F.fe F.fT J.stack J.stkFree fl up
 exact flown_out (s2:={ s' with heap:=h2 }) I os bare F' hE
theorem throwX {pins:List (Addr×Obj)}{σ:St}{H1:Hp}{s1:Shared}{e:Addr}{h':Heap}{vs:List Value} (I:Inv (cxE P w K mg base C N qual scope f cd A outer s H E) pins σ H1 s1) (m:Heap.MadeExcOf s1.heap h' e (.ref C) vs) (hE:E (.ref C) none H1) :
  (cxE P w K mg base C N qual scope f cd A outer s H E).xe (.ref e) { s1 with heap:=h' }:=by
 have fe:=I.hok.none m.new
 refine wpAny_leaves_madeW (base:=cover s1.heap (cxE P w K mg base C N qual scope f cd A outer s H E).stack e e) (h:=s1.heap) (L:=s.heap.objs.size) I.ok.frames rfl cover_stays (cover_frames I.stack) m fun h2 t fl _ _ up=>?_
 obtain ⟨T',F'⟩:=flown_on (Un.refl) I.hok m.new m.new fe fe I.stack I.stkFree fl ((Heap.UpToSlots.of_keeps m.keeps).trans up)
 exact flown_out (s2:={ s1 with heap:=h2 }) I rfl I.bare F' hE
end
structure Exc (K:PySem.W.Frag) (mg:Str→Option Value) (x:Str) (C:Addr):Prop where
 mgE:mg x=some (.ref C)
 q:PySem.W.excIn K C [.type "ValueError",.type "Exception",.type "BaseException",.type "object"] "ValueError.__new__"=true
theorem Exc.obj {K:PySem.W.Frag}{mg:Str→Option Value}{x:Str}{C:Addr}{h:Heap} (T:Exc K mg x C) (X:K.In h) :
  OwnCls x C [.type "ValueError",.type "Exception",.type "BaseException",.type "object"] "ValueError.__new__" mg h:=by
 refine ⟨T.mgE,?_⟩
 have q:=T.q
 unfold PySem.W.excIn at q
 split at q
 ·rename_i dd cd sl ho
  split at q
  ·rename_i C' bm k0 k1 k2 k3 n k5 hm hs
   simp only [Bool.and_eq_true,beq_iff_eq,Bool.not_eq_true'] at q
   obtain ⟨⟨⟨⟨⟨e1,e2⟩,e3⟩,e4⟩,e5⟩,e6⟩:=q
   subst e1;subst e2
   obtain ⟨nm,bs,mro,ns,qn,hd,sn,sub,ab,col,del⟩:=cd
   dsimp only at hm e3 e5 e6
   subst hm;subst e3
   have es:sl=#[k0,k1,k2,k3,some (.builtin "ValueError.__new__"),k5]:=by
    cases sl;simp only at hs;rw [hs]
   subst es
   exact ⟨bm,ns,nm,qn,bs,hd,sn,sub,ab,col,dd,k0,k1,k2,k3,k5,_,X _ _ ho,.of_isNs (PySem.W.isNs_of_in X e5),PySem.W.nsMap_none_of_in X e5 e6,PySem.W.tail_of_in X e4⟩
  ·cases q
 ·cases q
def tRaise (C:Addr) (E:XK) (ta:TA):TS:=fun _ σ H=>ta σ H fun vs H1=>vs.length≤sizeLine∧E (.ref C) none H1
theorem ps_raise {P:Program}{w:World}{K:PySem.W.Frag}{mg:Str→Option Value}{base:Heap}{N:List Str}{qual:Str}{scope:Scope}{f C:Addr}{cd:Value}{A:Around}{outer:List Env}{s:Shared}{H:Hp}{E:XK}{x:Str}{np cpos pos:Pos}{a:Expr}{as:List Expr}{ta:TA}
  (T:Exc K mg x C) (hg:Gl (cxE P w K mg base C N qual scope f cd A outer s H E) x) (ha:PA (cxE P w K mg base C N qual scope f cd A outer s H E) (a::as) ta)
  (he:starEach (a::as) (cxE P w K mg base C N qual scope f cd A outer s H E).env=(false,eval a (cxE P w K mg base C N qual scope f cd A outer s H E).env)::starEach as (cxE P w K mg base C N qual scope f cd A outer s H E).env:=by rfl)
  (hpl:(backTo cpos (starEach as (cxE P w K mg base C N qual scope f cd A outer s H E).env)).any (·.1)=false:=by rfl) (hdb:(x==("__debug__":Str))=false:=by decide) :
  PS (cxE P w K mg base C N qual scope f cd A outer s H E) (.Raise (some (.Call (.Name x np) (a::as) [] cpos)) none pos) (tRaise C E ta):=by
 intro pins s1 σ H1 D I h
 obtain ⟨bm,N',nm,q,bs,hdct,sn,sub,ab,col,dd,k0,k1,k2,k3,k5,mN,hC,hN,hni,TL⟩:=(T.obj I.ok.mod.kin).obj
 refine wpAny_Raise_call_subU (C:=C) (nm:=nm) (q:=q) (N:=N') (bs:=bs) (bm:=bm) (hdct:=hdct) (sn:=sn) (sub:=sub) (ab:=ab) (col:=col) (dd:=dd) (k0:=k0) (k1:=k1) (k2:=k2) (k3:=k3) (k5:=k5) (mN:=mN)
  PySem.F.excBase_ValueError (by decide) PySem.F.excBase_ValueError (TL.hasType (by decide)) (I.ok.hd rfl) (by rw [he];exact hpl) hni (ld_glob I hg T.mgE ⟨rfl,?_⟩ hdb)
 have hw:=ha cpos pins s1 σ H1 _ I h
 rw [he] at hw ⊢
 refine Calls.evalArgs_plain (thn hw fun us s2 ⟨vs,H2,I2,r,hl,hq⟩=>⟨rfl,?_,I2.bk _ _ hC,hN.keeps I2.bk,TL.keeps I2.bk,fun h' e m=>throwX I2 m hq⟩)
 show us.length≤sizeLine
 rw [← r.length];exact hl
abbrev Cx.marked (X:Cx) (e:Addr):Cx:={ X with A:=X.A.mark (some (.ref e)),calm:=false,xe:=fun _ _=>False }
section
variable {X:Cx}{pins:List (Addr×Obj)}{σ:St}{H:Hp}{s:Shared}{e:Addr}
theorem Inv.marked (I:Inv X pins σ H s) (e:Addr):Inv (X.marked e) pins σ H s :=
 ⟨⟨I.ok.mod,I.ok.kind,I.ok.glob,I.ok.blt,I.ok.above,I.ok.inj,I.ok.has,I.ok.cab,fun z=>absurd z (by simp),I.ok.frames,I.ok.stk,I.ok.exf,I.ok.bs,I.ok.bsz,I.ok.noex,I.ok.exfs,I.ok.funs,I.ok.frf⟩,
  I.os,I.bare,I.base,I.loc,I.cell,I.free,I.freeC,I.pin,I.hok,I.len⟩
theorem Inv.unmarked (ok:X.Ok) (I:Inv (X.marked e) pins σ H s):Inv X pins σ H s :=
 ⟨ok,I.os,I.bare,I.base,I.loc,I.cell,I.free,I.freeC,I.pin,I.hok,I.len⟩
theorem SP.unmarked (ok:X.Ok) {D:Ends}{f:Flow}{s':Shared} (h:SP (X.marked e) pins D f s'):SP X pins D f s':=by
 cases f with
 | next=>obtain ⟨σ',H',I,q⟩:=h;exact ⟨σ',H',I.unmarked ok,q⟩
 | brk=>obtain ⟨σ',H',I,q⟩:=h;exact ⟨σ',H',I.unmarked ok,q⟩
 | cont=>obtain ⟨σ',H',I,q⟩:=h;exact ⟨σ',H',I.unmarked ok,q⟩
 | ret u=>obtain ⟨v,σ',H',I,r,q⟩:=h;exact ⟨v,σ',H',I.unmarked ok,r,q⟩
end
abbrev TX:=Ends→XK→St→Hp→Prop
def FlewAt (X:Cx) (C:Addr) (pins:List (Addr×Obj)) (σ:St) (E:XK) (v:Value) (s':Shared):Prop:=∃ s1 H1,Inv X pins σ H1 s1∧CX1 X.prog X.w C X.stack H1 s1 E v s'
def PXS (X:Cx) (C:Addr) (st:Stmt) (t:TX):Prop :=
 ∀ (pins:List (Addr×Obj)) (s:Shared) (σ:St) (H:Hp) (D:Ends) (E:XK),Inv X pins σ H s→t D E σ H→wpAny (model X.prog X.w) X.A (exec st X.env) (SP X pins D) (FlewAt X C pins σ E) s
def PXE (X:Cx) (C:Addr) (e:Expr) (t:St→Hp→VK→XK→Prop):Prop :=
 ∀ (pins:List (Addr×Obj)) (s:Shared) (σ:St) (H:Hp) (Q:VK) (E:XK),Inv X pins σ H s→t σ H Q E→wpAny (model X.prog X.w) X.A (eval e X.env) (EP X pins σ Q) (FlewAt X C pins σ E) s
def tCallX (sp:Sp) (dvs:List V) (t:TA):St→Hp→VK→XK→Prop:=fun σ H Q E=>t σ H fun vs H1=>sp (vs++dvs) H1 Q E
section
variable {X:Cx}{k:Nat}{f C:Addr}{fd:FuncData}{ps:List Str}{sp:Sp}{dvs:List V}{ds:List Value}{x:Str}{p pos:Pos}{e:Expr}{es:List Expr}{t:TA}
theorem pxs_set {i:Nat}{y:Str}{pos':Pos}{te:St→Hp→VK→XK→Prop} (hN:X.N.Nodup) (hi:X.N[i]?=some y) (hx:Loc X.env.scope y) (he:PXE X C e te) (hs:swapsWith e (some (.Name y pos')) pos.line X.env=pure false:=by rfl)
  (hf:X.fn y=true∨X.env.scope.names.lookup y=some .local:=by first | exact .inl rfl | exact .inr rfl | assumption):PXS X C (.Assign [.Name y pos'] e pos) (fun D E σ H=>te σ H (fun v H1=>D.nx (σ.set i (some v)) H1) E):=by
 intro pins s σ H D E I h
 refine wpAny_Assign_Name (thn (he pins s σ H _ E I h) fun v s1 ⟨z,H1,I1,r1,q1⟩=>?_) hs
 exact store_ok I1 hN hi hx r1 (fun s2 I2=>⟨_,H1,I2,q1⟩) hf
theorem caught {x:Str}{np hpos:Pos}{b0:Stmt}{suite:List Stmt}{ts:Addr→TS}{pins:List (Addr×Obj)}{σ:St}{D:Ends}{v:Value}{s':Shared} (T:Exc X.K X.mg x C) (hg:Gl X x) (hst:X.stack=X.env::X.outer∧X.env.frame=some X.env.locals)
  (hs:∀ e,PSs (X.marked e) (b0::suite) (ts e)) (h:FlewAt X C pins σ (fun _ _ H1=>∀ e,ts e D σ H1) v s') (hdb:(x==("__debug__":Str))=false:=by decide) :
  wpAny (model X.prog X.w) X.A (noteFrame v X.env) (fun _ s₂=>wpAny (model X.prog X.w) X.A (setFlight v none) (fun _ s₃ =>
   wpAny (model X.prog X.w) X.A (handleBy v X.env [.ExceptHandler (some (.Name x np)) none (b0::suite) hpos]) (SP X pins D) X.xe s₃) X.xe s₂) X.xe s':=by
 obtain ⟨s1,H1,I,e,T0,H',rfl,os,bare,F,hq⟩:=h
 have J:=I.flown os bare F
 obtain ⟨a0,tr⟩:=F.fly.traced (l:=X.stack)
 have hfr:X.A.frames=some (X.env::X.outer):=by rw [← hst.1];exact J.ok.frames
 have fl0:Heap.FlyingW (cover s'.heap X.stack e T0) (X.env::X.outer) e (.ref C) a0 s'.heap:=⟨cover_stays,cover_e,by rw [← hst.1];exact cover_frames J.stack,tr⟩
 refine wpAny_looks_onW hfr hst.2 fl0 fun h4 held4 up4=>?_
 refine wpAny_landsW held4 fun h5 fl5 up5'=>?_
 have up5:=up4.trans up5'
 obtain ⟨T5,F5⟩:=flown_on F.un F.hok F.ne F.nT F.fe F.fT J.stack J.stkFree fl5 up5
 have I5:Inv X pins σ H' { s' with heap:=h5 }:=I.flown (s':={ s' with heap:=h5 }) os bare F5
 obtain ⟨ob,hob,hobc⟩:=fl5.there
 obtain ⟨bm,N',nm,q,bs,hdct,sn,sub,ab,col,dd,k0,k1,k2,k3,k5,mN,hC,hN,hni,TL⟩:=(T.obj I5.kIn).obj
 refine wpAny_handleBy_cons (codeAny_handlers_test ?_) (by intro q;cases q)
 refine ld_glob (I5.marked e) hg T.mgE ?_ hdb
 refine wpAny_excMatches_sub_self hC hob hobc (TL.hasType (by decide)) (codeAny_handlers_suite ?_)
 refine lands_againW fl5 fun h6 fl6 up6=>?_
 obtain ⟨T6,F6⟩:=flown_on F.un F.hok F.ne F.nT F.fe F.fT J.stack J.stkFree fl6 (up5.trans up6)
 have I6:Inv X pins σ H' { s' with heap:=h6 }:=I.flown (s':={ s' with heap:=h6 }) os bare F6
 exact wpAny_mono (hs e pins _ σ H' D (I6.marked e) (hq e)) (fun f s2 q=>q.unmarked I6.ok) fun _ _ z=>False.elim z
theorem ps_try {st:Stmt}{tx:TX}{x:Str}{np hpos:Pos}{b0:Stmt}{suite:List Stmt}{ts:Addr→TS} (T:Exc X.K X.mg x C) (hg:Gl X x) (hb:PXS X C st tx) (hs:∀ e,PSs (X.marked e) (b0::suite) (ts e))
  (hst:X.stack=X.env::X.outer∧X.env.frame=some X.env.locals:=by exact ⟨rfl,rfl⟩) (hdb:(x==("__debug__":Str))=false:=by decide) :
  PS X (.Try [st] [.ExceptHandler (some (.Name x np)) none (b0::suite) hpos] [] [] pos) (fun D σ H=>tx D (fun _ _ H1=>∀ e,ts e D σ H1) σ H):=by
 intro pins s σ H D I h
 refine wpAny_Try_except (wpAny_execs_cons (wpAny_mono (hb pins s σ H D _ I h) (fun f s1 q=>?_) fun v s1 q=>caught T hg hst hs q hdb))
 cases f with
 | next=>exact wpAny_execs_nil (wpAny_execs_nil q)
 | ret v=>exact q
 | brk=>exact q
 | cont=>exact q
end
end L2
end
section
namespace L2
open PySem PySem.Spec PyProof.Rows PySem.Calls
section
variable {X:Cx}
def tFv (te:TE):TE:=fun σ H Q=>te σ H fun v H1=>∃ i:Int,v=.int i∧i.natAbs.log2<1920∧Q (.str (toString i)) H1
theorem pe_fv {e:Expr}{te:TE}{pos:Pos} (he:PE X e te):PE X (.FormattedValue e (-1) none pos) (tFv te):=by
 intro pins s σ H Q I h
 refine FormattedValue_plain (thn (he pins s σ H _ I h) fun u s1 ⟨v,H1,I1,r,i,e,hi,q⟩=>?_)
 subst e
 obtain ⟨t,rfl⟩:=r
 exact formatField_int_small hi ⟨.str (toString i),H1,I1.tok _,⟨_,rfl⟩,q⟩
def tJoin:List TE→Str→TE
 | [],acc=>fun _ H Q=>acc.length≤sizeLine∧Q (.str acc) H
 | t::ts,acc=>fun σ H Q=>t σ H fun v H1=>∃ x,v=.str x∧(acc++x).length≤sizeLine∧tJoin ts (acc++x) σ H1 Q
inductive PEs (X:Cx):List Expr→List TE→Prop
 | nil:PEs X [] []
 | cons {e:Expr}{t:TE}{es:List Expr}{ts:List TE}:PE X e t→PEs X es ts→PEs X (e::es) (t::ts)
theorem joinT {es:List Expr}{ts:List TE} (h:PEs X es ts):∀ (acc:Str) {pins:List (Addr×Obj)}{s:Shared}{σ:St}{H:Hp}{Q:VK},Inv X pins σ H s→tJoin ts acc σ H Q →
  wpAny (model X.prog X.w) X.A (joinParts acc (evalEach es X.env)) (EP X pins σ Q) X.xe s:=by
 induction h with
 | nil =>
  intro acc pins s σ H Q I ⟨hz,q⟩
  exact joinParts_nil ⟨.str acc,H,I.tok _,⟨_,rfl⟩,q⟩ hz
 | cons he hs ih =>
  intro acc pins s σ H Q I h
  refine joinParts_cons (thn (he pins s σ H _ I h) fun u s1 ⟨v,H1,I1,r,x,e,hx,q⟩=>?_)
  subst e
  obtain ⟨t,rfl⟩:=r
  exact ⟨hx,ih _ I1 q⟩
theorem pe_fstr {e1 e2:Expr}{es:List Expr}{ts:List TE}{pos:Pos} (h:PEs X (e1::e2::es) ts):PE X (.JoinedStr (e1::e2::es) pos) (tJoin ts Str.empty):=by
 intro pins s σ H Q I q
 exact JoinedStr_many (joinT h _ I q)
end
end L2
end
section
set_option maxRecDepth 100000
namespace L2
open PySem PySem.Spec PyProof.Rows
section
variable {P:Program}{w:World}{K:PySem.W.Frag}{mg:Str→Option Value}{base:Heap}
theorem Fun.okE {x qual:Str}{st:Stmt}{f C:Addr}{fd:FuncData}{N ps:List Str}{k:Nat}{sp:Sp} (F:Fun K x qual st f fd) (S:FnScope N ps (defScope st)) (len:∀ vs H Q E,sp vs H Q E→vs.length=ps.length)
  (hbody:∀ (cdv:Value) (A:Around) (outer:List Env) (s:Shared) (H:Hp) (vs:List V) (Q:VK) (E:XK),Room k (A.deeper (envOfC qual (defScope st) s.heap.objs.size f cdv))→sp vs H Q E →
   ∃ t,PSs (cxE P w K mg base C N qual (defScope st) f cdv A outer s H E) (defBody st) t∧t { nx:=fun _ H'=>Q .non H',rt:=Q } (start N vs) H):FnOk P w K mg base (CX1 P w C) (k+1) f fd ps sp:=by
 obtain ⟨oc,od,kV,doc,pm,an,cdv,ct,osl,rfl,lk,hcd⟩:=F.ex
 exact fn_of lk hcd S len fun A outer s H vs Q E hr hsp=>hbody cdv A outer s H vs Q E hr hsp
end
structure FnC (P:Program) (w:World) (K:PySem.W.Frag) (mg:Str→Option Value) (base:Heap) (CX:CXT) (k:Nat) (x:Str) (ps:List Str) (sp:Sp):Prop where
 ex:∃ f fd,mg x=some (.ref f)∧PySem.W.keepIn K (.ref f)=true∧Binds K fd ps []∧FnOk P w K mg base CX k f fd ps sp
structure MethC (P:Program) (w:World) (K:PySem.W.Frag) (mg:Str→Option Value) (base:Heap) (CX:CXT) (k:Nat) (C:Addr) (m:Str) (ps:List Str) (sp:Sp):Prop where
 ex:∃ f fd,Meth K C m f∧Binds K fd ps []∧FnOk P w K mg base CX k f fd ps sp
structure MakeC (P:Program) (w:World) (K:PySem.W.Frag) (mg:Str→Option Value) (base:Heap) (CX:CXT) (k:Nat) (C:Addr) (x:Str) (ps:List Str) (sp:Sp):Prop where
 ex:∃ f fd,mg x=some (.ref C)∧Mk K C f∧Binds K fd ps []∧FnOk P w K mg base CX k f fd ps sp
section
variable {X:Cx}{CX:CXT}{j k:Nat}{C:Addr}{ps:List Str}{sp:Sp}{E:XK}{x m:Str}{p pos apos:Pos}{e o:Expr}{es:List Expr}{ta:TE}{t:TA}
theorem pe_callC (c:FnC X.prog X.w X.K X.mg X.base CX j x ps sp) (hr:Room k X.A) (hx:Passes CX X E) (ha:PA X (e::es) t) (hjk:j≤k:=by decide) (hg:Gl X x:=by rfl)
  (hdb:(x==("__debug__":Str))=false:=by decide) (he:starEach (e::es) X.env=(false,eval e X.env)::starEach es X.env:=by rfl) (hpl:(backTo pos (starEach es X.env)).any (·.1)=false:=by rfl) :
  PE X (.Call (.Name x p) (e::es) [] pos) (tCall sp [] E t):=by
 obtain ⟨f,fd,hm,hk,hb,F⟩:=c.ex
 exact pe_call F (hr.mono hjk) hg hm hk hb .nil hx ha hdb he hpl
theorem pe_methC {pl:Sem Bool} (he:PE X o ta) (c:Cls X.K C) (F:MethC X.prog X.w X.K X.mg X.base CX j C m ps sp) (hr:Room k X.A) (hx:Passes CX X E) (ha:PA X (e::es) t) (hjk:j≤k:=by decide)
  (hst:starEach (e::es) X.env=(false,eval e X.env)::starEach es X.env:=by rfl) (hpl:(backTo pos (starEach es X.env)).any (·.1)=false:=by rfl)
  (ht:eval (.Call (.Attribute o m apos) (e::es) [] pos) X.env=(do
   let ov ← eval o X.env
   standAt apos.atName
   let (f,first) ← holding [ov] (getMethod ov m pl)
   callWith pos f first (backTo pos (starEach (e::es) X.env)) (backToKw pos (keywordEach [] X.env))):=by rfl) :
  PE X (.Call (.Attribute o m apos) (e::es) [] pos) (tMeth C m sp [] E ta t):=by
 obtain ⟨f,fd,hm,hb,F⟩:=F.ex
 exact pe_meth he c hm F (hr.mono hjk) hb .nil hx ha hst hpl ht
theorem pe_methC0 {pl:Sem Bool} (he:PE X o ta) (c:Cls X.K C) (F:MethC X.prog X.w X.K X.mg X.base CX j C m ps sp) (hr:Room k X.A) (hx:Passes CX X E) (hjk:j≤k:=by decide)
  (ht:eval (.Call (.Attribute o m apos) [] [] pos) X.env=(do
   let ov ← eval o X.env
   standAt apos.atName
   let (f,first) ← holding [ov] (getMethod ov m pl)
   callWith pos f first (backTo pos (starEach [] X.env)) (backToKw pos (keywordEach [] X.env))):=by rfl) :
  PE X (.Call (.Attribute o m apos) [] [] pos) (tMeth C m sp [] E ta tNil):=by
 obtain ⟨f,fd,hm,hb,F⟩:=F.ex
 exact pe_meth0 he c hm F (hr.mono hjk) hb .nil hx ht
theorem pe_makeC (c:MakeC X.prog X.w X.K X.mg X.base CX j C x ps sp) (hr:Room k X.A) (hx:Passes CX X E) (ha:PA X (e::es) t) (hjk:j+1≤k:=by decide) (hg:Gl X x:=by rfl)
  (hdb:(x==("__debug__":Str))=false:=by decide) (he:starEach (e::es) X.env=(false,eval e X.env)::starEach es X.env:=by rfl) (hpl:(backTo pos (starEach es X.env)).any (·.1)=false:=by rfl) :
  PE X (.Call (.Name x p) (e::es) [] pos) (tMake C sp [] E t):=by
 obtain ⟨f,fd,hm,M,hb,F⟩:=c.ex
 exact pe_make M F (hr.mono hjk) hg hm hb .nil hx ha hdb he hpl
theorem pe_gint {i:Int} (h:∃ u,X.mg x=some (.int i u)) (hg:Gl X x:=by rfl) (hd:(x==("__debug__":Str))=false:=by decide):PE X (.Name x pos) (tC (.int i)):=by
 obtain ⟨u,h⟩:=h
 exact pe_glob hg h ⟨u,rfl⟩ hd
theorem pe_gref {a:Addr} (h:X.mg x=some (.ref a)) (hg:Gl X x:=by rfl) (hd:(x==("__debug__":Str))=false:=by decide):PE X (.Name x pos) (tC (.ref a)):=pe_glob hg h (show RelV (.ref a) (.ref a) from rfl) hd
end
def Kp (S:List Addr) (H H':Hp):Prop:=∀ b o,H b=some o→b ∉ S→H' b=some o
theorem Kp.refl {S:List Addr}{H:Hp}:Kp S H H:=fun _ _ e _=>e
theorem Kp.trans {S:List Addr}{H H1 H2:Hp} (a:Kp S H H1) (b:Kp S H1 H2):Kp S H H2:=fun c o e n=>b c o (a c o e n) n
theorem Kp.mono {S S':List Addr}{H H1:Hp} (a:Kp S H H1) (h:∀ b∈S,b∈S'):Kp S' H H1:=fun c o e n=>a c o e fun z=>n (h c z)
theorem Kp.put {S:List Addr}{H:Hp}{a:Addr}{o:HO} (h:a∈S):Kp S H (upd H a o):=fun c u e n=>by
 have z:c≠a:=fun z=>n (by rw [z];exact h)
 rw [upd_ne z];exact e
theorem Kp.new {S:List Addr}{H:Hp}{a:Addr}{o:HO} (h:H a=none):Kp S H (upd H a o):=fun c u e n=>by rw [upd_ne (ne_of_none e h)];exact e
theorem Kp.put2 {S:List Addr}{H H1:Hp}{a:Addr}{o:HO} (k:Kp S H H1) (h:a∈S∨H a=none):Kp S H (upd H1 a o):=fun c u e n=>by
 have z:c≠a:=fun z=>by
  subst z
  rcases h with h | h
  ·exact n h
  ·rw [h] at e;cases e
 rw [upd_ne z];exact k c u e n
theorem Kp.free {S:List Addr}{H H1:Hp} (k:Kp S H H1) {a:Addr} (n:a ∉ S) (h:H1 a=none):H a=none:=by
 cases q:H a with
 | none=>rfl
 | some o=>rw [k a o q n] at h;cases h
theorem Kp.seq {K:PySem.W.Frag}{S:List Addr}{H H':Hp}{a:Addr}{xs:List V} (e:Kp S H H') (n:a ∉ S) (h:SqL K H a xs):SqL K H' a xs:=by
 rcases h with (h | ⟨o,h⟩) | h
 ·exact .inl (.inl (e _ _ h n))
 ·exact .inl (.inr ⟨o,e _ _ h n⟩)
 ·exact .inr h
end L2
end
section
set_option maxRecDepth 100000
namespace L2
open PySem PySem.Spec PyProof.Rows
section
variable {σ:St}{H:Hp}{Q:VK}{D:Ends}{N B C2:St→Hp→Prop}{R:VK}{K:PySem.W.Frag}{E:XK}
theorem foldP {G:Prop} (h:∀ G':Prop,(G→G')→G'):G:=h G id
theorem g_hold {t u:TS} (h:∀ M:TS,(∀ D σ H,u D σ H→M D σ H)→t ⟨M ⟨N,R,B,C2⟩,R,B,C2⟩ σ H):tSeq t u ⟨N,R,B,C2⟩ σ H:=h u fun _ _ _ z=>z
theorem g_nx (h:N σ H):Ends.nx ⟨N,R,B,C2⟩ σ H:=h
theorem g_rt {v:V} (h:R v H):Ends.rt ⟨N,R,B,C2⟩ v H:=h
theorem g_next (h:D.nx σ H):tNext D σ H:=h
theorem g_ifS {c:TT}{t u:TS} (h:c σ H fun b H1=>if b=true then t D σ H1 else u D σ H1):tIfS c t u D σ H:=h
theorem g_ret {te:TE} (h:te σ H D.rt):tRet te D σ H:=h
theorem g_drop {te:TE} (h:te σ H fun _ H1=>D.nx σ H1):tDrop te D σ H:=h
theorem g_asg {te:TE}{g:TG} (h:te σ H fun x H1=>g x σ H1 D.nx):tAsg te g D σ H:=h
theorem g_or {t u:TT}{Qb:Bool→Hp→Prop} (h:t σ H fun c H1=>if c=true then Qb true H1 else u σ H1 Qb):tOr t u σ H Qb:=h
theorem g_and {t u:TT}{Qb:Bool→Hp→Prop} (h:t σ H fun c H1=>if c=true then u σ H1 Qb else Qb false H1):tAnd t u σ H Qb:=h
theorem g_not {t:TT}{Qb:Bool→Hp→Prop} (h:t σ H fun c H1=>Qb (!c) H1):tNot t σ H Qb:=h
theorem g_test {t:TE}{Qb:Bool→Hp→Prop} (h:t σ H fun x H'=>∃ k,x=.bl k∧Qb k H'):tTest t σ H Qb:=h
theorem g_B {t:TE}{Qb:Bool→Hp→Prop} (h:t σ H fun x H'=>∃ k,x=.bl k∧Qb k H'):tB t σ H Qb:=h
theorem g_yes {Qb:Bool→Hp→Prop} (h:Qb true H):tYes σ H Qb:=h
theorem g_exB {c:Bool}{P:Bool→Prop} (h:P c):∃ k,V.bl c=V.bl k∧P k:=⟨c,rfl,h⟩
theorem g_exI {c:Int}{P:Int→Prop} (h:P c):∃ k,V.int c=V.int k∧P k:=⟨c,rfl,h⟩
theorem g_l1R {q:Addr}{α:Type}{P:Addr→α→Prop} (h:∃ y,P q y):∃ p y,[V.ref q]=[V.ref p]∧P p y:=let ⟨y,z⟩:=h;⟨q,y,rfl,z⟩
theorem g_l2I {q r:Int}{P:Int→Int→Prop} (h:P q r):∃ p p',[V.int q,V.int r]=[V.int p,V.int p']∧P p p':=⟨q,r,rfl,h⟩
theorem g_op {r:R2}{ta tb:TE} (h:ta σ H fun x H1=>tb σ H1 fun y H2=>r x y H2 Q):tOp r ta tb σ H Q:=h
theorem g_rI0 {g:Int→Int→V}{i j:Int} (h:Q (g i j) H):rI0 g (.int i) (.int j) H Q:=⟨i,j,rfl,rfl,h⟩
theorem g_rI {C:Int→Int→Prop}{g:Int→Int→V}{i j:Int} (h:C i j∧Q (g i j) H):rI C g (.int i) (.int j) H Q:=⟨i,j,rfl,rfl,h.1,h.2⟩
theorem g_C {v:V} (h:Q v H):tC v σ H Q:=h
theorem g_chain {r r':R2}{ta tb tc:TE} (h:ta σ H fun x H1=>tb σ H1 fun y H2=>r x y H2 fun z H3=>∃ k,z=.bl k∧if k=true then tc σ H3 fun w' H4=>r' y w' H4 Q else Q (.bl false) H3):tChain r r' ta tb tc σ H Q:=h
theorem g_eqI {i j:Int} (h:Q (.bl (decide (i=j))) H):rEq (.int i) (.int j) H Q:=⟨rfl,by rw [show decide (V.int i=V.int j)=decide (i=j) from decide_eq_decide.mpr (Iff.of_eq (V.int.injEq i j))];exact h⟩
theorem g_ipI {f:Int→Int→Int}{i j:Int} (h:Q (.int (f i j)) H):ipI f (.int i) (.int j) H Q:=⟨i,j,rfl,rfl,h⟩
theorem g_rAdd {i j:Int} (h:Q (.int (i+j)) H):rAdd (.int i) (.int j) H Q:=⟨i,j,rfl,rfl,h⟩
theorem g_call {sp:Sp}{t:TA} (h:t σ H fun vs H1=>sp vs H1 Q E):tCall sp [] E t σ H Q:=by
 unfold tCall
 have e:(fun (vs:List V) (H1:Hp)=>sp (vs++[]) H1 Q E)=fun vs H1=>sp vs H1 Q E:=by funext vs H1;rw [List.append_nil]
 rw [e];exact h
theorem g_cons {ta:TE}{tr:TA}{Qs:List V→Hp→Prop} (h:ta σ H fun x H1=>tr σ H1 fun xs H2=>Qs (x::xs) H2):tCons ta tr σ H Qs:=h
theorem g_nil {Qs:List V→Hp→Prop} (h:Qs [] H):tNil σ H Qs:=h
theorem g_CB {r:List V→Hp→VK→Prop}{t:TA} (h:t σ H fun vs H1=>r vs H1 Q):tCB r t σ H Q:=h
theorem g_raise {C:Addr}{ta:TA} (h:ta σ H fun vs H1=>vs.length≤sizeLine∧E (.ref C) none H1):tRaise C E ta D σ H:=h
theorem g_tup {t:TA} (h:t σ H fun xs H1=>xs.length≤sizeLine∧∀ p,H1 p=none→Q (.ref p) (upd H1 p (.tup xs))):tTup t σ H Q:=h
theorem g_lst {t:TA} (h:t σ H fun xs H1=>xs.length≤sizeLine∧∀ p,H1 p=none→Q (.ref p) (upd H1 p (.lst xs))):tLst t σ H Q:=h
theorem g_BM {T:String}{r:V→List V→Hp→VK→Prop}{to:TE}{t:TA} (h:to σ H fun x H1=>tyV K T x H1∧t σ H1 fun xs H2=>r x xs H2 Q):tBM K T r to t σ H Q:=h
theorem g_append {l:Addr}{y:V} (h:∃ xs,H l=some (.lst xs)∧xs.length<sizeLine∧Q .non (upd H l (.lst (xs++[y])))):rAppend (.ref l) [y] H Q:=let ⟨xs,h1,h2,h3⟩:=h;⟨l,xs,y,rfl,rfl,h1,h2,h3⟩
theorem g_extend {l b:Addr} (h:∃ xs zs,H l=some (.lst xs)∧H b=some (.lst zs)∧xs.length+zs.length≤sizeLine∧Q .non (upd H l (.lst (xs++zs)))):rExtend (.ref l) [.ref b] H Q:=let ⟨xs,zs,h1,h2,h3,h4⟩:=h;⟨l,b,xs,zs,rfl,rfl,h1,h2,h3,h4⟩
theorem g_sl {r:V→Option Int→Option Int→Hp→VK→Prop}{te:TE}{tl th:TO} (h:te σ H fun x H1=>tl σ H1 fun l H2=>th σ H2 fun u H3=>r x l u H3 Q):tSl r te tl th σ H Q:=h
theorem g_noPart {Qo:Option Int→Hp→Prop} (h:Qo none H):tNoPart σ H Qo:=h
theorem g_part {t:TE}{Qo:Option Int→Hp→Prop} (h:t σ H fun x H1=>∃ i,x=.int i∧Qo (some i) H1):tPart t σ H Qo:=h
theorem g_slL {p:Addr}{lo hi:Option Int} (h:∃ xs,SqL K H p xs∧∀ q,H q=none→Q (.ref q) (upd H q (.lst (cutV xs lo hi)))):rSlL K (.ref p) lo hi H Q:=let ⟨xs,h1,h2⟩:=h;⟨p,xs,rfl,h1,h2⟩
theorem g_make {C:Addr}{sp:Sp}{t:TA} (h:t σ H fun vs H1=>∀ x dx,H1 x=none→H1 dx=none→dx≠x→sp (.ref x::vs) (upd (upd H1 dx (.own x)) x (.ins C dx [])) (fun v H2=>v=.non∧Q (.ref x) H2) E):tMake C sp [] E t σ H Q:=by
 unfold tMake
 have e:(fun (vs:List V) (H1:Hp)=>∀ x dx,H1 x=none→H1 dx=none→dx≠x→sp (.ref x::(vs++[])) (upd (upd H1 dx (.own x)) x (.ins C dx [])) (fun v H2=>v=.non∧Q (.ref x) H2) E)=fun vs H1=>∀ x dx,H1 x=none→H1 dx=none→dx≠x→sp (.ref x::vs) (upd (upd H1 dx (.own x)) x (.ins C dx [])) (fun v H2=>v=.non∧Q (.ref x) H2) E:=by funext vs H1;rw [List.append_nil]
 rw [e];exact h
theorem g_fld {ta:TE}{f:Str} (h:ta σ H fun x H1=>∃ a C dx fs v,x=.ref a∧H1 a=some (.ins C dx fs)∧Cls K C∧NoAttr K C f∧fs.lookup f=some v∧Q v H1):tFld K ta f σ H Q:=h
theorem g_fld1 {r C dx:Addr}{fs:List (Str×V)}{v:V}{f:Str}{P:V→Prop} (hH:H r=some (.ins C dx fs)) (hc:Cls K C) (hn:NoAttr K C f) (hl:fs.lookup f=some v) (h:P v):∃ a C dx fs v,V.ref r=.ref a∧H a=some (.ins C dx fs)∧Cls K C∧NoAttr K C f∧fs.lookup f=some v∧P v:=⟨r,C,dx,fs,v,rfl,hH,hc,hn,hl,h⟩
theorem g_meth {C:Addr}{m:Str}{sp:Sp}{ta:TE}{t:TA} (h:ta σ H fun x H1=>∃ a dx fs,x=.ref a∧H1 a=some (.ins C dx fs)∧fs.lookup m=none∧t σ H1 fun vs H2=>sp (x::vs) H2 Q E):tMeth C m sp [] E ta t σ H Q:=by
 unfold tMeth
 have e:(fun (x:V) (H1:Hp)=>∃ a dx fs,x=.ref a∧H1 a=some (.ins C dx fs)∧fs.lookup m=none∧t σ H1 fun vs H2=>sp (x::(vs++[])) H2 Q E)=fun x H1=>∃ a dx fs,x=.ref a∧H1 a=some (.ins C dx fs)∧fs.lookup m=none∧t σ H1 fun vs H2=>sp (x::vs) H2 Q E:=by
  have e2:∀ x:V,(fun (vs:List V) (H2:Hp)=>sp (x::(vs++[])) H2 Q E)=fun vs H2=>sp (x::vs) H2 Q E:=fun x=>by funext vs H2;rw [List.append_nil]
  funext x H1;rw [e2]
 rw [e];exact h
theorem g_meth1 {r C dx:Addr}{fs:List (Str×V)}{m:Str}{G:Prop} (hH:H r=some (.ins C dx fs)) (hl:fs.lookup m=none) (h:G):∃ a dx fs,V.ref r=.ref a∧H a=some (.ins C dx fs)∧fs.lookup m=none∧G:=⟨r,dx,fs,rfl,hH,hl,h⟩
theorem g_sfld {ta tv:TE}{f:Str} (h:tv σ H fun y H1=>ta σ H1 fun x H2=>∃ a C dx fs,x=.ref a∧H2 a=some (.ins C dx fs)∧Cls K C∧NoAttr K C f∧fs.length<1000∧D.nx σ (upd H2 a (.ins C dx (putF f y fs)))):sFld K ta tv f D σ H:=h
theorem g_sfld1 {r C dx:Addr}{fs:List (Str×V)}{f:Str}{y:V}{P:Hp→Prop} (hH:H r=some (.ins C dx fs)) (hc:Cls K C) (hn:NoAttr K C f) (h:fs.length<1000∧P (upd H r (.ins C dx (putF f y fs)))):∃ a C dx fs,V.ref r=.ref a∧H a=some (.ins C dx fs)∧Cls K C∧NoAttr K C f∧fs.length<1000∧P (upd H a (.ins C dx (putF f y fs))):=⟨r,C,dx,fs,rfl,hH,hc,hn,h.1,h.2⟩
theorem g_sfld2 {r C dx:Addr}{fs:List (Str×V)}{f:Str}{y:V}{P:Hp→Prop} (hc:Cls K C) (hn:NoAttr K C f) (h:fs.length<1000∧P (upd H r (.ins C dx (putF f y fs)))):∃ a C' dx' fs',V.ref r=.ref a∧upd H r (.ins C dx fs) a=some (.ins C' dx' fs')∧Cls K C'∧NoAttr K C' f∧fs'.length<1000∧P (upd (upd H r (.ins C dx fs)) a (.ins C' dx' (putF f y fs'))):=⟨r,C,dx,fs,rfl,upd_same,hc,hn,h.1,by rw [upd_upd];exact h.2⟩
theorem g_sfldaug {ta tv:TE}{rd:V→V→Hp→VK→Prop}{f:Str} (h:ta σ H fun x H1=>∃ a C dx fs v,x=.ref a∧H1 a=some (.ins C dx fs)∧Cls K C∧NoAttr K C f∧fs.lookup f=some v∧tv σ H1 fun y H2=>rd v y H2 fun z H3=>∃ dx' fs',H3 a=some (.ins C dx' fs')∧fs'.length<1000∧D.nx σ (upd H3 a (.ins C dx' (putF f z fs')))):sFldAug K ta tv rd f D σ H:=h
theorem g_sfldaug1 {r C dx:Addr}{fs:List (Str×V)}{f:Str}{v:V}{P:Addr→Addr→V→Prop} (hH:H r=some (.ins C dx fs)) (hc:Cls K C) (hn:NoAttr K C f) (hl:fs.lookup f=some v) (h:P r C v):∃ a C dx fs v,V.ref r=.ref a∧H a=some (.ins C dx fs)∧Cls K C∧NoAttr K C f∧fs.lookup f=some v∧P a C v:=⟨r,C,dx,fs,v,rfl,hH,hc,hn,hl,h⟩
theorem g_aug2 {r C dx:Addr}{fs:List (Str×V)}{P:Addr→List (Str×V)→Prop} (hH:H r=some (.ins C dx fs)) (h:fs.length<1000∧P dx fs):∃ dx' fs',H r=some (.ins C dx' fs')∧fs'.length<1000∧P dx' fs':=⟨dx,fs,hH,h.1,h.2⟩
theorem g_ixL {p:Addr}{i:Int} (h:∃ xs,SqL K H p xs∧∃ v,atI xs i=some v∧Q v H):rIxL K (.ref p) (.int i) H Q:=let ⟨xs,h1,v,h2,h3⟩:=h;⟨p,xs,i,v,rfl,rfl,h1,h2,h3⟩
theorem g_ixT {p:Addr}{i:Int} (h:∃ xs,SqT K H p xs∧∃ v,atI xs i=some v∧Q v H):rIxT K (.ref p) (.int i) H Q:=let ⟨xs,h1,v,h2,h3⟩:=h;⟨p,xs,i,v,rfl,rfl,h1,h2,h3⟩
end
section
variable {A B:Prop}
theorem g_iteT (h:A):if true=true then A else B:=by rw [if_pos rfl];exact h
theorem g_iteF (h:B):if false=true then A else B:=by rw [if_neg Bool.false_ne_true];exact h
theorem g_iteD {p:Prop} [Decidable p] (h:if p then A else B):if decide p=true then A else B:=by
 by_cases z:p
 ·rw [if_pos z] at h;rw [if_pos (decide_eq_true z)];exact h
 ·rw [if_neg z] at h;rw [if_neg (fun y=>z (of_decide_eq_true y))];exact h
theorem g_iteND {p:Prop} [Decidable p] (h:if ¬ p then A else B):if (!decide p)=true then A else B:=by
 by_cases z:p
 ·rw [if_neg (fun y=>y z)] at h;rw [if_neg (by simp [z])];exact h
 ·rw [if_pos z] at h;rw [if_pos (by simp [z])];exact h
theorem g_iteN {b:Bool} (h:if b=false then A else B):if (!b)=true then A else B:=by
 cases b
 ·rw [if_pos rfl] at h;exact (by rw [if_pos (show (!false)=true from rfl)];exact h)
 ·rw [if_neg (by decide)] at h;exact (by rw [if_neg (by decide)];exact h)
end
theorem g_v0 {v:V}{r:List (Option V)}{H:Hp}{Q:VK} (h:Q v H):tVar 0 (some v::r) H Q:=⟨v,rfl,h⟩
theorem g_v1 {v:V}{a0:Option V}{r:List (Option V)}{H:Hp}{Q:VK} (h:Q v H):tVar 1 (a0::some v::r) H Q:=⟨v,rfl,h⟩
theorem g_n1 {v:V}{a0:Option V}{b:Option V}{r:List (Option V)}{H:Hp}{Qg:St→Hp→Prop} (h:Qg (a0::some v::r) H):gName 1 v (a0::b::r) H Qg:=h
theorem g_v2 {v:V}{a0 a1:Option V}{r:List (Option V)}{H:Hp}{Q:VK} (h:Q v H):tVar 2 (a0::a1::some v::r) H Q:=⟨v,rfl,h⟩
theorem g_n2 {v:V}{a0 a1:Option V}{b:Option V}{r:List (Option V)}{H:Hp}{Qg:St→Hp→Prop} (h:Qg (a0::a1::some v::r) H):gName 2 v (a0::a1::b::r) H Qg:=h
theorem g_a2 {x:V}{a0 a1:Option V}{r:List (Option V)}{H:Hp}{D:Ends}{te:TE}{ti:TIp} (h:te (a0::a1::some x::r) H fun y H1=>ti x y H1 fun z H2=>D.nx (a0::a1::some z::r) H2):tAug 2 te ti D (a0::a1::some x::r) H:=⟨x,rfl,h⟩
theorem g_v3 {v:V}{a0 a1 a2:Option V}{r:List (Option V)}{H:Hp}{Q:VK} (h:Q v H):tVar 3 (a0::a1::a2::some v::r) H Q:=⟨v,rfl,h⟩
theorem g_n3 {v:V}{a0 a1 a2:Option V}{b:Option V}{r:List (Option V)}{H:Hp}{Qg:St→Hp→Prop} (h:Qg (a0::a1::a2::some v::r) H):gName 3 v (a0::a1::a2::b::r) H Qg:=h
theorem g_a3 {x:V}{a0 a1 a2:Option V}{r:List (Option V)}{H:Hp}{D:Ends}{te:TE}{ti:TIp} (h:te (a0::a1::a2::some x::r) H fun y H1=>ti x y H1 fun z H2=>D.nx (a0::a1::a2::some z::r) H2):tAug 3 te ti D (a0::a1::a2::some x::r) H:=⟨x,rfl,h⟩
theorem g_v4 {v:V}{a0 a1 a2 a3:Option V}{r:List (Option V)}{H:Hp}{Q:VK} (h:Q v H):tVar 4 (a0::a1::a2::a3::some v::r) H Q:=⟨v,rfl,h⟩
theorem g_n4 {v:V}{a0 a1 a2 a3:Option V}{b:Option V}{r:List (Option V)}{H:Hp}{Qg:St→Hp→Prop} (h:Qg (a0::a1::a2::a3::some v::r) H):gName 4 v (a0::a1::a2::a3::b::r) H Qg:=h
theorem g_v5 {v:V}{a0 a1 a2 a3 a4:Option V}{r:List (Option V)}{H:Hp}{Q:VK} (h:Q v H):tVar 5 (a0::a1::a2::a3::a4::some v::r) H Q:=⟨v,rfl,h⟩
theorem g_n5 {v:V}{a0 a1 a2 a3 a4:Option V}{b:Option V}{r:List (Option V)}{H:Hp}{Qg:St→Hp→Prop} (h:Qg (a0::a1::a2::a3::a4::some v::r) H):gName 5 v (a0::a1::a2::a3::a4::b::r) H Qg:=h
theorem g_v6 {v:V}{a0 a1 a2 a3 a4 a5:Option V}{r:List (Option V)}{H:Hp}{Q:VK} (h:Q v H):tVar 6 (a0::a1::a2::a3::a4::a5::some v::r) H Q:=⟨v,rfl,h⟩
theorem g_n6 {v:V}{a0 a1 a2 a3 a4 a5:Option V}{b:Option V}{r:List (Option V)}{H:Hp}{Qg:St→Hp→Prop} (h:Qg (a0::a1::a2::a3::a4::a5::some v::r) H):gName 6 v (a0::a1::a2::a3::a4::a5::b::r) H Qg:=h
end L2
end
section
set_option maxRecDepth 100000
namespace L2
open PySem PySem.Spec PyProof.Rows
section
variable {prog:Program}{w:World}{K:Type} [DecidableEq K] {knd:HeapKind prog w K}{A:Around}{E:Value→Shared→Prop}{s:Shared}
theorem dictSetDefault_heap {d a:Addr}{xs:List (K×Addr×Value)}{k:K}{dflt:Value}{Q:Value→Shared→Prop} (hu:knd.room A) (hkey:knd.is s.heap k a) (hm:s.heap.DictOfH knd d xs)
  (h1:∀ v,(atKey xs k).map (·.2)=some v→Q v { s with toks:=s.toks+knd.draws k })
  (h2:atKey xs k=none→∀ h',h'.DictOfH knd d (storedH xs k a dflt)→Heap.SameBut d s.heap h'→Q dflt { s with heap:=h',toks:=s.toks+knd.draws k }) (hsz:xs.length≤sizeLine) :
  wpAny (model prog w) A (dictSetDefault d (.ref a) dflt) Q E s:=by
 obtain ⟨o,es,ep,ho,hc,hd,he,his,hn⟩:=hm
 unfold dictSetDefault
 try with_reducible refine wpAny_holding ?_
 refine wpAny_bind (knd.pyHash hu hkey ?_)
 refine wpAny_bind (wpAny_dictFind_heap (s:={ s with toks:=s.toks+knd.draws k }) hu hkey ho hd he his hn ?_ ?_)
 ·intro hno
  have hnot:k ∉ xs.map (·.1):=not_mem_keys_of_get hno
  refine wpAny_bind (wpAny_rule (wpAny_bind (wpAny_updateDictKeys (hz:=by have e:=size_of_entries he;lia) (s:={ s with toks:=s.toks+knd.draws k }) ho hd (wpAny_pure (h2 (atKey_none_of_get hno) _ ⟨_,_,ep+1,Heap.get?_update_self _ ho (Obj.isFreed_of_dict (Obj.data_mapDictKeys hd _)),
   hc.mapDictKeys _,Obj.data_mapDictKeys hd _,?_,?_,?_⟩ (Heap.SameBut.update ..))))))
  ·rw [storedH_new (atKey_none_of_get hno)]
   simp [he,entryOfKey]
  ·rw [storedH_new (atKey_none_of_get hno)]
   intro x hx
   rcases List.mem_append.mp hx with hx | hx
   ·exact knd.keeps (his x hx) ho hd (Heap.SameBut.update ..)
   ·simp only [List.mem_singleton] at hx
    subst hx
    exact knd.keeps hkey ho hd (Heap.SameBut.update ..)
  ·rw [storedH_new (atKey_none_of_get hno)]
   rw [List.map_append,List.nodup_append]
   refine ⟨hn,by simp,?_⟩
   intro x hx y hy
   simp only [List.map_cons,List.map_nil,List.mem_singleton] at hy
   subst hy
   exact fun e=>hnot (e ▸ hx)
 ·intro j p hj
  refine wpAny_bind (wpAny_dictEntries (s:={ s with toks:=s.toks+knd.draws k }) ho hd ?_)
  rw [entry_at he j,hj]
  exact wpAny_bind (wpAny_rule (wpAny_pure (h1 _ (by rw [atKey_of_get hn hj];rfl))))
theorem meetsH_dict_setdefault (knd:HeapKind prog w K) (d a:Addr) (hd:(d==sysModules)=false) (dflt:Value) :
  MeetsIn prog w (Builtin.«dict.setdefault» ⟨[.ref d,.ref a,dflt],[]⟩) (fun A R s=>knd.room A.in1∧∃ k xs,knd.is s.heap k a∧s.heap.DictOfH knd d xs∧xs.length≤sizeLine ∧
   (∀ v,(atKey xs k).map (·.2)=some v→R (.ok (.ret v)) { s with toks:=s.toks+knd.draws k }) ∧
   (atKey xs k=none→∀ h',h'.DictOfH knd d (storedH xs k a dflt)→Heap.SameBut d s.heap h'→R (.ok (.ret dflt)) { s with heap:=h',toks:=s.toks+knd.draws k })) :=
 .of_wp fun A R s ⟨hu,k,xs,hkey,hm,hz,h1,h2⟩=>by
  unfold Builtin.«dict.setdefault»
  refine wpAny_bind ?_
  unfold Builtin.Dict.keyAndDefault
  refine wpAny_bind (wpAny_notOrdered_dict hm.typeIs ?_)
  show wpAny _ _ (pure (d,Value.ref a,some dflt)) _ _ s
  refine wpAny_pure ?_
  show wpAny _ _ (if (d==sysModules)=true then _ else (dictSetDefault d (.ref a) dflt >>= _)) _ _ s
  rw [if_neg (by rw [hd];exact Bool.false_ne_true)]
  exact wpAny_bind (dictSetDefault_heap (hsz:=hz) hu hkey hm (fun v hv=>wpAny_pure ⟨v,rfl,h1 v hv⟩) fun hn h' hm' hs'=>wpAny_pure ⟨dflt,rfl,h2 hn h' hm' hs'⟩)
end
section
variable {X:Cx}{pins:List (Addr×Obj)}{σ:St}{H:Hp}{s:Shared}{a b:Addr}{kvs:List (List Key×V)}{k:List Key}{v:V}{r:Value}{A:Around}{E:Value→Shared→Prop}
theorem d_setdef {Q:Value→Shared→Prop} (hu:A.units+1<cLine) (I:Inv X pins σ H s) (e:H a=some (.dT kvs)) (eb:H b=some (.tup (k.map kV))) (rv:RelV v r) (l:kvs.length<sizeLine)
  (h1:∀ x w' s',valV kvs k=some x→Inv X pins σ H s'→RelV x w'→Q w' s') (h2:valV kvs k=none→∀ s',Inv X pins σ (upd H a (.dT (putK kvs k v))) s'→Q r s') :
  wpAny (model X.prog X.w) A (call (.builtin "dict.setdefault") [.ref a,.ref b,r]) Q E s:=by
 obtain ⟨z,hd,xs,rel,dd⟩:=dt_of I.hok e
 have hz:xs.length≤sizeLine:=by rw [← Paired.length rel];exact z
 have hl:(putK kvs k v).length≤sizeLine:=by have:=length_putK kvs k v;lia
 refine call_meetsIn PySem.F.slot_dict_setdefault dd.typeIs PySem.F.entry_dict_setdefault (PySem.F.args_dict_setdefault_3 _ _ _) (meetsH_dict_setdefault (tupleKind (mixKind X.prog X.w)) a b hd r) ⟨tupleKind_room_in1 hu,k,xs,key_of I.hok eb,dd,hz,fun w' hw=>?_,fun hn h' dd' hs=>?_⟩
 ·have q:=rel.val k
  rw [hw] at q
  cases hv:valV kvs k with
  | none=>rw [hv] at q;exact absurd q.isSome_eq (by simp)
  | some x =>
   rw [hv] at q
   obtain ⟨u,e1,e2⟩:=RelO.some_of q
   cases e1
   exact h1 x w' _ hv (I.tok _) e2
 ·have q:=rel.val k
  rw [hn] at q
  have hv:valV kvs k=none:=by
   cases hv:valV kvs k with
   | none=>rfl
   | some x=>rw [hv] at q;exact absurd q.isSome_eq (by simp)
  obtain ⟨q,es,ep,hq,g2,g3,g4,_,g5⟩:=dd'
  refine h2 hv _ (d_write I (by rw [e];exact True.intro) hs ⟨q,hq⟩ ⟨hl,hd,_,(rel.put k eb rv).keeps fun c ys ec=>?_,q,es,ep,hq,g2,g3,g4,g5⟩)
  rw [upd_ne (ne_of ec e (fun z=>nomatch z))]
  exact ec
end
def rSetdef:V→List V→Hp→VK→Prop:=fun x vs H Q=>∃ d b kvs k y,x=.ref d∧vs=[.ref b,y]∧H d=some (.dT kvs)∧H b=some (.tup (k.map kV))∧kvs.length<sizeLine ∧
 (∀ v,valV kvs k=some v→Q v H)∧(valV kvs k=none→Q y (upd H d (.dT (putK kvs k y))))
theorem mt_setdefault {X:Cx} (hu:X.A.units+1<cLine):MtM X "dict.setdefault" rSetdef:=by
 intro pins s σ H x vs v us Q I rx rv h
 obtain ⟨d,b,kvs,k,y,rfl,rfl,hd,hb,hl,h1,h2⟩:=h
 cases rx
 match us,rv with
 | [u1,u2],.cons r1 (.cons r2 .nil) =>
  cases (show u1=Value.ref b from r1)
  exact d_setdef hu I hd hb r2 hl (fun x w' s' hv J rw'=>⟨x,H,J,rw',h1 x hv⟩) fun hv s' J=>⟨y,_,J,r2,h2 hv⟩
end L2
end
section
set_option maxRecDepth 100000
namespace L2
open PySem PySem.Spec PyProof.Rows
def lK (x:List Nat):List Key:=x.map fun (n:Nat)=>Sum.inl (n:Int)
section
variable {prog:Program}{w:World}{A:Around}{E:Value→Shared→Prop}{s:Shared}
theorem src_walk {d I:Addr}{o:Obj}{es:Array DictEntry}{ep:Nat} (hh:A.handled=none) (hne:d≠I) (hdat:o.data=.dict es ep) :
  Walks prog w A I [I,d] [I] es.size (fun i v=>∃ en,es[i]?=some en∧en.key=v) (fun i h=>h.IsKeyIter I d i es.size ep∧h.get? d=some o) where
 sub:=fun b hb=>by simp at hb;simp [hb]
 frame:=fun _ _ _ st hk=>⟨st.1.at fun o e=>hk I (by simp) o e,hk d (by simp) o st.2⟩
 item:=fun i s Q E hi st hQ=>by
  refine next_key_item st.1 st.2 hdat rfl (Array.getElem?_eq_getElem hi) fun h' it' sb=>?_
  exact hQ _ h' s.toks ⟨_,Array.getElem?_eq_getElem hi,rfl⟩ ⟨it',sb.extBut d o hne st.2⟩ fun b ob hb e=>sb.extBut b ob (fun h=>hb (by simp [h])) e
 done:=fun s Q E st hQ=>next_key_end hh st.1 st.2 hdat rfl (Nat.le_refl _) fun h' he'=>hQ h' s.toks fun b ob hb e=>he' b ob (fun h=>hb (by simp [h])) e
 self:=fun _ _ _ _ st hQ=>wpAny_pyIter_keyiter st.1 hQ
theorem src_keys {d:Addr}{o:Obj}{es:Array DictEntry}{ep:Nat} (hd:(d==sysModules)=false) (hc:o.ExactDict) (hdat:o.data=.dict es ep) :
  PySem.W.KdlSrc prog w "dict" d d es.size (fun i v=>∃ en,es[i]?=some en∧en.key=v) (fun h=>h.get? d=some o) where
 type:=fun s h=>⟨o,h,hc.1⟩
 there:=fun h e=>⟨Heap.lt_size e,Heap.lt_size e⟩
 keep:=fun h h' e k=>k d (.inl rfl) o e
 notList:=by rfl
 notTuple:=by rfl
 hint:=fun A E s Q h q=>PySem.W.kdl_hint_dict ⟨o,h,hc.1⟩ q
 iter:=fun A s hh h=>by
  have hne:d≠s.heap.objs.size:=Nat.ne_of_lt (Heap.lt_size h)
  exact ⟨_,_,fun E Q q=>iter_keys hd h hc hdat q,src_walk hh hne hdat,⟨_,Heap.get?_push_size _ rfl,rfl,rfl⟩,Heap.get?_push_of_some _ h⟩
theorem code_collect {T:String}{r d:Addr}{n:Nat}{P:Nat→Value→Prop}{OK:Heap→Prop}{R:Result→Shared→Prop} (K:PySem.W.KdlSrc prog w T r d n P OK) (hh:A.handled=none) (hok:OK s.heap) (hn:n≤sizeLine)
  (hR:∀ h' tk acc c',(∀ b o,s.heap.get? b=some o→h'.get? b=some o)→h'.get? s.heap.objs.size=some { cls:=.type "list",dict:=none,data:=.seq acc c',slots:=#[] }→ItemsOf P acc n→R (.ok (.ret (.ref s.heap.objs.size))) { s with heap:=h',toks:=tk }) :
  codeAny (model prog w) A (.builtin "proto.collect" ⟨[.ref r],[]⟩) R s:=by
 have hlt:=K.there _ hok
 refine codeAny_builtin F.entry_proto_collect ?_
 rw [Around.under_plainId F.plain_proto_collect _]
 show wpAny _ A.in1 (newList [] >>= fun l=>again (.builtin "list.__iadd__" ⟨[l,.ref r],[]⟩)) _ _ s
 refine wpAny_bind (wpAny_newObj_type ?_)
 refine wpAny_pure ⟨plainId_quiet F.plain_list_iadd _,codeAny_builtin F.entry_list_iadd ?_⟩
 rw [Around.under_plainId F.plain_list_iadd _]
 have hS:(s.heap.push { cls:=.type "list",data:=.seq ([]:List Value).toArray }).get? s.heap.objs.size=some { cls:=.type "list",data:=.seq #[] }:=Heap.get?_push_size _ rfl
 show wpAny _ A.in1 (Builtin.List.listExtendWith (.ref s.heap.objs.size) (.ref r) (.ref s.heap.objs.size)) _ _ _
 exact PySem.W.kdl_extend (R:=R) (s:={ s with heap:=s.heap.push { cls:=.type "list",data:=.seq ([]:List Value).toArray } }) K hh (K.keep _ _ hok fun b _ o e=>Heap.get?_push_of_some _ e) s.heap.objs.size (Nat.ne_of_gt hlt.1) (Nat.ne_of_gt hlt.2) _ 0 hS (fun h' tk acc' c' hk hS' hacc=>hR h' tk acc' c' (fun b o e=>hk b o (Nat.ne_of_lt (Heap.lt_size e)) (Heap.get?_push_of_some _ e)) hS' hacc) hn
theorem collect_src {T:String}{r d:Addr}{n:Nat}{P:Nat→Value→Prop}{OK:Heap→Prop}{Q:List Value→Shared→Prop} (K:PySem.W.KdlSrc prog w T r d n P OK) (hh:A.handled=none) (hok:OK s.heap) (hn:n≤sizeLine)
  (hQ:∀ h' tk acc,(∀ b o,s.heap.get? b=some o→h'.get? b=some o)→s.heap.objs.size<h'.objs.size→ItemsOf P acc n→Q acc.toList { s with heap:=h',toks:=tk }):wpAny (model prog w) A (collect (.ref r)) Q E s:=by
 unfold collect
 refine wpAny_bind (wpAny_runValue (code_collect K hh hok hn fun h' tk acc' c' hk hS' hacc=>?_))
 show wpAny _ A (load s.heap.objs.size >>= _) _ _ _
 refine wpAny_bind (wpAny_load hS' ?_)
 exact wpAny_pure (hQ h' tk acc' hk (Heap.lt_size hS') hacc)
open PyProof.Rows.G in
theorem sorted_src {T:String}{r d:Addr}{n:Nat}{P:Nat→Value→Prop}{OK:Heap→Prop}{Q:Value→Shared→Prop} (K:PySem.W.KdlSrc prog w T r d n P OK) (hh:A.handled=none) (hok:OK s.heap) (hn:n≤sizeLine)
  (ht:∀ acc h',ItemsOf P acc n→(∀ b o,s.heap.get? b=some o→h'.get? b=some o)→∃ fs,TupsOf h' (fun _=>false) acc.toList fs)
  (hk:∀ acc h',ItemsOf P acc n→(∀ b o,s.heap.get? b=some o→h'.get? b=some o)→∀ v,v∈acc.toList→∃ l,tupKeyC h' (fun _=>false) v=some l)
  (h:∀ acc h1 h2 tk p e st',ItemsOf P acc n→(∀ b o,s.heap.get? b=some o→h1.get? b=some o)→(∀ b o,s.heap.get? b=some o→h2.get? b=some o)→s.heap.objs.size≤p→h2.get? p=some (seqObj "list" ((arrOf st').map (·.2)) e) →
   (arrOf st').Perm (pairsOf acc.toList)→SortedToK (tupKindC h1 (fun _=>false)) (arrOf st') (pairsOf acc.toList).size→Q (.ref p) { s with heap:=h2,toks:=tk }) :
  wpAny (model prog w) A (call (.builtin "sorted") [.ref r]) Q E s:=by
 refine Calls.call_function_entry kind_sorted plain_sorted entry_sorted (args_sorted1 _) ?_
 unfold Builtin.«sorted»
 refine wpAny_bind (m:=checkCount "sorted" 1 1 _) (wpAny_pure ?_)
 refine wpAny_bind (collect_src K hh hok hn fun h1 tk acc k1 hlt hacc=>?_)
 have hL:acc.toList.length≤sizeLine:=by rw [Array.length_toList,hacc.1];exact hn
 refine wpAny_bind (wpAny_newList ?_)
 have hoL:(h1.push (seqObj "list" acc.toList.toArray 0)).get? h1.objs.size=some (seqObj "list" acc.toList.toArray 0):=Heap.get?_push_size _ rfl
 have k2:∀ b o,s.heap.get? b=some o→(h1.push (seqObj "list" acc.toList.toArray 0)).get? b=some o:=fun b o e=>Heap.get?_push_of_some _ (k1 b o e)
 show wpAny _ _ _ _ _ { s with heap:=h1.push (seqObj "list" acc.toList.toArray 0),toks:=tk }
 obtain ⟨fs,hts⟩:=ht acc _ hacc k2
 refine wpAny_bind (wpAny_holding (wpAny_call_entry slot_list_sort ⟨_,hoL,rfl⟩ entry_list_sort (list_sort_tups (s:={ s with heap:=h1.push (seqObj "list" acc.toList.toArray 0),toks:=tk }) hoL hts (hk acc _ hacc k2) (by rw [Array.length_toList,hacc.1];exact hn) fun st' a1 a2 a3=>⟨_,rfl,?retG⟩) (args_list_sort _)))
 case retG =>
  obtain ⟨e,he⟩:=sortedHeap_at (vs:=acc.toList) (out:=(arrOf st').map (·.2)) hoL
  refine wpAny_pure ⟨_,rfl,h acc _ _ tk h1.objs.size e st' hacc k2 (fun b o eb=>?_) (Nat.le_of_lt hlt) he a1 a2⟩
  have hb:b<h1.objs.size:=Heap.lt_size (k1 b o eb)
  show (sortedHeap (h1.push (seqObj "list" acc.toList.toArray 0)) h1.objs.size acc.toList ((arrOf st').map (·.2))).get? b=some o
  rw [sortedHeap_old (Nat.ne_of_lt hb) (by rw [size_push'];exact Nat.lt_succ_of_lt hb)]
  exact k2 b o eb
end
theorem pe_fstr1 {X:Cx}{e:Expr}{te:TE}{pos:Pos} (h:PE X e te):PE X (.JoinedStr [e] pos) te:=by
 intro pins s σ H Q I q
 exact JoinedStr_one (h pins s σ H Q I q)
section
variable {prog:Program}{w:World}
theorem meets_extendT (l b:Addr) (items items2:Array Value) (n:Nat) (hlong:¬ (!items.isEmpty && Builtin.List.listTooLong (items.size+items2.size))=true) (hs1:items.size≤sizeLine) (hs2:items.size+items2.size≤sizeLine+1) :
  MeetsIn prog w (Builtin.«list.extend» ⟨[.ref l,.ref b],[]⟩) (fun _ R s=>s.heap.get? l=some { cls:=.type "list",dict:=none,data:=.seq items n,slots:=#[] }∧IsTup s.heap b items2∧R (.ok (.ret Value.none)) { s with heap:=s.heap.update l (Obj.mapSeq fun x=>x++items2) }) :=
 .of_wp fun A R s ⟨hl,⟨ob,hb,hc,n2,hd⟩,h⟩=>by
  unfold Builtin.«list.extend»
  refine wpAny_bind (wpAny_pure ?_)
  show wpAny _ _ (Builtin.List.listExtendWith (.ref l) (.ref b) .none) _ _ s
  unfold Builtin.List.listExtendWith
  refine wpAny_bind (wpAny_typeOf (T:="tuple") ⟨ob,hb,hc⟩ ?_)
  have ht:(Value.type "tuple"==Value.type "tuple")=true:=by rfl
  rw [if_pos (by rw [ht];simp)]
  refine wpAny_bind (listItems_at hb hd ?_)
  refine wpAny_bind (listItems_at hl rfl ?_)
  rw [if_neg hlong]
  refine wpAny_bind (listUpdate_at hl rfl ?_ hs1 (by rw [Array.size_append];exact hs2))
  exact wpAny_pure ⟨_,rfl,h⟩
end
def rExtendT:V→List V→Hp→VK→Prop:=fun x vs H Q=>∃ l b xs zs,x=.ref l∧vs=[.ref b]∧H l=some (.lst xs)∧H b=some (.tup zs)∧xs.length+zs.length≤sizeLine∧Q .non (upd H l (.lst (xs++zs)))
theorem mt_extendT {X:Cx}:MtM X "list.extend" rExtendT:=by
 intro pins s σ H x vs v us Q I rx rv h
 obtain ⟨l,b,xs,zs,rfl,rfl,hH,hB,hz,q⟩:=h
 cases rx
 obtain ⟨u,rfl,ru⟩:=rv.one
 cases ru
 obtain ⟨z,its,n,r,hl,e⟩:=I.lstM hH
 obtain ⟨z2,its2,r2,e2⟩:=(show ObjOk X.prog X.w H s.heap b (.tup zs) from I.hok b _ hB)
 have hl2:=r2.length
 have hsz:its.toArray.size+its2.toArray.size≤sizeLine:=by rw [List.size_toArray,List.size_toArray];lia
 have hlong:¬ (!its.toArray.isEmpty && Builtin.List.listTooLong (its.toArray.size+its2.toArray.size))=true:=by
  rw [notLongL hsz,Bool.and_false]
  exact Bool.false_ne_true
 refine call_meetsIn F.slot_list_extend ⟨_,e,rfl⟩ F.entry_list_extend (F.args_list_extend_2 _ _)
  (meets_extendT l b its.toArray its2.toArray n hlong (by rw [List.size_toArray];lia) (by lia)) ⟨e,e2,?_⟩
 refine ⟨.non,_,I.lset (its':=its++its2) hH e (by simp) (r.append r2) ?_,rfl,q⟩
 rw [List.length_append]
 lia
theorem lex_earlier:∀ a b:List Nat,lexLt itemOrd (a.map fun (n:Nat)=>Sum.inl (n:Int)) (b.map fun (n:Nat)=>Sum.inl (n:Int))=Vh.earlier a b
 | [],[]=>rfl
 | [],_::_=>rfl
 | _::_,[]=>rfl
 | x::a,y::b=>by
  rw [List.map_cons,List.map_cons,lex_cons,lex_earlier a b]
  show (decide ((x:Int)<(y:Int)) || (!decide ((y:Int)<(x:Int)) && Vh.earlier a b))=(decide (x<y) || (x==y && Vh.earlier a b))
  by_cases h1:x<y
  ·rw [decide_eq_true (show (x:Int)<(y:Int) by lia),decide_eq_true h1];rfl
  ·rw [decide_eq_false (show ¬ (x:Int)<(y:Int) by lia),decide_eq_false h1,Bool.false_or,Bool.false_or]
   by_cases h2:x=y
   ·subst h2;simp
   ·rw [decide_eq_true (show (y:Int)<(x:Int) by lia),show (x==y)=false by simpa using h2];rfl
theorem tup_nats:∀ {f:List Nat}{its:List Value} (i:Nat),Vals (f.map fun (n:Nat)=>V.int (n:Int)) its→tupItems (fun _=>false) i its=some (f.map fun (n:Nat)=>Sum.inl (n:Int))
 | [],_,_,.nil=>rfl
 | c::f,_::_,i,.cons r t=>by
  obtain ⟨u,rfl⟩:=(show ∃ u,_=Value.int (c:Int) u from r)
  show (if (false:Bool)=true then none else (tupItems (fun _=>false) (i+1) _).map _)=_
  rw [if_neg (by decide),tup_nats (i+1) t]
  rfl
def kfN (l:List (Int ⊕ List Nat)):List Nat:=l.map fun | .inl n=>n.toNat | .inr _=>0
theorem kfN_nats (f:List Nat):kfN (f.map fun (n:Nat)=>Sum.inl (n:Int))=f:=by
 unfold kfN;rw [List.map_map]
 exact (List.map_congr_left (g:=id) fun n _=>by simp).trans (by simp)
def refA:Value→Addr
 | .ref a=>a
 | _=>0
def rSortedD:List V→Hp→VK→Prop:=fun xs H Q=>∃ (d:Addr) (kvs:List (List Key×V)) (fs:List (List Nat)),xs=[.ref d]∧H d=some (.dT kvs)∧kvs.map (·.1)=fs.map lK∧(∀ f∈fs,f≠[]) ∧
 ∀ (ys:List (List Nat)) (qs:List Addr) (p:Addr),ys.Perm fs→ys.Pairwise (fun a b=>Vh.earlier b a=false)→Paired (fun y q=>H q=some (.tup (y.map fun (n:Nat)=>V.int (n:Int)))) ys qs→H p=none→Q (.ref p) (upd H p (.lst (qs.map V.ref)))
theorem paired_of_get {α β:Type}{R:α→β→Prop}:∀ {xs:List α}{ys:List β},xs.length=ys.length→(∀ (i:Nat) (x:α) (y:β),xs[i]?=some x→ys[i]?=some y→R x y)→Paired R xs ys
 | [],[],_,_=>.nil
 | [],_::_,h,_=>by simp at h
 | _::_,[],h,_=>by simp at h
 | x::xs,y::ys,h,r=>.cons (r 0 x y rfl rfl) (paired_of_get (by simpa using h) fun i a b h1 h2=>r (i+1) a b (by simpa using h1) (by simpa using h2))
theorem vals_refs:∀ (vs:List Value),(∀ v∈vs,∃ q,v=.ref q)→Vals ((vs.map refA).map V.ref) vs
 | [],_=>.nil
 | v::vs,h=>by
  obtain ⟨q,rfl⟩:=h v (by simp)
  exact .cons (show Value.ref q=Value.ref q from rfl) (vals_refs vs fun u hu=>h u (by simp [hu]))
section
variable {X:Cx}
open PyProof.Rows.G in
theorem cr_sortedD (hc:X.calm=true):CallR X (.builtin "sorted") rSortedD:=by
 intro pins s σ H xs us Q I r h
 obtain ⟨d,kvs,fs,rfl,hd,hkf,hne,q⟩:=h
 rw [Vals.ref1 r]
 obtain ⟨z,hs,xs,pr,o,es,ep,ho,hx,hdt,he,hnd⟩:=(show ObjOk X.prog X.w H s.heap d (.dT kvs) from I.hok d _ hd)
 have l1:es.size=xs.length:=size_of_entries he
 have l2:kvs.length=xs.length:=Paired.length pr
 have l3:kvs.length=fs.length:=by have:=congrArg List.length hkf;simpa using this
 -- what stands at each place
 have ent:∀ (i:Nat) (f:List Nat),fs[i]?=some f→∃ (en:DictEntry) (q:Addr),es[i]?=some en∧en.key=.ref q∧H q=some (.tup (f.map fun (n:Nat)=>V.int (n:Int))):=fun i f hf=>by
  have hk:(kvs.map (·.1))[i]?=some (lK f):=by rw [hkf,List.getElem?_map,hf];rfl
  rw [List.getElem?_map] at hk
  cases hkv:kvs[i]? with
  | none=>rw [hkv] at hk;cases hk
  | some p =>
   rw [hkv] at hk
   have hk:p.1=lK f:=by simpa using hk
   obtain ⟨b,hb,e1,e2,_⟩:=paired_get pr hkv
   have q:=entry_at he i
   rw [hb] at q
   refine ⟨_,b.2.1,q,rfl,?_⟩
   rw [e2,hk]
   unfold lK
   rw [List.map_map]
   rfl
 have item:∀ (acc:Array Value),ItemsOf (fun i v=>∃ en,es[i]?=some en∧en.key=v) acc es.size→∀ (i:Nat) (v:Value),acc.toList[i]?=some v→∃ f q,fs[i]?=some f∧v=.ref q∧H q=some (.tup (f.map fun (n:Nat)=>V.int (n:Int))):=fun acc ha i v hv=>by
  have hv':acc[i]?=some v:=by rw [← Array.getElem?_toList];exact hv
  have hi:=(List.getElem?_eq_some_iff.mp hv).1
  rw [Array.length_toList,ha.1,l1,← l2,l3] at hi
  have hf:fs[i]?=some fs[i]:=List.getElem?_eq_getElem hi
  obtain ⟨en,e1,e2⟩:=ha.2 i v hv'
  obtain ⟨en',q,e3,e4,e5⟩:=ent i _ hf
  rw [e1] at e3
  cases e3
  exact ⟨_,q,hf,by rw [← e2,e4],e5⟩
 have tupAt:∀ (h':Heap),(∀ b o,s.heap.get? b=some o→h'.get? b=some o)→∀ (f:List Nat) (q:Addr),H q=some (.tup (f.map fun (n:Nat)=>V.int (n:Int))) →
   ∃ o its n,h'.get? q=some o∧o.cls=.type "tuple"∧o.data=.seq its n∧Vals (f.map fun (n:Nat)=>V.int (n:Int)) its.toList:=fun h' k f q hq=>by
  obtain ⟨_,its,rv,o,e1,e2,n,e3⟩:=(show ObjOk X.prog X.w H s.heap q (.tup _) from I.hok q _ hq)
  exact ⟨o,its.toArray,n,k q o e1,e2,e3,by simpa using rv⟩
 have keyAt:∀ (h':Heap),(∀ b o,s.heap.get? b=some o→h'.get? b=some o)→∀ (f:List Nat) (q:Addr),H q=some (.tup (f.map fun (n:Nat)=>V.int (n:Int)))→tupKeyC h' (fun _=>false) (.ref q)=some (f.map fun (n:Nat)=>Sum.inl (n:Int)):=fun h' k f q hq=>by
  obtain ⟨o,its,n,e1,e2,e3,e4⟩:=tupAt h' k f q hq
  unfold tupKeyC
  have i1:isTupObj h' (.ref q)=true:=by simp only [isTupObj,e1,e2];rfl
  rw [if_pos i1]
  simp only [tupKey,e1,e3]
  exact tup_nats 0 e4
 refine sorted_src (src_keys (o:=o) (es:=es) (ep:=ep) hs hx hdt) (I.ok.hd hc) ho (by rw [l1,← l2];exact z) (fun acc h' ha k=>?_) (fun acc h' ha k v hv=>?_) (fun acc h1 h2 tk p e st' ha k1 k2 hp hl hperm hsort=>?_)
 ·-- each is a tuple that is not empty
  have all:∀ v∈acc.toList,∃ f',TupOf h' (fun _=>false) v f':=fun v hv=>by
   obtain ⟨i,hi,e⟩:=List.mem_iff_getElem.mp hv
   obtain ⟨f,q,hf,rfl,hq⟩:=item acc ha i v (by rw [List.getElem?_eq_getElem hi,e])
   obtain ⟨o',its,n,e1,e2,e3,e4⟩:=tupAt h' k f q hq
   have hfn:=hne f (List.mem_of_getElem? hf)
   cases f with
   | nil=>exact absurd rfl hfn
   | cons c f =>
    match its,e4 with
    | ⟨u::r⟩,.cons ru _ =>
     exact ⟨u,q,o',_,n,rfl,e1,e2,e3,rfl,fun _=>⟨(c:Int),ru⟩,fun z=>absurd z (by decide)⟩
  have mk:∀ vs:List Value,(∀ v∈vs,∃ f',TupOf h' (fun _=>false) v f')→∃ fs',TupsOf h' (fun _=>false) vs fs':=fun vs=>by
   induction vs with
   | nil=>intro _;exact ⟨_,.nil⟩
   | cons v vs ih =>
    intro hv
    obtain ⟨f',h1⟩:=hv v (by simp)
    obtain ⟨fs',h2⟩:=ih fun u hu=>hv u (by simp [hu])
    exact ⟨_,.cons h1 h2⟩
  exact mk _ all
 ·obtain ⟨i,hi,e⟩:=List.mem_iff_getElem.mp hv
  obtain ⟨f,q,hf,rfl,hq⟩:=item acc ha i v (by rw [List.getElem?_eq_getElem hi,e])
  exact ⟨_,keyAt h' k f q hq⟩
 ·-- the outcome
  have hkf2:∀ v∈acc.toList,∃ f q,v=.ref q∧H q=some (.tup (f.map fun (n:Nat)=>V.int (n:Int)))∧kfN ((tupKeyC h1 (fun _=>false) v).getD [])=f:=fun v hv=>by
   obtain ⟨i,hi,e⟩:=List.mem_iff_getElem.mp hv
   obtain ⟨f,q,hf,rfl,hq⟩:=item acc ha i v (by rw [List.getElem?_eq_getElem hi,e])
   refine ⟨f,q,rfl,hq,?_⟩
   rw [keyAt h1 k1 f q hq]
   exact kfN_nats f
  have hfs:fs=acc.toList.map fun v=>kfN ((tupKeyC h1 (fun _=>false) v).getD []):=by
   apply List.ext_getElem?
   intro i
   rw [List.getElem?_map]
   cases hv:acc.toList[i]? with
   | none =>
    rw [List.getElem?_eq_none];rfl
    have:=List.getElem?_eq_none_iff.mp hv
    rw [Array.length_toList,ha.1,l1,← l2,l3] at this
    exact this
   | some v =>
    obtain ⟨f,q,hf,rfl,hq⟩:=item acc ha i v hv
    rw [hf]
    show some f=some (kfN ((tupKeyC h1 (fun _=>false) (Value.ref q)).getD []))
    rw [keyAt h1 k1 f q hq]
    exact congrArg some (kfN_nats f).symm
  have hp2:((arrOf st').map (·.2)).toList.Perm acc.toList:=by
   have h1:=hperm.toList
   rw [pairsOf_toList] at h1
   have h2:=h1.map (fun (p:Keyed)=>p.2)
   rw [Array.toList_map]
   refine h2.trans (List.Perm.of_eq ?_)
   rw [List.map_snd_zip]
   exact Nat.le_refl _
  have hsame:∀ p∈(arrOf st').toList,p.1=p.2:=fun p hp=>by
   have:=hperm.toList.mem_iff.mp hp
   rw [pairsOf_toList] at this
   exact (mem_zip_self this).1
  generalize hout:((arrOf st').map (·.2)).toList=out at hp2
  have hin:∀ v∈out,v∈acc.toList:=fun v hv=>hp2.mem_iff.mp hv
  have ho1:((arrOf st').map (·.2))=out.toArray:=by rw [← hout]
  have hlen:out.length≤sizeLine:=by rw [hp2.length_eq,Array.length_toList,ha.1,l1,← l2];exact z
  have J:Inv X pins σ (upd H p (.lst ((out.map refA).map V.ref))) { s with heap:=h2,toks:=tk }:=I.laid (t':=tk) (fun b ob eb=>k2 b ob eb) hp ⟨by rw [List.length_map,List.length_map];exact hlen,out,e,vals_refs out fun v hv=>by
    obtain ⟨_,q,e1,_⟩:=hkf2 v (hin v hv)
    exact ⟨q,e1⟩,by rw [hl,ho1]⟩
  refine ⟨.ref p,_,J,rfl,q (out.map fun v=>kfN ((tupKeyC h1 (fun _=>false) v).getD [])) (out.map refA) p ?_ ?_ ?_ (I.hok.fresh hp)⟩
  ·rw [hfs];exact hp2.map _
  ·rw [List.pairwise_map,List.pairwise_iff_getElem]
   intro i j hi hj hij
   have sz:(pairsOf acc.toList).size=out.length:=by rw [pairsOf_size,hp2.length_eq]
   have hk:=hsort i j (Nat.le_of_lt hij) (by rw [sz];exact hj)
   have kk:∀ (m:Nat) (hm:m<out.length),KK (tupKindC h1 (fun _=>false)) (arrOf st') m=(tupKeyC h1 (fun _=>false) out[m]).getD []:=fun m hm=>by
    have hm2:m<(arrOf st').size:=by rw [← hout] at hm;simpa using hm
    have e1:(arrOf st')[m]?=some (arrOf st')[m]:=Array.getElem?_eq_getElem hm2
    have e2:out[m]=(arrOf st')[m].2:=by simp [← hout]
    have e3:=hsame (arrOf st')[m] (by simp)
    unfold KK
    rw [e1,e2,← e3]
   have hk:lexLt itemOrd (KK (tupKindC h1 (fun _=>false)) (arrOf st') j) (KK (tupKindC h1 (fun _=>false)) (arrOf st') i)=false:=hk
   rw [kk i hi,kk j hj] at hk
   obtain ⟨f,q,e1,e2,e3⟩:=hkf2 out[i] (hin _ (List.getElem_mem hi))
   obtain ⟨f',q',e1',e2',e3'⟩:=hkf2 out[j] (hin _ (List.getElem_mem hj))
   rw [e3,e3']
   rw [e1,e1',keyAt h1 k1 f q e2,keyAt h1 k1 f' q' e2'] at hk
   rw [← lex_earlier]
   exact hk
  ·refine paired_of_get (by simp) fun i x y hx hy=>?_
   rw [List.getElem?_map] at hx hy
   cases hv:out[i]? with
   | none=>rw [hv] at hx;cases hx
   | some v =>
    rw [hv] at hx hy
    cases hx;cases hy
    obtain ⟨f,q,rfl,e2,e3⟩:=hkf2 v (hin v (List.mem_of_getElem? hv))
    show H q=some (.tup ((kfN ((tupKeyC h1 (fun _=>false) (Value.ref q)).getD [])).map fun (n:Nat)=>V.int (n:Int)))
    rw [e3];exact e2
end
end L2
end
section
set_option maxRecDepth 100000
namespace L2
open PySem PySem.Spec PyProof.Rows
section
variable {X:Cx}{CX:CXT}{j k:Nat}{ps:List Str}{sp:Sp}{E:XK}{x y:Str}{p pos:Pos}{e:Expr}{es:List Expr}{t:TA}
def tCallL (i:Nat) (f:Addr) (u:TE):TE:=fun σ H Q=>σ[i]?=some (some (V.ref f))∧u σ H Q
def tCallXL (i:Nat) (f:Addr) (u:St→Hp→VK→XK→Prop):St→Hp→VK→XK→Prop:=fun σ H Q E=>σ[i]?=some (some (V.ref f))∧u σ H Q E
theorem px_callL (i:Nat) {f C:Addr} (c:FnC X.prog X.w X.K X.mg X.base (CX1 X.prog X.w C) j y ps sp) (hm:X.mg y=some (.ref f)) (hr:Room k X.A) (ha:PA X.nox (e::es) t) (hjk:j≤k:=by decide)
  (hN:X.N[i]?=some x:=by rfl) (hv:Vis X.env.scope x:=by first | exact Or.inl rfl | exact Or.inr (Or.inl rfl) | exact Or.inr (Or.inr rfl)) (hd:(x==("__debug__":Str))=false:=by decide) (hcd:(x==("__classdict__":Str))=false:=by decide)
  (he:starEach (e::es) X.env=(false,eval e X.env)::starEach es X.env:=by rfl) (hpl:(backTo pos (starEach es X.env)).any (·.1)=false:=by rfl) :
  PXE X C (.Call (.Name x p) (e::es) [] pos) (tCallXL i f (tCallX sp [] t)):=by
 obtain ⟨f',fd,hm',hk,hb,F⟩:=c.ex
 rw [hm] at hm'
 cases hm'
 intro pins s σ H Q E I h
 refine wpAny_Call_Name_kw (wpAny_mono (pe_var (X:=X.nox) (pos:=p) hN hv hd hcd pins s σ H (fun v H'=>v=V.ref f∧tCallX sp [] t σ H' Q E) (I.wish _) ⟨_,h.1,rfl,h.2⟩) (fun u s1 ⟨v,H1,I1',r,ev,q⟩=>?_) fun _ _ z=>False.elim z)
 subst ev
 have r:u=.ref f:=by cases r;rfl
 subst r
 have I1:=I1'.unwish
 refine PySem.W.callWith_K (h₀:=X.base) I1.ok.mod.kin hk (wpAny_mono (ha pos pins s1 σ H1 _ (I1.wish _) q) (fun us s2 ⟨vs,H2,I2',r,q⟩=>?_) fun _ _ z=>False.elim z) he hpl
 have I2:=I2'.unwish
 refine ⟨I2.kIn,?_⟩
 have r2:Vals (vs++[]) (us++[]):=r.append .nil
 have hl:(us++[]).length=ps.length:=by rw [← r2.length];exact F.len _ _ _ _ q
 refine wpAny_call (codeAny_mono (F.run X.A X.stack s2 H2 ⟨us,[]⟩ (us++[]) (vs++[]) Q E (hr.mono hjk) I2.env0 (hb s2 us I2.kIn hl) r2 q) fun r s' hq=>?_)
 cases r with
 | error v=>exact ⟨s2,H2,I2,hq⟩
 | ok fl =>
  cases fl with
  | ret u=>exact I2.after hq
  | next=>exact False.elim hq
  | brk=>exact False.elim hq
  | cont=>exact False.elim hq
end
end L2
end
section
set_option maxRecDepth 100000
namespace L2
open PySem PySem.Spec PyProof.Rows
def cxLam (P:Program) (w:World) (K:PySem.W.Frag) (mg:Str→Option Value) (base:Heap) (N:List Str) (qual:Str) (scope:Scope) (f:Addr) (cd:Value) (cl:List (Str×Addr)) (A:Around) (outer:List Env) (s:Shared) (H:Hp) (E:XK):Cx where
 prog:=P
 w:=w
 K:=K
 mg:=mg
 base:=base
 A:=A.deeper (PySem.W.envX qual scope s.heap.objs.size f cd cl)
 N:=N
 s_0:=s
 H_0:=H
 env:=PySem.W.envX qual scope s.heap.objs.size f cd cl
 outer:=outer
 stack:=PySem.W.envX qual scope s.heap.objs.size f cd cl::outer
 ex:=[]
 calm:=true
 fn:=fun _=>false
 pn:=[]
 xe:=fun e s'=>wpAny (model P w) (A.deeper (PySem.W.envX qual scope s.heap.objs.size f cd cl)) (leaving (PySem.W.envX qual scope s.heap.objs.size f cd cl) e) (fun _ s''=>CX0 outer H s E e s'') (fun e' s''=>CX0 outer H s E e' s'') s'
section
variable {P:Program}{w:World}{K:PySem.W.Frag}{mg:Str→Option Value}{base:Heap}{k:Nat}{f c' kc:Addr}{params:Arguments}{body:Expr}{scope:Scope}{pm ctv uk:Value}{name qual x fx:Str}{kv:V}{sp:Sp}
end
end L2
end
section
set_option maxRecDepth 100000
namespace L2
open PySem PySem.Spec PyProof.Rows
def bare2 (h:Heap) (H:Hp) (l:List Env):Heap:=PySem.W.hideAll h (trk h H++frs l)
theorem bare2_get {h:Heap}{H:Hp}{l:List Env}{b:Addr}{o:Obj} (e:h.get? b=some o) (n:H b=none) (hl:b ∉ frs l):(bare2 h H l).get? b=some o :=
 PySem.W.hideAll_get _ e fun hm=>by
  rcases List.mem_append.mp hm with hm | hm
  ·have q:(H b).isSome=true:=(List.mem_filter.mp hm).2
   rw [n] at q;simp at q
  ·exact hl hm
theorem of_bare2 {h:Heap}{H:Hp}{l:List Env}{b:Addr}{o:Obj} (e:(bare2 h H l).get? b=some o):h.get? b=some o∧H b=none:=by
 have e':h.get? b=some o:=PySem.W.of_hideAll _ e
 refine ⟨e',?_⟩
 cases q:H b with
 | none=>rfl
 | some u =>
  have hm:b∈trk h H++frs l:=List.mem_append_left _ (List.mem_filter.mpr ⟨List.mem_range.mpr (Heap.lt_size e'),by rw [q];rfl⟩)
  have:=PySem.W.hideAll_none (h:=h) (trk h H++frs l) hm
  unfold bare2 at e
  rw [this] at e;cases e
theorem Mod.keeps {K:PySem.W.Frag}{mg:Str→Option Value}{b b':Heap} (m:Mod K mg b) (k:∀ a o,b.get? a=some o→b'.get? a=some o):Mod K mg b' :=
 ⟨m.kin.keeps k,m.glob.keeps k,let ⟨mb,h1,h2⟩:=m.blt;⟨mb,h1.keeps k,h2⟩,m.nolimit.keeps k⟩
section
variable {X:Cx}{i j k jl:Nat}{c PT gf fr:Addr}{g t x fx ql rn:Str}{p pt pos lp rp:Pos}{params:Arguments}{body:Expr}{sc:Scope}{E:XK}{spL:V→Sp}{spA:Addr→V→Sp}{ps2:List Str}
theorem pe_callF {CX:CXT}{j:Nat}{ps:List Str}{sp:Sp}{e:Expr}{es:List Expr}{ta:TA} (i:Nat) {f:Addr}{fd:FuncData} (hat:PySem.W.FnAt f X.base) (F:FnOk X.prog X.w X.K X.mg X.base CX j f fd ps sp)
  (hb:∀ (s:Shared) (us:List Value),us.length=ps.length→BindsTo s fd ⟨us,[]⟩ (ps.zip us)) (hr:Room k X.A) (hx:Passes CX X E) (ha:PA X (e::es) ta) (hjk:j≤k:=by decide)
  (hN:X.N[i]?=some x:=by rfl) (hv:Vis X.env.scope x:=by first | exact Or.inl rfl | exact Or.inr (Or.inl rfl) | exact Or.inr (Or.inr rfl)) (hd:(x==("__debug__":Str))=false:=by decide) (hcd:(x==("__classdict__":Str))=false:=by decide)
  (he:starEach (e::es) X.env=(false,eval e X.env)::starEach es X.env:=by rfl) (hpl:(backTo pos (starEach es X.env)).any (·.1)=false:=by rfl) :
  PE X (.Call (.Name x p) (e::es) [] pos) (tCallL i f (tCall sp [] E ta)):=by
 intro pins s σ H Q I h
 refine wpAny_Call_Name_kw (thn (pe_var (pos:=p) hN hv hd hcd pins s σ H (fun v H'=>v=V.ref f∧tCall sp [] E ta σ H' Q) I ⟨_,h.1,rfl,h.2⟩) fun u s1 ⟨v,H1,I1,r,ev,q⟩=>?_)
 subst ev
 have r:u=.ref f:=by cases r;rfl
 subst r
 have at':∀ {s':Shared}{H':Hp},Inv X pins σ H' s'→PySem.W.FnAt f s'.heap:=fun J=>by
  obtain ⟨oc,od,fd',sl,e⟩:=hat
  exact ⟨oc,od,fd',sl,(J.bs _ _ e).1⟩
 refine PySem.W.callWith_F (at' I1) (thn (ha pos pins s1 σ H1 _ I1 q) fun us s2 ⟨vs,H2,I2,r,q⟩=>⟨at' I2,?_⟩) he hpl
 rw [List.nil_append]
 have q:sp (vs++[]) H2 Q E:=q
 rw [List.append_nil] at q
 have hl:us.length=ps.length:=by rw [← r.length];exact F.len _ _ _ _ q
 refine wpAny_call (codeAny_mono (F.run X.A X.stack s2 H2 ⟨us,[]⟩ us vs Q E (hr.mono hjk) I2.env0 (hb s2 us hl) r q) fun r s' hq=>?_)
 cases r with
 | error e=>exact hx pins σ H2 s2 e s' I2 hq
 | ok fl =>
  cases fl with
  | ret u=>exact I2.after hq
  | next=>exact False.elim hq
  | brk=>exact False.elim hq
  | cont=>exact False.elim hq
end
end L2
end
section
set_option maxRecDepth 100000
namespace L2
open PySem PySem.Spec PyProof.Rows
structure LamScope0 (x:Str) (sc:Scope):Prop where
 kind:sc.kind=.function
 co:sc.isCoroutine=false
 gen:sc.isGenerator=false
 par:sc.names.lookup x=some .local
 nocell:∀ y∈sc.names,y.2≠.cell
 nofree:∀ y∈sc.names,y.2≠.free
section
variable {P:Program}{w:World}{K:PySem.W.Frag}{mg:Str→Option Value}{base:Heap}{k:Nat}{f c':Addr}{params:Arguments}{body:Expr}{scope:Scope}{pm ctv:Value}{name qual x:Str}{sp:Sp}
theorem lam_ok0 (S:LamScope0 x scope) (hf:base.get? f=some (PySem.W.kla_obj name qual params body scope [] pm c' ctv)) (hc:base.CodeRec (.ref c') qual)
  (len:∀ vs H Q E,sp vs H Q E→vs.length=[x].length)
  (hbody:∀ (A:Around) (outer:List Env) (s:Shared) (H:Hp) (v:V) (Q:VK) (E:XK),Room k (A.deeper (PySem.W.envX qual scope s.heap.objs.size f (.ref c') []))→sp [v] H Q E →
   ∃ t,PE (cxLam P w K mg base [x] qual scope f (.ref c') [] A outer s H E) body t∧t [some v] H Q) :
  FnOk P w K mg base CX0 (k+1) f (PySem.W.kla_fn name qual params body scope [] pm (.ref c') ctv) [x] sp:=by
 refine ⟨len,fun A outer s H args us vs Q E hr e0 hb r hsp=>?_⟩
 have hl:=len _ _ _ _ hsp
 obtain ⟨v,rfl⟩:∃ v,vs=[v]:=by
  match vs,hl with
  | [v],_=>exact ⟨v,rfl⟩
 obtain ⟨u,rfl,rv⟩:=vals1 r
 have lim:s.heap.NoLimit:=e0.mod.nolimit.keeps fun b o e=>(e0.bs b o e).1
 have ks:∀ b o,base.get? b=some o→s.heap.get? b=some o:=fun b o e=>(e0.bs b o e).1
 refine PySem.W.kla_callFunE hr.depth (ks _ _ hf) rfl S.co S.gen rfl (hc.keeps ks) (hb _ _ _ _ ?_)
 have hloc:∀ y∈[x].zip [u],scope.names.lookup y.1=some .local:=fun y hy=>by
  simp at hy;subst hy;exact S.par
 refine wpAny_newFunctionEnv S.nocell hloc (fun h₁ hns hsb=>?_) S.kind
 have hk:∀ b o,s.heap.get? b=some o→h₁.get? b=some o:=fun b o e=>hsb.extBut b o (Nat.ne_of_lt (Heap.lt_size e)) (Heap.get?_push_of_some _ e)
 refine ⟨lim.keeps hk,PySem.W.kla_codeExpr ?_⟩
 obtain ⟨t,ht,hq⟩:=hbody A outer s H v Q E (hr.deeper _) hsp
 have noA:∀ b:Addr,b ∉ (cxLam P w K mg base [x] qual scope f (.ref c') [] A outer s H E).ex:=fun b z=>absurd (show b∈([]:List Addr) from z) (by simp)
 have I:Inv (cxLam P w K mg base [x] qual scope f (.ref c') [] A outer s H E) [] [some v] H { s with heap:=h₁,toks:=s.toks+([x].zip [u]).length }:=by
  refine ⟨⟨e0.mod,S.kind,rfl,rfl,Nat.le_refl _,fun y z c h1 h2=>?_,fun y hy=>?_,fun y c h=>Bool.noConfusion (show false=true from h),fun _=>hr.hd,Around.frames_deeper e0.frames,.inr ⟨rfl,rfl⟩,fun b z=>absurd z (noA b),e0.bs,e0.bsz,fun b _ _=>noA b,fun b z=>absurd z (noA b),e0.funs,e0.frf⟩,
   rfl,e0.bare,Un.kept hk,⟨_,hns,fun i y v' h1 h2 h3=>?_⟩,fun y c h=>?_,e0.hok.fresh (Nat.le_refl _),fun y c h=>?_,fun p hp=>absurd (show p∈([]:List (Addr×Obj)) from hp) (by simp),e0.hok.kept hk,rfl⟩
  ·cases (show (none:Option Addr)=some c from h1)
  ·have hy:scope.names.lookup y=some .cell∨scope.names.lookup y=some .free:=hy
   rcases hy with hy | hy
   ·exact absurd rfl (S.nocell _ (PySem.mem_of_lookup hy))
   ·exact absurd rfl (S.nofree _ (PySem.mem_of_lookup hy))
  ·match i,h1,h2 with
   | 0,h1,h2 =>
    have e1:x=y:=by simpa [cxLam] using h1
    have e2:v=v':=by simpa using h2
    subst e1;subst e2
    refine ⟨u,rv,.inl ⟨S.par,?_⟩⟩
    simp
   | i+1,h1,h2=>simp at h2
  ·cases (show (none:Option Addr)=some c from h)
  ·cases (show (none:Option Addr)=some c from h)
 refine wpAny_mono (ht [] _ _ H _ I hq) (fun u' s' hs=>?_) fun e s' hs=>hs
 obtain ⟨v',H',J,rv',q'⟩:=hs
 exact ⟨v',H',J.os,J.bare,J.base,J.hok,rv',q'⟩
end
def tCallLam0 (i:Nat) (fr PT:Addr) (lp:Pos) (spA:Addr→Sp) (E:XK):TE:=fun σ H Q=>∃ vt ps,σ[i]?=some (some vt)∧H PT=some (.tbl ps)∧PySem.TriplesOk ps.toList∧PySem.codeAmong lp ps.toList=none ∧
 ∀ f ps',H f=none→spA f [vt,.ref fr,.ref f] (upd H PT (.tbl ps')) Q E
section
variable {X:Cx}{i k jl:Nat}{c PT gf fr:Addr}{g t x ql rn:Str}{p pt pos lp rp:Pos}{params:Arguments}{body:Expr}{sc:Scope}{E:XK}{spL:Sp}{spA:Addr→Sp}{ps2:List Str}
theorem pe_callLam0 (S:LamScope0 x sc) (hcode:X.env.code=.ref c) (hC:∀ h,X.K.In h→PySem.W.CodeHd h c PT) (hB:X.base.BuiltinsAt X.mg PT)
  (hNi:X.N[i]?=some t) (hvt:Vis X.env.scope t)
  (hcl:closureFor sc X.env=pure []) (hdef:defaultsOf params X.env=([],[])) (hql:X.env.qual++"<lambda>"=ql)
  (hrg:Gl X rn) (hrm:X.mg rn=some (.ref fr)) (hgl:Gl X g) (hm:X.mg g=some (.ref gf)) (hk:PySem.W.keepIn X.K (.ref gf)=true) (hr:Room k X.A)
  (hlen:∀ vs H Q E,spL vs H Q E→vs.length=[x].length)
  (hA:∀ (base':Heap) (f:Addr) (fd:FuncData),Mod X.K X.mg base'→PySem.W.FnAt f base'→(∀ (s:Shared) (us:List Value),us.length=[x].length→BindsTo s fd ⟨us,[]⟩ ([x].zip us))→FnOk X.prog X.w X.K X.mg base' CX0 (jl+1) f fd [x] spL →
   FnC X.prog X.w X.K X.mg base' CX0 k g ps2 (spA f))
  (hbind:∀ (f:Addr) (c':Addr) (pm ctv:Value) (s:Shared) (us:List Value),us.length=[x].length→BindsTo s (PySem.W.kla_fn "<lambda>" ql params body sc [] pm (.ref c') ctv) ⟨us,[]⟩ ([x].zip us))
  (hL:∀ (base':Heap) (f c':Addr) (A:Around) (outer:List Env) (s:Shared) (H:Hp) (v:V) (Q:VK) (E:XK),Room jl (A.deeper (PySem.W.envX ql sc s.heap.objs.size f (.ref c') []))→spL [v] H Q E →
   ∃ t,PE (cxLam X.prog X.w X.K X.mg base' [x] ql sc f (.ref c') [] A outer s H E) body t∧t [some v] H Q)
  (hx:Passes CX0 X E) (hgP:mainGlobals≠PT)
  (hdb:(g==("__debug__":Str))=false:=by decide) (hdrn:(rn==("__debug__":Str))=false:=by decide) (hdt:(t==("__debug__":Str))=false:=by decide) (hct:(t==("__classdict__":Str))=false:=by decide)
  (he:starEach [.Name t pt,.Name rn rp,.Lambda params body sc lp] X.env=(false,eval (.Name t pt) X.env)::starEach [.Name rn rp,.Lambda params body sc lp] X.env:=by rfl)
  (he1:starEach [.Name rn rp,.Lambda params body sc lp] X.env=(false,eval (.Name rn rp) X.env)::starEach [.Lambda params body sc lp] X.env:=by rfl)
  (he2:starEach [.Lambda params body sc lp] X.env=(false,eval (.Lambda params body sc lp) X.env)::starEach [] X.env:=by rfl)
  (hpl:(backTo pos (starEach [.Name rn rp,.Lambda params body sc lp] X.env)).any (·.1)=false:=by rfl) :
  PE X (.Call (.Name g p) [.Name t pt,.Name rn rp,.Lambda params body sc lp] [] pos) (tCallLam0 i fr PT lp spA E):=by
 intro pins s σ H Q I h
 obtain ⟨vt,ps,hi,hPT,hTr,hnf,hq⟩:=h
 refine wpAny_Call_Name_kw (ld_glob I hgl hm ?_ hdb)
 refine PySem.W.callWith_K (h₀:=X.base) I.ok.mod.kin hk ?_ he hpl
 rw [he]
 show wpAny _ _ (spliced ((false,eval (.Name t pt) X.env)::backTo pos (starEach [.Name rn rp,.Lambda params body sc lp] X.env))) _ _ s
 refine Calls.spliced_cons (thn (pe_var (pos:=pt) hNi hvt hdt hct pins s σ H (fun v H'=>v=vt∧H'=H) I ⟨vt,hi,rfl,rfl⟩) fun ut s1 ⟨v1,H1,I1,rt,ev,eH⟩=>?_)
 subst ev;subst eH
 rw [he1]
 show wpAny _ _ (spliced ((false,eval (.Name rn rp) X.env)::backTo pos (starEach [.Lambda params body sc lp] X.env))) _ _ s1
 refine Calls.spliced_cons (ld_glob I1 hrg hrm ?_ hdrn)
 rw [he2]
 show wpAny _ _ (spliced ((false,eval (.Lambda params body sc lp) X.env)::backTo pos (starEach [] X.env))) _ _ s1
 obtain ⟨m,hns,hl⟩:=I1.loc
 have hPs:s1.heap.get? PT=some (PySem.W.tabObj ps):=I1.hok PT _ hPT
 have hbk:∀ b o,X.base.get? b=some o→s1.heap.get? b=some o:=fun b o e=>(I1.bs b o e).1
 have hBs:s1.heap.BuiltinsAt X.mg PT:=by
  obtain ⟨bm,ob,a1,a2,a3,a4,a5,r⟩:=hB
  exact ⟨bm,ob,a1,a2,a3,a4,hbk _ _ a5,r⟩
 have hgs:s1.heap.Ns mainGlobals X.mg:=I1.ok.mod.glob.keeps hbk
 refine Calls.spliced_cons (PySem.W.kla_eval hdef ?_)
 rw [hql]
 refine PySem.W.kla_makeFunction hcl I1.ok.glob hgs hcode (hC _ (I1.ok.mod.kin.keeps hbk)) hPs hTr hnf hgP hBs fun c' ctv h' tk hx' hge hlt hrec htb=>?_
 refine Calls.spliced_nil ?_
 -- the state behind the lambda
 have hsz:s1.heap.objs.size≤h'.objs.size:=Nat.le_of_lt (Nat.lt_of_le_of_lt hge hlt)
 have keep:∀ b o,b≠PT→s1.heap.get? b=some o→(h'.push (PySem.W.kla_obj "<lambda>" ql params body sc [] ((X.mg "__name__").getD .none) c' ctv)).get? b=some o:=fun b o nb e=>Heap.get?_push_of_some _ (hx' b o nb e)
 have hPn:(h'.push (PySem.W.kla_obj "<lambda>" ql params body sc [] ((X.mg "__name__").getD .none) c' ctv)).get? PT=some (PySem.W.tabObj (ps++#[rawInt lp.line,rawInt lp.col,.ref c'])):=Heap.get?_push_of_some _ htb
 have hfo:(h'.push (PySem.W.kla_obj "<lambda>" ql params body sc [] ((X.mg "__name__").getD .none) c' ctv)).get? h'.objs.size=some (PySem.W.kla_obj "<lambda>" ql params body sc [] ((X.mg "__name__").getD .none) c' ctv):=Heap.get?_push_size _ rfl
 have hrec':(h'.push (PySem.W.kla_obj "<lambda>" ql params body sc [] ((X.mg "__name__").getD .none) c' ctv)).CodeRec (.ref c') ql:=hrec.push _
 generalize hG:h'.push (PySem.W.kla_obj "<lambda>" ql params body sc [] ((X.mg "__name__").getD .none) c' ctv)=G at *
 have ntb:∀ b u,H1 b=some u→b≠PT→upd H1 PT (.tbl (ps++#[rawInt lp.line,rawInt lp.col,.ref c'])) b=some u:=fun b u e n=>by rw [upd_ne n];exact e
 have un:Un (frs X.stack) [] H1 (upd H1 PT (.tbl (ps++#[rawInt lp.line,rawInt lp.col,.ref c']))) s1.heap G:=by
  have npt:∀ b,H1 b=none→b≠PT:=fun b n z=>by rw [z,hPT] at n;cases n
  refine ⟨fun b o e n _ _=>keep b o (npt b n) e,fun b o e n _ _=>⟨o.slots,keep b o (npt b n) e⟩,fun b o e n _=>by rw [upd_ne (npt b n)];exact n,fun b o e _=>?_,fun b xs e=>ntb b _ e (fun z=>by rw [z,hPT] at e;cases e),fun b o u e=>ntb b _ e (fun z=>by rw [z,hPT] at e;cases e),fun b qs e=>?_⟩
  ·by_cases z:b=PT
   ·subst z;exact ⟨_,hPn⟩
   ·exact ⟨o,keep b o z e⟩
  ·by_cases z:b=PT
   ·subst z
    rw [hPT] at e
    cases e
    exact ⟨_,upd_same⟩
   ·exact ⟨#[],by rw [upd_ne z,e];simp⟩
 have hok2:HOk X.prog X.w (upd H1 PT (.tbl (ps++#[rawInt lp.line,rawInt lp.col,.ref c']))) G:=fun b u e=>by
  by_cases z:b=PT
  ·subst z
   rw [upd_same] at e
   cases e
   exact hPn
  ·rw [upd_ne z] at e
   refine (I1.hok b u e).stay (fun d o hd r=>keep d o ?_ r) (fun d r=>ntb d _ r fun z=>by rw [z,hPT] at r;cases r) fun d xs r=>ntb d _ r fun z=>by rw [z,hPT] at r;cases r
   rcases hd with rfl | hd
   ·exact z
   ·intro z;rw [z,hPT] at hd;cases hd
 have I2:Inv X pins σ (upd H1 PT (.tbl (ps++#[rawInt lp.line,rawInt lp.col,.ref c']))) { s1 with heap:=G,toks:=tk }:=I1.call' rfl un hok2 I1.bare fun b z=>absurd z (by simp)
 refine ⟨I2.kIn,?_⟩
 have hlN:∀ b,b∈frs X.stack→b<s1.heap.objs.size:=fun b hb=>by
  obtain ⟨_,o,ho,_⟩:=I1.stack.mem hb
  exact Heap.lt_size ho
 have fresh:∀ b,s1.heap.objs.size≤b→upd H1 PT (.tbl (ps++#[rawInt lp.line,rawInt lp.col,.ref c'])) b=none∧b ∉ frs X.stack:=fun b hb=>by
  refine ⟨?_,fun z=>absurd (hlN b z) (Nat.not_lt.mpr hb)⟩
  have hbP:b≠PT:=fun z=>by rw [z] at hb;exact absurd (Heap.lt_size hPs) (Nat.not_lt.mpr hb)
  rw [upd_ne hbP]
  exact I1.hok.fresh hb
 obtain ⟨B',hB'⟩:∃ B',B'=bare2 G (upd H1 PT (.tbl (ps++#[rawInt lp.line,rawInt lp.col,.ref c']))) X.stack:=⟨_,rfl⟩
 have ksB:∀ b o,X.base.get? b=some o→B'.get? b=some o:=fun b o e=>by
  rw [hB']
  have q:=I2.bs b o e
  refine bare2_get q.1 q.2 fun z=>?_
  have:=(I1.stack.mem z).1
  rw [e] at this;cases this
 have hM:Mod X.K X.mg B':=I1.ok.mod.keeps ksB
 have hfB:B'.get? h'.objs.size=some (PySem.W.kla_obj "<lambda>" ql params body sc [] ((X.mg "__name__").getD .none) c' ctv):=by
  rw [hB']
  have q:=fresh h'.objs.size hsz
  exact bare2_get hfo q.1 q.2
 have hcB:B'.CodeRec (.ref c') ql:=by
  obtain ⟨c2,oc,vs,tq,e1,e2,e3,e4⟩:=hrec'
  cases e1
  have q:=fresh c' hge
  exact ⟨c',oc,vs,tq,rfl,by rw [hB'];exact bare2_get e2 q.1 q.2,e3,e4⟩
 have FL:=lam_ok0 (w:=X.w) (P:=X.prog) (K:=X.K) (mg:=X.mg) (base:=B') (k:=jl) (sp:=spL) S hfB hcB hlen (fun A outer s H v Q E hr hsp=>hL B' _ c' A outer s H v Q E hr hsp)
 obtain ⟨gf',gd,hm',_,hbg,FG⟩:=(hA B' h'.objs.size _ hM ⟨_,_,_,_,hfB⟩ (hbind h'.objs.size c' _ ctv) FL).ex
 rw [hm] at hm'
 cases hm'
 have hsp:=hq h'.objs.size (ps++#[rawInt lp.line,rawInt lp.col,.ref c']) (I1.hok.fresh hsz)
 have r2:Vals [v1,.ref fr,.ref h'.objs.size] [ut,.ref fr,.ref h'.objs.size]:=.cons rt (.cons rfl (.cons rfl .nil))
 have hl2:([ut,Value.ref fr,Value.ref h'.objs.size]:List Value).length=ps2.length:=by rw [← r2.length];exact FG.len _ _ _ _ hsp
 have e0:Env0 X.prog X.w X.K X.mg B' X.A X.stack { s1 with heap:=G,toks:=tk } (upd H1 PT (.tbl (ps++#[rawInt lp.line,rawInt lp.col,.ref c']))) :=
  ⟨I2.ok.frames,hM,fun b o e=>by rw [hB'] at e;exact of_bare2 e,by rw [hB'];exact Nat.le_of_eq (PySem.W.hideAll_size _ _),by
   rw [hB']
   exact PySem.W.funFrames_hide I2.stack fun env he a ha=>List.mem_append_right _ (List.mem_filterMap.mpr ⟨env,he,ha⟩),I2.stkFree,I2.hok,I2.bare⟩
 have hb2:=hbg { s1 with heap:=G,toks:=tk } [ut,.ref fr,.ref h'.objs.size] I2.kIn (by rw [List.append_nil];exact hl2)
 rw [List.append_nil] at hb2
 refine wpAny_call (codeAny_mono (FG.run X.A X.stack _ _ ⟨[ut,.ref fr,.ref h'.objs.size],[]⟩ [ut,.ref fr,.ref h'.objs.size] [v1,.ref fr,.ref h'.objs.size] Q E hr e0 hb2 r2 hsp) fun r s' hq=>?_)
 cases r with
 | error e=>exact hx pins σ _ _ e s' I2 hq
 | ok fl =>
  cases fl with
  | ret u=>exact I2.after hq
  | next=>exact False.elim hq
  | brk=>exact False.elim hq
  | cont=>exact False.elim hq
end
end L2
end
section
set_option maxRecDepth 100000
set_option maxHeartbeats 2000000
namespace L2
open PySem PySem.Spec PyProof.Rows
open PySem.W (WData Codec OpenSpec Well WellAll ReadsW ReadsAllW)
theorem SqL.up {K:PySem.W.Frag}{H H':Hp}{a:Addr}{xs:List V} (k:∀ b u,H b=some u→H' b=some u) (h:SqL K H a xs):SqL K H' a xs:=by
 rcases h with (h | ⟨o,h⟩) | h
 ·exact .inl (.inl (k _ _ h))
 ·exact .inl (.inr ⟨o,k _ _ h⟩)
 ·exact .inr h
theorem SqT.up {K:PySem.W.Frag}{H H':Hp}{a:Addr}{xs:List V} (k:∀ b u,H b=some u→H' b=some u) (h:SqT K H a xs):SqT K H' a xs:=by
 rcases h with (h | ⟨o,h⟩) | h
 ·exact .inl (.inl (k _ _ h))
 ·exact .inl (.inr ⟨o,k _ _ h⟩)
 ·exact .inr h
mutual
theorem Dw.up {K:PySem.W.Frag}{H H':Hp} (k:∀ b u,H b=some u→H' b=some u):∀ {v:V}{d:WData},Dw K H v d→Dw K H' v d
 | _,_,.non=>.non
 | _,_,.bl b=>.bl b
 | _,_,.int i=>.int i
 | _,_,.str x=>.str x
 | _,_,.byt b=>.byt b
 | _,_,.lst h1 h2=>.lst (h1.up k) (DwAll.up k h2)
 | _,_,.tup h1 h2=>.tup (h1.up k) (DwAll.up k h2)
theorem DwAll.up {K:PySem.W.Frag}{H H':Hp} (k:∀ b u,H b=some u→H' b=some u):∀ {vs:List V}{ds:List WData},DwAll K H vs ds→DwAll K H' vs ds
 | _,_,.nil=>.nil
 | _,_,.cons h1 h2=>.cons (Dw.up k h1) (DwAll.up k h2)
end
theorem spec_callT {P:Program}{w:World}{K:PySem.W.Frag}{mg mb:Str→Option Value}{k:Nat}{fa c PT:Addr}{fd:FuncData}{ps:List Str}{sp:Sp}{s₁:Shared}{vals:List Value}{ds:List WData}{R:PySem.W.WRecords}{cl:Str→Option Addr}{d0:WData}
  (KX:K.In s₁.heap) (hns:s₁.heap.Ns mainGlobals mg) (hb:s₁.heap.Ns builtinsNs mb) (hbb:∀ x:Str,x≠"__name__"→mb x=bootBuiltins x) (hlim:s₁.heap.NoLimit) (hg:s₁.gens=#[])
  (hwl:WellAll w.params s₁.heap vals ds) (hpl:plWs ds=true) (hwt:∀ d∈ds,d.weight≤1048576) (hr:Room k callerA)
  (hC:PySem.W.CodeHd s₁.heap c PT) (hP:s₁.heap.get? PT=some (PySem.W.tabObj #[])) (hnt:PySem.W.noTabs K=true) (hbm:s₁.heap.BuiltinsAt mg PT)
  (F:∀ base:Heap,K.In base→base.Ns mainGlobals mg→base.BuiltinsAt mg PT→FnOk P w K mg base CX0 k fa fd ps sp) (hbind:∀ (s:Shared) (us:List Value),us.length=ps.length→BindsTo s fd ⟨us,[]⟩ (ps.zip us)) (hlen:ds.length=ps.length)
  (hsp:∀ (H:Hp) (xs:List V),H PT=some (.tbl #[])→DwAll K H xs ds→sp xs H (fun v H'=>Dw K H' v d0) fun _ _ _=>False) :
  codeAny (model P w) callerA (.call (.ref fa) ⟨vals,[]⟩) (fun r s'=>∃ u as,r=.ok (.ret u)∧ReadsW R cl s'.heap u d0 as∧OldK s₁.heap s'.heap∧s'.os=s₁.os∧AllBare s'.gens) s₁:=by
 obtain ⟨A,ho,ar⟩:=area_all ds vals hwl hpl hwt
 have hO:OnlyF (argH K s₁.heap A):=argH_only ar
 have hok0:HOk P w (argH K s₁.heap A) s₁.heap:=argH_ok ar
 have hS0:=dw_all KX ar ds vals hwl hpl ho
 have hV:=vals_toV ho
 have hK:∀ b u,argH K s₁.heap A b=some u→K.lookup b=none:=fun b u q=>(argH_is ar q).1
 have noD:∀ {b:Addr}{o:Obj},s₁.heap.get? b=some o→(∀ vs n,o.data≠.seq vs n)→argH K s₁.heap A b=none:=fun {b o} e d=>by
  cases q:argH K s₁.heap A b with
  | none=>rfl
  | some u =>
   obtain ⟨_,vs,_,_,⟨e2,_⟩ | ⟨e2,_⟩⟩:=argH_is ar q
   ·rw [e2] at e
    cases e
    exact absurd rfl (d _ _)
   ·rw [e2] at e
    cases e
    exact absurd rfl (d _ _)
 have hPn:argH K s₁.heap A PT=none:=noD hP (fun vs n z=>by cases z)
 generalize argH K s₁.heap A=H0 at hO hok0 hS0 hK noD hPn
 have up:∀ b u,H0 b=some u→upd H0 PT (.tbl #[]) b=some u:=fun b u e=>by rw [upd_ne (ne_of_none e hPn)];exact e
 have hS:DwAll K (upd H0 PT (.tbl #[])) (vals.map toV) ds:=DwAll.up up hS0
 have hok:HOk P w (upd H0 PT (.tbl #[])) s₁.heap:=fun b u e=>by
  by_cases z:b=PT
  ·subst z
   rw [upd_same] at e
   cases e
   exact hP
  ·rw [upd_ne z] at e
   exact (hok0 b u e).stay (fun _ _ _ r=>r) (fun d r=>up _ _ r) fun d xs r=>up _ _ r
 have nKP:K.lookup PT=none:=by
  cases q:K.lookup PT with
  | none=>rfl
  | some o =>
   have e2:=KX _ _ q
   rw [hP] at e2
   cases e2
   have h2:=List.all_eq_true.mp hnt (PT,PySem.W.tabObj #[]) (PySem.W.mem_of_lookupK q)
   exact absurd (show false=true from h2) Bool.false_ne_true
 have nT:∀ b,H0 b=none→b≠PT→upd H0 PT (.tbl #[]) b=none:=fun b n z=>by rw [upd_ne z];exact n
 have base_of:∀ {b:Addr}{o:Obj},s₁.heap.get? b=some o→upd H0 PT (.tbl #[]) b=none→(hidT s₁.heap (upd H0 PT (.tbl #[]))).get? b=some o:=fun e n=>hidT_get e n
 have neP:∀ {b:Addr}{o:Obj},s₁.heap.get? b=some o→(∀ vs,o.data≠.fields vs)→b≠PT:=fun {b o} e d z=>by
  rw [z,hP] at e
  cases e
  exact absurd rfl (d _)
 have nsK:∀ {b:Addr}{m:Str→Option Value},s₁.heap.Ns b m→(hidT s₁.heap (upd H0 PT (.tbl #[]))).Ns b m:=fun {b m} ⟨o,es,ep,e,d,r⟩=>⟨o,es,ep,base_of e (nT _ (noD e fun vs n z=>by rw [d] at z;cases z) (neP e fun vs z=>by rw [d] at z;cases z)),d,r⟩
 have nK:∀ b o,K.lookup b=some o→upd H0 PT (.tbl #[]) b=none:=fun b o e=>by
  refine nT b ?_ (fun z=>by rw [z,nKP] at e;cases e)
  cases q:H0 b with
  | none=>rfl
  | some u =>
   rw [hK b u q] at e
   cases e
 have hKb:K.In (hidT s₁.heap (upd H0 PT (.tbl #[]))):=fun b o e=>base_of (KX b o e) (nK b o e)
 have hM:Mod K mg (hidT s₁.heap (upd H0 PT (.tbl #[]))):=⟨hKb,nsK hns,⟨mb,nsK hb,hbb⟩,let ⟨mc,h1,h2⟩:=hlim;⟨mc,nsK h1,h2⟩⟩
 have hBm:(hidT s₁.heap (upd H0 PT (.tbl #[]))).BuiltinsAt mg PT:=by
  obtain ⟨bm,ob,a1,a2,a3,a4,a5,a6,a7,a8⟩:=hbm
  exact ⟨bm,ob,a1,a2,a3,a4,base_of a5 (nT _ (noD a5 fun vs n z=>by rw [a8] at z;cases z) a4),a6,a7,a8⟩
 have e0:Env0 P w K mg (hidT s₁.heap (upd H0 PT (.tbl #[]))) callerA [] s₁ (upd H0 PT (.tbl #[])):=⟨rfl,hM,fun b o e=>of_hidT e,Nat.le_of_eq (hidT_size _ _),trivial,fun b hb=>absurd (show b∈([]:List Addr) from hb) (by simp),hok,.of_eq hg⟩
 have hl:vals.length=ps.length:=by rw [wellAll_len hwl];exact hlen
 refine codeAny_mono ((F _ hKb (nsK hns) hBm).run callerA [] s₁ (upd H0 PT (.tbl #[])) ⟨vals,[]⟩ vals (vals.map toV) _ _ hr e0 (hbind s₁ vals hl) hV (hsp _ _ upd_same hS)) fun r s' x=>?_
 cases r with
 | error e=>exact False.elim x
 | ok fl =>
  cases fl with
  | next=>exact False.elim x
  | brk=>exact False.elim x
  | cont=>exact False.elim x
  | ret u =>
   obtain ⟨v,H',os,bare,un,hok',r',q⟩:=x
   have kept:∀ b o,b≠PT→s₁.heap.get? b=some o→s'.heap.get? b=some o:=fun b o nb e=>by
    cases q2:H0 b with
    | none=>exact un.keep b o e (nT b q2 nb) (by intro z;exact absurd (show b∈([]:List Addr) from z) (by simp)) (by simp)
    | some u2 =>
     rcases hO b with z | ⟨ob,u3,z⟩
     ·rw [q2] at z
      cases z
     ·have z1:=up _ _ z
      have z2:=un.frzs b ob _ z1
      obtain ⟨e1,_⟩:=hok b _ z1
      obtain ⟨e2,_⟩:=hok' b _ z2
      rw [e] at e1
      cases e1
      exact e2
   obtain ⟨more,hmore⟩:=un.tbls PT #[] upd_same
   have hP':s'.heap.get? PT=some (PySem.W.tabObj (#[]++more)):=hok' PT _ hmore
   have KX':K.In s'.heap:=fun b o e=>kept b o (fun z=>by rw [z,nKP] at e;cases e) (KX b o e)
   obtain ⟨as,hrd⟩:=Dw.reads (R:=R) (cl:=cl) hok' KX' d0 v u q r'
   refine ⟨u,as,rfl,hrd,⟨fun b o e=>?_,fun b o e=>?_⟩,os,bare⟩
   ·by_cases z:b=PT
    ·subst z
     rw [hP] at e
     cases e
     exact .inr (.inl ⟨(hC.tab hP).isCodeTable,rfl,#[],more,rfl,hP'⟩)
    ·exact .inl (kept b o z e)
   ·by_cases z:b=PT
    ·subst z;exact ⟨_,hP'⟩
    ·exact ⟨o,kept b o z e⟩
theorem walk_specT {r:OpenSpec}{k:Nat}{q:Program}{loose:List Str}{XP:(Str→Option Value)→Heap→Prop}{YP:World→Heap→Prop}{d:DefRec}{K:Params→PySem.W.Frag}{ps:List Str}{sp:PySem.W.Frag→Addr→Sp}
  (hwell:r.wellSaid=true) (hdf:d.params.defaults=[]) (hlen:r.args.length=ps.length) (hr:Room k callerA)
  (hY:∀ (w:World) (h:Heap),YP w h→(K w.params).In h) {d':DefRec} (hrec:(recsOf q).find? (fun e=>e.name==d.name)=some d')
  (hnt:∀ w:World,PySem.W.noTabs (K w.params)=true) (htab:∀ w:World,(PySem.W.tabIn (K w.params) d.name).isSome=true)
  (F:∀ (w:World) (mg:Str→Option Value) (fa c PT:Addr) (h:Heap),YP w h→(K w.params).In h→h.Ns mainGlobals mg→mg d.name=some (.ref fa)→PySem.W.tabIn (K w.params) d.name=some (c,PT)→(∀ h',(K w.params).In h'→PySem.W.CodeHd h' c PT)→mainGlobals≠PT →
   ∃ fd:FuncData,(∀ (s:Shared) (us:List Value),us.length=ps.length→BindsTo s fd ⟨us,[]⟩ (ps.zip us)) ∧
    ∀ base:Heap,(K w.params).In base→base.Ns mainGlobals mg→base.BuiltinsAt mg PT→FnOk r.prog w (K w.params) mg base CX0 k fa fd ps (sp (K w.params) PT))
  (hsp:∀ (K:PySem.W.Frag) (PT:Addr) (H:Hp) (xs:List V) (a:Codec.denoteAll r.args),H PT=some (.tbl #[])→Codec.withinAll r.args a=true→Codec.app r.args r.asked a=true→DwAll K H xs (Codec.encAll r.args a) →
   sp K PT xs H (fun v H'=>Dw K H' v (r.ret.enc (Codec.app r.args r.f a))) fun _ _ _=>False) :
  PySem.W.WalkOS q loose XP YP r d [] (fun f vs=>PySem.call f vs):=by
 intro w s_0 s₁ mg mb G Y fa o pm cd doc dV kV ho hd hcd hD hmg hg args vals as hpre hlay hrd hwl hlo
 obtain ⟨a,e1,e2⟩:=PySem.W.os_pre_some hpre
 obtain ⟨e3,hwi⟩:=Codec.encAll_of_decAll r.args args a e1
 subst e3
 have KX:=hY w _ Y
 obtain ⟨⟨c,PT⟩,htb⟩:=Option.isSome_iff_exists.mp (htab w)
 obtain ⟨hC,hP⟩:=PySem.W.tab_of G.T KX hrec htb
 have hCa:∀ h',(K w.params).In h'→PySem.W.CodeHd h' c PT:=fun h' X'=>by
  have ht:=htb
  unfold PySem.W.tabIn at ht
  split at ht
  ·split at ht
   ·split at ht
    ·split at ht
     ·rename_i hfo
      split at ht
      ·cases ht
       obtain ⟨o,vs,file,tf,flags,tg,inF,text,tt,e1,r⟩:=hC
       have e2:=KX _ _ hfo
       rw [e1] at e2
       cases e2
       exact ⟨_,vs,file,tf,flags,tg,inF,text,tt,X' _ _ hfo,r⟩
      ·cases ht
     ·cases ht
    ·cases ht
   ·cases ht
  ·cases ht
 obtain ⟨bm,ob,b1,b2,b3,b4,b5,b6⟩:=G.T.bmain
 have hgP:mainGlobals≠PT:=fun z=>by
  obtain ⟨o,es,ep,e,hd,_⟩:=G.T.g
  rw [z,hP] at e;cases e;cases hd
 have hbP:bm≠PT:=fun z=>by
  rw [z,hP] at b3;cases b3;cases b4
 have hbG:bm≠mainGlobals:=fun z=>by
  obtain ⟨o,es,ep,e,hd,_⟩:=G.T.g
  rw [z,e] at b3;cases b3;rw [hd] at b6;cases b6
 obtain ⟨fd,hb,hF⟩:=F w mg fa c PT _ Y KX G.T.g hmg htb hCa hgP
 refine PySem.W.enter_call (codeAny_mono (spec_callT (R:=[]) (cl:=classAt s_0.heap) (d0:=r.ret.enc (Codec.app r.args r.f a)) KX G.T.g G.T.b G.T.builtins G.T.nolimit hg hwl (pl_encAll _ _) (layable_weight hlay) hr hC hP (hnt w) ⟨bm,ob,b1,b2,hbG,hbP,b3,b4,b5,b6⟩ hF hb (by rw [encAll_len];exact hlen)
  (fun H xs hO hS=>hsp _ PT H xs a hO hwi e2 hS)) fun r' s' hq=>?_)
 obtain ⟨u,as',rfl,h1,h2,h3,h4⟩:=hq
 exact ⟨.inl ⟨u,_,as',rfl,fun _=>rfl,h1,(OpenSpec.post_iff hwell hwi _ _).mpr rfl,fun z=>Bool.noConfusion (show false=true from z)⟩,h2,h3,h4⟩
end L2
end
section
namespace Vp
open Vh VhPage
def pk (bs:List UInt8) (p:Nat):Int:=match bs[p]? with | some c=>(c.toNat:Int) | none=>256
theorem pk_lt (bs:List UInt8) (p:Nat):0≤pk bs p∧pk bs p≤256:=by
 unfold pk
 split
 ·rename_i c _;have:=c.toNat_lt;lia
 ·lia
theorem head_drop (bs:List UInt8) (p:Nat):(bs.drop p).head?=bs[p]?:=by rw [List.head?_drop]
theorem drop_drop1 (bs:List UInt8) (p:Nat):(bs.drop p).drop 1=bs.drop (p+1):=by rw [List.drop_drop]
theorem pk_some {bs:List UInt8}{p:Nat}{c:UInt8} (h:bs[p]?=some c):pk bs p=c.toNat:=by unfold pk;rw [h]
theorem pk_eq {bs:List UInt8}{p:Nat}{c:UInt8}:pk bs p=c.toNat↔bs[p]?=some c:=by
 unfold pk
 cases h:bs[p]? with
 | none =>
  have:=c.toNat_lt
  constructor
  ·intro z;simp at z;lia
  ·intro z;cases z
 | some d =>
  constructor
  ·intro z
   have:d.toNat=c.toNat:=by
    have z':(d.toNat:Int)=c.toNat:=z
    lia
   rw [UInt8.toNat_inj.mp this]
  ·intro z;cases z;rfl
theorem pk_none {bs:List UInt8}{p:Nat}:pk bs p=256↔bs[p]?=none:=by
 unfold pk
 cases h:bs[p]? with
 | none=>simp
 | some d =>
  have:=d.toNat_lt
  simp
  lia
theorem byte_ok {bs:List UInt8}{p:Nat}{c:UInt8} (h:pk bs p=c.toNat):byte_ c p (bs.drop p)=.ok ((),p+1,bs.drop (p+1)):=by
 unfold byte_ byNext
 rw [head_drop,pk_eq.mp h]
 dsimp only
 rw [if_pos rfl]
 unfold behind gives
 rw [drop_drop1]
theorem byte_no {bs:List UInt8}{p:Nat}{c:UInt8} (h:¬ pk bs p=c.toNat):byte_ c p (bs.drop p)=.error p:=by
 unfold byte_ byNext
 rw [head_drop]
 dsimp only
 rw [if_neg (fun z=>h (pk_eq.mpr z))]
 rfl
theorem then_ok {α β:Type}{r:Rd α}{f:α→Rd β}{p p':Nat}{b b':Bytes}{x:α} (h:r p b=.ok (x,p',b')):andThen r f p b=f x p' b':=by unfold andThen;rw [h]
theorem then_no {α β:Type}{r:Rd α}{f:α→Rd β}{p i:Nat}{b:Bytes} (h:r p b=.error i):andThen r f p b=.error i:=by unfold andThen;rw [h]
theorem leads_true {lo hi v k:Nat} (hv:v≠0) (h1:v * 10 ^ k≤hi) (h2:lo<(v+1) * 10 ^ k) (h3:hi<10 ^ 11):leadsTo lo hi v=true:=by
 unfold leadsTo
 rw [if_neg hv,List.any_eq_true]
 have hk:k<12:=by
  apply Decidable.byContradiction
  intro hk
  have h4:10 ^ 11≤10 ^ k:=Nat.pow_le_pow_right (by lia) (by lia)
  have h5:1 * 10 ^ k≤v * 10 ^ k:=Nat.mul_le_mul_right _ (by lia)
  lia
 exact ⟨k,List.mem_range.mpr hk,by simp [h1,h2]⟩
theorem leads_false {lo hi v k:Nat} (hv:v≠0) (h:∀ j,j<k→¬ (v * 10 ^ j≤hi∧lo<(v+1) * 10 ^ j)) (h1:hi<v * 10 ^ k):leadsTo lo hi v=false:=by
 unfold leadsTo
 rw [if_neg hv,List.any_eq_false]
 intro j _ q
 have q':v * 10 ^ j≤hi∧lo<(v+1) * 10 ^ j:=by simpa using q
 by_cases hj:j<k
 ·exact h j hj q'
 ·have h4:10 ^ k≤10 ^ j:=Nat.pow_le_pow_right (by lia) (by lia)
  have h5:=Nat.mul_le_mul_left v h4
  lia
theorem leads_zero {lo hi:Nat}:leadsTo lo hi 0=(lo==0):=by unfold leadsTo;rw [if_pos rfl]
def dig (bs:List UInt8) (lo hi v p:Nat):Option Nat:=if 48≤pk bs p∧pk bs p≤57∧leadsTo lo hi (v * 10+(pk bs p-48).toNat)=true then some (v * 10+(pk bs p-48).toNat) else none
theorem isDigit_iff {c:UInt8}:isDigit c=true↔48≤c.toNat∧c.toNat≤57:=by
 unfold isDigit
 rw [Bool.and_eq_true,decide_eq_true_eq,decide_eq_true_eq,UInt8.le_iff_toNat_le,UInt8.le_iff_toNat_le]
 exact Iff.rfl
theorem digits_succ (lo hi f:Nat) (v:Option Nat) (bs:List UInt8) (p:Nat) (hv:v≠some 0):digits lo hi (f+1) v p (bs.drop p)=match dig bs lo hi (v.getD 0) p with
  | some n=>digits lo hi f (some n) (p+1) (bs.drop (p+1))
  | none=>match v with
   | some n=>if lo≤n∧n≤hi then .ok (n,p,bs.drop p) else .error p
   | none=>.error p:=by
 rw [Vh.digits.eq_def]
 dsimp only
 unfold byNext
 rw [head_drop]
 have key:((bs[p]?).bind fun (c:UInt8)=>if isDigit c=false∨v=some 0 then none else if leadsTo lo hi (10 * v.getD 0+(c.toNat-48))=true then some (10 * v.getD 0+(c.toNat-48)) else none)=dig bs lo hi (v.getD 0) p:=by
  unfold dig pk
  cases h:bs[p]? with
  | none =>
   simp only [Option.bind_none]
   rw [if_neg (by lia)]
  | some c =>
   simp only [Option.bind_some]
   by_cases hd:isDigit c=true
   ·have hd':=isDigit_iff.mp hd
    rw [if_neg (by simp [hd,hv])]
    have e1:((c.toNat:Int)-48).toNat=c.toNat-48:=by lia
    rw [e1,Nat.mul_comm 10]
    by_cases hl:leadsTo lo hi (v.getD 0 * 10+(c.toNat-48))=true
    ·rw [if_pos hl,if_pos ⟨by lia,by lia,hl⟩]
    ·rw [if_neg hl,if_neg (fun z=>hl z.2.2)]
   ·rw [if_pos (by simp [hd]),if_neg (fun z=>hd (isDigit_iff.mpr ⟨by lia,by lia⟩))]
 dsimp only
 rw [key]
 cases dig bs lo hi (v.getD 0) p with
 | some n=>dsimp only;unfold behind;rw [drop_drop1]
 | none =>
  dsimp only
  cases v with
  | none=>rfl
  | some n =>
   dsimp only
   split <;> rfl
theorem digits_zero (lo hi f:Nat) (bs:List UInt8) (p:Nat):digits lo hi (f+1) (some 0) p (bs.drop p)=if lo=0 then .ok (0,p,bs.drop p) else .error p:=by
 rw [Vh.digits.eq_def]
 dsimp only
 unfold byNext
 rw [head_drop]
 have key:((bs[p]?).bind fun (c:UInt8)=>if isDigit c=false∨some 0=some 0 then none else if leadsTo lo hi (10 * (some 0).getD 0+(c.toNat-48))=true then some (10 * (some 0).getD 0+(c.toNat-48)) else none)=none:=by
  cases bs[p]? with
  | none=>rfl
  | some c=>simp
 dsimp only
 rw [key]
 dsimp only
 by_cases h:lo=0
 ·rw [if_pos ⟨by lia,by lia⟩,if_pos h];rfl
 ·rw [if_neg (by lia),if_neg h];rfl
theorem leads_le {lo hi v:Nat} (h:leadsTo lo hi v=true):v≤hi:=by
 unfold leadsTo at h
 split at h
 ·lia
 ·rw [List.any_eq_true] at h
  obtain ⟨k,_,hk⟩:=h
  rw [Bool.and_eq_true,decide_eq_true_eq] at hk
  have:v * 1≤v * 10 ^ k:=Nat.mul_le_mul_left _ (Nat.one_le_pow _ _ (by lia))
  lia
structure NumAt (bs:List UInt8) (lo hi p0 v p f:Nat):Prop where
 eq:num lo hi p0 (bs.drop p0)=digits lo hi f (some v) p (bs.drop p)
 le:v≤hi
 big:10 ^ 20≤v * 10 ^ f * 10
theorem num_first {bs:List UInt8}{lo hi p v:Nat} (h:dig bs lo hi 0 p=some v):num lo hi p (bs.drop p)=digits lo hi 19 (some v) (p+1) (bs.drop (p+1)):=by
 unfold num
 rw [digits_succ lo hi 19 none bs p (by simp)]
 show (match dig bs lo hi 0 p with | some n=>_ | none=>_)=_
 rw [h]
theorem num_none {bs:List UInt8}{lo hi p:Nat} (h:dig bs lo hi 0 p=none):num lo hi p (bs.drop p)=.error p:=by
 unfold num
 rw [digits_succ lo hi 19 none bs p (by simp)]
 show (match dig bs lo hi 0 p with | some n=>_ | none=>_)=_
 rw [h]
theorem dig_le {bs:List UInt8}{lo hi v p n:Nat} (h:dig bs lo hi v p=some n):n≤hi∧v * 10≤n∧leadsTo lo hi n=true:=by
 unfold dig at h
 split at h
 ·rename_i z
  cases h
  exact ⟨leads_le z.2.2,by lia,z.2.2⟩
 ·cases h
def marksI:List Int:=[124,47,40,41,91,93,60,62,123,125,61,43,126,94,35,34]
def isL (n:Int):Bool:=!(decide (n<33) || (decide (127≤n) && decide (n≤159)) || marksI.contains n) && decide (n % 65536<65534)
def sizeL (n:Int):Int:=if n<128 then 1 else if 194≤n∧n≤223 then 2 else if 224≤n∧n≤239 then 3 else if 240≤n∧n≤244 then 4 else 0
def blo (n:Int):Int:=if n=224 then 160 else if n=240 then 144 else 128
def bhi (n:Int):Int:=if n=237 then 159 else if n=244 then 143 else 191
theorem isL_big {v:Nat} (h:160≤v):isL (v:Int)=decide (v % 65536<65534):=by
 unfold isL
 have h1:marksI.contains (v:Int)=false:=by
  rw [List.contains_eq_any_beq,List.any_eq_false]
  intro x hx
  have:x≤127:=by
   revert x
   decide
  simp;lia
 rw [h1,decide_eq_false (show ¬ (v:Int)<33 by lia),decide_eq_false (show ¬ (v:Int)≤159 by lia)]
 simp
 constructor <;> intro z <;> lia
theorem isL_mid {v:Nat} (h1:128≤v) (h2:v≤159):isL (v:Int)=false:=by
 unfold isL
 rw [decide_eq_true (show 127≤(v:Int) by lia),decide_eq_true (show (v:Int)≤159 by lia)]
 simp
theorem isL_low {c:UInt8} (h:c.toNat<128):isL (c.toNat:Int)=isLetter c.toNat:=by
 have key:∀ n,n<128→isL ((n:Nat):Int)=isLetter n:=by decide +kernel
 exact key _ h
theorem tail_eq (bs:List UInt8) (lo hi p:Nat) (h1:128≤lo) (h:hi≤255):tail_ lo hi p (bs.drop p)=if (lo:Int)≤pk bs p∧pk bs p≤hi then .ok ((pk bs p).toNat-128,p+1,bs.drop (p+1)) else .error p:=by
 unfold tail_ byNext
 rw [head_drop]
 unfold pk
 cases e:bs[p]? with
 | none =>
  dsimp only
  rw [if_neg (by lia)]
  rfl
 | some c =>
  dsimp only
  by_cases q:lo≤c.toNat∧c.toNat≤hi
  ·rw [if_pos q,if_pos (by lia)]
   unfold behind gives
   rw [drop_drop1]
   rfl
  ·rw [if_neg q,if_neg (by lia)]
   rfl
def longR (bs:List UInt8):Nat→Nat→Int→Int→Nat→Except Nat (Nat×Nat)
 | 0,v,_,_,p=>.ok (v,p)
 | n+1,v,lo,hi,p=>if lo≤pk bs p∧pk bs p≤hi then (if n=0∧isL ((v * 64+((pk bs p).toNat-128):Nat):Int)=false then .error p else longR bs n (v * 64+((pk bs p).toNat-128)) 128 191 (p+1)) else .error p
def outR (bs:List UInt8):Except Nat (Nat×Nat)→Except Nat (Nat×Nat×Bytes)
 | .ok (x,p)=>.ok (x,p,bs.drop p)
 | .error i=>.error i
def baseL (n:Nat):Nat:=if n<0xE0 then 0xC0 else if n<0xF0 then 0xE0 else 0xF0
def moreL (n:Nat):Nat:=if n<0xE0 then 1 else if n<0xF0 then 2 else 3
theorem starts_hi {c:UInt8} (h1:194≤c.toNat) (h2:c.toNat≤244):startsLetter c=true:=by
 unfold startsLetter
 rw [if_neg (by lia)]
 simp;lia
theorem long_letter {bs:List UInt8}{p:Nat}{c:UInt8} (hc:bs[p]?=some c) (h1:194≤c.toNat) (h2:c.toNat≤244) :
  letter_ p (bs.drop p)=outR bs (longR bs (moreL c.toNat) (c.toNat-baseL c.toNat) (blo c.toNat) (bhi c.toNat) (p+1)):=by
 unfold letter_ byNext
 rw [head_drop,hc]
 dsimp only
 rw [if_neg (by rw [starts_hi h1 h2];decide),if_neg (show ¬ c.toNat<128 by lia)]
 unfold moreL baseL blo bhi
 have b1:=pk_lt bs (p+1)
 have b2:=pk_lt bs (p+2)
 have b3:=pk_lt bs (p+3)
 generalize e1:pk bs (p+1)=x1 at b1
 generalize e2:pk bs (p+2)=x2 at b2
 generalize e3:pk bs (p+3)=x3 at b3
 generalize c.toNat=n at h1 h2
 by_cases hE:n<224
 ·simp only [if_pos hE]
  unfold behind
  rw [drop_drop1]
  unfold andThen
  rw [tail_eq _ _ _ _ (by split <;> lia) (by lia),e1]
  simp only [longR,e1]
  rw [if_neg (show ¬ (n:Int)=224 by lia),if_neg (show ¬ (n:Int)=240 by lia),if_neg (show ¬ (n:Int)=237 by lia),if_neg (show ¬ (n:Int)=244 by lia)]
  by_cases q:128≤x1∧x1≤191
  ·rw [if_pos q]
   by_cases h3:n=194
   ·subst h3
    by_cases h4:160≤x1
    ·rw [if_pos (by simp;lia)]
     have:isL (((194-192) * 64+(x1.toNat-128):Nat):Int)=true:=by rw [isL_big (by lia)];simp;lia
     rw [if_neg (by rw [this];simp)]
     rfl
    ·rw [if_neg (by simp;lia)]
     have:isL (((194-192) * 64+(x1.toNat-128):Nat):Int)=false:=isL_mid (by lia) (by lia)
     rw [if_pos ⟨by simp,this⟩]
     rfl
   ·rw [if_neg h3,if_pos (by simp;lia)]
    have:isL (((n-192) * 64+(x1.toNat-128):Nat):Int)=true:=by rw [isL_big (by lia)];simp;lia
    rw [if_neg (by rw [this];simp)]
    rfl
  ·rw [if_neg q,if_neg (by split <;> lia)]
   rfl
 ·simp only [if_neg hE]
  by_cases hF:n<240
  ·simp only [if_pos hF]
   unfold behind
   rw [drop_drop1]
   unfold andThen
   rw [tail_eq _ _ _ _ (by split <;> lia) (by split <;> lia),e1]
   simp only [longR,e1]
   by_cases q:(if (n:Int)=224 then (160:Int) else if (n:Int)=240 then 144 else 128)≤x1∧x1≤(if (n:Int)=237 then (159:Int) else if (n:Int)=244 then 143 else 191)
   ·rw [if_pos q,if_pos (by split at q <;> split at q <;> (try split at q) <;> (try split at q) <;> (try split) <;> (try split) <;> lia)]
    have x1lo:128≤x1:=by split at q <;> (try split at q) <;> lia
    have x1hi:x1≤191:=by split at q <;> (try split at q) <;> (try split at q) <;> (try split at q) <;> lia
    have x1E:n=224→160≤x1:=fun z=>by rw [if_pos (by lia)] at q;lia
    dsimp only
    rw [tail_eq _ _ _ _ (by lia) (by split <;> lia),e2]
    rw [if_neg (show ¬ (1=0∧_) by simp)]
    by_cases q2:128≤x2∧x2≤191
    ·rw [if_pos q2]
     have big:160≤((n-224) * 64+(x1.toNat-128)) * 64+(x2.toNat-128):=by
      by_cases z:n=224
      ·have:=x1E z;lia
      ·lia
     by_cases h5:n=239∧x1.toNat-128=63
     ·rw [if_pos h5]
      by_cases h6:x2≤189
      ·rw [if_pos (by simp;lia)]
       have:isL (((((n-224) * 64+(x1.toNat-128)) * 64+(x2.toNat-128):Nat)):Int)=true:=by rw [isL_big big];simp;lia
       rw [if_neg (by rw [this];simp)]
       simp only [longR,outR,gives]
       rw [show (n-224) * 4096+(x1.toNat-128) * 64+(x2.toNat-128)=((n-224) * 64+(x1.toNat-128)) * 64+(x2.toNat-128) by lia]
      ·rw [if_neg (by simp;lia)]
       have:isL (((((n-224) * 64+(x1.toNat-128)) * 64+(x2.toNat-128):Nat)):Int)=false:=by rw [isL_big big];simp;lia
       rw [if_pos ⟨by simp,this⟩]
       rfl
     ·rw [if_neg h5,if_pos (by simp;lia)]
      have:isL (((((n-224) * 64+(x1.toNat-128)) * 64+(x2.toNat-128):Nat)):Int)=true:=by rw [isL_big big];simp;lia
      rw [if_neg (by rw [this];simp)]
      simp only [longR,outR,gives]
      rw [show (n-224) * 4096+(x1.toNat-128) * 64+(x2.toNat-128)=((n-224) * 64+(x1.toNat-128)) * 64+(x2.toNat-128) by lia]
    ·rw [if_neg q2,if_neg (by split <;> lia)]
     rfl
   ·rw [if_neg q,if_neg (by split at q <;> (try split at q) <;> (try split at q) <;> (try split at q) <;> (try split) <;> (try split) <;> lia)]
    rfl
  ·simp only [if_neg hF]
   unfold behind
   rw [drop_drop1]
   unfold andThen
   rw [tail_eq _ _ _ _ (by split <;> lia) (by split <;> lia),e1]
   simp only [longR,e1]
   by_cases q:(if (n:Int)=224 then (160:Int) else if (n:Int)=240 then 144 else 128)≤x1∧x1≤(if (n:Int)=237 then (159:Int) else if (n:Int)=244 then 143 else 191)
   ·rw [if_pos q,if_pos (by split at q <;> split at q <;> (try split at q) <;> (try split at q) <;> (try split) <;> (try split) <;> lia)]
    have x1lo:128≤x1:=by split at q <;> (try split at q) <;> lia
    have x1hi:x1≤191:=by split at q <;> (try split at q) <;> (try split at q) <;> (try split at q) <;> lia
    have x1E:n=240→144≤x1:=fun z=>by rw [if_neg (by lia),if_pos (by lia)] at q;lia
    dsimp only
    rw [tail_eq _ _ _ _ (by lia) (by lia),e2]
    rw [if_neg (show ¬ (2=0∧_) by simp)]
    by_cases q2:128≤x2∧x2≤191
    ·rw [if_pos q2,if_pos (by simp;lia)]
     dsimp only
     rw [tail_eq _ _ _ _ (by lia) (by split <;> lia),e3]
     rw [if_neg (show ¬ (1=0∧_) by simp)]
     by_cases q3:128≤x3∧x3≤191
     ·rw [if_pos q3]
      have big:160≤(((n-240) * 64+(x1.toNat-128)) * 64+(x2.toNat-128)) * 64+(x3.toNat-128):=by
       by_cases z:n=240
       ·have:=x1E z;lia
       ·lia
      by_cases h5:(x1.toNat-128) % 16=15∧x2.toNat-128=63
      ·rw [if_pos h5]
       by_cases h6:x3≤189
       ·rw [if_pos (by simp;lia)]
        have:isL ((((((n-240) * 64+(x1.toNat-128)) * 64+(x2.toNat-128)) * 64+(x3.toNat-128):Nat)):Int)=true:=by rw [isL_big big];simp;lia
        rw [if_neg (by rw [this];simp)]
        simp only [longR,outR,gives]
        rw [show (n-240) * 262144+(x1.toNat-128) * 4096+(x2.toNat-128) * 64+(x3.toNat-128)=(((n-240) * 64+(x1.toNat-128)) * 64+(x2.toNat-128)) * 64+(x3.toNat-128) by lia]
       ·rw [if_neg (by simp;lia)]
        have:isL ((((((n-240) * 64+(x1.toNat-128)) * 64+(x2.toNat-128)) * 64+(x3.toNat-128):Nat)):Int)=false:=by rw [isL_big big];simp;lia
        rw [if_pos ⟨by simp,this⟩]
        rfl
      ·rw [if_neg h5,if_pos (by simp;lia)]
       have:isL ((((((n-240) * 64+(x1.toNat-128)) * 64+(x2.toNat-128)) * 64+(x3.toNat-128):Nat)):Int)=true:=by rw [isL_big big];simp;lia
       rw [if_neg (by rw [this];simp)]
       simp only [longR,outR,gives]
       rw [show (n-240) * 262144+(x1.toNat-128) * 4096+(x2.toNat-128) * 64+(x3.toNat-128)=(((n-240) * 64+(x1.toNat-128)) * 64+(x2.toNat-128)) * 64+(x3.toNat-128) by lia]
     ·rw [if_neg q3,if_neg (by split <;> lia)]
      rfl
    ·rw [if_neg q2,if_neg (by simp;lia)]
     rfl
   ·rw [if_neg q,if_neg (by split at q <;> (try split at q) <;> (try split at q) <;> (try split at q) <;> (try split) <;> (try split) <;> lia)]
    rfl
end Vp
end
section
namespace Vp
open Vh VhPage
def char1 (mk:List UInt8):Rd Nat:=byNext fun (c:Option UInt8)=>match c with
 | none=>stray
 | some x=>if mk.contains x=true then behind (gives x.toNat) else letter_
def cS (bs:List UInt8) (mk:List UInt8) (p:Nat):Bool:=match bs[p]? with
 | none=>false
 | some x=>mk.contains x || startsLetter x
def preO {α:Type} (xs:List α):Except Nat (List α×Nat×Bytes)→Except Nat (List α×Nat×Bytes)
 | .ok (r,p,b)=>.ok (xs++r,p,b)
 | .error i=>.error i
theorem preO_pre {α:Type} (xs ys:List α) (r:Except Nat (List α×Nat×Bytes)):preO xs (preO ys r)=preO (xs++ys) r:=by
 cases r with
 | error i=>rfl
 | ok x=>obtain ⟨r,p,b⟩:=x;simp [preO]
theorem preO_nil {α:Type} (r:Except Nat (List α×Nat×Bytes)):preO [] r=r:=by
 cases r with
 | error i=>rfl
 | ok x=>obtain ⟨r,p,b⟩:=x;simp [preO]
theorem char1_no {bs mk:List UInt8}{p:Nat} (h:cS bs mk p=false):char1 mk p (bs.drop p)=.error p:=by
 unfold char1 byNext
 rw [head_drop]
 unfold cS at h
 cases e:bs[p]? with
 | none=>rfl
 | some x =>
  rw [e] at h
  dsimp only at h ⊢
  rw [Bool.or_eq_false_iff] at h
  rw [if_neg (by rw [h.1];decide)]
  unfold letter_ byNext
  rw [head_drop,e]
  dsimp only
  rw [if_pos h.2]
  rfl
theorem chars_no {bs mk:List UInt8}{p k:Nat} (h:cS bs mk p=false):chars_ mk k p (bs.drop p)=.ok ([],p,bs.drop p):=by
 cases k with
 | zero=>rfl
 | succ k =>
  rw [chars_]
  unfold byNext
  rw [head_drop]
  unfold cS at h
  cases e:bs[p]? with
  | none=>rfl
  | some x =>
   rw [e] at h
   dsimp only at h ⊢
   rw [Bool.or_eq_false_iff] at h
   rw [if_neg (by rw [h.1];decide),if_neg (by rw [h.2];decide)]
   rfl
theorem chars_err {bs mk:List UInt8}{p k i:Nat} (h:cS bs mk p=true) (h1:char1 mk p (bs.drop p)=.error i):chars_ mk (k+1) p (bs.drop p)=.error i:=by
 rw [chars_]
 unfold char1 byNext at h1
 unfold byNext
 rw [head_drop] at h1 ⊢
 unfold cS at h
 cases e:bs[p]? with
 | none=>rw [e] at h;cases h
 | some x =>
  rw [e] at h h1
  dsimp only at h h1 ⊢
  by_cases hm:mk.contains x=true
  ·rw [if_pos hm] at h1
   cases h1
  ·rw [if_neg hm] at h1 ⊢
   have hs:startsLetter x=true:=by
    rcases Bool.or_eq_true_iff.mp h with z | z
    ·exact absurd z hm
    ·exact z
   rw [if_pos hs]
   exact then_no h1
theorem chars_ok {bs mk:List UInt8}{p k n p':Nat} (h:cS bs mk p=true) (h1:char1 mk p (bs.drop p)=.ok (n,p',bs.drop p')):chars_ mk (k+1) p (bs.drop p)=preO [n] (chars_ mk k p' (bs.drop p')):=by
 rw [chars_]
 unfold char1 byNext at h1
 unfold byNext
 rw [head_drop] at h1 ⊢
 unfold cS at h
 have fin:∀ (r:Rd Letters),andThen r (fun (l:Letters)=>gives (n::l)) p' (bs.drop p')=preO [n] (r p' (bs.drop p')):=fun r=>by
  unfold andThen
  cases r p' (bs.drop p') with
  | error i=>rfl
  | ok x=>rfl
 cases e:bs[p]? with
 | none=>rw [e] at h;cases h
 | some x =>
  rw [e] at h h1
  dsimp only at h h1 ⊢
  by_cases hm:mk.contains x=true
  ·rw [if_pos hm] at h1 ⊢
   unfold behind gives at h1
   rw [drop_drop1] at h1
   injection h1 with h1
   injection h1 with h2 h3
   injection h3 with h3 h4
   subst h2 h3
   unfold behind
   rw [drop_drop1]
   exact fin _
  ·rw [if_neg hm] at h1 ⊢
   have hs:startsLetter x=true:=by
    rcases Bool.or_eq_true_iff.mp h with z | z
    ·exact absurd z hm
    ·exact z
   rw [if_pos hs,then_ok h1]
   exact fin _
theorem some_of_chars {bs mk:List UInt8}{p k p':Nat}{x:Letters} (h:chars_ mk k p (bs.drop p)=.ok (x,p',bs.drop p')) (hx:x≠[]):someChars_ mk k p (bs.drop p)=.ok (x,p',bs.drop p'):=by
 unfold someChars_
 rw [then_ok h]
 rw [if_neg (by cases x <;> simp at hx ⊢)]
 rfl
theorem some_err {bs mk:List UInt8}{p k i:Nat} (h:chars_ mk k p (bs.drop p)=.error i):someChars_ mk k p (bs.drop p)=.error i:=by
 unfold someChars_
 exact then_no h
theorem some_nil {bs mk:List UInt8}{p k:Nat} (h:chars_ mk k p (bs.drop p)=.ok ([],p,bs.drop p)):someChars_ mk k p (bs.drop p)=.error p:=by
 unfold someChars_
 rw [then_ok h]
 rfl
theorem letters_chars:∀ (k:Nat),letters_ k=chars_ [] k
 | 0=>rfl
 | k+1=>by
  rw [letters_,chars_,letters_chars k]
  rfl
theorem someLetters_chars (k:Nat):someLetters_ k=someChars_ [] k:=by unfold someLetters_ someChars_;rw [letters_chars]
def rowTail (one:Rd Letters) (m:Nat):Rd (List Letters):=byNext fun (c:Option UInt8)=>if c=some 10 then behind (gives []) else if m=0 then stray else andThen (byte_ 32) fun (_:Unit)=>row_ one m
theorem row_ok {one:Rd Letters}{m p p':Nat}{b b':Bytes}{x:Letters} (h:one p b=.ok (x,p',b')):row_ one (m+1) p b=preO [x] (rowTail one m p' b'):=by
 rw [row_,then_ok h]
 unfold rowTail byNext
 dsimp only
 split
 ·rfl
 ·split
  ·rfl
  ·unfold andThen
   cases byte_ 32 p' b' with
   | error i=>rfl
   | ok y =>
    obtain ⟨u,p2,b2⟩:=y
    dsimp only
    cases row_ one m p2 b2 with
    | error i=>rfl
    | ok z=>rfl
theorem row_err {one:Rd Letters}{m p i:Nat}{b:Bytes} (h:one p b=.error i):row_ one (m+1) p b=.error i:=by
 rw [row_,then_no h]
theorem tail10 {one:Rd Letters}{m p:Nat}{bs:List UInt8} (h:pk bs p=10):rowTail one m p (bs.drop p)=.ok ([],p+1,bs.drop (p+1)):=by
 unfold rowTail byNext
 rw [head_drop,pk_eq (c:=10) |>.mp h]
 dsimp only
 rw [if_pos rfl]
 unfold behind gives
 rw [drop_drop1]
theorem tail32 {one:Rd Letters}{m p:Nat}{bs:List UInt8} (h:pk bs p=32) (hm:m≠0):rowTail one m p (bs.drop p)=row_ one m (p+1) (bs.drop (p+1)):=by
 unfold rowTail byNext
 have e:=(pk_eq (c:=32)).mp h
 rw [head_drop,e]
 dsimp only
 rw [if_neg (by decide),if_neg hm]
 exact then_ok (byte_ok h)
theorem tail_no {one:Rd Letters}{m p:Nat}{bs:List UInt8} (h1:pk bs p≠10) (h2:m=0∨pk bs p≠32):rowTail one m p (bs.drop p)=.error p:=by
 unfold rowTail byNext
 rw [head_drop]
 dsimp only
 rw [if_neg (fun z=>h1 ((pk_eq (c:=10)).mpr z))]
 by_cases hm:m=0
 ·rw [if_pos hm];rfl
 ·rw [if_neg hm]
  exact then_no (byte_no (fun z=>(h2.resolve_left hm) z))
theorem cS_not {bs mk:List UInt8}{p:Nat} (hm:∀ c∈mk,33≤c.toNat) (h:pk bs p=32∨pk bs p=10):cS bs mk p=false:=by
 unfold cS
 cases e:bs[p]? with
 | none=>rfl
 | some x =>
  dsimp only
  have e2:=pk_some e
  have hx:x.toNat=32∨x.toNat=10:=by lia
  have h1:mk.contains x=false:=by
   rw [List.contains_eq_any_beq,List.any_eq_false]
   intro y hy z
   have:=hm y hy
   rw [eq_of_beq z] at hx
   lia
  have h2:startsLetter x=false:=by
   unfold startsLetter
   rw [if_pos (by lia)]
   rcases hx with z | z <;> rw [z] <;> decide
  rw [h1,h2];rfl
end Vp
end
section
namespace Vp
open Vh VhPage
theorem byte_digit {β:Type}{bs:List UInt8}{p:Nat}{c:UInt8}{g:Unit→Rd β} (h:48≤pk bs p∧pk bs p≤57) (hc:c.toNat<48:=by decide):andThen (byte_ c) g p (bs.drop p)=.error p:=then_no (byte_no (by lia))
def NumBad (bs:List UInt8) (lo hi p p':Nat):Prop:=num lo hi p (bs.drop p)=.error p'∨∃ x,num lo hi p (bs.drop p)=.ok (x,p',bs.drop p')∧48≤pk bs p'∧pk bs p'≤57
theorem num_bad {β:Type}{bs:List UInt8}{lo hi p p':Nat}{f:Nat→Rd β} (h:NumBad bs lo hi p p') (hf:∀ x,(48≤pk bs p'∧pk bs p'≤57)→f x p' (bs.drop p')=.error p'):andThen (num lo hi) f p (bs.drop p)=.error p':=by
 rcases h with h | ⟨x,h,hd⟩
 ·exact then_no h
 ·rw [then_ok h];exact hf x hd
def hd:List (Nat×Nat)→List Nat→Rd (List Nat)
 | [],xs=>andThen (byte_ 10) fun (_:Unit)=>gives xs
 | b::r,[]=>andThen (num b.1 b.2) fun x=>hd r [x]
 | b::r,y::ys=>andThen (byte_ 32) fun (_:Unit)=>andThen (num b.1 b.2) fun x=>hd r ((y::ys)++[x])
def hdr (bds:List (Nat×Nat)):Rd (List Nat):=andThen (byte_ 94) fun (_:Unit)=>hd bds []
theorem hd_s (b:Nat×Nat) (r:List (Nat×Nat)):∀ (xs:List Nat),xs≠[]→hd (b::r) xs=andThen (byte_ 32) fun (_:Unit)=>andThen (num b.1 b.2) fun x=>hd r (xs++[x])
 | [],h=>absurd rfl h
 | _::_,_=>rfl
theorem hd_digit {bs:List UInt8}{p:Nat} (h:48≤pk bs p∧pk bs p≤57):∀ (bds:List (Nat×Nat)) (xs:List Nat),xs≠[]→hd bds xs p (bs.drop p)=.error p
 | [],_,_=>by rw [hd];exact byte_digit h
 | b::r,xs,hx=>by rw [hd_s b r xs hx];exact byte_digit h
end Vp
end
section
namespace Vp
open Vh VhPage
end Vp
end
section
namespace Vp
open Vh VhPage
end Vp
end
section
namespace Vp
open Vh VhPage
theorem dig_char (d:Nat) (h:d<10):(Nat.digitChar d).toNat=48+d∧(UInt8.ofNat (48+d)).toNat=48+d:=by
 have:∀ d:Fin 10,(Nat.digitChar d.val).toNat=48+d.val∧(UInt8.ofNat (48+d.val)).toNat=48+d.val:=by decide
 exact this ⟨d,h⟩
theorem digs_core:∀ (k n:Nat) (ds:List Char),(Nat.toDigitsCore 10 k n ds).map Char.toNat=(digitsIn k n).map UInt8.toNat++ds.map Char.toNat
 | 0,n,ds=>by simp [Nat.toDigitsCore,digitsIn]
 | k+1,n,ds=>by
  have hd:=dig_char (n % 10) (Nat.mod_lt _ (by decide))
  unfold Nat.toDigitsCore digitsIn
  simp only []
  by_cases h:n<10
  ·rw [if_pos (by lia),if_pos h]
   simp [hd.1];lia
  ·rw [if_neg (by lia),if_neg h,digs_core k (n / 10)]
   simp [hd.1];lia
theorem num10_eq (n:Nat):num10 n=(Nat.toDigits 10 n).map Char.toNat:=by
 unfold num10 decimal Nat.toDigits
 rw [digs_core];simp
theorem num_text (n:Nat):(PySem.Str.ofString (toString (n:Int))).cps.toList=num10 n:=by
 rw [num10_eq]
 have:=PyProof.Rows.text_ofNat n
 show (PySem.Str.ofString (toString (Int.ofNat n))).cps.toList=_
 rw [this]
end Vp
end
section
namespace Vp
open Vh VhPage
end Vp
end
section
namespace Vp
open Vh VhPage
def ChOk (l:Letters):Prop:=∀ c∈l,c<0x110000
def ThOk (k:Nat) (l:Letters):Prop:=l≠[]∧l.length≤k∧ChOk l
def Pd {α:Type} (r:Rd α) (ok:α→Prop):Prop:=∀ p b x p' b',r p b=.ok (x,p',b')→ok x
section
variable {α β:Type}{r r2:Rd α}{ok:α→Prop}
theorem Pd.thn {s:Rd β}{f:β→Rd α}{ok1:β→Prop} (h1:Pd s ok1) (h2:∀ x,ok1 x→Pd (f x) ok):Pd (andThen s f) ok:=by
 intro p b x p' b' h
 unfold andThen at h
 cases e:s p b with
 | error i=>rw [e] at h;cases h
 | ok z =>
  rw [e] at h
  obtain ⟨y,p1,b1⟩:=z
  exact h2 y (h1 p b y p1 b1 e) _ _ _ _ _ h
theorem Pd.next {f:Option UInt8→Rd α} (h:∀ c,Pd (f c) ok):Pd (byNext f) ok:=fun p b=>h b.head? p b
theorem Pd.beh (h:Pd r ok):Pd (behind r) ok:=fun p b=>h (p+1) (b.drop 1)
theorem Pd.giv {x:α} (h:ok x):Pd (gives x) ok:=by
 intro p b y p' b' e
 cases e
 exact h
theorem Pd.str:Pd (stray:Rd α) ok:=by intro p b y p' b' e;cases e
theorem Pd.ite {c:Prop} [Decidable c] (h1:c→Pd r ok) (h2:¬ c→Pd r2 ok):Pd (if c then r else r2) ok:=by
 by_cases z:c
 ·rw [if_pos z];exact h1 z
 ·rw [if_neg z];exact h2 z
end
end Vp
end
section
namespace Vp
open Vh VhPage
def Pr {α:Type} (r:Rd α) (pr:α→Bytes) (ok:α→Prop):Prop:=∀ p b x p' b',r p b=.ok (x,p',b')→b=pr x++b'∧p'=p+(pr x).length∧ok x
theorem Pr.bind {α β:Type}{r:Rd α}{f:α→Rd β}{pr:α→Bytes}{ok:α→Prop}{p:Nat}{b:Bytes}{y:β}{p':Nat}{b':Bytes} (hr:Pr r pr ok) (h:andThen r f p b=.ok (y,p',b')):∃ x b1,b=pr x++b1∧ok x∧f x (p+(pr x).length) b1=.ok (y,p',b'):=by
 unfold andThen at h
 cases e:r p b with
 | error i=>rw [e] at h;cases h
 | ok z =>
  rw [e] at h
  obtain ⟨x,p1,b1⟩:=z
  obtain ⟨h1,h2,h3⟩:=hr p b x p1 b1 e
  refine ⟨x,b1,h1,h3,?_⟩
  rw [← h2];exact h
theorem head_cons {b:Bytes}{c:UInt8} (h:b.head?=some c):b=c::b.drop 1:=by
 cases b with
 | nil=>simp at h
 | cons x b=>simp at h;subst h;rfl
theorem Pr.byte (c:UInt8):Pr (byte_ c) (fun _=>[c]) (fun _=>True):=by
 intro p b x p' b' h
 have h:(if b.head?=some c then behind (Vh.gives ()) else stray) p b=Except.ok (x,p',b'):=h
 by_cases hc:b.head?=some c
 ·rw [if_pos hc] at h
  cases h
  exact ⟨head_cons hc,rfl,trivial⟩
 ·rw [if_neg hc] at h
  cases h
theorem digs_fuel:∀ (j k n:Nat),n<j→n<k→digitsIn j n=digitsIn k n
 | 0,_,_,h,_=>by omega
 | _,0,_,_,h=>by omega
 | j+1,k+1,n,h1,h2=>by
  show (if n<10 then [] else digitsIn j (n / 10))++[UInt8.ofNat (48+n % 10)]=(if n<10 then [] else digitsIn k (n / 10))++[UInt8.ofNat (48+n % 10)]
  by_cases z:n<10
  ·rw [if_pos z,if_pos z]
  ·rw [if_neg z,if_neg z,digs_fuel j k (n / 10) (by omega) (by omega)]
theorem dec_one {d:Nat} (h:d<10):decimal d=[UInt8.ofNat (48+d)]:=by
 unfold decimal
 show (if d<10 then [] else digitsIn d (d / 10))++[UInt8.ofNat (48+d % 10)]=_
 rw [if_pos h,Nat.mod_eq_of_lt h];rfl
theorem dec_more {m d:Nat} (hm:1≤m) (h:d<10):decimal (10 * m+d)=decimal m++[UInt8.ofNat (48+d)]:=by
 unfold decimal
 show (if 10 * m+d<10 then [] else digitsIn (10 * m+d) ((10 * m+d) / 10))++[UInt8.ofNat (48+(10 * m+d) % 10)]=_
 have e1:(10 * m+d) / 10=m:=by omega
 have e2:(10 * m+d) % 10=d:=by omega
 rw [if_neg (by omega),e1,e2,digs_fuel (10 * m+d) (m+1) m (by omega) (by omega)]
def decO:Option Nat→Bytes
 | none=>[]
 | some m=>decimal m
theorem digits_pr (lo hi:Nat):∀ (f:Nat) (v:Option Nat) (p:Nat) (b:Bytes) (x p':Nat) (b':Bytes),digits lo hi f v p b=.ok (x,p',b')→∃ ds,b=ds++b'∧p'=p+ds.length∧decimal x=decO v++ds∧lo≤x∧x≤hi
 | 0,v,p,b,x,p',b',h=>by cases h
 | f+1,v,p,b,x,p',b',h=>by
  have h:(match (generalizing:=false) (b.head?.bind fun (c:UInt8)=>if isDigit c=false∨v=some 0 then none else if leadsTo lo hi (10 * v.getD 0+(c.toNat-48))=true then some (10 * v.getD 0+(c.toNat-48)) else none) with
   | some n=>behind (digits lo hi f (some n))
   | none=>match (generalizing:=false) v with
    | some n=>if lo≤n∧n≤hi then gives n else stray
    | none=>stray) p b=.ok (x,p',b'):=h
  generalize hn:(b.head?.bind fun (c:UInt8)=>if isDigit c=false∨v=some 0 then none else if leadsTo lo hi (10 * v.getD 0+(c.toNat-48))=true then some (10 * v.getD 0+(c.toNat-48)) else none)=more at h
  cases more with
  | some n =>
   simp only [] at h
   have hb:∃ c,b.head?=some c∧isDigit c=true∧v≠some 0∧n=10 * v.getD 0+(c.toNat-48):=by
    cases hc:b.head? with
    | none=>rw [hc] at hn;cases hn
    | some c =>
     rw [hc] at hn
     simp only [Option.bind_some] at hn
     split at hn
     ·cases hn
     ·rename_i z
      split at hn
      ·cases hn
       refine ⟨c,rfl,?_,fun y=>z (.inr y),rfl⟩
       cases y:isDigit c
       ·exact absurd (.inl y) z
       ·rfl
      ·cases hn
   obtain ⟨c,hc,hd,hv,rfl⟩:=hb
   obtain ⟨ds,h1,h2,h3,h4⟩:=digits_pr lo hi f _ _ _ x p' b' h
   have hd':=isDigit_iff.mp hd
   refine ⟨c::ds,?_,?_,?_,h4⟩
   ·rw [head_cons hc,h1];rfl
   ·rw [h2,List.length_cons];omega
   ·rw [h3]
    have hcc:UInt8.ofNat (48+(c.toNat-48))=c:=by
     have:48+(c.toNat-48)=c.toNat:=by omega
     rw [this];simp
    cases v with
    | none =>
     show decimal (10 * 0+(c.toNat-48))++ds=c::ds
     rw [Nat.mul_zero,Nat.zero_add,dec_one (by omega),hcc];rfl
    | some m =>
     have hm:1≤m:=by
      rcases Nat.eq_zero_or_pos m with z | z
      ·subst z;exact absurd rfl hv
      ·exact z
     show decimal (10 * m+(c.toNat-48))++ds=decimal m++c::ds
     rw [dec_more hm (by omega),hcc,List.append_assoc];rfl
  | none =>
   cases v with
   | none=>cases h
   | some n =>
    simp only [] at h
    by_cases z:lo≤n∧n≤hi
    ·rw [if_pos z] at h
     cases h
     exact ⟨[],rfl,rfl,by simp [decO],z.1,z.2⟩
    ·rw [if_neg z] at h
     cases h
theorem Pr.num (lo hi:Nat):Pr (num lo hi) decimal (fun n=>lo≤n∧n≤hi):=by
 intro p b x p' b' h
 obtain ⟨ds,h1,h2,h3,h4⟩:=digits_pr lo hi 20 none p b x p' b' h
 have e:decimal x=ds:=h3
 rw [e]
 exact ⟨h1,h2,h4⟩
theorem Pr.tail {lo hi:Nat} (h128:128≤lo):Pr (tail_ lo hi) (fun a=>[UInt8.ofNat (a+128)]) (fun a=>lo≤a+128∧a+128≤hi∧a+128<256):=by
 intro p b x p' b' h
 unfold tail_ byNext at h
 simp only [] at h
 cases hc:b.head? with
 | none=>rw [hc] at h;cases h
 | some c =>
  rw [hc] at h
  have h:(if lo≤c.toNat∧c.toNat≤hi then behind (Vh.gives (c.toNat-0x80)) else stray) p b=.ok (x,p',b'):=h
  by_cases z:lo≤c.toNat∧c.toNat≤hi
  ·rw [if_pos z] at h
   have h:(Except.ok (c.toNat-0x80,p+1,b.drop 1):Except Nat (Nat×Nat×Bytes))=Except.ok (x,p',b'):=h
   injection h with h
   injection h with h1 h2
   injection h2 with h2 h3
   subst h1 h2 h3
   have hlt:=c.toNat_lt
   have e:c.toNat-128+128=c.toNat:=by omega
   refine ⟨?_,rfl,by omega,by omega,by omega⟩
   show b=[UInt8.ofNat (c.toNat-128+128)]++b.drop 1
   rw [e]
   have:UInt8.ofNat c.toNat=c:=by simp
   rw [this]
   exact head_cons hc
  ·rw [if_neg z] at h
   cases h
theorem char1b {v:Nat} (h:v<0x80):charOf v=[UInt8.ofNat v]:=by unfold charOf;rw [if_pos h]
theorem char2b {v:Nat} (h:0x80≤v) (h2:v<0x800):charOf v=[UInt8.ofNat (0xC0+v / 64),UInt8.ofNat (0x80+v % 64)]:=by unfold charOf;rw [if_neg (by omega),if_pos h2]
theorem char3b {v:Nat} (h:0x800≤v) (h2:v<0x10000):charOf v=[UInt8.ofNat (0xE0+v / 4096),UInt8.ofNat (0x80+v / 64 % 64),UInt8.ofNat (0x80+v % 64)]:=by unfold charOf;rw [if_neg (by omega),if_neg (by omega),if_pos h2]
theorem char4b {v:Nat} (h:0x10000≤v):charOf v=[UInt8.ofNat (0xF0+v / 262144),UInt8.ofNat (0x80+v / 4096 % 64),UInt8.ofNat (0x80+v / 64 % 64),UInt8.ofNat (0x80+v % 64)]:=by unfold charOf;rw [if_neg (by omega),if_neg (by omega),if_neg (by omega)]
theorem u8_back (c:UInt8):UInt8.ofNat c.toNat=c:=by simp
theorem ok_inj {α:Type}{x y:α}{p q:Nat}{b d:Bytes} (h:(Except.ok (x,p,b):Except Nat (α×Nat×Bytes))=Except.ok (y,q,d)):x=y∧p=q∧b=d:=by
 injection h with h
 injection h with h1 h2
 injection h2 with h2 h3
 exact ⟨h1,h2,h3⟩
theorem starts_range {c:UInt8} (h:startsLetter c=true) (h2:¬ c.toNat<0x80):0xC2≤c.toNat∧c.toNat≤0xF4:=by
 unfold startsLetter at h
 rw [if_neg h2] at h
 simpa using h
theorem Pr.letter:Pr letter_ charOf (fun n=>n<0x110000):=by
 intro p b x p' b' h
 cases hc:b.head? with
 | none=>unfold letter_ byNext at h;rw [hc] at h;cases h
 | some c =>
  have hb:=head_cons hc
  have h:(if startsLetter c=false then stray
   else if c.toNat<0x80 then behind (Vh.gives c.toNat)
   else if c.toNat<0xE0 then behind (andThen (tail_ (if c.toNat=0xC2 then 0xA0 else 0x80) 0xBF) fun (a:Nat)=>Vh.gives ((c.toNat-0xC0) * 64+a))
   else if c.toNat<0xF0 then behind (andThen (tail_ (if c.toNat=0xE0 then 0xA0 else 0x80) (if c.toNat=0xED then 0x9F else 0xBF)) fun (a:Nat)=>andThen (tail_ 0x80 (if c.toNat=0xEF∧a=63 then 0xBD else 0xBF)) fun (b:Nat)=>Vh.gives ((c.toNat-0xE0) * 4096+a * 64+b))
   else behind (andThen (tail_ (if c.toNat=0xF0 then 0x90 else 0x80) (if c.toNat=0xF4 then 0x8F else 0xBF)) fun (a:Nat)=>andThen (tail_ 0x80 0xBF) fun (b:Nat)=>andThen (tail_ 0x80 (if a % 16=15∧b=63 then 0xBD else 0xBF)) fun (d:Nat)=>Vh.gives ((c.toNat-0xF0) * 262144+a * 4096+b * 64+d))) p b=.ok (x,p',b'):=by
   unfold letter_ byNext at h;rw [hc] at h;exact h
  by_cases hs:startsLetter c=false
  ·rw [if_pos hs] at h;cases h
  rw [if_neg hs] at h
  have hs':startsLetter c=true:=by simpa using hs
  by_cases h1:c.toNat<0x80
  ·rw [if_pos h1] at h
   obtain ⟨rfl,rfl,rfl⟩:=ok_inj (x:=c.toNat) (p:=p+1) (b:=b.drop 1) h
   rw [char1b h1,u8_back]
   exact ⟨hb,rfl,by omega⟩
  rw [if_neg h1] at h
  obtain ⟨r1,r2⟩:=starts_range hs' h1
  by_cases h2:c.toNat<0xE0
  ·rw [if_pos h2] at h
   obtain ⟨u,b1,e1,⟨o1,o2,o3⟩,h⟩:=Pr.bind (Pr.tail (by split <;> omega)) (show andThen _ _ (p+1) (b.drop 1)=_ from h)
   obtain ⟨rfl,rfl,rfl⟩:=ok_inj h
   have a1:0x80≤(c.toNat-0xC0) * 64+u:=by omega
   rw [char2b a1 (by omega)]
   have e2:0xC0+((c.toNat-0xC0) * 64+u) / 64=c.toNat:=by omega
   have e3:0x80+((c.toNat-0xC0) * 64+u) % 64=u+128:=by omega
   rw [e2,e3,u8_back]
   refine ⟨?_,rfl,by omega⟩
   rw [hb,e1];rfl
  rw [if_neg h2] at h
  by_cases h3:c.toNat<0xF0
  ·rw [if_pos h3] at h
   obtain ⟨u,b1,e1,⟨o1,o2,o3⟩,h⟩:=Pr.bind (Pr.tail (by split <;> omega)) (show andThen _ _ (p+1) (b.drop 1)=_ from h)
   obtain ⟨v,b2,e2,⟨q1,q2,q3⟩,h⟩:=Pr.bind (Pr.tail (by omega)) h
   obtain ⟨rfl,rfl,rfl⟩:=ok_inj h
   have u1:u<64:=by
    have:(if c.toNat=0xED then 0x9F else 0xBF)≤0xBF:=by split <;> omega
    omega
   have v1:v<64:=by
    have:(if c.toNat=0xEF∧u=63 then 0xBD else 0xBF)≤0xBF:=by split <;> omega
    omega
   have a1:0x800≤(c.toNat-0xE0) * 4096+u * 64+v:=by
    by_cases z:c.toNat=0xE0
    ·rw [if_pos z] at o1;omega
    ·omega
   rw [char3b a1 (by omega)]
   have f2:0xE0+((c.toNat-0xE0) * 4096+u * 64+v) / 4096=c.toNat:=by omega
   have f3:0x80+((c.toNat-0xE0) * 4096+u * 64+v) / 64 % 64=u+128:=by omega
   have f4:0x80+((c.toNat-0xE0) * 4096+u * 64+v) % 64=v+128:=by omega
   rw [f2,f3,f4,u8_back]
   refine ⟨?_,rfl,by omega⟩
   rw [hb,e1,e2];rfl
  rw [if_neg h3] at h
  obtain ⟨u,b1,e1,⟨o1,o2,o3⟩,h⟩:=Pr.bind (Pr.tail (by split <;> omega)) (show andThen _ _ (p+1) (b.drop 1)=_ from h)
  obtain ⟨v,b2,e2,⟨q1,q2,q3⟩,h⟩:=Pr.bind (Pr.tail (by omega)) h
  obtain ⟨t,b3,e3,⟨s1,s2,s3⟩,h⟩:=Pr.bind (Pr.tail (by omega)) h
  obtain ⟨rfl,rfl,rfl⟩:=ok_inj h
  have u1:u<64∧(c.toNat=0xF4→u<16)∧(c.toNat=0xF0→16≤u):=by
   refine ⟨?_,fun z=>?_,fun z=>?_⟩
   ·have:(if c.toNat=0xF4 then 0x8F else 0xBF)≤0xBF:=by split <;> omega
    omega
   ·rw [if_pos z] at o2;omega
   ·rw [if_pos z] at o1;omega
  have t1:t<64:=by
   have:(if u % 16=15∧v=63 then 0xBD else 0xBF)≤0xBF:=by split <;> omega
   omega
  have v1:v<64:=by omega
  have a1:0x10000≤(c.toNat-0xF0) * 262144+u * 4096+v * 64+t:=by omega
  rw [char4b a1]
  have f2:0xF0+((c.toNat-0xF0) * 262144+u * 4096+v * 64+t) / 262144=c.toNat:=by omega
  have f3:0x80+((c.toNat-0xF0) * 262144+u * 4096+v * 64+t) / 4096 % 64=u+128:=by omega
  have f4:0x80+((c.toNat-0xF0) * 262144+u * 4096+v * 64+t) / 64 % 64=v+128:=by omega
  have f5:0x80+((c.toNat-0xF0) * 262144+u * 4096+v * 64+t) % 64=t+128:=by omega
  rw [f2,f3,f4,f5,u8_back]
  refine ⟨?_,rfl,by omega⟩
  rw [hb,e1,e2,e3];rfl
end Vp
end
section
namespace Vp
open Vh VhPage
theorem Pr.chars {mk:List UInt8} (hm:∀ c∈mk,c.toNat<128):∀ k:Nat,Pr (chars_ mk k) spelt (fun l=>l.length≤k∧ChOk l)
 | 0=>by
  intro p b x p' b' h
  obtain ⟨rfl,rfl,rfl⟩:=ok_inj (x:=([]:Letters)) (p:=p) (b:=b) h
  exact ⟨rfl,rfl,Nat.le_refl _,fun c hc=>by simp at hc⟩
 | k+1=>by
  intro p b x p' b' h
  have nil:∀ {x p' b'},(Vh.gives ([]:Letters)) p b=.ok (x,p',b')→b=spelt x++b'∧p'=p+(spelt x).length∧x.length≤k+1∧ChOk x:=fun h=>by
   obtain ⟨rfl,rfl,rfl⟩:=ok_inj h
   exact ⟨rfl,rfl,Nat.zero_le _,fun c hc=>by simp at hc⟩
  cases hc:b.head? with
  | none =>
   unfold chars_ byNext at h;rw [hc] at h
   exact nil h
  | some c =>
   have hb:=head_cons hc
   have h:(if mk.contains c=true then behind (andThen (chars_ mk k) fun (r:Letters)=>Vh.gives (c.toNat::r)) else if startsLetter c=true then (andThen letter_ fun (n:Nat)=>andThen (chars_ mk k) fun (r:Letters)=>Vh.gives (n::r)) else Vh.gives []) p b=.ok (x,p',b'):=by
    unfold chars_ byNext at h;rw [hc] at h;exact h
   by_cases h1:mk.contains c=true
   ·rw [if_pos h1] at h
    obtain ⟨l,b1,e1,⟨o1,o2⟩,h⟩:=Pr.bind (Pr.chars hm k) (show andThen _ _ (p+1) (b.drop 1)=_ from h)
    obtain ⟨rfl,rfl,rfl⟩:=ok_inj h
    have h2:=hm c (by simpa using h1)
    have e:spelt (c.toNat::l)=c::spelt l:=by
     show charOf c.toNat++spelt l=_
     rw [char1b h2,u8_back];rfl
    rw [e]
    refine ⟨?_,?_,?_,?_⟩
    ·rw [hb,e1];rfl
    ·rw [List.length_cons];lia
    ·rw [List.length_cons];lia
    ·intro d hd
     rcases List.mem_cons.mp hd with z | z
     ·rw [z];lia
     ·exact o2 d z
   ·rw [if_neg h1] at h
    by_cases h2:startsLetter c=true
    ·rw [if_pos h2] at h
     obtain ⟨n,b1,e1,o1,h⟩:=Pr.bind Pr.letter h
     obtain ⟨l,b2,e2,⟨o2,o3⟩,h⟩:=Pr.bind (Pr.chars hm k) h
     obtain ⟨rfl,rfl,rfl⟩:=ok_inj h
     have e:spelt (n::l)=charOf n++spelt l:=rfl
     rw [e]
     refine ⟨?_,?_,?_,?_⟩
     ·rw [e1,e2,List.append_assoc]
     ·rw [List.length_append];lia
     ·rw [List.length_cons];lia
     ·intro d hd
      rcases List.mem_cons.mp hd with z | z
      ·rw [z];exact o1
      ·exact o3 d z
    ·rw [if_neg h2] at h
     exact nil h
theorem Pr.some {mk:List UInt8} (hm:∀ c∈mk,c.toNat<128) (k:Nat):Pr (someChars_ mk k) spelt (ThOk k):=by
 intro p b x p' b' h
 obtain ⟨l,b1,e1,⟨o1,o2⟩,h⟩:=Pr.bind (Pr.chars hm k) h
 by_cases z:l.isEmpty=true
 ·have h:(if l.isEmpty=true then stray else Vh.gives l) (p+(spelt l).length) b1=Except.ok (x,p',b'):=h
  rw [if_pos z] at h;cases h
 ·have h:(if l.isEmpty=true then stray else Vh.gives l) (p+(spelt l).length) b1=Except.ok (x,p',b'):=h
  rw [if_neg z] at h
  obtain ⟨rfl,rfl,rfl⟩:=ok_inj h
  exact ⟨e1,rfl,fun y=>z (by rw [y];rfl),o1,o2⟩
theorem Pr.row {one:Rd Letters}{ok:Letters→Prop} (h1:Pr one spelt ok):∀ k:Nat,Pr (row_ one k) (fun l=>ended (spelled l)) (fun l=>l≠[]∧l.length≤k∧∀ x∈l,ok x)
 | 0=>by intro p b x p' b' h;cases h
 | k+1=>by
  intro p b x p' b' h
  obtain ⟨y,b1,e1,o1,h⟩:=Pr.bind h1 h
  have h:(if b1.head?=Option.some 10 then behind (Vh.gives [y]) else if k=0 then stray else andThen (byte_ 32) fun (_:Unit)=>andThen (row_ one k) fun (r:List Letters)=>Vh.gives (y::r)) (p+(spelt y).length) b1=Except.ok (x,p',b'):=h
  by_cases z:b1.head?=Option.some 10
  ·rw [if_pos z] at h
   obtain ⟨rfl,rfl,rfl⟩:=ok_inj (x:=[y]) (p:=p+(spelt y).length+1) (b:=b1.drop 1) h
   have e:ended (spelled [y])=spelt y++[10]:=rfl
   simp only []
   rw [e]
   refine ⟨?_,?_,by simp,by simp,fun x hx=>?_⟩
   ·rw [e1,List.append_assoc];exact congrArg _ (head_cons z)
   ·rw [List.length_append];rfl
   ·have:x=y:=by simpa using hx
    rw [this];exact o1
  ·rw [if_neg z] at h
   by_cases z2:k=0
   ·rw [if_pos z2] at h;cases h
   ·rw [if_neg z2] at h
    obtain ⟨_,b2,e2,_,h⟩:=Pr.bind (Pr.byte 32) h
    obtain ⟨l,b3,e3,⟨o2,o3,o4⟩,h⟩:=Pr.bind (Pr.row h1 k) h
    obtain ⟨rfl,rfl,rfl⟩:=ok_inj h
    have e:ended (spelled (y::l))=spelt y++32::ended (spelled l):=by
     cases l with
     | nil=>exact absurd rfl o2
     | cons u l=>unfold ended spelled;simp [spaced]
    simp only []
    rw [e]
    refine ⟨?_,?_,by simp,?_,fun x hx=>?_⟩
    ·rw [e1,e2,e3];simp
    ·rw [List.length_append,List.length_cons];simp;lia
    ·rw [List.length_cons];lia
    ·rcases List.mem_cons.mp hx with w | w
     ·rw [w];exact o1
     ·exact o4 x w
theorem Pr.then_ (lo hi:Nat):Pr (VhPage.then_ lo hi) (fun n=>32::decimal n) (fun n=>lo≤n∧n≤hi):=by
 intro p b x p' b' h
 obtain ⟨_,b2,e2,_,h⟩:=Pr.bind (Pr.byte 32) h
 obtain ⟨h1,h2,h3⟩:=Pr.num lo hi _ _ _ _ _ h
 refine ⟨?_,?_,h3⟩
 ·rw [e2,h1];rfl
 ·rw [h2,List.length_cons];simp;lia
end Vp
end
section
namespace Vp
open Vh VhPage
theorem Pr.lett (k:Nat):Pr (someLetters_ k) spelt (ThOk k):=by rw [someLetters_chars];exact Pr.some (by simp) k
end Vp
end
section
namespace Vp
open Vh VhPage
end Vp
end
section
namespace Vp
open Vh VhPage
end Vp
end
section
namespace Vp
open Vh VhPage
def ownS (L:Laid) (i k:Nat):Nat:=(L.ownFoot i k).length
def whole (L:Laid) (i:Nat) (c:List (List Letters)) (k:Nat):Page:=⟨i,k+1-i,c.length,ownS L i (k+1),c++L.ownFoot i (k+1),[],true⟩
def wl (L:Laid) (i:Nat) (c:List (List Letters)):List Page:=L.wholesFrom i c L.work.set.height i []
variable {L:Laid}{B:Nat→Nat}
end Vp
end
section
namespace Vp
open Vh VhPage
end Vp
end
section
namespace Vp
open Vh VhPage
variable {L:Laid}{B:Nat→Nat}
end Vp
end
section
namespace Vp
open Vh VhPage
variable {L:Laid}{B:Nat→Nat}
theorem spelt_app (x y:Letters):spelt (x++y)=spelt x++spelt y:=by unfold spelt;rw [List.flatMap_append]
theorem char_ascii {c:Nat} (h:c<128):charOf c=[UInt8.ofNat c]:=char1b h
theorem spelt_bytes:∀ (b:Bytes),(∀ c∈b,c.toNat<128)→spelt (b.map fun (c:UInt8)=>c.toNat)=b
 | [],_=>rfl
 | c::b,h=>by
  have h1:=h c (by simp)
  have ih:=spelt_bytes b (fun x hx=>h x (by simp [hx]))
  unfold spelt at *
  rw [List.map_cons,List.flatMap_cons,ih,char_ascii h1,u8_back];rfl
theorem digit_ascii:∀ (f n:Nat),∀ c∈digitsIn f n,c.toNat<128
 | 0,n,c,h=>by simp [digitsIn] at h
 | f+1,n,c,h=>by
  have hd:(UInt8.ofNat (48+n % 10)).toNat<128:=by
   rw [UInt8.toNat_ofNat']
   have:=Nat.mod_lt n (show 0<10 by decide)
   lia
  unfold digitsIn at h
  rcases List.mem_append.mp h with h | h
  ·split at h
   ·simp at h
   ·exact digit_ascii f _ c h
  ·have:c=UInt8.ofNat (48+n % 10):=List.mem_singleton.mp h
   rw [this];exact hd
theorem spelt_num (n:Nat):spelt (num10 n)=decimal n:=spelt_bytes _ (digit_ascii _ _)
theorem spelt_one {c:Nat} (h:c<128) (r:Letters):spelt (c::r)=UInt8.ofNat c::spelt r:=by
 show charOf c++spelt r=_
 rw [char_ascii h];rfl
end Vp
end
section
namespace Vp
open Vh VhPage
theorem u8_small {n:Nat} (h:n<256):(UInt8.ofNat n).toNat=n:=by rw [UInt8.toNat_ofNat',Nat.mod_eq_of_lt h]
theorem tail_read {lo hi a p:Nat}{b:Bytes} (h1:lo≤128+a) (h2:128+a≤hi) (h3:a<64):tail_ lo hi p (UInt8.ofNat (128+a)::b)=.ok (a,p+1,b):=by
 unfold tail_ byNext
 show (if lo≤(UInt8.ofNat (128+a)).toNat∧(UInt8.ofNat (128+a)).toNat≤hi then behind (gives ((UInt8.ofNat (128+a)).toNat-128)) else stray) p _=_
 rw [u8_small (by lia),if_pos ⟨h1,h2⟩]
 show Except.ok (128+a-128,p+1,b)=_
 rw [Nat.add_sub_cancel_left]
theorem letter_at {c:UInt8}{p:Nat}{b:Bytes} (hs:startsLetter c=true):letter_ p (c::b) =
  (if c.toNat<0x80 then behind (gives c.toNat)
   else if c.toNat<0xE0 then behind (andThen (tail_ (if c.toNat=0xC2 then 0xA0 else 0x80) 0xBF) fun (a:Nat)=>gives ((c.toNat-0xC0) * 64+a))
   else if c.toNat<0xF0 then behind (andThen (tail_ (if c.toNat=0xE0 then 0xA0 else 0x80) (if c.toNat=0xED then 0x9F else 0xBF)) fun (a:Nat)=>andThen (tail_ 0x80 (if c.toNat=0xEF∧a=63 then 0xBD else 0xBF)) fun (b:Nat)=>gives ((c.toNat-0xE0) * 4096+a * 64+b))
   else behind (andThen (tail_ (if c.toNat=0xF0 then 0x90 else 0x80) (if c.toNat=0xF4 then 0x8F else 0xBF)) fun (a:Nat)=>andThen (tail_ 0x80 0xBF) fun (b:Nat)=>andThen (tail_ 0x80 (if a % 16=15∧b=63 then 0xBD else 0xBF)) fun (d:Nat)=>gives ((c.toNat-0xF0) * 262144+a * 4096+b * 64+d))) p (c::b):=by
 unfold letter_ byNext
 show (if startsLetter c=false then stray else _) p (c::b)=_
 rw [if_neg (by rw [hs];decide)]
theorem starts_hi' {n:Nat} (h1:0xC2≤n) (h2:n≤0xF4):startsLetter (UInt8.ofNat n)=true:=by
 unfold startsLetter
 rw [u8_small (by lia),if_neg (by lia)]
 simp;lia
structure LetB (n:Nat):Prop where
 lo:33≤n
 mid:n<127∨159<n
 top:n<0x110000
 half:n<0xD800∨0xE000≤n
 low:n % 65536<0xFFFE
theorem letB {n:Nat} (h:isLetter n=true):LetB n:=by
 unfold isLetter isChar at h
 simp at h
 obtain ⟨h1,h2,h3,h4,h5⟩:=h
 exact ⟨h2,by lia,by lia,by lia,h4⟩
theorem letter_read {n:Nat} (h:isLetter n=true) (p:Nat) (b:Bytes):letter_ p (charOf n++b)=.ok (n,p+(charOf n).length,b):=by
 have L:=letB h
 obtain ⟨l1,l2,l3,l4,l5⟩:=L
 by_cases h1:n<0x80
 ·rw [char1b h1]
  show letter_ p (UInt8.ofNat n::b)=_
  have e:=u8_small (n:=n) (by lia)
  rw [letter_at (by unfold startsLetter;rw [e,if_pos h1];exact h),e,if_pos h1]
  rfl
 ·by_cases h2:n<0x800
  ·rw [char2b (by lia) h2]
   show letter_ p (UInt8.ofNat (0xC0+n / 64)::UInt8.ofNat (0x80+n % 64)::b)=_
   have e:=u8_small (n:=0xC0+n / 64) (by lia)
   rw [letter_at (starts_hi' (by lia) (by lia)),e,if_neg (by lia),if_pos (by lia)]
   unfold behind
   show andThen _ _ (p+1) (UInt8.ofNat (128+n % 64)::b)=_
   rw [then_ok (tail_read (by split <;> lia) (by lia) (by lia))]
   show Except.ok ((0xC0+n / 64-0xC0) * 64+n % 64,p+1+1,b)=_
   rw [show (0xC0+n / 64-0xC0) * 64+n % 64=n by lia]
   rfl
  ·by_cases h3:n<0x10000
   ·rw [char3b (by lia) h3]
    show letter_ p (UInt8.ofNat (0xE0+n / 4096)::UInt8.ofNat (0x80+n / 64 % 64)::UInt8.ofNat (0x80+n % 64)::b)=_
    have e:=u8_small (n:=0xE0+n / 4096) (by lia)
    rw [letter_at (starts_hi' (by lia) (by lia)),e,if_neg (by lia),if_neg (by lia),if_pos (by lia)]
    unfold behind
    show andThen _ _ (p+1) (UInt8.ofNat (128+n / 64 % 64)::UInt8.ofNat (128+n % 64)::b)=_
    rw [then_ok (tail_read (by split <;> lia) (by split <;> lia) (by lia)),then_ok (tail_read (by lia) (by split <;> lia) (by lia))]
    show Except.ok ((0xE0+n / 4096-0xE0) * 4096+n / 64 % 64 * 64+n % 64,p+1+1+1,b)=_
    rw [show (0xE0+n / 4096-0xE0) * 4096+n / 64 % 64 * 64+n % 64=n by lia]
    rfl
   ·rw [char4b (by lia)]
    show letter_ p (UInt8.ofNat (0xF0+n / 262144)::UInt8.ofNat (0x80+n / 4096 % 64)::UInt8.ofNat (0x80+n / 64 % 64)::UInt8.ofNat (0x80+n % 64)::b)=_
    have e:=u8_small (n:=0xF0+n / 262144) (by lia)
    rw [letter_at (starts_hi' (by lia) (by lia)),e,if_neg (by lia),if_neg (by lia),if_neg (by lia)]
    unfold behind
    show andThen _ _ (p+1) (UInt8.ofNat (128+n / 4096 % 64)::UInt8.ofNat (128+n / 64 % 64)::UInt8.ofNat (128+n % 64)::b)=_
    rw [then_ok (tail_read (by split <;> lia) (by split <;> lia) (by lia)),then_ok (tail_read (by lia) (by lia) (by lia)),then_ok (tail_read (by lia) (by split <;> lia) (by lia))]
    show Except.ok ((0xF0+n / 262144-0xF0) * 262144+n / 4096 % 64 * 4096+n / 64 % 64 * 64+n % 64,p+1+1+1+1,b)=_
    rw [show (0xF0+n / 262144-0xF0) * 262144+n / 4096 % 64 * 4096+n / 64 % 64 * 64+n % 64=n by lia]
    rfl
end Vp
end
section
namespace Vp
open Vh VhPage
theorem char_bytes {n:Nat} (h:isLetter n=true):∀ x∈charOf n,(x=UInt8.ofNat n∧n<128)∨128≤x.toNat:=by
 obtain ⟨l1,l2,l3,l4,l5⟩:=letB h
 intro x hx
 by_cases h1:n<0x80
 ·rw [char1b h1] at hx
  exact .inl ⟨by simpa using hx,h1⟩
 ·right
  by_cases h2:n<0x800
  ·rw [char2b (by lia) h2] at hx
   simp only [List.mem_cons,List.not_mem_nil,or_false] at hx
   rcases hx with rfl | rfl <;> rw [u8_small (by lia)] <;> lia
  ·by_cases h3:n<0x10000
   ·rw [char3b (by lia) h3] at hx
    simp only [List.mem_cons,List.not_mem_nil,or_false] at hx
    rcases hx with rfl | rfl | rfl <;> rw [u8_small (by lia)] <;> lia
   ·rw [char4b (by lia)] at hx
    simp only [List.mem_cons,List.not_mem_nil,or_false] at hx
    rcases hx with rfl | rfl | rfl | rfl <;> rw [u8_small (by lia)] <;> lia
theorem char_free {n:Nat} (h:isLetter n=true) {c:UInt8} (hc:c.toNat<33∨MARKS.contains c.toNat=true) (h128:c.toNat<128):c ∉ charOf n:=by
 intro hx
 rcases char_bytes h c hx with ⟨e,hn⟩ | z
 ·have e2:c.toNat=n:=by rw [e,u8_small (by lia)]
  rcases hc with hc | hc
  ·have:=(letB h).lo;lia
  ·rw [e2] at hc
   unfold isLetter at h
   rw [hc] at h
   simp at h
 ·lia
theorem first_byte {n:Nat} (h:isLetter n=true):∃ c r,charOf n=c::r∧startsLetter c=true∧MARKBYTES.contains c=false:=by
 have key:∀ c r,charOf n=c::r→startsLetter c=true→∃ c r,charOf n=c::r∧startsLetter c=true∧MARKBYTES.contains c=false:=fun c r e hs=>by
  refine ⟨c,r,e,hs,?_⟩
  cases z:MARKBYTES.contains c with
  | false=>rfl
  | true =>
   exfalso
   have hm:c∈MARKBYTES:=by simpa using z
   have h1:∀ c∈MARKBYTES,c.toNat<128∧MARKS.contains c.toNat=true:=by decide
   exact char_free h (.inr (h1 c hm).2) (h1 c hm).1 (by rw [e];exact List.mem_cons_self)
 obtain ⟨l1,l2,l3,l4,l5⟩:=letB h
 by_cases h1:n<0x80
 ·exact key _ _ (char1b h1) (by unfold startsLetter;rw [u8_small (by lia),if_pos h1];exact h)
 ·by_cases h2:n<0x800
  ·exact key _ _ (char2b (by lia) h2) (starts_hi' (by lia) (by lia))
  ·by_cases h3:n<0x10000
   ·exact key _ _ (char3b (by lia) h3) (starts_hi' (by lia) (by lia))
   ·exact key _ _ (char4b (by lia)) (starts_hi' (by lia) (by lia))
def StopAt (mk:List UInt8) (b:Bytes):Prop:=∀ x,b.head?=some x→mk.contains x=false∧startsLetter x=false
theorem chars_read {mk:List UInt8} (hm:∀ c∈mk,c∈MARKBYTES):∀ (l:Letters) (k p:Nat) (b:Bytes),(∀ c∈l,isLetter c=true)→l.length≤k→(l.length=k∨StopAt mk b)→chars_ mk k p (spelt l++b)=.ok (l,p+(spelt l).length,b)
 | [],0,p,b,_,_,_=>rfl
 | [],k+1,p,b,_,_,hs=>by
  have hs:StopAt mk b:=hs.resolve_left (by simp)
  show chars_ mk (k+1) p b=_
  unfold chars_ byNext
  cases hc:b.head? with
  | none=>rfl
  | some x =>
   obtain ⟨h1,h2⟩:=hs x hc
   show (if mk.contains x=true then _ else if startsLetter x=true then _ else gives []) p b=_
   rw [if_neg (by rw [h1];decide),if_neg (by rw [h2];decide)]
   rfl
 | n::l,0,p,b,_,hk,_=>by simp at hk
 | n::l,k+1,p,b,hl,hk,hs=>by
  have hn:=hl n List.mem_cons_self
  obtain ⟨c,r,e,h1,h2⟩:=first_byte hn
  have e2:spelt (n::l)++b=charOf n++(spelt l++b):=by show (charOf n++spelt l)++b=_;rw [List.append_assoc]
  have hmk:mk.contains c=false:=by
   cases z:mk.contains c with
   | false=>rfl
   | true =>
    have h3:=hm c (by simpa using z)
    have h4:MARKBYTES.contains c=true:=by simpa using h3
    rw [h2] at h4;cases h4
  rw [e2]
  unfold chars_ byNext
  have e3:(charOf n++(spelt l++b)).head?=some c:=by rw [e];rfl
  rw [e3]
  show (if mk.contains c=true then _ else if startsLetter c=true then (andThen letter_ fun (n:Nat)=>andThen (chars_ mk k) fun (r:Letters)=>gives (n::r)) else gives []) p _=_
  rw [if_neg (by rw [hmk];decide),if_pos h1,then_ok (letter_read hn p (spelt l++b)),then_ok (chars_read hm l k _ b (fun c hc=>hl c (List.mem_cons_of_mem _ hc)) (by simpa using hk) (hs.imp (fun z=>by simpa using z) id))]
  show Except.ok (n::l,p+(charOf n).length+(spelt l).length,b)=Except.ok (n::l,p+(charOf n++spelt l).length,b)
  rw [List.length_append,Nat.add_assoc]
theorem spelt_len_ge:∀ l:Letters,(∀ c∈l,isLetter c=true)→l.length≤(spelt l).length
 | [],_=>Nat.zero_le _
 | n::l,h=>by
  obtain ⟨c,r,e,_,_⟩:=first_byte (h n List.mem_cons_self)
  show l.length+1≤(charOf n++spelt l).length
  rw [e,List.length_append,List.length_cons]
  have:=spelt_len_ge l fun c hc=>h c (List.mem_cons_of_mem _ hc)
  lia
theorem charsOf_spelt {l:Letters} (h:∀ c∈l,isLetter c=true):charsOf (spelt l)=l:=by
 unfold charsOf readAll
 have e:=chars_read (mk:=MARKBYTES) (fun c hc=>hc) l (spelt l).length 0 [] h (spelt_len_ge l h) (.inr (fun x hx=>by cases hx))
 rw [List.append_nil] at e
 rw [then_ok e]
 rfl
end Vp
end
section
namespace Vp
open Vh VhPage
theorem parted_end {c:UInt8}:∀ (x w:Bytes),c ∉ x→parted c w x=[w.reverse++x]
 | [],w,_=>by simp [parted]
 | y::x,w,h=>by
  have hy:¬ y=c:=fun z=>h (by rw [z];exact List.mem_cons_self)
  rw [parted,if_neg hy,parted_end x (y::w) fun z=>h (List.mem_cons_of_mem _ z)]
  simp
theorem parted_at {c:UInt8} (r:Bytes):∀ (x w:Bytes),c ∉ x→parted c w (x++c::r)=(w.reverse++x)::parted c [] r
 | [],w,_=>by simp [parted]
 | y::x,w,h=>by
  have hy:¬ y=c:=fun z=>h (by rw [z];exact List.mem_cons_self)
  show parted c w (y::(x++c::r))=_
  rw [parted,if_neg hy,parted_at r x (y::w) fun z=>h (List.mem_cons_of_mem _ z)]
  simp
theorem parts_spaced:∀ (xs:List Bytes),xs≠[]→(∀ x∈xs,(32:UInt8) ∉ x)→partsAt 32 (spaced xs)=xs
 | [],h,_=>absurd rfl h
 | [x],_,h=>by show parted 32 [] x=[x];rw [parted_end x [] (h x List.mem_cons_self)];rfl
 | x::y::r,_,h=>by
  show parted 32 [] (x++32::spaced (y::r))=_
  rw [parted_at _ x [] (h x List.mem_cons_self)]
  have e:=parts_spaced (y::r) (by simp) fun z hz=>h z (List.mem_cons_of_mem _ hz)
  unfold partsAt at e
  rw [e];rfl
theorem parts_lines:∀ (xs:List Bytes),(∀ x∈xs,(10:UInt8) ∉ x)→partsAt 10 (xs.flatMap ended)=xs++[[]]
 | [],_=>rfl
 | x::r,h=>by
  have e0:(x::r).flatMap ended=x++10::r.flatMap ended:=by
   rw [List.flatMap_cons];unfold ended;simp
  have e:=parts_lines r fun z hz=>h z (List.mem_cons_of_mem _ hz)
  unfold partsAt at e ⊢
  rw [e0,parted_at _ x [] (h x List.mem_cons_self),e];rfl
theorem spelt_free {l:Letters} (h:∀ c∈l,isLetter c=true) {c:UInt8} (hc:c.toNat<33∨MARKS.contains c.toNat=true) (h128:c.toNat<128):c ∉ spelt l:=by
 intro z
 obtain ⟨n,hn,hz⟩:=List.mem_flatMap.mp z
 exact char_free (h n hn) hc h128 hz
theorem spaced_free {c:UInt8} (hc:c≠32):∀ (xs:List Bytes),(∀ x∈xs,c ∉ x)→c ∉ spaced xs
 | [],_=>by simp [spaced]
 | [x],h=>h x List.mem_cons_self
 | x::y::r,h=>by
  show c ∉ x++32::spaced (y::r)
  rw [List.mem_append,List.mem_cons]
  rintro (z | z | z)
  ·exact h x List.mem_cons_self z
  ·exact hc z
  ·exact spaced_free hc (y::r) (fun w hw=>h w (List.mem_cons_of_mem _ hw)) z
theorem cellOf_spelled {ws:List Letters} (h:∀ w∈ws,w≠[]∧∀ c∈w,isLetter c=true):cellOf (spelled ws)=ws:=by
 cases ws with
 | nil=>rfl
 | cons w r =>
  have ne:(spelled (w::r)).isEmpty=false:=by
   obtain ⟨h1,h2⟩:=h w List.mem_cons_self
   have hl:=spelt_len_ge w h2
   have hp:0<w.length:=by cases w with | nil=>exact absurd rfl h1 | cons _ _=>simp
   have hs:spelt w≠[]:=fun z=>by rw [z] at hl;exact absurd hl (Nat.not_le.mpr hp)
   cases r with
   | nil =>
    show (spelt w).isEmpty=false
    cases e:spelt w with
    | nil=>exact absurd e hs
    | cons _ _=>rfl
   | cons y r =>
    show (spelt w++32::spaced (spelt y::r.map spelt)).isEmpty=false
    cases e:spelt w with
    | nil=>exact absurd e hs
    | cons _ _=>rfl
  unfold cellOf
  rw [if_neg (by rw [ne];decide)]
  unfold spelled
  rw [parts_spaced _ (by simp) (fun x hx=>by
   obtain ⟨y,hy,rfl⟩:=List.mem_map.mp hx
   exact spelt_free (h y hy).2 (.inl (by decide)) (by decide)),List.map_map]
  calc List.map (charsOf ∘ spelt) (w::r)=List.map id (w::r):=List.map_congr_left fun y hy=>charsOf_spelt (h y hy).2
   _=w::r:=by simp
end Vp
end
section
namespace Vp
open Vh VhPage
theorem isLetter_big {n:Nat} (h1:160≤n) (h2:n<0x110000) (h3:n<0xD800∨0xE000≤n) (h4:n % 65536<0xFFFE):isLetter n=true:=by
 have hm:MARKS.contains n=false:=by
  cases z:MARKS.contains n with
  | false=>rfl
  | true =>
   have h5:∀ y∈MARKS,y<128:=by decide
   have:=h5 n (by simpa using z)
   lia
 unfold isLetter isChar
 rw [hm]
 simp
 lia
theorem Pd.ofPr {α:Type}{r:Rd α}{pr:α→Bytes}{ok:α→Prop} (h:Pr r pr ok):Pd r ok:=fun p b x p' b' e=>(h p b x p' b' e).2.2
theorem Pd.letterL:Pd letter_ (fun n=>isLetter n=true):=by
 refine Pd.next fun c=>?_
 cases c with
 | none=>exact Pd.str
 | some x =>
  refine Pd.ite (fun _=>Pd.str) fun hs=>?_
  have hs:startsLetter x=true:=by simpa using hs
  refine Pd.ite (fun h=>Pd.beh (Pd.giv ?_)) fun h80=>?_
  ·unfold startsLetter at hs
   rw [if_pos h] at hs
   exact hs
  obtain ⟨r1,r2⟩:=starts_range hs h80
  refine Pd.ite (fun h=>Pd.beh (Pd.thn (Pd.ofPr (Pr.tail (by split <;> lia))) fun a ha=>Pd.giv ?_)) fun hE=>Pd.ite (fun h=>Pd.beh (Pd.thn (Pd.ofPr (Pr.tail (by split <;> lia))) fun a ha=>Pd.thn (Pd.ofPr (Pr.tail (by lia))) fun b hb=>Pd.giv ?_)) fun hF=>Pd.beh (Pd.thn (Pd.ofPr (Pr.tail (by split <;> lia))) fun a ha=>Pd.thn (Pd.ofPr (Pr.tail (by lia))) fun b hb=>Pd.thn (Pd.ofPr (Pr.tail (by lia))) fun d hd=>Pd.giv ?_)
  ·obtain ⟨a1,a2,_⟩:=ha
   refine isLetter_big ?_ (by lia) (.inl (by lia)) (by lia)
   split at a1 <;> lia
  ·obtain ⟨a1,a2,_⟩:=ha
   obtain ⟨b1,b2,_⟩:=hb
   refine isLetter_big ?_ ?_ ?_ ?_
   ·split at a1 <;> lia
   ·split at a2 <;> split at b2 <;> lia
   ·split at a2 <;> split at b2 <;> lia
   ·split at a2 <;> split at b2 <;> lia
  ·obtain ⟨a1,a2,_⟩:=ha
   obtain ⟨b1,b2,_⟩:=hb
   obtain ⟨d1,d2,_⟩:=hd
   refine isLetter_big ?_ ?_ ?_ ?_
   ·split at a1 <;> lia
   ·split at a2 <;> split at d2 <;> lia
   ·split at a1 <;> lia
   ·split at a2 <;> split at d2 <;> lia
theorem Pd.charsL:∀ k:Nat,Pd (chars_ [] k) (fun l=>l.length≤k∧∀ c∈l,isLetter c=true)
 | 0=>Pd.giv ⟨Nat.le_refl _,fun c hc=>by simp at hc⟩
 | k+1=>by
  unfold chars_
  refine Pd.next fun c=>?_
  cases c with
  | none=>exact Pd.giv ⟨Nat.zero_le _,fun c hc=>by simp at hc⟩
  | some x =>
   exact Pd.ite (fun h=>absurd h (by simp)) fun _=>Pd.ite (fun _=>Pd.thn Pd.letterL fun n hn=>Pd.thn (Pd.charsL k) fun l hl=>Pd.giv ⟨Nat.succ_le_succ hl.1,fun c hc=>(List.mem_cons.mp hc).elim (fun z=>by rw [z];exact hn) (hl.2 c)⟩) fun _=>Pd.giv ⟨Nat.zero_le _,fun c hc=>by simp at hc⟩
theorem Pd.word:Pd (someLetters_ 64) (fun l=>isWord l=true):=by
 rw [someLetters_chars]
 refine Pd.thn (Pd.charsL 64) fun l hl=>Pd.ite (fun _=>Pd.str) fun z=>Pd.giv ?_
 unfold isWord inside
 have h1:1≤l.length:=by cases l with | nil=>exact absurd rfl z | cons _ _=>simp
 simp only [Bool.and_eq_true,decide_eq_true_eq,List.all_eq_true]
 exact ⟨⟨h1,hl.1⟩,hl.2⟩
end Vp
end
section
namespace Vp
open Vh VhPage
def listed_:Nat→Rd (List (Letters×Option Letters))
 | 0=>gives []
 | k+1=>byNext fun (c:Option UInt8)=>if c=some 62 then behind (andThen (row_ (someLetters_ 64) 2) fun (l:List Letters)=>andThen (listed_ k) fun (r:List (Letters×Option Letters))=>gives ((l.headD [],(l.drop 1).head?)::r)) else gives []
def list_:Rd Words:=andThen (byte_ 94) fun (_:Unit)=>andThen (num 0 8) fun (b:Nat)=>andThen (then_ 0 8) fun (f:Nat)=>andThen (byte_ 10) fun (_:Unit)=>andThen (listed_ 8192) fun (l:List (Letters×Option Letters))=>end_ (⟨b,f,l⟩:Words)
def parseL (b:Bytes):Except Nat Words:=readAll list_ b
def lineT (y:Letters×Option Letters):Bytes:=ended (62::spelled (y.1::y.2.toList))
def LnOk (y:Letters×Option Letters):Prop:=isWord y.1=true∧∀ f,y.2=some f→isWord f=true
theorem Pr.and {α:Type}{r:Rd α}{pr:α→Bytes}{ok ok2:α→Prop} (h:Pr r pr ok) (h2:Pd r ok2):Pr r pr (fun x=>ok x∧ok2 x):=fun p b x p' b' e=>⟨(h p b x p' b' e).1,(h p b x p' b' e).2.1,(h p b x p' b' e).2.2,h2 p b x p' b' e⟩
theorem Pr.mono {α:Type}{r:Rd α}{pr:α→Bytes}{ok ok2:α→Prop} (h:Pr r pr ok) (m:∀ x,ok x→ok2 x):Pr r pr ok2:=fun p b x p' b' e=>⟨(h p b x p' b' e).1,(h p b x p' b' e).2.1,m x (h p b x p' b' e).2.2⟩
theorem Pr.word:Pr (someLetters_ 64) spelt (fun l=>isWord l=true):=((Pr.lett 64).and Pd.word).mono fun _ h=>h.2
theorem two_of {q:List Letters} (h1:q≠[]) (h2:q.length≤2):q.headD []::((q.drop 1).head?).toList=q:=by
 match q,h1,h2 with
 | [x],_,_=>rfl
 | [x,y],_,_=>rfl
theorem Pr.listed:∀ k:Nat,Pr (listed_ k) (fun l=>l.flatMap lineT) (fun l=>l.length≤k∧∀ y∈l,LnOk y)
 | 0=>by
  intro p b x p' b' h
  obtain ⟨rfl,rfl,rfl⟩:=ok_inj (x:=([]:List (Letters×Option Letters))) (p:=p) (b:=b) h
  exact ⟨rfl,rfl,Nat.le_refl _,fun c hc=>by simp at hc⟩
 | k+1=>by
  intro p b x p' b' h
  have h:(if b.head?=Option.some 62 then behind (andThen (row_ (someLetters_ 64) 2) fun (l:List Letters)=>andThen (listed_ k) fun (r:List (Letters×Option Letters))=>Vh.gives ((l.headD [],(l.drop 1).head?)::r)) else Vh.gives []) p b=.ok (x,p',b'):=h
  by_cases z:b.head?=Option.some 62
  ·rw [if_pos z] at h
   have hb:=head_cons z
   obtain ⟨q,b1,e1,⟨o1,o2,o3⟩,h⟩:=Pr.bind (Pr.row Pr.word 2) (show andThen _ _ (p+1) (b.drop 1)=_ from h)
   obtain ⟨l,b2,e2,⟨q1,q2⟩,h⟩:=Pr.bind (Pr.listed k) h
   obtain ⟨rfl,rfl,rfl⟩:=ok_inj h
   have e3:lineT (q.headD [],(q.drop 1).head?)=62::ended (spelled q):=by
    unfold lineT;rw [two_of o1 o2];rfl
   refine ⟨?_,?_,?_,?_⟩
   ·rw [hb,e1,e2];show _=List.flatMap lineT (_::l)++b2;rw [List.flatMap_cons,e3];simp
   ·show _=p+(List.flatMap lineT (_::l)).length;rw [List.flatMap_cons,e3];simp;lia
   ·rw [List.length_cons];lia
   ·intro y hy
    rcases List.mem_cons.mp hy with w | w
    ·rw [w]
     match q,o1,o2,o3 with
     | [x],_,_,o3=>exact ⟨o3 x List.mem_cons_self,fun f hf=>by cases hf⟩
     | [x,y],_,_,o3=>exact ⟨o3 x List.mem_cons_self,fun f hf=>by cases hf;exact o3 y (by simp)⟩
    ·exact q2 y w
  ·rw [if_neg z] at h
   obtain ⟨rfl,rfl,rfl⟩:=ok_inj h
   exact ⟨rfl,rfl,Nat.zero_le _,fun c hc=>by simp at hc⟩
theorem list_back {bs:Bytes}{x:Words} (h:parseL bs=.ok x):x.text=bs∧x.ok=true:=by
 unfold parseL readAll at h
 split at h
 ·cases h
 ·rename_i y hy
  obtain ⟨z,p',b'⟩:=y
  unfold list_ at hy
  obtain ⟨_,b0,e0,_,h1⟩:=Pr.bind (Pr.byte 94) hy
  obtain ⟨n1,b1,e1,o1,h2⟩:=Pr.bind (Pr.num 0 8) h1
  obtain ⟨n2,b2,e2,o2,h3⟩:=Pr.bind (Pr.then_ 0 8) h2
  obtain ⟨_,b3,e3,_,h4⟩:=Pr.bind (Pr.byte 10) h3
  obtain ⟨l,b4,e4,⟨o3,o4⟩,h5⟩:=Pr.bind (Pr.listed 8192) h4
  have h6:∀ P,(if b4.head?.isNone=true then Vh.gives (⟨n1,n2,l⟩:Words) else stray) P b4=Except.ok (z,p',b')→b4=[]∧z=⟨n1,n2,l⟩:=fun P h5=>by
   by_cases w:b4.head?.isNone=true
   ·rw [if_pos w] at h5
    obtain ⟨rfl,_,_⟩:=ok_inj h5
    refine ⟨?_,rfl⟩
    cases b4 with
    | nil=>rfl
    | cons _ _=>simp at w
   ·rw [if_neg w] at h5;cases h5
  obtain ⟨hb4,hz⟩:=h6 _ h5
  cases h
  subst hz
  constructor
  ·rw [e0,e1,e2,e3,e4,hb4]
   show ended (94::numbers [n1,n2])++l.flatMap lineT=_
   simp [ended,numbers,spaced]
  ·unfold Words.ok
   simp only [Bool.and_eq_true,decide_eq_true_eq,List.all_eq_true]
   refine ⟨o1.2,o2.2,o3,fun y hy=>⟨(o4 y hy).1,?_⟩⟩
   cases e:y.2 with
   | none=>rfl
   | some f=>exact (o4 y hy).2 f e
end Vp
end
section
namespace Vp
open Vh VhPage
theorem word_ok {l:Letters} (h:isWord l=true):l≠[]∧l.length≤64∧∀ c∈l,isLetter c=true:=by
 unfold isWord inside at h
 simp only [Bool.and_eq_true,decide_eq_true_eq,List.all_eq_true] at h
 exact ⟨fun z=>by rw [z] at h;exact absurd h.1.1 (by simp),h.1.2,h.2⟩
theorem word_read {w:Letters} (h:isWord w=true) {p:Nat}{b:Bytes} (hs:StopAt [] b):someLetters_ 64 p (spelt w++b)=.ok (w,p+(spelt w).length,b):=by
 obtain ⟨h1,h2,h3⟩:=word_ok h
 rw [someLetters_chars]
 unfold someChars_
 rw [then_ok (chars_read (mk:=[]) (fun c hc=>by cases hc) w 64 p b h3 h2 (.inr hs))]
 have:w.isEmpty=false:=by cases w with | nil=>exact absurd rfl h1 | cons _ _=>rfl
 show (if w.isEmpty=true then stray else gives w) _ _=_
 rw [if_neg (by rw [this];decide)]
 rfl
theorem stop_low {c:UInt8}{b:Bytes} (h:c.toNat<33):StopAt [] (c::b):=fun x hx=>by
 cases hx
 refine ⟨rfl,?_⟩
 unfold startsLetter
 rw [if_pos (by lia)]
 unfold isLetter
 simp;lia
theorem row_read:∀ (q:List Letters) (k p:Nat) (b:Bytes),q≠[]→q.length≤k→(∀ w∈q,isWord w=true)→row_ (someLetters_ 64) k p (ended (spelled q)++b)=.ok (q,p+(ended (spelled q)).length,b)
 | [],_,_,_,h,_,_=>absurd rfl h
 | _::_,0,_,_,_,h,_=>by simp at h
 | [w],k+1,p,b,_,_,hw=>by
  have e:ended (spelled [w])++b=spelt w++(10::b):=by show (spelt w++[10])++b=_;simp
  rw [e,row_,then_ok (word_read (hw w List.mem_cons_self) (stop_low (by decide)))]
  show Except.ok ([w],p+(spelt w).length+1,b)=Except.ok ([w],p+(spelt w++[10]).length,b)
  rw [List.length_append];rfl
 | w::y::r,k+1,p,b,_,hk,hw=>by
  have e:ended (spelled (w::y::r))++b=spelt w++(32::(ended (spelled (y::r))++b)):=by show ((spelt w++32::spelled (y::r))++[10])++b=_;simp [ended]
  have hk0:¬ k=0:=by simp at hk;lia
  have ih:=row_read (y::r) k (p+(spelt w).length+1) b (by simp) (by simp at hk ⊢;lia) fun z hz=>hw z (List.mem_cons_of_mem _ hz)
  rw [e,row_,then_ok (word_read (hw w List.mem_cons_self) (stop_low (by decide)))]
  show (if (some (32:UInt8))=some 10 then behind (gives [w]) else if k=0 then stray else andThen (byte_ 32) fun (_:Unit)=>andThen (row_ (someLetters_ 64) k) fun (r:List Letters)=>gives (w::r)) _ _=_
  rw [if_neg (by decide),if_neg hk0]
  have e32:byte_ 32 (p+(spelt w).length) (32::(ended (spelled (y::r))++b))=.ok ((),p+(spelt w).length+1,ended (spelled (y::r))++b):=rfl
  rw [then_ok e32,then_ok ih]
  show Except.ok (w::y::r,_,b)=Except.ok (w::y::r,_,b)
  congr 3
  show _=p+((spelt w++32::spelled (y::r))++[10]).length
  simp [ended];lia
theorem listed_read:∀ (l:List (Letters×Option Letters)) (k p:Nat),l.length≤k→(∀ y∈l,LnOk y)→listed_ k p (l.flatMap lineT)=.ok (l,p+(l.flatMap lineT).length,[])
 | [],0,_,_,_=>rfl
 | [],_+1,_,_,_=>rfl
 | _::_,0,_,h,_=>by simp at h
 | y::l,k+1,p,hk,hl=>by
  obtain ⟨o1,o2⟩:=hl y List.mem_cons_self
  have hall:∀ w∈y.1::y.2.toList,isWord w=true:=fun w hw=>by
   rcases List.mem_cons.mp hw with z | z
   ·rw [z];exact o1
   ·exact o2 w (by simpa using z)
  have hlen:(y.1::y.2.toList).length≤2:=by cases y.2 <;> simp
  have e:(y::l).flatMap lineT=62::(ended (spelled (y.1::y.2.toList))++l.flatMap lineT):=by rw [List.flatMap_cons];unfold lineT ended;simp
  have ih:=listed_read l k (p+1+(ended (spelled (y.1::y.2.toList))).length) (by simpa using hk) fun z hz=>hl z (List.mem_cons_of_mem _ hz)
  rw [e]
  unfold listed_ byNext
  show (if (some (62:UInt8))=some 62 then behind (andThen (row_ (someLetters_ 64) 2) fun (l:List Letters)=>andThen (listed_ k) fun (r:List (Letters×Option Letters))=>gives ((l.headD [],(l.drop 1).head?)::r)) else gives []) p _=_
  rw [if_pos rfl]
  unfold behind
  show andThen _ _ (p+1) (ended (spelled (y.1::y.2.toList))++l.flatMap lineT)=_
  rw [then_ok (row_read _ 2 _ _ (by simp) hlen hall),then_ok ih]
  have ey:((y.1::y.2.toList).headD [],((y.1::y.2.toList).drop 1).head?)=y:=by
   obtain ⟨y1,y2⟩:=y
   cases y2 <;> rfl
  show Except.ok (((y.1::y.2.toList).headD [],((y.1::y.2.toList).drop 1).head?)::l,_,_)=_
  rw [ey]
  congr 3
  simp;lia
theorem num8_read {d:Nat} (h:d≤8) {r:Bytes} (hr:∀ c,r.head?=some c→isDigit c=false) (p:Nat):num 0 8 p (decimal d++r)=.ok (d,p+(decimal d).length,r):=by
 rw [dec_one (by lia)]
 have hd:isDigit (UInt8.ofNat (48+d))=true∧(UInt8.ofNat (48+d)).toNat=48+d:=by
  have:d=0∨d=1∨d=2∨d=3∨d=4∨d=5∨d=6∨d=7∨d=8:=by lia
  rcases this with rfl | rfl | rfl | rfl | rfl | rfl | rfl | rfl | rfl <;> decide
 have hl:leadsTo 0 8 d=true:=by
  have:d=0∨d=1∨d=2∨d=3∨d=4∨d=5∨d=6∨d=7∨d=8:=by lia
  rcases this with rfl | rfl | rfl | rfl | rfl | rfl | rfl | rfl | rfl <;> decide
 unfold num
 have s1:Vh.digits 0 8 20 none p (UInt8.ofNat (48+d)::r)=Vh.digits 0 8 19 (some d) (p+1) r:=by
  conv=>lhs;rw [Vh.digits]
  unfold byNext
  simp only [List.head?_cons,Option.bind_some,hd.1,hd.2,Bool.true_eq_false,false_or,reduceCtorEq,if_false,Option.getD_none,Nat.mul_zero,Nat.zero_add,Nat.add_sub_cancel_left,hl,if_true]
  rfl
 have s2:Vh.digits 0 8 19 (some d) (p+1) r=.ok (d,p+1,r):=by
  rw [Vh.digits]
  unfold byNext
  cases hc:r.head? with
  | none =>
   simp only [Option.bind_none,Nat.zero_le,true_and,h,if_true]
   rfl
  | some c =>
   have hcd:=hr c hc
   simp only [Option.bind_some,hcd,true_or,if_true,Nat.zero_le,true_and,h]
   rfl
 show Vh.digits 0 8 20 none p (UInt8.ofNat (48+d)::r)=_
 rw [s1,s2];rfl
theorem words_ok {x:Words} (h:x.ok=true):x.before≤8∧x.behind≤8∧x.list.length≤8192∧∀ y∈x.list,LnOk y:=by
 unfold Words.ok at h
 simp only [Bool.and_eq_true,decide_eq_true_eq,List.all_eq_true] at h
 refine ⟨h.1,h.2.1,h.2.2.1,fun y hy=>⟨(h.2.2.2 y hy).1,fun f hf=>?_⟩⟩
 have:=(h.2.2.2 y hy).2
 rw [hf] at this
 exact this
theorem list_read {x:Words} (h:x.ok=true):parseL x.text=.ok x:=by
 obtain ⟨h1,h2,h3,h4⟩:=words_ok h
 have e:x.text=94::(decimal x.before++(32::(decimal x.behind++(10::x.list.flatMap lineT)))):=by
  show ended (94::numbers [x.before,x.behind])++x.list.flatMap lineT=_
  simp [ended,numbers,spaced]
 have b94:byte_ 94 0 x.text=.ok ((),1,decimal x.before++(32::(decimal x.behind++(10::x.list.flatMap lineT)))):=by rw [e];rfl
 have t2:∀ p,then_ 0 8 p (32::(decimal x.behind++(10::x.list.flatMap lineT)))=.ok (x.behind,p+1+(decimal x.behind).length,10::x.list.flatMap lineT):=fun p=>by
  unfold VhPage.then_
  have b32:byte_ 32 p (32::(decimal x.behind++(10::x.list.flatMap lineT)))=.ok ((),p+1,decimal x.behind++(10::x.list.flatMap lineT)):=rfl
  rw [then_ok b32]
  exact num8_read h2 (fun c hc=>by cases hc;decide) _
 have b10:∀ p,byte_ 10 p (10::x.list.flatMap lineT)=.ok ((),p+1,x.list.flatMap lineT):=fun p=>rfl
 unfold parseL readAll list_
 rw [then_ok b94,then_ok (num8_read h1 (fun c hc=>by cases hc;decide) _),then_ok (t2 _),then_ok (b10 _),then_ok (listed_read x.list 8192 _ h3 h4)]
 rfl
end Vp
end
section
namespace Vp
open Vh VhPage
def lineB (y:Letters×Option Letters):Bytes:=62::spelled (y.1::y.2.toList)
theorem small_digits {d:Nat} (h:d≤8) {c:UInt8} (hc:c.toNat<48):c ∉ decimal d:=by
 rw [dec_one (by lia)]
 intro z
 simp only [List.mem_cons,List.not_mem_nil,or_false] at z
 rw [z,u8_small (by lia)] at hc
 lia
theorem lnok_all {y:Letters×Option Letters} (h:LnOk y):∀ w∈y.1::y.2.toList,isWord w=true:=fun w hw=>by
 rcases List.mem_cons.mp hw with z | z
 ·rw [z];exact h.1
 ·exact h.2 w (by simpa using z)
theorem split_text {x:Words} (h:x.ok=true):partsAt 10 x.text=(94::numbers [x.before,x.behind])::(x.list.map lineB++[[]]):=by
 obtain ⟨h1,h2,h3,h4⟩:=words_ok h
 have e:x.text=((94::numbers [x.before,x.behind])::x.list.map lineB).flatMap ended:=by
  rw [List.flatMap_cons,List.flatMap_map];rfl
 rw [e,parts_lines _ ?_]
 ·rfl
 ·intro z hz
  rcases List.mem_cons.mp hz with z1 | z1
  ·rw [z1]
   show (10:UInt8) ∉ 94::(decimal x.before++32::decimal x.behind)
   rw [List.mem_cons,List.mem_append,List.mem_cons]
   rintro (w | w | w | w)
   ·exact absurd w (by decide)
   ·exact small_digits h1 (by decide) w
   ·exact absurd w (by decide)
   ·exact small_digits h2 (by decide) w
  ·obtain ⟨y,hy,rfl⟩:=List.mem_map.mp z1
   show (10:UInt8) ∉ 62::spelled (y.1::y.2.toList)
   rw [List.mem_cons]
   rintro (w | w)
   ·exact absurd w (by decide)
   ·refine spaced_free (by decide) _ (fun b hb=>?_) w
    obtain ⟨v,hv,rfl⟩:=List.mem_map.mp hb
    exact spelt_free (word_ok (lnok_all (h4 y hy) v hv)).2.2 (.inl (by decide)) (by decide)
theorem head_read {b f:Nat} (h1:b≤8) (h2:f≤8):readAll (andThen (byte_ 94) fun (_:Unit)=>andThen (num 0 8) fun (x:Nat)=>andThen (then_ 0 8) fun (y:Nat)=>end_ (x,y)) (94::numbers [b,f])=.ok (b,f):=by
 have b94:byte_ 94 0 (94::numbers [b,f])=.ok ((),1,decimal b++(32::(decimal f++[]))):=by rw [List.append_nil];rfl
 have t2:∀ p,then_ 0 8 p (32::(decimal f++[]))=.ok (f,p+1+(decimal f).length,[]):=fun p=>by
  unfold VhPage.then_
  have b32:byte_ 32 p (32::(decimal f++[]))=.ok ((),p+1,decimal f++[]):=rfl
  rw [then_ok b32]
  exact num8_read h2 (fun c hc=>by cases hc) _
 unfold readAll
 rw [then_ok b94,then_ok (num8_read h1 (fun c hc=>by cases hc;decide) _),then_ok (t2 _)]
 rfl
theorem read_text {x:Words} (h:x.ok=true):readWords x.text=some x:=by
 obtain ⟨h1,h2,h3,h4⟩:=words_ok h
 unfold readWords
 simp only []
 rw [split_text h]
 show (match readAll (andThen (byte_ 94) fun (_:Unit)=>andThen (num 0 8) fun (x:Nat)=>andThen (then_ 0 8) fun (y:Nat)=>end_ (x,y)) (94::numbers [x.before,x.behind]) with
  | .error _=>none
  | .ok hh=>_)=_
 rw [head_read h1 h2]
 have e:(List.map (fun (y:Bytes)=>((cellOf (y.drop 1)).headD [],((cellOf (y.drop 1)).drop 1).head?)) ((List.drop 1 ((94::numbers [x.before,x.behind])::(x.list.map lineB++[[]]))).dropLast))=x.list:=by
  rw [show List.drop 1 ((94::numbers [x.before,x.behind])::(x.list.map lineB++[[]]))=x.list.map lineB++[[]] from rfl,List.dropLast_concat,List.map_map]
  refine (List.map_congr_left (g:=id) fun y hy=>?_).trans (by simp)
  show ((cellOf (spelled (y.1::y.2.toList))).headD [],((cellOf (spelled (y.1::y.2.toList))).drop 1).head?)=y
  rw [cellOf_spelled fun w hw=>⟨(word_ok (lnok_all (h4 y hy) w hw)).1,(word_ok (lnok_all (h4 y hy) w hw)).2.2⟩]
  obtain ⟨y1,y2⟩:=y
  cases y2 <;> rfl
 show (if (Words.mk x.before x.behind _).ok=true∧(Words.mk x.before x.behind _).text=x.text then some (Words.mk x.before x.behind _) else none)=some x
 rw [e]
 exact if_pos ⟨h,rfl⟩
theorem read_list (b:Bytes):readWords b=match parseL b with
  | .ok x=>some x
  | .error _=>none:=by
 cases e:parseL b with
 | ok x =>
  obtain ⟨h1,h2⟩:=list_back e
  have:=read_text h2
  rw [h1] at this
  exact this
 | error i =>
  cases r:readWords b with
  | none=>rfl
  | some x =>
   have hx:x.ok=true∧x.text=b:=by
    unfold readWords at r
    simp only [] at r
    split at r
    ·cases r
    ·split at r
     ·rename_i hc
      cases r
      exact hc
     ·cases r
   have:=list_read hx.1
   rw [hx.2,e] at this
   cases this
end Vp
end
section
namespace Vp
open Vh VhPage
theorem er_irr:∀ a:Letters,earlier a a=false
 | []=>rfl
 | x::r=>by simp [earlier,er_irr r]
theorem er_tr:∀ {a b c:Letters},earlier a b=true→earlier b c=true→earlier a c=true
 | _,[],_,h,_=>by cases ‹Letters› <;> simp [earlier] at h
 | _,_::_,[],_,h=>by simp [earlier] at h
 | [],_::_,_::_,_,_=>rfl
 | x::a,y::b,z::c,h1,h2=>by
  simp only [earlier,Bool.or_eq_true,decide_eq_true_eq,Bool.and_eq_true,beq_iff_eq] at *
  rcases h1 with h1 | ⟨rfl,h1⟩
  ·rcases h2 with h2 | ⟨rfl,h2⟩
   ·left;lia
   ·left;lia
  ·rcases h2 with h2 | ⟨rfl,h2⟩
   ·left;lia
   ·right;exact ⟨rfl,er_tr h1 h2⟩
theorem er_tot:∀ {a b:Letters},a≠b→earlier a b=true∨earlier b a=true
 | [],[],h=>absurd rfl h
 | [],_::_,_=>.inl rfl
 | _::_,[],_=>.inr rfl
 | x::a,y::b,h=>by
  simp only [earlier,Bool.or_eq_true,decide_eq_true_eq,Bool.and_eq_true,beq_iff_eq]
  by_cases e:x=y
  ·subst e
   rcases er_tot (a:=a) (b:=b) (fun z=>h (by rw [z])) with z | z
   ·exact .inl (.inr ⟨rfl,z⟩)
   ·exact .inr (.inr ⟨rfl,z⟩)
  ·rcases Nat.lt_or_gt_of_ne e with z | z
   ·exact .inl (.inl z)
   ·exact .inr (.inl z)
def SrtE (l:List Letters):Prop:=l.Pairwise fun a b=>earlier a b=true
theorem srt_uniq:∀ {l m:List Letters},SrtE l→SrtE m→(∀ f,f∈l↔f∈m)→l=m
 | [],[],_,_,_=>rfl
 | [],y::m,_,_,h=>by have:=(h y).mpr (by simp);simp at this
 | x::l,[],_,_,h=>by have:=(h x).mp (by simp);simp at this
 | x::l,y::m,h1,h2,h=>by
  obtain ⟨a1,a2⟩:=List.pairwise_cons.mp h1
  obtain ⟨b1,b2⟩:=List.pairwise_cons.mp h2
  have e:x=y:=Classical.byContradiction fun z=>by
   have q1:x∈m:=by have:=(h x).mp (by simp);rcases List.mem_cons.mp this with w | w;exact absurd w z;exact w
   have q2:y∈l:=by have:=(h y).mpr (by simp);rcases List.mem_cons.mp this with w | w;exact absurd w.symm z;exact w
   have:=er_tr (a1 y q2) (b1 x q1)
   rw [er_irr] at this;cases this
  subst e
  have:=srt_uniq a2 b2 fun f=>by
   constructor
   ·intro hf
    have:=(h f).mp (List.mem_cons_of_mem _ hf)
    rcases List.mem_cons.mp this with w | w
    ·have:=a1 f hf;rw [w,er_irr] at this;cases this
    ·exact w
   ·intro hf
    have:=(h f).mpr (List.mem_cons_of_mem _ hf)
    rcases List.mem_cons.mp this with w | w
    ·have:=b1 f hf;rw [w,er_irr] at this;cases this
    ·exact w
  rw [this]
theorem ins_mem (f g:Letters):∀ l,g∈insertForm f l↔g=f∨g∈l
 | []=>by simp [insertForm]
 | x::r=>by
  unfold insertForm
  split
  ·rename_i e;subst e;simp
  ·split
   ·simp
   ·rw [List.mem_cons,ins_mem f g r,List.mem_cons]
    constructor
    ·rintro (h | h | h)
     ·exact .inr (.inl h)
     ·exact .inl h
     ·exact .inr (.inr h)
    ·rintro (h | h | h)
     ·exact .inr (.inl h)
     ·exact .inl h
     ·exact .inr (.inr h)
theorem ins_srt (f:Letters):∀ l,SrtE l→SrtE (insertForm f l)
 | [],_=>by simp [insertForm,SrtE]
 | x::r,h=>by
  obtain ⟨a1,a2⟩:=List.pairwise_cons.mp h
  unfold insertForm
  split
  ·exact h
  ·rename_i ne
   split
   ·rename_i e
    refine List.pairwise_cons.mpr ⟨fun b hb=>?_,h⟩
    rcases List.mem_cons.mp hb with w | w
    ·rw [w];exact e
    ·exact er_tr e (a1 b w)
   ·rename_i e
    refine List.pairwise_cons.mpr ⟨fun b hb=>?_,ins_srt f r a2⟩
    rcases (ins_mem f b r).mp hb with w | w
    ·rw [w]
     exact (er_tot ne).resolve_left e
    ·exact a1 b w
theorem fold_ins:∀ l:List Letters,SrtE (l.foldr insertForm [])∧∀ f,f∈l.foldr insertForm []↔f∈l
 | []=>⟨List.Pairwise.nil,fun f=>by simp⟩
 | x::l=>by
  obtain ⟨h1,h2⟩:=fold_ins l
  refine ⟨ins_srt x _ h1,fun f=>?_⟩
  show f∈insertForm x (l.foldr insertForm [])↔_
  rw [ins_mem,h2,List.mem_cons]
theorem forms_eq {x:Words}{ys fs:List Letters} (hn:fs.Nodup) (hm:∀ f,f∈fs↔some f∈x.list.map (·.2)) (hp:ys.Perm fs) (hs:ys.Pairwise fun a b=>earlier b a=false):ys=x.forms:=by
 have hn2:ys.Nodup:=hp.nodup_iff.mpr hn
 unfold Words.forms
 obtain ⟨h1,h2⟩:=fold_ins (x.list.filterMap fun (y:Letters×Option Letters)=>y.2)
 refine srt_uniq ?_ h1 fun f=>?_
 ·refine (hs.and hn2).imp fun {a b} h=>?_
  rcases er_tot h.2 with z | z
  ·exact z
  ·rw [h.1] at z;cases z
 ·rw [h2,hp.mem_iff,hm,List.mem_filterMap,List.mem_map]
def plc (l:List (Letters×Option Letters)) (f:Letters):List Nat:=(l.zipIdx.filter fun (y:(Letters×Option Letters)×Nat)=>y.1.2==some f).map fun (y:(Letters×Option Letters)×Nat)=>y.2
theorem plc_snoc (l:List (Letters×Option Letters)) (y:Letters×Option Letters) (f:Letters):plc (l++[y]) f=plc l f++(if y.2=some f then [l.length] else []):=by
 unfold plc
 rw [List.zipIdx_append,List.filter_append,List.map_append]
 congr 1
 by_cases h:y.2=some f
 ·rw [if_pos h]
  simp [List.zipIdx,h]
 ·rw [if_neg h]
  simp [List.zipIdx,h]
theorem plc_lt {l:List (Letters×Option Letters)}{f:Letters}{k:Nat} (h:k∈plc l f):k<l.length:=by
 unfold plc at h
 obtain ⟨y,hy,rfl⟩:=List.mem_map.mp h
 have:=(List.mem_filter.mp hy).1
 have:=List.mem_zipIdx this
 lia
theorem plc_len (l:List (Letters×Option Letters)) (f:Letters):(plc l f).length≤l.length:=by
 unfold plc
 rw [List.length_map]
 exact Nat.le_trans (List.length_filter_le _ _) (by simp)
end Vp
end
section
namespace Vp
open Vh VhPage
def jn (sep:Nat):List (List Nat)→List Nat
 | []=>[]
 | [x]=>x
 | x::y::r=>x++sep::jn sep (y::r)
theorem spelt_jn:∀ xs:List Letters,spelt (jn 32 xs)=spaced (xs.map spelt)
 | []=>rfl
 | [x]=>rfl
 | x::y::r=>by
  have ih:=spelt_jn (y::r)
  show spelt (x++32::jn 32 (y::r))=spelt x++32::spaced ((y::r).map spelt)
  rw [spelt_app,spelt_one (by decide),ih];rfl
theorem range_cut {α:Type} (ws:List Letters) (g:Letters→α) (i n:Nat) (h:i+n≤ws.length):(List.range n).map (fun d=>g (ws.toArray.getD (i+d) []))=((ws.drop i).take n).map g:=by
 apply List.ext_getElem?
 intro j
 rw [List.getElem?_map,List.getElem?_map,List.getElem?_take,List.getElem?_drop]
 by_cases hj:j<n
 ·rw [List.getElem?_range hj,if_pos hj,List.getElem?_eq_getElem (by lia)]
  simp only [Option.map_some]
  rw [Array.getD_eq_getD_getElem?,List.getElem?_toArray,List.getElem?_eq_getElem (by lia)]
  rfl
 ·rw [if_neg hj,List.getElem?_eq_none (by simp;lia)]
  rfl
def shownP (b f:Nat) (ws:List Letters) (k:Nat):List Letters:=num10 k::((ws.drop (k-b)).take (min b k)++((91::(ws.getD k []++[93]))::(ws.drop (k+1)).take f))
def placeP (b f:Nat) (ws:List Letters) (k:Nat):List Nat:=32::(jn 32 (shownP b f ws k)++[10])
theorem spelt_place {b f:Nat}{ws:List Letters}{k:Nat} (hk:k<ws.length):spelt (placeP b f ws k)=around b f ws.toArray k:=by
 unfold placeP around
 rw [spelt_one (by decide),spelt_app,spelt_jn]
 have e10:spelt [10]=[10]:=rfl
 rw [e10]
 simp only []
 have e1:=range_cut ws spelt (k-min b k) (min b k) (by lia)
 have e2:=range_cut ws spelt (k+1) (min f (ws.toArray.size-1-k)) (by simp;lia)
 rw [e1,e2]
 have e3:(ws.drop (k+1)).take (min f (ws.toArray.size-1-k))=(ws.drop (k+1)).take f:=by
  by_cases h:f≤ws.length-1-k
  ·rw [show ws.toArray.size=ws.length by simp,Nat.min_eq_left h]
  ·rw [show ws.toArray.size=ws.length by simp,Nat.min_eq_right (by lia),List.take_of_length_le (by simp;lia),List.take_of_length_le (by simp;lia)]
 rw [e3,show k-min b k=k-b by lia]
 unfold ended shownP
 rw [List.map_cons,List.map_append,List.map_cons,spelt_num,spelt_one (by decide),spelt_app]
 have e4:ws.toArray.getD k []=ws.getD k []:=by rw [Array.getD_eq_getD_getElem?,List.getElem?_toArray,List.getD_eq_getElem?_getD]
 have e93:spelt [93]=[93]:=rfl
 rw [e4,e93]
 rfl
def wds (x:Words):List Letters:=x.list.map fun (y:Letters×Option Letters)=>y.1
def formH (x:Words) (f:Letters):List Nat:=61::(f++32::(num10 (plc x.list f).length++[10]))
def formP (x:Words) (f:Letters):List Nat:=formH x f++(plc x.list f).flatMap (placeP x.before x.behind (wds x))
def listP (x:Words):List Nat:=(x.head.map fun (c:UInt8)=>c.toNat)++x.forms.flatMap (formP x)
theorem spelt_flat {α:Type} (g:α→List Nat):∀ l:List α,spelt (l.flatMap g)=l.flatMap fun y=>spelt (g y)
 | []=>rfl
 | y::l=>by rw [List.flatMap_cons,spelt_app,spelt_flat g l,List.flatMap_cons]
theorem flat_congr {α β:Type}{g h:α→List β}:∀ {l:List α},(∀ y∈l,g y=h y)→l.flatMap g=l.flatMap h
 | [],_=>rfl
 | y::l,e=>by rw [List.flatMap_cons,List.flatMap_cons,e y (by simp),flat_congr fun z hz=>e z (by simp [hz])]
theorem spelt_form (x:Words) (f:Letters):spelt (formP x f)=ended (61::spaced [spelt f,decimal (x.places f).length])++(x.places f).flatMap (around x.before x.behind (wds x).toArray):=by
 unfold formP formH
 rw [spelt_app,spelt_one (by decide),spelt_app,spelt_one (by decide),spelt_app,spelt_num,spelt_flat]
 have e10:spelt [10]=[10]:=rfl
 have ep:x.places f=plc x.list f:=rfl
 rw [e10,ep]
 congr 1
 ·unfold ended spaced spaced;simp
 ·exact flat_congr fun k hk=>spelt_place (by have:=plc_lt hk;unfold wds;rw [List.length_map];exact this)
theorem num_ascii (l:List Nat):∀ c∈numbers l,c.toNat<128:=by
 unfold numbers
 induction l with
 | nil=>intro c hc;simp [spaced] at hc
 | cons n l ih =>
  intro c hc
  cases l with
  | nil=>exact digit_ascii _ _ c hc
  | cons m l =>
   have hc:c∈decimal n++32::spaced ((m::l).map decimal):=hc
   rcases List.mem_append.mp hc with h | h
   ·exact digit_ascii _ _ c h
   ·rcases List.mem_cons.mp h with h | h
    ·rw [h];decide
    ·exact ih c h
theorem whead_ascii (x:Words):∀ c∈x.head,c.toNat<128:=by
 intro c hc
 have hc:c∈(94::numbers [x.before,x.behind])++[10]:=hc
 rcases List.mem_append.mp hc with h | h
 ·rcases List.mem_cons.mp h with h | h
  ·rw [h];decide
  ·exact num_ascii _ c h
 ·have:c=10:=by simpa using h
  rw [this];decide
theorem spelt_list (x:Words):spelt (listP x)=x.printed:=by
 unfold listP Words.printed
 rw [spelt_app,spelt_bytes _ (whead_ascii x),spelt_flat]
 simp only []
 congr 1
 exact flat_congr fun f _=>spelt_form x f
theorem dig_len:∀ (k f n:Nat),1≤k→n<10 ^ k→(digitsIn f n).length≤k
 | k,0,n,_,_=>by simp [digitsIn]
 | k,f+1,n,hk,h=>by
  unfold digitsIn
  rw [List.length_append]
  split
  ·simp;lia
  ·rename_i z
   cases k with
   | zero=>lia
   | succ k =>
    have:k≠0:=by intro e;subst e;simp at h;lia
    have ih:=dig_len k f (n / 10) (by lia) (by rw [Nat.pow_succ] at h;lia)
    simp;lia
theorem num_len {n k:Nat} (hk:1≤k) (h:n<10 ^ k):(num10 n).length≤k:=by
 unfold num10;rw [List.length_map];exact dig_len _ _ _ hk h
theorem jn_le {B:Nat}:∀ xs:List (List Nat),(∀ x∈xs,x.length+1≤B)→(jn 32 xs).length≤xs.length * B
 | [],_=>by simp [jn]
 | [x],h=>by have:=h x (by simp);simp [jn];lia
 | x::y::r,h=>by
  have ih:=jn_le (y::r) fun z hz=>h z (List.mem_cons_of_mem _ hz)
  have:=h x (by simp)
  show (x++32::jn 32 (y::r)).length≤(y::r).length.succ * B
  rw [List.length_append,List.length_cons,Nat.succ_mul]
  lia
theorem place_len {b f:Nat}{ws:List Letters}{k:Nat} (hb:b≤8) (hf:f≤8) (hw:∀ w∈ws,w.length≤64) (hk:k<100000):(placeP b f ws k).length≤1300:=by
 have h1:(jn 32 (shownP b f ws k)).length≤(shownP b f ws k).length * 67:=by
  refine jn_le _ fun x hx=>?_
  unfold shownP at hx
  rcases List.mem_cons.mp hx with h | h
  ·rw [h];have:=num_len (n:=k) (k:=5) (by decide) (by simpa using hk);lia
  ·rcases List.mem_append.mp h with h | h
   ·have:=hw x (List.mem_of_mem_drop (List.mem_of_mem_take h));lia
   ·rcases List.mem_cons.mp h with h | h
    ·rw [h,List.length_cons,List.length_append]
     have:(ws.getD k []).length≤64:=by
      rw [List.getD_eq_getElem?_getD]
      cases e:ws[k]? with
      | none=>simp
      | some w=>exact hw w (List.mem_of_getElem? e)
     rw [List.length_singleton];lia
    ·have:=hw x (List.mem_of_mem_drop (List.mem_of_mem_take h));lia
 have h2:(shownP b f ws k).length≤18:=by
  unfold shownP
  rw [List.length_cons,List.length_append,List.length_cons,List.length_take,List.length_take]
  lia
 unfold placeP
 rw [List.length_cons,List.length_append]
 have:(shownP b f ws k).length * 67≤18 * 67:=Nat.mul_le_mul_right _ h2
 simp;lia
theorem plc_count (f:Letters):∀ (l:List (Letters×Option Letters)) (n:Nat),((l.zipIdx n).filter fun (y:(Letters×Option Letters)×Nat)=>y.1.2==some f).length=l.countP fun y=>y.2==some f
 | [],n=>rfl
 | y::l,n=>by
  rw [List.zipIdx_cons,List.countP_cons,← plc_count f l (n+1)]
  by_cases h:(y.2==some f)=true
  ·rw [List.filter_cons_of_pos (by simpa using h),if_pos h];rfl
  ·rw [List.filter_cons_of_neg (by simpa using h),if_neg h];rfl
theorem plc_sum:∀ (l:List (Letters×Option Letters)) (fs:List Letters),fs.Nodup→(fs.map fun f=>(plc l f).length).sum≤l.length:=by
 intro l fs hn
 have e:(fs.map fun f=>(plc l f).length)=fs.map fun f=>l.countP fun y=>y.2==some f:=List.map_congr_left fun f _=>by
  unfold plc;rw [List.length_map];exact plc_count f l 0
 rw [e]
 clear e
 induction l with
 | nil =>
  have:∀ fs:List Letters,(fs.map fun f=>List.countP (fun (y:Letters×Option Letters)=>y.2==some f) []).sum=0:=fun fs=>by
   induction fs with
   | nil=>rfl
   | cons f fs ih=>rw [List.map_cons,List.sum_cons,ih];rfl
  rw [this];exact Nat.zero_le _
 | cons y l ih =>
  have h1:∀ fs:List Letters,(fs.map fun f=>(y::l).countP fun y=>y.2==some f).sum=(fs.map fun f=>l.countP fun y=>y.2==some f).sum+(fs.map fun f=>if (y.2==some f)=true then 1 else 0).sum:=fun fs=>by
   induction fs with
   | nil=>rfl
   | cons f fs ih=>rw [List.map_cons,List.sum_cons,ih,List.map_cons,List.sum_cons,List.map_cons,List.sum_cons,List.countP_cons];lia
  have h2:∀ fs:List Letters,fs.Nodup→(fs.map fun f=>if (y.2==some f)=true then 1 else 0).sum≤1:=fun fs=>by
   induction fs with
   | nil=>intro _;exact Nat.zero_le _
   | cons f fs ih =>
    intro hn
    obtain ⟨a1,a2⟩:=List.nodup_cons.mp hn
    rw [List.map_cons,List.sum_cons]
    by_cases h:(y.2==some f)=true
    ·have z:(fs.map fun f=>if (y.2==some f)=true then 1 else 0).sum=0:=by
      have h3:∀ g∈fs,(y.2==some g)=false:=fun g hg=>by
       have e1:y.2=some f:=by simpa using h
       rw [e1]
       simp only [beq_eq_false_iff_ne,ne_eq,Option.some.injEq]
       intro z;rw [z] at a1;exact a1 hg
      clear ih a1 a2 hn
      induction fs with
      | nil=>rfl
      | cons g fs ih2 =>
       rw [List.map_cons,List.sum_cons,ih2 fun g' hg'=>h3 g' (by simp [hg']),h3 g (by simp)]
       rfl
     rw [z,if_pos h];exact Nat.le_refl _
    ·rw [if_neg h]
     have:=ih a2
     lia
  rw [h1,List.length_cons]
  have:=h2 fs hn
  lia
theorem forms_len:∀ l:List Letters,(l.foldr insertForm []).length≤l.length
 | []=>Nat.le_refl _
 | x::l=>by
  have ih:=forms_len l
  have h:∀ (f:Letters) (r:List Letters),(insertForm f r).length≤r.length+1:=fun f r=>by
   induction r with
   | nil=>simp [insertForm]
   | cons g r ih =>
    unfold insertForm
    split
    ·simp
    ·split
     ·simp
     ·rw [List.length_cons,List.length_cons];lia
  have:=h x (l.foldr insertForm [])
  show (insertForm x (l.foldr insertForm [])).length≤_
  rw [List.length_cons];lia
theorem flat_len {α β:Type}{g:α→List β}{B:Nat}:∀ (l:List α),(∀ y∈l,(g y).length≤B)→(l.flatMap g).length≤l.length * B
 | [],_=>by simp
 | y::l,h=>by
  rw [List.flatMap_cons,List.length_append,List.length_cons,Nat.succ_mul]
  have:=flat_len l fun z hz=>h z (by simp [hz])
  have:=h y (by simp)
  lia
theorem srt_nodup {l:List Letters} (h:SrtE l):l.Nodup:=List.Pairwise.imp (fun {a b} e z=>by rw [z,er_irr] at e;cases e) h
theorem line_len {y:Letters×Option Letters} (h:LnOk y):3≤(lineT y).length:=by
 have h1:1≤(spelt y.1).length:=by
  obtain ⟨h1,_,h3⟩:=word_ok h.1
  cases e:y.1 with
  | nil=>exact absurd e h1
  | cons c r =>
   show 1≤(charOf c++spelt r).length
   have:1≤(charOf c).length:=by unfold charOf;(repeat' split) <;> simp
   rw [List.length_append];lia
 have h2:(spelt y.1).length≤(spelled (y.1::y.2.toList)).length:=by
  cases y.2 with
  | none=>exact Nat.le_refl _
  | some f=>show _≤(spelt y.1++32::spaced [spelt f]).length;rw [List.length_append];lia
 unfold lineT ended
 rw [List.length_append,List.length_cons]
 simp;lia
theorem list_short:∀ (l:List (Letters×Option Letters)),(∀ y∈l,LnOk y)→l.length * 3≤(l.flatMap lineT).length
 | [],_=>by simp
 | y::l,h=>by
  rw [List.flatMap_cons,List.length_append,List.length_cons,Nat.succ_mul]
  have:=list_short l fun z hz=>h z (by simp [hz])
  have:=line_len (h y (by simp))
  lia
theorem words_few {x:Words} (ok:x.ok=true) (ht:x.text.length≤8191):x.list.length≤2730:=by
 have h:=list_short x.list (words_ok ok).2.2.2
 have e:x.text=x.head++x.list.flatMap lineT:=rfl
 rw [e,List.length_append] at ht
 lia
theorem sum_flat {α β:Type} (g:α→List β):∀ l:List α,(l.flatMap g).length=(l.map fun y=>(g y).length).sum
 | []=>rfl
 | y::l=>by rw [List.flatMap_cons,List.length_append,sum_flat g l,List.map_cons,List.sum_cons]
theorem forms_mem {x:Words}{f:Letters} (h:f∈x.forms):∃ y∈x.list,y.2=some f:=by
 have:=((fold_ins (x.list.filterMap fun (y:Letters×Option Letters)=>y.2)).2 f).mp h
 rw [List.mem_filterMap] at this
 exact this
theorem wds_len {x:Words} (ok:x.ok=true):∀ w∈wds x,w.length≤64:=fun w hw=>by
 obtain ⟨y,hy,rfl⟩:=List.mem_map.mp hw
 exact (word_ok ((words_ok ok).2.2.2 y hy).1).2.1
theorem listP_len {x:Words} (ok:x.ok=true) (ht:x.text.length≤8191):(listP x).length≤4194303:=by
 obtain ⟨o1,o2,o3,o4⟩:=words_ok ok
 have hn:=words_few ok ht
 have hh:x.head.length≤8191:=by
  have e:x.text=x.head++x.list.flatMap lineT:=rfl
  rw [e,List.length_append] at ht;lia
 have hf:x.forms.length≤2730:=by
  unfold Words.forms
  refine Nat.le_trans (forms_len _) (Nat.le_trans (List.length_filterMap_le _ _) hn)
 have hs:=plc_sum x.list x.forms (srt_nodup (fold_ins _).1)
 unfold listP
 rw [List.length_append,List.length_map,sum_flat]
 have h1:∀ fs:List Letters,(∀ f∈fs,f∈x.forms)→(fs.map fun f=>(formP x f).length).sum≤fs.length * 72+(fs.map fun f=>(plc x.list f).length).sum * 1300:=fun fs=>by
  induction fs with
  | nil=>intro _;simp
  | cons f fs ih =>
   intro hm
   have i1:=ih fun g hg=>hm g (by simp [hg])
   rw [List.map_cons,List.sum_cons,List.map_cons,List.sum_cons,List.length_cons]
   have i2:(formH x f).length≤72:=by
    obtain ⟨y,hy,e⟩:=forms_mem (hm f (by simp))
    have l1:=(word_ok ((o4 y hy).2 f e)).2.1
    have l2:=plc_len x.list f
    have l3:=num_len (n:=(plc x.list f).length) (k:=5) (by decide) (by simp;lia)
    unfold formH
    simp;lia
   have i3:((plc x.list f).flatMap (placeP x.before x.behind (wds x))).length≤(plc x.list f).length * 1300:=by
    refine flat_len _ fun k hk=>place_len o1 o2 (wds_len ok) ?_
    have:=plc_lt hk
    lia
   have i4:(formP x f).length=(formH x f).length+((plc x.list f).flatMap (placeP x.before x.behind (wds x))).length:=by unfold formP;rw [List.length_append]
   lia
 have:=h1 x.forms fun f hf=>hf
 have:=Nat.mul_le_mul_right 1300 (Nat.le_trans hs hn)
 lia
theorem num_char (n:Nat):∀ c∈num10 n,c<0x110000:=fun c hc=>by
 obtain ⟨b,hb,rfl⟩:=List.mem_map.mp hc
 have:=digit_ascii _ _ b hb
 lia
theorem letter_char {c:Nat} (h:isLetter c=true):c<0x110000:=by
 unfold isLetter isChar at h
 simp only [Bool.and_eq_true,Bool.or_eq_true,decide_eq_true_eq] at h
 rcases h.1 with h | h
 ·lia
 ·exact h.2
theorem jn_char:∀ (xs:List (List Nat)),(∀ x∈xs,∀ c∈x,c<0x110000)→∀ c∈jn 32 xs,c<0x110000
 | [],_,c,hc=>by simp [jn] at hc
 | [x],h,c,hc=>h x (by simp) c hc
 | x::y::r,h,c,hc=>by
  have hc:c∈x++32::jn 32 (y::r):=hc
  rcases List.mem_append.mp hc with z | z
  ·exact h x (by simp) c z
  ·rcases List.mem_cons.mp z with z | z
   ·lia
   ·exact jn_char (y::r) (fun w hw=>h w (List.mem_cons_of_mem _ hw)) c z
theorem place_char {b f:Nat}{ws:List Letters}{k:Nat} (hw:∀ w∈ws,∀ c∈w,c<0x110000):∀ c∈placeP b f ws k,c<0x110000:=by
 intro c hc
 unfold placeP at hc
 rcases List.mem_cons.mp hc with h | h
 ·lia
 ·rcases List.mem_append.mp h with h | h
  ·refine jn_char _ (fun x hx c hc=>?_) c h
   unfold shownP at hx
   rcases List.mem_cons.mp hx with h | h
   ·rw [h] at hc;exact num_char k c hc
   ·rcases List.mem_append.mp h with h | h
    ·exact hw x (List.mem_of_mem_drop (List.mem_of_mem_take h)) c hc
    ·rcases List.mem_cons.mp h with h | h
     ·rw [h] at hc
      rcases List.mem_cons.mp hc with z | z
      ·lia
      ·rcases List.mem_append.mp z with z | z
       ·rw [List.getD_eq_getElem?_getD] at z
        cases e:ws[k]? with
        | none=>rw [e] at z;simp at z
        | some w=>rw [e] at z;exact hw w (List.mem_of_getElem? e) c z
       ·have:c=93:=by simpa using z
        lia
     ·exact hw x (List.mem_of_mem_drop (List.mem_of_mem_take h)) c hc
  ·have:c=10:=by simpa using h
   lia
theorem listP_char {x:Words} (ok:x.ok=true):∀ c∈listP x,c<0x110000:=by
 obtain ⟨o1,o2,o3,o4⟩:=words_ok ok
 intro c hc
 unfold listP at hc
 rcases List.mem_append.mp hc with h | h
 ·obtain ⟨b,hb,rfl⟩:=List.mem_map.mp h
  have:=whead_ascii x b hb
  lia
 ·obtain ⟨f,hf,h⟩:=List.mem_flatMap.mp h
  unfold formP formH at h
  rcases List.mem_append.mp h with h | h
  ·rcases List.mem_cons.mp h with h | h
   ·lia
   ·rcases List.mem_append.mp h with h | h
    ·obtain ⟨y,hy,e⟩:=forms_mem hf
     exact letter_char ((word_ok ((o4 y hy).2 f e)).2.2 c h)
    ·rcases List.mem_cons.mp h with h | h
     ·lia
     ·rcases List.mem_append.mp h with h | h
      ·exact num_char _ c h
      ·have:c=10:=by simpa using h
       lia
  ·obtain ⟨k,hk,h⟩:=List.mem_flatMap.mp h
   refine place_char (fun w hw c hc=>?_) c h
   obtain ⟨y,hy,rfl⟩:=List.mem_map.mp hw
   exact letter_char ((word_ok (o4 y hy).1).2.2 c hc)
end Vp
end
section
namespace Vp
open Vh VhPage
end Vp
end
section
namespace Vp
open Vh VhPage
end Vp
end
section
namespace Vp
open Vh VhPage
end Vp
end
section
namespace Vp
open Vh VhPage
end Vp
end
section
namespace Vp
open Vh VhPage
end Vp
end
section
namespace Vp
open Vh VhPage
theorem then_assoc {α β γ:Type} (r:Rd α) (f:α→Rd β) (g:β→Rd γ):andThen (andThen r f) g=andThen r fun x=>andThen (f x) g:=by
 funext p b
 unfold andThen
 cases r p b with
 | error i=>rfl
 | ok x=>rfl
theorem hdr2 {α:Type}{lo hi lo2 hi2:Nat} (f:List Nat→Rd α):andThen (hdr [(lo,hi),(lo2,hi2)]) f=andThen (byte_ 94) fun (_:Unit)=>andThen (num lo hi) fun (x:Nat)=>andThen (then_ lo2 hi2) fun (y:Nat)=>andThen (byte_ 10) fun (_:Unit)=>f [x,y]:=by
 unfold hdr
 rw [then_assoc]
 congr 1;funext _
 show andThen (andThen (num lo hi) fun x=>hd [(lo2,hi2)] [x]) f=_
 rw [then_assoc]
 congr 1;funext x
 show andThen (andThen (byte_ 32) fun (_:Unit)=>andThen (num lo2 hi2) fun y=>andThen (byte_ 10) fun (_:Unit)=>gives [x,y]) f=andThen (andThen (byte_ 32) fun (_:Unit)=>num lo2 hi2) _
 refine (then_assoc _ _ _).trans (Eq.trans ?_ (then_assoc _ _ _).symm)
 congr 1;funext _
 rw [then_assoc]
 congr 1;funext y
 rw [then_assoc]
 congr 1
theorem hdr2_text {lo hi lo2 hi2 p p':Nat}{b b':Bytes}{xs:List Nat} (h:hdr [(lo,hi),(lo2,hi2)] p b=.ok (xs,p',b')):∃ x y,xs=[x,y]∧b=ended (94::numbers [x,y])++b'∧p'=p+(ended (94::numbers [x,y])).length∧x≤hi∧y≤hi2:=by
 have e:hdr [(lo,hi),(lo2,hi2)]=andThen (hdr [(lo,hi),(lo2,hi2)]) gives:=by
  funext p b;unfold andThen;cases hdr [(lo,hi),(lo2,hi2)] p b with | error i=>rfl | ok x=>rfl
 rw [e,hdr2] at h
 obtain ⟨_,b0,e0,_,h1⟩:=Pr.bind (Pr.byte 94) h
 obtain ⟨x,b1,e1,o1,h2⟩:=Pr.bind (Pr.num lo hi) h1
 obtain ⟨y,b2,e2,o2,h3⟩:=Pr.bind (Pr.then_ lo2 hi2) h2
 obtain ⟨_,b3,e3,_,h4⟩:=Pr.bind (Pr.byte 10) h3
 obtain ⟨rfl,rfl,rfl⟩:=ok_inj h4
 refine ⟨x,y,rfl,?_,?_,o1.2,o2.2⟩
 ·rw [e0,e1,e2,e3];simp [ended,numbers,spaced]
 ·simp [ended,numbers,spaced];lia
theorem list_head (bs:Bytes):(∀ xs p' b',hdr [(0,8),(0,8)] 0 bs=.ok (xs,p',b')→∃ b f,xs=[b,f]∧bs.take p'=(⟨b,f,[]⟩:Words).head∧b≤8∧f≤8∧list_ 0 bs=(andThen (listed_ 8192) fun (l:List (Letters×Option Letters))=>end_ (⟨b,f,l⟩:Words)) p' b')∧(∀ e,hdr [(0,8),(0,8)] 0 bs=.error e→list_ 0 bs=.error e):=by
 have e:list_=andThen (hdr [(0,8),(0,8)]) fun xs=>andThen (listed_ 8192) fun (l:List (Letters×Option Letters))=>end_ (⟨xs.getD 0 0,xs.getD 1 0,l⟩:Words):=by rw [hdr2];rfl
 refine ⟨fun xs p' b' h=>?_,fun i h=>by rw [e];exact then_no h⟩
 obtain ⟨x,y,rfl,h1,h2,h3,h4⟩:=hdr2_text h
 refine ⟨x,y,rfl,?_,h3,h4,by rw [e,then_ok h];rfl⟩
 rw [h1,h2,Nat.zero_add,List.take_left']
 ·rfl
 ·rfl
end Vp
end
section
namespace Vp
open Vh VhPage
end Vp
end
section
namespace Vp
open Vh VhPage
theorem listed_go {bs:List UInt8}{k p p':Nat}{xs:List Letters} (h:pk bs p=62) (hr:row_ (someLetters_ 64) 2 (p+1) (bs.drop (p+1))=.ok (xs,p',bs.drop p')):listed_ (k+1) p (bs.drop p)=preO [(xs.headD [],(xs.drop 1).head?)] (listed_ k p' (bs.drop p')):=by
 have e:=(pk_eq (c:=62)).mp h
 conv=>lhs;unfold listed_ byNext
 dsimp only
 rw [head_drop,e,if_pos rfl]
 unfold behind
 rw [drop_drop1,then_ok hr]
 unfold andThen
 cases listed_ k p' (bs.drop p') with
 | error i=>rfl
 | ok y=>rfl
theorem listed_no {bs:List UInt8}{k p i:Nat} (h:pk bs p=62) (hr:row_ (someLetters_ 64) 2 (p+1) (bs.drop (p+1))=.error i):listed_ (k+1) p (bs.drop p)=.error i:=by
 have e:=(pk_eq (c:=62)).mp h
 conv=>lhs;unfold listed_ byNext
 dsimp only
 rw [head_drop,e,if_pos rfl]
 unfold behind
 rw [drop_drop1,then_no hr]
theorem listed_stop {bs:List UInt8}{k p:Nat} (h:k=0∨pk bs p≠62):listed_ k p (bs.drop p)=.ok ([],p,bs.drop p):=by
 cases k with
 | zero=>rfl
 | succ k =>
  have h:pk bs p≠62:=h.resolve_left (by simp)
  conv=>lhs;unfold listed_ byNext
  dsimp only
  rw [head_drop,if_neg fun z=>h ((pk_eq (c:=62)).mpr z)]
  rfl
theorem end_ok {α:Type}{bs:List UInt8}{p:Nat} (x:α) (h:bs[p]?=none):end_ x p (bs.drop p)=.ok (x,p,bs.drop p):=by
 unfold end_ byNext
 dsimp only
 rw [head_drop,h];rfl
theorem end_no {α:Type}{bs:List UInt8}{p:Nat} (x:α) (h:bs[p]?≠none):end_ x p (bs.drop p)=.error p:=by
 unfold end_ byNext
 dsimp only
 rw [head_drop]
 cases e:bs[p]? with
 | none=>exact absurd e h
 | some c=>rfl
theorem list_done {bs:List UInt8}{b f p1 p':Nat}{l:List (Letters×Option Letters)} (h0:list_ 0 bs=(andThen (listed_ 8192) fun (l:List (Letters×Option Letters))=>end_ (⟨b,f,l⟩:Words)) p1 (bs.drop p1)) (h:listed_ 8192 p1 (bs.drop p1)=.ok (l,p',bs.drop p')) :
  (bs[p']?=none→parseL bs=.ok ⟨b,f,l⟩)∧(bs[p']?≠none→parseL bs=.error p'):=by
 rw [then_ok h] at h0
 unfold parseL readAll
 rw [h0]
 exact ⟨fun z=>by rw [end_ok _ z],fun z=>by rw [end_no _ z]⟩
theorem list_fail {bs:List UInt8}{b f p1 i:Nat} (h0:list_ 0 bs=(andThen (listed_ 8192) fun (l:List (Letters×Option Letters))=>end_ (⟨b,f,l⟩:Words)) p1 (bs.drop p1)) (h:listed_ 8192 p1 (bs.drop p1)=.error i):parseL bs=.error i:=by
 rw [then_no h] at h0
 unfold parseL readAll
 rw [h0]
end Vp
end
section
set_option maxRecDepth 100000
namespace Vp
open PySem PySem.Spec PyProof.Rows L2
def top (i:Nat):Stmt:=PySem.Challenge.pw_vellumpages_s09_concord.main.body.getD i (.Pass ⟨0,0,0,0⟩)
def stI (l:List Stmt) (i:Nat):Stmt:=l.getD i (.Pass ⟨0,0,0,0⟩)
def noEx:Expr:=.Constant .none 0 ⟨0,0,0,0⟩
def stVal:Stmt→Expr
 | .Assign _ v _=>v
 | .Return (some v) _=>v
 | .Expr v _=>v
 | .AugAssign _ _ v _=>v
 | _=>noEx
def exArg (e:Expr) (i:Nat):Expr:=match e with
 | .Call _ as _ _=>as.getD i noEx
 | _=>noEx
def lcSc:Expr→Scope
 | .ListComp _ _ sc _=>sc
 | _=>{ kind:=.function,names:=[],isGenerator:=false,isCoroutine:=false }
abbrev WT:=Nat→L2.St→Hp→Prop
def BdT (K:PySem.W.Frag) (ab:Addr) (bds:List (Nat×Nat)):Prop:=∃ vs,(∀ H,SqT K H ab vs)∧Paired (fun (x:Nat×Nat) v=>∃ b,v=.ref b∧(∀ H,SqT K H b [.int (x.1:Int),.int (x.2:Int)])∧x.2<10 ^ 11) bds vs
theorem scal_ii {i j:Int}:scal (.int i) (.int j)=true:=rfl
theorem scal_ss {i j:Str}:scal (.str i) (.str j)=true:=rfl
theorem scal_bb {i j:Bool}:scal (.bl i) (.bl j)=true:=rfl
theorem scal_nn:scal .non .non=true:=rfl
theorem scal_in {i:Int}:scal (.int i) .non=true:=rfl
structure Ad where
 CE:Addr
 CR:Addr
 CG:Addr
 aMARKS:Addr
 aLIST_BOUNDS:Addr
 aENDS:Addr
 F_read_listing:Addr
 PT:Addr
structure Txt (K:PySem.W.Frag) (mg:Str→Option Value) (a:Ad):Prop where
 exc:Exc K mg "NoText" a.CE
 clReader:Cls K a.CR
 n_t:NoAttr K a.CR "t"
 n_at:NoAttr K a.CR "at"
 clListing:Cls K a.CG
 nG_before:NoAttr K a.CG "before"
 nG_behind:NoAttr K a.CG "behind"
 nG_head:NoAttr K a.CG "head"
 nG_words:NoAttr K a.CG "words"
 nG_counted:NoAttr K a.CG "counted"
 nl:∀ b o,K.lookup b=some o→o.cls≠.type "list"
 len:mg "len"=none
 ord:mg "ord"=none
 min:mg "min"=none
 max:mg "max"=none
 range:mg "range"=none
 enumerate:mg "enumerate"=none
 str:mg "str"=none
 list:mg "list"=none
 sum:mg "sum"=none
 tuple:mg "tuple"=none
 sorted:mg "sorted"=none
 cBLANK:∃ u,mg "BLANK"=some (.int 32 u)
 cFIRST_LETTER:∃ u,mg "FIRST_LETTER"=some (.int 33 u)
 cMOST_LETTERS:∃ u,mg "MOST_LETTERS"=some (.int 64 u)
 cMOST_LISTED:∃ u,mg "MOST_LISTED"=some (.int 8192 u)
 cNO_BYTE:∃ u,mg "NO_BYTE"=some (.int 256 u)
 cMOST_TEXT_BYTES:∃ u,mg "MOST_TEXT_BYTES"=some (.int 1048576 u)
 cMOST_PRINTED_BYTES:∃ u,mg "MOST_PRINTED_BYTES"=some (.int 16777216 u)
 f_read_listing:mg "read_listing"=some (.ref a.F_read_listing)
 cMARKS:mg "MARKS"=some (.ref a.aMARKS)
 tMARKS:∀ H,SqT K H a.aMARKS (marksI.map V.int)
 cLIST_BOUNDS:mg "LIST_BOUNDS"=some (.ref a.aLIST_BOUNDS)
 tLIST_BOUNDS:BdT K a.aLIST_BOUNDS [(0,8),(0,8)]
 cENDS:mg "ENDS"=some (.ref a.aENDS)
 tENDS:∀ H,SqT K H a.aENDS [V.int 32,V.int 10]
end Vp
end
section
set_option maxRecDepth 100000
set_option maxHeartbeats 4000000
namespace Vp
open PySem PySem.Spec PyProof.Rows L2
local macro_rules | `(tactic| walk_at "rd")=>`(tactic| (try simp only [tSeq,tIfS,tOr,tAnd,tNot,tTest,tB,tOp,rI0,rI,tVar,tC,tChain,tRet,tRetN,tNext,tDrop,tAsg,gName,rEq,rNe,rIn,tAug,ipI,tCall,tCons,tNil,tUn,rU,tIf,tNotV,tAndV,tOrV,tCB,tRaise,tTup,tLst,L2.start,L2.cxOf,List.map_cons,List.map_nil,List.length_cons,List.length_nil,List.replicate,List.cons_append,List.nil_append,List.append_nil,Nat.sub_self,Nat.zero_add,Nat.add_sub_cancel,Nat.reduceAdd,Nat.reduceSub,List.getElem?_cons_zero,List.getElem?_cons_succ,List.set_cons_zero,List.set_cons_succ,Option.some.injEq,V.int.injEq,V.bl.injEq,V.ref.injEq,V.str.injEq,exists_eq_left',exists_and_left,exists_const,true_and,and_true,scal_ii,scal_ss,scal_bb,scal_nn,scal_in,decide_eq_true_eq,Bool.not_eq_true',decide_eq_false_iff_not,Bool.not_not,Bool.not_true,Bool.not_false,if_true,if_false,ite_true,ite_false,↓reduceIte,Bool.false_eq_true,List.cons.injEq,exists_eq_left,gTup,gCons,gNil,tBM,rAppend,rExtend,tSl,tNoPart,tPart,rSlL,tMake]))
section
variable {P:Program}{w:World}{K:PySem.W.Frag}{mg:Str→Option Value}{base:Heap}{a:Ad}
theorem inV_ints (n:Int) (l:List Int):inV (.int n) (l.map V.int)=l.contains n:=by
 unfold inV
 rw [List.any_map,List.contains_eq_any_beq]
 congr 1
 funext y
 show (y==n)=(n==y)
 exact Bool.beq_comm
theorem flat_ints (l:List Int):(l.map V.int).all flatV=true:=by
 rw [List.all_map,List.all_eq_true];intro _ _;rfl
def sp_is_letter (K:PySem.W.Frag) (a:Ad):Sp:=fun vs H Q _=>∃ n:Int,vs=[.int n]∧Q (.bl (isL n)) H
abbrev s_is_letter:Stmt:=top 5
theorem sc_is_letter:FnScope ["character"] ["character"] (defScope s_is_letter):=⟨rfl,rfl,rfl,by decide +kernel,rfl,by decide +kernel,by decide +kernel⟩
theorem ok_is_letter {f:Addr}{fd:FuncData} (F:Fun K "is_letter" "is_letter" s_is_letter f fd) (T:Txt K mg a):FnOk P w K mg base CX0 1 f fd ["character"] (sp_is_letter K a):=by
 refine F.ok sc_is_letter (fun vs H Q E h=>?_) (fun cdv A outer s H vs Q E hr h=>?_)
 ·obtain ⟨n,rfl,q⟩:=h
  rfl
 ·obtain ⟨n,rfl,q⟩:=h
  have nd:=sc_is_letter.nd
  refine ⟨_,(pss_cons (ps_if (PW.pt (pw_or (pt_cmpR op_lt (pv 0) (pe_gint T.cFIRST_LETTER) (nomark _)) (pw_or (pt_chain op_le op_le pe_int (pv 0) pe_int) (pw_or1 (pt_cmpR op_in_seq (pv 0) (pe_gref T.cMARKS) (by with_unfolding_all rfl)))))) (pss_one (ps_ret pe_bl)) pss_nil) (pss_one (ps_ret (pe_cmpR op_lt (pe_op op_mod (pv 0) pe_int) pe_int (nomark _))))),?_⟩
  have hm:=inV_ints n marksI
  have hf:=flat_ints marksI
  unfold isL at q
  walk_at "rd"
  split
  ·rename_i h;simpa [h] using q
  ·rename_i h1
   have last:(¬ (127≤n∧n≤159))→∃ x,(SqL K H a.aMARKS x∨SqT K H a.aMARKS x)∧flatV (V.int n)=true∧x.all flatV=true∧if inV (V.int n) x=true then Q (V.bl false) H else (0:Int)<65536∧Q (V.bl (decide (n % 65536<65534))) H:=fun h2=>by
    refine ⟨_,.inr (T.tMARKS H),rfl,hf,?_⟩
    rw [hm]
    have h3:(decide (127≤n) && decide (n≤159))=false:=by
     by_cases z:127≤n <;> simp [z] <;> lia
    rw [h3] at q
    generalize marksI.contains n=c at q
    cases c
    ·rw [if_neg (by decide)];exact ⟨by decide,by simpa [h1] using q⟩
    ·rw [if_pos rfl];simpa [h1] using q
   split
   ·split
    ·rename_i h2 h3;simpa [h1,h2,h3] using q
    ·exact last (by lia)
   ·exact last (by lia)
def sp_begins_some (K:PySem.W.Frag) (a:Ad):Sp:=fun vs H Q _=>∃ v lo hi:Nat,vs=[.int v,.int lo,.int hi]∧hi<10 ^ 11∧Q (.bl (Vh.leadsTo lo hi v)) H
abbrev s_begins_some:Stmt:=top 23
theorem sc_begins_some:FnScope ["value","low","high","least","most"] ["value","low","high"] (defScope s_begins_some):=⟨rfl,rfl,rfl,by decide +kernel,rfl,by decide +kernel,by decide +kernel⟩
theorem ok_begins_some {f:Addr}{fd:FuncData} (F:Fun K "begins_some" "begins_some" s_begins_some f fd) (T:Txt K mg a):FnOk P w K mg base CX0 1 f fd ["value","low","high"] (sp_begins_some K a):=by
 refine F.ok sc_begins_some (fun vs H Q E h=>?_) (fun cdv A outer s H vs Q E hr h=>?_)
 ·obtain ⟨v,lo,hi,rfl,hhi,q⟩:=h
  rfl
 ·obtain ⟨v,lo,hi,rfl,hhi,q⟩:=h
  have nd:=sc_begins_some.nd
  refine ⟨_,(pss_cons (ps_if (pt_cmpR op_eq (pv 0) pe_int (nomark _)) (pss_one (ps_ret (pe_cmpR op_eq (pv 1) pe_int (nomark _)))) pss_nil) (pss_cons (ps_set (i:=3) nd rfl (Or.inl rfl) (pv 0)) (pss_cons (ps_set (i:=4) nd rfl (Or.inl rfl) (pv 0)) (pss_cons (ps_while PassesOwn.never (pt_cmpR op_le (pv 3) (pv 2) (nomark _)) (pss_cons (ps_if (pt_cmpR op_ge (pv 4) (pv 1) (nomark _)) (pss_one (ps_ret pe_bl)) pss_nil) (pss_cons (ps_set (i:=3) nd rfl (Or.inl rfl) (pe_op op_mul (pv 3) pe_int)) (pss_one (ps_set (i:=4) nd rfl (Or.inl rfl) (pe_op op_add (pe_op op_mul (pv 4) pe_int) pe_int)))))) (pss_one (ps_ret pe_bl)))))),?_⟩
  walk_at "rd"
  split
  ·rename_i h
   have h0:v=0:=by lia
   subst h0
   rw [leads_zero] at q
   have e:decide ((lo:Int)=0)=(lo==0):=by
    by_cases z:lo=0 <;> simp [z]
   rw [e];exact q
  ·rename_i h
   have hv:v≠0:=by lia
   obtain ⟨W,hW⟩:∃ W:WT,W=fun m σ H'=>H'=H∧∃ L M k:Nat,σ=[some (.int v),some (.int lo),some (.int hi),some (.int L),some (.int M)]∧L=v * 10 ^ k∧M+1=(v+1) * 10 ^ k∧1≤L∧m=hi+1-L∧∀ j,j<k→¬ (v * 10 ^ j≤hi∧lo<(v+1) * 10 ^ j):=⟨_,rfl⟩
   refine ⟨W,⟨_,by rw [hW];exact ⟨rfl,v,v,0,rfl,by simp,by simp,by lia,rfl,fun j z=>absurd z (Nat.not_lt_zero j)⟩⟩,fun m σ H' hw=>?_⟩
   rw [hW] at hw
   obtain ⟨rfl,L,M,k,rfl,hL,hM,hL1,rfl,hno⟩:=hw
   walk_at "rd"
   split
   ·rename_i h1
    refine ⟨fun σ' H''=>∃ m',m' < hi+1-L∧W m' σ' H'',fun _ _ z=>z,?_⟩
    split
    ·rename_i h2
     rw [leads_true (k:=k) hv (by lia) (by lia) hhi] at q
     exact q
    ·rename_i h2
     refine ⟨.inr (by lia),.inr (by lia),hi+1-L * 10,by lia,?_⟩
     rw [hW]
     refine ⟨rfl,L * 10,M * 10+9,k+1,by simp,?_,?_,by lia,rfl,?_⟩
     ·rw [hL,Nat.pow_succ,Nat.mul_assoc]
     ·rw [Nat.pow_succ,← Nat.mul_assoc,← hM];lia
     ·intro j hj
      by_cases z:j=k
      ·subst z;lia
      ·exact hno j (by lia)
   ·rename_i h1
    rw [leads_false (k:=k) hv hno (by lia)] at q
    exact q
def sp_size_by_lead (K:PySem.W.Frag) (a:Ad):Sp:=fun vs H Q _=>∃ n:Int,vs=[.int n]∧Q (.int (sizeL n)) H
abbrev s_size_by_lead:Stmt:=top 24
theorem sc_size_by_lead:FnScope ["lead"] ["lead"] (defScope s_size_by_lead):=⟨rfl,rfl,rfl,by decide +kernel,rfl,by decide +kernel,by decide +kernel⟩
theorem ok_size_by_lead {f:Addr}{fd:FuncData} (F:Fun K "size_by_lead" "size_by_lead" s_size_by_lead f fd) (T:Txt K mg a):FnOk P w K mg base CX0 1 f fd ["lead"] (sp_size_by_lead K a):=by
 refine F.ok sc_size_by_lead (fun vs H Q E h=>?_) (fun cdv A outer s H vs Q E hr h=>?_)
 ·obtain ⟨n,rfl,q⟩:=h
  rfl
 ·obtain ⟨n,rfl,q⟩:=h
  have nd:=sc_size_by_lead.nd
  refine ⟨_,(pss_cons (ps_if (pt_cmpR op_lt (pv 0) pe_int (nomark _)) (pss_one (ps_ret pe_int)) pss_nil) (pss_cons (ps_if (pt_chain op_le op_le pe_int (pv 0) pe_int) (pss_one (ps_ret pe_int)) pss_nil) (pss_cons (ps_if (pt_chain op_le op_le pe_int (pv 0) pe_int) (pss_one (ps_ret pe_int)) pss_nil) (pss_cons (ps_if (pt_chain op_le op_le pe_int (pv 0) pe_int) (pss_one (ps_ret pe_int)) pss_nil) (pss_one (ps_ret pe_int)))))),?_⟩
  unfold sizeL at q
  walk_at "rd"
  (repeat' split) <;> (simp only [*,if_true,if_false,and_true,true_and,and_self,not_false_eq_true] at q ⊢) <;> first | exact q | (exfalso;lia) | (simp_all;done) | (rw [if_neg (by lia)] at q;exact q) | skip
def sp_bounds_behind (K:PySem.W.Frag) (a:Ad):Sp:=fun vs H Q _=>∃ n:Int,vs=[.int n]∧∀ p,H p=none→Q (.ref p) (upd H p (.tup [.int (blo n),.int (bhi n)]))
abbrev s_bounds_behind:Stmt:=top 25
theorem sc_bounds_behind:FnScope ["lead"] ["lead"] (defScope s_bounds_behind):=⟨rfl,rfl,rfl,by decide +kernel,rfl,by decide +kernel,by decide +kernel⟩
theorem ok_bounds_behind {f:Addr}{fd:FuncData} (F:Fun K "bounds_behind" "bounds_behind" s_bounds_behind f fd) (T:Txt K mg a):FnOk P w K mg base CX0 1 f fd ["lead"] (sp_bounds_behind K a):=by
 refine F.ok sc_bounds_behind (fun vs H Q E h=>?_) (fun cdv A outer s H vs Q E hr h=>?_)
 ·obtain ⟨n,rfl,q⟩:=h
  rfl
 ·obtain ⟨n,rfl,q⟩:=h
  have nd:=sc_bounds_behind.nd
  refine ⟨_,(pss_cons (ps_if (pt_cmpR op_eq (pv 0) pe_int (nomark _)) (pss_one (ps_ret (pe_tup (pa_cons pe_int (pa_cons pe_int pa_nil))))) pss_nil) (pss_cons (ps_if (pt_cmpR op_eq (pv 0) pe_int (nomark _)) (pss_one (ps_ret (pe_tup (pa_cons pe_int (pa_cons pe_int pa_nil))))) pss_nil) (pss_cons (ps_if (pt_cmpR op_eq (pv 0) pe_int (nomark _)) (pss_one (ps_ret (pe_tup (pa_cons pe_int (pa_cons pe_int pa_nil))))) pss_nil) (pss_cons (ps_if (pt_cmpR op_eq (pv 0) pe_int (nomark _)) (pss_one (ps_ret (pe_tup (pa_cons pe_int (pa_cons pe_int pa_nil))))) pss_nil) (pss_one (ps_ret (pe_tup (pa_cons pe_int (pa_cons pe_int pa_nil))))))))),?_⟩
  unfold blo bhi at q
  have z2:2≤sizeLine:=by decide
  walk_at "rd"
  (repeat' split) <;> refine ⟨z2,fun p hp=>?_⟩ <;> have q':=q p hp <;> simp_all
end
set_option hygiene false in
local macro_rules | `(tactic| walk_at "rdr")=>`(tactic| (try simp only [tSeq,tIfS,tOr,tAnd,tNot,tTest,tB,tOp,rI0,rI,tVar,tC,tChain,tRet,tRetN,tNext,tDrop,tAsg,gName,rEq,rNe,rIn,tAug,ipI,tCall,tCons,tNil,tUn,rU,tIf,tNotV,tAndV,tOrV,tCB,tRaise,tTup,tLst,L2.start,L2.cxOf,List.map_cons,List.map_nil,List.length_cons,List.length_nil,List.replicate,List.cons_append,List.nil_append,List.append_nil,Nat.sub_self,Nat.zero_add,Nat.add_sub_cancel,Nat.reduceAdd,Nat.reduceSub,List.getElem?_cons_zero,List.getElem?_cons_succ,List.set_cons_zero,List.set_cons_succ,Option.some.injEq,V.int.injEq,V.bl.injEq,V.ref.injEq,V.str.injEq,exists_eq_left',exists_and_left,exists_const,true_and,and_true,scal_ii,scal_ss,scal_bb,scal_nn,scal_in,decide_eq_true_eq,Bool.not_eq_true',decide_eq_false_iff_not,Bool.not_not,Bool.not_true,Bool.not_false,if_true,if_false,ite_true,ite_false,↓reduceIte,Bool.false_eq_true,List.cons.injEq,exists_eq_left,gTup,gCons,gNil,tBM,rAppend,rExtend,tSl,tNoPart,tPart,rSlL,tMake,tFld,tMeth,sFld,sFldAug,rAdd,rIxL,rIxT,hR,hR2,T.clReader,T.n_t,T.n_at,rf_t,rf_at,rf_put,rf_len,rf_no,HO.ins.injEq,and_assoc,upd_same]))
def rf (ta:Addr) (i:Int):List (Str×V):=[("t",.ref ta),("at",.int i)]
theorem rf_t (ta:Addr) (i:Int):(rf ta i).lookup ("t":Str)=some (.ref ta):=rfl
theorem rf_at (ta:Addr) (i:Int):(rf ta i).lookup ("at":Str)=some (.int i):=by
 unfold rf
 rw [List.lookup_cons,show (("at":Str)==("t":Str))=false from by decide]
 rfl
theorem rf_put (ta:Addr) (i j:Int):putF "at" (.int j) (rf ta i)=rf ta j:=by
 show (if ("t":Str)="at" then _ else _)=_
 rw [if_neg (by decide)]
 show _::(if ("at":Str)="at" then _ else _)=_
 rw [if_pos rfl]
 rfl
theorem rf_len (ta:Addr) (i:Int):(rf ta i).length=2:=rfl
theorem rf_no (ta:Addr) (i:Int) {m:Str} (h1:m≠"t") (h2:m≠"at"):(rf ta i).lookup m=none:=by
 unfold rf
 rw [List.lookup_cons,beq_eq_false_iff_ne.mpr h1]
 dsimp only
 rw [List.lookup_cons,beq_eq_false_iff_ne.mpr h2]
 rfl
theorem rf_peek (ta:Addr) (i:Int):(rf ta i).lookup ("peek":Str)=none:=rf_no ta i (by decide) (by decide)
theorem rf_sees (ta:Addr) (i:Int):(rf ta i).lookup ("sees":Str)=none:=rf_no ta i (by decide) (by decide)
theorem rf_take (ta:Addr) (i:Int):(rf ta i).lookup ("take":Str)=none:=rf_no ta i (by decide) (by decide)
theorem rf_take_end (ta:Addr) (i:Int):(rf ta i).lookup ("take_end":Str)=none:=rf_no ta i (by decide) (by decide)
theorem rf_take_digit (ta:Addr) (i:Int):(rf ta i).lookup ("take_digit":Str)=none:=rf_no ta i (by decide) (by decide)
theorem rf_take_number (ta:Addr) (i:Int):(rf ta i).lookup ("take_number":Str)=none:=rf_no ta i (by decide) (by decide)
theorem rf_take_character (ta:Addr) (i:Int):(rf ta i).lookup ("take_character":Str)=none:=rf_no ta i (by decide) (by decide)
theorem rf_take_long_letter (ta:Addr) (i:Int):(rf ta i).lookup ("take_long_letter":Str)=none:=rf_no ta i (by decide) (by decide)
theorem rf_take_thing (ta:Addr) (i:Int):(rf ta i).lookup ("take_thing":Str)=none:=rf_no ta i (by decide) (by decide)
theorem rf_ends_thing (ta:Addr) (i:Int):(rf ta i).lookup ("ends_thing":Str)=none:=rf_no ta i (by decide) (by decide)
theorem rf_take_head (ta:Addr) (i:Int):(rf ta i).lookup ("take_head":Str)=none:=rf_no ta i (by decide) (by decide)
theorem rf_take_things (ta:Addr) (i:Int):(rf ta i).lookup ("take_things":Str)=none:=rf_no ta i (by decide) (by decide)
def bsV (bs:List UInt8):List V:=bs.map fun c=>V.int (c.toNat:Int)
theorem bsV_at {bs:List UInt8}{p:Nat}{c:UInt8} (h:bs[p]?=some c):atI (bsV bs) (p:Int)=some (.int (c.toNat:Int)):=atI_nat (by unfold bsV;rw [List.getElem?_map,h];rfl)
theorem bsV_len (bs:List UInt8):(bsV bs).length=bs.length:=by unfold bsV;rw [List.length_map]
def Rdr (K:PySem.W.Frag) (a:Ad) (H:Hp) (r ta:Addr) (bs:List UInt8) (p:Nat):Prop:=∃ dx,H r=some (.ins a.CR dx (rf ta (p:Int)))∧SqL K H ta (bsV bs)∧ta≠r
section
variable {P:Program}{w:World}{K:PySem.W.Frag}{mg:Str→Option Value}{base:Heap}{a:Ad}
theorem Rdr.move {H H':Hp}{r dx ta:Addr}{bs:List UInt8}{p:Nat} (hS:SqL K H ta (bsV bs)) (ne:ta≠r) (k:Kp [r] H H') (e:H' r=some (.ins a.CR dx (rf ta (p:Int)))):Rdr K a H' r ta bs p :=
 ⟨dx,e,k.seq (by simpa using ne) hS,ne⟩
def sp_Reader_init (K:PySem.W.Frag) (a:Ad):Sp:=fun vs H Q _=>∃ (x dx ta:Addr) (bs:List UInt8),vs=[.ref x,.ref ta]∧H x=some (.ins a.CR dx [])∧SqL K H ta (bsV bs)∧ta≠x∧∀ H',Kp [x] H H'→Rdr K a H' x ta bs 0→Q .non H'
theorem rf_new (ta:Addr):putF "at" (.int 0) (putF "t" (.ref ta) [])=rf ta 0:=by
 show (if ("t":Str)="at" then _ else _)=_
 rw [if_neg (by decide)]
 rfl
abbrev s_Reader_init:Stmt:=inClass (top 26) 0
theorem sc_Reader_init:FnScope ["self","t"] ["self","t"] (defScope s_Reader_init):=⟨rfl,rfl,rfl,by decide +kernel,rfl,by decide +kernel,by decide +kernel⟩
theorem ok_Reader_init {f:Addr}{fd:FuncData} (F:Fun K "__init__" "Reader.__init__" s_Reader_init f fd) (T:Txt K mg a):FnOk P w K mg base CX0 1 f fd ["self","t"] (sp_Reader_init K a):=by
 refine F.ok sc_Reader_init (fun vs H Q E h=>?_) (fun cdv A outer s H vs Q E hr h=>?_)
 ·obtain ⟨x,dx,ta,bs,rfl,hR,hS,hne,q⟩:=h
  rfl
 ·obtain ⟨x,dx,ta,bs,rfl,hR,hS,hne,q⟩:=h
  have nd:=sc_Reader_init.nd
  refine ⟨_,(pss_cons (ps_fld (pv 0) (pv 1) rfl) (pss_one (ps_fld (pv 0) pe_int rfl))),?_⟩
  have hR2:=hR
  walk_at "rdr"
  have k:Kp [x] H (upd (upd H x (HO.ins a.CR dx (putF "t" (V.ref ta) []))) x (HO.ins a.CR dx (putF "at" (V.int 0) (putF "t" (V.ref ta) [])))):=(Kp.put (by simp)).trans (Kp.put (by simp))
  exact ⟨by decide,(by show 1<1000;decide),q _ k (Rdr.move (dx:=dx) hS hne k (by rw [upd_same,rf_new];rfl))⟩
def sp_Reader_peek (K:PySem.W.Frag) (a:Ad):Sp:=fun vs H Q _=>∃ (r ta:Addr) (bs:List UInt8) (p:Nat),vs=[.ref r]∧Rdr K a H r ta bs p∧Q (.int (pk bs p)) H
abbrev s_Reader_peek:Stmt:=inClass (top 26) 1
theorem sc_Reader_peek:FnScope ["self"] ["self"] (defScope s_Reader_peek):=⟨rfl,rfl,rfl,by decide +kernel,rfl,by decide +kernel,by decide +kernel⟩
theorem ok_Reader_peek {f:Addr}{fd:FuncData} (F:Fun K "peek" "Reader.peek" s_Reader_peek f fd) (T:Txt K mg a):FnOk P w K mg base CX0 1 f fd ["self"] (sp_Reader_peek K a):=by
 refine F.ok sc_Reader_peek (fun vs H Q E h=>?_) (fun cdv A outer s H vs Q E hr h=>?_)
 ·obtain ⟨r,ta,bs,p,rfl,⟨dx,hR,hS,hne⟩,q⟩:=h
  rfl
 ·obtain ⟨r,ta,bs,p,rfl,⟨dx,hR,hS,hne⟩,q⟩:=h
  have nd:=sc_Reader_peek.nd
  refine ⟨_,(pss_cons (ps_if (pt_cmpR op_lt (pe_fld (pv 0) rfl) (pe_callB call_len_seq rfl T.len PySem.boot_len (pa_cons (pe_fld (pv 0) rfl) pa_nil)) (nomark _)) (pss_one (ps_ret (pe_ix ix_list (pe_fld (pv 0) rfl) (pe_fld (pv 0) rfl) (fun _ _=>rfl)))) pss_nil) (pss_one (ps_ret (pe_gint T.cNO_BYTE)))),?_⟩
  have hR2:=hR
  walk_at "rdr"
  refine ⟨_,.inl hS,?_⟩
  rw [bsV_len]
  split
  ·rename_i h
   have hp:p<bs.length:=by lia
   have e:=List.getElem?_eq_getElem hp
   rw [pk_some e] at q
   exact ⟨_,hS,_,bsV_at e,q⟩
  ·rename_i h
   rw [pk_none.mpr (List.getElem?_eq_none (by lia))] at q
   exact q
def sp_Reader_sees (K:PySem.W.Frag) (a:Ad):Sp:=fun vs H Q _=>∃ (r ta:Addr) (bs:List UInt8) (p:Nat) (sg:Str) (n:Nat),vs=[.ref r,.str sg]∧Rdr K a H r ta bs p∧sg.length=1∧sg.cps.getD 0 0=n∧Q (.bl (decide (pk bs p=(n:Int)))) H
abbrev s_Reader_sees:Stmt:=inClass (top 26) 2
theorem sc_Reader_sees:FnScope ["self","sign"] ["self","sign"] (defScope s_Reader_sees):=⟨rfl,rfl,rfl,by decide +kernel,rfl,by decide +kernel,by decide +kernel⟩
theorem ok_Reader_sees {f:Addr}{fd:FuncData} (F:Fun K "sees" "Reader.sees" s_Reader_sees f fd) (T:Txt K mg a) (c_Reader_peek:MethC P w K mg base CX0 1 a.CR "peek" ["self"] (sp_Reader_peek K a)):FnOk P w K mg base CX0 2 f fd ["self","sign"] (sp_Reader_sees K a):=by
 refine F.ok sc_Reader_sees (fun vs H Q E h=>?_) (fun cdv A outer s H vs Q E hr h=>?_)
 ·obtain ⟨r,ta,bs,p,sg,n,rfl,⟨dx,hR,hS,hne⟩,h1,h2,q⟩:=h
  rfl
 ·obtain ⟨r,ta,bs,p,sg,n,rfl,⟨dx,hR,hS,hne⟩,h1,h2,q⟩:=h
  have nd:=sc_Reader_sees.nd
  refine ⟨_,(pss_one (ps_ret (pe_cmpR op_eq (pe_methC0 (pv 0) T.clReader c_Reader_peek hr pass0) (pe_callB call_ord rfl T.ord boot_ord (pa_cons (pv 1) pa_nil)) (nomark _)))),?_⟩
  have hR2:=hR
  walk_at "rdr"
  refine ⟨rf_peek _ _,r,ta,bs,p,rfl,⟨dx,hR,hS,hne⟩,?_⟩
  walk_at "rdr"
  refine ⟨h1,?_⟩
  rw [h2]
  exact q
def Out (K:PySem.W.Frag) (a:Ad) (H:Hp) (r ta:Addr) (bs:List UInt8) (p:Nat) {α:Type} (rd:Vh.Rd α) (Q:α→Hp→Prop) (E:XK):Prop :=
 (∀ x p' H',rd p (bs.drop p)=.ok (x,p',bs.drop p')→Kp [r] H H'→Rdr K a H' r ta bs p'→Q x H')∧∀ p' H',rd p (bs.drop p)=.error p'→Rdr K a H' r ta bs p'→E (.ref a.CE) none H'
def sp_Reader_take (K:PySem.W.Frag) (a:Ad):Sp:=fun vs H Q E=>∃ (r ta:Addr) (bs:List UInt8) (p:Nat) (sg:Str) (c:UInt8),vs=[.ref r,.str sg]∧Rdr K a H r ta bs p∧sg.length=1∧sg.cps.getD 0 0=c.toNat∧Out K a H r ta bs p (Vh.byte_ c) (fun _ H'=>Q .non H') E
abbrev s_Reader_take:Stmt:=inClass (top 26) 3
theorem sc_Reader_take:FnScope ["self","sign"] ["self","sign"] (defScope s_Reader_take):=⟨rfl,rfl,rfl,by decide +kernel,rfl,by decide +kernel,by decide +kernel⟩
theorem ok_Reader_take {f:Addr}{fd:FuncData} (F:Fun K "take" "Reader.take" s_Reader_take f fd) (T:Txt K mg a) (c_Reader_sees:MethC P w K mg base CX0 2 a.CR "sees" ["self","sign"] (sp_Reader_sees K a)):FnOk P w K mg base (CX1 P w a.CE) 3 f fd ["self","sign"] (sp_Reader_take K a):=by
 refine F.okE sc_Reader_take (fun vs H Q E h=>?_) (fun cdv A outer s H vs Q E hr h=>?_)
 ·obtain ⟨r,ta,bs,p,sg,c,rfl,⟨dx,hR,hS,hne⟩,h1,h2,q1,q2⟩:=h
  rfl
 ·obtain ⟨r,ta,bs,p,sg,c,rfl,⟨dx,hR,hS,hne⟩,h1,h2,q1,q2⟩:=h
  have nd:=sc_Reader_take.nd
  refine ⟨_,(pss_cons (ps_if (pt_not (pt_val (pe_methC (pv 0) T.clReader c_Reader_sees hr pass0 (pa_cons (pv 1) pa_nil)))) (pss_one (ps_raise T.exc rfl (pa_cons pe_str pa_nil))) pss_nil) (pss_one (ps_fldaug (pv 0) pe_int in_add))),?_⟩
  have hR2:=hR
  walk_at "rdr"
  refine ⟨rf_sees _ _,r,ta,bs,p,sg,_,rfl,⟨dx,hR,hS,hne⟩,h1,h2,?_⟩
  walk_at "rdr"
  split
  ·rename_i h
   exact ⟨by decide,q2 p H (byte_no h) ⟨dx,hR,hS,hne⟩⟩
  ·rename_i h
   have h:=Decidable.not_not.mp h
   refine ⟨by decide,q1 () (p+1) _ (byte_ok h) (Kp.put (by simp)) (Rdr.move (dx:=dx) hS hne (Kp.put (by simp)) ?_)⟩
   rw [upd_same];rfl
def sp_Reader_take_end (K:PySem.W.Frag) (a:Ad):Sp:=fun vs H Q E=>∃ (r ta:Addr) (bs:List UInt8) (p:Nat),vs=[.ref r]∧Rdr K a H r ta bs p∧(bs[p]?=none→Q .non H)∧(bs[p]?≠none→E (.ref a.CE) none H)
abbrev s_Reader_take_end:Stmt:=inClass (top 26) 4
theorem sc_Reader_take_end:FnScope ["self"] ["self"] (defScope s_Reader_take_end):=⟨rfl,rfl,rfl,by decide +kernel,rfl,by decide +kernel,by decide +kernel⟩
theorem ok_Reader_take_end {f:Addr}{fd:FuncData} (F:Fun K "take_end" "Reader.take_end" s_Reader_take_end f fd) (T:Txt K mg a) (c_Reader_peek:MethC P w K mg base CX0 1 a.CR "peek" ["self"] (sp_Reader_peek K a)):FnOk P w K mg base (CX1 P w a.CE) 2 f fd ["self"] (sp_Reader_take_end K a):=by
 refine F.okE sc_Reader_take_end (fun vs H Q E h=>?_) (fun cdv A outer s H vs Q E hr h=>?_)
 ·obtain ⟨r,ta,bs,p,rfl,⟨dx,hR,hS,hne⟩,q1,q2⟩:=h
  rfl
 ·obtain ⟨r,ta,bs,p,rfl,⟨dx,hR,hS,hne⟩,q1,q2⟩:=h
  have nd:=sc_Reader_take_end.nd
  refine ⟨_,(pss_one (ps_if (pt_cmpR op_ne (pe_methC0 (pv 0) T.clReader c_Reader_peek hr pass0) (pe_gint T.cNO_BYTE) (nomark _)) (pss_one (ps_raise T.exc rfl (pa_cons pe_str pa_nil))) pss_nil)),?_⟩
  have hR2:=hR
  walk_at "rdr"
  refine ⟨rf_peek _ _,r,ta,bs,p,rfl,⟨dx,hR,hS,hne⟩,?_⟩
  walk_at "rdr"
  split
  ·rename_i h
   exact ⟨by decide,q2 fun z=>h (pk_none.mpr z)⟩
  ·rename_i h
   exact q1 (pk_none.mp (Decidable.not_not.mp h))
def sp_Reader_take_digit (K:PySem.W.Frag) (a:Ad):Sp:=fun vs H Q E=>∃ (r ta:Addr) (bs:List UInt8) (p v lo hi:Nat),vs=[.ref r,.int v,.int lo,.int hi]∧Rdr K a H r ta bs p∧hi<10 ^ 11 ∧
 (∀ n H',dig bs lo hi v p=some n→Kp [r] H H'→Rdr K a H' r ta bs (p+1)→Q (.int n) H')∧(dig bs lo hi v p=none→E (.ref a.CE) none H)
abbrev s_Reader_take_digit:Stmt:=inClass (top 26) 5
theorem sc_Reader_take_digit:FnScope ["self","value","low","high","digit"] ["self","value","low","high"] (defScope s_Reader_take_digit):=⟨rfl,rfl,rfl,by decide +kernel,rfl,by decide +kernel,by decide +kernel⟩
theorem ok_Reader_take_digit {f:Addr}{fd:FuncData} (F:Fun K "take_digit" "Reader.take_digit" s_Reader_take_digit f fd) (T:Txt K mg a) (c_Reader_peek:MethC P w K mg base CX0 1 a.CR "peek" ["self"] (sp_Reader_peek K a)) (c_begins_some:FnC P w K mg base CX0 1 "begins_some" ["value","low","high"] (sp_begins_some K a)):FnOk P w K mg base (CX1 P w a.CE) 2 f fd ["self","value","low","high"] (sp_Reader_take_digit K a):=by
 refine F.okE sc_Reader_take_digit (fun vs H Q E h=>?_) (fun cdv A outer s H vs Q E hr h=>?_)
 ·obtain ⟨r,ta,bs,p,v,lo,hi,rfl,⟨dx,hR,hS,hne⟩,hhi,q1,q2⟩:=h
  rfl
 ·obtain ⟨r,ta,bs,p,v,lo,hi,rfl,⟨dx,hR,hS,hne⟩,hhi,q1,q2⟩:=h
  have nd:=sc_Reader_take_digit.nd
  refine ⟨_,(pss_cons (ps_set (i:=4) nd rfl (Or.inl rfl) (pe_op op_sub (pe_methC0 (pv 0) T.clReader c_Reader_peek hr pass0) pe_int)) (pss_cons (ps_if (PW.pt (pw_or (pt_not (pt_chain op_le op_le pe_int (pv 4) pe_int)) (pw_or1 (pt_not (pt_val (pe_callC c_begins_some hr pass0 (pa_cons (pe_op op_add (pe_op op_mul (pv 1) pe_int) (pv 4)) (pa_cons (pv 2) (pa_cons (pv 3) pa_nil))))))))) (pss_one (ps_raise T.exc rfl (pa_cons pe_str pa_nil))) pss_nil) (pss_cons (ps_fldaug (pv 0) pe_int in_add) (pss_one (ps_ret (pe_op op_add (pe_op op_mul (pv 1) pe_int) (pv 4))))))),?_⟩
  have hR2:=hR
  walk_at "rdr"
  refine ⟨rf_peek _ _,r,ta,bs,p,rfl,⟨dx,hR,hS,hne⟩,?_⟩
  walk_at "rdr"
  by_cases h1:48≤pk bs p∧pk bs p≤57
  ·rw [if_pos (by lia),if_neg (by lia)]
   have e:((v:Int) * 10+(pk bs p-48))=((v * 10+(pk bs p-48).toNat:Nat):Int):=by lia
   refine ⟨.inr (by lia),v * 10+(pk bs p-48).toNat,lo,hi,by rw [e],hhi,?_⟩
   walk_at "rdr"
   split
   ·rename_i h2
    refine ⟨by decide,q2 ?_⟩
    unfold dig
    rw [if_neg (fun z=>by rw [h2] at z;exact Bool.false_ne_true z.2.2)]
   ·rename_i h2
    rw [e]
    refine ⟨by decide,.inr (by lia),q1 _ _ ?_ (Kp.put (by simp)) (Rdr.move (dx:=dx) hS hne (Kp.put (by simp)) (by rw [upd_same];rfl))⟩
    unfold dig
    rw [if_pos ⟨h1.1,h1.2,by simpa using h2⟩]
  ·have no:dig bs lo hi v p=none:=by
    unfold dig
    rw [if_neg (fun z=>h1 ⟨z.1,z.2.1⟩)]
   split
   ·rw [if_pos (by lia)]
    exact ⟨by decide,q2 no⟩
   ·exact ⟨by decide,q2 no⟩
def sp_Reader_take_number (K:PySem.W.Frag) (a:Ad):Sp:=fun vs H Q E=>∃ (r ta:Addr) (bs:List UInt8) (p lo hi:Nat),vs=[.ref r,.int lo,.int hi]∧Rdr K a H r ta bs p∧hi<10 ^ 11 ∧
 (∀ x p' H',Vh.num lo hi p (bs.drop p)=.ok (x,p',bs.drop p')→lo≤x→x≤hi→Kp [r] H H'→Rdr K a H' r ta bs p'→Q (.int (x:Nat)) H') ∧
 (∀ p' H',(Vh.num lo hi p (bs.drop p)=.error p'∨∃ x,Vh.num lo hi p (bs.drop p)=.ok (x,p',bs.drop p')∧48≤pk bs p'∧pk bs p'≤57)→Rdr K a H' r ta bs p'→E (.ref a.CE) none H')
abbrev s_Reader_take_number:Stmt:=inClass (top 26) 6
theorem sc_Reader_take_number:FnScope ["self","low","high","value"] ["self","low","high"] (defScope s_Reader_take_number):=⟨rfl,rfl,rfl,by decide +kernel,rfl,by decide +kernel,by decide +kernel⟩
theorem ok_Reader_take_number {f:Addr}{fd:FuncData} (F:Fun K "take_number" "Reader.take_number" s_Reader_take_number f fd) (T:Txt K mg a) (c_Reader_take_digit:MethC P w K mg base (CX1 P w a.CE) 2 a.CR "take_digit" ["self","value","low","high"] (sp_Reader_take_digit K a)) (c_Reader_peek:MethC P w K mg base CX0 1 a.CR "peek" ["self"] (sp_Reader_peek K a)):FnOk P w K mg base (CX1 P w a.CE) 3 f fd ["self","low","high"] (sp_Reader_take_number K a):=by
 refine F.okE sc_Reader_take_number (fun vs H Q E h=>?_) (fun cdv A outer s H vs Q E hr h=>?_)
 ·obtain ⟨r,ta,bs,p,lo,hi,rfl,⟨dx,hR,hS,hne⟩,hhi,q1,q2⟩:=h
  rfl
 ·obtain ⟨r,ta,bs,p,lo,hi,rfl,⟨dx,hR,hS,hne⟩,hhi,q1,q2⟩:=h
  have nd:=sc_Reader_take_number.nd
  refine ⟨_,(pss_cons (ps_set (i:=3) nd rfl (Or.inl rfl) (pe_methC (pv 0) T.clReader c_Reader_take_digit hr passX (pa_cons pe_int (pa_cons (pv 1) (pa_cons (pv 2) pa_nil))))) (pss_cons (ps_while PassesOwn.leaving (PW.pt (pw_and (pt_cmpR op_gt (pv 3) pe_int (nomark _)) (pw_and1 (pt_chain op_le op_le pe_int (pe_methC0 (pv 0) T.clReader c_Reader_peek hr pass0) pe_int)))) (pss_one (ps_set (i:=3) nd rfl (Or.inl rfl) (pe_methC (pv 0) T.clReader c_Reader_take_digit hr passX (pa_cons (pv 3) (pa_cons (pv 1) (pa_cons (pv 2) pa_nil))))))) (pss_cons (ps_if (pt_cmpR op_lt (pv 3) (pv 1) (nomark _)) (pss_one (ps_raise T.exc rfl (pa_cons pe_str pa_nil))) pss_nil) (pss_one (ps_ret (pv 3)))))),?_⟩
  have hR2:=hR
  walk_at "rdr"
  refine ⟨rf_take_digit _ _,r,ta,bs,p,0,lo,hi,rfl,⟨dx,hR,hS,hne⟩,hhi,fun n H1 hn k1 R1=>?_,fun hn=>q2 p H (.inl (num_none hn)) ⟨dx,hR,hS,hne⟩⟩
  obtain ⟨W,hW⟩:∃ W:WT,W=fun m σ H'=>∃ v p',σ=[some (.ref r),some (.int lo),some (.int hi),some (.int (v:Nat))]∧Rdr K a H' r ta bs p'∧Kp [r] H H'∧v≤hi∧m=hi+1-v ∧
   (v=0→Vh.num lo hi p (bs.drop p)=if lo=0 then .ok (0,p',bs.drop p') else .error p')∧(v≠0→∃ f,NumAt bs lo hi p v p' f):=⟨_,rfl⟩
  walk_at "rd"
  refine ⟨W,⟨_,by
   rw [hW]
   refine ⟨n,p+1,rfl,R1,k1,(dig_le hn).1,rfl,fun z=>?_,fun z=>⟨19,num_first hn,(dig_le hn).1,by lia⟩⟩
   rw [num_first hn,z,digits_zero]⟩,fun m σ H2 hw=>?_⟩
  rw [hW] at hw
  obtain ⟨v,p2,rfl,⟨dx2,hR,hS,hne⟩,k2,hv,rfl,hz,hnz⟩:=hw
  have hR2:=hR
  walk_at "rdr"
  split
  ·rename_i h0
   have hv0:v≠0:=by lia
   obtain ⟨f,N⟩:=hnz hv0
   have hf:1≤f:=by
    cases f with
    | zero=>have:=N.big;lia
    | succ f=>lia
   obtain ⟨f,rfl⟩:∃ g,f=g+1:=⟨f-1,by lia⟩
   have eq:=N.eq
   rw [digits_succ lo hi f (some v) bs p2 (by simp [hv0])] at eq
   have eq:Vh.num lo hi p (bs.drop p)=match dig bs lo hi v p2 with | some n=>Vh.digits lo hi f (some n) (p2+1) (bs.drop (p2+1)) | none=>if lo≤v∧v≤hi then .ok (v,p2,bs.drop p2) else .error p2:=eq
   refine ⟨rf_peek _ _,r,ta,bs,p2,rfl,⟨dx2,hR,hS,hne⟩,?_⟩
   walk_at "rdr"
   have stop:dig bs lo hi v p2=none→Rdr K a H2 r ta bs p2→if (v:Int)<lo then 1≤sizeLine∧E (.ref a.CE) none H2 else Q (.int v) H2:=fun hd R=>by
    rw [hd] at eq
    dsimp only at eq
    split
    ·rename_i h1
     rw [if_neg (by lia)] at eq
     exact ⟨by decide,q2 p2 H2 (.inl eq) R⟩
    ·rename_i h1
     rw [if_pos ⟨by lia,hv⟩] at eq
     exact q1 v p2 H2 eq (by lia) hv k2 R
   by_cases hd:48≤pk bs p2∧pk bs p2≤57
   ·rw [if_pos hd.1,if_pos hd.2]
    refine ⟨fun σ' H'=>∃ m',m' < hi+1-v∧W m' σ' H',fun _ _ z=>z,rf_take_digit _ _,r,ta,bs,p2,v,lo,hi,rfl,⟨dx2,hR,hS,hne⟩,hhi,fun n H3 hn k3 R3=>?_,fun hn=>?_⟩
    ·walk_at "rd"
     rw [hn] at eq
     have b:=dig_le hn
     refine ⟨hi+1-n,by lia,?_⟩
     rw [hW]
     refine ⟨n,p2+1,rfl,R3,k2.trans k3,b.1,rfl,fun z=>by lia,fun _=>⟨f,eq,b.1,?_⟩⟩
     have h1:=N.big
     have h2:=Nat.mul_le_mul_right (10 ^ f * 10) b.2.1
     have e1:v * 10 ^ (f+1) * 10=v * 10 * (10 ^ f * 10):=by rw [Nat.pow_succ];simp only [Nat.mul_assoc,Nat.mul_comm,Nat.mul_left_comm]
     have e2:n * 10 ^ f * 10=n * (10 ^ f * 10):=by rw [Nat.mul_assoc]
     lia
    ·rw [hn] at eq
     dsimp only at eq
     by_cases h1:lo≤v∧v≤hi
     ·rw [if_pos h1] at eq
      exact q2 p2 H2 (.inr ⟨v,eq,hd⟩) ⟨dx2,hR,hS,hne⟩
     ·rw [if_neg h1] at eq
      exact q2 p2 H2 (.inl eq) ⟨dx2,hR,hS,hne⟩
   ·have no:dig bs lo hi v p2=none:=by
     unfold dig
     rw [if_neg (fun z=>hd ⟨z.1,z.2.1⟩)]
    have st:=stop no ⟨dx2,hR,hS,hne⟩
    split
    ·rw [if_neg (by lia)]
     exact st
    ·exact st
  ·rename_i h0
   have hv0:v=0:=by lia
   have eq:=hz hv0
   subst hv0
   split
   ·rename_i h1
    rw [if_neg (by lia)] at eq
    exact ⟨by decide,q2 p2 H2 (.inl eq) ⟨dx2,hR,hS,hne⟩⟩
   ·rename_i h1
    rw [if_pos (by lia)] at eq
    exact q1 0 p2 H2 eq (by lia) (by lia) k2 ⟨dx2,hR,hS,hne⟩
end
local macro_rules | `(tactic| walk_at "gs")=>`(tactic| (try dsimp only [L2.start,L2.cxE,L2.cxOf,List.map,List.length_cons,List.length_nil,List.replicate,List.cons_append,List.nil_append,Nat.sub_self,Nat.zero_add,Nat.add_sub_cancel,Nat.reduceAdd,Nat.reduceSub]))
set_option hygiene false in
local macro_rules | `(tactic| walk_at "g1")=>`(tactic| with_reducible first | refine g_hold fun M hM=>?_ | refine g_v0 ?_ | refine g_v1 ?_ | refine g_v2 ?_ | refine g_v3 ?_ | refine g_nx ?_ | refine g_next ?_ | refine g_ret ?_ | refine g_drop ?_ | refine g_asg ?_ | refine g_op ?_ | refine g_C ?_ | refine g_rI0 ?_ | refine g_cons ?_ | refine g_nil ?_ | refine g_call ?_ | refine g_CB ?_ | refine g_BM ?_ | refine g_ifS ?_ | refine g_test ?_ | refine g_B ?_ | refine g_exB ?_ | refine g_exI ?_ | refine g_l1R ?_ | refine g_l2I ?_ | refine g_iteT ?_ | refine g_iteF ?_ | refine g_iteD ?_ | refine g_eqI ?_ | refine g_iteND ?_ | refine g_iteN ?_ | refine g_and ?_ | refine g_or ?_ | refine g_not ?_ | refine g_rI ?_ | refine g_chain ?_ | refine g_ipI ?_ | refine g_rAdd ?_ | refine g_raise ?_ | refine g_tup ?_ | refine g_lst ?_ | refine g_append ?_ | refine g_extend ?_ | refine g_sl ?_ | refine g_noPart ?_ | refine g_part ?_ | refine g_slL ?_ | refine g_make ?_ | refine g_fld ?_ | refine g_meth ?_ | refine g_sfld ?_ | refine g_sfldaug ?_ | refine g_ixL ?_ | refine g_ixT ?_ | refine g_rt ?_ | refine g_yes ?_ | refine g_n1 ?_ | refine g_n2 ?_ | refine g_n3 ?_ | refine g_n4 ?_ | refine g_n5 ?_ | refine g_n6 ?_ | refine g_v4 ?_ | refine g_v5 ?_ | refine g_v6 ?_ | refine g_a2 ?_ | refine g_a3 ?_ | refine hM _ _ _ ?_)
set_option hygiene false in
local macro_rules | `(tactic| walk_at "g2")=>`(tactic| with_reducible first | refine g_meth1 hR (by first | exact rf_peek _ _ | exact rf_sees _ _ | exact rf_take _ _ | exact rf_take_number _ _ | exact rf_take_thing _ _ | exact rf_take_things _ _ | exact rf_take_digit _ _ | exact rf_take_character _ _ | exact rf_take_long_letter _ _ | exact rf_take_end _ _ | exact rf_ends_thing _ _ | exact rf_take_head _ _) ?_ | refine g_fld1 hR T.clReader (by first | exact T.n_t | exact T.n_at) (by first | exact rf_t _ _ | exact rf_at _ _) ?_ | refine g_sfldaug1 hR T.clReader T.n_at (rf_at _ _) ?_ | refine g_aug2 hR ?_ | refine g_sfld1 hR T.clReader (by first | exact T.n_t | exact T.n_at) ?_ | refine g_meth1 hR2 (by first | exact rf_peek _ _ | exact rf_sees _ _ | exact rf_take _ _ | exact rf_take_number _ _ | exact rf_take_thing _ _ | exact rf_take_things _ _ | exact rf_take_digit _ _ | exact rf_take_character _ _ | exact rf_take_long_letter _ _ | exact rf_take_end _ _ | exact rf_ends_thing _ _ | exact rf_take_head _ _) ?_ | refine g_fld1 hR2 T.clReader (by first | exact T.n_t | exact T.n_at) (by first | exact rf_t _ _ | exact rf_at _ _) ?_ | refine g_sfldaug1 hR2 T.clReader T.n_at (rf_at _ _) ?_ | refine g_aug2 hR2 ?_ | refine g_sfld1 hR2 T.clReader (by first | exact T.n_t | exact T.n_at) ?_)
local macro_rules | `(tactic| walk_at "gr")=>`(tactic| repeat (first | walk_at "g1" | walk_at "g2"))
section
variable {P:Program}{w:World}{K:PySem.W.Frag}{mg:Str→Option Value}{base:Heap}{a:Ad}
theorem atBase {n:Nat}:atI [V.int 192,V.int 224,V.int 240] ((moreL n:Int)+1-2)=some (.int (baseL n:Int)):=by
 unfold moreL baseL
 split
 ·rfl
 ·split <;> rfl
def sp_Reader_take_long_letter (K:PySem.W.Frag) (a:Ad):Sp:=fun vs H Q E=>∃ (r ta:Addr) (bs:List UInt8) (p:Nat) (c:UInt8),vs=[.ref r,.int (c.toNat:Int),.int ((moreL c.toNat:Int)+1)]∧Rdr K a H r ta bs p∧bs[p]?=some c∧194≤c.toNat∧c.toNat≤244 ∧
 Out K a H r ta bs p Vh.letter_ (fun x H'=>Q (.int (x:Nat)) H') E
abbrev s_Reader_take_long_letter:Stmt:=inClass (top 26) 9
theorem sc_Reader_take_long_letter:FnScope ["self","lead","size","value","bounds","left","byte"] ["self","lead","size"] (defScope s_Reader_take_long_letter):=⟨rfl,rfl,rfl,by decide +kernel,rfl,by decide +kernel,by decide +kernel⟩
theorem ok_Reader_take_long_letter {f:Addr}{fd:FuncData} (F:Fun K "take_long_letter" "Reader.take_long_letter" s_Reader_take_long_letter f fd) (T:Txt K mg a) (c_bounds_behind:FnC P w K mg base CX0 1 "bounds_behind" ["lead"] (sp_bounds_behind K a)) (c_Reader_peek:MethC P w K mg base CX0 1 a.CR "peek" ["self"] (sp_Reader_peek K a)) (c_is_letter:FnC P w K mg base CX0 1 "is_letter" ["character"] (sp_is_letter K a)):FnOk P w K mg base (CX1 P w a.CE) 2 f fd ["self","lead","size"] (sp_Reader_take_long_letter K a):=by
 refine F.okE sc_Reader_take_long_letter (fun vs H Q E h=>?_) (fun cdv A outer s H vs Q E hr h=>?_)
 ·obtain ⟨r,ta,bs,p,c,rfl,⟨dx,hR,hS,hne⟩,hc,h1,h2,q1,q2⟩:=h
  rfl
 ·obtain ⟨r,ta,bs,p,c,rfl,⟨dx,hR,hS,hne⟩,hc,h1,h2,q1,q2⟩:=h
  have nd:=sc_Reader_take_long_letter.nd
  refine ⟨_,(pss_cons (ps_fldaug (pv 0) pe_int in_add) (pss_cons (ps_set (i:=3) nd rfl (Or.inl rfl) (pe_op op_sub (pv 1) (pe_ix ix_tup (pe_tup (pa_cons pe_int (pa_cons pe_int (pa_cons pe_int pa_nil)))) (pe_op op_sub (pv 2) pe_int) (fun _ _=>rfl)))) (pss_cons (ps_set (i:=4) nd rfl (Or.inl rfl) (pe_callC c_bounds_behind hr pass0 (pa_cons (pv 1) pa_nil))) (pss_cons (ps_for PassesOwn.leaving rfl (pi_range3 rfl T.range (pa_cons (pe_op op_sub (pv 2) pe_int) (pa_cons (pe_un un_neg pe_int) (pa_cons (pe_un un_neg pe_int) pa_nil)))) (pg_name (i:=5) nd rfl (Or.inl rfl)) (pss_cons (ps_set (i:=6) nd rfl (Or.inl rfl) (pe_methC0 (pv 0) T.clReader c_Reader_peek hr pass0)) (pss_cons (ps_if (pt_not (pt_chain op_le op_le (pe_ix ix_tup (pv 4) pe_int (fun _ _=>rfl)) (pv 6) (pe_ix ix_tup (pv 4) pe_int (fun _ _=>rfl)))) (pss_one (ps_raise T.exc rfl (pa_cons pe_str pa_nil))) pss_nil) (pss_cons (ps_set (i:=3) nd rfl (Or.inl rfl) (pe_op op_sub (pe_op op_add (pe_op op_mul (pv 3) pe_int) (pv 6)) pe_int)) (pss_cons (ps_if (PW.pt (pw_and (pt_cmpR op_eq (pv 5) pe_int (nomark _)) (pw_and1 (pt_not (pt_val (pe_callC c_is_letter hr pass0 (pa_cons (pv 3) pa_nil))))))) (pss_one (ps_raise T.exc rfl (pa_cons pe_str pa_nil))) pss_nil) (pss_cons (ps_fldaug (pv 0) pe_int in_add) (pss_one (ps_set (i:=4) nd rfl (Or.inl rfl) (pe_tup (pa_cons pe_int (pa_cons pe_int pa_nil))))))))))) (pss_one (ps_ret (pv 3))))))),?_⟩
  walk_at "gs"
  have hR2:=hR
  have hlong:=long_letter hc h1 h2
  have z3:3≤sizeLine:=by decide
  have z2:2≤sizeLine:=by decide
  walk_at "gr"
  refine ⟨(show 2<1000 by decide),?_⟩
  walk_at "gr"
  refine ⟨z3,fun t1 ht1=>?_⟩
  walk_at "gr"
  refine ⟨_,.inl (.inl upd_same),_,atBase,?_⟩
  walk_at "gr"
  refine ⟨_,rfl,fun t2 ht2=>?_⟩
  walk_at "gr"
  have m3:moreL c.toNat≤3∧1≤moreL c.toNat:=by unfold moreL;split <;> (try split) <;> lia
  have ne1:t1≠r:=fun z=>by rw [z,upd_same] at ht1;cases ht1
  have ne2:t2≠r:=fun z=>by rw [z,upd_ne (Ne.symm ne1),upd_same] at ht2;cases ht2
  obtain ⟨Pv,hP⟩:∃ Pv:WT,Pv=fun i σ H'=>∃ (v:Nat) (lo hi:Int) (b:Addr) (p':Nat) (o1 o2:Option V),
   σ=[some (.ref r),some (.int (c.toNat:Int)),some (.int ((moreL c.toNat:Int)+1)),some (.int (v:Int)),some (.ref b),o1,o2]∧Rdr K a H' r ta bs p'∧Kp [r] H H'∧H' b=some (.tup [.int lo,.int hi])∧128≤lo∧hi≤191 ∧
   longR bs (moreL c.toNat) (c.toNat-baseL c.toNat) (blo c.toNat) (bhi c.toNat) (p+1)=longR bs (moreL c.toNat-i) v lo hi p':=⟨_,rfl⟩
  walk_at "gr"
  refine ⟨_,rfl,_,_,rfl,rfl,_,rfl,_,rfl,_,_,_,_,rfl,RgC.neg (by lia) (by lia) (by lia) (by lia),for_rangeC Pv ?_ ?_ ?_⟩
  ·have e:((c.toNat:Int)-(baseL c.toNat:Int))=((c.toNat-baseL c.toNat:Nat):Int):=by unfold baseL;split <;> (try split) <;> lia
   have k1:Kp [r] H (upd (upd (upd H r (HO.ins a.CR dx (rf ta ((p:Int)+1)))) t1 (HO.tup [V.int 192,V.int 224,V.int 240])) t2 (HO.tup [V.int (blo c.toNat),V.int (bhi c.toNat)])) :=
    ((Kp.put (by simp)).trans (Kp.new ht1)).trans (Kp.new ht2)
   rw [hP]
   walk_at "gr"
   refine ⟨_,_,_,t2,p+1,none,none,by rw [e],Rdr.move (dx:=dx) hS hne k1 (by rw [upd_ne (Ne.symm ne2),upd_ne (Ne.symm ne1),upd_same];rfl),k1,upd_same,?_,?_,rfl⟩
   ·unfold blo;split <;> (try split) <;> lia
   ·unfold bhi;split <;> (try split) <;> lia
  ·intro i σ H2 hi hw
   rw [hP] at hw
   obtain ⟨v,lo,hi',b,p2,o1,o2,rfl,⟨dx2,hR,hS,hne⟩,k2,hb,l1,l2,eq⟩:=hw
   have hi:i<moreL c.toNat:=by lia
   obtain ⟨m,hm⟩:∃ m,moreL c.toNat-i=m+1:=⟨moreL c.toNat-i-1,by lia⟩
   rw [hm] at eq
   rw [eq] at hlong
   have hR2:=hR
   have R:Rdr K a H2 r ta bs p2:=⟨dx2,hR,hS,hne⟩
   walk_at "gr"
   refine ⟨r,ta,bs,p2,rfl,R,?_⟩
   walk_at "gr"
   walk_at "gr"
   refine ⟨_,.inl (.inl hb),_,rfl,_,rfl,?_⟩
   walk_at "gr"
   by_cases hin:lo≤pk bs p2∧pk bs p2≤hi'
   ·rw [if_pos hin.1]
    walk_at "gr"
    refine ⟨_,.inl (.inl hb),_,rfl,?_⟩
    walk_at "gr"
    rw [if_neg (by lia)]
    walk_at "gr"
    refine ⟨.inr (by lia),?_⟩
    walk_at "gr"
    have ev:((v:Int) * 64+pk bs p2-128)=((v * 64+((pk bs p2).toNat-128):Nat):Int):=by lia
    simp only [ev]
    rw [longR,if_pos hin] at eq hlong
    have nxt:¬ (m=0∧isL ((v * 64+((pk bs p2).toNat-128):Nat):Int)=false)→2<1000∧2≤sizeLine∧∀ t,upd H2 r (HO.ins a.CR dx2 (rf ta ((p2:Int)+1))) t=none →
      Pv (i+1) [some (V.ref r),some (V.int (c.toNat:Int)),some (V.int ((moreL c.toNat:Int)+1)),some (V.int ((v * 64+((pk bs p2).toNat-128):Nat):Int)),some (V.ref t),some (V.int ((moreL c.toNat:Int)+1-2+(i:Int) * -1)),some (V.int (pk bs p2))]
       (upd (upd H2 r (HO.ins a.CR dx2 (rf ta ((p2:Int)+1)))) t (HO.tup [V.int 128,V.int 191])):=fun hno=>by
     walk_at "gr"
     refine ⟨by decide,z2,fun t ht=>?_⟩
     walk_at "gr"
     rw [if_neg hno] at eq
     have net:t≠r:=fun z=>by rw [z,upd_same] at ht;cases ht
     have k3:Kp [r] H2 (upd (upd H2 r (HO.ins a.CR dx2 (rf ta ((p2:Int)+1)))) t (HO.tup [V.int 128,V.int 191])):=(Kp.put (by simp)).trans (Kp.new ht)
     rw [hP]
     exact ⟨_,128,191,t,p2+1,_,_,rfl,Rdr.move (dx:=dx2) hS hne k3 (by rw [upd_ne (Ne.symm net),upd_same];rfl),k2.trans k3,upd_same,by lia,by lia,by rw [eq,show moreL c.toNat-(i+1)=m by lia]⟩
    split
    ·rename_i h0
     walk_at "gr"
     refine ⟨_,rfl,?_⟩
     walk_at "gr"
     walk_at "gr"
     split
     ·rename_i h5
      rw [if_pos ⟨by lia,h5⟩] at hlong
      exact ⟨by decide,q2 p2 H2 hlong R⟩
     ·rename_i h5
      walk_at "gr"
      refine ⟨(show 2<1000 by decide),?_⟩
      walk_at "gr"
      refine ⟨z2,fun t ht=>?_⟩
      walk_at "gr"
      rw [rf_put] at ht ⊢
      exact (nxt (fun z=>h5 z.2)).2.2 t ht
    ·rename_i h0
     walk_at "gr"
     refine ⟨(show 2<1000 by decide),?_⟩
     walk_at "gr"
     refine ⟨z2,fun t ht=>?_⟩
     walk_at "gr"
     rw [rf_put] at ht ⊢
     exact (nxt (fun z=>h0 (by lia))).2.2 t ht
   ·have er:Vh.letter_ p (bs.drop p)=.error p2:=by rw [hlong,longR,if_neg hin];rfl
    split
    ·walk_at "gr"
     refine ⟨_,.inl (.inl hb),_,rfl,?_⟩
     walk_at "gr"
     rw [if_pos (by lia)]
     walk_at "gr"
     exact ⟨by decide,q2 p2 H2 er R⟩
    ·walk_at "gr"
     exact ⟨by decide,q2 p2 H2 er R⟩
  ·intro σ H2 hw
   rw [hP] at hw
   obtain ⟨v,lo,hi',b,p2,o1,o2,rfl,R,k2,hb,l1,l2,eq⟩:=hw
   walk_at "gr"
   rw [show moreL c.toNat-((moreL c.toNat:Int)+1-2 - -1).toNat=0 by lia,longR] at eq
   rw [eq] at hlong
   exact q1 v p2 H2 hlong k2 R
theorem inV_bs (n:Nat) (mk:List UInt8) (c:UInt8) (h:c.toNat=n):inV (.int (n:Int)) (bsV mk)=mk.contains c:=by
 subst h
 unfold inV bsV
 rw [List.any_map,List.contains_eq_any_beq]
 congr 1
 funext y
 show ((y.toNat:Int)==(c.toNat:Int))=(c==y)
 by_cases e:c=y
 ·subst e;simp
 ·rw [beq_eq_false_iff_ne.mpr e,beq_eq_false_iff_ne]
  intro z
  exact e (UInt8.toNat_inj.mp (by lia))
theorem flat_bs (mk:List UInt8):(bsV mk).all flatV=true:=by
 unfold bsV
 rw [List.all_map,List.all_eq_true];intro _ _;rfl
def sp_Reader_take_character (K:PySem.W.Frag) (a:Ad):Sp:=fun vs H Q E=>∃ (r ma ta:Addr) (bs mk:List UInt8) (p:Nat),vs=[.ref r,.ref ma]∧Rdr K a H r ta bs p∧(∀ H',Kp [r] H H'→SqT K H' ma (bsV mk))∧(∀ c∈mk,c.toNat<128) ∧
 Out K a H r ta bs p (char1 mk) (fun x H'=>Q (.int (x:Nat)) H') E
abbrev s_Reader_take_character:Stmt:=inClass (top 26) 8
theorem sc_Reader_take_character:FnScope ["self","marks","lead","size"] ["self","marks"] (defScope s_Reader_take_character):=⟨rfl,rfl,rfl,by decide +kernel,rfl,by decide +kernel,by decide +kernel⟩
theorem ok_Reader_take_character {f:Addr}{fd:FuncData} (F:Fun K "take_character" "Reader.take_character" s_Reader_take_character f fd) (T:Txt K mg a) (c_Reader_peek:MethC P w K mg base CX0 1 a.CR "peek" ["self"] (sp_Reader_peek K a)) (c_size_by_lead:FnC P w K mg base CX0 1 "size_by_lead" ["lead"] (sp_size_by_lead K a)) (c_Reader_take_long_letter:MethC P w K mg base (CX1 P w a.CE) 2 a.CR "take_long_letter" ["self","lead","size"] (sp_Reader_take_long_letter K a)) (c_is_letter:FnC P w K mg base CX0 1 "is_letter" ["character"] (sp_is_letter K a)):FnOk P w K mg base (CX1 P w a.CE) 3 f fd ["self","marks"] (sp_Reader_take_character K a):=by
 refine F.okE sc_Reader_take_character (fun vs H Q E h=>?_) (fun cdv A outer s H vs Q E hr h=>?_)
 ·obtain ⟨r,ma,ta,bs,mk,p,rfl,⟨dx,hR,hS,hne⟩,hma,hmk,q1,q2⟩:=h
  rfl
 ·obtain ⟨r,ma,ta,bs,mk,p,rfl,⟨dx,hR,hS,hne⟩,hma,hmk,q1,q2⟩:=h
  have nd:=sc_Reader_take_character.nd
  refine ⟨_,(pss_cons (ps_set (i:=2) nd rfl (Or.inl rfl) (pe_methC0 (pv 0) T.clReader c_Reader_peek hr pass0)) (pss_cons (ps_set (i:=3) nd rfl (Or.inl rfl) (pe_callC c_size_by_lead hr pass0 (pa_cons (pv 2) pa_nil))) (pss_cons (ps_if (pt_cmpR op_gt (pv 3) pe_int (nomark _)) (pss_one (ps_ret (pe_methC (pv 0) T.clReader c_Reader_take_long_letter hr passX (pa_cons (pv 2) (pa_cons (pv 3) pa_nil))))) pss_nil) (pss_cons (ps_if (PW.pt (pw_or (pt_cmpR op_eq (pv 3) pe_int (nomark _)) (pw_or1 (pt_not (PW.pt (pw_or (pt_val (pe_callC c_is_letter hr pass0 (pa_cons (pv 2) pa_nil))) (pw_or1 (pt_cmpR op_in_seq (pv 2) (pv 1) (by with_unfolding_all rfl))))))))) (pss_one (ps_raise T.exc rfl (pa_cons pe_str pa_nil))) pss_nil) (pss_cons (ps_fldaug (pv 0) pe_int in_add) (pss_one (ps_ret (pv 2)))))))),?_⟩
  have hR2:=hR
  have R:Rdr K a H r ta bs p:=⟨dx,hR,hS,hne⟩
  walk_at "rdr"
  refine ⟨rf_peek _ _,r,ta,bs,p,rfl,R,?_⟩
  walk_at "rdr"
  refine ⟨_,rfl,?_⟩
  walk_at "rdr"
  cases e:bs[p]? with
  | none =>
   rw [pk_none.mpr e]
   rw [if_neg (by decide),if_pos (by decide)]
   exact ⟨by decide,q2 p H (char1_no (by unfold cS;rw [e])) R⟩
  | some c =>
   rw [pk_some e]
   have hlt:=c.toNat_lt
   have er:128≤c.toNat→¬ (194≤c.toNat∧c.toNat≤244)→char1 mk p (bs.drop p)=.error p:=fun h1 h2=>char1_no (by
    unfold cS
    rw [e]
    dsimp only
    rw [Bool.or_eq_false_iff]
    constructor
    ·rw [List.contains_eq_any_beq,List.any_eq_false]
     intro y hy z
     have:=hmk y hy
     rw [← eq_of_beq z] at this
     lia
    ·unfold Vh.startsLetter
     rw [if_neg (by lia)]
     simp;lia)
   by_cases h1:c.toNat<128
   ·have es:sizeL (c.toNat:Int)=1:=by unfold sizeL;rw [if_pos (by lia)]
    rw [es,if_neg (by decide),if_neg (by decide)]
    refine ⟨_,rfl,?_⟩
    walk_at "rdr"
    have k1:Kp [r] H (upd H r (HO.ins a.CR dx (rf ta ((p:Int)+1)))):=Kp.put (by simp)
    have R1:Rdr K a (upd H r (HO.ins a.CR dx (rf ta ((p:Int)+1)))) r ta bs (p+1):=Rdr.move (dx:=dx) hS hne k1 (by rw [upd_same];rfl)
    have okc:(mk.contains c=true∨isL (c.toNat:Int)=true)→char1 mk p (bs.drop p)=.ok (c.toNat,p+1,bs.drop (p+1)):=fun h=>by
     unfold char1 Vh.byNext
     rw [head_drop,e]
     dsimp only
     by_cases hm:mk.contains c=true
     ·rw [if_pos hm];unfold Vh.behind Vh.gives;rw [drop_drop1]
     ·rw [if_neg hm]
      have hl:=h.resolve_left hm
      rw [isL_low h1] at hl
      unfold Vh.letter_ Vh.byNext
      rw [head_drop,e]
      dsimp only
      rw [if_neg (by unfold Vh.startsLetter;rw [if_pos h1,hl];decide),if_pos h1]
      unfold Vh.behind Vh.gives;rw [drop_drop1]
    split
    ·rename_i hl
     exact ⟨by decide,q1 _ _ _ (okc (.inr hl)) k1 R1⟩
    ·rename_i hl
     refine ⟨_,.inr (hma H Kp.refl),rfl,flat_bs mk,?_⟩
     rw [inV_bs _ mk c rfl]
     split
     ·rename_i hm
      refine ⟨by decide,q2 p H (char1_no ?_) R⟩
      unfold cS
      rw [e]
      dsimp only
      rw [hm]
      unfold Vh.startsLetter
      rw [if_pos h1,← isL_low h1]
      simpa using hl
     ·rename_i hm
      exact ⟨by decide,q1 _ _ _ (okc (.inl (by simpa using hm))) k1 R1⟩
   ·by_cases h2:194≤c.toNat∧c.toNat≤244
    ·have es:sizeL (c.toNat:Int)=(moreL c.toNat:Int)+1:=by
      unfold sizeL moreL
      rw [if_neg (by lia)]
      by_cases z1:c.toNat<224
      ·rw [if_pos (by lia),if_pos z1];rfl
      ·rw [if_neg (by lia),if_neg z1]
       by_cases z2:c.toNat<240
       ·rw [if_pos (by lia),if_pos z2];rfl
       ·rw [if_neg (by lia),if_pos (by lia),if_neg z2];rfl
     have m3:1≤moreL c.toNat:=by unfold moreL;split <;> (try split) <;> lia
     rw [es,if_pos (by lia)]
     have ec:char1 mk p (bs.drop p)=Vh.letter_ p (bs.drop p):=by
      unfold char1 Vh.byNext
      rw [head_drop,e]
      dsimp only
      rw [if_neg]
      intro z
      rw [List.contains_eq_any_beq,List.any_eq_true] at z
      refine foldP fun G0 hG0=>?_
      obtain ⟨y,hy,z⟩:=z
      refine hG0 ?_
      clear hG0
      have:=hmk y hy
      rw [← eq_of_beq z] at this
      lia
     rw [ec] at q1 q2
     exact ⟨rf_take_long_letter _ _,r,ta,bs,p,c,rfl,R,e,h2.1,h2.2,q1,q2⟩
    ·have es:sizeL (c.toNat:Int)=0:=by
      unfold sizeL
      rw [if_neg (by lia),if_neg (by lia),if_neg (by lia),if_neg (by lia)]
     rw [es,if_neg (by decide),if_pos rfl]
     exact ⟨by decide,q2 p H (er (by lia) h2) R⟩
end
section
variable {P:Program}{w:World}{K:PySem.W.Frag}{mg:Str→Option Value}{base:Heap}{a:Ad}
def lV (x:List Nat):List V:=x.map fun (n:Nat)=>V.int (n:Int)
theorem lV_len (x:List Nat):(lV x).length=x.length:=by unfold lV;rw [List.length_map]
theorem lV_snoc (x:List Nat) (n:Nat):lV x++[V.int (n:Int)]=lV (x++[n]):=by unfold lV;rw [List.map_append];rfl
def OutT (K:PySem.W.Frag) (a:Ad) (H:Hp) (r ta:Addr) (bs mk:List UInt8) (p k:Nat) (Q:VK) (E:XK):Prop :=
 (∀ x p' H' l,VhPage.someChars_ mk k p (bs.drop p)=.ok (x,p',bs.drop p')→x.length≤k→1≤x.length→H l=none→l≠r→Kp [r] H H'→H' l=some (.lst (lV x))→Rdr K a H' r ta bs p'→Q (.ref l) H') ∧
 ∀ p' H',(VhPage.someChars_ mk k p (bs.drop p)=.error p'∨∃ x,VhPage.someChars_ mk k p (bs.drop p)=.ok (x,p',bs.drop p')∧pk bs p'≠32∧pk bs p'≠10)→Rdr K a H' r ta bs p'→E (.ref a.CE) none H'
def MkOk (K:PySem.W.Frag) (H:Hp) (r ma:Addr) (mk:List UInt8):Prop:=(∀ H',Kp [r] H H'→SqT K H' ma (bsV mk))∧∀ c∈mk,33≤c.toNat∧c.toNat<128
theorem MkOk.kp {H H':Hp}{r ma:Addr}{mk:List UInt8} (h:MkOk K H r ma mk) (k:Kp [r] H H'):MkOk K H' r ma mk:=⟨fun H2 k2=>h.1 H2 (k.trans k2),h.2⟩
def endsT (bs mk:List UInt8) (p:Nat):Bool:=decide (pk bs p=32) || decide (pk bs p=10) || (marksI.contains (pk bs p) && !(mk.map fun c=>(c.toNat:Int)).contains (pk bs p))
theorem bsV_ints (mk:List UInt8):bsV mk=(mk.map fun c=>(c.toNat:Int)).map V.int:=by unfold bsV;rw [List.map_map];rfl
theorem cS_mark {bs mk:List UInt8}{p:Nat} (h:marksI.contains (pk bs p)=true) (h2:(mk.map fun c=>(c.toNat:Int)).contains (pk bs p)=false):cS bs mk p=false:=by
 unfold cS
 cases e:bs[p]? with
 | none=>rfl
 | some x =>
  rw [pk_some e] at h h2
  dsimp only
  rw [Bool.or_eq_false_iff]
  constructor
  ·cases z:mk.contains x with
   | false=>rfl
   | true =>
    have:(mk.map fun c=>(c.toNat:Int)).contains (x.toNat:Int)=true:=List.contains_iff_mem.mpr (List.mem_map.mpr ⟨x,List.contains_iff_mem.mp z,rfl⟩)
    rw [this] at h2;cases h2
  ·have hm:Vh.MARKS.contains x.toNat=true:=by
    have:=List.contains_iff_mem.mp h
    refine List.contains_iff_mem.mpr ?_
    have e2:marksI=Vh.MARKS.map fun (n:Nat)=>(n:Int):=by decide
    rw [e2] at this
    obtain ⟨y,hy,hy2⟩:=List.mem_map.mp this
    have hy3:y=x.toNat:=by lia
    rw [← hy3];exact hy
   have hlt:x.toNat<128:=by
    have h':=List.contains_iff_mem.mp hm
    have:∀ y∈Vh.MARKS,y<128:=by decide
    exact this _ h'
   unfold Vh.startsLetter
   rw [if_pos hlt]
   unfold Vh.isLetter
   rw [hm]
   simp
def sp_Reader_ends_thing (K:PySem.W.Frag) (a:Ad):Sp:=fun vs H Q _=>∃ (r ma ta:Addr) (bs mk:List UInt8) (p:Nat),vs=[.ref r,.ref ma]∧Rdr K a H r ta bs p∧SqT K H ma (bsV mk)∧Q (.bl (endsT bs mk p)) H
abbrev s_Reader_ends_thing:Stmt:=inClass (top 26) 10
theorem sc_Reader_ends_thing:FnScope ["self","marks","byte"] ["self","marks"] (defScope s_Reader_ends_thing):=⟨rfl,rfl,rfl,by decide +kernel,rfl,by decide +kernel,by decide +kernel⟩
theorem ok_Reader_ends_thing {f:Addr}{fd:FuncData} (F:Fun K "ends_thing" "Reader.ends_thing" s_Reader_ends_thing f fd) (T:Txt K mg a) (c_Reader_peek:MethC P w K mg base CX0 1 a.CR "peek" ["self"] (sp_Reader_peek K a)):FnOk P w K mg base CX0 2 f fd ["self","marks"] (sp_Reader_ends_thing K a):=by
 refine F.ok sc_Reader_ends_thing (fun vs H Q E h=>?_) (fun cdv A outer s H vs Q E hr h=>?_)
 ·obtain ⟨r,ma,ta,bs,mk,p,rfl,⟨dx,hR,hS,hne⟩,hma,q⟩:=h
  rfl
 ·obtain ⟨r,ma,ta,bs,mk,p,rfl,⟨dx,hR,hS,hne⟩,hma,q⟩:=h
  have nd:=sc_Reader_ends_thing.nd
  refine ⟨_,(pss_cons (ps_set (i:=2) nd rfl (Or.inl rfl) (pe_methC0 (pv 0) T.clReader c_Reader_peek hr pass0)) (pss_one (ps_ret (pe_or (pe_cmpR op_in_seq (pv 2) (pe_gref T.cENDS) (by with_unfolding_all rfl)) (pe_one (pe_and (pe_cmpR op_in_seq (pv 2) (pe_gref T.cMARKS) (by with_unfolding_all rfl)) (pe_one (pe_cmpR op_notIn_seq (pv 2) (pv 1) (by with_unfolding_all rfl))))))))),?_⟩
  have hR2:=hR
  rw [bsV_ints] at hma
  unfold endsT at q
  walk_at "rdr"
  refine ⟨rf_peek _ _,r,ta,bs,p,rfl,⟨dx,hR,hS,hne⟩,?_⟩
  generalize pk bs p=n at q ⊢
  walk_at "rdr"
  refine ⟨_,.inr (T.tENDS H),rfl,rfl,?_⟩
  have e1:inV (V.int n) [V.int 32,V.int 10]=(decide (n=32) || decide (n=10)):=by
   rw [show [V.int 32,V.int 10]=([32,10]:List Int).map V.int from rfl,inV_ints]
   show (n==32 || (n==10 || false))=_
   rw [Bool.or_false];rfl
  rw [e1]
  by_cases h1:(decide (n=32) || decide (n=10))=true
  ·rw [if_pos h1];rw [h1,Bool.true_or] at q;exact q
  ·rw [if_neg h1]
   have h1:(decide (n=32) || decide (n=10))=false:=by simpa using h1
   rw [h1,Bool.false_or] at q
   refine ⟨_,.inr (T.tMARKS H),rfl,flat_ints marksI,?_⟩
   rw [inV_ints]
   by_cases h2:marksI.contains n=true
   ·rw [if_pos h2]
    rw [h2,Bool.true_and] at q
    refine ⟨_,.inr hma,rfl,flat_ints _,?_⟩
    rw [inV_ints]
    exact q
   ·rw [if_neg h2]
    have h2:marksI.contains n=false:=by simpa using h2
    rw [h2,Bool.false_and] at q
    exact q
def sp_Reader_take_thing (K:PySem.W.Frag) (a:Ad):Sp:=fun vs H Q E=>∃ (r ma ta:Addr) (bs mk:List UInt8) (p k:Nat),vs=[.ref r,.int (k:Int),.ref ma]∧Rdr K a H r ta bs p∧MkOk K H r ma mk∧1≤k∧k≤1000∧OutT K a H r ta bs mk p k Q E
abbrev s_Reader_take_thing:Stmt:=inClass (top 26) 11
theorem sc_Reader_take_thing:FnScope ["self","most","marks","thing"] ["self","most","marks"] (defScope s_Reader_take_thing):=⟨rfl,rfl,rfl,by decide +kernel,rfl,by decide +kernel,by decide +kernel⟩
theorem ok_Reader_take_thing {f:Addr}{fd:FuncData} (F:Fun K "take_thing" "Reader.take_thing" s_Reader_take_thing f fd) (T:Txt K mg a) (c_Reader_take_character:MethC P w K mg base (CX1 P w a.CE) 3 a.CR "take_character" ["self","marks"] (sp_Reader_take_character K a)) (c_Reader_ends_thing:MethC P w K mg base CX0 2 a.CR "ends_thing" ["self","marks"] (sp_Reader_ends_thing K a)):FnOk P w K mg base (CX1 P w a.CE) 4 f fd ["self","most","marks"] (sp_Reader_take_thing K a):=by
 refine F.okE sc_Reader_take_thing (fun vs H Q E h=>?_) (fun cdv A outer s H vs Q E hr h=>?_)
 ·obtain ⟨r,ma,ta,bs,mk,p,k,rfl,⟨dx,hR,hS,hne⟩,hma,hk1,hk2,q1,q2⟩:=h
  rfl
 ·obtain ⟨r,ma,ta,bs,mk,p,k,rfl,⟨dx,hR,hS,hne⟩,hma,hk1,hk2,q1,q2⟩:=h
  have nd:=sc_Reader_take_thing.nd
  refine ⟨_,(pss_cons (ps_set (i:=3) nd rfl (Or.inl rfl) (pe_lst (pa_cons (pe_methC (pv 0) T.clReader c_Reader_take_character hr passX (pa_cons (pv 2) pa_nil)) pa_nil))) (pss_cons (ps_while PassesOwn.leaving (PW.pt (pw_and (pt_cmpR op_lt (pe_callB call_len_seq rfl T.len PySem.boot_len (pa_cons (pv 3) pa_nil)) (pv 1) (nomark _)) (pw_and1 (pt_not (pt_val (pe_methC (pv 0) T.clReader c_Reader_ends_thing hr pass0 (pa_cons (pv 2) pa_nil))))))) (pss_one (ps_expr (pe_bm PySem.F.plainAttrs_list PySem.F.slot_list_append PySem.F.type_list_append mt_append (pv 3) (pa_cons (pe_methC (pv 0) T.clReader c_Reader_take_character hr passX (pa_cons (pv 2) pa_nil)) pa_nil))))) (pss_one (ps_ret (pv 3))))),?_⟩
  walk_at "gs"
  have hR2:=hR
  have R:Rdr K a H r ta bs p:=⟨dx,hR,hS,hne⟩
  obtain ⟨k',rfl⟩:∃ k',k=k'+1:=⟨k-1,by lia⟩
  have hS0:=hS
  have hm33:∀ c∈mk,33≤c.toNat:=fun c hc=>(hma.2 c hc).1
  walk_at "gr"
  refine ⟨r,ma,ta,bs,mk,p,rfl,R,hma.1,fun c hc=>(hma.2 c hc).2,fun n p1 H1 e1 k1 R1=>?_,fun p1 H1 e1 R1=>?_⟩
  ·walk_at "gr"
   refine ⟨(show 1≤sizeLine by decide),fun l hl=>?_⟩
   walk_at "gr"
   have hs:cS bs mk p=true:=by
    cases z:cS bs mk p with
    | true=>rfl
    | false=>rw [char1_no z] at e1;cases e1
   have lr:l≠r:=fun z=>by
    refine foldP fun G0 hG0=>?_
    obtain ⟨_,h,_⟩:=R1
    refine hG0 ?_
    clear hG0
    rw [z,h] at hl;cases hl
   have hl0:H l=none:=k1.free (by simpa using lr) hl
   obtain ⟨W,hW⟩:∃ W:WT,W=fun m σ H'=>∃ (xs:List Nat) (p':Nat),σ=[some (.ref r),some (.int ((k'+1:Nat):Int)),some (.ref ma),some (.ref l)]∧H' l=some (.lst (lV xs))∧Rdr K a H' r ta bs p'∧Kp [r] H H'∧1≤xs.length∧xs.length≤k'+1 ∧
    VhPage.chars_ mk (k'+1) p (bs.drop p)=preO xs (VhPage.chars_ mk (k'+1-xs.length) p' (bs.drop p'))∧m=k'+1-xs.length:=⟨_,rfl⟩
   walk_at "gr"
   refine ⟨W,⟨_,by
    rw [hW]
    have k2:Kp [r] H1 (upd H1 l (HO.lst [V.int (n:Int)])):=Kp.new hl
    have R2:Rdr K a (upd H1 l (HO.lst [V.int (n:Int)])) r ta bs p1:=by
     refine foldP fun G0 hG0=>?_
     obtain ⟨dx1,a1,a2,a3⟩:=R1
     refine hG0 ?_
     clear hG0
     exact Rdr.move (dx:=dx1) a2 a3 k2 (by rw [upd_ne (Ne.symm lr)];exact a1)
    exact ⟨[n],p1,rfl,upd_same,R2,k1.trans k2,by simp,by simp,chars_ok hs e1,rfl⟩⟩,fun m σ H2 hw=>?_⟩
   rw [hW] at hw
   refine foldP fun G0 hG0=>?_
   obtain ⟨xs,p2,rfl,hl2,⟨dx2,hR,hS,hne⟩,k2,x1,x2,eq,rfl⟩:=hw
   refine hG0 ?_
   clear hG0
   have hR2:=hR
   have R2:Rdr K a H2 r ta bs p2:=⟨dx2,hR,hS,hne⟩
   have fin:(xs.length=k'+1∨cS bs mk p2=false)→Q (.ref l) H2:=fun h=>by
    have e:VhPage.chars_ mk (k'+1) p (bs.drop p)=.ok (xs,p2,bs.drop p2):=by
     rw [eq]
     rcases h with h | h
     ·rw [h,Nat.sub_self,VhPage.chars_]
      unfold Vh.gives
      show Except.ok (xs++[],_,_)=_
      rw [List.append_nil]
     ·rw [chars_no h]
      show Except.ok (xs++[],_,_)=_
      rw [List.append_nil]
    exact q1 xs p2 H2 l (some_of_chars e (by cases xs <;> simp at x1 ⊢)) x2 x1 hl0 lr k2 hl2 R2
   walk_at "gr"
   refine ⟨_,.inl (.inl (.inl hl2)),?_⟩
   walk_at "gr"
   rw [lV_len]
   by_cases hlen:xs.length=k'+1
   ·rw [if_neg (by lia)]
    walk_at "gr"
    exact fin (.inl hlen)
   ·rw [if_pos (by lia)]
    walk_at "gr"
    refine ⟨r,ma,ta,bs,mk,p2,rfl,R2,(hma.kp k2).1 _ Kp.refl,?_⟩
    walk_at "gr"
    walk_at "gr"
    cases hend:endsT bs mk p2 with
    | true =>
     rw [if_neg (by decide)]
     walk_at "gr"
     refine fin (.inr ?_)
     unfold endsT at hend
     rw [Bool.or_eq_true,Bool.or_eq_true,decide_eq_true_eq,decide_eq_true_eq,Bool.and_eq_true] at hend
     rcases hend with hend | hend
     ·exact cS_not hm33 hend
     ·exact cS_mark hend.1 (by simpa using hend.2)
    | false =>
      rw [if_pos rfl]
      walk_at "gr"
      have h32:pk bs p2≠32:=fun z=>by unfold endsT at hend;rw [z] at hend;simp at hend
      have h10:pk bs p2≠10:=fun z=>by unfold endsT at hend;rw [z] at hend;simp at hend
      walk_at "gr"
      refine ⟨fun σ' H'=>∃ m',m' < k'+1-xs.length∧W m' σ' H',fun _ _ z=>z,?_⟩
      walk_at "gr"
      have ex:k'+1-xs.length=(k'+1-(xs.length+1))+1:=by lia
      walk_at "gr"
      refine ⟨.inl ⟨rfl,_,.inl (.inl hl2)⟩,?_⟩
      walk_at "gr"
      refine ⟨r,ma,ta,bs,mk,p2,rfl,R2,(hma.kp k2).1,fun c hc=>(hma.2 c hc).2,fun n3 p3 H3 e3 k3 R3=>?_,fun p3 H3 e3 R3=>?_⟩
      ·have hs2:cS bs mk p2=true:=by
        cases z:cS bs mk p2 with
        | true=>rfl
        | false=>rw [char1_no z] at e3;cases e3
       have hl3:H3 l=some (.lst (lV xs)):=k3 _ _ hl2 (by simpa using lr)
       walk_at "gr"
       refine ⟨_,hl3,?_,k'+1-(xs.length+1),by lia,?_⟩
       ·rw [lV_len];exact Nat.lt_of_le_of_lt (show xs.length≤1000 by lia) (by decide)
       ·rw [hW,lV_snoc]
        have k4:Kp [r] H (upd H3 l (HO.lst (lV (xs++[n3])))):=(k2.trans k3).put2 (.inr hl0)
        have R4:Rdr K a (upd H3 l (HO.lst (lV (xs++[n3])))) r ta bs p3:=by
         refine foldP fun G0 hG0=>?_
         obtain ⟨dx1,a1,a2,a3⟩:=R3
         refine hG0 ?_
         clear hG0
         exact ⟨dx1,by rw [upd_ne (Ne.symm lr)];exact a1,k4.seq (by simpa using hne) hS0,hne⟩
        walk_at "gr"
        refine ⟨xs++[n3],p3,rfl,upd_same,R4,k4,by simp,by simp;lia,?_,by simp⟩
        walk_at "gr"
        rw [eq,ex,chars_ok hs2 e3,preO_pre]
        simp
      ·refine q2 p3 H3 ?_ R3
       by_cases hs2:cS bs mk p2=true
       ·exact .inl (some_err (by rw [eq,ex,chars_err hs2 e3];rfl))
       ·have hs2:cS bs mk p2=false:=by simpa using hs2
        rw [char1_no hs2] at e3
        injection e3 with e3
        subst e3
        refine .inr ⟨xs,some_of_chars ?_ (by cases xs <;> simp at x1 ⊢),h32,h10⟩
        rw [eq,chars_no hs2]
        show Except.ok (xs++[],_,_)=_
        rw [List.append_nil]
  ·refine q2 p1 H1 (.inl ?_) R1
   by_cases hs:cS bs mk p=true
   ·exact some_err (chars_err hs e1)
   ·have hs:cS bs mk p=false:=by simpa using hs
    rw [char1_no hs] at e1
    injection e1 with e1
    subst e1
    exact some_nil (chars_no hs)
end
section
variable {P:Program}{w:World}{K:PySem.W.Frag}{mg:Str→Option Value}{base:Heap}{a:Ad}
def LN (H H':Hp) (x:List Nat) (v:V):Prop:=∃ l,v=.ref l∧H' l=some (.lst (lV x))∧H l=none
theorem Paired.snoc {α β:Type}{R:α→β→Prop}:∀ {xs:List α}{ys:List β}{x:α}{y:β},Paired R xs ys→R x y→Paired R (xs++[x]) (ys++[y])
 | _,_,_,_,.nil,h=>.cons h .nil
 | _,_,_,_,.cons r t,h=>.cons r (Paired.snoc t h)
theorem Paired.app {α β:Type}{R:α→β→Prop}:∀ {xs xs':List α}{ys ys':List β},Paired R xs ys→Paired R xs' ys'→Paired R (xs++xs') (ys++ys')
 | _,_,_,_,.nil,h=>h
 | _,_,_,_,.cons r t,h=>.cons r (Paired.app t h)
def OutR (K:PySem.W.Frag) (a:Ad) (H:Hp) (r ta:Addr) (bs mk:List UInt8) (p n k:Nat) (Q:VK) (E:XK):Prop :=
 (∀ xs vs p' H' l,VhPage.row_ (VhPage.someChars_ mk k) n p (bs.drop p)=(if pk bs p'=10 then .ok (xs,p'+1,bs.drop (p'+1)) else .error p')→1≤xs.length→xs.length≤n→(∀ x∈xs,x.length≤k)→H l=none→Kp [r] H H'→H' l=some (.lst vs)→Paired (LN H H') xs vs →
  Rdr K a H' r ta bs p'→Q (.ref l) H') ∧
 ∀ p' H',VhPage.row_ (VhPage.someChars_ mk k) n p (bs.drop p)=.error p'→Rdr K a H' r ta bs p'→E (.ref a.CE) none H'
def sp_Reader_take_things (K:PySem.W.Frag) (a:Ad):Sp:=fun vs H Q E=>∃ (r ma ta:Addr) (bs mk:List UInt8) (p n k:Nat),vs=[.ref r,.int (n:Int),.int (k:Int),.ref ma]∧Rdr K a H r ta bs p∧MkOk K H r ma mk∧1≤n∧n≤8192∧1≤k∧k≤1000 ∧
 OutR K a H r ta bs mk p n k Q E
abbrev s_Reader_take_things:Stmt:=inClass (top 26) 12
theorem sc_Reader_take_things:FnScope ["self","most_things","most","marks","things"] ["self","most_things","most","marks"] (defScope s_Reader_take_things):=⟨rfl,rfl,rfl,by decide +kernel,rfl,by decide +kernel,by decide +kernel⟩
theorem ok_Reader_take_things {f:Addr}{fd:FuncData} (F:Fun K "take_things" "Reader.take_things" s_Reader_take_things f fd) (T:Txt K mg a) (c_Reader_take_thing:MethC P w K mg base (CX1 P w a.CE) 4 a.CR "take_thing" ["self","most","marks"] (sp_Reader_take_thing K a)) (c_Reader_sees:MethC P w K mg base CX0 2 a.CR "sees" ["self","sign"] (sp_Reader_sees K a)) (c_Reader_take:MethC P w K mg base (CX1 P w a.CE) 3 a.CR "take" ["self","sign"] (sp_Reader_take K a)):FnOk P w K mg base (CX1 P w a.CE) 5 f fd ["self","most_things","most","marks"] (sp_Reader_take_things K a):=by
 refine F.okE sc_Reader_take_things (fun vs H Q E h=>?_) (fun cdv A outer s H vs Q E hr h=>?_)
 ·obtain ⟨r,ma,ta,bs,mk,p,n,k,rfl,⟨dx,hR,hS,hne⟩,hma,hn1,hn2,hk1,hk2,q1,q2⟩:=h
  rfl
 ·obtain ⟨r,ma,ta,bs,mk,p,n,k,rfl,⟨dx,hR,hS,hne⟩,hma,hn1,hn2,hk1,hk2,q1,q2⟩:=h
  have nd:=sc_Reader_take_things.nd
  refine ⟨_,(pss_cons (ps_set (i:=4) nd rfl (Or.inl rfl) (pe_lst (pa_cons (pe_methC (pv 0) T.clReader c_Reader_take_thing hr passX (pa_cons (pv 2) (pa_cons (pv 3) pa_nil))) pa_nil))) (pss_cons (ps_while PassesOwn.leaving (PW.pt (pw_and (pt_val (pe_methC (pv 0) T.clReader c_Reader_sees hr pass0 (pa_cons pe_str pa_nil))) (pw_and1 (pt_cmpR op_lt (pe_callB call_len_seq rfl T.len PySem.boot_len (pa_cons (pv 4) pa_nil)) (pv 1) (nomark _))))) (pss_cons (ps_expr (pe_methC (pv 0) T.clReader c_Reader_take hr passX (pa_cons pe_str pa_nil))) (pss_one (ps_expr (pe_bm PySem.F.plainAttrs_list PySem.F.slot_list_append PySem.F.type_list_append mt_append (pv 4) (pa_cons (pe_methC (pv 0) T.clReader c_Reader_take_thing hr passX (pa_cons (pv 2) (pa_cons (pv 3) pa_nil))) pa_nil)))))) (pss_one (ps_ret (pv 4))))),?_⟩
  walk_at "gs"
  have hR2:=hR
  have R:Rdr K a H r ta bs p:=⟨dx,hR,hS,hne⟩
  have hS0:=hS
  obtain ⟨n',rfl⟩:∃ n',n=n'+1:=⟨n-1,by lia⟩
  walk_at "gr"
  have bad:∀ {m p1:Nat},(pk bs p1≠32∧pk bs p1≠10)→rowTail (VhPage.someChars_ mk k) m p1 (bs.drop p1)=.error p1:=fun h=>tail_no h.2 (.inr h.1)
  walk_at "gr"
  refine ⟨r,ma,ta,bs,mk,p,k,rfl,R,hma,hk1,hk2,fun x p1 H1 l1 e1 x2 x1 hl1 l1r k1 hx R1=>?_,fun p1 H1 e1 R1=>?_⟩
  ·walk_at "gr"
   refine ⟨(show 1≤sizeLine by decide),fun l hl=>?_⟩
   walk_at "gr"
   have lr:l≠r:=fun z=>by
    refine foldP fun G0 hG0=>?_
    obtain ⟨_,h,_⟩:=R1
    refine hG0 ?_
    clear hG0
    rw [z,h] at hl;cases hl
   have hl0:H l=none:=k1.free (by simpa using lr) hl
   have ll1:l1≠l:=fun z=>by rw [z,hl] at hx;cases hx
   obtain ⟨W,hW⟩:∃ W:WT,W=fun m σ H'=>∃ (xs:List (List Nat)) (vs:List V) (p':Nat),σ=[some (.ref r),some (.int ((n'+1:Nat):Int)),some (.int (k:Int)),some (.ref ma),some (.ref l)]∧H' l=some (.lst vs)∧Paired (fun x v=>LN H H' x v∧v≠.ref l) xs vs∧Rdr K a H' r ta bs p'∧Kp [r] H H'∧1≤xs.length∧xs.length≤n'+1∧(∀ x∈xs,x.length≤k) ∧
    VhPage.row_ (VhPage.someChars_ mk k) (n'+1) p (bs.drop p)=preO xs (rowTail (VhPage.someChars_ mk k) (n'+1-xs.length) p' (bs.drop p'))∧m=n'+1-xs.length:=⟨_,rfl⟩
   walk_at "gr"
   refine ⟨W,⟨_,by
    rw [hW]
    have k2:Kp [r] H1 (upd H1 l (HO.lst [V.ref l1])):=Kp.new hl
    have R2:Rdr K a (upd H1 l (HO.lst [V.ref l1])) r ta bs p1:=by
     refine foldP fun G0 hG0=>?_
     obtain ⟨dx1,a1,a2,a3⟩:=R1
     refine hG0 ?_
     clear hG0
     exact Rdr.move (dx:=dx1) a2 a3 k2 (by rw [upd_ne (Ne.symm lr)];exact a1)
    exact ⟨[x],[.ref l1],p1,rfl,upd_same,.cons ⟨⟨l1,rfl,by rw [upd_ne ll1];exact hx,hl1⟩,fun z=>ll1 (V.ref.inj z)⟩ .nil,R2,k1.trans k2,by simp,by simp,by simpa using x2,row_ok e1,rfl⟩⟩,fun m σ H2 hw=>?_⟩
   rw [hW] at hw
   refine foldP fun G0 hG0=>?_
   obtain ⟨xs,vs,p2,rfl,hl2,hP,⟨dx2,hR,hS,hne⟩,k2,x1,x2,x3,eq,rfl⟩:=hw
   refine hG0 ?_
   clear hG0
   have hR2:=hR
   have R2:Rdr K a H2 r ta bs p2:=⟨dx2,hR,hS,hne⟩
   have hlen:=Paired.length hP
   have fin:(xs.length=n'+1∨pk bs p2≠32)→Q (.ref l) H2:=fun h=>by
    refine q1 xs vs p2 H2 l ?_ x1 x2 x3 hl0 k2 hl2 (Paired.mapP hP fun _ _ z=>z.1) R2
    rw [eq]
    by_cases h10:pk bs p2=10
    ·rw [tail10 h10,if_pos h10]
     show Except.ok (xs++[],_,_)=_
     rw [List.append_nil]
    ·rw [tail_no h10 (h.imp (fun z=>by lia) id),if_neg h10]
     rfl
   walk_at "gr"
   refine ⟨r,ta,bs,p2,_,32,rfl,R2,by decide,by decide,?_⟩
   walk_at "gr"
   walk_at "gr"
   by_cases h32:pk bs p2=32
   ·rw [if_pos (by simpa using h32)]
    walk_at "gr"
    refine ⟨_,.inl (.inl (.inl hl2)),?_⟩
    walk_at "gr"
    rw [← hlen]
    by_cases hfull:xs.length=n'+1
    ·rw [if_neg (by lia)]
     walk_at "gr"
     exact fin (.inl hfull)
    ·rw [if_pos (by lia)]
     walk_at "gr"
     refine ⟨fun σ' H'=>∃ m',m' < n'+1-xs.length∧W m' σ' H',fun _ _ z=>z,?_⟩
     walk_at "gr"
     have ex:n'+1-xs.length=(n'+1-(xs.length+1))+1:=by lia
     have eqt:VhPage.row_ (VhPage.someChars_ mk k) (n'+1) p (bs.drop p)=preO xs (VhPage.row_ (VhPage.someChars_ mk k) (n'+1-xs.length) (p2+1) (bs.drop (p2+1))):=by rw [eq,tail32 h32 (by lia)]
     walk_at "gr"
     refine ⟨r,ta,bs,p2,_,32,rfl,R2,by decide,by decide,fun _ p3 H3 e3 k3 R3=>?_,fun p3 H3 e3 R3=>?_⟩
     ·have ep:p3=p2+1:=by
       rw [byte_ok (c:=32) h32] at e3
       injection e3 with e3;injection e3 with _ e3;injection e3 with e3 _
       exact e3.symm
      subst ep
      refine foldP fun G0 hG0=>?_
      obtain ⟨dx3,hR,hS,hne⟩:=R3
      refine hG0 ?_
      clear hG0
      have hR2:=hR
      have R3:Rdr K a H3 r ta bs (p2+1):=⟨dx3,hR,hS,hne⟩
      have hl3:H3 l=some (.lst vs):=k3 _ _ hl2 (by simpa using lr)
      simp only [tBM,rAppend]
      walk_at "gr"
      refine ⟨.inl ⟨rfl,_,.inl (.inl hl3)⟩,?_⟩
      walk_at "gr"
      refine ⟨r,ma,ta,bs,mk,p2+1,k,rfl,R3,hma.kp (k2.trans k3),hk1,hk2,fun x p4 H4 l4 e4 y2 y1 hl4 l4r k4 hx4 R4=>?_,fun p4 H4 e4 R4=>?_⟩
      ·have hl4':H4 l=some (.lst vs):=k4 _ _ hl3 (by simpa using lr)
       have ne4:l4≠l:=fun z=>by rw [z,hl3] at hl4;cases hl4
       walk_at "gr"
       refine ⟨_,hl4',?_,n'+1-(xs.length+1),by lia,?_⟩
       ·rw [← hlen];exact Nat.lt_of_le_of_lt (show xs.length≤8192 by lia) (by decide)
       ·rw [hW]
        have k5:Kp [r] H (upd H4 l (HO.lst (vs++[V.ref l4]))):=((k2.trans k3).trans k4).put2 (.inr hl0)
        have R5:Rdr K a (upd H4 l (HO.lst (vs++[V.ref l4]))) r ta bs p4:=by
         refine foldP fun G0 hG0=>?_
         obtain ⟨dx1,a1,a2,a3⟩:=R4
         refine hG0 ?_
         clear hG0
         exact ⟨dx1,by rw [upd_ne (Ne.symm lr)];exact a1,k5.seq (by simpa using hne) hS0,hne⟩
        walk_at "gr"
        refine ⟨xs++[x],vs++[.ref l4],p4,rfl,upd_same,Paired.snoc (Paired.mapP hP ?_) ⟨⟨l4,rfl,by rw [upd_ne ne4];exact hx4,(k2.trans k3).free (by simpa using l4r) hl4⟩,fun z=>ne4 (V.ref.inj z)⟩,R5,k5,by simp,by simp;lia,fun z hz=>(List.mem_append.mp hz).elim (x3 z) (fun h=>by rw [List.mem_singleton.mp h];exact y2),?_,by simp⟩
        ·rintro y v ⟨⟨b,rfl,hb,hb0⟩,nb⟩
         have br:b≠r:=fun z=>by
          refine foldP fun G0 hG0=>?_
          obtain ⟨_,h,_⟩:=R
          refine hG0 ?_
          clear hG0
          rw [z,h] at hb0;cases hb0
         have nb:b≠l:=fun z=>nb (by rw [z])
         exact ⟨⟨b,rfl,by rw [upd_ne nb];exact k4 _ _ (k3 _ _ hb (by simpa using br)) (by simpa using br),hb0⟩,fun z=>nb (V.ref.inj z)⟩
        ·rw [eqt,ex,row_ok e4,preO_pre]
         simp
      ·refine q2 p4 H4 ?_ R4
       rw [eqt,ex]
       rcases e4 with e4 | ⟨x,e4,hb⟩
       ·rw [row_err e4];rfl
       ·rw [row_ok e4,bad hb];rfl
     ·rw [byte_ok (c:=32) h32] at e3
      cases e3
   ·rw [if_neg (by simpa using h32)]
    walk_at "gr"
    exact fin (.inr h32)
  ·refine q2 p1 H1 ?_ R1
   rcases e1 with e1 | ⟨x,e1,hb⟩
   ·exact row_err e1
   ·rw [row_ok e1,bad hb];rfl
end
section
variable {P:Program}{w:World}{K:PySem.W.Frag}{mg:Str→Option Value}{base:Heap}{a:Ad}
theorem Paired.get {α β:Type}{R:α→β→Prop}:∀ {xs:List α}{ys:List β}{i:Nat}{y:β},Paired R xs ys→ys[i]?=some y→∃ x,xs[i]?=some x∧R x y
 | _,_,_,_,.nil,e=>by simp at e
 | _,_,0,_,.cons r _,e=>by simp at e;subst e;exact ⟨_,rfl,r⟩
 | _,_,i+1,y,.cons _ t,e=>by
  obtain ⟨u,h1,h2⟩:=Paired.get (i:=i) (y:=y) t (by simpa using e)
  exact ⟨u,by simpa using h1,h2⟩
theorem Paired.getL {α β:Type}{R:α→β→Prop}:∀ {xs:List α}{ys:List β},Paired R xs ys→xs.length=ys.length
 | _,_,.nil=>rfl
 | _,_,.cons _ t=>by simp [Paired.getL t]
def sp_Reader_take_head (K:PySem.W.Frag) (a:Ad):Sp:=fun vs H Q E=>∃ (r ab ta:Addr) (bs:List UInt8) (p:Nat) (bds:List (Nat×Nat)),vs=[.ref r,.ref ab]∧Rdr K a H r ta bs p∧BdT K ab bds∧bds.length≤8 ∧
 (∀ xs p' H' l,hdr bds p (bs.drop p)=.ok (xs,p',bs.drop p')→xs.length=bds.length→H l=none→Kp [r] H H'→H' l=some (.lst (lV xs))→Rdr K a H' r ta bs p'→Q (.ref l) H') ∧
 ∀ p' H',hdr bds p (bs.drop p)=.error p'→Rdr K a H' r ta bs p'→E (.ref a.CE) none H'
abbrev s_Reader_take_head:Stmt:=inClass (top 26) 7
theorem sc_Reader_take_head:FnScope ["self","all_bounds","numbers","bounds"] ["self","all_bounds"] (defScope s_Reader_take_head):=⟨rfl,rfl,rfl,by decide +kernel,rfl,by decide +kernel,by decide +kernel⟩
theorem ok_Reader_take_head {f:Addr}{fd:FuncData} (F:Fun K "take_head" "Reader.take_head" s_Reader_take_head f fd) (T:Txt K mg a) (c_Reader_take:MethC P w K mg base (CX1 P w a.CE) 3 a.CR "take" ["self","sign"] (sp_Reader_take K a)) (c_Reader_take_number:MethC P w K mg base (CX1 P w a.CE) 3 a.CR "take_number" ["self","low","high"] (sp_Reader_take_number K a)):FnOk P w K mg base (CX1 P w a.CE) 4 f fd ["self","all_bounds"] (sp_Reader_take_head K a):=by
 refine F.okE sc_Reader_take_head (fun vs H Q E h=>?_) (fun cdv A outer s H vs Q E hr h=>?_)
 ·obtain ⟨r,ab,ta,bs,p,bds,rfl,⟨dx,hR,hS,hne⟩,hB,hb8,q1,q2⟩:=h
  rfl
 ·obtain ⟨r,ab,ta,bs,p,bds,rfl,⟨dx,hR,hS,hne⟩,hB,hb8,q1,q2⟩:=h
  have nd:=sc_Reader_take_head.nd
  refine ⟨_,(pss_cons (ps_set (i:=2) nd rfl (Or.inl rfl) (pe_lst pa_nil)) (pss_cons (ps_expr (pe_methC (pv 0) T.clReader c_Reader_take hr passX (pa_cons pe_str pa_nil))) (pss_cons (ps_for PassesOwn.leaving rfl (pi_tup (pv 1)) (pg_name (i:=3) nd rfl (Or.inl rfl)) (pss_cons (ps_if (pt_cmpR op_gt (pe_callB call_len_seq rfl T.len PySem.boot_len (pa_cons (pv 2) pa_nil)) pe_int (nomark _)) (pss_one (ps_expr (pe_methC (pv 0) T.clReader c_Reader_take hr passX (pa_cons pe_str pa_nil)))) pss_nil) (pss_one (ps_expr (pe_bm PySem.F.plainAttrs_list PySem.F.slot_list_append PySem.F.type_list_append mt_append (pv 2) (pa_cons (pe_methC (pv 0) T.clReader c_Reader_take_number hr passX (pa_cons (pe_ix ix_tup (pv 3) pe_int (fun _ _=>rfl)) (pa_cons (pe_ix ix_tup (pv 3) pe_int (fun _ _=>rfl)) pa_nil))) pa_nil)))))) (pss_cons (ps_expr (pe_methC (pv 0) T.clReader c_Reader_take hr passX (pa_cons pe_str pa_nil))) (pss_one (ps_ret (pv 2))))))),?_⟩
  walk_at "gs"
  have hR2:=hR
  have R:Rdr K a H r ta bs p:=⟨dx,hR,hS,hne⟩
  have hS0:=hS
  obtain ⟨bv,tB,hP⟩:=hB
  have hbl:=Paired.getL hP
  walk_at "gr"
  refine ⟨by decide,fun l hl=>?_⟩
  walk_at "gr"
  have lr:l≠r:=fun z=>by rw [z,hR] at hl;cases hl
  have k0:Kp [r] H (upd H l (HO.lst [])):=Kp.new hl
  have hR:upd H l (HO.lst []) r=some (HO.ins a.CR dx (rf ta p)):=by rw [upd_ne (Ne.symm lr)];exact hR
  have R0:Rdr K a (upd H l (HO.lst [])) r ta bs p:=Rdr.move (dx:=dx) hS hne k0 hR
  walk_at "gr"
  refine ⟨r,ta,bs,p,_,94,rfl,R0,by decide,by decide,fun _ p1 H1 e1 k1 R1=>?_,fun p1 H1 e1 R1=>q2 p1 H1 (then_no e1) R1⟩
  walk_at "gr"
  obtain ⟨Pv,hPv⟩:∃ Pv:WT,Pv=fun i σ H'=>∃ (xs:List Nat) (p':Nat) (o:Option V),σ=[some (.ref r),some (.ref ab),some (.ref l),o]∧xs.length=i∧H' l=some (.lst (lV xs))∧Rdr K a H' r ta bs p'∧Kp [r] H H'∧hdr bds p (bs.drop p)=hd (bds.drop i) xs p' (bs.drop p'):=⟨_,rfl⟩
  walk_at "gr"
  refine ⟨_,rfl,_,rfl,⟨_,tB _⟩,for_tup (xs:=bv) Pv ?_ (fun _ _ _ _ _=>tB _) ?_ ?_⟩
  ·rw [hPv]
   walk_at "gr"
   refine ⟨[],p1,none,rfl,rfl,k1 _ _ upd_same (by simpa using lr),R1,k0.trans k1,?_⟩
   walk_at "gr"
   unfold hdr
   rw [then_ok e1,List.drop_zero]
  ·intro i v σ H2 hi hw
   rw [hPv] at hw
   obtain ⟨xs,p2,o,rfl,hxl,hl2,⟨dx2,hR,hS,hne⟩,k2,eq⟩:=hw
   have hR2:=hR
   have R2:Rdr K a H2 r ta bs p2:=⟨dx2,hR,hS,hne⟩
   obtain ⟨bd,hbd,b,rfl,tb,hhi⟩:=Paired.get hP hi
   have hib:=(List.getElem?_eq_some_iff.mp hbd).1
   have edrop:bds.drop i=bd::bds.drop (i+1):=by
    rw [List.drop_eq_getElem_cons hib]
    rw [List.getElem?_eq_getElem hib] at hbd
    injection hbd with hbd
    rw [hbd]
   rw [edrop] at eq
   -- the number and what follows
   have step:∀ p3 H3,Rdr K a H3 r ta bs p3→Kp [r] H2 H3→hdr bds p (bs.drop p)=Vh.andThen (Vh.num bd.1 bd.2) (fun x=>hd (bds.drop (i+1)) (xs++[x])) p3 (bs.drop p3) →
     ∀ Qk:VK,(∀ (x:Nat) H4,H4 l=some (.lst (lV xs))→Pv (i+1) [some (.ref r),some (.ref ab),some (.ref l),some (.ref b)] (upd H4 l (.lst (lV xs++[V.int (x:Int)])))→Qk (.int (x:Int)) H4) →
     sp_Reader_take_number K a [.ref r,.int (bd.1:Int),.int (bd.2:Int)] H3 Qk E:=fun p3 H3 R3 k3 eq3 Qk hQ=>by
    refine ⟨r,ta,bs,p3,bd.1,bd.2,rfl,R3,hhi,fun x p4 H4 e4 _ _ k4 R4=>?_,fun p4 H4 e4 R4=>?_⟩
    ·have hl4:H4 l=some (.lst (lV xs)):=k4 _ _ (k3 _ _ hl2 (by simpa using lr)) (by simpa using lr)
     refine hQ x H4 hl4 ?_
     rw [hPv,lV_snoc]
     have k5:Kp [r] H (upd H4 l (.lst (lV (xs++[x])))):=((k2.trans k3).trans k4).put2 (.inr hl)
     obtain ⟨dx4,a1,a2,a3⟩:=R4
     exact ⟨xs++[x],p4,_,rfl,by simp [hxl],upd_same,⟨dx4,by rw [upd_ne (Ne.symm lr)];exact a1,k5.seq (by simpa using hne) hS0,hne⟩,k5,by rw [eq3,then_ok e4]⟩
    ·exact q2 p4 H4 (by rw [eq3];exact num_bad e4 fun x hd=>hd_digit hd _ _ (by simp)) R4
   walk_at "gr"
   refine ⟨_,.inl (.inl (.inl hl2)),?_⟩
   walk_at "gr"
   rw [lV_len]
   by_cases h0:0<xs.length
   ·rw [if_pos (by lia)]
    walk_at "gr"
    have ne:xs≠[]:=by intro z;rw [z] at h0;simp at h0
    rw [hd_s _ _ _ ne] at eq
    walk_at "gr"
    refine ⟨r,ta,bs,p2,_,32,rfl,R2,by decide,by decide,fun _ p3 H3 e3 k3 R3=>?_,fun p3 H3 e3 R3=>q2 p3 H3 (by rw [eq];exact then_no e3) R3⟩
    walk_at "gr"
    rw [then_ok e3] at eq
    have st:=step p3 H3 R3 k3 eq
    obtain ⟨dx3,hR,hS,hne⟩:=R3
    have hR2:=hR
    have hl3:H3 l=some (.lst (lV xs)):=k3 _ _ hl2 (by simpa using lr)
    walk_at "gr"
    refine ⟨.inl ⟨rfl,_,.inl (.inl hl3)⟩,?_⟩
    walk_at "gr"
    refine ⟨_,tb _,_,rfl,?_⟩
    walk_at "gr"
    refine ⟨_,tb _,_,rfl,?_⟩
    walk_at "gr"
    refine st _ fun x H4 hl4 hP4=>?_
    walk_at "gr"
    exact ⟨_,hl4,by rw [lV_len];exact Nat.lt_of_le_of_lt (show _≤8 by first | lia | (simp only [List.length_nil];lia)) (by decide),hP4⟩
   ·rw [if_neg (by lia)]
    walk_at "gr"
    have e:xs=[]:=by cases xs with | nil=>rfl | cons _ _=>simp at h0
    subst e
    have st:=step p2 H2 R2 Kp.refl eq
    walk_at "gr"
    refine ⟨.inl ⟨rfl,_,.inl (.inl hl2)⟩,?_⟩
    walk_at "gr"
    refine ⟨_,tb _,_,rfl,?_⟩
    walk_at "gr"
    refine ⟨_,tb _,_,rfl,?_⟩
    walk_at "gr"
    refine st _ fun x H4 hl4 hP4=>?_
    walk_at "gr"
    exact ⟨_,hl4,by rw [lV_len];exact Nat.lt_of_le_of_lt (show _≤8 by first | lia | (simp only [List.length_nil];lia)) (by decide),hP4⟩
  ·intro σ H2 hw
   rw [hPv] at hw
   obtain ⟨xs,p2,o,rfl,hxl,hl2,⟨dx2,hR,hS,hne⟩,k2,eq⟩:=hw
   have hR2:=hR
   have R2:Rdr K a H2 r ta bs p2:=⟨dx2,hR,hS,hne⟩
   rw [show bds.drop bv.length=[] from List.drop_of_length_le (by lia),hd] at eq
   walk_at "gr"
   refine ⟨r,ta,bs,p2,_,10,rfl,R2,by decide,by decide,fun _ p3 H3 e3 k3 R3=>?_,fun p3 H3 e3 R3=>q2 p3 H3 (by rw [eq];exact then_no e3) R3⟩
   walk_at "gr"
   rw [then_ok e3] at eq
   have hl3:H3 l=some (.lst (lV xs)):=k3 _ _ hl2 (by simpa using lr)
   walk_at "gr"
   exact q1 xs p3 H3 l eq (by lia) hl (k2.trans k3) hl3 R3
end
section
variable {P:Program}{w:World}{K:PySem.W.Frag}{mg:Str→Option Value}{base:Heap}{a:Ad}
theorem for_enum {K:PySem.W.Frag}{a:Addr}{xs:List V}{g:TG}{tb:TS}{D:Ends}{σ:L2.St}{H:Hp} (Pv:WT) (h0:Pv 0 σ H) (hl:∀ i σ H,i≤xs.length→Pv i σ H→SqL K H a xs)
  (hs:∀ i x σ H T,xs[i]?=some x→Pv i σ H→H T=none→g (.ref T) σ (upd H T (.tup [.int (i:Nat),x])) fun σ2 H2=>tb { D with nx:=Pv (i+1),ct:=Pv (i+1),bk:=D.nx } σ2 H2) (hd:∀ σ H,Pv xs.length σ H→D.nx σ H) :
  ∃ W:Nat→Nat→L2.St→Hp→Prop,(∃ m,W 0 m σ H)∧∀ i m σ H,W i m σ H →
   ((Ite K a).stop i H∧D.nx σ H)∨((Ite K a).go i H∧∃ N:L2.St→Hp→Prop,(∀ σ' H',N σ' H'→∃ m',m' < m∧W (i+1) m' σ' H')∧∀ x H',(Ite K a).yld i H x H'→g x σ H' fun σ2 H2=>tb { D with nx:=N,ct:=N,bk:=D.nx } σ2 H2):=by
 refine ⟨fun i m σ H=>i+m=xs.length∧Pv i σ H,⟨xs.length,by simp,h0⟩,?_⟩
 rintro i m σ H ⟨hm,p⟩
 have q:=hl i σ H (by lia) p
 cases m with
 | zero =>
  have e:i=xs.length:=by lia
  subst e
  exact .inl ⟨⟨xs,q,Nat.le_refl _⟩,hd σ H p⟩
 | succ m =>
  refine .inr ⟨⟨xs,xs[i]'(by lia),q,by simp [show i<xs.length by lia]⟩,Pv (i+1),fun σ' H' p'=>⟨m,by lia,by lia,p'⟩,?_⟩
  rintro v H' ⟨t,x,rfl,ht,rfl,hx⟩
  exact hs i x σ H t (hx xs q) p ht
def joinL (sep:Nat):List (List Nat)→List Nat
 | []=>[]
 | [x]=>x
 | x::y::r=>x++sep::joinL sep (y::r)
theorem joinL_snoc (sep:Nat) (x:List Nat):∀ (ys:List (List Nat)),ys≠[]→joinL sep (ys++[x])=joinL sep ys++sep::x
 | [],h=>absurd rfl h
 | [y],_=>rfl
 | y::z::r,_=>by
  show y++sep::joinL sep (z::r++[x])=(y++sep::joinL sep (z::r))++sep::x
  rw [joinL_snoc sep x (z::r) (by simp)]
  simp
theorem take_snoc' {α:Type}{l:List α}{i:Nat}{x:α} (h:l[i]?=some x):l.take (i+1)=l.take i++[x]:=by
 rw [List.take_add_one,h];rfl
theorem joinL_len (sep:Nat):∀ (ys:List (List Nat)) (i:Nat),(joinL sep (ys.take i)).length≤(joinL sep ys).length
 | [],i=>by simp [joinL]
 | [y],i=>by cases i <;> simp [joinL]
 | y::z::r,i=>by
  cases i with
  | zero=>simp [joinL]
  | succ i =>
   cases i with
   | zero=>simp [joinL]
   | succ i =>
    have:=joinL_len sep (z::r) (i+1)
    simp only [List.take_succ_cons,joinL,List.length_append,List.length_cons] at this ⊢
    lia
def sp_joined (K:PySem.W.Frag) (a:Ad):Sp:=fun vs H Q _=>∃ (lt:Addr) (us:List V) (xs:List (List Nat)) (sep:Nat),vs=[.ref lt,.int (sep:Int)]∧H lt=some (.lst us)∧Paired (fun x v=>∃ l,v=V.ref l∧H l=some (.lst (lV x))) xs us∧(joinL sep xs).length≤16777216 ∧
 ∀ H' p,H p=none→Kp [] H H'→H' p=some (.lst (lV (joinL sep xs)))→Q (.ref p) H'
abbrev s_joined:Stmt:=top 7
theorem sc_joined:FnScope ["things","between","characters","k","thing"] ["things","between"] (defScope s_joined):=⟨rfl,rfl,rfl,by decide +kernel,rfl,by decide +kernel,by decide +kernel⟩
theorem ok_joined {f:Addr}{fd:FuncData} (F:Fun K "joined" "joined" s_joined f fd) (T:Txt K mg a):FnOk P w K mg base CX0 1 f fd ["things","between"] (sp_joined K a):=by
 refine F.ok sc_joined (fun vs H Q E h=>?_) (fun cdv A outer s H vs Q E hr h=>?_)
 ·obtain ⟨lt,us,xs,sep,rfl,hlt,hP,hlen,q⟩:=h
  rfl
 ·obtain ⟨lt,us,xs,sep,rfl,hlt,hP,hlen,q⟩:=h
  have nd:=sc_joined.nd
  refine ⟨_,(pss_cons (ps_set (i:=2) nd rfl (Or.inl rfl) (pe_lst pa_nil)) (pss_cons (ps_for PassesOwn.never rfl (pi_enum rfl T.enumerate (pa_cons (pv 0) pa_nil)) (pg_tup rfl (pgs_cons (pg_name (i:=3) nd rfl (Or.inl rfl)) (pgs_cons (pg_name (i:=4) nd rfl (Or.inl rfl)) pgs_nil))) (pss_cons (ps_if (pt_cmpR op_gt (pv 3) pe_int (nomark _)) (pss_one (ps_expr (pe_bm PySem.F.plainAttrs_list PySem.F.slot_list_append PySem.F.type_list_append mt_append (pv 2) (pa_cons (pv 1) pa_nil)))) pss_nil) (pss_one (ps_expr (pe_bm PySem.F.plainAttrs_list PySem.F.slot_list_extend PySem.F.type_list_extend mt_extend (pv 2) (pa_cons (pv 4) pa_nil)))))) (pss_one (ps_ret (pv 2))))),?_⟩
  walk_at "rd"
  refine ⟨by decide,fun l hl=>?_⟩
  have nlt:lt≠l:=ne_of_none hlt hl
  obtain ⟨Pv,hPv⟩:∃ Pv:WT,Pv=fun i σ H'=>∃ o1 o2:Option V,σ=[some (.ref lt),some (.int (sep:Int)),some (.ref l),o1,o2]∧Kp [] H H'∧H' l=some (.lst (lV (joinL sep (xs.take i)))):=⟨_,rfl⟩
  refine ⟨_,rfl,_,_,rfl,.inl (.inl (by rw [upd_ne nlt];exact hlt)),for_enum (xs:=us) Pv ?_ ?_ ?_ ?_⟩
  ·rw [hPv]
   exact ⟨none,none,rfl,Kp.new hl,by rw [upd_same];rfl⟩
  ·intro i σ H' _ hw
   rw [hPv] at hw
   obtain ⟨o1,o2,rfl,k,_⟩:=hw
   exact .inl (.inl (k _ _ hlt (by simp)))
  ·intro i v σ H2 t hi hw ht
   rw [hPv] at hw
   obtain ⟨o1,o2,rfl,k,hl2⟩:=hw
   obtain ⟨x,hx,b,rfl,hb⟩:=Paired.get hP hi
   have tl:l≠t:=ne_of_none hl2 ht
   have bl:b≠l:=ne_of_none hb hl
   have tot:=joinL_len sep xs (i+1)
   rw [take_snoc' hx] at tot
   walk_at "rd"
   refine ⟨_,.inl (.inl upd_same),rfl,_,_,rfl,_,_,rfl,rfl,?_⟩
   have hb2:H2 b=some (.lst (lV x)):=k _ _ hb (by simp)
   have bt:b≠t:=ne_of_none hb2 ht
   have hz:sizeLine=16777216:=by decide
   have lt2:upd H2 t (HO.tup [V.int (i:Int),V.ref b]) l=some (.lst (lV (joinL sep (xs.take i)))):=by rw [upd_ne tl];exact hl2
   have bt2:upd H2 t (HO.tup [V.int (i:Int),V.ref b]) b=some (.lst (lV x)):=by rw [upd_ne bt];exact hb2
   refine ⟨_,rfl,?_⟩
   have kk:Kp [] H (upd H2 t (HO.tup [V.int (i:Int),V.ref b])):=k.trans (Kp.new ht)
   by_cases h0:0<i
   ·have ne:xs.take i≠[]:=by
     intro z
     have h1:=congrArg List.length z
     have h2:i<xs.length:=(List.getElem?_eq_some_iff.mp hx).1
     rw [List.length_take,List.length_nil] at h1
     lia
    rw [joinL_snoc sep x _ ne,List.length_append,List.length_cons] at tot
    rw [if_pos (by lia)]
    refine ⟨.inl ⟨rfl,_,.inl (.inl lt2)⟩,_,lt2,by rw [lV_len];lia,.inl ⟨rfl,_,.inl (.inl upd_same)⟩,_,rfl,_,upd_same,_,by rw [upd_ne bl];exact bt2,by rw [List.length_append,lV_len,lV_len];simp;lia,?_⟩
    rw [hPv]
    refine ⟨_,_,rfl,(kk.put2 (.inr hl)).put2 (.inr hl),?_⟩
    rw [upd_same,take_snoc' hx,joinL_snoc sep x _ ne]
    unfold lV
    simp
   ·have i0:i=0:=by lia
    subst i0
    rw [if_neg (by lia)]
    refine ⟨.inl ⟨rfl,_,.inl (.inl lt2)⟩,_,rfl,_,lt2,_,bt2,by rw [lV_len,lV_len];simp [joinL] at tot ⊢;lia,?_⟩
    rw [hPv]
    refine ⟨_,_,rfl,kk.put2 (.inr hl),?_⟩
    rw [upd_same,take_snoc' hx]
    simp [joinL,lV]
  ·intro σ H2 hw
   rw [hPv] at hw
   obtain ⟨o1,o2,rfl,k,hl2⟩:=hw
   walk_at "rd"
   refine q H2 l hl k ?_
   rw [hl2,← Paired.length hP,List.take_length]
theorem put_app {f:Str}{v:V}:∀ {l:List (Str×V)},((l.map (·.1)).contains f)=false→putF f v l=l++[(f,v)]
 | [],_=>rfl
 | (g,x)::r,h=>by
  have h':(f==g || (r.map (·.1)).contains f)=false:=by simpa [List.contains_cons] using h
  rw [Bool.or_eq_false_iff] at h'
  show (if g=f then _ else _)=_
  rw [if_neg (fun z=>by rw [z] at h';simp at h'),put_app h'.2]
  rfl
theorem put_lt {f:Str}{v:V}{fs:List (Str×V)}{n:Nat} (h:fs.length≤n):(putF f v fs).length≤n+1:=Nat.le_trans (length_putF f v fs) (by lia)
end
section
variable {P:Program}{w:World}{K:PySem.W.Frag}{mg:Str→Option Value}{base:Heap}{a:Ad}
theorem SqL.is (T:Txt K mg a) {H:Hp}{ta:Addr}{xs:List V} (h:SqL K H ta xs):∃ o,H ta=some o:=by
 rcases h with (h | ⟨o,h⟩) | ⟨o,_,_,h,hc,_⟩
 ·exact ⟨_,h⟩
 ·exact ⟨_,h⟩
 ·exact absurd hc (T.nl _ _ h)
theorem cut_take (bs:List UInt8) (p:Nat):cutV (bsV bs) none (some (p:Int))=bsV (bs.take p):=by
 unfold cutV
 rw [HT.sIx_none,HT.sIx_nat,List.drop_zero,Nat.sub_zero,bsV_len]
 unfold bsV
 rw [← List.map_take]
 congr 1
 by_cases h:p≤bs.length
 ·rw [Nat.min_eq_left h]
 ·rw [Nat.min_eq_right (by lia),List.take_of_length_le (Nat.le_refl _),List.take_of_length_le (by lia)]
theorem keepF {G H' H'':Hp}{S:List Addr}{b:Addr}{o:HO} (k:Kp S H' H'') (hs:∀ c∈S,∃ o,G c=some o) (hb0:G b=none) (hb:H' b=some o):H'' b=some o:=k b o hb fun z=>by
 obtain ⟨o',h⟩:=hs b z
 rw [hb0] at h;cases h
theorem lc_str {x:Str}{g:TG}{tt:TT}{te:TE}{vs:List Nat}{σ:L2.St}{H1:Hp}{D:Addr}{Qd:Hp→Prop} (Pv:Nat→Hp→Prop) (h0:Pv 0 (upd H1 D (.lst [])))
  (hs:∀ i c H,x.cps[i]?=some c→Pv i H→g (.str ⟨#[c]⟩) (wipe σ vs) H fun σ2 H2=>wipe σ2 vs=wipe σ vs∧tt σ2 H2 fun b H3 =>
   if b=true then te σ2 H3 fun y H4=>∃ acc,H4 D=some (.lst acc)∧acc.length<sizeLine∧Pv (i+1) (upd H4 D (.lst (acc++[y]))) else Pv (i+1) H3) (hd:∀ H,Pv x.cps.size H→Qd H) :
  ∃ W:Nat→Nat→Hp→Prop,(∃ m,W 0 m (upd H1 D (.lst [])))∧∀ i m H,W i m H →
   ((Its x).stop i H∧Qd H)∨((Its x).go i H∧∃ Nx:Hp→Prop,(∀ H',Nx H'→∃ m',m' < m∧W (i+1) m' H')∧∀ v H',(Its x).yld i H v H'→g v (wipe σ vs) H' fun σ2 H2=>wipe σ2 vs=wipe σ vs∧tt σ2 H2 fun b H3 =>
    if b=true then te σ2 H3 fun y H4=>∃ acc,H4 D=some (.lst acc)∧acc.length<sizeLine∧Nx (upd H4 D (.lst (acc++[y]))) else Nx H3):=by
 refine ⟨fun i m H=>m=x.cps.size-i∧i≤x.cps.size∧Pv i H,⟨x.cps.size,by simp,Nat.zero_le _,h0⟩,?_⟩
 rintro i m H ⟨rfl,hi,p⟩
 by_cases hlt:i<x.cps.size
 ·refine .inr ⟨hlt,Pv (i+1),fun H' p'=>⟨x.cps.size-(i+1),by lia,rfl,hlt,p'⟩,?_⟩
  rintro v H' ⟨e,c,hc,rfl⟩
  subst e
  exact hs i c _ hc p
 ·have e:i=x.cps.size:=by lia
  subst e
  exact .inl ⟨Nat.le_refl _,hd H p⟩
def sp_characters_of (K:PySem.W.Frag) (a:Ad):Sp:=fun vs H Q _=>∃ (x:Str),vs=[.str x]∧x.cps.size≤1048576∧∀ H' p,H p=none→Kp [] H H'→H' p=some (.lst (lV x.cps.toList))→Q (.ref p) H'
abbrev s_characters_of:Stmt:=top 6
theorem sc_characters_of:FnScope ["text","sign"] ["text"] (defScope s_characters_of):=⟨rfl,rfl,rfl,by decide +kernel,rfl,by decide +kernel,by decide +kernel⟩
theorem bk_characters_of_0:BlkOk ["text","sign"] (defScope s_characters_of) (lcSc (stVal (stI (defBody s_characters_of) 0))) [("sign",1)]:=⟨rfl,by decide +kernel,by decide +kernel,by decide +kernel,by decide +kernel⟩
theorem ok_characters_of {f:Addr}{fd:FuncData} (F:Fun K "characters_of" "characters_of" s_characters_of f fd) (T:Txt K mg a):FnOk P w K mg base CX0 1 f fd ["text"] (sp_characters_of K a):=by
 refine F.ok sc_characters_of (fun vs H Q E h=>?_) (fun cdv A outer s H vs Q E hr h=>?_)
 ·obtain ⟨x,rfl,hx,q⟩:=h
  rfl
 ·obtain ⟨x,rfl,hx,q⟩:=h
  have nd:=sc_characters_of.nd
  refine ⟨_,(pss_one (ps_ret (pe_lc rfl nd (pi_str (pv 0)) bk_characters_of_0 (fun _ _ _ _ _=>(pg_name (i:=1) nd rfl (Or.inl rfl))) (fun _ _ _ _ _=>pts_nil) (fun _ _ _ _ _=>(pe_callB call_ord rfl T.ord boot_ord (pa_cons (pv 1) pa_nil)))))),?_⟩
  refine ⟨_,rfl,x,rfl,fun D hD=>?_⟩
  obtain ⟨Pv,hPv⟩:∃ Pv:Nat→Hp→Prop,Pv=fun i H'=>Kp [] H H'∧H' D=some (.lst (lV (x.cps.toList.take i))):=⟨_,rfl⟩
  refine lc_str Pv ?_ ?_ ?_
  ·rw [hPv]
   exact ⟨Kp.new hD,upd_same⟩
  ·intro i c H2 hi hw
   rw [hPv] at hw
   obtain ⟨k,hD2⟩:=hw
   refine ⟨rfl,?_⟩
   simp only [tYes]
   walk_at "rd"
   refine ⟨_,rfl,_,rfl,rfl,_,hD2,?_,?_⟩
   ·unfold lV;rw [List.length_map,List.length_take,Array.length_toList]
    exact Nat.lt_of_le_of_lt (Nat.le_trans (Nat.min_le_right _ _) hx) (by decide)
   ·rw [hPv]
    refine ⟨k.put2 (.inr hD),?_⟩
    rw [upd_same,take_snoc' (x:=c) (by rw [Array.getElem?_toList];exact hi)]
    unfold lV
    rw [List.map_append];rfl
  ·intro H2 hw
   rw [hPv] at hw
   obtain ⟨k,hD2⟩:=hw
   rw [List.take_of_length_le (by simp)] at hD2
   exact q H2 D hD k hD2
def sp_bytes_of_character (K:PySem.W.Frag) (a:Ad):Sp:=fun vs H Q _=>∃ (c:Nat),vs=[.int (c:Int)]∧c<0x110000∧∀ p,H p=none→Q (.ref p) (upd H p (.lst (bsV (Vh.charOf c))))
abbrev s_bytes_of_character:Stmt:=top 8
theorem sc_bytes_of_character:FnScope ["character","last","middle"] ["character"] (defScope s_bytes_of_character):=⟨rfl,rfl,rfl,by decide +kernel,rfl,by decide +kernel,by decide +kernel⟩
theorem ok_bytes_of_character {f:Addr}{fd:FuncData} (F:Fun K "bytes_of_character" "bytes_of_character" s_bytes_of_character f fd) (T:Txt K mg a):FnOk P w K mg base CX0 1 f fd ["character"] (sp_bytes_of_character K a):=by
 refine F.ok sc_bytes_of_character (fun vs H Q E h=>?_) (fun cdv A outer s H vs Q E hr h=>?_)
 ·obtain ⟨c,rfl,hc,q⟩:=h
  rfl
 ·obtain ⟨c,rfl,hc,q⟩:=h
  have nd:=sc_bytes_of_character.nd
  refine ⟨_,(pss_cons (ps_if (pt_cmpR op_lt (pv 0) pe_int (nomark _)) (pss_one (ps_ret (pe_lst (pa_cons (pv 0) pa_nil)))) pss_nil) (pss_cons (ps_set (i:=1) nd rfl (Or.inl rfl) (pe_op op_add pe_int (pe_op op_mod (pv 0) pe_int))) (pss_cons (ps_if (pt_cmpR op_lt (pv 0) pe_int (nomark _)) (pss_one (ps_ret (pe_lst (pa_cons (pe_op op_add pe_int (pe_op op_fdiv (pv 0) pe_int)) (pa_cons (pv 1) pa_nil))))) pss_nil) (pss_cons (ps_set (i:=2) nd rfl (Or.inl rfl) (pe_op op_add pe_int (pe_op op_mod (pe_op op_fdiv (pv 0) pe_int) pe_int))) (pss_cons (ps_if (pt_cmpR op_lt (pv 0) pe_int (nomark _)) (pss_one (ps_ret (pe_lst (pa_cons (pe_op op_add pe_int (pe_op op_fdiv (pv 0) pe_int)) (pa_cons (pv 2) (pa_cons (pv 1) pa_nil)))))) pss_nil) (pss_one (ps_ret (pe_lst (pa_cons (pe_op op_add pe_int (pe_op op_fdiv (pv 0) pe_int)) (pa_cons (pe_op op_add pe_int (pe_op op_mod (pe_op op_fdiv (pv 0) pe_int) pe_int)) (pa_cons (pv 2) (pa_cons (pv 1) pa_nil)))))))))))),?_⟩
  walk_at "rd"
  generalize h65:(65536:Int)=b65
  have z1:1≤sizeLine:=by decide
  have z2:2≤sizeLine:=by decide
  have z3:3≤sizeLine:=by decide
  have z4:4≤sizeLine:=by decide
  have d1:CDiv (c:Int) 64:=⟨by decide,by decide⟩
  have d2:CDiv (c:Int) 4096:=⟨by decide,by decide⟩
  have d3:CDiv (c:Int) 262144:=⟨by decide,by decide⟩
  have b1:∀ {n:Nat}{i:Int},n<256→i=n→V.int i=V.int ((UInt8.ofNat n).toNat:Int):=fun h e=>by
   subst e
   rw [UInt8.toNat_ofNat_of_lt' (by simpa using h)]
  unfold Vh.charOf bsV at q
  split
  ·rename_i h
   rw [if_pos (by lia)] at q
   refine ⟨z1,fun p hp=>?_⟩
   have:=q p hp
   rw [List.map_cons,List.map_nil,← b1 (i:=(c:Int)) (by lia) rfl] at this
   exact this
  ·rename_i h
   rw [if_neg (by lia)] at q
   refine ⟨by decide,?_⟩
   split
   ·rename_i h1
    rw [if_pos (by lia)] at q
    refine ⟨d1,z2,fun p hp=>?_⟩
    have:=q p hp
    rw [List.map_cons,List.map_cons,List.map_nil,← b1 (i:=192+(c:Int) / 64) (by lia) (by lia),← b1 (i:=128+(c:Int) % 64) (by lia) (by lia)] at this
    exact this
   ·rename_i h1
    rw [if_neg (by lia)] at q
    refine ⟨d1,by decide,?_⟩
    split
    ·rename_i h2
     rw [if_pos (by lia)] at q
     refine ⟨d2,z3,fun p hp=>?_⟩
     have:=q p hp
     rw [List.map_cons,List.map_cons,List.map_cons,List.map_nil,← b1 (i:=224+(c:Int) / 4096) (by lia) (by lia),← b1 (i:=128+(c:Int) / 64 % 64) (by lia) (by lia),← b1 (i:=128+(c:Int) % 64) (by lia) (by lia)] at this
     exact this
    ·rename_i h2
     rw [if_neg (by lia)] at q
     refine ⟨d3,d2,by decide,z4,fun p hp=>?_⟩
     have:=q p hp
     rw [List.map_cons,List.map_cons,List.map_cons,List.map_cons,List.map_nil,← b1 (i:=240+(c:Int) / 262144) (by lia) (by lia),← b1 (i:=128+(c:Int) / 4096 % 64) (by lia) (by lia),← b1 (i:=128+(c:Int) / 64 % 64) (by lia) (by lia),← b1 (i:=128+(c:Int) % 64) (by lia) (by lia)] at this
     exact this
theorem lV_get {l:List Nat}{i:Nat}{x:V} (hi:(lV l)[i]?=some x):∃ n:Nat,l[i]?=some n∧V.int (n:Int)=x:=by
 unfold lV at hi
 rw [List.getElem?_map] at hi
 cases h:l[i]? with
 | none=>rw [h] at hi;cases hi
 | some n=>rw [h] at hi;exact ⟨n,rfl,by simpa using hi⟩
theorem spelt_len:∀ xs:List Nat,(Vh.spelt xs).length≤4 * xs.length
 | []=>Nat.le_refl _
 | x::xs=>by
  have h1:(Vh.charOf x).length≤4:=by unfold Vh.charOf;(repeat' split) <;> simp
  have:=spelt_len xs
  unfold Vh.spelt at this ⊢
  rw [List.flatMap_cons,List.length_append,List.length_cons];lia
theorem spelt_snoc (xs:List Nat) (c:Nat):Vh.spelt (xs++[c])=Vh.spelt xs++Vh.charOf c:=by unfold Vh.spelt;rw [List.flatMap_append];simp
def sp_bytes_of (K:PySem.W.Frag) (a:Ad):Sp:=fun vs H Q _=>∃ (l:Addr) (xs:List Nat),vs=[.ref l]∧H l=some (.lst (lV xs))∧(∀ c∈xs,c<0x110000)∧xs.length≤4194303∧∀ H' p,H p=none→Kp [] H H'→H' p=some (.lst (bsV (Vh.spelt xs)))→Q (.ref p) H'
abbrev s_bytes_of:Stmt:=top 9
theorem sc_bytes_of:FnScope ["characters","found","character"] ["characters"] (defScope s_bytes_of):=⟨rfl,rfl,rfl,by decide +kernel,rfl,by decide +kernel,by decide +kernel⟩
theorem ok_bytes_of {f:Addr}{fd:FuncData} (F:Fun K "bytes_of" "bytes_of" s_bytes_of f fd) (T:Txt K mg a) (c_bytes_of_character:FnC P w K mg base CX0 1 "bytes_of_character" ["character"] (sp_bytes_of_character K a)):FnOk P w K mg base CX0 2 f fd ["characters"] (sp_bytes_of K a):=by
 refine F.ok sc_bytes_of (fun vs H Q E h=>?_) (fun cdv A outer s H vs Q E hr h=>?_)
 ·obtain ⟨l,xs,rfl,hl,hc,hn,q⟩:=h
  rfl
 ·obtain ⟨l,xs,rfl,hl,hc,hn,q⟩:=h
  have nd:=sc_bytes_of.nd
  refine ⟨_,(pss_cons (ps_set (i:=1) nd rfl (Or.inl rfl) (pe_lst pa_nil)) (pss_cons (ps_for PassesOwn.never rfl (pi_list (pv 0)) (pg_name (i:=2) nd rfl (Or.inl rfl)) (pss_one (ps_expr (pe_bm PySem.F.plainAttrs_list PySem.F.slot_list_extend PySem.F.type_list_extend mt_extend (pv 1) (pa_cons (pe_callC c_bytes_of_character hr pass0 (pa_cons (pv 2) pa_nil)) pa_nil))))) (pss_one (ps_ret (pv 1))))),?_⟩
  walk_at "rd"
  refine ⟨by decide,fun D hD=>?_⟩
  have nD:l≠D:=ne_of_none hl hD
  obtain ⟨Pv,hPv⟩:∃ Pv:WT,Pv=fun i σ H'=>∃ o:Option V,σ=[some (.ref l),some (.ref D),o]∧Kp [] H H'∧H' D=some (.lst (bsV (Vh.spelt (xs.take i)))):=⟨_,rfl⟩
  refine ⟨_,rfl,_,rfl,⟨_,.inl (.inl (by rw [upd_ne nD];exact hl))⟩,for_list (xs:=lV xs) Pv ?_ ?_ ?_ ?_⟩
  ·rw [hPv]
   exact ⟨none,rfl,Kp.new hD,upd_same⟩
  ·intro i σ H' _ hw
   rw [hPv] at hw
   obtain ⟨o,rfl,k,_⟩:=hw
   exact .inl (.inl (k _ _ hl (by simp)))
  ·intro i v σ H2 hi hw
   rw [hPv] at hw
   obtain ⟨o,rfl,k,hD2⟩:=hw
   obtain ⟨n,hn',rfl⟩:=lV_get hi
   have tot:=spelt_len (xs.take (i+1))
   have hle:(xs.take (i+1)).length≤xs.length:=by rw [List.length_take];lia
   rw [take_snoc' hn',spelt_snoc,List.length_append] at tot
   rw [take_snoc' hn'] at hle
   have hz:sizeLine=16777216:=by decide
   walk_at "rd"
   refine ⟨.inl ⟨rfl,_,.inl (.inl hD2)⟩,n,rfl,hc n (List.mem_of_getElem? hn'),fun p hp=>?_⟩
   have nDp:D≠p:=ne_of_none hD2 hp
   have hD3:upd H2 p (HO.lst (bsV (Vh.charOf n))) D=some (.lst (bsV (Vh.spelt (xs.take i)))):=by rw [upd_ne nDp];exact hD2
   refine ⟨_,rfl,_,hD3,_,upd_same,by rw [bsV_len,bsV_len];lia,?_⟩
   rw [hPv]
   refine ⟨_,rfl,(k.trans (Kp.new hp)).put2 (.inr hD),?_⟩
   rw [upd_same,take_snoc' hn',spelt_snoc]
   unfold bsV
   rw [List.map_append]
  ·intro σ H2 hw
   rw [hPv] at hw
   obtain ⟨o,rfl,k,hD2⟩:=hw
   rw [lV_len,List.take_of_length_le (Nat.le_refl _)] at hD2
   walk_at "rd"
   exact q H2 D hD k hD2
theorem log_small {n:Nat} (h:n<2 ^ 64):((n:Int).natAbs).log2<1920:=by
 rw [Int.natAbs_natCast]
 by_cases z:n=0
 ·subst z;decide
 ·exact Nat.lt_trans ((Nat.log2_lt z).mpr h) (by decide)
theorem str_app (x y:Str):(x++y).cps.toList=x.cps.toList++y.cps.toList:=by
 show (x.cps++y.cps).toList=_
 simp
theorem str_len (x:Str):x.length=x.cps.toList.length:=by
 show x.cps.size=_
 simp
end
section
variable {P:Program}{w:World}{K:PySem.W.Frag}{mg:Str→Option Value}{base:Heap}{a:Ad}
def lf (b f:Nat) (h w c:Addr):List (Str×V):=[("before",.int (b:Int)),("behind",.int (f:Int)),("head",.ref h),("words",.ref w),("counted",.ref c)]
theorem lf_eq (b f:Nat) (h w c:Addr):putF "counted" (.ref c) (putF "words" (.ref w) (putF "head" (.ref h) (putF "behind" (.int (f:Int)) (putF "before" (.int (b:Int)) []))))=lf b f h w c:=by
 rw [put_app (l:=[]) rfl];simp only [List.cons_append,List.nil_append]
 rw [put_app (l:=[_]) rfl];simp only [List.cons_append,List.nil_append]
 rw [put_app (l:=[_,_]) rfl];simp only [List.cons_append,List.nil_append]
 rw [put_app (l:=[_,_,_]) rfl];simp only [List.cons_append,List.nil_append]
 rw [put_app (l:=[_,_,_,_]) rfl];simp only [List.cons_append,List.nil_append]
 rfl
theorem lf_before (b f:Nat) (h w c:Addr):(lf b f h w c).lookup ("before":Str)=some (.int (b:Int)):=by rfl
theorem lf_behind (b f:Nat) (h w c:Addr):(lf b f h w c).lookup ("behind":Str)=some (.int (f:Int)):=by rfl
theorem lf_head (b f:Nat) (h w c:Addr):(lf b f h w c).lookup ("head":Str)=some (.ref h):=by rfl
theorem lf_words (b f:Nat) (h w c:Addr):(lf b f h w c).lookup ("words":Str)=some (.ref w):=by rfl
theorem lf_counted (b f:Nat) (h w c:Addr):(lf b f h w c).lookup ("counted":Str)=some (.ref c):=by rfl
theorem lf_put_head (b f:Nat) (h w c h2:Addr):putF "head" (.ref h2) (lf b f h w c)=lf b f h2 w c:=by
 show (if ("before":Str)="head" then _ else _)=_
 rw [if_neg (by decide)]
 show _::(if ("behind":Str)="head" then _ else _)=_
 rw [if_neg (by decide)]
 show _::_::(if ("head":Str)="head" then _ else _)=_
 rw [if_pos rfl]
 rfl
def sp_Listing_init (K:PySem.W.Frag) (a:Ad):Sp:=fun vs H Q _=>∃ (x dx se:Addr) (b f:Nat),vs=[.ref x,.ref se]∧H x=some (.ins a.CG dx [])∧H se=some (.lst [.int (b:Int),.int (f:Int)]) ∧
 ∀ H' h w c,Kp [x] H H'→H' x=some (.ins a.CG dx (lf b f h w c))→(H h=none∧H w=none∧H c=none)→(h≠x∧w≠x∧c≠x∧h≠w∧h≠c∧w≠c)→H' h=some (.lst [])→H' w=some (.lst [])→H' c=some (.dT [])→Q .non H'
abbrev s_Listing_init:Stmt:=inClass (top 13) 0
theorem sc_Listing_init:FnScope ["self","settings"] ["self","settings"] (defScope s_Listing_init):=⟨rfl,rfl,rfl,by decide +kernel,rfl,by decide +kernel,by decide +kernel⟩
theorem ok_Listing_init {f:Addr}{fd:FuncData} (F:Fun K "__init__" "Listing.__init__" s_Listing_init f fd) (T:Txt K mg a):FnOk P w K mg base CX0 1 f fd ["self","settings"] (sp_Listing_init K a):=by
 refine F.ok sc_Listing_init (fun vs H Q E h=>?_) (fun cdv A outer s H vs Q E hr h=>?_)
 ·obtain ⟨x,dx,se,b,f,rfl,hR,hse,q⟩:=h
  rfl
 ·obtain ⟨x,dx,se,b,f,rfl,hR,hse,q⟩:=h
  have nd:=sc_Listing_init.nd
  refine ⟨_,(pss_cons (ps_fld (pv 0) (pe_ix ix_list (pv 1) pe_int (fun _ _=>rfl)) rfl) (pss_cons (ps_fld (pv 0) (pe_ix ix_list (pv 1) pe_int (fun _ _=>rfl)) rfl) (pss_cons (ps_fld (pv 0) (pe_lst pa_nil) rfl) (pss_cons (ps_fld (pv 0) (pe_lst pa_nil) rfl) (pss_one (ps_fld (pv 0) pe_dnewT rfl)))))),?_⟩
  have hR2:=hR
  walk_at "gs"
  walk_at "gr"
  have sx:se≠x:=ne_of hse hR (by intro z;cases z)
  have hq:∀ o,SqL K (upd H x o) se [.int (b:Int),.int (f:Int)]:=fun o=>.inl (.inl (by rw [upd_ne sx];exact hse))
  have l1:∀ {u:V},(putF "before" u []).length≤1:=fun {u}=>put_lt (Nat.le_refl 0)
  refine ⟨_,.inl (.inl hse),_,rfl,g_v0 (g_sfld1 hR T.clListing T.nG_before ⟨by decide,?_⟩)⟩
  walk_at "gr"
  refine ⟨_,hq _,_,rfl,g_v0 (g_sfld2 T.clListing T.nG_behind ⟨Nat.lt_of_le_of_lt l1 (by decide),?_⟩)⟩
  walk_at "gr"
  have l2:=put_lt (f:="behind") (v:=V.int (f:Int)) (l1 (u:=V.int (b:Int)))
  have key:=lf_eq b f
  generalize hF2:putF "behind" (V.int (f:Int)) (putF "before" (V.int (b:Int)) [])=F2 at l2 key ⊢
  refine ⟨(show 0≤sizeLine by decide),fun h hh=>?_⟩
  have hx:h≠x:=fun z=>by rw [z,upd_same] at hh;cases hh
  have hh0:H h=none:=by rw [upd_ne hx] at hh;exact hh
  refine g_v0 (g_sfld1 (by rw [upd_ne (Ne.symm hx),upd_same]) T.clListing T.nG_head ⟨Nat.lt_of_le_of_lt l2 (by decide),?_⟩)
  walk_at "gr"
  refine ⟨(show 0≤sizeLine by decide),fun w hw=>?_⟩
  have wx:w≠x:=fun z=>by rw [z,upd_same] at hw;cases hw
  rw [upd_ne wx] at hw
  have wh:w≠h:=fun z=>by rw [z,upd_same] at hw;cases hw
  have hw0:H w=none:=by rw [upd_ne wh,upd_ne wx] at hw;exact hw
  refine g_v0 (g_sfld1 (by rw [upd_ne (Ne.symm wx),upd_same]) T.clListing T.nG_words ⟨Nat.lt_of_le_of_lt (put_lt l2) (by decide),?_⟩)
  walk_at "gr"
  refine fun c hc=>?_
  have cx:c≠x:=fun z=>by rw [z,upd_same] at hc;cases hc
  rw [upd_ne cx] at hc
  have cw:c≠w:=fun z=>by rw [z,upd_same] at hc;cases hc
  rw [upd_ne cw,upd_ne cx] at hc
  have ch:c≠h:=fun z=>by rw [z,upd_same] at hc;cases hc
  have hc0:H c=none:=by rw [upd_ne ch,upd_ne cx] at hc;exact hc
  refine g_v0 (g_sfld1 (by rw [upd_ne (Ne.symm cx),upd_same]) T.clListing T.nG_counted ⟨Nat.lt_of_le_of_lt (put_lt (put_lt l2)) (by decide),?_⟩)
  walk_at "gr"
  refine q _ h w c ?_ (by rw [upd_same,key]) ⟨hh0,hw0,hc0⟩ ⟨hx,wx,cx,Ne.symm wh,Ne.symm ch,Ne.symm cw⟩ ?_ ?_ ?_
  ·intro d o hd n
   have dx':d≠x:=by simpa using n
   rw [upd_ne dx',upd_ne (ne_of_none hd hc0),upd_ne dx',upd_ne (ne_of_none hd hw0),upd_ne dx',upd_ne (ne_of_none hd hh0),upd_ne dx']
   exact hd
  ·rw [upd_ne hx,upd_ne (Ne.symm ch),upd_ne hx,upd_ne (Ne.symm wh),upd_ne hx,upd_same]
  ·rw [upd_ne wx,upd_ne (Ne.symm cw),upd_ne wx,upd_same]
  ·rw [upd_ne cx,upd_same]
end
section
variable {P:Program}{w:World}{K:PySem.W.Frag}{mg:Str→Option Value}{base:Heap}{a:Ad}
theorem lK_kV (x:List Nat):(lK x).map kV=lV x:=by unfold lK lV;rw [List.map_map];rfl
theorem lK_inj:∀ {x y:List Nat},lK x=lK y→x=y
 | [],[],_=>rfl
 | [],_::_,h=>by cases h
 | _::_,[],h=>by cases h
 | c::x,d::y,h=>by
  unfold lK at h
  rw [List.map_cons,List.map_cons] at h
  injection h with h1 h2
  injection h1 with h1
  rw [lK_inj (x:=x) (y:=y) h2,show c=d by lia]
def dkv (fs:List (List Nat)) (pa:List Addr):List (List Key×V):=(fs.zip pa).map fun y=>(lK y.1,V.ref y.2)
theorem dkv_len {fs:List (List Nat)}{pa:List Addr} (h:fs.length=pa.length):(dkv fs pa).length=fs.length:=by unfold dkv;rw [List.length_map,List.length_zip];lia
theorem dkv_in {f:List Nat}{v:V}:∀ {fs:List (List Nat)}{pa:List Addr},valV (dkv fs pa) (lK f)=some v→∃ (i:Nat) (p:Addr),fs[i]?=some f∧pa[i]?=some p∧v=.ref p
 | [],pa,h=>by unfold dkv at h;simp [valV] at h
 | _::_,[],h=>by unfold dkv at h;simp [valV] at h
 | x::fs,p::pa,h=>by
  have e:dkv (x::fs) (p::pa)=(lK x,V.ref p)::dkv fs pa:=rfl
  rw [e] at h
  by_cases z:lK x=lK f
  ·rw [valV_pos z] at h
   cases h
   rw [lK_inj z]
   exact ⟨0,p,rfl,rfl,rfl⟩
  ·rw [valV_neg z] at h
   obtain ⟨i,q,h1,h2,h3⟩:=dkv_in (fs:=fs) (pa:=pa) h
   exact ⟨i+1,q,by simpa using h1,by simpa using h2,h3⟩
theorem dkv_out {f:List Nat}:∀ {fs:List (List Nat)}{pa:List Addr},fs.length=pa.length→valV (dkv fs pa) (lK f)=none→f ∉ fs
 | [],pa,_,h=>by simp
 | _::_,[],hl,h=>by simp at hl
 | x::fs,p::pa,hl,h=>by
  have e:dkv (x::fs) (p::pa)=(lK x,V.ref p)::dkv fs pa:=rfl
  rw [e] at h
  by_cases z:lK x=lK f
  ·rw [valV_pos z] at h
   cases h
  ·rw [valV_neg z] at h
   have:=dkv_out (fs:=fs) (pa:=pa) (by simpa using hl) h
   intro m
   rcases List.mem_cons.mp m with m | m
   ·exact z (by rw [m])
   ·exact this m
theorem dkv_snoc {fs:List (List Nat)}{pa:List Addr} (h:fs.length=pa.length) (f:List Nat) (p:Addr):dkv (fs++[f]) (pa++[p])=dkv fs pa++[(lK f,.ref p)]:=by
 unfold dkv
 rw [List.zip_append h,List.map_append];rfl
structure LsAt (a:Ad) (G H:Hp) (g dx h w c:Addr) (b f:Nat) (hb:List UInt8) (wa:List Addr) (fs:List (List Nat)) (pa:List Addr) (ws:List (List Nat)) (l:List (List Nat×Option (List Nat))):Prop where
 hg:H g=some (.ins a.CG dx (lf b f h w c))
 hh:H h=some (.lst (bsV hb))
 hw:H w=some (.lst (wa.map V.ref))
 hc:H c=some (.dT (dkv fs pa))
 wl:ws.length=wa.length
 wg:∀ (i:Nat) (x:List Nat) (p:Addr),ws[i]?=some x→wa[i]?=some p→H p=some (.lst (lV x))
 pl:fs.length=pa.length
 pg:∀ (i:Nat) (x:List Nat) (p:Addr),fs[i]?=some x→pa[i]?=some p→H p=some (.lst (lV (plc l x)))
 fn:fs.Nodup
 fm:∀ x,x∈fs↔some x∈l.map (·.2)
 fl:fs.length≤l.length
 nd:(w::pa).Nodup
 fr:∀ z∈h::wa,z ∉ w::pa
 nw:∀ z∈g::c::w::h::(pa++wa),G z=none
section
variable {G H:Hp}{g dx h w c:Addr}{b f:Nat}{hb:List UInt8}{wa:List Addr}{fs:List (List Nat)}{pa:List Addr}{ws:List (List Nat)}{l:List (List Nat×Option (List Nat))}
theorem LsAt.old (L:LsAt a G H g dx h w c b f hb wa fs pa ws l) {i:Nat}{p:Addr} (hp:pa[i]?=some p):∃ x,fs[i]?=some x∧H p=some (.lst (lV (plc l x))):=by
 have hi:=(List.getElem?_eq_some_iff.mp hp).1
 have hf:fs[i]?=some (fs[i]'(by rw [L.pl];exact hi)):=List.getElem?_eq_getElem _
 exact ⟨_,hf,L.pg i _ p hf hp⟩
theorem LsAt.is (L:LsAt a G H g dx h w c b f hb wa fs pa ws l):∀ z∈g::c::w::h::(pa++wa),∃ o,H z=some o:=by
 intro z hz
 simp only [List.mem_cons,List.mem_append] at hz
 rcases hz with rfl | rfl | rfl | rfl | hz | hz
 ·exact ⟨_,L.hg⟩
 ·exact ⟨_,L.hc⟩
 ·exact ⟨_,L.hw⟩
 ·exact ⟨_,L.hh⟩
 ·obtain ⟨i,hi,e⟩:=List.mem_iff_getElem.mp hz
  obtain ⟨x,_,e2⟩:=L.old (i:=i) (p:=z) (by rw [List.getElem?_eq_getElem hi,e])
  exact ⟨_,e2⟩
 ·obtain ⟨i,hi,e⟩:=List.mem_iff_getElem.mp hz
  have hx:ws[i]?=some (ws[i]'(by rw [L.wl];exact hi)):=List.getElem?_eq_getElem _
  exact ⟨_,L.wg i _ z hx (by rw [List.getElem?_eq_getElem hi,e])⟩
theorem LsAt.keep (L:LsAt a G H g dx h w c b f hb wa fs pa ws l) {H':Hp}{S:List Addr} (k:Kp S H H') (hs:∀ z∈S,∃ o,G z=some o):LsAt a G H' g dx h w c b f hb wa fs pa ws l:=by
 have kp:∀ z∈g::c::w::h::(pa++wa),∀ o,H z=some o→H' z=some o:=fun z hz o e=>keepF k hs (L.nw z hz) e
 exact ⟨kp g (by simp) _ L.hg,kp h (by simp) _ L.hh,kp w (by simp) _ L.hw,kp c (by simp) _ L.hc,L.wl,fun i x p h1 h2=>kp p (by have:=List.mem_of_getElem? h2;simp [this]) _ (L.wg i x p h1 h2),L.pl,
  fun i x p h1 h2=>kp p (by have:=List.mem_of_getElem? h2;simp [this]) _ (L.pg i x p h1 h2),L.fn,L.fm,L.fl,L.nd,L.fr,L.nw⟩
theorem LsAt.word (L:LsAt a G H g dx h w c b f hb wa fs pa ws l) {x0:Addr}{y:List Nat} (hx:H x0=some (.lst (lV y))) (hn:G x0=none) (hm:x0 ∉ w::pa) :
  LsAt a G (upd H w (.lst (wa.map V.ref++[.ref x0]))) g dx h w c b f hb (wa++[x0]) fs pa (ws++[y]) l:=by
 have gw:g≠w:=ne_of L.hg L.hw (by intro z;cases z)
 have cw:c≠w:=ne_of L.hc L.hw (by intro z;cases z)
 have hw':h≠w:=fun z=>L.fr h (by simp) (by simp [z])
 have xw:x0≠w:=fun z=>hm (by simp [z])
 refine ⟨by rw [upd_ne gw];exact L.hg,by rw [upd_ne hw'];exact L.hh,by rw [upd_same,List.map_append];rfl,by rw [upd_ne cw];exact L.hc,by simp [L.wl],fun i z p h1 h2=>?_,L.pl,fun i z p h1 h2=>?_,L.fn,L.fm,L.fl,L.nd,fun z hz=>?_,fun z hz=>?_⟩
 ·by_cases hi:i<wa.length
  ·rw [List.getElem?_append_left (by rw [L.wl];exact hi)] at h1
   rw [List.getElem?_append_left hi] at h2
   have pw:p≠w:=fun e=>L.fr p (by have:=List.mem_of_getElem? h2;simp [this]) (by simp [e])
   rw [upd_ne pw];exact L.wg i z p h1 h2
  ·rw [List.getElem?_append_right (by rw [L.wl];lia)] at h1
   rw [List.getElem?_append_right (by lia)] at h2
   have e1:i-wa.length=0:=by
    have:=(List.getElem?_eq_some_iff.mp h2).1
    simp at this;lia
   rw [L.wl,e1] at h1
   rw [e1] at h2
   cases h1;cases h2
   rw [upd_ne xw];exact hx
 ·have pw:p≠w:=fun e=>(List.nodup_cons.mp L.nd).1 (by rw [← e];exact List.mem_of_getElem? h2)
  rw [upd_ne pw];exact L.pg i z p h1 h2
 ·have hz:z∈h::wa∨z=x0:=by simp at hz ⊢;rcases hz with q | q | q <;> simp [q]
  rcases hz with q | q
  ·exact L.fr z q
  ·rw [q];exact hm
 ·have hz:z∈g::c::w::h::(pa++wa)∨z=x0:=by simp at hz ⊢;rcases hz with q | q | q | q | q | q | q <;> simp [q]
  rcases hz with q | q
  ·exact L.nw z q
  ·rw [q];exact hn
theorem LsAt.bare (L:LsAt a G H g dx h w c b f hb wa fs pa ws l) (y:List Nat):LsAt a G H g dx h w c b f hb wa fs pa ws (l++[(y,Option.none)]):=by
 refine ⟨L.hg,L.hh,L.hw,L.hc,L.wl,L.wg,L.pl,fun i x p h1 h2=>?_,L.fn,fun x=>?_,by rw [List.length_append];exact Nat.le_trans L.fl (Nat.le_add_right _ _),L.nd,L.fr,L.nw⟩
 ·rw [plc_snoc,if_neg (by intro z;cases z),List.append_nil];exact L.pg i x p h1 h2
 ·rw [L.fm,List.map_append];simp
theorem LsAt.seen (L:LsAt a G H g dx h w c b f hb wa fs pa ws l) {i:Nat}{x:List Nat}{p:Addr} (hx:fs[i]?=some x) (hp:pa[i]?=some p) (y:List Nat) :
  LsAt a G (upd H p (.lst (lV (plc l x)++[.int (l.length:Int)]))) g dx h w c b f hb wa fs pa ws (l++[(y,some x)]):=by
 have hpo:=L.pg i x p hx hp
 have pm:p∈pa:=List.mem_of_getElem? hp
 have gp:g≠p:=ne_of L.hg hpo (by intro z;cases z)
 have cp:c≠p:=ne_of L.hc hpo (by intro z;cases z)
 have hp':h≠p:=fun z=>L.fr h (by simp) (by simp [z,pm])
 have wp:w≠p:=fun z=>(List.nodup_cons.mp L.nd).1 (by rw [z];exact pm)
 refine ⟨by rw [upd_ne gp];exact L.hg,by rw [upd_ne hp'];exact L.hh,by rw [upd_ne wp];exact L.hw,by rw [upd_ne cp];exact L.hc,L.wl,fun j z q h1 h2=>?_,L.pl,fun j z q h1 h2=>?_,L.fn,fun z=>?_,by rw [List.length_append];exact Nat.le_trans L.fl (Nat.le_add_right _ _),L.nd,L.fr,L.nw⟩
 ·have qp:q≠p:=fun e=>L.fr q (by have:=List.mem_of_getElem? h2;simp [this]) (by simp [e,pm])
  rw [upd_ne qp];exact L.wg j z q h1 h2
 ·rw [plc_snoc]
  by_cases e:j=i
  ·subst e
   rw [hx] at h1;rw [hp] at h2
   cases h1;cases h2
   rw [upd_same,if_pos rfl]
   unfold lV
   rw [List.map_append];rfl
  ·have hj:=(List.getElem?_eq_some_iff.mp h2).1
   have qp:q≠p:=fun z=>e ((List.getElem?_inj hj (List.nodup_cons.mp L.nd).2).mp (by rw [h2,hp,z]))
   have zx:¬ (some x=some z):=fun z'=>by
    cases z'
    exact e ((List.getElem?_inj (by rw [L.pl];exact hj) L.fn).mp (by rw [h1,hx]))
   rw [upd_ne qp,if_neg zx,List.append_nil]
   exact L.pg j z q h1 h2
 ·rw [List.map_append,List.mem_append,← L.fm]
  constructor
  ·exact fun m=>.inl m
  ·rintro (m | m)
   ·exact m
   ·have:z=x:=by simpa using m
    rw [this];exact List.mem_of_getElem? hx
theorem LsAt.form (L:LsAt a G H g dx h w c b f hb wa fs pa ws l) {x:List Nat}{q:Addr} (hx:x ∉ fs) (hq:H q=some (.lst [])) (hn:G q=none) (hm:q ∉ w::h::(pa++wa)) (y:List Nat) :
  LsAt a G (upd (upd H c (.dT (dkv fs pa++[(lK x,.ref q)]))) q (.lst [.int (l.length:Int)])) g dx h w c b f hb wa (fs++[x]) (pa++[q]) ws (l++[(y,some x)]):=by
 have gq:g≠q:=ne_of L.hg hq (by intro z;cases z)
 have cq:c≠q:=ne_of L.hc hq (by intro z;cases z)
 have gc:g≠c:=ne_of L.hg L.hc (by intro z;cases z)
 have hc':h≠c:=ne_of L.hh L.hc (by intro z;cases z)
 have wc:w≠c:=ne_of L.hw L.hc (by intro z;cases z)
 have hqn:h≠q:=fun z=>hm (by simp [z])
 have wq:w≠q:=fun z=>hm (by simp [z])
 have nq:plc l x=[]:=by
  cases e:plc l x with
  | nil=>rfl
  | cons k r =>
   have hk:k∈plc l x:=by rw [e];simp
   unfold plc at hk
   obtain ⟨u,hu,_⟩:=List.mem_map.mp hk
   obtain ⟨h1,h2⟩:=List.mem_filter.mp hu
   exact absurd ((L.fm x).mpr (List.mem_map.mpr ⟨u.1,by have:=List.mem_zipIdx h1;exact (this.2.2 ▸ List.getElem_mem _),by simpa using h2⟩)) hx
 refine ⟨by rw [upd_ne gq,upd_ne gc];exact L.hg,by rw [upd_ne hqn,upd_ne hc'];exact L.hh,by rw [upd_ne wq,upd_ne wc];exact L.hw,by rw [upd_ne cq,upd_same,dkv_snoc L.pl],L.wl,fun j z p h1 h2=>?_,by simp [L.pl],fun j z p h1 h2=>?_,?_,fun z=>?_,by simp;exact L.fl,?_,fun z hz=>?_,fun z hz=>?_⟩
 ·have e:=L.wg j z p h1 h2
  have pq:p≠q:=fun e=>hm (by have:=List.mem_of_getElem? h2;simp [← e,this])
  have pc:p≠c:=ne_of e L.hc (by intro z;cases z)
  rw [upd_ne pq,upd_ne pc];exact e
 ·rw [plc_snoc]
  by_cases hi:j<pa.length
  ·rw [List.getElem?_append_left (by rw [L.pl];exact hi)] at h1
   rw [List.getElem?_append_left hi] at h2
   have e:=L.pg j z p h1 h2
   have pq:p≠q:=fun e=>hm (by have:=List.mem_of_getElem? h2;simp [← e,this])
   have pc:p≠c:=ne_of e L.hc (by intro z;cases z)
   have zx:¬ (some x=some z):=fun z'=>by
    cases z'
    exact hx (List.mem_of_getElem? h1)
   rw [upd_ne pq,upd_ne pc,if_neg zx,List.append_nil];exact e
  ·rw [List.getElem?_append_right (by rw [L.pl];lia)] at h1
   rw [List.getElem?_append_right (by lia)] at h2
   have e1:j-pa.length=0:=by
    have:=(List.getElem?_eq_some_iff.mp h2).1
    simp at this;lia
   rw [L.pl,e1] at h1
   rw [e1] at h2
   cases h1;cases h2
   rw [upd_same,if_pos rfl,nq];rfl
 ·rw [List.nodup_append]
  exact ⟨L.fn,by simp,fun u hu v hv e=>by
   have ev:v=x:=by simpa using hv
   rw [e,ev] at hu
   exact hx hu⟩
 ·rw [List.map_append,List.mem_append,List.mem_append,L.fm]
  simp
 ·rw [← List.cons_append,List.nodup_append]
  refine ⟨L.nd,by simp,fun u hu v hv e=>hm ?_⟩
  have:v=q:=by simpa using hv
  rw [← this,← e]
  rcases List.mem_cons.mp hu with m | m <;> simp [m]
 ·intro m
  have m:z∈w::pa∨z=q:=by simp at m ⊢;rcases m with m | m | m <;> simp [m]
  rcases m with m | m
  ·exact L.fr z hz m
  ·rw [m] at hz
   exact hm (by rcases List.mem_cons.mp hz with m | m <;> simp [m])
 ·have hz:z∈g::c::w::h::(pa++wa)∨z=q:=by simp at hz ⊢;rcases hz with q | q | q | q | q | q | q <;> simp [q]
  rcases hz with m | m
  ·exact L.nw z m
  ·rw [m];exact hn
end
end
section
variable {P:Program}{w:World}{K:PySem.W.Frag}{mg:Str→Option Value}{base:Heap}{a:Ad}
theorem bytes_at {bs:List UInt8}{p p':Nat}{c:UInt8}{x:Unit} (h:pk bs p=c.toNat) (e:Vh.byte_ c p (bs.drop p)=.ok (x,p',bs.drop p')):p'=p+1:=by
 rw [byte_ok h] at e
 injection e with e;injection e with _ e;injection e with e _
 exact e.symm
def sp_read_listed (K:PySem.W.Frag) (a:Ad):Sp:=fun vs H Q E=>∃ (r g ta:Addr) (bs:List UInt8) (p:Nat) (G:Hp) (dg h w c:Addr) (b f:Nat) (hb:List UInt8) (wa:List Addr) (fs:List (List Nat)) (pa:List Addr) (l:List (List Nat×Option (List Nat))),
 vs=[.ref r,.ref g]∧Rdr K a H r ta bs p∧SqL K G ta (bsV bs)∧(∃ o,G r=some o)∧Kp [r] G H∧LsAt a G H g dg h w c b f hb wa fs pa (l.map (·.1)) l∧l.length<8192∧pk bs p=62 ∧
 (∀ xs p' H' wa' fs' pa',VhPage.row_ (Vh.someLetters_ 64) 2 (p+1) (bs.drop (p+1))=.ok (xs,p',bs.drop p')→Rdr K a H' r ta bs p'→Kp [r] G H'→LsAt a G H' g dg h w c b f hb wa' fs' pa' ((l++[(xs.headD [],(xs.drop 1).head?)]).map (·.1)) (l++[(xs.headD [],(xs.drop 1).head?)])→Q .non H') ∧
 ∀ p' H',VhPage.row_ (Vh.someLetters_ 64) 2 (p+1) (bs.drop (p+1))=.error p'→Rdr K a H' r ta bs p'→E (.ref a.CE) none H'
abbrev s_read_listed:Stmt:=top 14
theorem sc_read_listed:FnScope ["reader","listing","things","words"] ["reader","listing"] (defScope s_read_listed):=⟨rfl,rfl,rfl,by decide +kernel,rfl,by decide +kernel,by decide +kernel⟩
theorem ok_read_listed {f:Addr}{fd:FuncData} (F:Fun K "read_listed" "read_listed" s_read_listed f fd) (T:Txt K mg a) (c_Reader_take:MethC P w K mg base (CX1 P w a.CE) 3 a.CR "take" ["self","sign"] (sp_Reader_take K a)) (c_Reader_take_things:MethC P w K mg base (CX1 P w a.CE) 5 a.CR "take_things" ["self","most_things","most","marks"] (sp_Reader_take_things K a)):FnOk P w K mg base (CX1 P w a.CE) 6 f fd ["reader","listing"] (sp_read_listed K a):=by
 refine F.okE sc_read_listed (fun vs H Q E h=>?_) (fun cdv A outer s H vs Q E hr h=>?_)
 ·obtain ⟨r,g,ta,bs,p,G,dg,h,w,c,b,f,hb,wa,fs,pa,l,rfl,⟨dx,hR,hS,hne⟩,hSG,hGr,kG,L,hl8,h62,q1,q2⟩:=h
  rfl
 ·obtain ⟨r,g,ta,bs,p,G,dg,h,w,c,b,f,hb,wa,fs,pa,l,rfl,⟨dx,hR,hS,hne⟩,hSG,hGr,kG,L,hl8,h62,q1,q2⟩:=h
  have nd:=sc_read_listed.nd
  refine ⟨_,(pss_cons (ps_expr (pe_methC (pv 0) T.clReader c_Reader_take hr passX (pa_cons pe_str pa_nil))) (pss_cons (ps_set (i:=2) nd rfl (Or.inl rfl) (pe_methC (pv 0) T.clReader c_Reader_take_things hr passX (pa_cons pe_int (pa_cons (pe_gint T.cMOST_LETTERS) (pa_cons (pe_tup pa_nil) pa_nil))))) (pss_cons (ps_expr (pe_methC (pv 0) T.clReader c_Reader_take hr passX (pa_cons pe_str pa_nil))) (pss_cons (ps_set (i:=3) nd rfl (Or.inl rfl) (pe_fld (pv 1) rfl)) (pss_cons (ps_if (pt_cmpR op_eq (pe_callB call_len_seq rfl T.len PySem.boot_len (pa_cons (pv 2) pa_nil)) pe_int (nomark _)) (pss_one (ps_expr (pe_bm PySem.F.plainAttrs_list PySem.F.slot_list_append PySem.F.type_list_append mt_append (pe_bm PySem.F.plainAttrs_dict PySem.F.slot_dict_setdefault PySem.F.type_dict_setdefault (mt_setdefault (hu_of hr)) (pe_fld (pv 1) rfl) (pa_cons (pe_callTy call_tuple_of rfl T.tuple boot_tuple (pa_cons (pe_ix ix_list (pv 2) pe_int (fun _ _=>rfl)) pa_nil)) (pa_cons (pe_lst pa_nil) pa_nil))) (pa_cons (pe_callB call_len_seq rfl T.len PySem.boot_len (pa_cons (pv 3) pa_nil)) pa_nil)))) pss_nil) (pss_one (ps_expr (pe_bm PySem.F.plainAttrs_list PySem.F.slot_list_append PySem.F.type_list_append mt_append (pv 3) (pa_cons (pe_ix ix_list (pv 2) pe_int (fun _ _=>rfl)) pa_nil))))))))),?_⟩
  walk_at "gs"
  have hR2:=hR
  have R:Rdr K a H r ta bs p:=⟨dx,hR,hS,hne⟩
  have hs1:∀ z∈[r],∃ o,G z=some o:=fun z hz=>by rw [List.mem_singleton.mp hz];exact hGr
  have isr:∀ z,G z=none→z≠r:=fun z hz e=>by obtain ⟨o,ho⟩:=hGr;rw [e,ho] at hz;cases hz
  rw [someLetters_chars] at q1 q2
  walk_at "gr"
  refine ⟨r,ta,bs,p,_,62,rfl,R,by decide,by decide,fun _ p1 H1 e1 k1 R1=>?_,fun p1 H1 e1 R1=>?_⟩
  case refine_2 =>
   rw [byte_ok (c:=62) h62] at e1
   cases e1
  have ep:=bytes_at (c:=62) h62 e1
  subst ep
  obtain ⟨dx1,hR,hS,hne⟩:=R1
  have hR2:=hR
  walk_at "gr"
  refine ⟨by decide,fun t ht=>?_⟩
  walk_at "gr"
  have tr:t≠r:=fun z=>by rw [z,hR] at ht;cases ht
  have kt:Kp [r] H1 (upd H1 t (HO.tup [])):=Kp.new ht
  have hR:upd H1 t (HO.tup []) r=some (HO.ins a.CR dx1 (rf ta ((p+1:Nat):Int))):=by rw [upd_ne (Ne.symm tr)];exact hR
  have R2:Rdr K a (upd H1 t (HO.tup [])) r ta bs (p+1):=Rdr.move (dx:=dx1) hS hne kt hR
  have hR2:=hR
  have hRt:=hR
  have mk0:MkOk K (upd H1 t (HO.tup [])) r t []:=⟨fun H' k'=>.inl (.inl (k' _ _ upd_same (by simp [tr]))),fun c hc=>absurd hc (by simp)⟩
  walk_at "gr"
  refine ⟨r,t,ta,bs,[],p+1,2,64,rfl,R2,mk0,by decide,by decide,by decide,by decide,fun xs vs p3 H3 t3 e3 x1 x2 x3 hl3 k3 ht3 hP R3=>?_,fun p3 H3 e3 R3=>q2 p3 H3 e3 R3⟩
  have k13:Kp [r] H H3:=(k1.trans kt).trans k3
  have L3:=L.keep k13 hs1
  obtain ⟨dx3,hR,hS,hne⟩:=R3
  have hR2:=hR
  walk_at "gr"
  refine ⟨r,ta,bs,p3,_,10,rfl,⟨dx3,hR,hS,hne⟩,by decide,by decide,fun _ p4 H4 e4 k4 R4=>?_,fun p4 H4 e4 R4=>?_⟩
  case refine_2 =>
   by_cases h10:pk bs p3=10
   ·rw [byte_ok (c:=10) h10] at e4;cases e4
   ·rw [if_neg h10] at e3
    have:=byte_no (c:=10) h10 (p:=p3) (bs:=bs)
    rw [this] at e4
    cases e4
    exact q2 p3 H4 e3 R4
  by_cases h10:pk bs p3=10
  case neg =>
   have:=byte_no (c:=10) h10 (p:=p3) (bs:=bs)
   rw [this] at e4
   cases e4
  have ep:=bytes_at (c:=10) h10 e4
  subst ep
  rw [if_pos h10] at e3
  have k14:Kp [r] H H4:=k13.trans k4
  have kG4:Kp [r] G H4:=kG.trans k14
  have L4:=L.keep k14 hs1
  -- the two things
  have new4:∀ x v,LN (upd H1 t (HO.tup [])) H3 x v→∃ q,v=V.ref q∧H4 q=some (.lst (lV x))∧G q=none∧(∀ z∈g::c::w::h::(pa++wa),q≠z):=fun x v ⟨q,hv,hq,hq0⟩=>by
   have qr:q≠r:=fun z=>by rw [z,hRt] at hq0;cases hq0
   have qH:H q=none:=by
    have n1:H1 q=none:=by
     by_cases z:q=t
     ·rw [z,upd_same] at hq0;cases hq0
     ·rw [upd_ne z] at hq0;exact hq0
    exact k1.free (by simpa using qr) n1
   refine ⟨q,hv,k4 _ _ hq (by simpa using qr),kG.free (by simpa using qr) qH,fun z hz e=>?_⟩
   obtain ⟨o,ho⟩:=L.is z hz
   rw [← e,qH] at ho;cases ho
  have t3r:t3≠r:=fun z=>by rw [z,hRt] at hl3;cases hl3
  have ht4:H4 t3=some (.lst vs):=k4 _ _ ht3 (by simpa using t3r)
  obtain ⟨dx4,hR,hS,hne⟩:=R4
  have hR2:=hR
  have R4:Rdr K a H4 r ta bs (p3+1):=⟨dx4,hR,hS,hne⟩
  walk_at "gr"
  refine g_fld1 L4.hg T.clListing T.nG_words (lf_words _ _ _ _ _) ?_
  walk_at "gr"
  refine ⟨_,.inl (.inl (.inl ht4)),?_⟩
  walk_at "gr"
  have hvl:=Paired.length hP
  have wr:r≠w:=ne_of hR L4.hw (by intro z;cases z)
  have fin:∀ (x0:Addr) (H5:Hp) (fs':List (List Nat)) (pa':List Addr),vs[0]?=some (.ref x0)→H5 x0=some (.lst (lV (xs.headD [])))→G x0=none→x0 ∉ w::pa'→H5 t3=some (.lst vs)→Rdr K a H5 r ta bs (p3+1)→Kp [r] G H5 →
    LsAt a G H5 g dg h w c b f hb wa fs' pa' (l.map (·.1)) (l++[(xs.headD [],(xs.drop 1).head?)])→M { nx:=fun x H'=>Q V.non H',rt:=Q } [some (V.ref r),some (V.ref g),some (V.ref t3),some (V.ref w)] H5:=fun x0 H5 fs' pa' hv hx hn hm ht5 R5 k5 L5=>by
   refine hM _ _ _ ?_
   walk_at "gr"
   refine ⟨.inl ⟨rfl,_,.inl (.inl L5.hw)⟩,?_⟩
   walk_at "gr"
   refine ⟨_,.inl (.inl ht5),_,atI_nat (j:=0) hv,?_⟩
   walk_at "gr"
   refine ⟨_,L5.hw,by rw [List.length_map,← L5.wl,List.length_map];exact Nat.lt_trans hl8 (by decide),?_⟩
   walk_at "gr"
   have L6:=L5.word hx hn hm
   have k6:Kp [r] G (upd H5 w (HO.lst (wa.map V.ref++[V.ref x0]))):=k5.put2 (.inr (L5.nw w (by simp)))
   obtain ⟨dx5,a1,a2,a3⟩:=R5
   refine q1 xs (p3+1) _ (wa++[x0]) fs' pa' e3 ⟨dx5,by rw [upd_ne wr];exact a1,k6.seq (by simpa using a3) hSG,a3⟩ k6 ?_
   rw [List.map_append]
   exact L6
  clear hM
  have two:(∃ y1 x0,xs=[y1]∧vs=[.ref x0]∧H4 x0=some (.lst (lV y1))∧G x0=none∧(∀ z∈g::c::w::h::(pa++wa),x0≠z)) ∨
    ∃ y1 y2 x0 l2,xs=[y1,y2]∧vs=[.ref x0,.ref l2]∧H4 x0=some (.lst (lV y1))∧G x0=none∧(∀ z∈g::c::w::h::(pa++wa),x0≠z)∧H4 l2=some (.lst (lV y2)):=by
   match xs,vs,hP,x1,x2 with
   | [y1],[v1],.cons n1 .nil,_,_ =>
    obtain ⟨x0,rfl,hx0,hg0,hne0⟩:=new4 _ _ n1
    exact .inl ⟨y1,x0,rfl,rfl,hx0,hg0,hne0⟩
   | [y1,y2],[v1,v2],.cons n1 (.cons n2 .nil),_,_ =>
    obtain ⟨x0,rfl,hx0,hg0,hne0⟩:=new4 _ _ n1
    obtain ⟨l2,rfl,hl2,hg2,hne2⟩:=new4 _ _ n2
    exact .inr ⟨y1,y2,x0,l2,rfl,rfl,hx0,hg0,hne0,hl2⟩
  rcases two with ⟨y1,x0,rfl,rfl,hx0,hg0,hne0⟩ | ⟨y1,y2,x0,l2,rfl,rfl,hx0,hg0,hne0,hl2⟩
  ·rw [if_neg (by simp)]
   refine fin x0 H4 fs pa rfl hx0 hg0 (fun z=>?_) ht4 R4 kG4 (L4.bare y1)
   rcases List.mem_cons.mp z with m | m
   ·exact hne0 w (by simp) m
   ·exact hne0 x0 (by simp [m]) rfl
  ·rw [if_pos (by simp)]
   walk_at "gr"
   refine g_fld1 L4.hg T.clListing T.nG_counted (lf_counted _ _ _ _ _) ?_
   walk_at "gr"
   refine ⟨.inr (.inr (.inl ⟨rfl,.inr ⟨_,L4.hc⟩⟩)),?_⟩
   walk_at "gr"
   refine ⟨_,.inl (.inl ht4),_,atI_nat (j:=1) (v:=V.ref l2) rfl,?_⟩
   walk_at "gr"
   refine ⟨_,.inl ⟨.inl (.inl hl2),fun tt htt=>?_⟩⟩
   walk_at "gr"
   refine ⟨(show 0≤sizeLine by decide),fun q hq=>?_⟩
   walk_at "gr"
   have qt:q≠tt:=fun z=>by rw [z,upd_same] at hq;cases hq
   have hq4:H4 q=none:=by rw [upd_ne qt] at hq;exact hq
   have k45:Kp [] H4 (upd (upd H4 tt (HO.tup (lV y2))) q (HO.lst [])):=(Kp.new htt).trans (Kp.new hq)
   have L5:=L4.keep k45 (by simp)
   have htup:upd (upd H4 tt (HO.tup (lV y2))) q (HO.lst []) tt=some (.tup ((lK y2).map kV)):=by rw [upd_ne (Ne.symm qt),upd_same,lK_kV]
   have hq5:upd (upd H4 tt (HO.tup (lV y2))) q (HO.lst []) q=some (.lst []):=upd_same
   have ht5:upd (upd H4 tt (HO.tup (lV y2))) q (HO.lst []) t3=some (.lst [.ref x0,.ref l2]):=k45 _ _ ht4 (by simp)
   have hx5:upd (upd H4 tt (HO.tup (lV y2))) q (HO.lst []) x0=some (.lst (lV y1)):=k45 _ _ hx0 (by simp)
   have hR5:upd (upd H4 tt (HO.tup (lV y2))) q (HO.lst []) r=some (HO.ins a.CR dx4 (rf ta ((p3+1:Nat):Int))):=k45 _ _ hR (by simp)
   have kG5:Kp [r] G (upd (upd H4 tt (HO.tup (lV y2))) q (HO.lst [])):=kG4.trans (k45.mono (by simp))
   have qr:q≠r:=fun z=>by rw [z,hR] at hq4;cases hq4
   have qG:G q=none:=kG4.free (by simpa using qr) hq4
   have qne:∀ z∈g::c::w::h::(pa++wa),q≠z:=fun z hz e=>by
    obtain ⟨o,ho⟩:=L4.is z hz
    rw [← e,hq4] at ho;cases ho
   have qx:q≠x0:=fun z=>by rw [z,hx0] at hq4;cases hq4
   have qt3:q≠t3:=fun z=>by rw [z,ht4] at hq4;cases hq4
   generalize upd (upd H4 tt (HO.tup (lV y2))) q (HO.lst [])=H5 at L5 htup hq5 ht5 hx5 hR5 kG5 ⊢
   have hfl:(dkv fs pa).length<sizeLine:=by rw [dkv_len L5.pl];exact Nat.lt_of_le_of_lt L5.fl (Nat.lt_trans hl8 (by decide))
   have rd:∀ {H6:Hp},H6 r=some (HO.ins a.CR dx4 (rf ta ((p3+1:Nat):Int)))→Kp [r] G H6→Rdr K a H6 r ta bs (p3+1):=fun {H6} e k=>⟨dx4,e,k.seq (by simpa using hne) hSG,hne⟩
   refine ⟨c,tt,_,lK y2,.ref q,rfl,rfl,L5.hc,htup,hfl,fun v hv=>?_,fun hv=>?_⟩
   ·obtain ⟨i,pp,hi,hpi,rfl⟩:=dkv_in hv
    have hpp:=L5.pg i _ pp hi hpi
    have pm:pp∈pa:=List.mem_of_getElem? hpi
    walk_at "gr"
    refine ⟨.inl ⟨rfl,_,.inl (.inl hpp)⟩,?_⟩
    walk_at "gr"
    refine ⟨_,.inl (.inl (.inl L5.hw)),?_⟩
    walk_at "gr"
    refine ⟨_,hpp,?_,?_⟩
    ·rw [lV_len];exact Nat.lt_of_le_of_lt (plc_len l y2) (Nat.lt_trans hl8 (by decide))
    walk_at "gr"
    have el:((wa.map V.ref).length:Int)=(l.length:Int):=by rw [List.length_map,← L5.wl,List.length_map]
    rw [el]
    have L6:=L5.seen hi hpi y1
    have pr:r≠pp:=ne_of hR5 hpp (by intro z;cases z)
    have px:x0≠pp:=hne0 pp (by simp [pm])
    have pt3:t3≠pp:=fun z=>by
     obtain ⟨o,ho⟩:=L.is pp (by simp [pm])
     have:H pp=none:=by
      rw [← z]
      have n1:H1 t3=none:=by
       by_cases y:t3=t
       ·rw [y,upd_same] at hl3;cases hl3
       ·rw [upd_ne y] at hl3;exact hl3
      exact k1.free (by simpa using t3r) n1
     rw [this] at ho;cases ho
    have k6:Kp [r] G (upd H5 pp (HO.lst (lV (plc l y2)++[V.int (l.length:Int)]))):=kG5.put2 (.inr (L5.nw pp (by simp [pm])))
    refine fin x0 _ fs pa rfl (by rw [upd_ne px];exact hx5) hg0 (fun z=>?_) (by rw [upd_ne pt3];exact ht5) (rd (by rw [upd_ne pr];exact hR5) k6) k6 L6
    rcases List.mem_cons.mp z with m | m
    ·exact hne0 w (by simp) m
    ·exact hne0 x0 (by simp [m]) rfl
   ·have hout:=dkv_out L5.pl hv
    rw [putK_new _ hv]
    have cq:c≠q:=ne_of L5.hc hq5 (by intro z;cases z)
    have hq6:upd H5 c (HO.dT (dkv fs pa++[(lK y2,V.ref q)])) q=some (.lst []):=by rw [upd_ne (Ne.symm cq)];exact hq5
    have wc:w≠c:=ne_of L5.hw L5.hc (by intro z;cases z)
    walk_at "gr"
    refine ⟨.inl ⟨rfl,_,.inl (.inl hq6)⟩,?_⟩
    walk_at "gr"
    refine ⟨_,.inl (.inl (.inl (by rw [upd_ne wc];exact L5.hw))),?_⟩
    walk_at "gr"
    refine ⟨_,hq6,(show 0<sizeLine by decide),?_⟩
    walk_at "gr"
    have el:((wa.map V.ref).length:Int)=(l.length:Int):=by rw [List.length_map,← L5.wl,List.length_map]
    rw [el]
    have L6:=L5.form hout hq5 qG (fun z=>by
     have:q∈g::c::w::h::(pa++wa):=by simp at z ⊢;rcases z with z | z | z | z <;> simp [z]
     exact qne q this rfl) y1
    have cr:r≠c:=ne_of hR5 L5.hc (by intro z;cases z)
    have cx:x0≠c:=ne_of hx5 L5.hc (by intro z;cases z)
    have ct3:t3≠c:=ne_of ht5 L5.hc (by intro z;cases z)
    have k6:Kp [r] G (upd (upd H5 c (HO.dT (dkv fs pa++[(lK y2,V.ref q)]))) q (HO.lst [V.int (l.length:Int)])):=(kG5.put2 (.inr (L5.nw c (by simp)))).put2 (.inr qG)
    refine fin x0 _ _ _ rfl (by rw [upd_ne (Ne.symm qx),upd_ne cx];exact hx5) hg0 (fun z=>?_) (by rw [upd_ne (Ne.symm qt3),upd_ne ct3];exact ht5) (rd (by rw [upd_ne (Ne.symm qr),upd_ne cr];exact hR5) k6) k6 L6
    rcases List.mem_cons.mp z with m | m
    ·exact hne0 w (by simp) m
    ·rcases List.mem_append.mp m with m | m
     ·exact hne0 x0 (by simp [m]) rfl
     ·exact qx (by simpa using m:x0=q).symm
end
section
variable {P:Program}{w:World}{K:PySem.W.Frag}{mg:Str→Option Value}{base:Heap}{a:Ad}
theorem LsAt.head {G H:Hp}{g dx h w c:Addr}{b f:Nat}{hb hb':List UInt8}{wa:List Addr}{fs:List (List Nat)}{pa:List Addr}{ws:List (List Nat)}{l:List (List Nat×Option (List Nat))}
  (L:LsAt a G H g dx h w c b f hb wa fs pa ws l) {q:Addr} (hq:H q=some (.lst (bsV hb'))) (hn:G q=none) (hm:q ∉ w::pa):LsAt a G (upd H g (.ins a.CG dx (lf b f q w c))) g dx q w c b f hb' wa fs pa ws l:=by
 have ng:∀ {z o},H z=some o→(∀ C d fs,o≠.ins C d fs)→z≠g:=fun {z o} e ho z'=>by rw [z',L.hg] at e;cases e;exact ho _ _ _ rfl
 have nl:∀ {z xs},H z=some (.lst xs)→upd H g (.ins a.CG dx (lf b f q w c)) z=some (.lst xs):=fun {z xs} e=>by rw [upd_ne (ng e (fun _ _ _ z=>by cases z))];exact e
 refine ⟨upd_same,nl hq,nl L.hw,by rw [upd_ne (ng L.hc (fun _ _ _ z=>by cases z))];exact L.hc,L.wl,fun i x p h1 h2=>nl (L.wg i x p h1 h2),L.pl,fun i x p h1 h2=>nl (L.pg i x p h1 h2),L.fn,L.fm,L.fl,L.nd,fun z hz=>?_,fun z hz=>?_⟩
 ·rcases List.mem_cons.mp hz with m | m
  ·rw [m];exact hm
  ·exact L.fr z (by simp [m])
 ·have hz:z∈g::c::w::h::(pa++wa)∨z=q:=by simp at hz ⊢;rcases hz with q | q | q | q | q | q <;> simp [q]
  rcases hz with m | m
  ·exact L.nw z m
  ·rw [m];exact hn
def sp_read_listing (K:PySem.W.Frag) (a:Ad):Sp:=fun vs H Q E=>∃ (r ta:Addr) (bs:List UInt8),vs=[.ref r]∧Rdr K a H r ta bs 0 ∧
 (∀ (x:VhPage.Words) g dg h w c wa fs pa H',parseL bs=.ok x→LsAt a H H' g dg h w c x.before x.behind x.head wa fs pa (x.list.map (·.1)) x.list→Q (.ref g) H') ∧
 ∀ i H',parseL bs=.error i→E (.ref a.CE) none H'
abbrev s_read_listing:Stmt:=top 15
theorem sc_read_listing:FnScope ["reader","listing"] ["reader"] (defScope s_read_listing):=⟨rfl,rfl,rfl,by decide +kernel,rfl,by decide +kernel,by decide +kernel⟩
theorem ok_read_listing {f:Addr}{fd:FuncData} (F:Fun K "read_listing" "read_listing" s_read_listing f fd) (T:Txt K mg a) (c_Listing_init:MakeC P w K mg base CX0 1 a.CG "Listing" ["self","settings"] (sp_Listing_init K a)) (c_Reader_take_end:MethC P w K mg base (CX1 P w a.CE) 2 a.CR "take_end" ["self"] (sp_Reader_take_end K a)) (c_Reader_take_head:MethC P w K mg base (CX1 P w a.CE) 4 a.CR "take_head" ["self","all_bounds"] (sp_Reader_take_head K a)) (c_Reader_sees:MethC P w K mg base CX0 2 a.CR "sees" ["self","sign"] (sp_Reader_sees K a)) (c_read_listed:FnC P w K mg base (CX1 P w a.CE) 6 "read_listed" ["reader","listing"] (sp_read_listed K a)):FnOk P w K mg base (CX1 P w a.CE) 7 f fd ["reader"] (sp_read_listing K a):=by
 refine F.okE sc_read_listing (fun vs H Q E h=>?_) (fun cdv A outer s H vs Q E hr h=>?_)
 ·obtain ⟨r,ta,bs,rfl,⟨dx,hR,hS,hne⟩,q1,q2⟩:=h
  rfl
 ·obtain ⟨r,ta,bs,rfl,⟨dx,hR,hS,hne⟩,q1,q2⟩:=h
  have nd:=sc_read_listing.nd
  refine ⟨_,(pss_cons (ps_set (i:=1) nd rfl (Or.inl rfl) (pe_makeC c_Listing_init hr pass0 (pa_cons (pe_methC (pv 0) T.clReader c_Reader_take_head hr passX (pa_cons (pe_gref T.cLIST_BOUNDS) pa_nil)) pa_nil))) (pss_cons (ps_fld (pv 1) (pe_slice sl_list (pe_fld (pv 0) rfl) po_none (po_some (pe_fld (pv 0) rfl))) rfl) (pss_cons (ps_while PassesOwn.leaving (PW.pt (pw_and (pt_val (pe_methC (pv 0) T.clReader c_Reader_sees hr pass0 (pa_cons pe_str pa_nil))) (pw_and1 (pt_cmpR op_lt (pe_callB call_len_seq rfl T.len PySem.boot_len (pa_cons (pe_fld (pv 1) rfl) pa_nil)) (pe_gint T.cMOST_LISTED) (nomark _))))) (pss_one (ps_expr (pe_callC c_read_listed hr passX (pa_cons (pv 0) (pa_cons (pv 1) pa_nil)))))) (pss_cons (ps_expr (pe_methC0 (pv 0) T.clReader c_Reader_take_end hr passX)) (pss_one (ps_ret (pv 1))))))),?_⟩
  walk_at "gs"
  have hR2:=hR
  have hR0:=hR
  have R:Rdr K a H r ta bs 0:=⟨dx,hR,hS,hne⟩
  have hS0:=hS
  obtain ⟨hok,her⟩:=list_head bs
  have pE:∀ {i},list_ 0 bs=.error i→parseL bs=.error i:=fun h=>by unfold parseL Vh.readAll;rw [h]
  walk_at "gr"
  refine ⟨r,a.aLIST_BOUNDS,ta,bs,0,[(0,8),(0,8)],rfl,R,T.tLIST_BOUNDS,by decide,fun xs p1 H1 l1 e1 hxl hl1 k1 hl1' R1=>?_,fun p1 H1 e1 R1=>q2 p1 H1 (pE (her _ (by simpa using e1)))⟩
  rw [List.drop_zero] at e1
  obtain ⟨b,f,rfl,htk,hb8,hf8,hlist⟩:=hok _ _ _ e1
  walk_at "gr"
  intro g dg ng ndg neg
  obtain ⟨dx1,hR,hS,hne⟩:=R1
  have rg:r≠g:=ne_of_none hR ng
  have rdg:r≠dg:=ne_of_none hR ndg
  have l1g:l1≠g:=ne_of_none hl1' ng
  have l1dg:l1≠dg:=ne_of_none hl1' ndg
  have hg0:H g=none:=k1.free (by simp [Ne.symm rg]) ng
  walk_at "gr"
  refine ⟨g,dg,l1,b,f,rfl,upd_same,by rw [upd_ne l1g,upd_ne l1dg];exact hl1',fun H2 h w c k2 hG2 hn hd hh hw hc=>⟨rfl,?_⟩⟩
  obtain ⟨hn1,hn2,hn3⟩:=hn
  obtain ⟨hd1,hd2,hd3,hd4,hd5,hd6⟩:=hd
  have new:∀ z,z≠g→(upd (upd H1 dg (HO.own g)) g (HO.ins a.CG dg [])) z=none→H z=none∧z≠r:=fun z zg e=>by
   rw [upd_ne zg] at e
   have zd:z≠dg:=fun y=>by rw [y,upd_same] at e;cases e
   rw [upd_ne zd] at e
   have zr:z≠r:=fun y=>by rw [y,hR] at e;cases e
   exact ⟨k1.free (by simp [zr]) e,zr⟩
  have k02:Kp [r] H H2:=fun z o e n=>by
   have e1:=k1 z o e n
   have n1:z≠g:=ne_of_none e1 ng
   exact k2 z o (by rw [upd_ne n1,upd_ne (ne_of_none e1 ndg)];exact e1) (by simp [n1])
  have hR:H2 r=some (HO.ins a.CR dx1 (rf ta (p1:Int))):=k2 _ _ (by rw [upd_ne rg,upd_ne rdg];exact hR) (by simp [rg])
  have R2:Rdr K a H2 r ta bs p1:=Rdr.move (dx:=dx1) hS0 hne k02 hR
  have hS:=k02.seq (by simpa using hne) hS0
  have hR2:=hR
  have L2:LsAt a H H2 g dg h w c b f [] [] [] [] [] []:=⟨hG2,hh,hw,hc,rfl,fun i x p e=>by simp at e,rfl,fun i x p e=>by simp at e,List.nodup_nil,fun x=>by simp,Nat.le_refl _,by simp,fun z hz=>by
    have:z=h:=by simpa using hz
    rw [this];simpa using hd4,fun z hz=>by
    simp only [List.append_nil,List.mem_cons,List.not_mem_nil,or_false] at hz
    rcases hz with rfl | rfl | rfl | rfl
    ·exact hg0
    ·exact (new _ hd3 hn3).1
    ·exact (new _ hd2 hn2).1
    ·exact (new _ hd1 hn1).1⟩
  walk_at "gr"
  refine ⟨_,hS,fun hp hhp=>?_⟩
  have hpg:g≠hp:=ne_of_none L2.hg hhp
  have hpr:r≠hp:=ne_of_none hR hhp
  have hp0:H hp=none:=k02.free (by simpa using Ne.symm hpr) hhp
  rw [cut_take]
  have L3:LsAt a H (upd H2 hp (HO.lst (bsV (bs.take p1)))) g dg h w c b f [] [] [] [] [] []:=L2.keep (S:=[]) (Kp.new hhp) (by simp)
  have L4:=L3.head (q:=hp) (hb':=bs.take p1) upd_same hp0 (by
   intro z
   have:hp=w:=by simpa using z
   rw [this,L2.hw] at hhp;cases hhp)
  walk_at "gr"
  refine g_sfld1 L3.hg T.clListing T.nG_head ⟨(show 5<1000 by decide),?_⟩
  rw [lf_put_head]
  rw [htk] at L4 ⊢
  have k4:Kp [r] H (upd (upd H2 hp (HO.lst (bsV (VhPage.Words.mk b f []).head))) g (HO.ins a.CG dg (lf b f hp w c))):=((k02.trans (Kp.new hhp)).put2 (.inr hg0))
  have hR4:upd (upd H2 hp (HO.lst (bsV (VhPage.Words.mk b f []).head))) g (HO.ins a.CG dg (lf b f hp w c)) r=some (HO.ins a.CR dx1 (rf ta (p1:Int))):=by rw [upd_ne rg,upd_ne hpr];exact hR
  generalize upd (upd H2 hp (HO.lst (bsV (VhPage.Words.mk b f []).head))) g (HO.ins a.CG dg (lf b f hp w c))=H4 at L4 k4 hR4 ⊢
  have R4:Rdr K a H4 r ta bs p1:=⟨dx1,hR4,k4.seq (by simpa using hne) hS0,hne⟩
  obtain ⟨W,hW⟩:∃ W:WT,W=fun m σ H'=>∃ (l:List (List Nat×Option (List Nat))) (wa:List Addr) (fs:List (List Nat)) (pa:List Addr) (p':Nat),σ=[some (.ref r),some (.ref g)]∧LsAt a H H' g dg hp w c b f (VhPage.Words.mk b f []).head wa fs pa (l.map (·.1)) l∧Rdr K a H' r ta bs p'∧Kp [r] H H'∧l.length≤8192 ∧
   listed_ 8192 p1 (bs.drop p1)=preO l (listed_ (8192-l.length) p' (bs.drop p'))∧m=8192-l.length:=⟨_,rfl⟩
  walk_at "gr"
  refine ⟨W,⟨_,by rw [hW];exact ⟨[],[],[],[],p1,rfl,L4,R4,k4,by simp,(preO_nil _).symm,rfl⟩⟩,fun m σ H5 hw5=>?_⟩
  rw [hW] at hw5
  obtain ⟨l,wa,fs,pa,p5,rfl,L5,⟨dx5,hR,hS,hne⟩,k5,hl5,eq,rfl⟩:=hw5
  have hR2:=hR
  have R5:Rdr K a H5 r ta bs p5:=⟨dx5,hR,hS,hne⟩
  have fin:(8192-l.length=0∨pk bs p5≠62)→M { nx:=fun x H'=>Q V.non H',rt:=Q } [some (V.ref r),some (V.ref g)] H5:=fun h=>by
   rw [listed_stop h] at eq
   have eq:listed_ 8192 p1 (bs.drop p1)=.ok (l,p5,bs.drop p5):=by rw [eq];show Except.ok (l++[],_,_)=_;rw [List.append_nil]
   obtain ⟨d1,d2⟩:=list_done hlist eq
   refine hM _ _ _ ?_
   walk_at "gr"
   refine ⟨r,ta,bs,p5,rfl,R5,fun hz=>?_,fun hz=>q2 _ _ (d2 hz)⟩
   walk_at "gr"
   exact q1 ⟨b,f,l⟩ g dg hp w c wa fs pa H5 (d1 hz) L5
  clear hM
  walk_at "gr"
  refine ⟨r,ta,bs,p5,_,62,rfl,R5,by decide,by decide,?_⟩
  walk_at "gr"
  by_cases h62:pk bs p5=62
  ·rw [if_pos (by simpa using h62)]
   walk_at "gr"
   refine g_fld1 L5.hg T.clListing T.nG_words (lf_words _ _ _ _ _) ?_
   walk_at "gr"
   refine ⟨_,.inl (.inl (.inl L5.hw)),?_⟩
   walk_at "gr"
   have el:(wa.map V.ref).length=l.length:=by rw [List.length_map,← L5.wl,List.length_map]
   rw [el]
   by_cases hfull:l.length=8192
   ·rw [if_neg (by lia)]
    exact fin (.inl (by lia))
   ·rw [if_pos (by lia)]
    refine ⟨fun σ' H'=>∃ m',m' < 8192-l.length∧W m' σ' H',fun _ _ z=>z,?_⟩
    walk_at "gr"
    have ex:8192-l.length=(8192-(l.length+1))+1:=by lia
    refine ⟨r,g,ta,bs,p5,H,dg,hp,w,c,b,f,_,wa,fs,pa,l,rfl,R5,hS0,⟨_,hR0⟩,k5,L5,by lia,h62,fun xs p6 H6 wa6 fs6 pa6 e6 R6 k6 L6=>?_,fun p6 H6 e6 R6=>?_⟩
    ·walk_at "gr"
     refine ⟨8192-(l.length+1),by lia,?_⟩
     rw [hW]
     refine ⟨_,wa6,fs6,pa6,p6,rfl,L6,R6,k6,by simp;lia,?_,by simp⟩
     rw [eq,ex,listed_go h62 e6,preO_pre]
     simp
    ·refine q2 p6 H6 (list_fail hlist ?_)
     rw [eq,ex,listed_no h62 e6]
     rfl
  ·rw [if_neg (by simpa using h62)]
   walk_at "gr"
   exact fin (.inr h62)
end
section
variable {P:Program}{w:World}{K:PySem.W.Frag}{mg:Str→Option Value}{base:Heap}{a:Ad}
theorem joinL_jn (s:Nat):∀ xs:List (List Nat),joinL s xs=jn s xs
 | []=>rfl
 | [_]=>rfl
 | x::y::r=>by
  show x++s::joinL s (y::r)=x++s::jn s (y::r)
  rw [joinL_jn s (y::r)]
def sp_in_brackets (K:PySem.W.Frag) (a:Ad):Sp:=fun vs H Q _=>∃ (l:Addr) (x:List Nat),vs=[.ref l]∧H l=some (.lst (lV x))∧x.length≤64∧∀ H' p,H p=none→Kp [] H H'→H' p=some (.lst (lV (91::(x++[93]))))→Q (.ref p) H'
abbrev s_in_brackets:Stmt:=top 16
theorem sc_in_brackets:FnScope ["word"] ["word"] (defScope s_in_brackets):=⟨rfl,rfl,rfl,by decide +kernel,rfl,by decide +kernel,by decide +kernel⟩
theorem ok_in_brackets {f:Addr}{fd:FuncData} (F:Fun K "in_brackets" "in_brackets" s_in_brackets f fd) (T:Txt K mg a) (c_characters_of:FnC P w K mg base CX0 1 "characters_of" ["text"] (sp_characters_of K a)):FnOk P w K mg base CX0 2 f fd ["word"] (sp_in_brackets K a):=by
 refine F.ok sc_in_brackets (fun vs H Q E h=>?_) (fun cdv A outer s H vs Q E hr h=>?_)
 ·obtain ⟨l,x,rfl,hl,hx,q⟩:=h
  rfl
 ·obtain ⟨l,x,rfl,hl,hx,q⟩:=h
  have nd:=sc_in_brackets.nd
  refine ⟨_,(pss_one (ps_ret (pe_op op_cat (pe_op op_cat (pe_callC c_characters_of hr pass0 (pa_cons pe_str pa_nil)) (pv 0)) (pe_callC c_characters_of hr pass0 (pa_cons pe_str pa_nil))))),?_⟩
  have hz:sizeLine=16777216:=by decide
  have b1:(Str.ofString "[").cps.toList=[91]:=by decide
  have b2:(Str.ofString "]").cps.toList=[93]:=by decide
  walk_at "gs"
  walk_at "gr"
  refine ⟨_,rfl,by decide,fun H1 p1 hp1 k1 hl1=>?_⟩
  rw [b1] at hl1
  walk_at "gr"
  have hl2:=k1 _ _ hl (by simp)
  refine ⟨p1,l,_,_,rfl,rfl,hl1,hl2,by rw [lV_len,lV_len];simp;lia,fun p2 hp2=>?_⟩
  walk_at "gr"
  refine ⟨_,rfl,by decide,fun H3 p3 hp3 k3 hl3=>?_⟩
  rw [b2] at hl3
  have hl4:=k3 _ _ upd_same (by simp)
  refine ⟨p2,p3,_,_,rfl,rfl,hl4,hl3,by rw [List.length_append,lV_len,lV_len,lV_len];simp;lia,fun p4 hp4=>?_⟩
  have k24:Kp [] H H3:=(k1.trans (Kp.new hp2)).trans k3
  walk_at "gr"
  refine q _ p4 (k24.free (by simp) hp4) (k24.trans (Kp.new hp4)) ?_
  rw [upd_same]
  unfold lV
  rw [← List.map_append,← List.map_append];rfl
theorem cut_nat (us:List V) {x y:Nat} (h:x≤y):cutV us (some (x:Int)) (some (y:Int))=(us.drop x).take (y-x):=by
 unfold cutV
 rw [HT.sIx_nat,HT.sIx_nat]
 by_cases h1:x≤us.length
 ·rw [Nat.min_eq_left h1]
  by_cases h2:y≤us.length
  ·rw [Nat.min_eq_left h2]
  ·rw [Nat.min_eq_right (by lia),List.take_of_length_le (by simp),List.take_of_length_le (by simp;lia)]
 ·rw [Nat.min_eq_right (show us.length≤x by lia),Nat.min_eq_right (show us.length≤y by lia),List.drop_of_length_le (show us.length≤x by lia)]
  simp
def sp_printed_place (K:PySem.W.Frag) (a:Ad):Sp:=fun vs H Q _=>∃ (g dg h w c:Addr) (b f:Nat) (wa:List Addr) (ws:List (List Nat)) (k:Nat),vs=[.ref g,.int (k:Int)]∧H g=some (.ins a.CG dg (lf b f h w c))∧H w=some (.lst (wa.map V.ref))∧ws.length=wa.length∧(∀ (i:Nat) (x:List Nat) (p:Addr),ws[i]?=some x→wa[i]?=some p→H p=some (.lst (lV x))) ∧
 b≤8∧f≤8∧ws.length≤8192∧(∀ x∈ws,x.length≤64)∧k<ws.length∧∀ H' p,H p=none→Kp [] H H'→H' p=some (.lst (lV (placeP b f ws k)))→Q (.ref p) H'
abbrev s_printed_place:Stmt:=top 17
theorem sc_printed_place:FnScope ["listing","k","words","shown"] ["listing","k"] (defScope s_printed_place):=⟨rfl,rfl,rfl,by decide +kernel,rfl,by decide +kernel,by decide +kernel⟩
theorem ok_printed_place {f:Addr}{fd:FuncData} (F:Fun K "printed_place" "printed_place" s_printed_place f fd) (T:Txt K mg a) (c_characters_of:FnC P w K mg base CX0 1 "characters_of" ["text"] (sp_characters_of K a)) (c_in_brackets:FnC P w K mg base CX0 2 "in_brackets" ["word"] (sp_in_brackets K a)) (c_joined:FnC P w K mg base CX0 1 "joined" ["things","between"] (sp_joined K a)):FnOk P w K mg base CX0 3 f fd ["listing","k"] (sp_printed_place K a):=by
 refine F.ok sc_printed_place (fun vs H Q E h=>?_) (fun cdv A outer s H vs Q E hr h=>?_)
 ·obtain ⟨g,dg,h,w,c,b,f,wa,ws,k,rfl,hg,hw,hwl,hwg,hb8,hf8,hn,h64,hk,q⟩:=h
  rfl
 ·obtain ⟨g,dg,h,w,c,b,f,wa,ws,k,rfl,hg,hw,hwl,hwg,hb8,hf8,hn,h64,hk,q⟩:=h
  have nd:=sc_printed_place.nd
  refine ⟨_,(pss_cons (ps_set (i:=2) nd rfl (Or.inl rfl) (pe_fld (pv 0) rfl)) (pss_cons (ps_set (i:=3) nd rfl (Or.inl rfl) (pe_lst (pa_cons (pe_callC c_characters_of hr pass0 (pa_cons (pe_fstr1 (pe_fv (pv 1))) pa_nil)) pa_nil))) (pss_cons (ps_expr (pe_bm PySem.F.plainAttrs_list PySem.F.slot_list_extend PySem.F.type_list_extend mt_extend (pv 3) (pa_cons (pe_slice sl_list (pv 2) (po_some (pe_callB (call_max2 rfl) rfl T.max boot_max (pa_cons pe_int (pa_cons (pe_op op_sub (pv 1) (pe_fld (pv 0) rfl)) pa_nil)))) (po_some (pv 1))) pa_nil))) (pss_cons (ps_expr (pe_bm PySem.F.plainAttrs_list PySem.F.slot_list_append PySem.F.type_list_append mt_append (pv 3) (pa_cons (pe_callC c_in_brackets hr pass0 (pa_cons (pe_ix ix_list (pv 2) (pv 1) (fun _ _=>rfl)) pa_nil)) pa_nil))) (pss_cons (ps_expr (pe_bm PySem.F.plainAttrs_list PySem.F.slot_list_extend PySem.F.type_list_extend mt_extend (pv 3) (pa_cons (pe_slice sl_list (pv 2) (po_some (pe_op op_add (pv 1) pe_int)) (po_some (pe_op op_add (pe_op op_add (pv 1) pe_int) (pe_fld (pv 0) rfl)))) pa_nil))) (pss_one (ps_ret (pe_op op_cat (pe_op op_cat (pe_callC c_characters_of hr pass0 (pa_cons pe_str pa_nil)) (pe_callC c_joined hr pass0 (pa_cons (pv 3) (pa_cons (pe_gint T.cBLANK) pa_nil)))) (pe_callC c_characters_of hr pass0 (pa_cons pe_str pa_nil)))))))))),?_⟩
  have hz:sizeLine=16777216:=by decide
  walk_at "gs"
  walk_at "gr"
  refine g_fld1 hg T.clListing T.nG_words (lf_words _ _ _ _ _) ?_
  have nl:=num_len (n:=k) (k:=5) (by decide) (by lia)
  walk_at "gr"
  refine ⟨_,rfl,_,rfl,log_small (by lia),?_⟩
  walk_at "gr"
  refine ⟨_,rfl,by rw [← Array.length_toList,num_text];lia,fun H1 p1 hp1 k1 hl1=>?_⟩
  rw [num_text] at hl1
  walk_at "gr"
  refine ⟨(show 1≤sizeLine by decide),fun sh hsh=>?_⟩
  walk_at "gr"
  have hsh0:H sh=none:=k1.free (by simp) hsh
  have k2:Kp [] H (upd H1 sh (HO.lst [V.ref p1])):=k1.trans (Kp.new hsh)
  have hs2:upd H1 sh (HO.lst [V.ref p1]) sh=some (HO.lst [V.ref p1]):=upd_same
  have hp12:upd H1 sh (HO.lst [V.ref p1]) p1=some (HO.lst (lV (VhPage.num10 k))):=by rw [upd_ne (ne_of_none hl1 hsh)];exact hl1
  generalize upd H1 sh (HO.lst [V.ref p1])=H2 at k2 hs2 hp12 ⊢
  refine ⟨.inl ⟨rfl,_,.inl (.inl hs2)⟩,?_⟩
  walk_at "gr"
  refine g_fld1 (k2 _ _ hg (by simp)) T.clListing T.nG_before (lf_before _ _ _ _ _) ?_
  walk_at "gr"
  have ecut:(if (k:Int)-(b:Int) > 0 then (k:Int)-(b:Int) else 0)=((k-b:Nat):Int):=by split <;> lia
  rw [ecut]
  have hw2:=k2 _ _ hw (by simp)
  refine ⟨_,.inl (.inl hw2),fun s1 hs1=>?_⟩
  rw [cut_nat _ (show k-b≤k by lia)]
  walk_at "gr"
  have ekb:k-(k-b)=min b k:=by lia
  rw [ekb]
  have ed1:((wa.map V.ref).drop (k-b)).take (min b k)=((wa.drop (k-b)).take (min b k)).map V.ref:=by rw [List.map_take,List.map_drop]
  rw [ed1]
  have s1h:sh≠s1:=ne_of_none hs2 hs1
  refine ⟨_,_,by rw [upd_ne s1h];exact hs2,upd_same,by rw [List.length_map,List.length_take];simp;lia,?_⟩
  have k3:Kp [] H (upd (upd H2 s1 (HO.lst (((wa.drop (k-b)).take (min b k)).map V.ref))) sh (HO.lst ([V.ref p1]++((wa.drop (k-b)).take (min b k)).map V.ref))):=(k2.trans (Kp.new hs1)).put2 (.inr hsh0)
  have hs3:upd (upd H2 s1 (HO.lst (((wa.drop (k-b)).take (min b k)).map V.ref))) sh (HO.lst ([V.ref p1]++((wa.drop (k-b)).take (min b k)).map V.ref)) sh=some (HO.lst ([V.ref p1]++((wa.drop (k-b)).take (min b k)).map V.ref)):=upd_same
  have p1sh:p1≠sh:=fun z=>by rw [z,hs2] at hp12;injection hp12 with h1;injection h1 with h1;exact absurd (congrArg (fun l=>l.head?) h1) (by
   unfold lV VhPage.num10
   cases (Vh.decimal k) <;> simp)
  have hp13:upd (upd H2 s1 (HO.lst (((wa.drop (k-b)).take (min b k)).map V.ref))) sh (HO.lst ([V.ref p1]++((wa.drop (k-b)).take (min b k)).map V.ref)) p1=some (HO.lst (lV (VhPage.num10 k))):=by rw [upd_ne p1sh,upd_ne (ne_of_none hp12 hs1)];exact hp12
  generalize upd (upd H2 s1 (HO.lst (((wa.drop (k-b)).take (min b k)).map V.ref))) sh (HO.lst ([V.ref p1]++((wa.drop (k-b)).take (min b k)).map V.ref))=H3 at k3 hs3 hp13 ⊢
  walk_at "gr"
  refine ⟨.inl ⟨rfl,_,.inl (.inl hs3)⟩,?_⟩
  walk_at "gr"
  have hkw:wa[k]?=some wa[k]:=List.getElem?_eq_getElem (by lia)
  have hks:ws[k]?=some ws[k]:=List.getElem?_eq_getElem hk
  have hword:=hwg k _ _ hks hkw
  refine ⟨_,.inl (.inl (k3 _ _ hw (by simp))),_,atI_nat (j:=k) (v:=V.ref wa[k]) (by rw [List.getElem?_map,hkw];rfl),?_⟩
  walk_at "gr"
  refine ⟨_,_,rfl,k3 _ _ hword (by simp),h64 _ (List.getElem_mem hk),fun H4 p4 hp4 k4 hl4=>?_⟩
  walk_at "gr"
  have hs4:=k4 _ _ hs3 (by simp)
  have p4sh:p4≠sh:=fun z=>by rw [z,hs3] at hp4;cases hp4
  refine ⟨_,hs4,by rw [List.length_append,List.length_map,List.length_take];simp;lia,?_⟩
  have k5:Kp [] H (upd H4 sh (HO.lst (([V.ref p1]++((wa.drop (k-b)).take (min b k)).map V.ref)++[V.ref p4]))):=(k3.trans k4).put2 (.inr hsh0)
  have hs5:upd H4 sh (HO.lst (([V.ref p1]++((wa.drop (k-b)).take (min b k)).map V.ref)++[V.ref p4])) sh=some (HO.lst (([V.ref p1]++((wa.drop (k-b)).take (min b k)).map V.ref)++[V.ref p4])):=upd_same
  have hp15:upd H4 sh (HO.lst (([V.ref p1]++((wa.drop (k-b)).take (min b k)).map V.ref)++[V.ref p4])) p1=some (HO.lst (lV (VhPage.num10 k))):=by rw [upd_ne p1sh];exact k4 _ _ hp13 (by simp)
  have hp45:upd H4 sh (HO.lst (([V.ref p1]++((wa.drop (k-b)).take (min b k)).map V.ref)++[V.ref p4])) p4=some (HO.lst (lV (91::(ws[k]++[93])))):=by rw [upd_ne p4sh];exact hl4
  generalize upd H4 sh (HO.lst (([V.ref p1]++((wa.drop (k-b)).take (min b k)).map V.ref)++[V.ref p4]))=H5 at k5 hs5 hp15 hp45 ⊢
  walk_at "gr"
  refine ⟨.inl ⟨rfl,_,.inl (.inl hs5)⟩,?_⟩
  walk_at "gr"
  refine g_fld1 (k5 _ _ hg (by simp)) T.clListing T.nG_behind (lf_behind _ _ _ _ _) ?_
  walk_at "gr"
  have e2:(k:Int)+1+(f:Int)=((k+1+f:Nat):Int):=by lia
  have e1:(k:Int)+1=((k+1:Nat):Int):=by lia
  rw [e2,e1]
  refine ⟨_,.inl (.inl (k5 _ _ hw (by simp))),fun s6 hs6=>?_⟩
  have ed2:((wa.map V.ref).drop (k+1)).take f=((wa.drop (k+1)).take f).map V.ref:=by rw [List.map_take,List.map_drop]
  rw [cut_nat _ (show k+1≤k+1+f by lia),show k+1+f-(k+1)=f by lia,ed2]
  walk_at "gr"
  refine ⟨_,_,by rw [upd_ne (ne_of_none hs5 hs6)];exact hs5,upd_same,by rw [List.length_append,List.length_append,List.length_map,List.length_take,List.length_map,List.length_take];simp;lia,?_⟩
  have k7:Kp [] H (upd (upd H5 s6 (HO.lst (((wa.drop (k+1)).take f).map V.ref))) sh (HO.lst ((([V.ref p1]++((wa.drop (k-b)).take (min b k)).map V.ref)++[V.ref p4])++((wa.drop (k+1)).take f).map V.ref))):=(k5.trans (Kp.new hs6)).put2 (.inr hsh0)
  have hs7:upd (upd H5 s6 (HO.lst (((wa.drop (k+1)).take f).map V.ref))) sh (HO.lst ((([V.ref p1]++((wa.drop (k-b)).take (min b k)).map V.ref)++[V.ref p4])++((wa.drop (k+1)).take f).map V.ref)) sh=some (HO.lst ((([V.ref p1]++((wa.drop (k-b)).take (min b k)).map V.ref)++[V.ref p4])++((wa.drop (k+1)).take f).map V.ref)):=upd_same
  have hp17:upd (upd H5 s6 (HO.lst (((wa.drop (k+1)).take f).map V.ref))) sh (HO.lst ((([V.ref p1]++((wa.drop (k-b)).take (min b k)).map V.ref)++[V.ref p4])++((wa.drop (k+1)).take f).map V.ref)) p1=some (HO.lst (lV (VhPage.num10 k))):=by rw [upd_ne p1sh,upd_ne (ne_of_none hp15 hs6)];exact hp15
  have hp47:upd (upd H5 s6 (HO.lst (((wa.drop (k+1)).take f).map V.ref))) sh (HO.lst ((([V.ref p1]++((wa.drop (k-b)).take (min b k)).map V.ref)++[V.ref p4])++((wa.drop (k+1)).take f).map V.ref)) p4=some (HO.lst (lV (91::(ws[k]++[93])))):=by rw [upd_ne p4sh,upd_ne (ne_of_none hp45 hs6)];exact hp45
  generalize upd (upd H5 s6 (HO.lst (((wa.drop (k+1)).take f).map V.ref))) sh (HO.lst ((([V.ref p1]++((wa.drop (k-b)).take (min b k)).map V.ref)++[V.ref p4])++((wa.drop (k+1)).take f).map V.ref))=H7 at k7 hs7 hp17 hp47 ⊢
  have b1:(Str.ofString " ").cps.toList=[32]:=by decide
  have b2:(Str.ofString "\n").cps.toList=[10]:=by decide
  walk_at "gr"
  refine ⟨_,rfl,by decide,fun H8 p8 hp8 k8 hl8=>?_⟩
  rw [b1] at hl8
  have k78:=k7.trans k8
  have seg:∀ (i n:Nat),Paired (fun x v=>∃ l,v=V.ref l∧H8 l=some (.lst (lV x))) ((ws.drop i).take n) (((wa.drop i).take n).map V.ref):=fun i n=>by
   refine paired_of_get (by simp;lia) fun j x y hx hy=>?_
   rw [List.getElem?_map,List.getElem?_take,List.getElem?_drop] at hy
   rw [List.getElem?_take,List.getElem?_drop] at hx
   by_cases hj:j<n
   ·rw [if_pos hj] at hx hy
    cases hwa:wa[i+j]? with
    | none=>rw [hwa] at hy;cases hy
    | some z =>
     rw [hwa] at hy
     cases hy
     exact ⟨z,rfl,k78 _ _ (hwg _ _ _ hx hwa) (by simp)⟩
   ·rw [if_neg hj] at hx;cases hx
  have hPd:Paired (fun x v=>∃ l,v=V.ref l∧H8 l=some (.lst (lV x))) (shownP b f ws k) ((([V.ref p1]++((wa.drop (k-b)).take (min b k)).map V.ref)++[V.ref p4])++((wa.drop (k+1)).take f).map V.ref):=by
   have e:(([V.ref p1]++((wa.drop (k-b)).take (min b k)).map V.ref)++[V.ref p4])++((wa.drop (k+1)).take f).map V.ref=V.ref p1::(((wa.drop (k-b)).take (min b k)).map V.ref++V.ref p4::((wa.drop (k+1)).take f).map V.ref):=by simp
   rw [e]
   have eg:ws.getD k []=ws[k]:=by rw [List.getD_eq_getElem?_getD,hks];rfl
   unfold shownP
   rw [eg]
   exact .cons ⟨p1,rfl,k8 _ _ hp17 (by simp)⟩ (Paired.app (seg _ _) (.cons ⟨p4,rfl,k8 _ _ hp47 (by simp)⟩ (seg _ _)))
  have pl:=place_len (b:=b) (f:=f) (ws:=ws) (k:=k) hb8 hf8 h64 (by lia)
  have jl:(jn 32 (shownP b f ws k)).length≤1300:=by unfold placeP at pl;rw [List.length_cons,List.length_append] at pl;lia
  walk_at "gr"
  refine ⟨sh,_,shownP b f ws k,32,rfl,k8 _ _ hs7 (by simp),hPd,by rw [joinL_jn];lia,fun H9 p9 hp9 k9 hl9=>?_⟩
  rw [joinL_jn] at hl9
  walk_at "gr"
  refine ⟨p8,p9,_,_,rfl,rfl,k9 _ _ hl8 (by simp),hl9,by rw [lV_len,lV_len];simp;lia,fun p10 hp10=>?_⟩
  walk_at "gr"
  refine ⟨_,rfl,by decide,fun H11 p11 hp11 k11 hl11=>?_⟩
  rw [b2] at hl11
  walk_at "gr"
  refine ⟨p10,p11,_,_,rfl,rfl,k11 _ _ upd_same (by simp),hl11,by rw [List.length_append,lV_len,lV_len,lV_len];simp;lia,fun p12 hp12'=>?_⟩
  walk_at "gr"
  have kA:Kp [] H H11:=((k78.trans k9).trans (Kp.new hp10)).trans k11
  refine q _ p12 (kA.free (by simp) hp12') (kA.trans (Kp.new hp12')) ?_
  rw [upd_same]
  unfold lV placeP
  rw [← List.map_append,← List.map_append];rfl
end
section
variable {P:Program}{w:World}{K:PySem.W.Frag}{mg:Str→Option Value}{base:Heap}{a:Ad}
def ForW (J:It) (H1:Hp) (σ:L2.St) (g:TG) (tb:TS) (D:Ends):Prop:=∃ W:Nat→Nat→L2.St→Hp→Prop,(∃ m,W 0 m σ H1)∧∀ i m σ H,W i m σ H →
 (J.stop i H∧D.nx σ H)∨(J.go i H∧∃ N:L2.St→Hp→Prop,(∀ σ' H',N σ' H'→∃ m',m' < m∧W (i+1) m' σ' H')∧∀ x H',J.yld i H x H'→g x σ H' fun σ2 H2=>tb { D with nx:=N,ct:=N,bk:=D.nx } σ2 H2)
theorem g_forL {tl:TE}{g:TG}{tb:TS}{D:Ends}{σ:L2.St}{H:Hp} (h:tl σ H fun x H1=>∃ a,x=.ref a∧(∃ xs,SqL K H1 a xs)∧ForW (Itl K a) H1 σ g tb D):tFor (iList K tl) g tb D σ H:=h
theorem g_dget {td ty:TE}{σ:L2.St}{H:Hp}{Q:VK} (h:td σ H fun x H1=>ty σ H1 fun y H2=>∃ a v,x=.ref a∧DGet H2 a y (some v)∧Q v H2):tDGet td ty σ H Q:=h
theorem g_extT {l b:Addr}{H:Hp}{Q:VK} (h:∃ xs zs,H l=some (.lst xs)∧H b=some (.tup zs)∧xs.length+zs.length≤sizeLine∧Q .non (upd H l (.lst (xs++zs)))):rExtendT (.ref l) [.ref b] H Q:=let ⟨xs,zs,h1,h2,h3,h4⟩:=h;⟨l,b,xs,zs,rfl,rfl,h1,h2,h3,h4⟩
theorem flat_take {α β:Type} (g:α→List β) (l:List α) (i:Nat):((l.take i).flatMap g).length≤(l.flatMap g).length:=by
 have h:l.flatMap g=(l.take i).flatMap g++(l.drop i).flatMap g:=by rw [← List.flatMap_append,List.take_append_drop]
 rw [h,List.length_append];lia
theorem bsV_lV (b:List UInt8):bsV b=lV (b.map fun (c:UInt8)=>c.toNat):=by unfold bsV lV;rw [List.map_map];rfl
theorem lV_app (x y:List Nat):lV x++lV y=lV (x++y):=by unfold lV;rw [List.map_append]
theorem dkv_get {f:List Nat}{p:Addr}:∀ {fs:List (List Nat)}{pa:List Addr}{i:Nat},fs.Nodup→fs[i]?=some f→pa[i]?=some p→valV (dkv fs pa) (lK f)=some (.ref p)
 | [],_,_,_,h,_=>by simp at h
 | _::_,[],_,_,_,h=>by simp at h
 | x::fs,q::pa,0,_,h1,h2=>by
  simp at h1 h2
  subst h1;subst h2
  have e:dkv (x::fs) (q::pa)=(lK x,V.ref q)::dkv fs pa:=rfl
  rw [e,valV_pos rfl]
 | x::fs,q::pa,i+1,hn,h1,h2=>by
  have e:dkv (x::fs) (q::pa)=(lK x,V.ref q)::dkv fs pa:=rfl
  have h1:fs[i]?=some f:=by simpa using h1
  rw [e,valV_neg (fun z=>(List.nodup_cons.mp hn).1 (by rw [lK_inj z];exact List.mem_of_getElem? h1))]
  exact dkv_get (List.nodup_cons.mp hn).2 h1 (by simpa using h2)
theorem dkv_keys:∀ {fs:List (List Nat)}{pa:List Addr},fs.length=pa.length→(dkv fs pa).map (·.1)=fs.map lK
 | [],pa,_=>by unfold dkv;simp
 | _::_,[],h=>by simp at h
 | x::fs,q::pa,h=>by
  have e:dkv (x::fs) (q::pa)=(lK x,V.ref q)::dkv fs pa:=rfl
  rw [e,List.map_cons,List.map_cons,dkv_keys (by simpa using h)]
def sp_printed_listing (K:PySem.W.Frag) (a:Ad):Sp:=fun vs H Q _=>∃ (g dg h w c:Addr) (G:Hp) (wa:List Addr) (fs:List (List Nat)) (pa:List Addr) (x:VhPage.Words),vs=[.ref g]∧LsAt a G H g dg h w c x.before x.behind x.head wa fs pa (x.list.map (·.1)) x.list∧x.ok=true∧x.text.length≤8191 ∧
 ∀ H' p,H' p=some (.lst (bsV x.printed))→Q (.ref p) H'
abbrev s_printed_listing:Stmt:=top 18
theorem sc_printed_listing:FnScope ["listing","printed","letters","places","count","k"] ["listing"] (defScope s_printed_listing):=⟨rfl,rfl,rfl,by decide +kernel,rfl,by decide +kernel,by decide +kernel⟩
theorem ok_printed_listing {f:Addr}{fd:FuncData} (F:Fun K "printed_listing" "printed_listing" s_printed_listing f fd) (T:Txt K mg a) (c_bytes_of:FnC P w K mg base CX0 2 "bytes_of" ["characters"] (sp_bytes_of K a)) (c_characters_of:FnC P w K mg base CX0 1 "characters_of" ["text"] (sp_characters_of K a)) (c_printed_place:FnC P w K mg base CX0 3 "printed_place" ["listing","k"] (sp_printed_place K a)):FnOk P w K mg base CX0 4 f fd ["listing"] (sp_printed_listing K a):=by
 refine F.ok sc_printed_listing (fun vs H Q E h=>?_) (fun cdv A outer s H vs Q E hr h=>?_)
 ·obtain ⟨g,dg,h,w,c,G,wa,fs,pa,x,rfl,L,ok,ht,q⟩:=h
  rfl
 ·obtain ⟨g,dg,h,w,c,G,wa,fs,pa,x,rfl,L,ok,ht,q⟩:=h
  have nd:=sc_printed_listing.nd
  refine ⟨_,(pss_cons (ps_set (i:=1) nd rfl (Or.inl rfl) (pe_callTy call_list_of rfl T.list boot_list (pa_cons (pe_fld (pv 0) rfl) pa_nil))) (pss_cons (ps_for PassesOwn.never rfl (pi_list (pe_callB (cr_sortedD rfl) rfl T.sorted PyProof.Rows.boot_sorted (pa_cons (pe_fld (pv 0) rfl) pa_nil))) (pg_name (i:=2) nd rfl (Or.inl rfl)) (pss_cons (ps_set (i:=3) nd rfl (Or.inl rfl) (pe_dget (hu_of hr) (pe_fld (pv 0) rfl) (pv 2) (fun _ _=>rfl))) (pss_cons (ps_set (i:=4) nd rfl (Or.inl rfl) (pe_callB call_len_seq rfl T.len PySem.boot_len (pa_cons (pv 3) pa_nil))) (pss_cons (ps_expr (pe_bm PySem.F.plainAttrs_list PySem.F.slot_list_extend PySem.F.type_list_extend mt_extend (pv 1) (pa_cons (pe_callC c_characters_of hr pass0 (pa_cons pe_str pa_nil)) pa_nil))) (pss_cons (ps_expr (pe_bm PySem.F.plainAttrs_list PySem.F.slot_list_extend PySem.F.type_list_extend mt_extendT (pv 1) (pa_cons (pv 2) pa_nil))) (pss_cons (ps_expr (pe_bm PySem.F.plainAttrs_list PySem.F.slot_list_extend PySem.F.type_list_extend mt_extend (pv 1) (pa_cons (pe_callC c_characters_of hr pass0 (pa_cons (pe_fstr (PEs.cons pe_str (PEs.cons (pe_fv (pv 4)) (PEs.cons pe_str PEs.nil)))) pa_nil)) pa_nil))) (pss_one (ps_for PassesOwn.never rfl (pi_list (pv 3)) (pg_name (i:=5) nd rfl (Or.inl rfl)) (pss_one (ps_expr (pe_bm PySem.F.plainAttrs_list PySem.F.slot_list_extend PySem.F.type_list_extend mt_extend (pv 1) (pa_cons (pe_callC c_printed_place hr pass0 (pa_cons (pv 0) (pa_cons (pv 5) pa_nil))) pa_nil)))))))))))) (pss_one (ps_ret (pe_callC c_bytes_of hr pass0 (pa_cons (pv 1) pa_nil)))))),?_⟩
  have hz:sizeLine=16777216:=by decide
  obtain ⟨w1,w2,w3,w4⟩:=words_ok ok
  have hfew:=words_few ok ht
  have hlen:=listP_len ok ht
  have hchr:=listP_char ok
  walk_at "gs"
  walk_at "gr"
  refine g_fld1 L.hg T.clListing T.nG_head (lf_head _ _ _ _ _) ?_
  walk_at "gr"
  refine ⟨_,.inl (.inl (.inl L.hh)),fun pl hpl=>?_⟩
  walk_at "gr"
  rw [bsV_lV]
  have k1:Kp [] H (upd H pl (HO.lst (lV (x.head.map fun (c:UInt8)=>c.toNat)))):=Kp.new hpl
  have hpl1:upd H pl (HO.lst (lV (x.head.map fun (c:UInt8)=>c.toNat))) pl=some (HO.lst (lV (x.head.map fun (c:UInt8)=>c.toNat))):=upd_same
  generalize upd H pl (HO.lst (lV (x.head.map fun (c:UInt8)=>c.toNat)))=H1 at k1 hpl1 ⊢
  have L1:=L.keep k1 (by simp)
  refine g_forL ?_
  walk_at "gr"
  refine g_fld1 L1.hg T.clListing T.nG_counted (lf_counted _ _ _ _ _) ?_
  walk_at "gr"
  refine ⟨c,_,fs,rfl,L1.hc,dkv_keys L1.pl,fun f hf=>?_,fun ys qs sa hperm hsrt hPq hsa=>?_⟩
  ·obtain ⟨y,hy,e⟩:=List.mem_map.mp ((L.fm f).mp hf)
   exact (word_ok ((w4 y hy).2 f e)).1
  have eys:ys=x.forms:=forms_eq L.fn L.fm hperm hsrt
  subst eys
  have sapl:pl≠sa:=ne_of_none hpl1 hsa
  obtain ⟨hd,hhd⟩:∃ hd:List Nat,hd=x.head.map fun (c:UInt8)=>c.toNat:=⟨_,rfl⟩
  rw [← hhd] at hpl1
  have hlist:listP x=hd++x.forms.flatMap (formP x):=by rw [hhd];rfl
  obtain ⟨St,hSt⟩:∃ St:List Nat→Hp→Prop,St=fun A H'=>Kp [] H H'∧Kp [pl] H1 H'∧H' sa=some (.lst (qs.map V.ref))∧H' pl=some (.lst (lV A)):=⟨_,rfl⟩
  have St.mono:∀ {A H' H''},St A H'→Kp [] H' H''→St A H'':=fun {A H' H''} h k=>by
   rw [hSt] at h ⊢
   exact ⟨h.1.trans k,h.2.1.trans (k.mono (by simp)),k _ _ h.2.2.1 (by simp),k _ _ h.2.2.2 (by simp)⟩
  have St.ext:∀ {A B H'},St A H'→St (A++B) (upd H' pl (.lst (lV A++lV B))):=fun {A B H'} h=>by
   rw [hSt] at h ⊢
   exact ⟨h.1.put2 (.inr hpl),h.2.1.put2 (.inl (by simp)),by rw [upd_ne (Ne.symm sapl)];exact h.2.2.1,by rw [upd_same,lV_app]⟩
  have St.pl:∀ {A H'},St A H'→H' pl=some (.lst (lV A)):=fun {A H'} h=>by rw [hSt] at h;exact h.2.2.2
  have St.ls:∀ {A H'},St A H'→LsAt a G H' g dg h w c x.before x.behind x.head wa fs pa (x.list.map (·.1)) x.list:=fun {A H'} h=>by rw [hSt] at h;exact L.keep h.1 (by simp)
  obtain ⟨Pv,hPv⟩:∃ Pv:WT,Pv=fun i σ H'=>∃ o2 o3 o4 o5:Option V,σ=[some (.ref g),some (.ref pl),o2,o3,o4,o5]∧St (hd++(x.forms.take i).flatMap (formP x)) H':=⟨_,rfl⟩
  refine ⟨sa,rfl,⟨_,.inl (.inl upd_same)⟩,for_list (xs:=qs.map V.ref) Pv ?_ ?_ ?_ ?_⟩
  ·rw [hPv,hSt]
   exact ⟨none,none,none,none,rfl,k1.trans (Kp.new hsa),Kp.new hsa,upd_same,by rw [upd_ne sapl,hpl1];simp⟩
  ·intro i σ H' _ hw'
   rw [hPv,hSt] at hw'
   obtain ⟨_,_,_,_,rfl,h⟩:=hw'
   exact .inl (.inl h.2.2.1)
  ·intro i v σ H2 hi hw'
   rw [hPv] at hw'
   obtain ⟨o2,o3,o4,o5,rfl,h2⟩:=hw'
   rw [List.getElem?_map] at hi
   obtain ⟨qi,hqi,rfl⟩:∃ qi,qs[i]?=some qi∧V.ref qi=v:=by
    cases e:qs[i]? with
    | none=>rw [e] at hi;cases hi
    | some z=>rw [e] at hi;exact ⟨z,rfl,by simpa using hi⟩
   obtain ⟨y,hy,hqy⟩:=Paired.get hPq hqi
   have hq2:H2 qi=some (.tup (lV y)):=by
    have:=h2
    rw [hSt] at this
    refine this.2.1 _ _ hqy ?_
    intro z
    rw [List.mem_singleton.mp z,hpl1] at hqy;cases hqy
   have L2:=St.ls h2
   have hyf:y∈fs:=(hperm.mem_iff).mp (List.mem_of_getElem? hy)
   obtain ⟨j,hj,ej⟩:=List.mem_iff_getElem.mp hyf
   have hfj:fs[j]?=some y:=by rw [List.getElem?_eq_getElem hj,ej]
   have hpj:pa[j]?=some (pa[j]'(by rw [← L.pl];exact hj)):=List.getElem?_eq_getElem _
   generalize pa[j]'(by rw [← L.pl];exact hj)=pj at hpj
   have hle:(hd++(x.forms.take (i+1)).flatMap (formP x)).length≤4194303:=by
    have:=flat_take (formP x) x.forms (i+1)
    rw [hlist,List.length_append] at hlen
    rw [List.length_append];lia
   have esn:hd++(x.forms.take (i+1)).flatMap (formP x)=hd++(x.forms.take i).flatMap (formP x)++formH x y++(plc x.list y).flatMap (placeP x.before x.behind (wds x)):=by
    rw [take_snoc' hy,List.flatMap_append]
    unfold formP
    simp
   have hPi:Pv (i+1)=fun σ H'=>∃ o2 o3 o4 o5:Option V,σ=[some (.ref g),some (.ref pl),o2,o3,o4,o5]∧St (hd++(x.forms.take (i+1)).flatMap (formP x)) H':=by rw [hPv]
   rw [hPi]
   rw [esn] at hle ⊢
   generalize hA:hd++(x.forms.take i).flatMap (formP x)=A at h2 hle ⊢
   walk_at "gr"
   refine g_dget ?_
   walk_at "gr"
   refine g_fld1 L2.hg T.clListing T.nG_counted (lf_counted _ _ _ _ _) ?_
   walk_at "gr"
   have hdg:DGet H2 c (.ref qi) (some (.ref pj)):=by
    have:=DGet.t (k:=lK y) L2.hc (show H2 qi=some (.tup ((lK y).map kV)) by rw [lK_kV];exact hq2)
    rw [dkv_get L.fn hfj hpj] at this
    exact this
   refine ⟨c,.ref pj,rfl,hdg,?_⟩
   walk_at "gr"
   have hpj2:=L2.pg j y pj hfj hpj
   refine ⟨_,.inl (.inl (.inl hpj2)),?_⟩
   walk_at "gr"
   refine ⟨.inl ⟨rfl,_,.inl (.inl (St.pl h2))⟩,?_⟩
   walk_at "gr"
   have bq:(Str.ofString "=").cps.toList=[61]:=by decide
   refine ⟨_,rfl,by decide,fun H3 p3 hp3 k3 hl3=>?_⟩
   rw [bq] at hl3
   have h3:=St.mono h2 k3
   have hlA:A.length+(2+y.length+1+(VhPage.num10 (plc x.list y).length).length)+((plc x.list y).flatMap (placeP x.before x.behind (wds x))).length≤4194303:=by
    unfold formH at hle
    simp only [List.length_append,List.length_cons,List.length_nil] at hle
    lia
   walk_at "gr"
   refine ⟨_,_,St.pl h3,hl3,by rw [lV_len,lV_len];simp;lia,?_⟩
   have h4:=St.ext (B:=[61]) h3
   have hq4:upd H3 pl (.lst (lV A++lV [61])) qi=some (.tup (lV y)):=by
    rw [upd_ne (ne_of (k3 _ _ hq2 (by simp)) (St.pl h3) (by intro z;cases z))];exact k3 _ _ hq2 (by simp)
   generalize upd H3 pl (.lst (lV A++lV [61]))=H4 at h4 hq4 ⊢
   walk_at "gr"
   refine ⟨.inl ⟨rfl,_,.inl (.inl (St.pl h4))⟩,?_⟩
   walk_at "gr"
   refine g_extT ⟨_,_,St.pl h4,hq4,by rw [lV_len,lV_len];simp;lia,?_⟩
   have h5:=St.ext (B:=y) h4
   generalize upd H4 pl (.lst (lV (A++[61])++lV y))=H5 at h5 ⊢
   walk_at "gr"
   refine ⟨.inl ⟨rfl,_,.inl (.inl (St.pl h5))⟩,?_⟩
   walk_at "gr"
   have eN:(lV (plc x.list y)).length=(plc x.list y).length:=lV_len _
   rw [eN]
   have hn5:(plc x.list y).length<100000:=by have:=plc_len x.list y;lia
   have nl:=num_len (n:=(plc x.list y).length) (k:=5) (by decide) (by lia)
   have bs1:(Str.ofString " ").cps.toList=[32]:=by decide
   have bs2:(Str.ofString "\n").cps.toList=[10]:=by decide
   have be:Str.empty.cps.toList=[]:=by decide
   have eS:(Str.empty++Str.ofString " "++Str.ofString (toString ((plc x.list y).length:Int))++Str.ofString "\n").cps.toList=32::(VhPage.num10 (plc x.list y).length++[10]):=by
    rw [str_app,str_app,str_app,be,bs1,bs2,num_text];simp
   have l3:(Str.empty++Str.ofString " "++Str.ofString (toString ((plc x.list y).length:Int))++Str.ofString "\n").length≤7:=by rw [str_len,eS];simp;lia
   have l2:(Str.empty++Str.ofString " "++Str.ofString (toString ((plc x.list y).length:Int))).length≤6:=by rw [str_len,str_app,str_app,be,bs1,num_text];simp;lia
   have l1:(Str.empty++Str.ofString " ").length≤1:=by rw [str_len,str_app,be,bs1];simp
   refine ⟨_,rfl,by lia,_,rfl,_,rfl,log_small (by lia),_,rfl,(by rw [hz];exact Nat.le_trans l2 (by decide)),_,rfl,(by rw [hz];exact Nat.le_trans l3 (by decide)),(by rw [hz];exact Nat.le_trans l3 (by decide)),?_⟩
   walk_at "gr"
   refine ⟨_,rfl,by rw [← Array.length_toList,eS];simp;lia,fun H6 p6 hp6 k6 hl6=>?_⟩
   rw [eS] at hl6
   have h6:=St.mono h5 k6
   walk_at "gr"
   refine ⟨_,_,St.pl h6,hl6,by rw [lV_len,lV_len];simp;lia,?_⟩
   have h7:=St.ext (B:=32::(VhPage.num10 (plc x.list y).length++[10])) h6
   have e7:A++[61]++y++32::(VhPage.num10 (plc x.list y).length++[10])=A++formH x y:=by unfold formH;simp
   rw [e7] at h7
   generalize upd H6 pl (.lst (lV (A++[61]++y)++lV (32::(VhPage.num10 (plc x.list y).length++[10]))))=H7 at h7 ⊢
   walk_at "gr"
   refine g_forL ?_
   walk_at "gr"
   obtain ⟨Pw,hPw⟩:∃ Pw:WT,Pw=fun j σ H'=>∃ o5:Option V,σ=[some (.ref g),some (.ref pl),some (.ref qi),some (.ref pj),some (.int ((plc x.list y).length:Int)),o5]∧St (A++formH x y++((plc x.list y).take j).flatMap (placeP x.before x.behind (wds x))) H':=⟨_,rfl⟩
   refine ⟨pj,rfl,⟨_,.inl (.inl ((St.ls h7).pg j y pj hfj hpj))⟩,for_list (xs:=lV (plc x.list y)) Pw ?_ ?_ ?_ ?_⟩
   ·rw [hPw]
    exact ⟨o5,rfl,by simpa using h7⟩
   ·intro i' σ H' _ hw'
    rw [hPw] at hw'
    obtain ⟨_,rfl,h⟩:=hw'
    exact .inl (.inl ((St.ls h).pg j y pj hfj hpj))
   ·intro m v σ H8 hm hw'
    rw [hPw] at hw'
    obtain ⟨o,rfl,h8⟩:=hw'
    obtain ⟨kk,hkk,rfl⟩:=lV_get hm
    have L8:=St.ls h8
    have hkl:kk<x.list.length:=plc_lt (List.mem_of_getElem? hkk)
    have hm1:(A++formH x y++((plc x.list y).take (m+1)).flatMap (placeP x.before x.behind (wds x))).length≤4194303:=by
     have:=flat_take (placeP x.before x.behind (wds x)) (plc x.list y) (m+1)
     rw [List.length_append] at hle ⊢
     lia
    have em:A++formH x y++((plc x.list y).take (m+1)).flatMap (placeP x.before x.behind (wds x))=A++formH x y++((plc x.list y).take m).flatMap (placeP x.before x.behind (wds x))++placeP x.before x.behind (wds x) kk:=by
     rw [take_snoc' hkk,List.flatMap_append];simp
    have hPi2:Pw (m+1)=fun σ H'=>∃ o5:Option V,σ=[some (.ref g),some (.ref pl),some (.ref qi),some (.ref pj),some (.int ((plc x.list y).length:Int)),o5]∧St (A++formH x y++((plc x.list y).take (m+1)).flatMap (placeP x.before x.behind (wds x))) H':=by rw [hPw]
    rw [hPi2]
    rw [em] at hm1 ⊢
    generalize hB:A++formH x y++((plc x.list y).take m).flatMap (placeP x.before x.behind (wds x))=B at h8 hm1 ⊢
    walk_at "gr"
    refine ⟨.inl ⟨rfl,_,.inl (.inl (St.pl h8))⟩,?_⟩
    walk_at "gr"
    refine ⟨g,dg,h,w,c,x.before,x.behind,wa,wds x,kk,rfl,L8.hg,L8.hw,L8.wl,L8.wg,w1,w2,by unfold wds;rw [List.length_map];lia,wds_len ok,by unfold wds;rw [List.length_map];exact hkl,fun H9 p9 hp9 k9 hl9=>?_⟩
    have h9:=St.mono h8 k9
    walk_at "gr"
    rw [List.length_append] at hm1
    refine ⟨_,_,St.pl h9,hl9,by rw [lV_len,lV_len];lia,?_⟩
    walk_at "gr"
    exact ⟨_,rfl,St.ext h9⟩
   ·intro σ H8 hw'
    rw [hPw] at hw'
    obtain ⟨o,rfl,h8⟩:=hw'
    rw [lV_len,List.take_of_length_le (Nat.le_refl _)] at h8
    exact ⟨_,_,_,_,rfl,h8⟩
  ·intro σ H2 hw'
   rw [hPv] at hw'
   obtain ⟨o2,o3,o4,o5,rfl,h2⟩:=hw'
   rw [List.length_map,← Paired.length hPq,List.take_of_length_le (Nat.le_refl _),← hlist] at h2
   refine hM _ _ _ ?_
   walk_at "gr"
   refine ⟨pl,listP x,rfl,St.pl h2,hchr,hlen,fun H3 p3 hp3 k3 hl3=>?_⟩
   walk_at "gr"
   rw [spelt_list] at hl3
   exact q H3 p3 hl3
end
section
variable {P:Program}{w:World}{K:PySem.W.Frag}{mg:Str→Option Value}{base:Heap}{a:Ad}
def lamSc:Expr→Scope
 | .Lambda _ _ sc _=>sc
 | _=>{ kind:=.function,names:=[],isGenerator:=false,isCoroutine:=false }
def lamBody:Expr→Expr
 | .Lambda _ b _ _=>b
 | e=>e
def prV (b:List UInt8):List V:=if 16777216<b.length then [.int (-2)] else .int (b.length:Int)::bsV b
def sp_counted_bytes (K:PySem.W.Frag) (a:Ad):Sp:=fun vs H Q _=>∃ (l:Addr) (b:List UInt8),vs=[.ref l]∧H l=some (.lst (bsV b))∧b.length≤16777212∧∀ H' p,H' p=some (.lst (prV b))→Q (.ref p) H'
abbrev s_counted_bytes:Stmt:=top 31
theorem sc_counted_bytes:FnScope ["found"] ["found"] (defScope s_counted_bytes):=⟨rfl,rfl,rfl,by decide +kernel,rfl,by decide +kernel,by decide +kernel⟩
theorem ok_counted_bytes {f:Addr}{fd:FuncData} (F:Fun K "counted_bytes" "counted_bytes" s_counted_bytes f fd) (T:Txt K mg a):FnOk P w K mg base CX0 1 f fd ["found"] (sp_counted_bytes K a):=by
 refine F.ok sc_counted_bytes (fun vs H Q E h=>?_) (fun cdv A outer s H vs Q E hr h=>?_)
 ·obtain ⟨l,b,rfl,hl,hb,q⟩:=h
  rfl
 ·obtain ⟨l,b,rfl,hl,hb,q⟩:=h
  have nd:=sc_counted_bytes.nd
  refine ⟨_,(pss_cons (ps_if (pt_cmpR op_gt (pe_callB call_len_seq rfl T.len PySem.boot_len (pa_cons (pv 0) pa_nil)) (pe_gint T.cMOST_PRINTED_BYTES) (nomark _)) (pss_one (ps_ret (pe_lst (pa_cons (pe_un un_neg pe_int) pa_nil)))) pss_nil) (pss_one (ps_ret (pe_op op_cat (pe_lst (pa_cons (pe_callB call_len_seq rfl T.len PySem.boot_len (pa_cons (pv 0) pa_nil)) pa_nil)) (pv 0))))),?_⟩
  have hz:sizeLine=16777216:=by decide
  walk_at "gs"
  walk_at "gr"
  refine ⟨_,.inl (.inl (.inl hl)),?_⟩
  walk_at "gr"
  rw [bsV_len,if_neg (by lia)]
  walk_at "gr"
  refine ⟨_,.inl (.inl (.inl hl)),?_⟩
  walk_at "gr"
  refine ⟨(show 1≤sizeLine by decide),fun p1 hp1=>?_⟩
  walk_at "gr"
  refine ⟨p1,l,_,_,rfl,rfl,upd_same,by rw [upd_ne (ne_of_none hl hp1)];exact hl,by rw [bsV_len];simp;lia,fun p2 hp2=>?_⟩
  walk_at "gr"
  refine q _ p2 ?_
  rw [upd_same,bsV_len]
  unfold prV
  rw [if_neg (by lia)]
  rfl
def spL (K:PySem.W.Frag) (a:Ad):Sp:=fun vs H Q _=>∃ (g dg h w c:Addr) (G:Hp) (wa:List Addr) (fs:List (List Nat)) (pa:List Addr) (x:VhPage.Words),vs=[.ref g]∧LsAt a G H g dg h w c x.before x.behind x.head wa fs pa (x.list.map (·.1)) x.list∧x.ok=true∧x.text.length≤8191∧∀ H' p,H' p=some (.lst (prV x.printed))→Q (.ref p) H'
def ansC (bs:List UInt8):List V:=match parseL bs with
 | .ok x=>prV x.printed
 | .error _=>[.int (-6)]
def spA (K:PySem.W.Frag) (a:Ad) (fL:Addr):Sp:=fun vs H Q _=>∃ (ta:Addr) (bs:List UInt8),vs=[.ref ta,.ref a.F_read_listing,.ref fL]∧SqL K H ta (bsV bs)∧bs.length≤8191∧∀ H' p,H' p=some (.lst (ansC bs))→Q (.ref p) H'
abbrev s_answered:Stmt:=top 30
theorem sc_answered:FnScope ["t","read","answer","found"] ["t","read","answer"] (defScope s_answered):=⟨rfl,rfl,rfl,by decide +kernel,rfl,by decide +kernel,by decide +kernel⟩
theorem ok_answered {fL:Addr}{fdL:FuncData}{f:Addr}{fd:FuncData} (F:Fun K "answered" "answered" s_answered f fd) (T:Txt K mg a) (hat:PySem.W.FnAt fL base) (FA:FnOk P w K mg base CX0 5 fL fdL ["listing"] (spL K a)) (hbA:∀ (s:Shared) (us:List Value),us.length=["listing"].length→BindsTo s fdL ⟨us,[]⟩ ((["listing"]:List Str).zip us)) (c_read_listing:FnC P w K mg base (CX1 P w a.CE) 7 "read_listing" ["reader"] (sp_read_listing K a)) (c_Reader_init:MakeC P w K mg base CX0 1 a.CR "Reader" ["self","t"] (sp_Reader_init K a)):FnOk P w K mg base CX0 8 f fd ["t","read","answer"] (spA K a fL):=by
 refine F.ok sc_answered (fun vs H Q E h=>?_) (fun cdv A outer s H vs Q E hr h=>?_)
 ·obtain ⟨ta,bs,rfl,h⟩:=h
  rfl
 ·obtain ⟨ta,bs,rfl,hS,hlen,q⟩:=h
  have nd:=sc_answered.nd
  refine ⟨_,(pss_cons (ps_if (pt_cmpR op_gt (pe_callB call_len_seq rfl T.len PySem.boot_len (pa_cons (pv 0) pa_nil)) (pe_gint T.cMOST_TEXT_BYTES) (nomark _)) (pss_one (ps_ret (pe_lst (pa_cons (pe_un un_neg pe_int) pa_nil)))) pss_nil) (pss_cons (by refine' ps_try (C:=a.CE) ?eT ?eg ?eb ?es;(case eT=>exact T.exc);(case eg=>exact rfl);(case eb=>exact (pxs_set (i:=3) nd rfl (Or.inl rfl) (px_callL 1 c_read_listing T.f_read_listing hr (pa_cons (pe_makeC c_Reader_init hr pass0 (pa_cons (pv 0) pa_nil)) pa_nil))));(case es=>exact fun _=>(pss_one (ps_ret (pe_lst (pa_cons (pe_un un_neg pe_int) pa_nil)))))) (pss_one (ps_ret (pe_callF 2 hat FA hbA hr pass0 (pa_cons (pv 3) pa_nil)))))),?_⟩
  obtain ⟨ot,hta⟩:=SqL.is T hS
  walk_at "rd"
  refine ⟨_,.inl hS,?_⟩
  rw [bsV_len,if_neg (by lia)]
  simp only [tCallXL,tCallX]
  walk_at "rd"
  intro x dx nx ndx nex
  have tax:ta≠x:=ne_of_none hta nx
  have tadx:ta≠dx:=ne_of_none hta ndx
  have k0:Kp [] H (upd (upd H dx (HO.own x)) x (HO.ins a.CR dx [])):=fun c o e _=>by
   rw [upd_ne (ne_of_none e nx),upd_ne (ne_of_none e ndx)];exact e
  refine ⟨x,dx,ta,bs,rfl,upd_same,k0.seq (by simp) hS,tax,fun H2 k2 R2=>⟨rfl,?_⟩⟩
  refine ⟨x,ta,bs,rfl,R2,fun wo g dg h w c wa fs pa H3 e3 L3=>?_,fun p3 H3 e3=>?_⟩
  ·simp only [tCallL]
   walk_at "rd"
   obtain ⟨e4,ok⟩:=list_back e3
   refine ⟨g,dg,h,w,c,_,wa,fs,pa,wo,rfl,L3,ok,by rw [e4];exact hlen,fun H' p hp=>q H' p ?_⟩
   rw [hp]
   unfold ansC
   rw [e3]
  ·intro ea
   walk_at "rd"
   refine ⟨by decide,fun l hl=>q _ l ?_⟩
   rw [upd_same]
   unfold ansC
   rw [e3]
abbrev lam0:Expr:=exArg (stVal (stI (defBody (top 32)) 0)) 2
theorem ls_concord:LamScope0 "listing" (lamSc lam0):=⟨rfl,rfl,rfl,rfl,by decide +kernel,by decide +kernel⟩
def sp_concord (K:PySem.W.Frag) (PT:Addr):Sp:=fun vs H Q _=>∃ (ta:Addr) (bs:List UInt8),vs=[.ref ta]∧SqL K H ta (bsV bs)∧H PT=some (.tbl #[])∧bs.length≤8191∧∀ H' p,H' p=some (.lst (ansC bs))→Q (.ref p) H'
abbrev s_concord:Stmt:=top 32
theorem sc_concord:FnScope ["t"] ["t"] (defScope s_concord):=⟨rfl,rfl,rfl,by decide +kernel,rfl,by decide +kernel,by decide +kernel⟩
theorem lam_concord {ql:Str}{f c':Addr}{A:Around}{outer:List Env}{s:Shared}{H:Hp}{v:V}{Q:VK}{E:XK} (c_counted_bytes:FnC P w K mg base CX0 1 "counted_bytes" ["found"] (sp_counted_bytes K a)) (c_printed_listing:FnC P w K mg base CX0 4 "printed_listing" ["listing"] (sp_printed_listing K a))
  (hr:Room 4 (A.deeper (PySem.W.envX ql (lamSc lam0) s.heap.objs.size f (.ref c') []))) (h:spL K a [v] H Q E) :
  ∃ t,PE (cxLam P w K mg base ["listing"] ql (lamSc lam0) f (.ref c') [] A outer s H E) (lamBody lam0) t∧t [some v] H Q:=by
 refine ⟨_,(pe_callC c_counted_bytes hr pass0 (pa_cons (pe_callC c_printed_listing hr pass0 (pa_cons (pv 0) pa_nil)) pa_nil)),?_⟩
 obtain ⟨g,dg,h,w,c,G,wa,fs,pa,x,hv,L,ok,ht,q⟩:=h
 cases hv
 walk_at "rd"
 have hb:x.printed.length≤16777212:=by
  have h1:=listP_len ok ht
  have h2:=spelt_len (listP x)
  rw [spelt_list] at h2
  lia
 exact ⟨g,dg,h,w,c,G,wa,fs,pa,x,rfl,L,ok,ht,fun H' p hp=>⟨p,x.printed,rfl,hp,hb,q⟩⟩
theorem ok_concord {f c gf:Addr}{oc kV doc pm ct:Value}{od an:Option Addr}{osl:Array (Option Value)} (lk:K.lookup f=some ⟨oc,od,.func (PySem.W.fnOf "concord" "concord" (defArgs s_concord) (defBody s_concord) (defScope s_concord) .none kV doc pm an (.ref c) ct),osl⟩) (hcd:PySem.W.codeIn K (.ref c) "concord"=true) (T:Txt K mg a)
  (hC:∀ h,K.In h→PySem.W.CodeHd h c a.PT) (hB:base.BuiltinsAt mg a.PT) (hgP:mainGlobals≠a.PT) (hm:mg "answered"=some (.ref gf)) (hk:PySem.W.keepIn K (.ref gf)=true)
  (hA:∀ (base':Heap) (fL:Addr) (fdL:FuncData),PySem.W.FnAt fL base'→(∀ (s:Shared) (us:List Value),us.length=["listing"].length→BindsTo s fdL ⟨us,[]⟩ ((["listing"]:List Str).zip us))→FnOk P w K mg base' CX0 5 fL fdL ["listing"] (spL K a)→FnC P w K mg base' CX0 8 "answered" ["t","read","answer"] (spA K a fL))
  (hN:∀ base',FnC P w K mg base' CX0 4 "printed_listing" ["listing"] (sp_printed_listing K a)) (hR:∀ base',FnC P w K mg base' CX0 1 "counted_bytes" ["found"] (sp_counted_bytes K a)) :
  FnOk P w K mg base CX0 9 f (PySem.W.fnOf "concord" "concord" (defArgs s_concord) (defBody s_concord) (defScope s_concord) .none kV doc pm an (.ref c) ct) ["t"] (sp_concord K a.PT):=by
 refine fn_of lk hcd sc_concord (fun vs H Q E h=>?_) (fun A outer s H vs Q E hr h=>?_)
 ·obtain ⟨ta,bs,rfl,h⟩:=h
  rfl
 ·obtain ⟨ta,bs,rfl,hS,hPT,hlen,q⟩:=h
  refine ⟨_,pss_one (ps_ret (pe_callLam0 (i:=0) (t:="t") (x:="listing") (c:=c) (fr:=a.F_read_listing) (rn:="read_listing") (PT:=a.PT) (gf:=gf) (k:=8) (jl:=4) (spL:=spL K a) (spA:=spA K a) (ps2:=["t","read","answer"]) (E:=E) ls_concord rfl hC hB rfl (Or.inl rfl) rfl rfl rfl rfl T.f_read_listing rfl hm hk hr
   (fun vs H Q E h=>by obtain ⟨_,_,_,_,_,_,_,_,_,_,rfl,_⟩:=h;rfl) (fun base' f fd hM h1 h2 h3=>hA base' f fd h1 h2 h3) (fun f c' pm ctv s us hu=>match us,hu with | [_],_=>.of_eq rfl)
   (fun base' f c' A outer s H v Q E hr h=>lam_concord (hR base') (hN base') hr h) pass0 hgP)),?_⟩
  refine ⟨.ref ta,#[],rfl,hPT,trivial,rfl,fun fL ps' hfL=>⟨ta,bs,rfl,?_,hlen,q⟩⟩
  rcases hS with (h | ⟨o,h⟩) | h
  ·exact .inl (.inl (by rw [upd_ne (fun z=>by rw [z,hPT] at h;cases h)];exact h))
  ·exact .inl (.inr ⟨o,by rw [upd_ne (fun z=>by rw [z,hPT] at h;cases h)];exact h⟩)
  ·exact .inr h
end
end Vp
end
section
set_option maxRecDepth 100000
set_option maxHeartbeats 4000000
namespace Vp
open PySem PySem.Spec PyProof.Rows L2
open PySem.W (Codec)
theorem sqT_of {K:PySem.W.Frag}{a:Addr}{d:Option Addr}{its:Array Value}{n:Nat}{sl:Array (Option Value)}{xs:List V} (l:K.lookup a=some ⟨.type "tuple",d,.seq its n,sl⟩) (hz:its.size≤1000) (v:Vals xs its.toList) (H:Hp):SqT K H a xs :=
 .inr ⟨_,its,n,l,rfl,rfl,Nat.le_trans hz (by decide),v⟩
theorem mem_lk {b:Addr}{o:Obj}:∀ {K:PySem.W.Frag},K.lookup b=some o→(b,o)∈K
 | [],h=>by cases h
 | (c,u)::r,h=>by
  rw [List.lookup_cons] at h
  cases e:b==c with
  | true =>
   rw [e] at h
   have h':u=o:=Option.some.inj h
   rw [← h',eq_of_beq e]
   exact List.mem_cons_self
  | false =>
   rw [e] at h
   exact List.mem_cons_of_mem _ (mem_lk h)
theorem lcs {us:List Value}{n:Nat} (h:us.length=n+1):∃ a r,us=a::r∧r.length=n:=match us,h with | a::r,h=>⟨a,r,rfl,Nat.succ.inj h⟩
theorem fb1 {K:PySem.W.Frag}{x qual:Str}{st:Stmt}{f:Addr}{fd:FuncData}{p0:Str} (F:Fun K x qual st f fd) (h:∀ (kV doc pm:Value) (an:Option Addr) (cdv ct a0:Value),bindArgs (PySem.W.fnOf x qual (defArgs st) (defBody st) (defScope st) .none kV doc pm an cdv ct) ⟨[a0],[]⟩=pure ([p0].zip [a0])):Binds K fd [p0] []:=F.binds fun kV doc pm an cdv ct us hl=>by
 obtain ⟨a0,r0,rfl,h0⟩:=lcs (n:=0) hl
 obtain rfl:=List.eq_nil_of_length_eq_zero h0
 exact h kV doc pm an cdv ct a0
theorem fb2 {K:PySem.W.Frag}{x qual:Str}{st:Stmt}{f:Addr}{fd:FuncData}{p0 p1:Str} (F:Fun K x qual st f fd) (h:∀ (kV doc pm:Value) (an:Option Addr) (cdv ct a0 a1:Value),bindArgs (PySem.W.fnOf x qual (defArgs st) (defBody st) (defScope st) .none kV doc pm an cdv ct) ⟨[a0,a1],[]⟩=pure ([p0,p1].zip [a0,a1])):Binds K fd [p0,p1] []:=F.binds fun kV doc pm an cdv ct us hl=>by
 obtain ⟨a0,r0,rfl,h0⟩:=lcs (n:=1) hl
 obtain ⟨a1,r1,rfl,h1⟩:=lcs (n:=0) h0
 obtain rfl:=List.eq_nil_of_length_eq_zero h1
 exact h kV doc pm an cdv ct a0 a1
theorem fb3 {K:PySem.W.Frag}{x qual:Str}{st:Stmt}{f:Addr}{fd:FuncData}{p0 p1 p2:Str} (F:Fun K x qual st f fd) (h:∀ (kV doc pm:Value) (an:Option Addr) (cdv ct a0 a1 a2:Value),bindArgs (PySem.W.fnOf x qual (defArgs st) (defBody st) (defScope st) .none kV doc pm an cdv ct) ⟨[a0,a1,a2],[]⟩=pure ([p0,p1,p2].zip [a0,a1,a2])):Binds K fd [p0,p1,p2] []:=F.binds fun kV doc pm an cdv ct us hl=>by
 obtain ⟨a0,r0,rfl,h0⟩:=lcs (n:=2) hl
 obtain ⟨a1,r1,rfl,h1⟩:=lcs (n:=1) h0
 obtain ⟨a2,r2,rfl,h2⟩:=lcs (n:=0) h1
 obtain rfl:=List.eq_nil_of_length_eq_zero h2
 exact h kV doc pm an cdv ct a0 a1 a2
theorem fb4 {K:PySem.W.Frag}{x qual:Str}{st:Stmt}{f:Addr}{fd:FuncData}{p0 p1 p2 p3:Str} (F:Fun K x qual st f fd) (h:∀ (kV doc pm:Value) (an:Option Addr) (cdv ct a0 a1 a2 a3:Value),bindArgs (PySem.W.fnOf x qual (defArgs st) (defBody st) (defScope st) .none kV doc pm an cdv ct) ⟨[a0,a1,a2,a3],[]⟩=pure ([p0,p1,p2,p3].zip [a0,a1,a2,a3])):Binds K fd [p0,p1,p2,p3] []:=F.binds fun kV doc pm an cdv ct us hl=>by
 obtain ⟨a0,r0,rfl,h0⟩:=lcs (n:=3) hl
 obtain ⟨a1,r1,rfl,h1⟩:=lcs (n:=2) h0
 obtain ⟨a2,r2,rfl,h2⟩:=lcs (n:=1) h1
 obtain ⟨a3,r3,rfl,h3⟩:=lcs (n:=0) h2
 obtain rfl:=List.eq_nil_of_length_eq_zero h3
 exact h kV doc pm an cdv ct a0 a1 a2 a3
theorem all_mk {P:Program}{w:World}{K:PySem.W.Frag}{h:Heap}{mg:Str→Option Value}{fa c0 PT:Addr}{CE CR CG f0 f1 f2 f3 f4 f5 f6 f7 f8 f9 f10 f11 f12 f13 f14 f15 f16 f17 f18 f19 f20 f21 f22 f23 f24 f25 f26 f27 f28 f29 aMARKS aLIST_BOUNDS aENDS bLIST_BOUNDS0 bLIST_BOUNDS1:Addr}{tBLANK tFIRST_LETTER tMOST_LETTERS tMOST_LISTED tNO_BYTE tMOST_TEXT_BYTES tMOST_PRINTED_BYTES uMARKS0 uMARKS1 uMARKS2 uMARKS3 uMARKS4 uMARKS5 uMARKS6 uMARKS7 uMARKS8 uMARKS9 uMARKS10 uMARKS11 uMARKS12 uMARKS13 uMARKS14 uMARKS15 uLIST_BOUNDS0_0 uLIST_BOUNDS0_1 uLIST_BOUNDS1_0 uLIST_BOUNDS1_1 uENDS0 uENDS1:Tok}{od0 od1 od2 od3 od4 od5 od6 od7 od8 od9 od10 od11 od12 od13 od14 od15 od16 od17 od18 od19 od20 od21 od22 od23 od24 od25 od26 od27 od28 od29 an0 an1 an2 an3 an4 an5 an6 an7 an8 an9 an10 an11 an12 an13 an14 an15 an16 an17 an18 an19 an20 an21 an22 an23 an24 an25 an26 an27 an28 an29 dMARKS dLIST_BOUNDS dLIST_BOUNDS0 dLIST_BOUNDS1 dENDS:Option Addr}{sl0 sl1 sl2 sl3 sl4 sl5 sl6 sl7 sl8 sl9 sl10 sl11 sl12 sl13 sl14 sl15 sl16 sl17 sl18 sl19 sl20 sl21 sl22 sl23 sl24 sl25 sl26 sl27 sl28 sl29 sMARKS sLIST_BOUNDS sLIST_BOUNDS0 sLIST_BOUNDS1 sENDS:Array (Option Value)}{nMARKS nLIST_BOUNDS nLIST_BOUNDS0 nLIST_BOUNDS1 nENDS:Nat}{oc0 kV0 dc0 pm0 cd0 ct0 oc1 kV1 dc1 pm1 cd1 ct1 oc2 kV2 dc2 pm2 cd2 ct2 oc3 kV3 dc3 pm3 cd3 ct3 oc4 kV4 dc4 pm4 cd4 ct4 oc5 kV5 dc5 pm5 cd5 ct5 oc6 kV6 dc6 pm6 cd6 ct6 oc7 kV7 dc7 pm7 cd7 ct7 oc8 kV8 dc8 pm8 cd8 ct8 oc9 kV9 dc9 pm9 cd9 ct9 oc10 kV10 dc10 pm10 cd10 ct10 oc11 kV11 dc11 pm11 cd11 ct11 oc12 kV12 dc12 pm12 cd12 ct12 oc13 kV13 dc13 pm13 cd13 ct13 oc14 kV14 dc14 pm14 cd14 ct14 oc15 kV15 dc15 pm15 cd15 ct15 oc16 kV16 dc16 pm16 cd16 ct16 oc17 kV17 dc17 pm17 cd17 ct17 oc18 kV18 dc18 pm18 cd18 ct18 oc19 kV19 dc19 pm19 cd19 ct19 oc20 kV20 dc20 pm20 cd20 ct20 oc21 kV21 dc21 pm21 cd21 ct21 oc22 kV22 dc22 pm22 cd22 ct22 oc23 kV23 dc23 pm23 cd23 ct23 oc24 kV24 dc24 pm24 cd24 ct24 oc25 kV25 dc25 pm25 cd25 ct25 oc26 kV26 dc26 pm26 cd26 ct26 oc27 kV27 dc27 pm27 cd27 ct27 oc28 kV28 dc28 pm28 cd28 ct28 oc29 kV29 dc29 pm29 cd29 ct29:Value} (X:K.In h) (G:h.Ns mainGlobals mg) (hfa:mg "concord"=some (.ref fa)) (htab:PySem.W.tabIn K "concord"=some (c0,PT)) (hC:∀ h2,K.In h2→PySem.W.CodeHd h2 c0 PT) (hgP:mainGlobals≠PT) (qCE:PySem.W.excIn K CE [.type "ValueError",.type "Exception",.type "BaseException",.type "object"] "ValueError.__new__"=true) (nl:(K.all fun p=>!(p.2.cls==.type "list"))=true)
  (aCR:PySem.W.nsIn K mainGlobals "Reader"=some (some (.ref CR)))
  (pgR:PySem.W.plainGet K CR Str.empty=true)
  (hdR:PySem.W.hasDictIn K CR=true)
  (poR:PySem.W.plainOver K CR=true)
  (saR:PySem.W.findIn K (.ref CR) "__setattr__"=some (some (.builtin "object.__setattr__")))
  (mkR:PySem.W.makesIn K CR=true)
  (kcR:PySem.W.keepIn K (.ref CR)=true)
  (nR_t:PySem.W.findIn K (.ref CR) "t"=some none)
  (nR_at:PySem.W.findIn K (.ref CR) "at"=some none)
  (aCG:PySem.W.nsIn K mainGlobals "Listing"=some (some (.ref CG)))
  (pgG:PySem.W.plainGet K CG Str.empty=true)
  (hdG:PySem.W.hasDictIn K CG=true)
  (poG:PySem.W.plainOver K CG=true)
  (saG:PySem.W.findIn K (.ref CG) "__setattr__"=some (some (.builtin "object.__setattr__")))
  (mkG:PySem.W.makesIn K CG=true)
  (kcG:PySem.W.keepIn K (.ref CG)=true)
  (nG_before:PySem.W.findIn K (.ref CG) "before"=some none)
  (nG_behind:PySem.W.findIn K (.ref CG) "behind"=some none)
  (nG_head:PySem.W.findIn K (.ref CG) "head"=some none)
  (nG_words:PySem.W.findIn K (.ref CG) "words"=some none)
  (nG_counted:PySem.W.findIn K (.ref CG) "counted"=some none)
  (aCE:PySem.W.nsIn K mainGlobals "NoText"=some (some (.ref CE)))
  (iBLANK:PySem.W.nsIn K mainGlobals "BLANK"=some (some (.int 32 tBLANK)))
  (iFIRST_LETTER:PySem.W.nsIn K mainGlobals "FIRST_LETTER"=some (some (.int 33 tFIRST_LETTER)))
  (iMOST_LETTERS:PySem.W.nsIn K mainGlobals "MOST_LETTERS"=some (some (.int 64 tMOST_LETTERS)))
  (iMOST_LISTED:PySem.W.nsIn K mainGlobals "MOST_LISTED"=some (some (.int 8192 tMOST_LISTED)))
  (iNO_BYTE:PySem.W.nsIn K mainGlobals "NO_BYTE"=some (some (.int 256 tNO_BYTE)))
  (iMOST_TEXT_BYTES:PySem.W.nsIn K mainGlobals "MOST_TEXT_BYTES"=some (some (.int 1048576 tMOST_TEXT_BYTES)))
  (iMOST_PRINTED_BYTES:PySem.W.nsIn K mainGlobals "MOST_PRINTED_BYTES"=some (some (.int 16777216 tMOST_PRINTED_BYTES)))
  (gMARKS:PySem.W.nsIn K mainGlobals "MARKS"=some (some (.ref aMARKS)))
  (lMARKS:K.lookup aMARKS=some ⟨.type "tuple",dMARKS,.seq #[.int 124 uMARKS0,.int 47 uMARKS1,.int 40 uMARKS2,.int 41 uMARKS3,.int 91 uMARKS4,.int 93 uMARKS5,.int 60 uMARKS6,.int 62 uMARKS7,.int 123 uMARKS8,.int 125 uMARKS9,.int 61 uMARKS10,.int 43 uMARKS11,.int 126 uMARKS12,.int 94 uMARKS13,.int 35 uMARKS14,.int 34 uMARKS15] nMARKS,sMARKS⟩)
  (gLIST_BOUNDS:PySem.W.nsIn K mainGlobals "LIST_BOUNDS"=some (some (.ref aLIST_BOUNDS)))
  (lLIST_BOUNDS:K.lookup aLIST_BOUNDS=some ⟨.type "tuple",dLIST_BOUNDS,.seq #[.ref bLIST_BOUNDS0,.ref bLIST_BOUNDS1] nLIST_BOUNDS,sLIST_BOUNDS⟩)
  (lLIST_BOUNDS0:K.lookup bLIST_BOUNDS0=some ⟨.type "tuple",dLIST_BOUNDS0,.seq #[.int 0 uLIST_BOUNDS0_0,.int 8 uLIST_BOUNDS0_1] nLIST_BOUNDS0,sLIST_BOUNDS0⟩)
  (lLIST_BOUNDS1:K.lookup bLIST_BOUNDS1=some ⟨.type "tuple",dLIST_BOUNDS1,.seq #[.int 0 uLIST_BOUNDS1_0,.int 8 uLIST_BOUNDS1_1] nLIST_BOUNDS1,sLIST_BOUNDS1⟩)
  (gENDS:PySem.W.nsIn K mainGlobals "ENDS"=some (some (.ref aENDS)))
  (lENDS:K.lookup aENDS=some ⟨.type "tuple",dENDS,.seq #[.int 32 uENDS0,.int 10 uENDS1] nENDS,sENDS⟩)
  (bl_len:PySem.W.nsIn K mainGlobals "len"=some none)
  (bl_ord:PySem.W.nsIn K mainGlobals "ord"=some none)
  (bl_min:PySem.W.nsIn K mainGlobals "min"=some none)
  (bl_max:PySem.W.nsIn K mainGlobals "max"=some none)
  (bl_range:PySem.W.nsIn K mainGlobals "range"=some none)
  (bl_enumerate:PySem.W.nsIn K mainGlobals "enumerate"=some none)
  (bl_str:PySem.W.nsIn K mainGlobals "str"=some none)
  (bl_list:PySem.W.nsIn K mainGlobals "list"=some none)
  (bl_sum:PySem.W.nsIn K mainGlobals "sum"=some none)
  (bl_tuple:PySem.W.nsIn K mainGlobals "tuple"=some none)
  (bl_sorted:PySem.W.nsIn K mainGlobals "sorted"=some none)
  (a_is_letter:PySem.W.nsIn K mainGlobals "is_letter"=some (some (.ref f0)))
  (l_is_letter:K.lookup f0=some ⟨oc0,od0,.func (PySem.W.fnOf "is_letter" "is_letter" (defArgs s_is_letter) (defBody s_is_letter) (defScope s_is_letter) .none kV0 dc0 pm0 an0 cd0 ct0),sl0⟩)
  (c_is_letter:PySem.W.codeIn K cd0 "is_letter"=true)
  (k_is_letter:PySem.W.keepIn K (.ref f0)=true)
  (a_begins_some:PySem.W.nsIn K mainGlobals "begins_some"=some (some (.ref f1)))
  (l_begins_some:K.lookup f1=some ⟨oc1,od1,.func (PySem.W.fnOf "begins_some" "begins_some" (defArgs s_begins_some) (defBody s_begins_some) (defScope s_begins_some) .none kV1 dc1 pm1 an1 cd1 ct1),sl1⟩)
  (c_begins_some:PySem.W.codeIn K cd1 "begins_some"=true)
  (k_begins_some:PySem.W.keepIn K (.ref f1)=true)
  (a_size_by_lead:PySem.W.nsIn K mainGlobals "size_by_lead"=some (some (.ref f2)))
  (l_size_by_lead:K.lookup f2=some ⟨oc2,od2,.func (PySem.W.fnOf "size_by_lead" "size_by_lead" (defArgs s_size_by_lead) (defBody s_size_by_lead) (defScope s_size_by_lead) .none kV2 dc2 pm2 an2 cd2 ct2),sl2⟩)
  (c_size_by_lead:PySem.W.codeIn K cd2 "size_by_lead"=true)
  (k_size_by_lead:PySem.W.keepIn K (.ref f2)=true)
  (a_bounds_behind:PySem.W.nsIn K mainGlobals "bounds_behind"=some (some (.ref f3)))
  (l_bounds_behind:K.lookup f3=some ⟨oc3,od3,.func (PySem.W.fnOf "bounds_behind" "bounds_behind" (defArgs s_bounds_behind) (defBody s_bounds_behind) (defScope s_bounds_behind) .none kV3 dc3 pm3 an3 cd3 ct3),sl3⟩)
  (c_bounds_behind:PySem.W.codeIn K cd3 "bounds_behind"=true)
  (k_bounds_behind:PySem.W.keepIn K (.ref f3)=true)
  (a_Reader_init:PySem.W.findIn K (.ref CR) "__init__"=some (some (.ref f4)))
  (i_Reader_init:PySem.W.isFn K (.ref f4)=true)
  (l_Reader_init:K.lookup f4=some ⟨oc4,od4,.func (PySem.W.fnOf "__init__" "Reader.__init__" (defArgs s_Reader_init) (defBody s_Reader_init) (defScope s_Reader_init) .none kV4 dc4 pm4 an4 cd4 ct4),sl4⟩)
  (c_Reader_init:PySem.W.codeIn K cd4 "Reader.__init__"=true)
  (k_Reader_init:PySem.W.keepIn K (.ref f4)=true)
  (a_Reader_peek:PySem.W.findIn K (.ref CR) "peek"=some (some (.ref f5)))
  (i_Reader_peek:PySem.W.isFn K (.ref f5)=true)
  (l_Reader_peek:K.lookup f5=some ⟨oc5,od5,.func (PySem.W.fnOf "peek" "Reader.peek" (defArgs s_Reader_peek) (defBody s_Reader_peek) (defScope s_Reader_peek) .none kV5 dc5 pm5 an5 cd5 ct5),sl5⟩)
  (c_Reader_peek:PySem.W.codeIn K cd5 "Reader.peek"=true)
  (k_Reader_peek:PySem.W.keepIn K (.ref f5)=true)
  (a_Reader_sees:PySem.W.findIn K (.ref CR) "sees"=some (some (.ref f6)))
  (i_Reader_sees:PySem.W.isFn K (.ref f6)=true)
  (l_Reader_sees:K.lookup f6=some ⟨oc6,od6,.func (PySem.W.fnOf "sees" "Reader.sees" (defArgs s_Reader_sees) (defBody s_Reader_sees) (defScope s_Reader_sees) .none kV6 dc6 pm6 an6 cd6 ct6),sl6⟩)
  (c_Reader_sees:PySem.W.codeIn K cd6 "Reader.sees"=true)
  (k_Reader_sees:PySem.W.keepIn K (.ref f6)=true)
  (a_Reader_take:PySem.W.findIn K (.ref CR) "take"=some (some (.ref f7)))
  (i_Reader_take:PySem.W.isFn K (.ref f7)=true)
  (l_Reader_take:K.lookup f7=some ⟨oc7,od7,.func (PySem.W.fnOf "take" "Reader.take" (defArgs s_Reader_take) (defBody s_Reader_take) (defScope s_Reader_take) .none kV7 dc7 pm7 an7 cd7 ct7),sl7⟩)
  (c_Reader_take:PySem.W.codeIn K cd7 "Reader.take"=true)
  (k_Reader_take:PySem.W.keepIn K (.ref f7)=true)
  (a_Reader_take_end:PySem.W.findIn K (.ref CR) "take_end"=some (some (.ref f8)))
  (i_Reader_take_end:PySem.W.isFn K (.ref f8)=true)
  (l_Reader_take_end:K.lookup f8=some ⟨oc8,od8,.func (PySem.W.fnOf "take_end" "Reader.take_end" (defArgs s_Reader_take_end) (defBody s_Reader_take_end) (defScope s_Reader_take_end) .none kV8 dc8 pm8 an8 cd8 ct8),sl8⟩)
  (c_Reader_take_end:PySem.W.codeIn K cd8 "Reader.take_end"=true)
  (k_Reader_take_end:PySem.W.keepIn K (.ref f8)=true)
  (a_Reader_take_digit:PySem.W.findIn K (.ref CR) "take_digit"=some (some (.ref f9)))
  (i_Reader_take_digit:PySem.W.isFn K (.ref f9)=true)
  (l_Reader_take_digit:K.lookup f9=some ⟨oc9,od9,.func (PySem.W.fnOf "take_digit" "Reader.take_digit" (defArgs s_Reader_take_digit) (defBody s_Reader_take_digit) (defScope s_Reader_take_digit) .none kV9 dc9 pm9 an9 cd9 ct9),sl9⟩)
  (c_Reader_take_digit:PySem.W.codeIn K cd9 "Reader.take_digit"=true)
  (k_Reader_take_digit:PySem.W.keepIn K (.ref f9)=true)
  (a_Reader_take_number:PySem.W.findIn K (.ref CR) "take_number"=some (some (.ref f10)))
  (i_Reader_take_number:PySem.W.isFn K (.ref f10)=true)
  (l_Reader_take_number:K.lookup f10=some ⟨oc10,od10,.func (PySem.W.fnOf "take_number" "Reader.take_number" (defArgs s_Reader_take_number) (defBody s_Reader_take_number) (defScope s_Reader_take_number) .none kV10 dc10 pm10 an10 cd10 ct10),sl10⟩)
  (c_Reader_take_number:PySem.W.codeIn K cd10 "Reader.take_number"=true)
  (k_Reader_take_number:PySem.W.keepIn K (.ref f10)=true)
  (a_Reader_take_long_letter:PySem.W.findIn K (.ref CR) "take_long_letter"=some (some (.ref f11)))
  (i_Reader_take_long_letter:PySem.W.isFn K (.ref f11)=true)
  (l_Reader_take_long_letter:K.lookup f11=some ⟨oc11,od11,.func (PySem.W.fnOf "take_long_letter" "Reader.take_long_letter" (defArgs s_Reader_take_long_letter) (defBody s_Reader_take_long_letter) (defScope s_Reader_take_long_letter) .none kV11 dc11 pm11 an11 cd11 ct11),sl11⟩)
  (c_Reader_take_long_letter:PySem.W.codeIn K cd11 "Reader.take_long_letter"=true)
  (k_Reader_take_long_letter:PySem.W.keepIn K (.ref f11)=true)
  (a_Reader_take_character:PySem.W.findIn K (.ref CR) "take_character"=some (some (.ref f12)))
  (i_Reader_take_character:PySem.W.isFn K (.ref f12)=true)
  (l_Reader_take_character:K.lookup f12=some ⟨oc12,od12,.func (PySem.W.fnOf "take_character" "Reader.take_character" (defArgs s_Reader_take_character) (defBody s_Reader_take_character) (defScope s_Reader_take_character) .none kV12 dc12 pm12 an12 cd12 ct12),sl12⟩)
  (c_Reader_take_character:PySem.W.codeIn K cd12 "Reader.take_character"=true)
  (k_Reader_take_character:PySem.W.keepIn K (.ref f12)=true)
  (a_Reader_ends_thing:PySem.W.findIn K (.ref CR) "ends_thing"=some (some (.ref f13)))
  (i_Reader_ends_thing:PySem.W.isFn K (.ref f13)=true)
  (l_Reader_ends_thing:K.lookup f13=some ⟨oc13,od13,.func (PySem.W.fnOf "ends_thing" "Reader.ends_thing" (defArgs s_Reader_ends_thing) (defBody s_Reader_ends_thing) (defScope s_Reader_ends_thing) .none kV13 dc13 pm13 an13 cd13 ct13),sl13⟩)
  (c_Reader_ends_thing:PySem.W.codeIn K cd13 "Reader.ends_thing"=true)
  (k_Reader_ends_thing:PySem.W.keepIn K (.ref f13)=true)
  (a_Reader_take_thing:PySem.W.findIn K (.ref CR) "take_thing"=some (some (.ref f14)))
  (i_Reader_take_thing:PySem.W.isFn K (.ref f14)=true)
  (l_Reader_take_thing:K.lookup f14=some ⟨oc14,od14,.func (PySem.W.fnOf "take_thing" "Reader.take_thing" (defArgs s_Reader_take_thing) (defBody s_Reader_take_thing) (defScope s_Reader_take_thing) .none kV14 dc14 pm14 an14 cd14 ct14),sl14⟩)
  (c_Reader_take_thing:PySem.W.codeIn K cd14 "Reader.take_thing"=true)
  (k_Reader_take_thing:PySem.W.keepIn K (.ref f14)=true)
  (a_Reader_take_things:PySem.W.findIn K (.ref CR) "take_things"=some (some (.ref f15)))
  (i_Reader_take_things:PySem.W.isFn K (.ref f15)=true)
  (l_Reader_take_things:K.lookup f15=some ⟨oc15,od15,.func (PySem.W.fnOf "take_things" "Reader.take_things" (defArgs s_Reader_take_things) (defBody s_Reader_take_things) (defScope s_Reader_take_things) .none kV15 dc15 pm15 an15 cd15 ct15),sl15⟩)
  (c_Reader_take_things:PySem.W.codeIn K cd15 "Reader.take_things"=true)
  (k_Reader_take_things:PySem.W.keepIn K (.ref f15)=true)
  (a_Reader_take_head:PySem.W.findIn K (.ref CR) "take_head"=some (some (.ref f16)))
  (i_Reader_take_head:PySem.W.isFn K (.ref f16)=true)
  (l_Reader_take_head:K.lookup f16=some ⟨oc16,od16,.func (PySem.W.fnOf "take_head" "Reader.take_head" (defArgs s_Reader_take_head) (defBody s_Reader_take_head) (defScope s_Reader_take_head) .none kV16 dc16 pm16 an16 cd16 ct16),sl16⟩)
  (c_Reader_take_head:PySem.W.codeIn K cd16 "Reader.take_head"=true)
  (k_Reader_take_head:PySem.W.keepIn K (.ref f16)=true)
  (a_joined:PySem.W.nsIn K mainGlobals "joined"=some (some (.ref f17)))
  (l_joined:K.lookup f17=some ⟨oc17,od17,.func (PySem.W.fnOf "joined" "joined" (defArgs s_joined) (defBody s_joined) (defScope s_joined) .none kV17 dc17 pm17 an17 cd17 ct17),sl17⟩)
  (c_joined:PySem.W.codeIn K cd17 "joined"=true)
  (k_joined:PySem.W.keepIn K (.ref f17)=true)
  (a_characters_of:PySem.W.nsIn K mainGlobals "characters_of"=some (some (.ref f18)))
  (l_characters_of:K.lookup f18=some ⟨oc18,od18,.func (PySem.W.fnOf "characters_of" "characters_of" (defArgs s_characters_of) (defBody s_characters_of) (defScope s_characters_of) .none kV18 dc18 pm18 an18 cd18 ct18),sl18⟩)
  (c_characters_of:PySem.W.codeIn K cd18 "characters_of"=true)
  (k_characters_of:PySem.W.keepIn K (.ref f18)=true)
  (a_bytes_of_character:PySem.W.nsIn K mainGlobals "bytes_of_character"=some (some (.ref f19)))
  (l_bytes_of_character:K.lookup f19=some ⟨oc19,od19,.func (PySem.W.fnOf "bytes_of_character" "bytes_of_character" (defArgs s_bytes_of_character) (defBody s_bytes_of_character) (defScope s_bytes_of_character) .none kV19 dc19 pm19 an19 cd19 ct19),sl19⟩)
  (c_bytes_of_character:PySem.W.codeIn K cd19 "bytes_of_character"=true)
  (k_bytes_of_character:PySem.W.keepIn K (.ref f19)=true)
  (a_bytes_of:PySem.W.nsIn K mainGlobals "bytes_of"=some (some (.ref f20)))
  (l_bytes_of:K.lookup f20=some ⟨oc20,od20,.func (PySem.W.fnOf "bytes_of" "bytes_of" (defArgs s_bytes_of) (defBody s_bytes_of) (defScope s_bytes_of) .none kV20 dc20 pm20 an20 cd20 ct20),sl20⟩)
  (c_bytes_of:PySem.W.codeIn K cd20 "bytes_of"=true)
  (k_bytes_of:PySem.W.keepIn K (.ref f20)=true)
  (a_Listing_init:PySem.W.findIn K (.ref CG) "__init__"=some (some (.ref f21)))
  (i_Listing_init:PySem.W.isFn K (.ref f21)=true)
  (l_Listing_init:K.lookup f21=some ⟨oc21,od21,.func (PySem.W.fnOf "__init__" "Listing.__init__" (defArgs s_Listing_init) (defBody s_Listing_init) (defScope s_Listing_init) .none kV21 dc21 pm21 an21 cd21 ct21),sl21⟩)
  (c_Listing_init:PySem.W.codeIn K cd21 "Listing.__init__"=true)
  (k_Listing_init:PySem.W.keepIn K (.ref f21)=true)
  (a_read_listed:PySem.W.nsIn K mainGlobals "read_listed"=some (some (.ref f22)))
  (l_read_listed:K.lookup f22=some ⟨oc22,od22,.func (PySem.W.fnOf "read_listed" "read_listed" (defArgs s_read_listed) (defBody s_read_listed) (defScope s_read_listed) .none kV22 dc22 pm22 an22 cd22 ct22),sl22⟩)
  (c_read_listed:PySem.W.codeIn K cd22 "read_listed"=true)
  (k_read_listed:PySem.W.keepIn K (.ref f22)=true)
  (a_read_listing:PySem.W.nsIn K mainGlobals "read_listing"=some (some (.ref f23)))
  (l_read_listing:K.lookup f23=some ⟨oc23,od23,.func (PySem.W.fnOf "read_listing" "read_listing" (defArgs s_read_listing) (defBody s_read_listing) (defScope s_read_listing) .none kV23 dc23 pm23 an23 cd23 ct23),sl23⟩)
  (c_read_listing:PySem.W.codeIn K cd23 "read_listing"=true)
  (k_read_listing:PySem.W.keepIn K (.ref f23)=true)
  (a_in_brackets:PySem.W.nsIn K mainGlobals "in_brackets"=some (some (.ref f24)))
  (l_in_brackets:K.lookup f24=some ⟨oc24,od24,.func (PySem.W.fnOf "in_brackets" "in_brackets" (defArgs s_in_brackets) (defBody s_in_brackets) (defScope s_in_brackets) .none kV24 dc24 pm24 an24 cd24 ct24),sl24⟩)
  (c_in_brackets:PySem.W.codeIn K cd24 "in_brackets"=true)
  (k_in_brackets:PySem.W.keepIn K (.ref f24)=true)
  (a_printed_place:PySem.W.nsIn K mainGlobals "printed_place"=some (some (.ref f25)))
  (l_printed_place:K.lookup f25=some ⟨oc25,od25,.func (PySem.W.fnOf "printed_place" "printed_place" (defArgs s_printed_place) (defBody s_printed_place) (defScope s_printed_place) .none kV25 dc25 pm25 an25 cd25 ct25),sl25⟩)
  (c_printed_place:PySem.W.codeIn K cd25 "printed_place"=true)
  (k_printed_place:PySem.W.keepIn K (.ref f25)=true)
  (a_printed_listing:PySem.W.nsIn K mainGlobals "printed_listing"=some (some (.ref f26)))
  (l_printed_listing:K.lookup f26=some ⟨oc26,od26,.func (PySem.W.fnOf "printed_listing" "printed_listing" (defArgs s_printed_listing) (defBody s_printed_listing) (defScope s_printed_listing) .none kV26 dc26 pm26 an26 cd26 ct26),sl26⟩)
  (c_printed_listing:PySem.W.codeIn K cd26 "printed_listing"=true)
  (k_printed_listing:PySem.W.keepIn K (.ref f26)=true)
  (a_counted_bytes:PySem.W.nsIn K mainGlobals "counted_bytes"=some (some (.ref f27)))
  (l_counted_bytes:K.lookup f27=some ⟨oc27,od27,.func (PySem.W.fnOf "counted_bytes" "counted_bytes" (defArgs s_counted_bytes) (defBody s_counted_bytes) (defScope s_counted_bytes) .none kV27 dc27 pm27 an27 cd27 ct27),sl27⟩)
  (c_counted_bytes:PySem.W.codeIn K cd27 "counted_bytes"=true)
  (k_counted_bytes:PySem.W.keepIn K (.ref f27)=true)
  (a_answered:PySem.W.nsIn K mainGlobals "answered"=some (some (.ref f28)))
  (l_answered:K.lookup f28=some ⟨oc28,od28,.func (PySem.W.fnOf "answered" "answered" (defArgs s_answered) (defBody s_answered) (defScope s_answered) .none kV28 dc28 pm28 an28 cd28 ct28),sl28⟩)
  (c_answered:PySem.W.codeIn K cd28 "answered"=true)
  (k_answered:PySem.W.keepIn K (.ref f28)=true)
  (a_concord:PySem.W.nsIn K mainGlobals "concord"=some (some (.ref f29)))
  (l_concord:K.lookup f29=some ⟨oc29,od29,.func (PySem.W.fnOf "concord" "concord" (defArgs s_concord) (defBody s_concord) (defScope s_concord) .none kV29 dc29 pm29 an29 cd29 ct29),sl29⟩)
  (c_concord:PySem.W.codeIn K cd29 "concord"=true)
  (k_concord:PySem.W.keepIn K (.ref f29)=true) :
  ∃ fd:FuncData,(∀ (s:Shared) (us:List Value),us.length=(["t"]:List Str).length→BindsTo s fd ⟨us,[]⟩ ((["t"]:List Str).zip us))∧∀ base:Heap,K.In base→base.Ns mainGlobals mg→base.BuiltinsAt mg PT→FnOk P w K mg base CX0 9 fa fd ["t"] (sp_concord K PT):=by
 have e:=hfa.symm.trans (PySem.W.mg_of X G a_concord)
 cases e
 have hc0:cd29=.ref c0:=by
  unfold PySem.W.tabIn at htab
  rw [a_concord] at htab
  dsimp only at htab
  rw [l_concord] at htab
  dsimp only at htab
  split at htab
  ·rename_i c1 hc1
   split at htab
   ·split at htab
    ·injection htab with htab
     injection htab with h1 h2
     first | (rw [← h1];exact hc1) | rw [← h1]
    ·cases htab
   ·cases htab
  ·cases htab
 subst hc0
 have nl':∀ b o,K.lookup b=some o→o.cls≠.type "list":=fun b o hb z=>by
  have q:=List.all_eq_true.mp nl _ (mem_lk hb)
  rw [z] at q
  exact absurd q (by decide)
 have T:Txt K mg ⟨CE,CR,CG,aMARKS,aLIST_BOUNDS,aENDS,f23,PT⟩:={
  exc:=⟨PySem.W.mg_of X G aCE,qCE⟩
  clReader:=⟨pgR,hdR,poR,saR⟩
  clListing:=⟨pgG,hdG,poG,saG⟩
  n_t:=nR_t
  n_at:=nR_at
  nG_before:=nG_before
  nG_behind:=nG_behind
  nG_head:=nG_head
  nG_words:=nG_words
  nG_counted:=nG_counted
  nl:=nl'
  len:=PySem.W.ns_none_of X G bl_len
  ord:=PySem.W.ns_none_of X G bl_ord
  min:=PySem.W.ns_none_of X G bl_min
  max:=PySem.W.ns_none_of X G bl_max
  range:=PySem.W.ns_none_of X G bl_range
  enumerate:=PySem.W.ns_none_of X G bl_enumerate
  str:=PySem.W.ns_none_of X G bl_str
  list:=PySem.W.ns_none_of X G bl_list
  sum:=PySem.W.ns_none_of X G bl_sum
  tuple:=PySem.W.ns_none_of X G bl_tuple
  sorted:=PySem.W.ns_none_of X G bl_sorted
  cBLANK:=⟨tBLANK,PySem.W.mg_of X G iBLANK⟩
  cFIRST_LETTER:=⟨tFIRST_LETTER,PySem.W.mg_of X G iFIRST_LETTER⟩
  cMOST_LETTERS:=⟨tMOST_LETTERS,PySem.W.mg_of X G iMOST_LETTERS⟩
  cMOST_LISTED:=⟨tMOST_LISTED,PySem.W.mg_of X G iMOST_LISTED⟩
  cNO_BYTE:=⟨tNO_BYTE,PySem.W.mg_of X G iNO_BYTE⟩
  cMOST_TEXT_BYTES:=⟨tMOST_TEXT_BYTES,PySem.W.mg_of X G iMOST_TEXT_BYTES⟩
  cMOST_PRINTED_BYTES:=⟨tMOST_PRINTED_BYTES,PySem.W.mg_of X G iMOST_PRINTED_BYTES⟩
  f_read_listing:=PySem.W.mg_of X G a_read_listing
  cMARKS:=PySem.W.mg_of X G gMARKS
  tMARKS:=sqT_of lMARKS (by simp) (by first | exact .nil | (repeat (first | exact .nil | refine .cons ⟨_,rfl⟩ ?_ | refine .cons rfl ?_)))
  cLIST_BOUNDS:=PySem.W.mg_of X G gLIST_BOUNDS
  tLIST_BOUNDS:=⟨_,sqT_of (xs:=[V.ref bLIST_BOUNDS0,V.ref bLIST_BOUNDS1]) lLIST_BOUNDS (by simp) (by first | exact .nil | (repeat (first | exact .nil | refine .cons ⟨_,rfl⟩ ?_ | refine .cons rfl ?_))),(.cons ⟨_,rfl,sqT_of lLIST_BOUNDS0 (by simp) (by first | exact .nil | (repeat (first | exact .nil | refine .cons ⟨_,rfl⟩ ?_ | refine .cons rfl ?_))),by decide⟩ (.cons ⟨_,rfl,sqT_of lLIST_BOUNDS1 (by simp) (by first | exact .nil | (repeat (first | exact .nil | refine .cons ⟨_,rfl⟩ ?_ | refine .cons rfl ?_))),by decide⟩ .nil))⟩
  cENDS:=PySem.W.mg_of X G gENDS
  tENDS:=sqT_of lENDS (by simp) (by first | exact .nil | (repeat (first | exact .nil | refine .cons ⟨_,rfl⟩ ?_ | refine .cons rfl ?_))) }
 have F0:=fun_mk (st:=s_is_letter) l_is_letter c_is_letter k_is_letter
 have b0:Binds K _ ["character"] []:=fb1 F0 fun _ _ _ _ _ _ _=>rfl
 have F1:=fun_mk (st:=s_begins_some) l_begins_some c_begins_some k_begins_some
 have b1:Binds K _ ["value","low","high"] []:=fb3 F1 fun _ _ _ _ _ _ _ _ _=>rfl
 have F2:=fun_mk (st:=s_size_by_lead) l_size_by_lead c_size_by_lead k_size_by_lead
 have b2:Binds K _ ["lead"] []:=fb1 F2 fun _ _ _ _ _ _ _=>rfl
 have F3:=fun_mk (st:=s_bounds_behind) l_bounds_behind c_bounds_behind k_bounds_behind
 have b3:Binds K _ ["lead"] []:=fb1 F3 fun _ _ _ _ _ _ _=>rfl
 have F4:=fun_mk (st:=s_Reader_init) l_Reader_init c_Reader_init k_Reader_init
 have b4:Binds K _ ["self","t"] []:=fb2 F4 fun _ _ _ _ _ _ _ _=>rfl
 have F5:=fun_mk (st:=s_Reader_peek) l_Reader_peek c_Reader_peek k_Reader_peek
 have b5:Binds K _ ["self"] []:=fb1 F5 fun _ _ _ _ _ _ _=>rfl
 have F6:=fun_mk (st:=s_Reader_sees) l_Reader_sees c_Reader_sees k_Reader_sees
 have b6:Binds K _ ["self","sign"] []:=fb2 F6 fun _ _ _ _ _ _ _ _=>rfl
 have F7:=fun_mk (st:=s_Reader_take) l_Reader_take c_Reader_take k_Reader_take
 have b7:Binds K _ ["self","sign"] []:=fb2 F7 fun _ _ _ _ _ _ _ _=>rfl
 have F8:=fun_mk (st:=s_Reader_take_end) l_Reader_take_end c_Reader_take_end k_Reader_take_end
 have b8:Binds K _ ["self"] []:=fb1 F8 fun _ _ _ _ _ _ _=>rfl
 have F9:=fun_mk (st:=s_Reader_take_digit) l_Reader_take_digit c_Reader_take_digit k_Reader_take_digit
 have b9:Binds K _ ["self","value","low","high"] []:=fb4 F9 fun _ _ _ _ _ _ _ _ _ _=>rfl
 have F10:=fun_mk (st:=s_Reader_take_number) l_Reader_take_number c_Reader_take_number k_Reader_take_number
 have b10:Binds K _ ["self","low","high"] []:=fb3 F10 fun _ _ _ _ _ _ _ _ _=>rfl
 have F11:=fun_mk (st:=s_Reader_take_long_letter) l_Reader_take_long_letter c_Reader_take_long_letter k_Reader_take_long_letter
 have b11:Binds K _ ["self","lead","size"] []:=fb3 F11 fun _ _ _ _ _ _ _ _ _=>rfl
 have F12:=fun_mk (st:=s_Reader_take_character) l_Reader_take_character c_Reader_take_character k_Reader_take_character
 have b12:Binds K _ ["self","marks"] []:=fb2 F12 fun _ _ _ _ _ _ _ _=>rfl
 have F13:=fun_mk (st:=s_Reader_ends_thing) l_Reader_ends_thing c_Reader_ends_thing k_Reader_ends_thing
 have b13:Binds K _ ["self","marks"] []:=fb2 F13 fun _ _ _ _ _ _ _ _=>rfl
 have F14:=fun_mk (st:=s_Reader_take_thing) l_Reader_take_thing c_Reader_take_thing k_Reader_take_thing
 have b14:Binds K _ ["self","most","marks"] []:=fb3 F14 fun _ _ _ _ _ _ _ _ _=>rfl
 have F15:=fun_mk (st:=s_Reader_take_things) l_Reader_take_things c_Reader_take_things k_Reader_take_things
 have b15:Binds K _ ["self","most_things","most","marks"] []:=fb4 F15 fun _ _ _ _ _ _ _ _ _ _=>rfl
 have F16:=fun_mk (st:=s_Reader_take_head) l_Reader_take_head c_Reader_take_head k_Reader_take_head
 have b16:Binds K _ ["self","all_bounds"] []:=fb2 F16 fun _ _ _ _ _ _ _ _=>rfl
 have F17:=fun_mk (st:=s_joined) l_joined c_joined k_joined
 have b17:Binds K _ ["things","between"] []:=fb2 F17 fun _ _ _ _ _ _ _ _=>rfl
 have F18:=fun_mk (st:=s_characters_of) l_characters_of c_characters_of k_characters_of
 have b18:Binds K _ ["text"] []:=fb1 F18 fun _ _ _ _ _ _ _=>rfl
 have F19:=fun_mk (st:=s_bytes_of_character) l_bytes_of_character c_bytes_of_character k_bytes_of_character
 have b19:Binds K _ ["character"] []:=fb1 F19 fun _ _ _ _ _ _ _=>rfl
 have F20:=fun_mk (st:=s_bytes_of) l_bytes_of c_bytes_of k_bytes_of
 have b20:Binds K _ ["characters"] []:=fb1 F20 fun _ _ _ _ _ _ _=>rfl
 have F21:=fun_mk (st:=s_Listing_init) l_Listing_init c_Listing_init k_Listing_init
 have b21:Binds K _ ["self","settings"] []:=fb2 F21 fun _ _ _ _ _ _ _ _=>rfl
 have F22:=fun_mk (st:=s_read_listed) l_read_listed c_read_listed k_read_listed
 have b22:Binds K _ ["reader","listing"] []:=fb2 F22 fun _ _ _ _ _ _ _ _=>rfl
 have F23:=fun_mk (st:=s_read_listing) l_read_listing c_read_listing k_read_listing
 have b23:Binds K _ ["reader"] []:=fb1 F23 fun _ _ _ _ _ _ _=>rfl
 have F24:=fun_mk (st:=s_in_brackets) l_in_brackets c_in_brackets k_in_brackets
 have b24:Binds K _ ["word"] []:=fb1 F24 fun _ _ _ _ _ _ _=>rfl
 have F25:=fun_mk (st:=s_printed_place) l_printed_place c_printed_place k_printed_place
 have b25:Binds K _ ["listing","k"] []:=fb2 F25 fun _ _ _ _ _ _ _ _=>rfl
 have F26:=fun_mk (st:=s_printed_listing) l_printed_listing c_printed_listing k_printed_listing
 have b26:Binds K _ ["listing"] []:=fb1 F26 fun _ _ _ _ _ _ _=>rfl
 have F27:=fun_mk (st:=s_counted_bytes) l_counted_bytes c_counted_bytes k_counted_bytes
 have b27:Binds K _ ["found"] []:=fb1 F27 fun _ _ _ _ _ _ _=>rfl
 have F28:=fun_mk (st:=s_answered) l_answered c_answered k_answered
 have b28:Binds K _ ["t","read","answer"] []:=fb3 F28 fun _ _ _ _ _ _ _ _ _=>rfl
 have F29:=fun_mk (st:=s_concord) l_concord c_concord k_concord
 have b29:Binds K _ ["t"] []:=fb1 F29 fun _ _ _ _ _ _ _=>rfl
 refine ⟨PySem.W.fnOf "concord" "concord" (defArgs s_concord) (defBody s_concord) (defScope s_concord) .none kV29 dc29 pm29 an29 (.ref c0) ct29,fun s us hu=>match us,hu with | [_],_=>.of_eq rfl,fun base _ _ hB=>?_⟩
 have C_is_letter:∀ base:Heap,FnC P w K mg base CX0 1 "is_letter" ["character"] (sp_is_letter K ⟨CE,CR,CG,aMARKS,aLIST_BOUNDS,aENDS,f23,PT⟩):=fun base=>⟨⟨f0,_,PySem.W.mg_of X G a_is_letter,k_is_letter,b0,(ok_is_letter F0 T)⟩⟩
 have C_begins_some:∀ base:Heap,FnC P w K mg base CX0 1 "begins_some" ["value","low","high"] (sp_begins_some K ⟨CE,CR,CG,aMARKS,aLIST_BOUNDS,aENDS,f23,PT⟩):=fun base=>⟨⟨f1,_,PySem.W.mg_of X G a_begins_some,k_begins_some,b1,(ok_begins_some F1 T)⟩⟩
 have C_size_by_lead:∀ base:Heap,FnC P w K mg base CX0 1 "size_by_lead" ["lead"] (sp_size_by_lead K ⟨CE,CR,CG,aMARKS,aLIST_BOUNDS,aENDS,f23,PT⟩):=fun base=>⟨⟨f2,_,PySem.W.mg_of X G a_size_by_lead,k_size_by_lead,b2,(ok_size_by_lead F2 T)⟩⟩
 have C_bounds_behind:∀ base:Heap,FnC P w K mg base CX0 1 "bounds_behind" ["lead"] (sp_bounds_behind K ⟨CE,CR,CG,aMARKS,aLIST_BOUNDS,aENDS,f23,PT⟩):=fun base=>⟨⟨f3,_,PySem.W.mg_of X G a_bounds_behind,k_bounds_behind,b3,(ok_bounds_behind F3 T)⟩⟩
 have C_Reader_init:∀ base:Heap,MakeC P w K mg base CX0 1 CR "Reader" ["self","t"] (sp_Reader_init K ⟨CE,CR,CG,aMARKS,aLIST_BOUNDS,aENDS,f23,PT⟩):=fun base=>⟨⟨f4,_,PySem.W.mg_of X G aCR,⟨mkR,a_Reader_init,i_Reader_init,kcR⟩,b4,(ok_Reader_init F4 T)⟩⟩
 have C_Reader_peek:∀ base:Heap,MethC P w K mg base CX0 1 CR "peek" ["self"] (sp_Reader_peek K ⟨CE,CR,CG,aMARKS,aLIST_BOUNDS,aENDS,f23,PT⟩):=fun base=>⟨⟨f5,_,⟨a_Reader_peek,i_Reader_peek,k_Reader_peek⟩,b5,(ok_Reader_peek F5 T)⟩⟩
 have C_Reader_sees:∀ base:Heap,MethC P w K mg base CX0 2 CR "sees" ["self","sign"] (sp_Reader_sees K ⟨CE,CR,CG,aMARKS,aLIST_BOUNDS,aENDS,f23,PT⟩):=fun base=>⟨⟨f6,_,⟨a_Reader_sees,i_Reader_sees,k_Reader_sees⟩,b6,(ok_Reader_sees F6 T (C_Reader_peek base))⟩⟩
 have C_Reader_take:∀ base:Heap,MethC P w K mg base (CX1 P w CE) 3 CR "take" ["self","sign"] (sp_Reader_take K ⟨CE,CR,CG,aMARKS,aLIST_BOUNDS,aENDS,f23,PT⟩):=fun base=>⟨⟨f7,_,⟨a_Reader_take,i_Reader_take,k_Reader_take⟩,b7,(ok_Reader_take F7 T (C_Reader_sees base))⟩⟩
 have C_Reader_take_end:∀ base:Heap,MethC P w K mg base (CX1 P w CE) 2 CR "take_end" ["self"] (sp_Reader_take_end K ⟨CE,CR,CG,aMARKS,aLIST_BOUNDS,aENDS,f23,PT⟩):=fun base=>⟨⟨f8,_,⟨a_Reader_take_end,i_Reader_take_end,k_Reader_take_end⟩,b8,(ok_Reader_take_end F8 T (C_Reader_peek base))⟩⟩
 have C_Reader_take_digit:∀ base:Heap,MethC P w K mg base (CX1 P w CE) 2 CR "take_digit" ["self","value","low","high"] (sp_Reader_take_digit K ⟨CE,CR,CG,aMARKS,aLIST_BOUNDS,aENDS,f23,PT⟩):=fun base=>⟨⟨f9,_,⟨a_Reader_take_digit,i_Reader_take_digit,k_Reader_take_digit⟩,b9,(ok_Reader_take_digit F9 T (C_Reader_peek base) (C_begins_some base))⟩⟩
 have C_Reader_take_number:∀ base:Heap,MethC P w K mg base (CX1 P w CE) 3 CR "take_number" ["self","low","high"] (sp_Reader_take_number K ⟨CE,CR,CG,aMARKS,aLIST_BOUNDS,aENDS,f23,PT⟩):=fun base=>⟨⟨f10,_,⟨a_Reader_take_number,i_Reader_take_number,k_Reader_take_number⟩,b10,(ok_Reader_take_number F10 T (C_Reader_take_digit base) (C_Reader_peek base))⟩⟩
 have C_Reader_take_long_letter:∀ base:Heap,MethC P w K mg base (CX1 P w CE) 2 CR "take_long_letter" ["self","lead","size"] (sp_Reader_take_long_letter K ⟨CE,CR,CG,aMARKS,aLIST_BOUNDS,aENDS,f23,PT⟩):=fun base=>⟨⟨f11,_,⟨a_Reader_take_long_letter,i_Reader_take_long_letter,k_Reader_take_long_letter⟩,b11,(ok_Reader_take_long_letter F11 T (C_bounds_behind base) (C_Reader_peek base) (C_is_letter base))⟩⟩
 have C_Reader_take_character:∀ base:Heap,MethC P w K mg base (CX1 P w CE) 3 CR "take_character" ["self","marks"] (sp_Reader_take_character K ⟨CE,CR,CG,aMARKS,aLIST_BOUNDS,aENDS,f23,PT⟩):=fun base=>⟨⟨f12,_,⟨a_Reader_take_character,i_Reader_take_character,k_Reader_take_character⟩,b12,(ok_Reader_take_character F12 T (C_Reader_peek base) (C_size_by_lead base) (C_Reader_take_long_letter base) (C_is_letter base))⟩⟩
 have C_Reader_ends_thing:∀ base:Heap,MethC P w K mg base CX0 2 CR "ends_thing" ["self","marks"] (sp_Reader_ends_thing K ⟨CE,CR,CG,aMARKS,aLIST_BOUNDS,aENDS,f23,PT⟩):=fun base=>⟨⟨f13,_,⟨a_Reader_ends_thing,i_Reader_ends_thing,k_Reader_ends_thing⟩,b13,(ok_Reader_ends_thing F13 T (C_Reader_peek base))⟩⟩
 have C_Reader_take_thing:∀ base:Heap,MethC P w K mg base (CX1 P w CE) 4 CR "take_thing" ["self","most","marks"] (sp_Reader_take_thing K ⟨CE,CR,CG,aMARKS,aLIST_BOUNDS,aENDS,f23,PT⟩):=fun base=>⟨⟨f14,_,⟨a_Reader_take_thing,i_Reader_take_thing,k_Reader_take_thing⟩,b14,(ok_Reader_take_thing F14 T (C_Reader_take_character base) (C_Reader_ends_thing base))⟩⟩
 have C_Reader_take_things:∀ base:Heap,MethC P w K mg base (CX1 P w CE) 5 CR "take_things" ["self","most_things","most","marks"] (sp_Reader_take_things K ⟨CE,CR,CG,aMARKS,aLIST_BOUNDS,aENDS,f23,PT⟩):=fun base=>⟨⟨f15,_,⟨a_Reader_take_things,i_Reader_take_things,k_Reader_take_things⟩,b15,(ok_Reader_take_things F15 T (C_Reader_take_thing base) (C_Reader_sees base) (C_Reader_take base))⟩⟩
 have C_Reader_take_head:∀ base:Heap,MethC P w K mg base (CX1 P w CE) 4 CR "take_head" ["self","all_bounds"] (sp_Reader_take_head K ⟨CE,CR,CG,aMARKS,aLIST_BOUNDS,aENDS,f23,PT⟩):=fun base=>⟨⟨f16,_,⟨a_Reader_take_head,i_Reader_take_head,k_Reader_take_head⟩,b16,(ok_Reader_take_head F16 T (C_Reader_take base) (C_Reader_take_number base))⟩⟩
 have C_joined:∀ base:Heap,FnC P w K mg base CX0 1 "joined" ["things","between"] (sp_joined K ⟨CE,CR,CG,aMARKS,aLIST_BOUNDS,aENDS,f23,PT⟩):=fun base=>⟨⟨f17,_,PySem.W.mg_of X G a_joined,k_joined,b17,(ok_joined F17 T)⟩⟩
 have C_characters_of:∀ base:Heap,FnC P w K mg base CX0 1 "characters_of" ["text"] (sp_characters_of K ⟨CE,CR,CG,aMARKS,aLIST_BOUNDS,aENDS,f23,PT⟩):=fun base=>⟨⟨f18,_,PySem.W.mg_of X G a_characters_of,k_characters_of,b18,(ok_characters_of F18 T)⟩⟩
 have C_bytes_of_character:∀ base:Heap,FnC P w K mg base CX0 1 "bytes_of_character" ["character"] (sp_bytes_of_character K ⟨CE,CR,CG,aMARKS,aLIST_BOUNDS,aENDS,f23,PT⟩):=fun base=>⟨⟨f19,_,PySem.W.mg_of X G a_bytes_of_character,k_bytes_of_character,b19,(ok_bytes_of_character F19 T)⟩⟩
 have C_bytes_of:∀ base:Heap,FnC P w K mg base CX0 2 "bytes_of" ["characters"] (sp_bytes_of K ⟨CE,CR,CG,aMARKS,aLIST_BOUNDS,aENDS,f23,PT⟩):=fun base=>⟨⟨f20,_,PySem.W.mg_of X G a_bytes_of,k_bytes_of,b20,(ok_bytes_of F20 T (C_bytes_of_character base))⟩⟩
 have C_Listing_init:∀ base:Heap,MakeC P w K mg base CX0 1 CG "Listing" ["self","settings"] (sp_Listing_init K ⟨CE,CR,CG,aMARKS,aLIST_BOUNDS,aENDS,f23,PT⟩):=fun base=>⟨⟨f21,_,PySem.W.mg_of X G aCG,⟨mkG,a_Listing_init,i_Listing_init,kcG⟩,b21,(ok_Listing_init F21 T)⟩⟩
 have C_read_listed:∀ base:Heap,FnC P w K mg base (CX1 P w CE) 6 "read_listed" ["reader","listing"] (sp_read_listed K ⟨CE,CR,CG,aMARKS,aLIST_BOUNDS,aENDS,f23,PT⟩):=fun base=>⟨⟨f22,_,PySem.W.mg_of X G a_read_listed,k_read_listed,b22,(ok_read_listed F22 T (C_Reader_take base) (C_Reader_take_things base))⟩⟩
 have C_read_listing:∀ base:Heap,FnC P w K mg base (CX1 P w CE) 7 "read_listing" ["reader"] (sp_read_listing K ⟨CE,CR,CG,aMARKS,aLIST_BOUNDS,aENDS,f23,PT⟩):=fun base=>⟨⟨f23,_,PySem.W.mg_of X G a_read_listing,k_read_listing,b23,(ok_read_listing F23 T (C_Listing_init base) (C_Reader_take_end base) (C_Reader_take_head base) (C_Reader_sees base) (C_read_listed base))⟩⟩
 have C_in_brackets:∀ base:Heap,FnC P w K mg base CX0 2 "in_brackets" ["word"] (sp_in_brackets K ⟨CE,CR,CG,aMARKS,aLIST_BOUNDS,aENDS,f23,PT⟩):=fun base=>⟨⟨f24,_,PySem.W.mg_of X G a_in_brackets,k_in_brackets,b24,(ok_in_brackets F24 T (C_characters_of base))⟩⟩
 have C_printed_place:∀ base:Heap,FnC P w K mg base CX0 3 "printed_place" ["listing","k"] (sp_printed_place K ⟨CE,CR,CG,aMARKS,aLIST_BOUNDS,aENDS,f23,PT⟩):=fun base=>⟨⟨f25,_,PySem.W.mg_of X G a_printed_place,k_printed_place,b25,(ok_printed_place F25 T (C_characters_of base) (C_in_brackets base) (C_joined base))⟩⟩
 have C_printed_listing:∀ base:Heap,FnC P w K mg base CX0 4 "printed_listing" ["listing"] (sp_printed_listing K ⟨CE,CR,CG,aMARKS,aLIST_BOUNDS,aENDS,f23,PT⟩):=fun base=>⟨⟨f26,_,PySem.W.mg_of X G a_printed_listing,k_printed_listing,b26,(ok_printed_listing F26 T (C_bytes_of base) (C_characters_of base) (C_printed_place base))⟩⟩
 have C_counted_bytes:∀ base:Heap,FnC P w K mg base CX0 1 "counted_bytes" ["found"] (sp_counted_bytes K ⟨CE,CR,CG,aMARKS,aLIST_BOUNDS,aENDS,f23,PT⟩):=fun base=>⟨⟨f27,_,PySem.W.mg_of X G a_counted_bytes,k_counted_bytes,b27,(ok_counted_bytes F27 T)⟩⟩
 have C_answered:∀ (base:Heap) (fL:Addr) (fdL:FuncData),PySem.W.FnAt fL base→(∀ (s:Shared) (us:List Value),us.length=["listing"].length→BindsTo s fdL ⟨us,[]⟩ ((["listing"]:List Str).zip us))→FnOk P w K mg base CX0 5 fL fdL ["listing"] (spL K ⟨CE,CR,CG,aMARKS,aLIST_BOUNDS,aENDS,f23,PT⟩)→FnC P w K mg base CX0 8 "answered" ["t","read","answer"] (spA K ⟨CE,CR,CG,aMARKS,aLIST_BOUNDS,aENDS,f23,PT⟩ fL):=fun base fL fdL h1 h2 h3=>⟨⟨f28,_,PySem.W.mg_of X G a_answered,k_answered,b28,ok_answered F28 T h1 h3 h2 (C_read_listing base) (C_Reader_init base)⟩⟩
 have fin:=ok_concord (P:=P) (w:=w) (base:=base) (a:=⟨CE,CR,CG,aMARKS,aLIST_BOUNDS,aENDS,f23,PT⟩) l_concord c_concord T hC hB hgP (PySem.W.mg_of X G a_answered) k_answered C_answered C_printed_listing C_counted_bytes
 exact fin
end Vp
theorem Vp.ans_concord (l:List Int) (h:(PageNeutral.text l).length≤8191):(PyWqasbc.concord l).map L2.V.int=Vp.ansC (PageNeutral.text l):=by
 have e:PyWqasbc.concord l=PageNeutral.shown (VhG.answer (.concord (PageNeutral.text l))):=rfl
 rw [e]
 unfold VhG.answer Vp.ansC
 dsimp only
 rw [if_neg (show ¬ VhPage.MOST<(PageNeutral.text l).length by unfold VhPage.MOST;lia),Vp.read_list]
 cases Vp.parseL (PageNeutral.text l) with
 | error i=>rfl
 | ok x =>
  show (PageNeutral.shown (VhG.prints x.printed)).map L2.V.int=Vp.prV x.printed
  unfold VhG.prints Vp.prV
  by_cases hw:16777216<x.printed.length
  ·rw [if_pos (show VhPage.WIDE<x.printed.length from hw),if_pos hw];rfl
  ·rw [if_neg (show ¬ VhPage.WIDE<x.printed.length from hw),if_neg hw]
   show (((x.printed.length:Int)::x.printed.map fun (c:UInt8)=>(c.toNat:Int)).map L2.V.int)=_
   rw [List.map_cons,List.map_map];rfl
theorem Vp.u8_map (l:List Int) (h:∀ x∈l,0≤x∧x≤255):l.map L2.V.int=Vp.bsV (PageNeutral.text l):=by
 unfold Vp.bsV PageNeutral.text
 rw [List.map_map]
 refine List.map_congr_left fun x hx=>?_
 have b:=h x hx
 show L2.V.int x=L2.V.int ((UInt8.ofNat x.toNat).toNat:Int)
 rw [UInt8.toNat_ofNat',Nat.mod_eq_of_lt (by lia),Int.toNat_of_nonneg b.1]
namespace PySem.W.Fast
end PySem.W.Fast
namespace PySem.W.Fast
theorem tw10039779626108920294:True:=⟨⟩
theorem tw10118845170174880957:True:=⟨⟩
theorem tw10161307548806943235:True:=⟨⟩
theorem tw10161660710104409975:True:=⟨⟩
theorem tw10209566816418490453:True:=⟨⟩
theorem tw10250053635849790885:True:=⟨⟩
theorem tw10268716299345777202:True:=⟨⟩
theorem tw10304412603856843403:True:=⟨⟩
theorem tw10331389399800481955:True:=⟨⟩
theorem tw10362035562856041007:True:=⟨⟩
theorem tw10454188916222763677:True:=⟨⟩
theorem tw10464462174468810113:True:=⟨⟩
theorem tw10478536519009152047:True:=⟨⟩
theorem tw10487801545283662884:True:=⟨⟩
theorem tw10565193927467030723:True:=⟨⟩
theorem tw10630163599062947018:True:=⟨⟩
theorem tw10684570169199451280:True:=⟨⟩
theorem tw10694709977834154102:True:=⟨⟩
theorem tw10876064783457517494:True:=⟨⟩
theorem tw10942807380403922186:True:=⟨⟩
theorem tw10943332898725304888:True:=⟨⟩
theorem tw10964381508563348956:True:=⟨⟩
theorem tw11022678038971299890:True:=⟨⟩
theorem tw11167369494752374678:True:=⟨⟩
theorem tw11286852368215816546:True:=⟨⟩
theorem tw11337051717876307418:True:=⟨⟩
theorem tw11454160174784440418:True:=⟨⟩
theorem tw11568084823349099601:True:=⟨⟩
theorem tw11615154803832101880:True:=⟨⟩
theorem tw1165724645057048611:True:=⟨⟩
theorem tw11708857692045215163:True:=⟨⟩
theorem tw11852035909996786474:True:=⟨⟩
theorem tw11874508723912944701:True:=⟨⟩
theorem tw11919051494634321458:True:=⟨⟩
theorem tw12015258557994496318:True:=⟨⟩
theorem tw1212789976200702254:True:=⟨⟩
theorem tw1214277908981093459:True:=⟨⟩
theorem tw12221352080784195801:True:=⟨⟩
theorem tw12290223363331197406:True:=⟨⟩
theorem tw12413221840099235085:True:=⟨⟩
theorem tw12441125178619350600:True:=⟨⟩
theorem tw12554456321545617805:True:=⟨⟩
theorem tw12599278010472618421:True:=⟨⟩
theorem tw12624670565341374473:True:=⟨⟩
theorem tw12642981862909994959:True:=⟨⟩
theorem tw12822282003941642885:True:=⟨⟩
theorem tw12828638739383959050:True:=⟨⟩
theorem tw13017378944089193027:True:=⟨⟩
theorem tw13023349679034663899:True:=⟨⟩
theorem tw1306244347431481193:True:=⟨⟩
theorem tw13095852374852492978:True:=⟨⟩
theorem tw13121551708490854659:True:=⟨⟩
theorem tw13126757522377225938:True:=⟨⟩
theorem tw13182176572552818574:True:=⟨⟩
theorem tw13313627629979014682:True:=⟨⟩
theorem tw13334323151008963349:True:=⟨⟩
theorem tw13447929365033932449:True:=⟨⟩
theorem tw13472999284380454064:True:=⟨⟩
theorem tw13489380318954707975:True:=⟨⟩
theorem tw13533779655757591286:True:=⟨⟩
theorem tw13631261366022928789:True:=⟨⟩
theorem tw13673434025032153836:True:=⟨⟩
theorem tw1367427448842918947:True:=⟨⟩
theorem tw13679873795867919262:True:=⟨⟩
theorem tw13714278511589895445:True:=⟨⟩
theorem tw13724562715619285448:True:=⟨⟩
theorem tw13743814967829039930:True:=⟨⟩
theorem tw13750698726072883364:True:=⟨⟩
theorem tw13801658568828847137:True:=⟨⟩
theorem tw13881007629187783076:True:=⟨⟩
theorem tw13956271918944852802:True:=⟨⟩
theorem tw14003580331210792241:True:=⟨⟩
theorem tw14028892403158200796:True:=⟨⟩
theorem tw14126292352535875320:True:=⟨⟩
theorem tw14316008736524576856:True:=⟨⟩
theorem tw14342091369675839381:True:=⟨⟩
theorem tw14365397995346357041:True:=⟨⟩
theorem tw14447074497752689876:True:=⟨⟩
theorem tw14499445772009272192:True:=⟨⟩
theorem tw14725035143003143921:True:=⟨⟩
theorem tw14729181151156516111:True:=⟨⟩
theorem tw147431946999371535:True:=⟨⟩
theorem tw14839612938163735821:True:=⟨⟩
theorem tw14937179698604111924:True:=⟨⟩
theorem tw15043084820705404099:True:=⟨⟩
theorem tw15046129445470979069:True:=⟨⟩
theorem tw15203785255198903836:True:=⟨⟩
theorem tw15217186924924374233:True:=⟨⟩
theorem tw15241319891449194389:True:=⟨⟩
theorem tw15350219848456588811:True:=⟨⟩
theorem tw15360055333323479124:True:=⟨⟩
theorem tw15362220666416889506:True:=⟨⟩
theorem tw15445552617180973088:True:=⟨⟩
theorem tw15463843711618858126:True:=⟨⟩
theorem tw15483743302505966234:True:=⟨⟩
theorem tw15622106308114733135:True:=⟨⟩
theorem tw15668446713631411735:True:=⟨⟩
theorem tw15692258805308036587:True:=⟨⟩
theorem tw15700983809775117270:True:=⟨⟩
theorem tw1571940896934797961:True:=⟨⟩
theorem tw15782518639305136947:True:=⟨⟩
theorem tw15797792086647671414:True:=⟨⟩
theorem tw15817941960552868478:True:=⟨⟩
theorem tw158521843010949501:True:=⟨⟩
theorem tw15998595500800798644:True:=⟨⟩
theorem tw16036731453838305103:True:=⟨⟩
theorem tw16046138028735568794:True:=⟨⟩
theorem tw16054422141204247279:True:=⟨⟩
theorem tw16105898842961222033:True:=⟨⟩
theorem tw16108834691841098080:True:=⟨⟩
theorem tw16132167678513843211:True:=⟨⟩
theorem tw16186167014689377149:True:=⟨⟩
theorem tw16218852437414639435:True:=⟨⟩
theorem tw16249475782692022976:True:=⟨⟩
theorem tw16298139410612664977:True:=⟨⟩
theorem tw1633143584760159685:True:=⟨⟩
theorem tw16383495790555038114:True:=⟨⟩
theorem tw16383825857004919554:True:=⟨⟩
theorem tw16423935115900329321:True:=⟨⟩
theorem tw16446872529155240358:True:=⟨⟩
theorem tw16537234479014348059:True:=⟨⟩
theorem tw16672509700743304626:True:=⟨⟩
theorem tw16869879849988927766:True:=⟨⟩
theorem tw16882878303502320481:True:=⟨⟩
theorem tw16940471009685705269:True:=⟨⟩
theorem tw16987318826830770544:True:=⟨⟩
theorem tw17045372912615629875:True:=⟨⟩
theorem tw17048109022568322136:True:=⟨⟩
theorem tw17049712620546756949:True:=⟨⟩
theorem tw17065733771683906258:True:=⟨⟩
theorem tw17078633984537783337:True:=⟨⟩
theorem tw17120196679782259166:True:=⟨⟩
theorem tw17143519331096887561:True:=⟨⟩
theorem tw17147892263859179498:True:=⟨⟩
theorem tw17232128452754672:True:=⟨⟩
theorem tw17239968923481220681:True:=⟨⟩
theorem tw17281716157721653143:True:=⟨⟩
theorem tw17375682477913165479:True:=⟨⟩
theorem tw17409202239868472082:True:=⟨⟩
theorem tw17501494538944133262:True:=⟨⟩
theorem tw17630131830402550671:True:=⟨⟩
theorem tw17669234025934779490:True:=⟨⟩
theorem tw17675127800804831707:True:=⟨⟩
theorem tw1771207860962166721:True:=⟨⟩
theorem tw17750736538220395450:True:=⟨⟩
theorem tw17753110695135784810:True:=⟨⟩
theorem tw17801844569156270819:True:=⟨⟩
theorem tw1782396197987322298:True:=⟨⟩
theorem tw17889382649806415099:True:=⟨⟩
theorem tw17889493757379810629:True:=⟨⟩
theorem tw17944361466344189187:True:=⟨⟩
theorem tw17985504529501364941:True:=⟨⟩
theorem tw1801121469381678108:True:=⟨⟩
theorem tw18054988231141366653:True:=⟨⟩
theorem tw18081451189679530902:True:=⟨⟩
theorem tw18096867598639052033:True:=⟨⟩
theorem tw18162339058029385820:True:=⟨⟩
theorem tw18183513539606622839:True:=⟨⟩
theorem tw18183544839046205621:True:=⟨⟩
theorem tw18205462106722347548:True:=⟨⟩
theorem tw18240902945645910569:True:=⟨⟩
theorem tw1828248355404925927:True:=⟨⟩
theorem tw18293825787300297173:True:=⟨⟩
theorem tw18396885596168503934:True:=⟨⟩
theorem tw2060780222490432732:True:=⟨⟩
theorem tw2204223322911710887:True:=⟨⟩
theorem tw2247969867811387554:True:=⟨⟩
theorem tw2373002042131710010:True:=⟨⟩
theorem tw2387195699708632995:True:=⟨⟩
theorem tw2392539435949860675:True:=⟨⟩
theorem tw2601153411157529154:True:=⟨⟩
theorem tw265337932492420909:True:=⟨⟩
theorem tw2679887349534487749:True:=⟨⟩
theorem tw2743796024203625605:True:=⟨⟩
theorem tw27544568917824463:True:=⟨⟩
theorem tw277029290105927835:True:=⟨⟩
theorem tw2774175219307142819:True:=⟨⟩
theorem tw2819857534529757217:True:=⟨⟩
theorem tw2824059764874634915:True:=⟨⟩
theorem tw289417022566943650:True:=⟨⟩
theorem tw2917231735464400401:True:=⟨⟩
theorem tw2955329754166057347:True:=⟨⟩
theorem tw2978573781052524094:True:=⟨⟩
theorem tw3064598273641347496:True:=⟨⟩
theorem tw3130726690356610165:True:=⟨⟩
theorem tw3169285722957562382:True:=⟨⟩
theorem tw3227409844989323696:True:=⟨⟩
theorem tw3264110241038119902:True:=⟨⟩
theorem tw326714438161590983:True:=⟨⟩
theorem tw3286719590034043680:True:=⟨⟩
theorem tw3290512521634264267:True:=⟨⟩
theorem tw3366816200959932593:True:=⟨⟩
theorem tw3473020464299921562:True:=⟨⟩
theorem tw3499065094650860126:True:=⟨⟩
theorem tw3544952280227241344:True:=⟨⟩
theorem tw3564169758826548223:True:=⟨⟩
theorem tw3566051089461809920:True:=⟨⟩
theorem tw363520659261234866:True:=⟨⟩
theorem tw3664756689761164859:True:=⟨⟩
theorem tw3924642528877110928:True:=⟨⟩
theorem tw3945106095985199876:True:=⟨⟩
theorem tw3958714114429602445:True:=⟨⟩
theorem tw3960185956624936351:True:=⟨⟩
theorem tw4011625583315805717:True:=⟨⟩
theorem tw4021610129219701489:True:=⟨⟩
theorem tw4204940028475162146:True:=⟨⟩
theorem tw4256892646078050354:True:=⟨⟩
theorem tw4265775909342868647:True:=⟨⟩
theorem tw4378087301079146746:True:=⟨⟩
theorem tw4423140873720568067:True:=⟨⟩
theorem tw4429699076296257360:True:=⟨⟩
theorem tw4468000859667459290:True:=⟨⟩
theorem tw4476012311169919641:True:=⟨⟩
theorem tw454029663302331265:True:=⟨⟩
theorem tw4611743407435444901:True:=⟨⟩
theorem tw4631837741936531333:True:=⟨⟩
theorem tw4638564624327079198:True:=⟨⟩
theorem tw4712380904246160014:True:=⟨⟩
theorem tw4713610067800153068:True:=⟨⟩
theorem tw4714677969529347805:True:=⟨⟩
theorem tw4774437068262186111:True:=⟨⟩
theorem tw482209140459205113:True:=⟨⟩
theorem tw4835742166356279442:True:=⟨⟩
theorem tw4892828139343109917:True:=⟨⟩
theorem tw4978052642798912476:True:=⟨⟩
theorem tw5066909372430835828:True:=⟨⟩
theorem tw5069703913780992939:True:=⟨⟩
theorem tw5228990270212416487:True:=⟨⟩
theorem tw5355129568190048846:True:=⟨⟩
theorem tw5363429211947920479:True:=⟨⟩
theorem tw5386233567501402168:True:=⟨⟩
theorem tw5463992257661804440:True:=⟨⟩
theorem tw56134998362890992:True:=⟨⟩
theorem tw561917673837068535:True:=⟨⟩
theorem tw5747948205786762699:True:=⟨⟩
theorem tw5750289658822170536:True:=⟨⟩
theorem tw5757071010656440290:True:=⟨⟩
theorem tw5787470448088562468:True:=⟨⟩
theorem tw5877808602390935416:True:=⟨⟩
theorem tw5877825066350720823:True:=⟨⟩
theorem tw5937842761791818064:True:=⟨⟩
theorem tw6017931844019987451:True:=⟨⟩
theorem tw604809283306752401:True:=⟨⟩
theorem tw6130810299261233563:True:=⟨⟩
theorem tw6156748446025114564:True:=⟨⟩
theorem tw6182684385360600242:True:=⟨⟩
theorem tw6185537606178103690:True:=⟨⟩
theorem tw6255634282930769300:True:=⟨⟩
theorem tw6296074999083678167:True:=⟨⟩
theorem tw6329548354031294554:True:=⟨⟩
theorem tw6380765145413259873:True:=⟨⟩
theorem tw6519527515659033270:True:=⟨⟩
theorem tw659208127261353640:True:=⟨⟩
theorem tw6647062834144210312:True:=⟨⟩
theorem tw6680565120812483454:True:=⟨⟩
theorem tw6947141100161104722:True:=⟨⟩
theorem tw6952941605296528432:True:=⟨⟩
theorem tw696122497836069339:True:=⟨⟩
theorem tw7010397112720085716:True:=⟨⟩
theorem tw7022484166462742264:True:=⟨⟩
theorem tw7222646580210628842:True:=⟨⟩
theorem tw727925779303906186:True:=⟨⟩
theorem tw7301258135578451137:True:=⟨⟩
theorem tw7338577524177233336:True:=⟨⟩
theorem tw7418574272384690044:True:=⟨⟩
theorem tw7439432855007067035:True:=⟨⟩
theorem tw7474003087007512831:True:=⟨⟩
theorem tw7485952928276318082:True:=⟨⟩
theorem tw7515501758161044523:True:=⟨⟩
theorem tw7539037152835516326:True:=⟨⟩
theorem tw7616410454131709231:True:=⟨⟩
theorem tw7632628666398375755:True:=⟨⟩
theorem tw7646129053137172378:True:=⟨⟩
theorem tw7684184432386134049:True:=⟨⟩
theorem tw769224230954788304:True:=⟨⟩
theorem tw7695143518677631275:True:=⟨⟩
theorem tw78446434429270058:True:=⟨⟩
theorem tw7858117233996744621:True:=⟨⟩
theorem tw7877270935575361493:True:=⟨⟩
theorem tw7926899110110661916:True:=⟨⟩
theorem tw8019008081083458460:True:=⟨⟩
theorem tw8044233288961399243:True:=⟨⟩
theorem tw8103068534079249690:True:=⟨⟩
theorem tw823399577092348642:True:=⟨⟩
theorem tw8273414160766926470:True:=⟨⟩
theorem tw8310620766884900588:True:=⟨⟩
theorem tw833705757992713713:True:=⟨⟩
theorem tw8379506932961169917:True:=⟨⟩
theorem tw838629407042860476:True:=⟨⟩
theorem tw8402933320703789008:True:=⟨⟩
theorem tw8508802757864470823:True:=⟨⟩
theorem tw8573081125847007081:True:=⟨⟩
theorem tw860843644858228304:True:=⟨⟩
theorem tw8729131013882174019:True:=⟨⟩
theorem tw8781081116318625491:True:=⟨⟩
theorem tw8822514537343772348:True:=⟨⟩
theorem tw8863101287310598985:True:=⟨⟩
theorem tw889151470816650368:True:=⟨⟩
theorem tw8895133803318783860:True:=⟨⟩
theorem tw900219262386350351:True:=⟨⟩
theorem tw9050978513120994124:True:=⟨⟩
theorem tw909654875158209163:True:=⟨⟩
theorem tw9193542310585573097:True:=⟨⟩
theorem tw9285674885623798581:True:=⟨⟩
theorem tw9293955080422876159:True:=⟨⟩
theorem tw9364873626127097822:True:=⟨⟩
theorem tw9406975192115625390:True:=⟨⟩
theorem tw9414124767371671148:True:=⟨⟩
theorem tw9548916442396003352:True:=⟨⟩
theorem tw9598160146860294874:True:=⟨⟩
theorem tw9645314845794994035:True:=⟨⟩
theorem tw9652126461093971304:True:=⟨⟩
theorem tw9659731952631022844:True:=⟨⟩
theorem tw9661848828275182934:True:=⟨⟩
theorem tw967467459200013644:True:=⟨⟩
theorem tw9729037102401167121:True:=⟨⟩
theorem tw9777341892589002192:True:=⟨⟩
theorem tw9851849372966385301:True:=⟨⟩
theorem tw9970679956415857898:True:=⟨⟩
theorem tw9997375964841977208:True:=⟨⟩
end PySem.W.Fast
open PySem PySem.W PyProof.Rows
set_option maxRecDepth 100000 in
set_option maxHeartbeats 0 in
theorem PySem.Challenge.cw_vellumpages_s09_concord_holds : PySem.Challenge.rw_vellumpages_s09_concord.Holds := by
 w_on;k_headS;(case hw=>exact ⟨[.list []],by decide +kernel,by decide +kernel⟩)
 k_fillS
 refine L2.walk_specT (r:=PySem.Challenge.rw_vellumpages_s09_concord) (k:=9) (ps:=["t"]) (sp:=fun K PT=>Vp.sp_concord K PT) (by decide +kernel) rfl rfl ⟨rfl,by decide,by decide⟩ (fun w h Y=>PySem.W.kIn_of Y) rfl ?hnt ?htab ?F ?S
 case hnt =>
  intro w
  kernel_rfl
 case htab =>
  intro w
  kernel_rfl
 case F =>
  intro w mg fa c0 PT h Y KX G hmg htb hC hgP
  refine' Vp.all_mk KX G hmg htb hC hgP ?qCE ?nl ?aCR ?pgR ?hdR ?poR ?saR ?mkR ?kcR ?nR_t ?nR_at ?aCG ?pgG ?hdG ?poG ?saG ?mkG ?kcG ?nG_before ?nG_behind ?nG_head ?nG_words ?nG_counted ?aCE ?iBLANK ?iFIRST_LETTER ?iMOST_LETTERS ?iMOST_LISTED ?iNO_BYTE ?iMOST_TEXT_BYTES ?iMOST_PRINTED_BYTES ?gMARKS ?lMARKS ?gLIST_BOUNDS ?lLIST_BOUNDS ?lLIST_BOUNDS0 ?lLIST_BOUNDS1 ?gENDS ?lENDS ?bl_len ?bl_ord ?bl_min ?bl_max ?bl_range ?bl_enumerate ?bl_str ?bl_list ?bl_sum ?bl_tuple ?bl_sorted ?a_is_letter ?l_is_letter ?c_is_letter ?k_is_letter ?a_begins_some ?l_begins_some ?c_begins_some ?k_begins_some ?a_size_by_lead ?l_size_by_lead ?c_size_by_lead ?k_size_by_lead ?a_bounds_behind ?l_bounds_behind ?c_bounds_behind ?k_bounds_behind ?a_Reader_init ?i_Reader_init ?l_Reader_init ?c_Reader_init ?k_Reader_init ?a_Reader_peek ?i_Reader_peek ?l_Reader_peek ?c_Reader_peek ?k_Reader_peek ?a_Reader_sees ?i_Reader_sees ?l_Reader_sees ?c_Reader_sees ?k_Reader_sees ?a_Reader_take ?i_Reader_take ?l_Reader_take ?c_Reader_take ?k_Reader_take ?a_Reader_take_end ?i_Reader_take_end ?l_Reader_take_end ?c_Reader_take_end ?k_Reader_take_end ?a_Reader_take_digit ?i_Reader_take_digit ?l_Reader_take_digit ?c_Reader_take_digit ?k_Reader_take_digit ?a_Reader_take_number ?i_Reader_take_number ?l_Reader_take_number ?c_Reader_take_number ?k_Reader_take_number ?a_Reader_take_long_letter ?i_Reader_take_long_letter ?l_Reader_take_long_letter ?c_Reader_take_long_letter ?k_Reader_take_long_letter ?a_Reader_take_character ?i_Reader_take_character ?l_Reader_take_character ?c_Reader_take_character ?k_Reader_take_character ?a_Reader_ends_thing ?i_Reader_ends_thing ?l_Reader_ends_thing ?c_Reader_ends_thing ?k_Reader_ends_thing ?a_Reader_take_thing ?i_Reader_take_thing ?l_Reader_take_thing ?c_Reader_take_thing ?k_Reader_take_thing ?a_Reader_take_things ?i_Reader_take_things ?l_Reader_take_things ?c_Reader_take_things ?k_Reader_take_things ?a_Reader_take_head ?i_Reader_take_head ?l_Reader_take_head ?c_Reader_take_head ?k_Reader_take_head ?a_joined ?l_joined ?c_joined ?k_joined ?a_characters_of ?l_characters_of ?c_characters_of ?k_characters_of ?a_bytes_of_character ?l_bytes_of_character ?c_bytes_of_character ?k_bytes_of_character ?a_bytes_of ?l_bytes_of ?c_bytes_of ?k_bytes_of ?a_Listing_init ?i_Listing_init ?l_Listing_init ?c_Listing_init ?k_Listing_init ?a_read_listed ?l_read_listed ?c_read_listed ?k_read_listed ?a_read_listing ?l_read_listing ?c_read_listing ?k_read_listing ?a_in_brackets ?l_in_brackets ?c_in_brackets ?k_in_brackets ?a_printed_place ?l_printed_place ?c_printed_place ?k_printed_place ?a_printed_listing ?l_printed_listing ?c_printed_listing ?k_printed_listing ?a_counted_bytes ?l_counted_bytes ?c_counted_bytes ?k_counted_bytes ?a_answered ?l_answered ?c_answered ?k_answered ?a_concord ?l_concord ?c_concord ?k_concord
  (case aCR=>k_is)
  (case pgR=>k_is)
  (case hdR=>k_is)
  (case poR=>k_is)
  (case saR=>k_is)
  (case mkR=>k_is)
  (case kcR=>k_is)
  (case nR_t=>k_is)
  (case nR_at=>k_is)
  (case aCG=>k_is)
  (case pgG=>k_is)
  (case hdG=>k_is)
  (case poG=>k_is)
  (case saG=>k_is)
  (case mkG=>k_is)
  (case kcG=>k_is)
  (case nG_before=>k_is)
  (case nG_behind=>k_is)
  (case nG_head=>k_is)
  (case nG_words=>k_is)
  (case nG_counted=>k_is)
  (case aCE=>k_is)
  (case iBLANK=>k_is)
  (case iFIRST_LETTER=>k_is)
  (case iMOST_LETTERS=>k_is)
  (case iMOST_LISTED=>k_is)
  (case iNO_BYTE=>k_is)
  (case iMOST_TEXT_BYTES=>k_is)
  (case iMOST_PRINTED_BYTES=>k_is)
  (case gMARKS=>k_is)
  (case lMARKS=>k_is)
  (case gLIST_BOUNDS=>k_is)
  (case lLIST_BOUNDS=>k_is)
  (case lLIST_BOUNDS0=>k_is)
  (case lLIST_BOUNDS1=>k_is)
  (case gENDS=>k_is)
  (case lENDS=>k_is)
  (case bl_len=>k_is)
  (case bl_ord=>k_is)
  (case bl_min=>k_is)
  (case bl_max=>k_is)
  (case bl_range=>k_is)
  (case bl_enumerate=>k_is)
  (case bl_str=>k_is)
  (case bl_list=>k_is)
  (case bl_sum=>k_is)
  (case bl_tuple=>k_is)
  (case bl_sorted=>k_is)
  (case a_is_letter=>k_is)
  (case l_is_letter=>k_is)
  (case c_is_letter=>k_is)
  (case k_is_letter=>k_is)
  (case a_begins_some=>k_is)
  (case l_begins_some=>k_is)
  (case c_begins_some=>k_is)
  (case k_begins_some=>k_is)
  (case a_size_by_lead=>k_is)
  (case l_size_by_lead=>k_is)
  (case c_size_by_lead=>k_is)
  (case k_size_by_lead=>k_is)
  (case a_bounds_behind=>k_is)
  (case l_bounds_behind=>k_is)
  (case c_bounds_behind=>k_is)
  (case k_bounds_behind=>k_is)
  (case a_Reader_init=>k_is)
  (case i_Reader_init=>k_is)
  (case l_Reader_init=>k_is)
  (case c_Reader_init=>k_is)
  (case k_Reader_init=>k_is)
  (case a_Reader_peek=>k_is)
  (case i_Reader_peek=>k_is)
  (case l_Reader_peek=>k_is)
  (case c_Reader_peek=>k_is)
  (case k_Reader_peek=>k_is)
  (case a_Reader_sees=>k_is)
  (case i_Reader_sees=>k_is)
  (case l_Reader_sees=>k_is)
  (case c_Reader_sees=>k_is)
  (case k_Reader_sees=>k_is)
  (case a_Reader_take=>k_is)
  (case i_Reader_take=>k_is)
  (case l_Reader_take=>k_is)
  (case c_Reader_take=>k_is)
  (case k_Reader_take=>k_is)
  (case a_Reader_take_end=>k_is)
  (case i_Reader_take_end=>k_is)
  (case l_Reader_take_end=>k_is)
  (case c_Reader_take_end=>k_is)
  (case k_Reader_take_end=>k_is)
  (case a_Reader_take_digit=>k_is)
  (case i_Reader_take_digit=>k_is)
  (case l_Reader_take_digit=>k_is)
  (case c_Reader_take_digit=>k_is)
  (case k_Reader_take_digit=>k_is)
  (case a_Reader_take_number=>k_is)
  (case i_Reader_take_number=>k_is)
  (case l_Reader_take_number=>k_is)
  (case c_Reader_take_number=>k_is)
  (case k_Reader_take_number=>k_is)
  (case a_Reader_take_long_letter=>k_is)
  (case i_Reader_take_long_letter=>k_is)
  (case l_Reader_take_long_letter=>k_is)
  (case c_Reader_take_long_letter=>k_is)
  (case k_Reader_take_long_letter=>k_is)
  (case a_Reader_take_character=>k_is)
  (case i_Reader_take_character=>k_is)
  (case l_Reader_take_character=>k_is)
  (case c_Reader_take_character=>k_is)
  (case k_Reader_take_character=>k_is)
  (case a_Reader_ends_thing=>k_is)
  (case i_Reader_ends_thing=>k_is)
  (case l_Reader_ends_thing=>k_is)
  (case c_Reader_ends_thing=>k_is)
  (case k_Reader_ends_thing=>k_is)
  (case a_Reader_take_thing=>k_is)
  (case i_Reader_take_thing=>k_is)
  (case l_Reader_take_thing=>k_is)
  (case c_Reader_take_thing=>k_is)
  (case k_Reader_take_thing=>k_is)
  (case a_Reader_take_things=>k_is)
  (case i_Reader_take_things=>k_is)
  (case l_Reader_take_things=>k_is)
  (case c_Reader_take_things=>k_is)
  (case k_Reader_take_things=>k_is)
  (case a_Reader_take_head=>k_is)
  (case i_Reader_take_head=>k_is)
  (case l_Reader_take_head=>k_is)
  (case c_Reader_take_head=>k_is)
  (case k_Reader_take_head=>k_is)
  (case a_joined=>k_is)
  (case l_joined=>k_is)
  (case c_joined=>k_is)
  (case k_joined=>k_is)
  (case a_characters_of=>k_is)
  (case l_characters_of=>k_is)
  (case c_characters_of=>k_is)
  (case k_characters_of=>k_is)
  (case a_bytes_of_character=>k_is)
  (case l_bytes_of_character=>k_is)
  (case c_bytes_of_character=>k_is)
  (case k_bytes_of_character=>k_is)
  (case a_bytes_of=>k_is)
  (case l_bytes_of=>k_is)
  (case c_bytes_of=>k_is)
  (case k_bytes_of=>k_is)
  (case a_Listing_init=>k_is)
  (case i_Listing_init=>k_is)
  (case l_Listing_init=>k_is)
  (case c_Listing_init=>k_is)
  (case k_Listing_init=>k_is)
  (case a_read_listed=>k_is)
  (case l_read_listed=>k_is)
  (case c_read_listed=>k_is)
  (case k_read_listed=>k_is)
  (case a_read_listing=>k_is)
  (case l_read_listing=>k_is)
  (case c_read_listing=>k_is)
  (case k_read_listing=>k_is)
  (case a_in_brackets=>k_is)
  (case l_in_brackets=>k_is)
  (case c_in_brackets=>k_is)
  (case k_in_brackets=>k_is)
  (case a_printed_place=>k_is)
  (case l_printed_place=>k_is)
  (case c_printed_place=>k_is)
  (case k_printed_place=>k_is)
  (case a_printed_listing=>k_is)
  (case l_printed_listing=>k_is)
  (case c_printed_listing=>k_is)
  (case k_printed_listing=>k_is)
  (case a_counted_bytes=>k_is)
  (case l_counted_bytes=>k_is)
  (case c_counted_bytes=>k_is)
  (case k_counted_bytes=>k_is)
  (case a_answered=>k_is)
  (case l_answered=>k_is)
  (case c_answered=>k_is)
  (case k_answered=>k_is)
  (case a_concord=>k_is)
  (case l_concord=>k_is)
  (case c_concord=>k_is)
  (case k_concord=>k_is)
  (case qCE=>kernel_rfl)
  (case nl=>kernel_rfl)
 case S =>
  intro K PT H xs a hPT hwi hask hx
  cases hx with
  | cons h1 h2 =>
   cases h2
   cases h1 with
   | lst hs ha =>
    have e:=L2.ints_dw a.1 _ ha
    subst e
    have q:((Codec.inLen 0 8191 a.1 && a.1.all (Codec.inInt 0 255)) && true)=true:=hwi
    rw [Bool.and_eq_true,Bool.and_eq_true] at q
    have hin:∀ x∈a.1,0≤x∧x≤255:=fun x hx=>Codec.inInt_iff.mp (List.all_eq_true.mp q.1.2 x hx)
    have hl:(PageNeutral.text a.1).length≤8191:=by
     unfold PageNeutral.text
     rw [List.length_map]
     exact (Codec.inNat_iff.mp q.1.1).2
    rw [Vp.u8_map _ hin] at hs
    refine ⟨_,PageNeutral.text a.1,rfl,hs,hPT,hl,fun H' p hp=>.lst (L2.SqL.of hp) ?_⟩
    have ee:=Vp.ans_concord a.1 hl
    rw [← ee]
    exact L2.dw_ints _
end
