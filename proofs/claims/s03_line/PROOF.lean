import PyProof.Rows.All
import Wide.All
import OpenK.AllK
import Wide.FinOn
import PyProof.EqAt
import PyProof.EqKinds
import PyProof.TupleCall
import KE.BitLaws
import Open.SpecLaws
import KE.OsHead
import KE.OsGo
import PyProof.Rows.FStr
import PyProof.Rows.StrIntSpec
import PyProof.Rows.StrPadWhole
import PyProof.StrCalls
import PyProof.StrOps2
import KE.KDictLaws
import KE.KDictList
import KE.KSortTupG
import PySem.Challenge.RW_vellumpages_s03_line
set_option Elab.async false
set_option linter.all false
section
set_option Elab.async false
set_option linter.all false
set_option maxRecDepth 100000
namespace L2
open PySem PySem.Spec PyProof.Rows
abbrev Key:=Sum Int Str
def Zft:Key→Value→Bool
 | .inl k,v=>Value.isInt k v
 | .inr x,v=>Value.isStrOf x v
def keyH (w:World):Key→Int
 | .inl k=>hashInt k
 | .inr x=>hashStr w x
theorem YC:∀ {k:Key}{v:Value},Zft k v=true→(∃ i t,k=Sum.inl i∧v=Value.int i t)∨(∃ x t,k=Sum.inr x∧v=Value.str x t)
 | .inl i,v,h=>by
  obtain ⟨t,e⟩:=Value.isInt_shape (k:=i) (v:=v) h
  exact .inl ⟨i,t,rfl,e⟩
 | .inr x,v,h=>by
  obtain ⟨t,e⟩:=Value.isStrOf_shape (x:=x) (v:=v) h
  exact .inr ⟨x,t,rfl,e⟩
theorem Zgl (i:Int) (t:Tok):Zft (.inl i) (.int i t)=true:=by simp [Zft,Value.isInt]
theorem Zgk (x:Str) (t:Tok):Zft (.inr x) (.str x t)=true:=by simp [Zft,Value.isStrOf]
theorem Zjm (a b:Int):decide ((Sum.inl a:Key)=Sum.inl b)=(a==b):=by
 by_cases e:a=b
 ·subst e;simp
 ·have h:¬ (Sum.inl a:Key)=Sum.inl b:=fun q=>e (Sum.inl.inj q)
  rw [decide_eq_false h]
  exact (beq_eq_false_iff_ne.mpr e).symm
theorem Zjj (a b:Str):decide ((Sum.inr a:Key)=Sum.inr b)=decide (a=b):=by
 by_cases e:a=b
 ·subst e;simp
 ·have h:¬ (Sum.inr a:Key)=Sum.inr b:=fun q=>e (Sum.inr.inj q)
  rw [decide_eq_false h,decide_eq_false e]
theorem Zjl (a:Int) (b:Str):decide ((Sum.inl a:Key)=Sum.inr b)=false:=decide_eq_false (fun q=>nomatch q)
theorem Zjk (a:Str) (b:Int):decide ((Sum.inr a:Key)=Sum.inl b)=false:=decide_eq_false (fun q=>nomatch q)
def VO (prog:Program) (w:World):PySem.KeyKind prog w Key where
 is:=Zft
 hash:=keyH w
 inj:=fun v a b ha hb=>by
  rcases YC ha with ⟨i,t,rfl,rfl⟩ | ⟨x,t,rfl,rfl⟩
  ·rcases YC hb with ⟨j,u,rfl,e⟩ | ⟨y,u,rfl,e⟩
   ·injection e with e1 _;rw [e1]
   ·exact nomatch e
  ·rcases YC hb with ⟨j,u,rfl,e⟩ | ⟨y,u,rfl,e⟩
   ·exact nomatch e
   ·injection e with e1 _;rw [e1]
 byValue:=fun k v h=>by
  rcases YC h with ⟨i,t,rfl,rfl⟩ | ⟨x,t,rfl,rfl⟩ <;> rfl
 pyHash:=fun hv h=>by
  rcases YC hv with ⟨i,t,rfl,rfl⟩ | ⟨x,t,rfl,rfl⟩
  ·exact wpAny_pyHash_int h
  ·exact wpAny_pyHash_str h
 eqBool:=fun hu hv h=>by
  rcases YC hu with ⟨i,t,rfl,rfl⟩ | ⟨x,t,rfl,rfl⟩
  ·rcases YC hv with ⟨j,u,rfl,rfl⟩ | ⟨y,u,rfl,rfl⟩
   ·rw [Zjm] at h;exact wpAny_eqBool_int h
   ·rw [Zjl] at h;exact SeqAt.EqAt.int_str i t y u _ _ _ _ h
  ·rcases YC hv with ⟨j,u,rfl,rfl⟩ | ⟨y,u,rfl,rfl⟩
   ·rw [Zjk] at h;exact SeqAt.EqAt.str_int x t j u _ _ _ _ h
   ·rw [Zjj] at h;exact wpAny_eqBool_str h
 «strs»:=fun k x t v h=>by
  rcases YC h with ⟨i,u,rfl,e⟩ | ⟨y,u,rfl,e⟩
  ·exact nomatch e
  ·injection e with e1 _
   subst e1
   cases v <;> rfl
theorem Zed (prog:Program) (w:World) (i:Int) (t:Tok):(VO prog w).is (.inl i) (.int i t)=true:=Zgl i t
theorem Zec (prog:Program) (w:World) (x:Str) (t:Tok):(VO prog w).is (.inr x) (.str x t)=true:=Zgk x t
end L2
namespace L2
open PySem PySem.Spec PyProof.Rows
inductive V where
 | non | bl (b:Bool) | int (i:Int) | str (x:Str) | byt (b:Array UInt8) | flt (b:UInt64) | ref (a:Addr) | ty (n:String)
 deriving DecidableEq
def RelV:V→Value→Prop
 | .non,u=>u=Value.none
 | .bl b,u=>u=Value.bool b
 | .int i,u=>∃ t,u=Value.int i t
 | .str x,u=>∃ t,u=Value.str x t
 | .byt b,u=>∃ t,u=Value.bytes b t
 | .flt b,u=>∃ t,u=Value.float b t
 | .ref a,u=>u=Value.ref a
 | .ty n,u=>u=Value.type n
abbrev Vals:List V→List Value→Prop:=Paired RelV
theorem Vals.length {xs:List V}{us:List Value} (r:Vals xs us):xs.length=us.length:=Paired.length r
theorem Vals.get:∀ {xs:List V}{us:List Value}{i:Nat}{x:V},Vals xs us→xs[i]?=some x→∃ u,us[i]?=some u∧RelV x u
 | _,_,_,_,.nil,e=>by simp at e
 | _,_,0,_,.cons r _,e=>by simp at e;subst e;exact ⟨_,rfl,r⟩
 | _,_,i+1,x,.cons _ t,e=>by
  obtain ⟨u,h1,h2⟩:=Vals.get (i:=i) (x:=x) t (by simpa using e)
  exact ⟨u,by simpa using h1,h2⟩
theorem Vals.set {x:V}{u:Value} (r:RelV x u):∀ {xs:List V}{us:List Value} (i:Nat),Vals xs us→Vals (xs.set i x) (us.set i u)
 | _,_,_,.nil=>.nil
 | _,_,0,.cons _ t=>.cons r t
 | _,_,i+1,.cons q t=>.cons q (Vals.set r i t)
theorem Vals.append:∀ {xs ys:List V}{us ws:List Value},Vals xs us→Vals ys ws→Vals (xs++ys) (us++ws)
 | _,_,_,_,.nil,s=>s
 | _,_,_,_,.cons r t,s=>.cons r (Vals.append t s)
theorem Vals.take:∀ {xs:List V}{us:List Value} (n:Nat),Vals xs us→Vals (xs.take n) (us.take n)
 | _,_,0,_=>.nil
 | _,_,_+1,.nil=>.nil
 | _,_,n+1,.cons r t=>.cons r (Vals.take n t)
theorem Vals.drop:∀ {xs:List V}{us:List Value} (n:Nat),Vals xs us→Vals (xs.drop n) (us.drop n)
 | _,_,0,r=>r
 | _,_,_+1,.nil=>.nil
 | _,_,n+1,.cons _ t=>Vals.drop n t
def RelO:Option V→Option Value→Prop
 | some v,some u=>RelV v u
 | none,none=>True
 | _,_=>False
def KV {κ:Type}:List (κ×V)→List (κ×Value)→Prop:=Paired fun (p:κ×V) (q:κ×Value)=>p.1=q.1∧RelV p.2 q.2
def kV:Key→V
 | .inl i=>.int i
 | .inr x=>.str x
inductive HO where
 /-- a list -/
 | lst (xs:List V)
 /-- a tuple (never changes) -/
 | tup (xs:List V)
 /-- a dict whose keys are ints and texts;one whose keys are tuples of ints and texts (the empty one is both) -/
 | dK (kvs:List (Key×V)) | dT (kvs:List (List Key×V))
 /-- a set of ints: its members,its size -/
 | set (S:Int→Bool) (n:Nat)
 /-- an instance of the class at C,its dict at dx,its attributes -/
 | ins (C dx:Addr) (fs:List (Str×V))
 /-- the dict of the instance at x -/
 | own (x:Addr)
 /-- the dict of an exception -/
 | xd (fs:List (Str×V))
 /-- a bound method,f of x -/
 | met (f x:Addr)
 /-- a range object lo,lo+1,.. below hi -/
 | rng (lo hi:Int)
 /-- a thing that is known to the object (the script;a dict while a loop walks it): read,never written while it is so -/
 | frz (o:Obj) (u:HO)
 /-- a code object's table -/
 | tbl (ps:Array Value)
 /-- any other thing,by what is true of its one object (a def of one's own: SetO a S n:=HO.ext fun h=>..) -/
 | ext (φ:Heap→Prop)
abbrev Hp:=Addr→Option HO
def upd (H:Hp) (a:Addr) (o:HO):Hp:=fun b=>if b=a then some o else H b
theorem Ze {H:Hp}{a:Addr}{o:HO}:upd H a o a=some o:=by unfold upd;rw [if_pos rfl]
theorem Zi {H:Hp}{a b:Addr}{o:HO} (h:b≠a):upd H a o b=H b:=by unfold upd;rw [if_neg h]
theorem WW {H:Hp}{a:Addr}{o u:HO}:upd (upd H a o) a u=upd H a u:=by
 funext b;unfold upd;split <;> rfl
theorem WR {H:Hp}{a b:Addr}{o u:HO} (h:H a=some o) (h':H b=some u) (d:o≠u):a≠b:=by
 intro e;subst e;rw [h] at h';exact d (Option.some.inj h')
theorem Zg {H:Hp}{a b:Addr}{o:HO} (h:H a=some o) (h':H b=none):a≠b:=by
 intro e;subst e;rw [h] at h';cases h'
section
variable (P:Program) (w:World)
def WU (H:Hp) (h:Heap) (a:Addr):HO→Prop
 | .lst xs=>xs.length≤sizeLine∧∃ (its:List Value) (n:Nat),Vals xs its∧h.get? a=some { cls:=.type "list",data:=.seq its.toArray n }
 | .tup xs=>xs.length≤sizeLine∧∃ its:List Value,Vals xs its∧IsTup h a its.toArray
 | .dK kvs=>kvs.length≤sizeLine∧(a==sysModules)=false∧∃ vs,KV kvs vs∧h.DictOf (VO P w) a vs
 | .dT kvs=>kvs.length≤sizeLine∧(a==sysModules)=false∧∃ xs:List (List Key×Addr×Value),
   Paired (fun (p:List Key×V) (q:List Key×Addr×Value)=>p.1=q.1∧H q.2.1=some (.tup (p.1.map kV))∧RelV p.2 q.2.2) kvs xs ∧
   ∃ o es ep,h.get? a=some o∧o.ExactDict∧o.data=.dict es ep∧es.toList=xs.map (entryOfKey (tupleKind (VO P w)))∧(xs.map (·.1)).Nodup
 | .set S n=>h.SetOf (intKind P w) a S n
 | .ins C dx fs=>H dx=some (.own a)∧fs.length≤1000∧dx≠a∧h.get? a=some (PySem.W.instObj C dx) ∧
   ∃ mA,h.Ns1 dx mA∧(∀ f,RelO (fs.lookup f) (mA f))∧PySem.Within mA (fs.map (·.1))
 | .own _=>∃ o,h.get? a=some o
 | .xd fs=>∃ mA,h.Ns1 a mA∧∀ f,RelO (fs.lookup f) (mA f)
 | .rng lo hi=>∃ t u v,h.get? a=some { cls:=.type "range",data:=.fields #[.int lo t,.int hi u,.int 1 v] }
 | .frz o u=>h.get? a=some o∧WU H h a u
 | .tbl ps=>h.get? a=some { cls:=.none,data:=.fields ps }
 | .met f x=>h.get? a=some (PySem.W.methodObj (.ref f) (.ref x))
 | .ext φ=>φ h∧(∃ o,h.get? a=some o)∧∀ h1 h2:Heap,φ h1→(∀ o,h1.get? a=some o→h2.get? a=some o)→φ h2
def HOk (H:Hp) (h:Heap):Prop:=∀ a o,H a=some o→WU P w H h a o
end
section
variable {P:Program}{w:World}{H H':Hp}{h h':Heap}{a:Addr}{o:HO}
theorem WU.lt (x:WU P w H h a o):a<h.objs.size:=by
 cases o with
 | lst xs=>obtain ⟨_,_,_,_,e⟩:=x;exact Heap.lt_size e
 | tup xs=>obtain ⟨_,_,_,p⟩:=x;exact p.lt
 | dK kvs=>obtain ⟨_,_,_,_,o,_,_,e,_⟩:=x;exact Heap.lt_size e
 | dT kvs=>obtain ⟨_,_,_,_,o,_,_,e,_⟩:=x;exact Heap.lt_size e
 | set S n=>obtain ⟨o,_,_,_,e,_⟩:=x;exact Heap.lt_size e
 | ins C dx fs=>obtain ⟨_,_,_,e,_⟩:=x;exact Heap.lt_size e
 | own y=>obtain ⟨_,e⟩:=x;exact Heap.lt_size e
 | xd fs=>obtain ⟨_,⟨_,_,_,e,_⟩,_⟩:=x;exact Heap.lt_size e
 | rng lo hi=>obtain ⟨_,_,_,e⟩:=x;exact Heap.lt_size e
 | frz ob u=>obtain ⟨e,_⟩:=x;exact Heap.lt_size e
 | tbl ps=>exact Heap.lt_size (show h.get? a=some _ from x)
 | met f y=>exact Heap.lt_size (show h.get? a=some _ from x)
 | ext φ=>obtain ⟨_,⟨_,e⟩,_⟩:=x;exact Heap.lt_size e
theorem Paired.mapP {α β:Type}{F G:α→β→Prop}:∀ {l₁:List α}{l₂:List β},Paired F l₁ l₂→(∀ a b,F a b→G a b)→Paired G l₁ l₂
 | _,_,.nil,_=>.nil
 | _,_,.cons r t,f=>.cons (f _ _ r) (Paired.mapP t f)
theorem WU.stay (x:WU P w H h a o) (k:∀ b u,(b=a∨H b=some (.own a))→h.get? b=some u→h'.get? b=some u)
  (ho:∀ b,H b=some (.own a)→H' b=some (.own a)) (ht:∀ b xs,H b=some (.tup xs)→H' b=some (.tup xs)):WU P w H' h' a o:=by
 induction o with
 | lst xs=>obtain ⟨z,its,n,r,e⟩:=x;exact ⟨z,its,n,r,k _ _ (.inl rfl) e⟩
 | tup xs=>obtain ⟨z,its,r,ob,e,c⟩:=x;exact ⟨z,its,r,ob,k _ _ (.inl rfl) e,c⟩
 | dK kvs=>obtain ⟨z,y,vs,r,ob,es,ep,e,c⟩:=x;exact ⟨z,y,vs,r,ob,es,ep,k _ _ (.inl rfl) e,c⟩
 | dT kvs =>
  obtain ⟨z,y,xs,r,ob,es,ep,e,c⟩:=x
  exact ⟨z,y,xs,Paired.mapP r fun p q z=>⟨z.1,ht _ _ z.2.1,z.2.2⟩,ob,es,ep,k _ _ (.inl rfl) e,c⟩
 | set S n=>obtain ⟨ob,es,ep,t,e,c⟩:=x;exact ⟨ob,es,ep,t,k _ _ (.inl rfl) e,c⟩
 | ins C dx fs =>
  obtain ⟨d,z,ne,e,mA,⟨od,es,ep,e2,c⟩,r⟩:=x
  exact ⟨ho _ d,z,ne,k _ _ (.inl rfl) e,mA,⟨od,es,ep,k _ _ (.inr d) e2,c⟩,r⟩
 | own y=>obtain ⟨ob,e⟩:=x;exact ⟨ob,k _ _ (.inl rfl) e⟩
 | xd fs=>obtain ⟨mA,⟨od,es,ep,e,c⟩,r⟩:=x;exact ⟨mA,⟨od,es,ep,k _ _ (.inl rfl) e,c⟩,r⟩
 | rng lo hi=>obtain ⟨t,u,v,e⟩:=x;exact ⟨t,u,v,k _ _ (.inl rfl) e⟩
 | frz ob u ih=>obtain ⟨e,q⟩:=x;exact ⟨k _ _ (.inl rfl) e,ih q⟩
 | tbl ps =>
  have e:h.get? a=some { cls:=.none,data:=.fields ps }:=x
  show h'.get? a=some { cls:=.none,data:=.fields ps }
  exact k a _ (.inl rfl) e
 | met f y =>
  have e:h.get? a=some (PySem.W.methodObj (.ref f) (.ref y)):=x
  show h'.get? a=some (PySem.W.methodObj (.ref f) (.ref y))
  exact k a _ (.inl rfl) e
 | ext φ=>obtain ⟨p,⟨o,e⟩,st⟩:=x;exact ⟨st _ _ p fun o q=>k _ _ (.inl rfl) q,⟨o,k _ _ (.inl rfl) e⟩,st⟩
theorem HOk.lt (x:HOk P w H h) (e:H a=some o):a<h.objs.size:=(x a o e).lt
theorem HOk.fresh (x:HOk P w H h) (e:h.objs.size≤a):H a=none:=by
 cases q:H a with
 | none=>rfl
 | some u=>exact absurd (Nat.lt_of_lt_of_le (x.lt q) e) (Nat.lt_irrefl _)
theorem HOk.kept (x:HOk P w H h) (k:∀ b u,h.get? b=some u→h'.get? b=some u):HOk P w H h':=fun a o e =>
 (x a o e).stay (fun b u _ q=>k b u q) (fun _ q=>q) fun _ _ q=>q
theorem HOk.laid (x:HOk P w H h) (k:∀ b u,h.get? b=some u→h'.get? b=some u) (hp:h.objs.size≤a) (new:WU P w (upd H a o) h' a o):HOk P w (upd H a o) h':=fun b u e=>by
 have hn:=x.fresh hp
 by_cases hb:b=a
 ·subst hb;rw [Ze] at e;cases e;exact new
 ·rw [Zi hb] at e
  exact (x b u e).stay (fun c v _ q=>k c v q) (fun c q=>by rw [Zi (Zg q hn)];exact q) fun c xs q=>by rw [Zi (Zg q hn)];exact q
end
def Rd (H:Hp) (a:Addr) (u:HO):Prop:=H a=some u∨∃ o,H a=some (.frz o u)
theorem Rd.ok {P:Program}{w:World}{H:Hp}{h:Heap}{a:Addr}{u:HO} (r:Rd H a u) (x:HOk P w H h):WU P w H h a u:=by
 rcases r with r | ⟨o,r⟩
 ·exact x a u r
 ·obtain ⟨_,q⟩:=x a _ r
  exact q
def Mut:Option HO→Prop
 | some (.lst _)=>True
 | some (.dK _)=>True
 | some (.dT _)=>True
 | some (.set _ _)=>True
 | some (.ins _ _ _)=>True
 | some (.ext _)=>True
 | _=>False
section
variable {P:Program}{w:World}{H:Hp}{h h':Heap}{x e:Addr}{o':HO}
theorem HOk.write (ok:HOk P w H h) (mu:Mut (H x)) (he:e=x∨H e=some (.own x)) (k:∀ b u,b≠e→h.get? b=some u→h'.get? b=some u) (heo:∃ u,h'.get? e=some u)
  (new:WU P w (upd H x o') h' x o'):HOk P w (upd H x o') h':=fun b u q=>by
 have nown:∀ c y,H c=some (.own y)→c≠x:=fun c y r z=>by subst z;rw [r] at mu;exact mu
 have ntup:∀ c xs,H c=some (.tup xs)→c≠x:=fun c xs r z=>by subst z;rw [r] at mu;exact mu
 by_cases hb:b=x
 ·subst hb;rw [Ze] at q;cases q;exact new
 ·rw [Zi hb] at q
  by_cases hbe:b=e
  ·have q':H b=some (.own x):=by
    rcases he with z | z
    ·exact absurd (hbe.trans z) hb
    ·rw [hbe];exact z
   rw [q] at q';cases q'
   obtain ⟨v,hv⟩:=heo
   exact ⟨v,by rw [hbe];exact hv⟩
  ·refine (ok b u q).stay (fun c v hc r=>k c v ?_ r) (fun c r=>by rw [Zi (nown c b r)];exact r) fun c xs r=>by rw [Zi (ntup c xs r)];exact r
   rcases hc with rfl | hc
   ·exact hbe
   ·rintro rfl
    rcases he with z | z
    ·exact nown c b hc z
    ·rw [hc] at z;cases z;exact hb rfl
end
structure Un (fs ex:List Addr) (H H':Hp) (h h':Heap):Prop where
 keep:∀ b o,h.get? b=some o→H b=none→b ∉ fs→b ∉ ex→h'.get? b=some o
 slot:∀ b o,h.get? b=some o→H b=none→b∈fs→b ∉ ex→∃ sl,h'.get? b=some { o with slots:=sl }
 free:∀ b o,h.get? b=some o→H b=none→b ∉ ex→H' b=none
 there:∀ b o,h.get? b=some o→b ∉ ex→∃ o',h'.get? b=some o'
 tups:∀ b xs,H b=some (.tup xs)→H' b=some (.tup xs)
 frzs:∀ b o u,H b=some (.frz o u)→H' b=some (.frz o u)
 tbls:∀ b ps,H b=some (.tbl ps)→∃ more,H' b=some (.tbl (ps++more))
section
variable {fs fs' ex ex':List Addr}{H H1 H2:Hp}{h h1 h2 h':Heap}{a x e:Addr}{o:HO}
theorem Un.any (u:Un fs ex H H1 h h1) {b:Addr}{ob:Obj} (q:h.get? b=some ob) (n:H b=none) (hx:b ∉ ex):∃ sl,h1.get? b=some { ob with slots:=sl }:=by
 by_cases hb:b∈fs
 ·exact u.slot b ob q n hb hx
 ·exact ⟨ob.slots,u.keep b ob q n hb hx⟩
theorem Un.kept (k:∀ b u,h.get? b=some u→h'.get? b=some u):Un fs ex H H h h' :=
 ⟨fun b ob q _ _ _=>k b ob q,fun b ob q _ _ _=>⟨ob.slots,k b ob q⟩,fun _ _ _ n _=>n,fun b ob q _=>⟨ob,k b ob q⟩,fun _ _ q=>q,fun _ _ _ q=>q,fun _ ps q=>⟨#[],by rw [q];simp⟩⟩
theorem Un.refl:Un fs ex H H h h:=Un.kept fun _ _ q=>q
theorem Un.laid (k:∀ b u,h.get? b=some u→h'.get? b=some u) (hp:h.objs.size≤a) (hn:H a=none):Un fs ex H (upd H a o) h h' where
 keep:=fun b u q _ _ _=>k b u q
 slot:=fun b u q _ _ _=>⟨u.slots,k b u q⟩
 free:=fun b u q n _=>by rw [Zi (Nat.ne_of_lt (Nat.lt_of_lt_of_le (Heap.lt_size q) hp))];exact n
 there:=fun b u q _=>⟨u,k b u q⟩
 tups:=fun b xs q=>by rw [Zi (Zg q hn)];exact q
 frzs:=fun b u xs q=>by rw [Zi (Zg q hn)];exact q
 tbls:=fun b ps q=>⟨#[],by rw [Zi (Zg q hn),q];simp⟩
theorem Un.write (mu:Mut (H x)) (he:e=x∨H e=some (.own x)) (k:∀ b u,b≠e→h.get? b=some u→h'.get? b=some u) (heo:∃ u,h'.get? e=some u):Un fs ex H (upd H x o) h h':=by
 have hx:∀ b,H b=none→b≠x:=fun b n z=>by subst z;rw [n] at mu;exact mu
 have hb:∀ b,H b=none→b≠e:=fun b n z=>by
  subst z
  rcases he with r | r
  ·exact hx b n r
  ·rw [n] at r;cases r
 have hm:∀ b u,H b=some u→¬ Mut (some u)→b≠x:=fun b u q nm z=>by subst z;rw [q] at mu;exact nm mu
 refine ⟨fun b u q n _ _=>k b u (hb b n) q,fun b u q n _ _=>⟨u.slots,k b u (hb b n) q⟩,fun b u q n _=>by rw [Zi (hx b n)];exact n,fun b u q _=>?_,
  fun b xs q=>by rw [Zi (hm b _ q fun z=>z)];exact q,fun b u xs q=>by rw [Zi (hm b _ q fun z=>z)];exact q,fun b ps q=>⟨#[],by rw [Zi (hm b _ q fun z=>z),q];simp⟩⟩
 by_cases hbe:b=e
 ·subst hbe;exact heo
 ·exact ⟨u,k b u hbe q⟩
end
def trk (h:Heap) (H:Hp):List Addr:=(List.range h.objs.size).filter fun a=>(H a).isSome
def hidT (h:Heap) (H:Hp):Heap:=PySem.W.hideAll h (trk h H)
theorem Zgp (h:Heap) (H:Hp):(hidT h H).objs.size=h.objs.size:=PySem.W.hideAll_size _ _
theorem Zhq {h:Heap}{H:Hp}{b:Addr}{o:Obj} (e:h.get? b=some o) (n:H b=none):(hidT h H).get? b=some o :=
 PySem.W.hideAll_get _ e fun hm=>by
  have q:(H b).isSome=true:=(List.mem_filter.mp hm).2
  rw [n] at q;simp at q
theorem Zio {h:Heap}{H:Hp}{b:Addr}{o:Obj} (e:(hidT h H).get? b=some o):h.get? b=some o∧H b=none:=by
 have e':h.get? b=some o:=PySem.W.of_hideAll (trk h H) e
 refine ⟨e',?_⟩
 cases q:H b with
 | none=>rfl
 | some x =>
  have hm:b∈trk h H:=List.mem_filter.mpr ⟨List.mem_range.mpr (Heap.lt_size e'),by simp [q]⟩
  have z:(hidT h H).get? b=none:=PySem.W.hideAll_none (trk h H) hm
  rw [z] at e;cases e
def ZiS (g h:Heap) (L:Addr):List (Addr×Obj):=(List.range h.objs.size).filterMap fun a=>if a=L∨(g.get? a).isSome=true then none else (h.get? a).map fun o=>(a,o)
def rest (g h:Heap) (L d:Addr):List (Addr×Obj):=(ZiS g h L).filter fun p=>decide (p.1≠d)
end L2
namespace L2
open PySem PySem.Spec PyProof.Rows
structure Mod (K:PySem.W.Frag) (mg:Str→Option Value) (base:Heap):Prop where
 kin:K.In base
 glob:base.Ns mainGlobals mg
 blt:∃ mb,base.Ns builtinsNs mb∧∀ x:Str,x≠"__name__"→mb x=bootBuiltins x
 nolimit:base.NoLimit
structure Cx where
 prog:Program
 w:World
 K:PySem.W.Frag
 mg:Str→Option Value
 base:Heap
 A:Around
 N:List Str
 s_0:Shared
 H_0:Hp
 env:Env
 outer:List Env
 stack:List Env
 ex:List Addr
 fn:Str→Bool
 calm:Bool
 pn:List (Addr×Obj)
 xe:Value→Shared→Prop
def frs (l:List Env):List Addr:=l.filterMap (·.frame)
abbrev Cx.fs (X:Cx):List Addr:=frs X.outer
def Vis (sc:Scope) (x:Str):Prop:=sc.names.lookup x=some .local∨sc.names.lookup x=some .cell∨sc.names.lookup x=some .free
def Loc (sc:Scope) (x:Str):Prop:=sc.names.lookup x=some .local∨sc.names.lookup x=some .cell
def Look (env:Env) (h:Heap) (m:Str→Option Value) (x:Str) (u:Value):Prop :=
 (env.kindOf x=some .local∧m x=some u)∨((env.kindOf x=some .cell∨env.kindOf x=some .free)∧∃ c,env.cells.lookup x=some c∧h.IsCell c (some u))
structure Cx.Ok (X:Cx):Prop where
 mod:Mod X.K X.mg X.base
 kind:X.env.scope.kind=.function
 glob:X.env.globals=mainGlobals
 blt:X.env.builtins=builtinsNs
 above:X.s_0.heap.objs.size≤X.env.locals
 inj:∀ x y c,X.env.cells.lookup x=some c→X.env.cells.lookup y=some c→x=y
 has:∀ x,(X.env.kindOf x=some .cell∨X.env.kindOf x=some .free)→∃ c,X.env.cells.lookup x=some c
 cab:∀ x c,X.fn x=true→X.env.cells.lookup x=some c→X.s_0.heap.objs.size≤c
 hd:X.calm=true→X.A.handled=none
 frames:X.A.frames=some X.stack
 stk:X.stack=X.outer∨(X.stack=X.env::X.outer∧X.env.frame=some X.env.locals)
 exf:∀ b∈X.ex,b≠X.env.locals∧∀ x c,X.env.cells.lookup x=some c→c≠b
 bs:∀ b o,X.base.get? b=some o→X.s_0.heap.get? b=some o∧X.H_0 b=none
 bsz:X.base.objs.size≤X.s_0.heap.objs.size
 noex:∀ b o,X.base.get? b=some o→b ∉ X.ex
 exfs:∀ b∈X.ex,b ∉ X.fs
 funs:X.s_0.heap.FunFrames X.base X.outer
 frf:∀ b∈X.fs,X.H_0 b=none
structure Inv (X:Cx) (pins:List (Addr×Obj)) (σ:List (Option V)) (H:Hp) (s:Shared):Prop where
 ok:X.Ok
 os:s.os=X.s_0.os
 bare:AllBare s.gens
 base:Un X.fs X.ex X.H_0 H X.s_0.heap s.heap
 loc:∃ m,s.heap.Ns X.env.locals m∧∀ (i:Nat) (x:Str) (v:V),X.N[i]?=some x→σ[i]?=some (some v)→Vis X.env.scope x→∃ u,RelV v u∧Look X.env s.heap m x u
 cell:∀ x c,X.env.cells.lookup x=some c→∃ v,s.heap.IsCell c v
 free:H X.env.locals=none
 freeC:∀ x c,X.env.cells.lookup x=some c→H c=none
 pin:∀ p∈X.pn++pins,s.heap.get? p.1=some p.2∧H p.1=none∧p.1≠X.env.locals∧p.1 ∉ X.fs∧∀ v,p.2.data≠.cell v
 hok:HOk X.prog X.w H s.heap
 len:σ.length=X.N.length
section
variable {X:Cx}{pins:List (Addr×Obj)}{σ:List (Option V)}{H H':Hp}{s:Shared}{h':Heap}
theorem Cx.Ok.nofr (ok:X.Ok) {b:Addr}{o:Obj} (e:X.base.get? b=some o):b ∉ X.fs:=fun hb=>by
 have:=(ok.funs.mem hb).1
 rw [e] at this;cases this
theorem Inv.bs (I:Inv X pins σ H s):∀ b o,X.base.get? b=some o→s.heap.get? b=some o∧H b=none:=fun b o e =>
 ⟨I.base.keep b o (I.ok.bs b o e).1 (I.ok.bs b o e).2 (I.ok.nofr e) (I.ok.noex b o e),I.base.free b o (I.ok.bs b o e).1 (I.ok.bs b o e).2 (I.ok.noex b o e)⟩
theorem Inv.bk (I:Inv X pins σ H s):∀ b o,X.base.get? b=some o→s.heap.get? b=some o:=fun b o e=>(I.bs b o e).1
theorem Inv.mod (I:Inv X pins σ H s):Mod X.K X.mg X.base:=I.ok.mod
theorem Inv.kIn (I:Inv X pins σ H s):X.K.In s.heap:=I.ok.mod.kin.keeps I.bk
theorem Inv.fr (I:Inv X pins σ H s):∃ m,Fr X.base X.env.locals s.heap m :=
 let ⟨m,hn,_⟩:=I.loc
 ⟨m,hn,I.bk,Nat.le_trans I.ok.bsz I.ok.above⟩
theorem Inv.lt (I:Inv X pins σ H s):X.env.locals<s.heap.objs.size:=let ⟨_,hn,_⟩:=I.loc;hn.lt
theorem Inv.sz (I:Inv X pins σ H s):X.s_0.heap.objs.size≤s.heap.objs.size:=Nat.le_trans I.ok.above (Nat.le_of_lt I.lt)
theorem Inv.nofs (I:Inv X pins σ H s) {a:Addr} (h:s.heap.objs.size≤a):a ∉ X.fs:=fun hb=>by
 obtain ⟨_,o,ho,_⟩:=I.ok.funs.mem hb
 exact absurd (Nat.lt_of_lt_of_le (Heap.lt_size ho) (Nat.le_trans I.sz h)) (Nat.lt_irrefl _)
theorem Inv.cne (I:Inv X pins σ H s):∀ x c,X.env.cells.lookup x=some c→c≠X.env.locals:=fun x c e z=>by
 obtain ⟨v,o,ho,hd⟩:=I.cell x c e
 obtain ⟨m,⟨o',es,ep,ho',hd',_⟩,_⟩:=I.loc
 rw [z,ho'] at ho;cases ho;rw [hd'] at hd;cases hd
theorem Inv.funs (I:Inv X pins σ H s):s.heap.FunFrames X.base X.outer:=by
 have all:∀ (l:List Env),(∀ b∈frs l,b∈X.fs)→X.s_0.heap.FunFrames X.base l→s.heap.FunFrames X.base l:=by
  intro l
  induction l with
  | nil=>intro _ _;trivial
  | cons env r ih =>
   intro hs hl
   obtain ⟨hk,⟨L,o,hf,hn,ho,hd⟩,hr⟩:=hl
   have hL:L∈X.fs:=hs L (by unfold frs;rw [List.filterMap_cons,hf];exact List.mem_cons_self)
   obtain ⟨sl,e⟩:=I.base.slot L o ho (I.ok.frf L hL) hL fun z=>I.ok.exfs L z hL
   exact ⟨hk,⟨L,_,hf,hn,e,hd⟩,ih (fun b hb=>hs b (by unfold frs;rw [List.filterMap_cons,hf];exact List.mem_cons_of_mem _ hb)) hr⟩
 exact all X.outer (fun _ hb=>hb) I.ok.funs
theorem Inv.stack (I:Inv X pins σ H s):s.heap.FunFrames X.base X.stack:=by
 rcases I.ok.stk with e | ⟨e,hf⟩
 ·rw [e];exact I.funs
 ·rw [e]
  obtain ⟨m,hn,_⟩:=I.loc
  refine .cons (by rw [I.ok.kind];decide) hf hn ?_ I.funs
  exact Heap.get?_none_of_le (Nat.le_trans I.ok.bsz I.ok.above)
theorem Inv.stkSub (I:Inv X pins σ H s):∀ b∈frs X.stack,b∈X.env.locals::X.fs:=fun b hb=>by
 rcases I.ok.stk with e | ⟨e,hf⟩
 ·rw [e] at hb;exact List.mem_cons_of_mem _ hb
 ·rw [e] at hb
  unfold frs at hb
  rw [List.filterMap_cons,hf] at hb
  exact hb
theorem Inv.stkFree (I:Inv X pins σ H s):∀ b∈frs X.stack,H b=none:=fun b hb=>by
 rcases List.mem_cons.mp (I.stkSub b hb) with e | hb
 ·rw [e];exact I.free
 ·obtain ⟨_,o,ho,_⟩:=I.ok.funs.mem hb
  exact I.base.free b o ho (I.ok.frf b hb) fun z=>I.ok.exfs b z hb
theorem Inv.step {g':Array GenState}{t':Nat}{d':Drawn}{ch:List Addr} (I:Inv X pins σ H s)
  (hch:∀ b∈ch,(b∈X.ex∨X.s_0.heap.objs.size≤b)∧b≠X.env.locals∧(∀ x c,X.env.cells.lookup x=some c→c≠b)∧∀ p∈X.pn++pins,p.1≠b)
  (keep:∀ b o,b≠X.env.locals→b ∉ X.fs→b ∉ ch→s.heap.get? b=some o→H b=none→h'.get? b=some o)
  (slot:∀ b o,b≠X.env.locals→b∈X.fs→b ∉ ch→s.heap.get? b=some o→H b=none→∃ sl,h'.get? b=some { o with slots:=sl }) (free:∀ b o,b ∉ ch→s.heap.get? b=some o→H b=none→H' b=none)
  (there:∀ b o,b ∉ ch→s.heap.get? b=some o→∃ o',h'.get? b=some o')
  (tups:∀ b xs,H b=some (.tup xs)→H' b=some (.tup xs)) (frzs:∀ b o u,H b=some (.frz o u)→H' b=some (.frz o u)) (tbls:∀ b ps,H b=some (.tbl ps)→∃ more,H' b=some (.tbl (ps++more)))
  (ns:∀ m,s.heap.Ns X.env.locals m→h'.Ns X.env.locals m) (hok:HOk X.prog X.w H' h') (hg:AllBare g') :
  Inv X pins σ H' { s with heap:=h',gens:=g',drawn:=d',toks:=t' }:=by
 have neL:∀ b o,X.s_0.heap.get? b=some o→b≠X.env.locals:=fun b o e=>Nat.ne_of_lt (Nat.lt_of_lt_of_le (Heap.lt_size e) I.ok.above)
 have neC:∀ b o,X.s_0.heap.get? b=some o→b ∉ X.ex→b ∉ ch:=fun b o e hx hb=>by
  rcases (hch b hb).1 with z | z
  ·exact hx z
  ·exact absurd (Nat.lt_of_lt_of_le (Heap.lt_size e) z) (Nat.lt_irrefl _)
 have cellK:∀ x c,X.env.cells.lookup x=some c→∀ v,s.heap.IsCell c v→h'.IsCell c v:=fun x c e v ⟨o,ho,hd⟩=>by
  have nch:c ∉ ch:=fun z=>(hch c z).2.2.1 x c e rfl
  by_cases hc:c∈X.fs
  ·obtain ⟨sl,q⟩:=slot c o (I.cne x c e) hc nch ho (I.freeC x c e)
   exact ⟨_,q,hd⟩
  ·exact ⟨o,keep c o (I.cne x c e) hc nch ho (I.freeC x c e),hd⟩
 refine ⟨I.ok,I.os,hg,⟨fun b o e n hb hx=>?_,fun b o e n hb hx=>?_,fun b o e n hx=>?_,fun b o e hx=>?_,fun b xs e=>tups b xs (I.base.tups b xs e),fun b o xs e=>frzs b o xs (I.base.frzs b o xs e),fun b ps e=>?_⟩,?_,fun x c e=>?_,?_,fun x c e=>?_,fun p hp=>?_,hok,I.len⟩
 ·exact keep b o (neL b o e) hb (neC b o e hx) (I.base.keep b o e n hb hx) (I.base.free b o e n hx)
 ·obtain ⟨sl,e1⟩:=I.base.slot b o e n hb hx
  obtain ⟨sl',e2⟩:=slot b _ (neL b o e) hb (neC b o e hx) e1 (I.base.free b o e n hx)
  exact ⟨sl',e2⟩
 ·obtain ⟨o',e1⟩:=I.base.there b o e hx
  exact free b o' (neC b o e hx) e1 (I.base.free b o e n hx)
 ·obtain ⟨o',e1⟩:=I.base.there b o e hx
  exact there b o' (neC b o e hx) e1
 ·obtain ⟨m1,e1⟩:=I.base.tbls b ps e
  obtain ⟨m2,e2⟩:=tbls b _ e1
  exact ⟨m1++m2,by rw [e2,Array.append_assoc]⟩
 ·obtain ⟨m,hn,hl⟩:=I.loc
  refine ⟨m,ns m hn,fun i x v e1 e2 e3=>?_⟩
  obtain ⟨u,r,l⟩:=hl i x v e1 e2 e3
  refine ⟨u,r,?_⟩
  rcases l with l | ⟨k,c,e,z⟩
  ·exact .inl l
  ·exact .inr ⟨k,c,e,cellK x c e _ z⟩
 ·obtain ⟨v,z⟩:=I.cell x c e
  exact ⟨v,cellK x c e v z⟩
 ·obtain ⟨m,⟨o,_,_,ho,_⟩,_⟩:=I.loc
  exact free _ o (fun z=>(hch _ z).2.1 rfl) ho I.free
 ·obtain ⟨v,o,ho,hd⟩:=I.cell x c e
  exact free c o (fun z=>(hch c z).2.2.1 x c e rfl) ho (I.freeC x c e)
 ·obtain ⟨e,n,ne,nf,d⟩:=I.pin p hp
  have nch:p.1 ∉ ch:=fun z=>(hch p.1 z).2.2.2 p hp rfl
  exact ⟨keep p.1 p.2 ne nf nch e n,free p.1 p.2 nch e n,ne,nf,d⟩
theorem Inv.un {t':Nat} (I:Inv X pins σ H s) (u:Un X.fs [] H H' s.heap h') (hok:HOk X.prog X.w H' h'):Inv X pins σ H' { s with heap:=h',toks:=t' }:=by
 obtain ⟨m,⟨o,es,ep,ho,r⟩,_⟩:=id I.loc
 obtain ⟨sl,hL⟩:=u.any ho I.free (by simp)
 exact I.step (g':=s.gens) (d':=s.drawn) (ch:=[]) (fun _ z=>nomatch z) (fun b o _ hb _ e n=>u.keep b o e n hb (by simp)) (fun b o _ hb _ e n=>u.slot b o e n hb (by simp)) (fun b o _ e n=>u.free b o e n (by simp)) (fun b o _ e=>u.there b o e (by simp)) u.tups u.frzs u.tbls (fun m' hm=>by
  obtain ⟨o',es',ep',ho',r'⟩:=hm
  rw [ho] at ho';cases ho'
  exact ⟨_,es',ep',hL,r'⟩) hok I.bare
theorem Inv.call {g':Array GenState}{t':Nat}{d':Drawn}{ch:List Addr} (I:Inv X pins σ H s) (u:Un (frs X.stack) ch H H' s.heap h') (hok:HOk X.prog X.w H' h') (hg:AllBare g')
  (hch:∀ b∈ch,(b∈X.ex∨X.s_0.heap.objs.size≤b)∧b≠X.env.locals∧(∀ x c,X.env.cells.lookup x=some c→c≠b)∧∀ p∈X.pn++pins,p.1≠b) :
  Inv X pins σ H' { s with heap:=h',gens:=g',drawn:=d',toks:=t' }:=by
 obtain ⟨m,⟨o,es,ep,ho,r⟩,_⟩:=id I.loc
 obtain ⟨sl,hL⟩:=u.any ho I.free fun z=>(hch _ z).2.1 rfl
 exact I.step (ch:=ch) hch (fun b o hL hb hc e n=>u.keep b o e n (fun z=>(List.mem_cons.mp (I.stkSub b z)).elim hL hb) hc) (fun b o _ _ hc e n=>u.any e n hc) (fun b o hc e n=>u.free b o e n hc) (fun b o hc e=>u.there b o e hc) u.tups u.frzs u.tbls (fun m' hm=>by
  obtain ⟨o',es',ep',ho',r'⟩:=hm
  rw [ho] at ho';cases ho'
  exact ⟨_,es',ep',hL,r'⟩) hok hg
theorem Inv.turned {t':Nat}{it:Addr} (I:Inv X pins σ H s) (k:∀ b o,b≠it→s.heap.get? b=some o→h'.get? b=some o) (hn:H it=none) (hL:it≠X.env.locals)
  (h1:it∈X.ex∨X.s_0.heap.objs.size≤it) (h2:∀ x c,X.env.cells.lookup x=some c→c≠it) (h3:∀ p∈X.pn++pins,p.1≠it):Inv X pins σ H { s with heap:=h',toks:=t' }:=by
 have nit:∀ b u,H b=some u→b≠it:=fun b u e z=>by rw [z,hn] at e;cases e
 refine I.step (g':=s.gens) (d':=s.drawn) (ch:=[it]) (fun b hb=>?_) (fun b o _ _ hc e _=>k b o (fun z=>hc (by simp [z])) e) (fun b o _ _ hc e _=>⟨o.slots,k b o (fun z=>hc (by simp [z])) e⟩) (fun _ _ _ _ n=>n)
  (fun b o hc e=>⟨o,k b o (fun z=>hc (by simp [z])) e⟩) (fun _ _ e=>e) (fun _ _ _ e=>e) (fun b ps e=>⟨#[],by rw [e];simp⟩) (fun m hm=>?_) (fun b u e=>?_) I.bare
 ·have e:b=it:=by simpa using hb
  subst e
  exact ⟨h1,hL,h2,h3⟩
 ·obtain ⟨o,es,ep,ho,r⟩:=hm
  exact ⟨o,es,ep,k _ o (Ne.symm hL) ho,r⟩
 ·refine (I.hok b u e).stay (fun c v hc q=>k c v ?_ q) (fun _ q=>q) fun _ _ q=>q
  rcases hc with z | z
  ·rw [z];exact nit b u e
  ·exact nit c _ z
theorem Inv.tok (I:Inv X pins σ H s) (t:Nat):Inv X pins σ H { s with toks:=t }:=I.un (h':=s.heap) (t':=t) Un.refl I.hok
theorem Inv.kept {t':Nat} (I:Inv X pins σ H s) (k:∀ b u,s.heap.get? b=some u→h'.get? b=some u):Inv X pins σ H { s with heap:=h',toks:=t' }:=I.un (Un.kept k) (I.hok.kept k)
theorem Inv.laid {a:Addr}{o:HO}{t':Nat} (I:Inv X pins σ H s) (k:∀ b u,s.heap.get? b=some u→h'.get? b=some u) (hp:s.heap.objs.size≤a) (new:WU X.prog X.w (upd H a o) h' a o) :
  Inv X pins σ (upd H a o) { s with heap:=h',toks:=t' }:=I.un (Un.laid k hp (I.hok.fresh hp)) (I.hok.laid k hp new)
theorem Inv.write {x e:Addr}{o:HO}{t':Nat} (I:Inv X pins σ H s) (mu:Mut (H x)) (he:e=x∨H e=some (.own x)) (k:∀ b u,b≠e→s.heap.get? b=some u→h'.get? b=some u) (heo:∃ u,h'.get? e=some u)
  (new:WU X.prog X.w (upd H x o) h' x o):Inv X pins σ (upd H x o) { s with heap:=h',toks:=t' }:=I.un (Un.write mu he k heo) (I.hok.write mu he k heo new)
theorem Inv.weak {σ':List (Option V)} (I:Inv X pins σ H s) (hl:σ'.length=σ.length) (w:∀ (i:Nat) v,σ'[i]?=some (some v)→σ[i]?=some (some v)):Inv X pins σ' H s :=
 ⟨I.ok,I.os,I.bare,I.base,let ⟨m,hn,hl'⟩:=I.loc;⟨m,hn,fun i x v e1 e2 e3=>hl' i x v e1 (w i v e2) e3⟩,I.cell,I.free,I.freeC,I.pin,I.hok,hl.trans I.len⟩
theorem Inv.pins_of {pins':List (Addr×Obj)} (I:Inv X pins σ H s) (h:∀ p∈pins',s.heap.get? p.1=some p.2∧H p.1=none∧p.1≠X.env.locals∧p.1 ∉ X.fs∧∀ v,p.2.data≠.cell v):Inv X pins' σ H s :=
 ⟨I.ok,I.os,I.bare,I.base,I.loc,I.cell,I.free,I.freeC,fun p hp=>(List.mem_append.mp hp).elim (fun z=>I.pin p (List.mem_append_left _ z)) (h p),I.hok,I.len⟩
theorem Zcw {N:List Str} (hN:N.Nodup) {i j:Nat}{x:Str} (a:N[i]?=some x) (b:N[j]?=some x):i=j:=by
 obtain ⟨h1,e1⟩:=List.getElem?_eq_some_iff.mp a
 obtain ⟨h2,e2⟩:=List.getElem?_eq_some_iff.mp b
 exact (List.getElem_inj hN).mp (e1.trans e2.symm)
theorem ZcT {M:Model}{A:Around}{E:Value→Shared→Prop}{i:Nat}{x:Str}{v:V}{u:Value}{Q:Unit→Shared→Prop} (I:Inv X pins σ H s) (hN:X.N.Nodup) (hi:X.N[i]?=some x) (hx:Loc X.env.scope x) (r:RelV v u)
  (h:∀ s',Inv X pins (σ.set i (some v)) H s'→(∃ a,Heap.SameBut a s.heap s'.heap∧(a=X.env.locals∨X.env.cells.lookup x=some a))→Q () s') (hf:X.fn x=true∨X.env.scope.names.lookup x=some .local:=by first | exact .inl rfl | exact .inr rfl | assumption):wpAny M A (storeName X.env x u) Q E s:=by
 obtain ⟨m,hn,hl⟩:=id I.loc
 have hcls:(X.env.scope.kind==.class || (X.env.scope.kind==.module && X.env.locals != X.env.globals))=false:=by rw [I.ok.kind];rfl
 have hiσ:i<σ.length:=by rw [I.len];exact (List.getElem?_eq_some_iff.mp hi).1
 have cne:=I.cne
 have tracked:∀ {a:Addr}{h':Heap},(∃ o,s.heap.get? a=some o∧H a=none)→Heap.SameBut a s.heap h'→HOk X.prog X.w H h':=fun {a h'} ha hs b ob e=>by
  obtain ⟨_,_,hfree⟩:=ha
  refine (I.hok b ob e).stay (fun c w' hc q=>(hs.2 c ?_).trans q) (fun _ q=>q) fun _ _ q=>q
  rintro rfl
  rcases hc with rfl | hc
  ·rw [hfree] at e;cases e
  ·rw [hfree] at hc;cases hc
 rcases hx with hk | hk
 ·refine wpAny_storeName_local hk hn (fun h' hn' hs=>?_) hcls
  obtain ⟨oL,_,_,hoL,_⟩:=id hn
  refine h _ ⟨I.ok,I.os,I.bare,⟨fun b o e n hb hx=>?_,fun b o e n hb hx=>?_,I.base.free,fun b o e hx=>?_,I.base.tups,I.base.frzs,I.base.tbls⟩,⟨_,hn',fun j y v' e1 e2 e3=>?_⟩,fun y c e=>?_,I.free,I.freeC,fun p hp=>?_,tracked ⟨oL,hoL,I.free⟩ hs,by simpa using I.len⟩ ⟨_,hs,.inl rfl⟩
  ·exact (hs.2 b (Nat.ne_of_lt (Nat.lt_of_lt_of_le (Heap.lt_size e) I.ok.above))).trans (I.base.keep b o e n hb hx)
  ·obtain ⟨sl,e1⟩:=I.base.slot b o e n hb hx
   exact ⟨sl,(hs.2 b (Nat.ne_of_lt (Nat.lt_of_lt_of_le (Heap.lt_size e) I.ok.above))).trans e1⟩
  ·obtain ⟨o',e1⟩:=I.base.there b o e hx
   exact ⟨o',(hs.2 b (Nat.ne_of_lt (Nat.lt_of_lt_of_le (Heap.lt_size e) I.ok.above))).trans e1⟩
  ·by_cases hj:j=i
   ·subst hj
    rw [hi] at e1;cases e1
    rw [List.getElem?_set_self hiσ] at e2
    cases e2
    exact ⟨u,r,.inl ⟨hk,by simp⟩⟩
   ·rw [List.getElem?_set_ne (Ne.symm hj)] at e2
    obtain ⟨u',r',q⟩:=hl j y v' e1 e2 e3
    refine ⟨u',r',?_⟩
    rcases q with ⟨k,e⟩ | ⟨k,c,e,z⟩
    ·refine .inl ⟨k,?_⟩
     have:y≠x:=fun e=>hj (Zcw hN e1 (e ▸ hi))
     simp [this,e]
    ·exact .inr ⟨k,c,e,z.sameBut hs (cne y c e)⟩
  ·obtain ⟨w',z⟩:=I.cell y c e
   exact ⟨w',z.sameBut hs (cne y c e)⟩
  ·obtain ⟨e,n,ne,nf,d⟩:=I.pin p hp
   exact ⟨(hs.2 p.1 ne).trans e,n,ne,nf,d⟩
 ·have hfn:X.fn x=true:=by
   rcases hf with z | z
   ·exact z
   ·rw [z] at hk;cases hk
  obtain ⟨c,hc⟩:=I.ok.has x (.inl hk)
  obtain ⟨w',z⟩:=I.cell x c hc
  refine wpAny_storeName_cell I.ok.kind hk hc z (fun h' hc' hs=>?_)
  obtain ⟨oc,hoc,hocd⟩:=id z
  refine h { s with heap:=h' } ⟨I.ok,I.os,I.bare,⟨fun b o e n hb hx=>?_,fun b o e n hb hx=>?_,I.base.free,fun b o e hx=>?_,I.base.tups,I.base.frzs,I.base.tbls⟩,⟨m,hn.sameBut hs (Ne.symm (cne x c hc)),fun j y v' e1 e2 e3=>?_⟩,fun y c' e=>?_,I.free,I.freeC,fun p hp=>?_,tracked ⟨oc,hoc,I.freeC x c hc⟩ hs,by simpa using I.len⟩ ⟨c,hs,.inr hc⟩
  ·exact (hs.2 b (Nat.ne_of_lt (Nat.lt_of_lt_of_le (Heap.lt_size e) (I.ok.cab x c hfn hc)))).trans (I.base.keep b o e n hb hx)
  ·obtain ⟨sl,e1⟩:=I.base.slot b o e n hb hx
   exact ⟨sl,(hs.2 b (Nat.ne_of_lt (Nat.lt_of_lt_of_le (Heap.lt_size e) (I.ok.cab x c hfn hc)))).trans e1⟩
  ·obtain ⟨o',e1⟩:=I.base.there b o e hx
   exact ⟨o',(hs.2 b (Nat.ne_of_lt (Nat.lt_of_lt_of_le (Heap.lt_size e) (I.ok.cab x c hfn hc)))).trans e1⟩
  ·by_cases hj:j=i
   ·subst hj
    rw [hi] at e1;cases e1
    rw [List.getElem?_set_self hiσ] at e2
    cases e2
    exact ⟨u,r,.inr ⟨.inl hk,c,hc,hc'⟩⟩
   ·rw [List.getElem?_set_ne (Ne.symm hj)] at e2
    obtain ⟨u',r',q⟩:=hl j y v' e1 e2 e3
    refine ⟨u',r',?_⟩
    rcases q with q | ⟨k,c',e,z'⟩
    ·exact .inl q
    ·refine .inr ⟨k,c',e,z'.sameBut hs ?_⟩
     rintro rfl
     exact hj (Zcw hN e1 (I.ok.inj _ _ _ e hc ▸ hi))
  ·by_cases hcc:c'=c
   ·subst hcc;exact ⟨_,hc'⟩
   ·obtain ⟨w2,z2⟩:=I.cell y c' e
    exact ⟨w2,z2.sameBut hs hcc⟩
  ·obtain ⟨e,n,ne,nf,d⟩:=I.pin p hp
   refine ⟨(hs.2 p.1 ?_).trans e,n,ne,nf,d⟩
   intro q
   rw [q,hoc] at e
   have q':oc=p.2:=Option.some.inj e
   exact d w' (by rw [← q'];exact hocd)
theorem Zar {M:Model}{A:Around}{E:Value→Shared→Prop}{i:Nat}{x:Str}{v:V}{u:Value}{Q:Unit→Shared→Prop} (I:Inv X pins σ H s) (hN:X.N.Nodup) (hi:X.N[i]?=some x) (hx:Loc X.env.scope x) (r:RelV v u)
  (h:∀ s',Inv X pins (σ.set i (some v)) H s'→Q () s') (hf:X.fn x=true∨X.env.scope.names.lookup x=some .local:=by first | exact .inl rfl | exact .inr rfl | assumption):wpAny M A (storeName X.env x u) Q E s :=
 ZcT I hN hi hx r (fun s' I' _=>h s' I') hf
theorem Inv.call' {s':Shared}{ch:List Addr} (I:Inv X pins σ H s) (ho:s'.os=s.os) (u:Un (frs X.stack) ch H H' s.heap s'.heap) (hok:HOk X.prog X.w H' s'.heap) (hg:AllBare s'.gens)
  (hch:∀ b∈ch,(b∈X.ex∨X.s_0.heap.objs.size≤b)∧b≠X.env.locals∧(∀ x c,X.env.cells.lookup x=some c→c≠b)∧∀ p∈X.pn++pins,p.1≠b):Inv X pins σ H' s':=by
 obtain ⟨h',g',d',t',o'⟩:=s'
 have e:o'=s.os:=ho
 subst e
 exact I.call (g':=g') (t':=t') (d':=d') u hok hg hch
end
abbrev XK:=Value→Option Addr→Hp→Prop
abbrev St:=List (Option V)
abbrev VK:=V→Hp→Prop
abbrev TE:=St→Hp→VK→Prop
abbrev TT:=St→Hp→(Bool→Hp→Prop)→Prop
abbrev TA:=St→Hp→(List V→Hp→Prop)→Prop
structure Ends where
 nx:St→Hp→Prop
 rt:VK
 bk:St→Hp→Prop:=fun _ _=>False
 ct:St→Hp→Prop:=fun _ _=>False
abbrev TS:=Ends→St→Hp→Prop
def EP (X:Cx) (pins:List (Addr×Obj)) (σ:St) (Q:VK) (u:Value) (s':Shared):Prop:=∃ v H',Inv X pins σ H' s'∧RelV v u∧Q v H'
def TP (X:Cx) (pins:List (Addr×Obj)) (σ:St) (Q:Bool→Hp→Prop) (b:Bool) (s':Shared):Prop:=∃ H',Inv X pins σ H' s'∧Q b H'
def AP (X:Cx) (pins:List (Addr×Obj)) (σ:St) (Q:List V→Hp→Prop) (us:List Value) (s':Shared):Prop:=∃ vs H',Inv X pins σ H' s'∧Vals vs us∧Q vs H'
def SP (X:Cx) (pins:List (Addr×Obj)) (D:Ends) (f:Flow) (s':Shared):Prop :=
 match f with
 | .next=>∃ σ' H',Inv X pins σ' H' s'∧D.nx σ' H'
 | .brk=>∃ σ' H',Inv X pins σ' H' s'∧D.bk σ' H'
 | .cont=>∃ σ' H',Inv X pins σ' H' s'∧D.ct σ' H'
 | .ret u=>∃ v σ' H',Inv X pins σ' H' s'∧RelV v u∧D.rt v H'
def PE (X:Cx) (e:Expr) (t:TE):Prop :=
 ∀ (pins:List (Addr×Obj)) (s:Shared) (σ:St) (H:Hp) (Q:VK),Inv X pins σ H s→t σ H Q→wpAny (model X.prog X.w) X.A (eval e X.env) (EP X pins σ Q) X.xe s
def PT (X:Cx) (e:Expr) (t:TT):Prop :=
 ∀ (pins:List (Addr×Obj)) (s:Shared) (σ:St) (H:Hp) (Q:Bool→Hp→Prop),Inv X pins σ H s→t σ H Q→wpAny (model X.prog X.w) X.A (isTrue e X.env (eval e X.env)) (TP X pins σ Q) X.xe s
def PW (X:Cx) (e:Expr) (t:TT):Prop :=
 ∀ (whole:Sem Value) (pins:List (Addr×Obj)) (s:Shared) (σ:St) (H:Hp) (Q:Bool→Hp→Prop),Inv X pins σ H s→t σ H Q→wpAny (model X.prog X.w) X.A (isTrue e X.env whole) (TP X pins σ Q) X.xe s
theorem PW.pt {X:Cx}{e:Expr}{t:TT} (h:PW X e t):PT X e t:=h _
def PA (X:Cx) (es:List Expr) (t:TA):Prop :=
 ∀ (pos:Pos) (pins:List (Addr×Obj)) (s:Shared) (σ:St) (H:Hp) (Q:List V→Hp→Prop),Inv X pins σ H s→t σ H Q→wpAny (model X.prog X.w) X.A (spliced (backTo pos (starEach es X.env))) (AP X pins σ Q) X.xe s
def PS (X:Cx) (st:Stmt) (t:TS):Prop :=
 ∀ (pins:List (Addr×Obj)) (s:Shared) (σ:St) (H:Hp) (D:Ends),Inv X pins σ H s→t D σ H→wpAny (model X.prog X.w) X.A (exec st X.env) (SP X pins D) X.xe s
def PSs (X:Cx) (st:List Stmt) (t:TS):Prop :=
 ∀ (pins:List (Addr×Obj)) (s:Shared) (σ:St) (H:Hp) (D:Ends),Inv X pins σ H s→t D σ H→wpAny (model X.prog X.w) X.A (execs st X.env) (SP X pins D) X.xe s
theorem thn {α:Type}{t:Sem α}{Q Q':α→Shared→Prop}{M:Model}{A:Around}{E:Value→Shared→Prop}{s:Shared} (h:wpAny M A t Q E s) (hQ:∀ a s,Q a s→Q' a s):wpAny M A t Q' E s:=wpAny_mono h hQ fun _ _ x=>x
end L2
namespace L2
open PySem PySem.Spec PyProof.Rows
section
variable {X:Cx}
theorem bin {a b:Expr}{ta tb:TE} (ha:PE X a ta) (hb:PE X b tb) {pins:List (Addr×Obj)}{s:Shared}{σ:St}{H:Hp}{R:V→V→Hp→Prop} (I:Inv X pins σ H s) (h:ta σ H fun x H1=>tb σ H1 fun y H2=>R x y H2)
  {α:Type}{Q:α→Shared→Prop}{f:Value→Value→Sem α}
  (hf:∀ v u s2 x y H2,Inv X pins σ H2 s2→RelV x v→RelV y u→R x y H2→wpAny (model X.prog X.w) X.A (f v u) Q X.xe s2) :
  wpAny (model X.prog X.w) X.A (eval a X.env) (fun v s₁=>wpAny (model X.prog X.w) X.A (eval b X.env) (fun u s₂=>wpAny (model X.prog X.w) X.A (f v u) Q X.xe s₂) X.xe s₁) X.xe s:=by
 refine thn (ha pins s σ H _ I h) fun v s1 ⟨x,H1,I1,r1,q1⟩=>?_
 refine thn (hb pins s1 σ H1 _ I1 q1) fun u s2 ⟨y,H2,I2,r2,q2⟩=>?_
 exact hf v u s2 x y H2 I2 r1 r2 q2
def tVar (i:Nat):TE:=fun σ H Q=>∃ v,σ[i]?=some (some v)∧Q v H
def tC (v:V):TE:=fun _ H Q=>Q v H
theorem ZeK {i:Nat}{x:Str}{pos:Pos} (hN:X.N[i]?=some x) (hv:Vis X.env.scope x) (hd:(x==("__debug__":Str))=false:=by decide) (hcd:(x==("__classdict__":Str))=false:=by decide):PE X (.Name x pos) (tVar i):=by
 intro pins s σ H Q I h
 obtain ⟨v,e,h⟩:=h
 obtain ⟨m,hn,hl⟩:=I.loc
 obtain ⟨u,r,l⟩:=hl i x v hN e hv
 have fin:EP X pins σ Q u s:=⟨v,H,I,r,h⟩
 rcases l with ⟨hk,hm⟩ | ⟨hk,c,hc,hcell⟩
 ·exact wpAny_Name (wpAny_loadName_local I.ok.kind hk hn hm fin) hd
 ·rcases hk with hk | hk
  ·exact wpAny_Name (wpAny_loadName_cell I.ok.kind hk hc hcell fin) hd
  ·exact wpAny_Name (wpAny_loadName_free I.ok.kind hk hc hcell fin hcd) hd
theorem Zh {i j pos}:PE X (.Constant (.int i) j pos) (tC (.int i)):=fun _ _ _ H _ I h=>wpAny_Constant_int ⟨.int i,H,I.tok _,⟨_,rfl⟩,h⟩
theorem Zfg {b j pos}:PE X (.Constant (.bool b) j pos) (tC (.bl b)):=fun _ _ _ H _ I h=>Constant_bool ⟨.bl b,H,I,rfl,h⟩
theorem ZbJ {j pos}:PE X (.Constant .none j pos) (tC .non):=fun _ _ _ H _ I h=>Constant_none ⟨.non,H,I,rfl,h⟩
theorem ZL {x j pos}:PE X (.Constant (.str x) j pos) (tC (.str x)):=fun _ _ _ H _ I h=>Calls.Constant_str ⟨.str x,H,I.tok _,⟨_,rfl⟩,h⟩
def Gl (X:Cx) (x:Str):Prop:=X.env.kindOf x=some .globalImplicit
theorem UK {E:Value→Shared→Prop}{pins:List (Addr×Obj)}{s:Shared}{σ:St}{H:Hp}{x:Str}{u:Value}{pos:Pos}{Q:Value→Shared→Prop} (I:Inv X pins σ H s) (hg:Gl X x) (hm:X.mg x=some u) (h:Q u s)
  (hd:(x==("__debug__":Str))=false:=by decide):wpAny (model X.prog X.w) X.A (eval (.Name x pos) X.env) Q E s :=
 Calls.Name_function_global I.ok.kind hg (Calls.loadGlobal_global (by rw [I.ok.glob];exact I.mod.glob.keeps I.bk) hm h) hd
theorem ZbN {E:Value→Shared→Prop}{pins:List (Addr×Obj)}{s:Shared}{σ:St}{H:Hp}{x:Str}{u:Value}{pos:Pos}{Q:Value→Shared→Prop} (I:Inv X pins σ H s) (hg:Gl X x) (hm:X.mg x=none) (hv:bootBuiltins x=some u) (h:Q u s)
  (hn:x≠"__name__":=by decide) (hd:(x==("__debug__":Str))=false:=by decide):wpAny (model X.prog X.w) X.A (eval (.Name x pos) X.env) Q E s:=by
 obtain ⟨mb,h1,h2⟩:=I.mod.blt
 exact Calls.Name_function_global I.ok.kind hg (Calls.loadGlobal_builtin (by rw [I.ok.glob];exact I.mod.glob.keeps I.bk) hm (by rw [I.ok.blt];exact h1.keeps I.bk) ((h2 x hn).trans hv) h) hd
theorem Zf1 {x:Str}{v:V}{u:Value}{pos:Pos} (hg:Gl X x) (hm:X.mg x=some u) (r:RelV v u) (hd:(x==("__debug__":Str))=false:=by decide):PE X (.Name x pos) (tC v) :=
 fun _ _ _ H _ I h=>UK I hg hm ⟨v,H,I,r,h⟩ hd
variable {a b:Expr}{ta tb:TE}{pos:Pos}
def PC (X:Cx) (op:CmpOp) (a b:Expr) (t:TE):Prop :=
 ∀ (pins:List (Addr×Obj)) (s:Shared) (σ:St) (H:Hp) (Q:VK),Inv X pins σ H s→t σ H Q →
  wpAny (model X.prog X.w) X.A (eval a X.env) (fun v s₁=>wpAny (model X.prog X.w) X.A (eval b X.env) (fun u s₂=>wpAny (model X.prog X.w) X.A (compareOp op v u) (EP X pins σ Q) X.xe s₂) X.xe s₁) X.xe s
theorem Zhf (b:Expr) {op:CmpOp} (h:op≠.In) (h2:op≠.NotIn):behindInMarks op b=false:=by
 have e1:(op==CmpOp.In)=false:=by cases op <;> first | rfl | exact absurd rfl h
 have e2:(op==CmpOp.NotIn)=false:=by cases op <;> first | rfl | exact absurd rfl h2
 cases b <;> simp [behindInMarks,e1,e2]
def tB (t:TE):TT:=fun σ H Q=>t σ H fun x H1=>∃ c,x=.bl c∧Q c H1
theorem Zkp {op:CmpOp}{t:TE} (h:PC X op a b t) (h1:behindInMarks op b=false:=by first | exact Zhf _ (by decide) (by decide) | rfl):PT X (.Compare a [op] [b] pos) (tB t):=by
 intro pins s σ H Q I hw
 refine wpAny_isTrue_Compare1 (thn (h pins s σ H _ I hw) fun v s1 h1=>thn h1 fun u s2 h2=>thn h2 fun c s3 ⟨x,H1,I1,r1,q1⟩=>?_) h1
 obtain ⟨d,rfl,q⟩:=q1
 cases r1
 exact wpAny_truthy_bool ⟨H1,I1,q⟩
theorem Wi {e:Expr}{t:TE} (h:PE X e t) (he:∀ whole,isTrue e X.env whole=(do let v ← whole;standAt e.pos;holding [v] (truthy v)):=by intro _;rfl):PT X e (tB t):=by
 intro pins s σ H Q I hw
 refine isTrue_plain (thn (h pins s σ H _ I hw) fun v s1 ⟨x,H1,I1,r1,q1⟩=>?_) (he _)
 obtain ⟨d,rfl,q⟩:=q1
 cases r1
 exact wpAny_truthy_bool ⟨H1,I1,q⟩
variable {tA tB':TT}{rest:List Expr}
def tAnd (t u:TT):TT:=fun σ H Q=>t σ H fun c H1=>if c=true then u σ H1 Q else Q false H1
def tOr (t u:TT):TT:=fun σ H Q=>t σ H fun c H1=>if c=true then Q true H1 else u σ H1 Q
def tNot (t:TT):TT:=fun σ H Q=>t σ H fun c H1=>Q (!c) H1
theorem Xc (ha:PT X a tA):PW X (.BoolOp .And [a] pos) tA:=by
 intro wh pins s σ H Q I h
 refine isTrue_and (thn (ha pins s σ H Q I h) fun c s1 e=>?_)
 cases c with
 | true=>exact isTrue_and_nil e
 | false=>exact e
theorem Ja (ha:PT X a tA):PW X (.BoolOp .Or [a] pos) tA:=by
 intro wh pins s σ H Q I h
 refine isTrue_or (thn (ha pins s σ H Q I h) fun c s1 e=>?_)
 cases c with
 | false=>exact isTrue_or_nil e
 | true=>exact e
theorem Xm (ha:PT X a tA) (hb:PW X (.BoolOp .And (b::rest) pos) tB'):PW X (.BoolOp .And (a::b::rest) pos) (tAnd tA tB'):=by
 intro wh pins s σ H Q I h
 refine isTrue_and (thn (ha pins s σ H _ I h) fun c s1 ⟨H1,I1,q1⟩=>?_)
 cases c with
 | true=>exact hb wh pins s1 σ H1 Q I1 q1
 | false=>exact ⟨H1,I1,q1⟩
theorem Zbj (ha:PT X a tA) (hb:PW X (.BoolOp .Or (b::rest) pos) tB'):PW X (.BoolOp .Or (a::b::rest) pos) (tOr tA tB'):=by
 intro wh pins s σ H Q I h
 refine isTrue_or (thn (ha pins s σ H _ I h) fun c s1 ⟨H1,I1,q1⟩=>?_)
 cases c with
 | true=>exact ⟨H1,I1,q1⟩
 | false=>exact hb wh pins s1 σ H1 Q I1 q1
theorem Uq (ha:PT X a tA):PT X (.UnaryOp .Not a pos) (tNot tA):=by
 intro pins s σ H Q I h
 exact isTrue_not (ha pins s σ H (fun c H1=>Q (!c) H1) I h)
def ZfQ (ta tb:TE):TE:=fun σ H Q=>ta σ H fun x H1=>∃ c,x=.bl c∧if c=true then tb σ H1 Q else Q (.bl false) H1
def tOrV (ta tb:TE):TE:=fun σ H Q=>ta σ H fun x H1=>∃ c,x=.bl c∧if c=true then Q (.bl true) H1 else tb σ H1 Q
def ZgX (ta:TE):TE:=fun σ H Q=>ta σ H fun x H1=>∃ c,x=.bl c∧Q (.bl (!c)) H1
theorem ZhQ {op}{t:TE} (h:PE X a t):PE X (.BoolOp op [a] pos) t:=fun pins s σ H Q I hw=>BoolOp_one (h pins s σ H Q I hw)
theorem Zi9 (ha:PE X a ta) (hb:PE X (.BoolOp .And (b::rest) pos) tb):PE X (.BoolOp .And (a::b::rest) pos) (ZfQ ta tb):=by
 intro pins s σ H Q I h
 refine BoolOp_and (thn (ha pins s σ H _ I h) fun v s1 ⟨x,H1,I1,r1,q1⟩=>?_)
 obtain ⟨c,rfl,q1⟩:=q1
 cases r1
 refine wpAny_truthy_bool ?_
 cases c with
 | true=>exact hb pins s1 σ H1 Q I1 q1
 | false=>exact ⟨.bl false,H1,I1,rfl,q1⟩
theorem ZjT (ha:PE X a ta) (hb:PE X (.BoolOp .Or (b::rest) pos) tb):PE X (.BoolOp .Or (a::b::rest) pos) (tOrV ta tb):=by
 intro pins s σ H Q I h
 refine BoolOp_or (thn (ha pins s σ H _ I h) fun v s1 ⟨x,H1,I1,r1,q1⟩=>?_)
 obtain ⟨c,rfl,q1⟩:=q1
 cases r1
 refine wpAny_truthy_bool ?_
 cases c with
 | false=>exact hb pins s1 σ H1 Q I1 q1
 | true=>exact ⟨.bl true,H1,I1,rfl,q1⟩
def tIf (t:TT) (ta tb:TE):TE:=fun σ H Q=>t σ H fun c H1=>if c=true then ta σ H1 Q else tb σ H1 Q
theorem Zg5 {c:Expr} (hc:PT X c tA) (ha:PE X a ta) (hb:PE X b tb):PE X (.IfExp c a b pos) (tIf tA ta tb):=by
 intro pins s σ H Q I h
 refine wpAny_IfExp (thn (hc pins s σ H _ I h) fun d s1 ⟨H1,I1,q1⟩=>?_)
 cases d with
 | true=>exact ha pins s1 σ H1 Q I1 q1
 | false=>exact hb pins s1 σ H1 Q I1 q1
end
end L2
namespace L2
open PySem PySem.Spec PyProof.Rows
def SqL (K:PySem.W.Frag) (H:Hp) (a:Addr) (xs:List V):Prop :=
 Rd H a (.lst xs) ∨
  ∃ (o:Obj) (its:Array Value) (n:Nat),K.lookup a=some o∧o.cls=.type "list"∧o.dict=none∧o.data=.seq its n∧its.size≤sizeLine∧Vals xs its.toList
def SqT (K:PySem.W.Frag) (H:Hp) (a:Addr) (xs:List V):Prop :=
 Rd H a (.tup xs) ∨
  ∃ (o:Obj) (its:Array Value) (n:Nat),K.lookup a=some o∧o.cls=.type "tuple"∧o.data=.seq its n∧its.size≤sizeLine∧Vals xs its.toList
def absV:Value→Option V
 | .none=>some .non
 | .bool b=>some (.bl b)
 | .int i _=>some (.int i)
 | .str x _=>some (.str x)
 | .bytes b _=>some (.byt b)
 | .float b _=>some (.flt b)
 | .ref a=>some (.ref a)
 | .type n=>some (.ty n)
 | _=>none
theorem RelV.abs {x:V}{u:Value} (r:RelV x u):absV u=some x:=by
 cases x with
 | non=>cases r;rfl
 | bl _=>cases r;rfl
 | int _=>obtain ⟨t,rfl⟩:=r;rfl
 | str _=>obtain ⟨t,rfl⟩:=r;rfl
 | byt _=>obtain ⟨t,rfl⟩:=r;rfl
 | flt _=>obtain ⟨t,rfl⟩:=r;rfl
 | ref _=>cases r;rfl
 | ty _=>cases r;rfl
theorem RelV.inj {x y:V}{u:Value} (r:RelV x u) (q:RelV y u):x=y:=Option.some.inj (r.abs.symm.trans q.abs)
theorem Vals.inj:∀ {xs ys:List V}{us:List Value},Vals xs us→Vals ys us→xs=ys
 | _,_,_,.nil,.nil=>rfl
 | _,_,_,.cons r t,.cons r' t'=>by rw [r.inj r',Vals.inj t t']
section
variable {X:Cx}{pins:List (Addr×Obj)}{σ:St}{H:Hp}{s:Shared}{a:Addr}{xs ys:List V}
theorem SqL.of {K:PySem.W.Frag} (h:H a=some (.lst xs)):SqL K H a xs:=.inl (.inl h)
theorem Inv.list (I:Inv X pins σ H s) (h:SqL X.K H a xs):∃ its:List Value,Vals xs its∧PlainL s.heap a its.toArray∧xs.length≤sizeLine:=by
 rcases h with h | ⟨o,its,n,hk,hc,hd,hs,hz,r⟩
 ·obtain ⟨z,its,n,r,e⟩:=h.ok I.hok
  exact ⟨its,r,⟨_,n,e,rfl,rfl,rfl⟩,z⟩
 ·refine ⟨its.toList,r,⟨o,n,I.kIn a o hk,hc,hd,by simpa using hs⟩,?_⟩
  have e:=r.length
  simp only [Array.length_toList] at e
  omega
theorem Inv.tuple (I:Inv X pins σ H s) (h:SqT X.K H a xs):∃ its:List Value,Vals xs its∧IsTup s.heap a its.toArray∧xs.length≤sizeLine:=by
 rcases h with h | ⟨o,its,n,hk,hc,hs,hz,r⟩
 ·obtain ⟨z,its,r,p⟩:=h.ok I.hok
  exact ⟨its,r,p,z⟩
 ·refine ⟨its.toList,r,⟨o,I.kIn a o hk,hc,n,by simpa using hs⟩,?_⟩
  have e:=r.length
  simp only [Array.length_toList] at e
  omega
theorem Inv.list_inj (I:Inv X pins σ H s) (h:SqL X.K H a xs) (h':SqL X.K H a ys):xs=ys:=by
 obtain ⟨its,r,⟨o,n,e,_,_,d⟩,_⟩:=I.list h
 obtain ⟨its',r',⟨o',n',e',_,_,d'⟩,_⟩:=I.list h'
 rw [e] at e';cases e'
 rw [d] at d'
 injection d' with d1 _
 have:its=its':=by simpa using congrArg Array.toList d1
 subst this
 exact r.inj r'
theorem Inv.tuple_inj (I:Inv X pins σ H s) (h:SqT X.K H a xs) (h':SqT X.K H a ys):xs=ys:=by
 obtain ⟨its,r,⟨o,e,_,n,d⟩,_⟩:=I.tuple h
 obtain ⟨its',r',⟨o',e',_,n',d'⟩,_⟩:=I.tuple h'
 rw [e] at e';cases e'
 rw [d] at d'
 injection d' with d1 _
 have:its=its':=by simpa using congrArg Array.toList d1
 subst this
 exact r.inj r'
end
abbrev Cx.wish (X:Cx) (E:Value→Shared→Prop):Cx:={ X with xe:=E }
abbrev Cx.nox (X:Cx):Cx:=X.wish fun _ _=>False
theorem Cx.Ok.wish {X:Cx} (ok:X.Ok) (E:Value→Shared→Prop):(X.wish E).Ok :=
 ⟨ok.mod,ok.kind,ok.glob,ok.blt,ok.above,ok.inj,ok.has,ok.cab,ok.hd,ok.frames,ok.stk,ok.exf,ok.bs,ok.bsz,ok.noex,ok.exfs,ok.funs,ok.frf⟩
theorem Cx.Ok.unwish {X:Cx}{E:Value→Shared→Prop} (ok:(X.wish E).Ok):X.Ok :=
 ⟨ok.mod,ok.kind,ok.glob,ok.blt,ok.above,ok.inj,ok.has,ok.cab,ok.hd,ok.frames,ok.stk,ok.exf,ok.bs,ok.bsz,ok.noex,ok.exfs,ok.funs,ok.frf⟩
section
variable {X:Cx}{pins:List (Addr×Obj)}{σ:St}{H:Hp}{s:Shared}{E:Value→Shared→Prop}
theorem Inv.wish (I:Inv X pins σ H s) (E:Value→Shared→Prop):Inv (X.wish E) pins σ H s:=⟨I.ok.wish E,I.os,I.bare,I.base,I.loc,I.cell,I.free,I.freeC,I.pin,I.hok,I.len⟩
theorem Inv.unwish (I:Inv (X.wish E) pins σ H s):Inv X pins σ H s:=⟨I.ok.unwish,I.os,I.bare,I.base,I.loc,I.cell,I.free,I.freeC,I.pin,I.hok,I.len⟩
theorem SP.unwish {D:Ends}{f:Flow}{s':Shared} (h:SP (X.wish E) pins D f s'):SP X pins D f s':=by
 cases f with
 | next=>obtain ⟨σ',H',I,q⟩:=h;exact ⟨σ',H',I.unwish,q⟩
 | brk=>obtain ⟨σ',H',I,q⟩:=h;exact ⟨σ',H',I.unwish,q⟩
 | cont=>obtain ⟨σ',H',I,q⟩:=h;exact ⟨σ',H',I.unwish,q⟩
 | ret u=>obtain ⟨v,σ',H',I,r,q⟩:=h;exact ⟨v,σ',H',I.unwish,r,q⟩
theorem PSs.nox {st:List Stmt}{t:TS} (h:PSs X.nox st t):PSs X st t:=fun pins s σ H D I hw =>
 wpAny_mono (h pins s σ H D (I.wish _) hw) (fun _ _ q=>q.unwish) fun _ _ z=>False.elim z
end
section
variable {X:Cx}{st:Stmt}{rest:List Stmt}{t u:TS}{e:Expr}{te:TE}{pos:Pos}
def Ze7:TS:=fun D σ H=>D.nx σ H
def tSeq (t u:TS):TS:=fun D σ H=>t { D with nx:=u D } σ H
theorem Zx:PSs X [] Ze7:=fun _ _ σ H _ I h=>wpAny_execs_nil ⟨σ,H,I,h⟩
theorem Zb (h1:PS X st t) (h2:PSs X rest u):PSs X (st::rest) (tSeq t u):=by
 intro pins s σ H D I h
 refine wpAny_execs_cons (thn (h1 pins s σ H { D with nx:=u D } I h) fun f s1 q=>?_)
 cases f with
 | next =>
  obtain ⟨σ',H',I',q⟩:=q
  exact h2 pins s1 σ' H' D I' q
 | ret v=>exact q
 | brk=>exact q
 | cont=>exact q
theorem Zf (h1:PS X st t):PSs X [st] t:=by
 intro pins s σ H D I h
 refine wpAny_execs_cons (thn (h1 pins s σ H D I h) fun f s1 q=>?_)
 cases f with
 | next=>exact wpAny_execs_nil q
 | ret v=>exact q
 | brk=>exact q
 | cont=>exact q
def ZfP:TS:=fun D σ H=>D.bk σ H
theorem ZeE:PS X (.Break pos) ZfP:=fun _ _ σ H _ I h=>wpAny_Break ⟨σ,H,I,h⟩
theorem Inv.quiet {pins:List (Addr×Obj)}{σ:St}{H:Hp}{s:Shared} (I:Inv X pins σ H s):interactive X.env=false:=by simp [interactive,I.ok.kind]
def Ze8 (te:TE):TS:=fun D σ H=>te σ H fun _ H1=>D.nx σ H1
theorem Zy (he:PE X e te) (hs:swapsWith e none pos.line X.env=pure false:=by rfl):PS X (.Expr e pos) (Ze8 te):=by
 intro pins s σ H D I h
 exact wpAny_Expr_any (thn (he pins s σ H _ I h) fun v s1 ⟨x,H1,I1,r1,q1⟩=>⟨σ,H1,I1,q1⟩) I.quiet hs
def tRet (te:TE):TS:=fun D σ H=>te σ H D.rt
theorem Zs (he:PE X e te):PS X (.Return (some e) pos) (tRet te):=by
 intro pins s σ H D I h
 exact wpAny_Return_some (thn (he pins s σ H _ I h) fun v s1 ⟨x,H1,I1,r1,q1⟩=>⟨x,σ,H1,I1,r1,q1⟩)
def ZgW:TS:=fun D _ H=>D.rt .non H
def tIfS (c:TT) (t u:TS):TS:=fun D σ H=>c σ H fun b H1=>if b=true then t D σ H1 else u D σ H1
theorem Ye {c:Expr}{a b:List Stmt}{tc:TT} (hc:PT X c tc) (ha:PSs X a t) (hb:PSs X b u):PS X (.If c a b pos) (tIfS tc t u):=by
 intro pins s σ H D I h
 refine wpAny_If (thn (hc pins s σ H _ I h) fun d s1 ⟨H1,I1,q1⟩=>?_)
 cases d with
 | true=>exact ha pins s1 σ H1 D I1 q1
 | false=>exact hb pins s1 σ H1 D I1 q1
end
abbrev TG:=V→St→Hp→(St→Hp→Prop)→Prop
abbrev TGs:=List V→St→Hp→(St→Hp→Prop)→Prop
def PG (X:Cx) (target:Expr) (t:TG):Prop :=
 ∀ (pins:List (Addr×Obj)) (s:Shared) (σ:St) (H:Hp) (v:V) (u:Value) (Q:St→Hp→Prop),Inv X pins σ H s→RelV v u→t v σ H Q →
  wpAny (model X.prog X.w) X.A (assign target X.env u) (fun _ s'=>∃ σ' H',Inv X pins σ' H' s'∧Q σ' H') X.xe s
def PGs (X:Cx) (ts:List Expr) (t:TGs):Prop :=
 ∀ (pins:List (Addr×Obj)) (s:Shared) (σ:St) (H:Hp) (vs:List V) (us:List Value) (Q:St→Hp→Prop),Inv X pins σ H s→Vals vs us→t vs σ H Q →
  wpAny (model X.prog X.w) X.A (assignInOrder ((assignEach ts X.env).map (·.2)) us) (fun _ s'=>∃ σ' H',Inv X pins σ' H' s'∧Q σ' H') X.xe s
abbrev TSet:=V→V→V→Hp→(Hp→Prop)→Prop
def PSet (X:Cx) (t:TSet):Prop :=
 ∀ (pins:List (Addr×Obj)) (s:Shared) (σ:St) (H:Hp) (o i v:V) (ov iv u:Value) (Q:Hp→Prop),Inv X pins σ H s→RelV o ov→RelV i iv→RelV v u→t o i v H Q →
  wpAny (model X.prog X.w) X.A (setItem ov iv u) (fun _ s'=>∃ H',Inv X pins σ H' s'∧Q H') X.xe s
abbrev TIp:=V→V→Hp→VK→Prop
def PIp (X:Cx) (op:Operator) (t:TIp):Prop :=
 ∀ (pins:List (Addr×Obj)) (s:Shared) (σ:St) (H:Hp) (x y:V) (v u:Value) (Q:VK),Inv X pins σ H s→RelV x v→RelV y u→t x y H Q →
  wpAny (model X.prog X.w) X.A (inplaceOp op v u) (EP X pins σ Q) X.xe s
section
variable {X:Cx}{pos:Pos}
def Jt (i:Nat):TG:=fun v σ H Q=>Q (σ.set i (some v)) H
theorem Yl {i:Nat}{x:Str} (hN:X.N.Nodup) (hi:X.N[i]?=some x) (hx:Loc X.env.scope x) (hf:X.fn x=true∨X.env.scope.names.lookup x=some .local:=by first | exact .inl rfl | exact .inr rfl | assumption):PG X (.Name x pos) (Jt i):=by
 intro pins s σ H v u Q I r h
 exact wpAny_assign_Name (Zar I hN hi hx r (fun s' I'=>⟨_,H,I',h⟩) hf)
def gNil:TGs:=fun vs σ H Q=>vs=[]∧Q σ H
def Zgv (t:TG) (u:TGs):TGs:=fun vs σ H Q=>∃ v r,vs=v::r∧t v σ H fun σ' H'=>u r σ' H' Q
theorem Zih:PGs X [] gNil:=by
 intro pins s σ H vs us Q I r h
 obtain ⟨e,h⟩:=h
 subst e
 cases r
 exact assignInOrder_nil ⟨σ,H,I,h⟩
theorem ZeI {e:Expr}{es:List Expr}{t:TG}{u:TGs} (h1:PG X e t) (h2:PGs X es u)
  (hs:(assignEach (e::es) X.env).map (·.2)=assign e X.env::(assignEach es X.env).map (·.2):=by rfl):PGs X (e::es) (Zgv t u):=by
 intro pins s σ H vs us Q I r h
 obtain ⟨v,vr,e1,h⟩:=h
 subst e1
 cases r with
 | cons r rr =>
  rw [hs]
  refine assignInOrder_cons (thn (h1 pins s σ H _ _ _ I r h) fun _ s1 ⟨σ1,H1,I1,q1⟩=>?_)
  exact h2 pins s1 σ1 H1 _ _ Q I1 rr q1
def gTup (K:PySem.W.Frag) (n:Nat) (t:TGs):TG:=fun v σ H Q=>∃ a xs,v=.ref a∧SqT K H a xs∧xs.length=n∧t xs σ H Q
theorem Zi7 {es:List Expr}{k:Nat}{t:TGs}{n:Nat} (hc:X.calm=true) (h:PGs X es t)
  (hn:(assignEach es X.env).length=n:=by rfl) (hst:(assignEach es X.env).findIdx? (·.1)=none:=by rfl):PG X (.Tuple es k pos) (gTup X.K n t):=by
 intro pins s σ H v u Q I r hw
 obtain ⟨a,xs,e1,hq,hl,hw⟩:=hw
 subst e1
 cases r
 obtain ⟨its,rv,ht,hz⟩:=I.tuple hq
 refine assign_Tuple_tuple (I.ok.hd hc) ht (by simp [hn,← hl,rv.length]) hst fun h' hx=>?_
 have I1:Inv X pins σ H { s with heap:=h' }:=I.kept (t':=s.toks) fun b o e=>hx b o (Nat.ne_of_lt (Heap.lt_size e)) e
 exact h pins _ σ H xs _ Q I1 (by simpa using rv) hw
def gSub (to ti:TE) (t:TSet):TG:=fun v σ H Q=>to σ H fun o H1=>ti σ H1 fun i H2=>t o i v H2 fun H3=>Q σ H3
theorem ZhP {o i:Expr}{to ti:TE}{t:TSet} (ho:PE X o to) (hi:PE X i ti) (hs:PSet X t)
  (ha:∀ v,assign (.Subscript o i pos) X.env v=(do
   let ov ← holding [v] (eval o X.env)
   let iv ← holding [v,ov] (eval i X.env)
   standAt pos
   holding [v,ov,iv] (setItem ov iv v)
   release [v,ov,iv] []):=by intro _;rfl):PG X (.Subscript o i pos) (gSub to ti t):=by
 intro pins s σ H v u Q I r h
 rw [ha]
 refine wpAny_bind (wpAny_holding (thn (ho pins s σ H _ I h) fun ov s1 ⟨x,H1,I1,r1,q1⟩=>?_))
 refine wpAny_bind (wpAny_holding (thn (hi pins s1 σ H1 _ I1 q1) fun iv s2 ⟨y,H2,I2,r2,q2⟩=>?_))
 refine wpAny_bind (wpAny_standAt (wpAny_bind (wpAny_holding (thn (hs pins s2 σ H2 x y v ov iv u _ I2 r1 r2 r q2) fun _ s3 ⟨H3,I3,q3⟩=>?_))))
 exact wpAny_release ⟨σ,H3,I3,q3⟩
def tAsg (te:TE) (g:TG):TS:=fun D σ H=>te σ H fun x H1=>g x σ H1 D.nx
theorem ZhO {tg e:Expr}{te:TE}{g:TG} (he:PE X e te) (hg:PG X tg g) (hs:swapsWithSole [tg] e pos.line X.env=pure false:=by rfl) (hw:swappedStores [tg] e X.env=pure none:=by rfl)
  (h1:(assignEach [tg] X.env).map (·.2)=[assign tg X.env]:=by rfl):PS X (.Assign [tg] e pos) (tAsg te g):=by
 intro pins s σ H D I h
 refine wpAny_Assign_stores (thn (he pins s σ H _ I h) fun v s1 ⟨x,H1,I1,r1,q1⟩=>?_) hs hw
 rw [h1]
 exact thn (hg pins s1 σ H1 x v _ I1 r1 q1) fun _ s2 q=>q
theorem Zo {i:Nat}{x:Str}{e:Expr}{te:TE}{pos':Pos} (hN:X.N.Nodup) (hi:X.N[i]?=some x) (hx:Loc X.env.scope x) (he:PE X e te) (hs:swapsWith e (some (.Name x pos')) pos.line X.env=pure false:=by rfl) (hf:X.fn x=true∨X.env.scope.names.lookup x=some .local:=by first | exact .inl rfl | exact .inr rfl | assumption) :
  PS X (.Assign [.Name x pos'] e pos) (tAsg te (Jt i)):=by
 intro pins s σ H D I h
 refine wpAny_Assign_Name (thn (he pins s σ H _ I h) fun v s1 ⟨y,H1,I1,r1,q1⟩=>?_) hs
 exact Zar I1 hN hi hx r1 (fun s2 I2=>⟨_,H1,I2,q1⟩) hf
def tAug (i:Nat) (te:TE) (ti:TIp):TS:=fun D σ H=>∃ x,σ[i]?=some (some x)∧te σ H fun y H1=>ti x y H1 fun z H2=>D.nx (σ.set i (some z)) H2
theorem Ur {i:Nat}{x:Str}{e:Expr}{te:TE}{op:Operator}{ti:TIp}{pos':Pos} (hN:X.N.Nodup) (hi:X.N[i]?=some x) (hx:Loc X.env.scope x) (he:PE X e te) (ho:PIp X op ti) (hf:X.fn x=true∨X.env.scope.names.lookup x=some .local:=by first | exact .inl rfl | exact .inr rfl | assumption) :
  PS X (.AugAssign (.Name x pos') op e pos) (tAug i te ti):=by
 intro pins s σ H D I h
 obtain ⟨v,e1,h⟩:=h
 obtain ⟨m,hn,hl⟩:=I.loc
 have vis:Vis X.env.scope x:=by rcases hx with k | k;exact .inl k;exact .inr (.inl k)
 obtain ⟨u,r,l⟩:=hl i x v hi e1 vis
 refine wpAny_AugAssign_Name ?_
 have go:wpAny (model X.prog X.w) X.A (eval e X.env) (fun w s₂=>wpAny (model X.prog X.w) X.A (inplaceOp op u w) (fun r s₃=>wpAny (model X.prog X.w) X.A (storeName X.env x r) (fun _=>SP X pins D .next) X.xe s₃) X.xe s₂) X.xe s:=by
  refine thn (he pins s σ H _ I h) fun w s1 ⟨y,H1,I1,r1,q1⟩=>?_
  refine thn (ho pins s1 σ H1 v y u w _ I1 r r1 q1) fun z s2 ⟨zv,H2,I2,r2,q2⟩=>?_
  exact Zar I2 hN hi hx r2 (fun s3 I3=>⟨_,H2,I3,q2⟩) hf
 rcases l with ⟨hk,hm⟩ | ⟨hk,c,hc,hcell⟩
 ·exact wpAny_loadName_local I.ok.kind hk hn hm go
 ·rcases hk with hk | hk
  ·exact wpAny_loadName_cell I.ok.kind hk hc hcell go
  ·rcases hx with k | k
   ·have:X.env.scope.names.lookup x=some .free:=hk
    rw [k] at this;cases this
   ·have:X.env.scope.names.lookup x=some .free:=hk
    rw [k] at this;cases this
def ipI (f:Int→Int→Int):TIp:=fun x y H Q=>∃ i j,x=.int i∧y=.int j∧Q (.int (f i j)) H
theorem Jq:PIp X .Add (ipI fun i j=>i+j):=by
 intro pins s σ H x y v u Q I r1 r2 h
 obtain ⟨i,j,e1,e2,q⟩:=h
 subst e1;subst e2
 obtain ⟨t,rfl⟩:=r1
 obtain ⟨t',rfl⟩:=r2
 exact iadd_int ⟨.int _,H,I.tok _,⟨_,rfl⟩,q⟩
theorem Zjn:PIp X .Sub (ipI fun i j=>i-j):=by
 intro pins s σ H x y v u Q I r1 r2 h
 obtain ⟨i,j,e1,e2,q⟩:=h
 subst e1;subst e2
 obtain ⟨t,rfl⟩:=r1
 obtain ⟨t',rfl⟩:=r2
 exact isub_int ⟨.int _,H,I.tok _,⟨_,rfl⟩,q⟩
end
section
variable {X:Cx}{pos:Pos}
def ZiY (c:TT) (tb:TS):TS:=fun D σ H=>∃ W:Nat→St→Hp→Prop,(∃ m,W m σ H)∧∀ m σ H,W m σ H →
 c σ H fun b H1=>if b=true then ∃ N:St→Hp→Prop,(∀ σ' H',N σ' H'→∃ m',m' < m∧W m' σ' H')∧tb { D with nx:=N,ct:=N,bk:=D.nx } σ H1 else D.nx σ H1
theorem Yu {c:Expr}{body:List Stmt}{tc:TT}{tb:TS} (hp:PassesOwn (model X.prog X.w) X.A X.env X.xe) (hc:PT X c tc) (hb:PSs X body tb):PS X (.While c body [] pos) (ZiY tc tb):=by
 intro pins s σ H D I h
 obtain ⟨W,⟨m0,w0⟩,turn⟩:=h
 refine wpAny_While (codeAny_whileLoop (fun n s'=>∃ σ' H',Inv X pins σ' H' s'∧W n σ' H') ?_ m0 ⟨σ,H,I,w0⟩)
 rintro n s1 ⟨σ1,H1,I1,w1⟩
 refine wpAny_passesOwn hp (thn (hc pins s1 σ1 H1 _ I1 (turn n σ1 H1 w1)) fun b s2 ⟨H2,I2,q2⟩=>?_)
 cases b with
 | true =>
  obtain ⟨N,hN,q2⟩:=q2
  rw [if_pos rfl]
  refine wpAny_passesOwn hp (thn (hb pins s2 σ1 H2 _ I2 q2) fun f s3 q3=>?_)
  cases f with
  | next =>
   obtain ⟨σ3,H3,I3,n3⟩:=q3
   obtain ⟨m',hm,w3⟩:=hN σ3 H3 n3
   exact ⟨m',hm,σ3,H3,I3,w3⟩
  | cont =>
   obtain ⟨σ3,H3,I3,n3⟩:=q3
   obtain ⟨m',hm,w3⟩:=hN σ3 H3 n3
   exact ⟨m',hm,σ3,H3,I3,w3⟩
  | brk=>exact q3
  | ret v=>exact q3
 | false =>
  rw [if_neg Bool.false_ne_true]
  exact wpAny_execs_nil ⟨σ1,H2,I2,q2⟩
end
structure It where
 go:Nat→Hp→Prop
 yld:Nat→Hp→V→Hp→Prop
 stop:Nat→Hp→Prop
def FpOk (X:Cx) (pins:List (Addr×Obj)) (H:Hp) (b:Addr):Prop :=
 H b=none∧b≠X.env.locals∧b ∉ X.fs∧(b∈X.ex∨X.s_0.heap.objs.size≤b)∧(∀ x c,X.env.cells.lookup x=some c→c≠b)∧∀ p∈X.pn++pins,p.1≠b
theorem Inv.fpOk {X:Cx}{pins:List (Addr×Obj)}{σ:St}{H H':Hp}{s:Shared}{b:Addr} (I:Inv X pins σ H s) (hb:s.heap.objs.size≤b) (hn:H' b=none):FpOk X pins H' b:=by
 refine ⟨hn,Nat.ne_of_gt (Nat.lt_of_lt_of_le I.lt hb),I.nofs hb,.inr (Nat.le_trans I.sz hb),fun x c e z=>?_,fun p hp z=>?_⟩
 ·obtain ⟨v,q⟩:=I.cell x c e
  exact absurd (Nat.lt_of_lt_of_le q.lt (by rw [z];exact hb)) (Nat.lt_irrefl _)
 ·exact absurd (Nat.lt_of_lt_of_le (Heap.lt_size (I.pin p hp).1) (by rw [z];exact hb)) (Nat.lt_irrefl _)
structure Turn (P:Program) (w:World) (K:PySem.W.Frag) (tg:Expr) (J:It) (fp:List Addr) (it:Addr) (tn:Nat→Heap→Prop):Prop where
 mem:it∈fp
 obj:∀ i h,tn i h→∀ b∈fp,∃ o,h.get? b=some o∧∀ v,o.data≠.cell v
 keep:∀ i h h',tn i h→(∀ b∈fp,∀ o,h.get? b=some o→h'.get? b=some o)→tn i h'
 item:∀ (X:Cx),X.prog=P→X.w=w→X.K=K→X.calm=true→∀ (i:Nat) (pins:List (Addr×Obj)) (s:Shared) (σ:St) (H:Hp) (E:Value→Shared→Prop),Inv X pins σ H s→(∀ b∈fp,FpOk X pins H b)→tn i s.heap→J.go i H →
  wpAny (model P w) X.A (pyNext (.ref it)) (fun r s1=>∃ u,r=some u ∧
   wpAny (model P w) X.A (letOwnedTupleGo tg (.ref it) u) (fun _ s2=>∃ x H',Inv X pins σ H' s2∧RelV x u∧J.yld i H x H'∧tn (i+1) s2.heap∧∀ b∈fp,H' b=none) E s1) E s
 done:∀ (X:Cx),X.prog=P→X.w=w→X.K=K→X.calm=true→∀ (i:Nat) (pins:List (Addr×Obj)) (s:Shared) (σ:St) (H:Hp) (E:Value→Shared→Prop),Inv X pins σ H s→(∀ b∈fp,FpOk X pins H b)→tn i s.heap→J.stop i H →
  wpAny (model P w) X.A (pyNext (.ref it)) (fun r s1=>r=none∧Inv X pins σ H s1) E s
 self:∀ (A:Around) (i:Nat) (s:Shared) (Q:Value→Shared→Prop) (E:Value→Shared→Prop),tn i s.heap→Q (.ref it) s→wpAny (model P w) A (pyIter (.ref it)) Q E s
abbrev TI:=St→Hp→(It→Hp→Prop)→Prop
def PIE (X:Cx) (pins:List (Addr×Obj)) (σ:St) (tg:Expr) (R:It→Hp→Prop) (itv:Value) (s2:Shared):Prop :=
 ∃ (it:Addr) (fp:List Addr) (tn:Nat→Heap→Prop) (J:It) (H':Hp),itv=.ref it∧Inv X pins σ H' s2∧Turn X.prog X.w X.K tg J fp it tn∧tn 0 s2.heap∧(∀ b∈fp,FpOk X pins H' b)∧R J H'
def PI (X:Cx) (tg iter:Expr) (wi:TI):Prop :=
 ∀ (pins:List (Addr×Obj)) (s:Shared) (σ:St) (H:Hp) (R:It→Hp→Prop),Inv X pins σ H s→wi σ H R →
  wpAny (model X.prog X.w) X.A (eval iter X.env) (fun v s1=>wpAny (model X.prog X.w) X.A (pyIter v) (PIE X pins σ tg R) X.xe s1) X.xe s
theorem Zgs {M:Model}{A:Around}{E:Value→Shared→Prop}{s:Shared}{tg:Expr}{it:Addr}{u:Value}{o:Obj}{n:String}{vs:Array Value}{Q:Unit→Shared→Prop} (ho:s.heap.get? it=some o) (hc:o.cls=.type n) (hd:o.data=.fields vs)
    (hn:["enumerate","zip","dict_itemiterator","dict_reverseitemiterator","odict_iterator","itertools.zip_longest","itertools.pairwise"].contains n=false) (hQ:Q () s):wpAny M A (letOwnedTupleGo tg (.ref it) u) Q E s:=by
  unfold letOwnedTupleGo
  cases tg <;> first
    | exact wpAny_pure hQ
    | (cases u <;> first
        | exact wpAny_pure hQ
        | (refine wpAny_bind (wpAny_load ho ?_)
           rw [hc,hd]
           show wpAny M A (if (["enumerate","zip","dict_itemiterator","dict_reverseitemiterator","odict_iterator","itertools.zip_longest","itertools.pairwise"].contains n && vs[0]?==some (rawInt _))=true then _ else _) Q E s
           rw [if_neg (by intro h;rw [hn,Bool.false_and] at h;cases h)]
           exact wpAny_pure hQ))
def Itl (K:PySem.W.Frag) (a:Addr):It :=
 ⟨fun i H=>∃ xs x,SqL K H a xs∧xs[i]?=some x,fun i H x H'=>H'=H∧∀ xs,SqL K H a xs→xs[i]?=some x,fun i H=>∃ xs,SqL K H a xs∧xs.length≤i⟩
def Itt (K:PySem.W.Frag) (a:Addr):It :=
 ⟨fun i H=>∃ xs x,SqT K H a xs∧xs[i]?=some x,fun i H x H'=>H'=H∧∀ xs,SqT K H a xs→xs[i]?=some x,fun i H=>∃ xs,SqT K H a xs∧xs.length≤i⟩
def Itr (lo:Int) (n:Nat):It:=⟨fun i _=>i<n,fun i H x H'=>H'=H∧x=.int (lo+i),fun i _=>n≤i⟩
theorem ZfG {P:Program}{w:World}{K:PySem.W.Frag}{tg:Expr} (a it:Addr):Turn P w K tg (Itl K a) [it] it (fun i h=>h.IsListIter it a i) where
 mem:=by simp
 obj:=fun i h st b hb=>by
  have e:b=it:=by simpa using hb
  subst e
  obtain ⟨o,e,c,d⟩:=st
  exact ⟨o,e,fun v z=>by rw [d] at z;cases z⟩
 keep:=fun i h h' st k=>st.at fun o e=>k it (by simp) o e
 item:=by
  intro X hP hw hK hc i pins s σ H E I hf st hg
  subst hP hw hK
  obtain ⟨xs,x,hq,hx⟩:=hg
  obtain ⟨its,rv,p,hz⟩:=I.list hq
  obtain ⟨u,hu,ru⟩:=rv.get hx
  obtain ⟨f0,f1,f2,f3,f4,f5⟩:=hf it (by simp)
  refine wpAny_pyNext_list_item st p.isList (x:=u) (by simpa using hu) fun h' st' sb=>?_
  have I1:Inv X pins σ H { s with heap:=h' }:=I.turned (t':=s.toks) (fun b o hb e=>(sb.2 b hb).trans e) f0 f1 f3 f4 f5
  obtain ⟨o,e,c,d⟩:=id st'
  exact ⟨u,rfl,Zgs (s:={ s with heap:=h' }) e c d (by decide) ⟨x,H,I1,ru,⟨rfl,fun ys hy=>by rw [I.list_inj hy hq];exact hx⟩,st',fun b hb=>(hf b hb).1⟩⟩
 done:=by
  intro X hP hw hK hc i pins s σ H E I hf st hg
  subst hP hw hK
  obtain ⟨xs,hq,hx⟩:=hg
  obtain ⟨its,rv,p,hz⟩:=I.list hq
  obtain ⟨f0,f1,f2,f3,f4,f5⟩:=hf it (by simp)
  have hl:=rv.length
  exact wpAny_pyNext_list_end (I.ok.hd hc) st p.isList (by simp;omega) fun h' eb=>⟨rfl,I.turned (t':=s.toks) (fun b o hb e=>eb b o hb e) f0 f1 f3 f4 f5⟩
 self:=fun _ _ _ _ _ st h=>wpAny_pyIter_listiter st h
theorem Ze3 {P:Program}{w:World}{K:PySem.W.Frag}{tg:Expr} (a it:Addr):Turn P w K tg (Itt K a) [it] it (fun i h=>h.IsTupleIter it a i) where
 mem:=by simp
 obj:=fun i h st b hb=>by
  have e:b=it:=by simpa using hb
  subst e
  obtain ⟨o,e,c,d⟩:=st
  exact ⟨o,e,fun v z=>by rw [d] at z;cases z⟩
 keep:=fun i h h' st k=>st.at fun o e=>k it (by simp) o e
 item:=by
  intro X hP hw hK hc i pins s σ H E I hf st hg
  subst hP hw hK
  obtain ⟨xs,x,hq,hx⟩:=hg
  obtain ⟨its,rv,p,hz⟩:=I.tuple hq
  obtain ⟨u,hu,ru⟩:=rv.get hx
  obtain ⟨f0,f1,f2,f3,f4,f5⟩:=hf it (by simp)
  refine wpAny_pyNext_tuple_item st (show s.heap.IsTuple a its.toArray from p) (x:=u) (by simpa using hu) fun h' st' sb=>?_
  have I1:Inv X pins σ H { s with heap:=h' }:=I.turned (t':=s.toks) (fun b o hb e=>(sb.2 b hb).trans e) f0 f1 f3 f4 f5
  obtain ⟨o,e,c,d⟩:=id st'
  exact ⟨u,rfl,Zgs (s:={ s with heap:=h' }) e c d (by decide) ⟨x,H,I1,ru,⟨rfl,fun ys hy=>by rw [I.tuple_inj hy hq];exact hx⟩,st',fun b hb=>(hf b hb).1⟩⟩
 done:=by
  intro X hP hw hK hc i pins s σ H E I hf st hg
  subst hP hw hK
  obtain ⟨xs,hq,hx⟩:=hg
  obtain ⟨its,rv,p,hz⟩:=I.tuple hq
  obtain ⟨f0,f1,f2,f3,f4,f5⟩:=hf it (by simp)
  have hl:=rv.length
  exact wpAny_pyNext_tuple_end (I.ok.hd hc) st (show s.heap.IsTuple a its.toArray from p) (by simp;omega) fun h' eb=>⟨rfl,I.turned (t':=s.toks) (fun b o hb e=>eb b o hb e) f0 f1 f3 f4 f5⟩
 self:=fun _ _ _ _ _ st h=>wpAny_pyIter_tupleiter st h
theorem Ze4 {P:Program}{w:World}{K:PySem.W.Frag}{tg:Expr} (it:Addr) (lo:Int) (n:Nat):Turn P w K tg (Itr lo n) [it] it (fun i h=>IsRangeIter h it (lo+(i:Nat) * 1) ((n:Int)-(i:Nat)) 1) where
 mem:=by simp
 obj:=fun i h st b hb=>by
  have e:b=it:=by simpa using hb
  subst e
  exact ⟨_,st,fun v z=>by
   have z':Data.fields _=Data.cell v:=z
   cases z'⟩
 keep:=fun i h h' st k=>k it (by simp) _ st
 item:=by
  intro X hP hw hK hc i pins s σ H E I hf st hg
  subst hP hw hK
  obtain ⟨f0,f1,f2,f3,f4,f5⟩:=hf it (by simp)
  have W:=Walks.range (prog:=X.prog) (w:=X.w) (I.ok.hd hc) it lo 1 n
  refine W.item i s _ _ hg st fun v h' tk hv st' kk=>?_
  obtain ⟨t,rfl⟩:=hv
  have I1:Inv X pins σ H { s with heap:=h',toks:=tk }:=I.turned (fun b o hb e=>kk b o (by simpa using hb) e) f0 f1 f3 f4 f5
  refine ⟨_,rfl,Zgs (s:={ s with heap:=h',toks:=tk }) (n:="range_iterator") st' rfl rfl (by decide) ⟨.int (lo+i),H,I1,⟨t,?_⟩,⟨rfl,rfl⟩,st',fun b hb=>(hf b hb).1⟩⟩
  rw [Int.mul_one]
 done:=by
  intro X hP hw hK hc i pins s σ H E I hf st hg
  subst hP hw hK
  obtain ⟨f0,f1,f2,f3,f4,f5⟩:=hf it (by simp)
  exact wpAny_pyNext_range_end (I.ok.hd hc) st (by have:n≤i:=hg;omega) fun h' eb=>⟨rfl,I.turned (t':=s.toks) (fun b o hb e=>eb b o hb e) f0 f1 f3 f4 f5⟩
 self:=fun _ _ _ _ _ st h=>wpAny_pyIter_rangeiter st h
end L2
namespace L2
open PySem PySem.Spec PyProof.Rows
section
variable {X:Cx}{tg:Expr}
def Zj1 (K:PySem.W.Frag) (tl:TE):TI:=fun σ H R=>tl σ H fun x H1=>∃ a,x=.ref a∧(∃ xs,SqL K H1 a xs)∧R (Itl K a) H1
def iTup (K:PySem.W.Frag) (tl:TE):TI:=fun σ H R=>tl σ H fun x H1=>∃ a,x=.ref a∧(∃ xs,SqT K H1 a xs)∧R (Itt K a) H1
theorem VI {l:Expr}{tl:TE} (hl:PE X l tl):PI X tg l (Zj1 X.K tl):=by
 intro pins s σ H R I h
 refine thn (hl pins s σ H _ I h) fun v s1 ⟨x,H1,I1,r1,q1⟩=>?_
 obtain ⟨a,e,⟨xs,hq⟩,q⟩:=q1
 subst e
 cases r1
 obtain ⟨its,rv,p,hz⟩:=I1.list hq
 refine wpAny_pyIter_list p.isList ?_
 refine ⟨s1.heap.objs.size,[s1.heap.objs.size],_,_,H1,rfl,I1.kept (t':=s1.toks) fun b o e=>Heap.get?_push_of_some _ e,ZfG a _,⟨_,Heap.get?_push_size _ rfl,rfl,rfl⟩,fun b hb=>?_,q⟩
 have e:b=s1.heap.objs.size:=by simpa using hb
 subst e
 exact I1.fpOk (Nat.le_refl _) (I1.hok.fresh (Nat.le_refl _))
theorem Zi5 {l:Expr}{tl:TE} (hl:PE X l tl):PI X tg l (iTup X.K tl):=by
 intro pins s σ H R I h
 refine thn (hl pins s σ H _ I h) fun v s1 ⟨x,H1,I1,r1,q1⟩=>?_
 obtain ⟨a,e,⟨xs,hq⟩,q⟩:=q1
 subst e
 cases r1
 obtain ⟨its,rv,p,hz⟩:=I1.tuple hq
 refine wpAny_pyIter_tuple (show s1.heap.IsTuple a its.toArray from p) ?_
 refine ⟨s1.heap.objs.size,[s1.heap.objs.size],_,_,H1,rfl,I1.kept (t':=s1.toks) fun b o e=>Heap.get?_push_of_some _ e,Ze3 a _,⟨_,Heap.get?_push_size _ rfl,rfl,rfl⟩,fun b hb=>?_,q⟩
 have e:b=s1.heap.objs.size:=by simpa using hb
 subst e
 exact I1.fpOk (Nat.le_refl _) (I1.hok.fresh (Nat.le_refl _))
theorem ZeD {pins:List (Addr×Obj)}{σ:St}{H:Hp}{s:Shared}{R:It→Hp→Prop}{E:Value→Shared→Prop}{lo hi:Int}{t u v:Tok}{tk:Nat} (I:Inv X pins σ H s) (h1:-(2 ^ 62)≤lo) (h2:lo<2 ^ 62) (h3:-(2 ^ 62)≤hi) (h4:hi<2 ^ 62)
  (q:R (Itr lo (hi-lo).toNat) H):wpAny (model X.prog X.w) X.A (pyIter (.ref s.heap.objs.size)) (PIE X pins σ tg R) E { s with heap:=s.heap.push { cls:=.type "range",data:=.fields #[.int lo t,.int hi u,.int 1 v] },toks:=tk }:=by
 refine wpAny_pyIter_range (IsRange.new ..) (small_one h1 h2 h3 h4) ?_
 have I1:Inv X pins σ H { s with heap:=s.heap.push { cls:=.type "range",data:=.fields #[.int lo t,.int hi u,.int 1 v] },toks:=tk }:=I.kept fun b o e=>Heap.get?_push_of_some _ e
 refine ⟨(s.heap.push { cls:=.type "range",data:=.fields #[.int lo t,.int hi u,.int 1 v] }).objs.size,[(s.heap.push { cls:=.type "range",data:=.fields #[.int lo t,.int hi u,.int 1 v] }).objs.size],_,_,H,rfl,
  I1.kept (t':=tk) fun b o e=>Heap.get?_push_of_some _ e,Ze4 _ lo (hi-lo).toNat,?_,fun b hb=>?_,q⟩
 ·have e1:lo+((0:Nat):Int) * 1=lo:=by simp
  have e2:(((hi-lo).toNat:Nat):Int)-((0:Nat):Int)=Builtin.Range.rangeSize lo hi 1:=by rw [rangeSize_one];split <;> omega
  show IsRangeIter _ _ (lo+((0:Nat):Int) * 1) ((((hi-lo).toNat:Nat):Int)-((0:Nat):Int)) 1
  rw [e1,e2]
  exact Heap.get?_push_size _ rfl
 ·have e:b=(s.heap.push { cls:=.type "range",data:=.fields #[.int lo t,.int hi u,.int 1 v] }).objs.size:=by simpa using hb
  subst e
  exact I1.fpOk (Nat.le_refl _) (I1.hok.fresh (Nat.le_refl _))
def Zj0 (ta:TA):TI:=fun σ H R=>ta σ H fun vs H1=>∃ j:Int,vs=[.int j]∧-(2 ^ 62)≤j∧j<2 ^ 62∧R (Itr 0 j.toNat) H1
def ZjZ (ta:TA):TI:=fun σ H R=>ta σ H fun vs H1=>∃ i j:Int,vs=[.int i,.int j]∧(-(2 ^ 62)≤i∧i<2 ^ 62∧-(2 ^ 62)≤j∧j<2 ^ 62)∧R (Itr i (j-i).toNat) H1
theorem ZaT {a:Expr}{ta:TA}{p pos:Pos} (hg:Gl X "range") (hm:X.mg "range"=none) (ha:PA X [a] ta) (hs:starEach [a] X.env=[(false,eval a X.env)]:=by rfl):PI X tg (.Call (.Name "range" p) [a] [] pos) (Zj0 ta):=by
 intro pins s σ H R I h
 refine Call_ (ZbN I hg hm boot_range (PyProof.Rows.callWith_type1 (thn (ha pos pins s σ H _ I h) fun us s1 ⟨vs,H1,I1,r1,q1⟩=>?_) hs rfl))
 obtain ⟨j,e,q1,q2,q⟩:=q1
 subst e
 cases r1 with
 | cons r rr =>
  cases rr
  obtain ⟨t,rfl⟩:=r
  exact call_range_1 (ZeD I1 (by omega) (by omega) q1 q2 (by simpa using q))
theorem Jd {a b:Expr}{ta:TA}{p pos:Pos} (hg:Gl X "range") (hm:X.mg "range"=none) (ha:PA X [a,b] ta) (hs:starEach [a,b] X.env=[(false,eval a X.env),(false,eval b X.env)]:=by rfl) (hs2:starEach [b] X.env=[(false,eval b X.env)]:=by rfl) :
  PI X tg (.Call (.Name "range" p) [a,b] [] pos) (ZjZ ta):=by
 intro pins s σ H R I h
 refine Call_ (ZbN I hg hm boot_range (PyProof.Rows.callWith_type1 (thn (ha pos pins s σ H _ I h) fun us s1 ⟨vs,H1,I1,r1,q1⟩=>?_) (by rw [hs,hs2]) (by rw [hs2];rfl)))
 obtain ⟨i,j,e,⟨q1,q2,q3,q4⟩,q⟩:=q1
 subst e
 cases r1 with
 | cons r rr =>
  cases rr with
  | cons r' rr =>
   cases rr
   obtain ⟨t,rfl⟩:=r
   obtain ⟨t',rfl⟩:=r'
   exact call_range_2 (ZeD I1 q1 q2 q3 q4 q)
def tFor (wi:TI) (g:TG) (tb:TS):TS:=fun D σ H=>wi σ H fun J H1=>∃ W:Nat→Nat→St→Hp→Prop,(∃ m,W 0 m σ H1)∧∀ i m σ H,W i m σ H →
 (J.stop i H∧D.nx σ H)∨(J.go i H∧∃ N:St→Hp→Prop,(∀ σ' H',N σ' H'→∃ m',m' < m∧W (i+1) m' σ' H')∧∀ x H',J.yld i H x H'→g x σ H' fun σ2 H2=>tb { D with nx:=N,ct:=N,bk:=D.nx } σ2 H2)
def Zc4 (fp:List Addr) (h:Heap):List (Addr×Obj):=fp.filterMap fun b=>(h.get? b).map fun o=>(b,o)
theorem JR {fp:List Addr}{h:Heap}{b:Addr}{o:Obj} (hb:b∈fp) (e:h.get? b=some o):(b,o)∈Zc4 fp h:=List.mem_filterMap.mpr ⟨b,hb,by rw [e];rfl⟩
theorem Zga {fp:List Addr}{h:Heap}{p:Addr×Obj} (hp:p∈Zc4 fp h):p.1∈fp∧h.get? p.1=some p.2:=by
 obtain ⟨b,hb,e⟩:=List.mem_filterMap.mp hp
 cases q:h.get? b with
 | none=>rw [q] at e;cases e
 | some o =>
  rw [q] at e
  have e':(b,o)=p:=Option.some.inj e
  subst e'
  exact ⟨hb,q⟩
theorem Inv.pinned {pins:List (Addr×Obj)}{σ:St}{H:Hp}{s:Shared}{fp:List Addr} (I:Inv X pins σ H s) (hf:∀ b∈fp,FpOk X pins H b) (ho:∀ b∈fp,∃ o,s.heap.get? b=some o∧∀ v,o.data≠.cell v):Inv X (pins++Zc4 fp s.heap) σ H s :=
 I.pins_of fun p hp=>(List.mem_append.mp hp).elim (fun z=>I.pin p (List.mem_append_right _ z)) fun z=>by
  obtain ⟨hb,e⟩:=Zga z
  obtain ⟨f0,f1,f2,_⟩:=hf p.1 hb
  obtain ⟨o,e',d⟩:=ho p.1 hb
  rw [e] at e';cases e'
  exact ⟨e,f0,f1,f2,d⟩
theorem Inv.unpinned {pins pl:List (Addr×Obj)}{σ:St}{H:Hp}{s:Shared} (I:Inv X (pins++pl) σ H s):Inv X pins σ H s:=I.pins_of fun p hp=>I.pin p (List.mem_append_right _ (List.mem_append_left _ hp))
theorem VF {iter:Expr}{body:List Stmt}{wi:TI}{g:TG}{tb:TS}{pos:Pos} (hp:PassesOwn (model X.prog X.w) X.A X.env X.xe) (hc:X.calm=true) (hi:PI X tg iter wi) (hg:PG X tg g) (hb:PSs X body tb)
  (hs:∀ x,foldedSetIterable iter X.env x=pure x:=by intro _;rfl):PS X (.For tg iter body [] pos) (tFor wi g tb):=by
 intro pins s σ H D I h
 refine wpAny_For (thn (hi pins s σ H _ I h) fun v s1 h1=>thn h1 fun itv s2 h2=>?_) hs
 obtain ⟨it,fp,tn,J,H2,e,I2,T,st2,f2,W,⟨m0,w0⟩,turn⟩:=h2
 subst e
 -- what stays true of the iterator's objects through the loop
 have stat:∀ {H':Hp},(∀ b∈fp,H' b=none)→∀ b∈fp,FpOk X pins H' b:=fun hn b hb=>⟨hn b hb,(f2 b hb).2⟩
 refine codeAny_forLoop_any (fun n s'=>∃ i σ' H',Inv X pins σ' H' s'∧tn i s'.heap∧(∀ b∈fp,H' b=none)∧W i n σ' H') ?_ m0 ⟨0,σ,H2,I2,st2,fun b hb=>(f2 b hb).1,w0⟩
 rintro n s3 ⟨i,σ3,H3,I3,st3,fr3,w3⟩
 rcases turn i n σ3 H3 w3 with ⟨stop,qn⟩ | ⟨go,N,hN,step⟩
 ·refine wpAny_passesOwn hp (thn (T.done X rfl rfl rfl hc i pins s3 σ3 H3 X.xe I3 (stat fr3) st3 stop) fun r s4 ⟨hr,I4⟩=>?_)
  subst hr
  exact wpAny_execs_nil ⟨σ3,H3,I4,qn⟩
 ·refine wpAny_passesOwn hp (thn (T.item X rfl rfl rfl hc i pins s3 σ3 H3 X.xe I3 (stat fr3) st3 go) fun r s4 ⟨u,hr,h4⟩=>?_)
  subst hr
  refine wpAny_passesOwn hp (thn h4 fun _ s5 ⟨x,H5,I5,r5,y5,st5,fr5⟩=>?_)
  have I5':=I5.pinned (stat fr5) (T.obj _ _ st5)
  refine wpAny_passesOwn hp (thn (hg _ s5 σ3 H5 x u _ I5' r5 (step x H5 y5)) fun _ s6 ⟨σ6,H6,I6,q6⟩=>?_)
  refine wpAny_passesOwn hp (thn (hb _ s6 σ6 H6 _ I6 q6) fun f s7 q7=>?_)
  have again:∀ {σ7:St}{H7:Hp},Inv X (pins++Zc4 fp s5.heap) σ7 H7 s7→N σ7 H7→∃ m,m<n∧∃ i σ' H',Inv X pins σ' H' s7∧tn i s7.heap∧(∀ b∈fp,H' b=none)∧W i m σ' H':=fun {σ7 H7} I7 n7=>by
   obtain ⟨m',hm,w7⟩:=hN σ7 H7 n7
   refine ⟨m',hm,i+1,σ7,H7,I7.unpinned,T.keep _ _ _ st5 fun b hb o e=>(I7.pin (b,o) (List.mem_append_right _ (List.mem_append_right _ (JR hb e)))).1,fun b hb=>?_,w7⟩
   obtain ⟨o,e,d⟩:=T.obj _ _ st5 b hb
   exact (I7.pin (b,o) (List.mem_append_right _ (List.mem_append_right _ (JR hb e)))).2.1
  cases f with
  | next=>obtain ⟨σ7,H7,I7,n7⟩:=q7;exact again I7 n7
  | cont=>obtain ⟨σ7,H7,I7,n7⟩:=q7;exact again I7 n7
  | brk=>obtain ⟨σ7,H7,I7,q7⟩:=q7;exact ⟨σ7,H7,I7.unpinned,q7⟩
  | ret v=>obtain ⟨x7,σ7,H7,I7,r7,q7⟩:=q7;exact ⟨x7,σ7,H7,I7.unpinned,r7,q7⟩
end
theorem Zas {K:PySem.W.Frag}{a:Addr}{xs:List V}{g:TG}{tb:TS}{D:Ends}{σ:St}{H:Hp} (Pv:Nat→St→Hp→Prop) (h0:Pv 0 σ H) (hl:∀ i σ H,i≤xs.length→Pv i σ H→SqL K H a xs)
  (hs:∀ i x σ H,xs[i]?=some x→Pv i σ H→g x σ H fun σ2 H2=>tb { D with nx:=Pv (i+1),ct:=Pv (i+1),bk:=D.nx } σ2 H2) (hd:∀ σ H,Pv xs.length σ H→D.nx σ H) :
  ∃ W:Nat→Nat→St→Hp→Prop,(∃ m,W 0 m σ H)∧∀ i m σ H,W i m σ H →
   ((Itl K a).stop i H∧D.nx σ H)∨((Itl K a).go i H∧∃ N:St→Hp→Prop,(∀ σ' H',N σ' H'→∃ m',m' < m∧W (i+1) m' σ' H')∧∀ x H',(Itl K a).yld i H x H'→g x σ H' fun σ2 H2=>tb { D with nx:=N,ct:=N,bk:=D.nx } σ2 H2):=by
 refine ⟨fun i m σ H=>m=xs.length-i∧i≤xs.length∧Pv i σ H,⟨xs.length,by simp,Nat.zero_le _,h0⟩,?_⟩
 rintro i m σ H ⟨rfl,hi,p⟩
 have q:=hl i σ H hi p
 by_cases hlt:i<xs.length
 ·refine .inr ⟨⟨xs,xs[i],q,by simp [hlt]⟩,Pv (i+1),fun σ' H' p'=>⟨xs.length-(i+1),by omega,rfl,hlt,p'⟩,fun x H' y=>?_⟩
  obtain ⟨e,y⟩:=y
  subst e
  exact hs i x σ _ (y xs q) p
 ·have e:i=xs.length:=by omega
  subst e
  exact .inl ⟨⟨xs,q,Nat.le_refl _⟩,hd σ H p⟩
theorem ZiG {K:PySem.W.Frag}{a:Addr}{xs:List V}{g:TG}{tb:TS}{D:Ends}{σ:St}{H:Hp} (Pv:Nat→St→Hp→Prop) (h0:Pv 0 σ H) (hl:∀ i σ H,i≤xs.length→Pv i σ H→SqT K H a xs)
  (hs:∀ i x σ H,xs[i]?=some x→Pv i σ H→g x σ H fun σ2 H2=>tb { D with nx:=Pv (i+1),ct:=Pv (i+1),bk:=D.nx } σ2 H2) (hd:∀ σ H,Pv xs.length σ H→D.nx σ H) :
  ∃ W:Nat→Nat→St→Hp→Prop,(∃ m,W 0 m σ H)∧∀ i m σ H,W i m σ H →
   ((Itt K a).stop i H∧D.nx σ H)∨((Itt K a).go i H∧∃ N:St→Hp→Prop,(∀ σ' H',N σ' H'→∃ m',m' < m∧W (i+1) m' σ' H')∧∀ x H',(Itt K a).yld i H x H'→g x σ H' fun σ2 H2=>tb { D with nx:=N,ct:=N,bk:=D.nx } σ2 H2):=by
 refine ⟨fun i m σ H=>m=xs.length-i∧i≤xs.length∧Pv i σ H,⟨xs.length,by simp,Nat.zero_le _,h0⟩,?_⟩
 rintro i m σ H ⟨rfl,hi,p⟩
 have q:=hl i σ H hi p
 by_cases hlt:i<xs.length
 ·refine .inr ⟨⟨xs,xs[i],q,by simp [hlt]⟩,Pv (i+1),fun σ' H' p'=>⟨xs.length-(i+1),by omega,rfl,hlt,p'⟩,fun x H' y=>?_⟩
  obtain ⟨e,y⟩:=y
  subst e
  exact hs i x σ _ (y xs q) p
 ·have e:i=xs.length:=by omega
  subst e
  exact .inl ⟨⟨xs,q,Nat.le_refl _⟩,hd σ H p⟩
theorem Zdt {lo:Int}{n:Nat}{g:TG}{tb:TS}{D:Ends}{σ:St}{H:Hp} (Pv:Nat→St→Hp→Prop) (h0:Pv 0 σ H)
  (hs:∀ i σ H,i<n→Pv i σ H→g (.int (lo+i)) σ H fun σ2 H2=>tb { D with nx:=Pv (i+1),ct:=Pv (i+1),bk:=D.nx } σ2 H2) (hd:∀ σ H,Pv n σ H→D.nx σ H) :
  ∃ W:Nat→Nat→St→Hp→Prop,(∃ m,W 0 m σ H)∧∀ i m σ H,W i m σ H →
   ((Itr lo n).stop i H∧D.nx σ H)∨((Itr lo n).go i H∧∃ N:St→Hp→Prop,(∀ σ' H',N σ' H'→∃ m',m' < m∧W (i+1) m' σ' H')∧∀ x H',(Itr lo n).yld i H x H'→g x σ H' fun σ2 H2=>tb { D with nx:=N,ct:=N,bk:=D.nx } σ2 H2):=by
 refine ⟨fun i m σ H=>m=n-i∧i≤n∧Pv i σ H,⟨n,by simp,Nat.zero_le _,h0⟩,?_⟩
 rintro i m σ H ⟨rfl,hi,p⟩
 by_cases hlt:i<n
 ·refine .inr ⟨hlt,Pv (i+1),fun σ' H' p'=>⟨n-(i+1),by omega,rfl,hlt,p'⟩,fun x H' y=>?_⟩
  obtain ⟨e,y⟩:=y
  subst e y
  exact hs i σ _ hlt p
 ·have e:i=n:=by omega
  subst e
  exact .inl ⟨Nat.le_refl _,hd σ H p⟩
end L2
namespace L2
open PySem PySem.Spec PyProof.Rows
abbrev R2:=V→V→Hp→VK→Prop
def OpR (X:Cx) (f:Value→Value→Sem Value) (r:R2):Prop :=
 ∀ (pins:List (Addr×Obj)) (s:Shared) (σ:St) (H:Hp) (x y:V) (v u:Value) (Q:VK),Inv X pins σ H s→RelV x v→RelV y u→r x y H Q →
  wpAny (model X.prog X.w) X.A (f v u) (EP X pins σ Q) X.xe s
def UnR (X:Cx) (f:Value→Sem Value) (r:V→Hp→VK→Prop):Prop :=
 ∀ (pins:List (Addr×Obj)) (s:Shared) (σ:St) (H:Hp) (x:V) (v:Value) (Q:VK),Inv X pins σ H s→RelV x v→r x H Q →
  wpAny (model X.prog X.w) X.A (f v) (EP X pins σ Q) X.xe s
def ZdO (X:Cx) (f:Value) (r:List V→Hp→VK→Prop):Prop :=
 ∀ (pins:List (Addr×Obj)) (s:Shared) (σ:St) (H:Hp) (xs:List V) (us:List Value) (Q:VK),Inv X pins σ H s→Vals xs us→r xs H Q →
  wpAny (model X.prog X.w) X.A (call f us) (EP X pins σ Q) X.xe s
def TruR (X:Cx) (r:V→Hp→(Bool→Hp→Prop)→Prop):Prop :=
 ∀ (pins:List (Addr×Obj)) (s:Shared) (σ:St) (H:Hp) (x:V) (v:Value) (Q:Bool→Hp→Prop),Inv X pins σ H s→RelV x v→r x H Q →
  wpAny (model X.prog X.w) X.A (truthy v) (TP X pins σ Q) X.xe s
def tOp (r:R2) (ta tb:TE):TE:=fun σ H Q=>ta σ H fun x H1=>tb σ H1 fun y H2=>r x y H2 Q
def tUn (r:V→Hp→VK→Prop) (ta:TE):TE:=fun σ H Q=>ta σ H fun x H1=>r x H1 Q
def rI (C:Int→Int→Prop) (g:Int→Int→V):R2:=fun x y H Q=>∃ i j,x=.int i∧y=.int j∧C i j∧Q (g i j) H
def rI0 (g:Int→Int→V):R2:=fun x y H Q=>∃ i j,x=.int i∧y=.int j∧Q (g i j) H
def rU (g:Int→V):V→Hp→VK→Prop:=fun x H Q=>∃ i,x=.int i∧Q (g i) H
section
variable {X:Cx}{a b c:Expr}{ta tb tc:TE}{pos:Pos}
theorem binT (ha:PE X a ta) (hb:PE X b tb) {pins:List (Addr×Obj)}{s:Shared}{σ:St}{H:Hp}{R:V→V→Hp→Prop} (I:Inv X pins σ H s)
  (h:ta σ H fun x H1=>tb σ H1 fun y H2=>R x y H2) {Q:Value→Shared→Prop}{f:Value→Value→Sem Value}
  (hf:∀ v u s2 x y H2,Inv X pins σ H2 s2→RelV x v→RelV y u→R x y H2→wpAny (model X.prog X.w) X.A (f v u) Q X.xe s2) :
  wpAny (model X.prog X.w) X.A (eval a X.env) (fun v s₁=>wpAny (model X.prog X.w) X.A (eval b X.env) (fun u s₂=>wpAny (model X.prog X.w) X.A (f v u) Q X.xe s₂) X.xe s₁) X.xe s:=by
 refine thn (ha pins s σ H _ I h) fun v s1 ⟨x,H1,I1,r1,q1⟩=>?_
 refine thn (hb pins s1 σ H1 _ I1 q1) fun u s2 ⟨y,H2,I2,r2,q2⟩=>?_
 exact hf v u s2 x y H2 I2 r1 r2 q2
theorem ZG {op:Operator}{r:R2} (ho:OpR X (binaryOp op) r) (ha:PE X a ta) (hb:PE X b tb):PE X (.BinOp a op b pos) (tOp r ta tb):=by
 intro pins s σ H Q I h
 exact wpAny_BinOp (binT ha hb I h fun v u s2 x y H2 I2 rx ry q=>ho pins s2 σ H2 x y v u Q I2 rx ry q)
theorem Zc5 {op:UnaryOp}{r:V→Hp→VK→Prop} (ho:UnR X (unaryOp op) r) (ha:PE X a ta):PE X (.UnaryOp op a pos) (tUn r ta):=by
 intro pins s σ H Q I h
 exact UnaryOp_ (thn (ha pins s σ H _ I h) fun v s1 ⟨x,H1,I1,r1,q1⟩=>ho pins s1 σ H1 x v Q I1 r1 q1)
theorem opI {f:Value→Value→Sem Value}{C:Int→Int→Prop}{g:Int→Int→Int}
  (rule:∀ (i j:Int) (t u:Tok) (s:Shared) (Q:Value→Shared→Prop) (E:Value→Shared→Prop),C i j→Q (.int (g i j) s.toks) { s with toks:=s.toks+1 }→wpAny (model X.prog X.w) X.A (f (.int i t) (.int j u)) Q E s) :
  OpR X f (rI C fun i j=>.int (g i j)):=by
 intro pins s σ H x y v u Q I rx ry h
 obtain ⟨i,j,rfl,rfl,hc,q⟩:=h
 obtain ⟨t,rfl⟩:=rx
 obtain ⟨t',rfl⟩:=ry
 exact rule i j t t' s _ _ hc ⟨.int (g i j),H,I.tok _,⟨_,rfl⟩,q⟩
theorem opI0 {f:Value→Value→Sem Value}{g:Int→Int→Int}
  (rule:∀ (i j:Int) (t u:Tok) (s:Shared) (Q:Value→Shared→Prop) (E:Value→Shared→Prop),Q (.int (g i j) s.toks) { s with toks:=s.toks+1 }→wpAny (model X.prog X.w) X.A (f (.int i t) (.int j u)) Q E s) :
  OpR X f (rI0 fun i j=>.int (g i j)):=by
 intro pins s σ H x y v u Q I rx ry h
 obtain ⟨i,j,rfl,rfl,q⟩:=h
 obtain ⟨t,rfl⟩:=rx
 obtain ⟨t',rfl⟩:=ry
 exact rule i j t t' s _ _ ⟨.int (g i j),H,I.tok _,⟨_,rfl⟩,q⟩
theorem opB0 {f:Value→Value→Sem Value}{g:Int→Int→Bool}
  (rule:∀ (i j:Int) (t u:Tok) (s:Shared) (Q:Value→Shared→Prop) (E:Value→Shared→Prop),Q (.bool (g i j)) s→wpAny (model X.prog X.w) X.A (f (.int i t) (.int j u)) Q E s) :
  OpR X f (rI0 fun i j=>.bl (g i j)):=by
 intro pins s σ H x y v u Q I rx ry h
 obtain ⟨i,j,rfl,rfl,q⟩:=h
 obtain ⟨t,rfl⟩:=rx
 obtain ⟨t',rfl⟩:=ry
 exact rule i j t t' s _ _ ⟨.bl (g i j),H,I,rfl,q⟩
def CDiv (i j:Int):Prop:=0<j∧j<1073741824
def CPow (i j:Int):Prop:=0≤j∧j≤1000000∧i.natAbs<2 ^ 64
def CMul (i j:Int):Prop:=(-(2 ^ 64)<i∧i<2 ^ 64)∨(-(2 ^ 64)<j∧j<2 ^ 64)
theorem CMul.ok {i j:Int} (h:CMul i j):IntMulOk i j:=by
 rcases h with ⟨h1,h2⟩ | ⟨h1,h2⟩
 ·exact .of_left (intBits_le_64 h1 h2)
 ·exact .of_right (intBits_le_64 h1 h2)
theorem Ya:OpR X (binaryOp .Add) (rI0 fun i j=>.int (i+j)):=opI0 fun _ _ _ _ _ _ _ q=>add_int q
theorem Yj:OpR X (binaryOp .Sub) (rI0 fun i j=>.int (i-j)):=opI0 fun _ _ _ _ _ _ _ q=>sub_int q
theorem Zc7:OpR X (binaryOp .Mult) (rI CMul fun i j=>.int (i * j)):=opI fun _ _ _ _ _ _ _ hc q=>mul_int q hc.ok
theorem Zim:OpR X (binaryOp .FloorDiv) (rI CDiv fun i j=>.int (i / j)):=opI fun i j _ _ _ _ _ hc q=>by
 have h1:(0:Int)<j:=hc.1
 have h2:j<1073741824:=hc.2
 exact floordiv_int (by omega) (by rw [Int.fdiv_eq_ediv_of_nonneg i (by omega)];exact q) (.inl (PyProof.noPylong_small (by omega)))
theorem Zjb:OpR X (binaryOp .Mod) (rI (fun _ j=>0<j) fun i j=>.int (i % j)):=opI fun i j _ _ _ _ _ hc q=>by
 have h1:(0:Int)<j:=hc
 exact mod_int' (by omega) (by rw [Int.fmod_eq_emod_of_nonneg i (by omega)];exact q)
theorem ZhR:OpR X (binaryOp .Pow) (rI CPow fun i j=>.int (i ^ j.toNat)):=opI fun _ _ _ _ _ _ _ hc q=>pow_int_small hc.1 hc.2.1 hc.2.2 q
theorem unI {f:Value→Sem Value}{g:Int→Int}
  (rule:∀ (i:Int) (t:Tok) (s:Shared) (Q:Value→Shared→Prop) (E:Value→Shared→Prop),Q (.int (g i) s.toks) { s with toks:=s.toks+1 }→wpAny (model X.prog X.w) X.A (f (.int i t)) Q E s) :
  UnR X f (rU fun i=>.int (g i)):=by
 intro pins s σ H x v Q I rx h
 obtain ⟨i,rfl,q⟩:=h
 obtain ⟨t,rfl⟩:=rx
 exact rule i t s _ _ ⟨.int (g i),H,I.tok _,⟨_,rfl⟩,q⟩
theorem J1:UnR X (unaryOp .USub) (rU fun i=>.int (-i)):=unI fun _ _ _ _ _ q=>neg_int q
end
def scal:V→V→Bool
 | .non,.non=>true | .non,.int _=>true | .int _,.non=>true | .non,.bl _=>true | .bl _,.non=>true | .non,.str _=>true | .str _,.non=>true
 | .int _,.int _=>true | .bl _,.bl _=>true | .str _,.str _=>true | .byt _,.byt _=>true
 | .int _,.str _=>true | .str _,.int _=>true | .bl _,.str _=>true | .str _,.bl _=>true
 | _,_=>false
def rEq:R2:=fun x y H Q=>scal x y=true∧Q (.bl (decide (x=y))) H
def rNe:R2:=fun x y H Q=>scal x y=true∧Q (.bl (!decide (x=y))) H
theorem ZgB {i j:Int}:decide (V.int i=V.int j)=(i==j):=by
 rw [Bool.eq_iff_iff]
 simp
theorem ZhX {i j:Bool}:decide (V.bl i=V.bl j)=(i==j):=by
 rw [Bool.eq_iff_iff]
 simp
theorem ZgA {i j:Str}:decide (V.str i=V.str j)=(i==j):=by
 rw [Bool.eq_iff_iff]
 simp
theorem ZgC {i j:Array UInt8}:decide (V.byt i=V.byt j)=(i.toList==j.toList):=by
 rw [Bool.eq_iff_iff]
 cases i
 cases j
 simp
section
variable {X:Cx}{a b c:Expr}{ta tb tc:TE}{pos:Pos}
theorem Yh {pins:List (Addr×Obj)}{σ:St}{H:Hp}{s:Shared}{Q:VK}{k k':Bool} (I:Inv X pins σ H s) (q:Q (.bl k) H) (e:k=k'):EP X pins σ Q (.bool k') s:=by
 subst e
 exact ⟨.bl k,H,I,rfl,q⟩
theorem Va:OpR X (compareOp .Eq) rEq:=by
 intro pins s σ H x y v u Q I rx ry h
 obtain ⟨hs,q⟩:=h
 cases x with
 | non =>
  cases rx
  cases y with
  | non=>cases ry;exact PySem.EqNone.eq_none_none (Yh I q (by simp))
  | bl j=>cases ry;exact PySem.EqNone.eq_none_bool (Yh I q (by simp))
  | int j=>obtain ⟨t',rfl⟩:=ry;exact PySem.EqNone.eq_none_int (Yh I q (by simp))
  | str j=>obtain ⟨t',rfl⟩:=ry;exact PySem.EqNone.eq_none_str (Yh I q (by simp))
  | _=>exact absurd (show false=true from hs) Bool.false_ne_true
 | bl i =>
  cases rx
  cases y with
  | non=>cases ry;exact PySem.EqNone.eq_bool_none (Yh I q (by simp))
  | bl j=>cases ry;exact eq_bool (Yh I q ZhX)
  | str j=>obtain ⟨t',rfl⟩:=ry;exact PySem.EqMixed.eq_bool_str (Yh I q (by simp))
  | _=>exact absurd (show false=true from hs) Bool.false_ne_true
 | int i =>
  obtain ⟨t,rfl⟩:=rx
  cases y with
  | non=>cases ry;exact PySem.EqNone.eq_int_none (Yh I q (by simp))
  | int j=>obtain ⟨t',rfl⟩:=ry;exact eq_int (Yh I q ZgB)
  | str j=>obtain ⟨t',rfl⟩:=ry;exact PySem.EqMixed.eq_int_str (Yh I q (by simp))
  | _=>exact absurd (show false=true from hs) Bool.false_ne_true
 | str i =>
  obtain ⟨t,rfl⟩:=rx
  cases y with
  | non=>cases ry;exact PySem.EqNone.eq_str_none (Yh I q (by simp))
  | bl j=>cases ry;exact PySem.EqMixed.eq_str_bool (Yh I q (by simp))
  | int j=>obtain ⟨t',rfl⟩:=ry;exact PySem.EqMixed.eq_str_int (Yh I q (by simp))
  | str j=>obtain ⟨t',rfl⟩:=ry;exact eq_str (Yh I q ZgA)
  | _=>exact absurd (show false=true from hs) Bool.false_ne_true
 | byt i =>
  obtain ⟨t,rfl⟩:=rx
  cases y with
  | byt j=>obtain ⟨t',rfl⟩:=ry;exact PySem.W.eq_bytes (Yh I q ZgC)
  | _=>exact absurd (show false=true from hs) Bool.false_ne_true
 | _=>cases y <;> exact absurd (show false=true from hs) Bool.false_ne_true
theorem ZjU:OpR X (compareOp .NotEq) rNe:=by
 intro pins s σ H x y v u Q I rx ry h
 obtain ⟨hs,q⟩:=h
 cases x with
 | non =>
  cases rx
  cases y with
  | non=>cases ry;exact PySem.EqNone.ne_none_none (Yh I q (by simp))
  | bl j=>cases ry;exact PySem.EqNone.ne_none_bool (Yh I q (by simp))
  | int j=>obtain ⟨t',rfl⟩:=ry;exact PySem.EqNone.ne_none_int (Yh I q (by simp))
  | str j=>obtain ⟨t',rfl⟩:=ry;exact PySem.EqNone.ne_none_str (Yh I q (by simp))
  | _=>exact absurd (show false=true from hs) Bool.false_ne_true
 | bl i =>
  cases rx
  cases y with
  | non=>cases ry;exact PySem.EqNone.ne_bool_none (Yh I q (by simp))
  | bl j=>cases ry;exact ne_bool (Yh I q (congrArg not ZhX))
  | str j=>obtain ⟨t',rfl⟩:=ry;exact PySem.EqMixed.ne_bool_str (Yh I q (by simp))
  | _=>exact absurd (show false=true from hs) Bool.false_ne_true
 | int i =>
  obtain ⟨t,rfl⟩:=rx
  cases y with
  | non=>cases ry;exact PySem.EqNone.ne_int_none (Yh I q (by simp))
  | int j=>obtain ⟨t',rfl⟩:=ry;exact ne_int (Yh I q (congrArg not ZgB))
  | str j=>obtain ⟨t',rfl⟩:=ry;exact PySem.EqMixed.ne_int_str (Yh I q (by simp))
  | _=>exact absurd (show false=true from hs) Bool.false_ne_true
 | str i =>
  obtain ⟨t,rfl⟩:=rx
  cases y with
  | non=>cases ry;exact PySem.EqNone.ne_str_none (Yh I q (by simp))
  | bl j=>cases ry;exact PySem.EqMixed.ne_str_bool (Yh I q (by simp))
  | int j=>obtain ⟨t',rfl⟩:=ry;exact PySem.EqMixed.ne_str_int (Yh I q (by simp))
  | str j=>obtain ⟨t',rfl⟩:=ry;exact ne_str (Yh I q (congrArg not ZgA))
  | _=>exact absurd (show false=true from hs) Bool.false_ne_true
 | byt i =>
  obtain ⟨t,rfl⟩:=rx
  cases y with
  | byt j=>obtain ⟨t',rfl⟩:=ry;exact PySem.W.ne_bytes (Yh I q (congrArg not ZgC))
  | _=>exact absurd (show false=true from hs) Bool.false_ne_true
 | _=>cases y <;> exact absurd (show false=true from hs) Bool.false_ne_true
theorem Wm:OpR X (compareOp .Lt) (rI0 fun i j=>.bl (decide (i<j))):=opB0 fun _ _ _ _ _ _ _ q=>lt_int q
theorem WI:OpR X (compareOp .LtE) (rI0 fun i j=>.bl (decide (i≤j))):=opB0 fun _ _ _ _ _ _ _ q=>le_int q
theorem Jf:OpR X (compareOp .Gt) (rI0 fun i j=>.bl (decide (j<i))):=opB0 fun _ _ _ _ _ _ _ q=>gt_int q
theorem Zf6:OpR X (compareOp .GtE) (rI0 fun i j=>.bl (decide (j≤i))):=opB0 fun _ _ _ _ _ _ _ q=>ge_int q
theorem Zf5:OpR X (compareOp .Is) (fun x y H Q=>y=.non∧Q (.bl (decide (x=.non))) H):=by
 intro pins s σ H x y v u Q I rx ry h
 obtain ⟨rfl,q⟩:=h
 cases ry
 refine is_none_gen (Yh I q ?_)
 cases x <;> first
  | (cases rx;rfl)
  | (obtain ⟨t,rfl⟩:=rx;rfl)
theorem Zu (b:Expr) {op:CmpOp} (h:op≠.In:=by decide) (h2:op≠.NotIn:=by decide):behindInMarks op b=false:=by
 have e1:(op==CmpOp.In)=false:=by cases op <;> first | rfl | exact absurd rfl h
 have e2:(op==CmpOp.NotIn)=false:=by cases op <;> first | rfl | exact absurd rfl h2
 cases b <;> simp [behindInMarks,e1,e2]
theorem Wk {op:CmpOp}{r:R2} (ho:OpR X (compareOp op) r) (ha:PE X a ta) (hb:PE X b tb) (hm:behindInMarks op b=false):PE X (.Compare a [op] [b] pos) (tOp r ta tb):=by
 intro pins s σ H Q I h
 exact wpAny_Compare1 (binT ha hb I h fun v u s2 x y H2 I2 rx ry q=>ho pins s2 σ H2 x y v u Q I2 rx ry q) hm
def ZcR (t:TE):TT:=fun σ H Q=>t σ H fun x H'=>∃ k,x=.bl k∧Q k H'
theorem Zq {op:CmpOp}{r:R2} (ho:OpR X (compareOp op) r) (ha:PE X a ta) (hb:PE X b tb) (hm:behindInMarks op b=false):PT X (.Compare a [op] [b] pos) (ZcR (tOp r ta tb)):=by
 intro pins s σ H Q I h
 refine wpAny_isTrue_Compare1 (thn (ha pins s σ H _ I h) fun v s1 ⟨x,H1,I1,r1,q1⟩=>thn (hb pins s1 σ H1 _ I1 q1) fun u s2 ⟨y,H2,I2,r2,q2⟩ =>
  thn (ho pins s2 σ H2 x y v u _ I2 r1 r2 q2) fun c s3 ⟨z,H3,I3,r3,k,e,q3⟩=>?_) hm
 subst e
 cases r3
 exact wpAny_truthy_bool ⟨H3,I3,q3⟩
def ZbB (r r':R2) (ta tb tc:TE):TE:=fun σ H Q=>ta σ H fun x H1=>tb σ H1 fun y H2=>r x y H2 fun z H3=>∃ k,z=.bl k ∧
 (if k=true then tc σ H3 fun w' H4=>r' y w' H4 Q else Q (.bl false) H3)
theorem W7 {op op':CmpOp}{r r':R2} (ho:OpR X (compareOp op) r) (ho':OpR X (compareOp op') r') (ha:PE X a ta) (hb:PE X b tb) (hc:PE X c tc)
  (hm:lastMarks [op,op'] [b,c]=false:=by with_unfolding_all rfl):PT X (.Compare a [op,op'] [b,c] pos) (ZcR (ZbB r r' ta tb tc)):=by
 intro pins s σ H Q I h
 refine isTrue_chain (thn (ha pins s σ H _ I h) fun v s1 ⟨x,H1,I1,r1,q1⟩=>test_link (thn (hb pins s1 σ H1 _ I1 q1) fun u s2 ⟨y,H2,I2,r2,q2⟩ =>
  thn (ho pins s2 σ H2 x y v u _ I2 r1 r2 q2) fun d s3 ⟨z,H3,I3,r3,k,e,q3⟩=>?_)) hm
 subst e
 cases r3
 refine wpAny_truthy_bool ?_
 cases k with
 | false =>
  obtain ⟨k',e',q'⟩:=q3
  cases e'
  exact ite_ff ⟨H3,I3,q'⟩
 | true =>
  refine ite_tt (test_last (thn (hc pins s3 σ H3 _ I3 q3) fun w' s4 ⟨z',H4,I4,r4,q4⟩=>thn (ho' pins s4 σ H4 y z' u w' _ I4 r2 r4 q4) fun d' s5 ⟨z2,H5,I5,r5,k2,e2,q5⟩=>?_))
  subst e2
  cases r5
  exact wpAny_truthy_bool ⟨H5,I5,q5⟩
def TruV (K:PySem.W.Frag) (x:V) (H:Hp) (k:Bool):Prop :=
 match x with
 | .non=>k=false
 | .bl b=>k=b
 | .int i=>k=(i != 0)
 | .str y=>y.length≤sizeLine∧k=((y.length:Int) != 0)
 | .byt y=>y.size≤sizeLine∧k=((y.size:Int) != 0)
 | .ref p=>(∃ xs,SqL K H p xs∧k=!xs.isEmpty)∨(∃ xs,SqT K H p xs∧k=!xs.isEmpty)∨∃ kvs,H p=some (.dK kvs)∧k=!kvs.isEmpty
 | _=>False
theorem Zfu {κ:Type}{kvs:List (κ×V)}{vs:List (κ×Value)} (r:KV kvs vs):(!vs.isEmpty)=!kvs.isEmpty:=by
 cases r <;> rfl
theorem ZbQ {xs:List V}{its:List Value} (r:Vals xs its):(!its.toArray.isEmpty)=!xs.isEmpty:=by
 cases r <;> simp
theorem Zdn:(sizeLine:Nat)<2 ^ 63:=by rw [sizeLine_eq];decide
theorem ZiW:TruR X (fun x H Q=>∃ k,TruV X.K x H k∧Q k H):=by
 intro pins s σ H x v Q I rx h
 obtain ⟨k,e,q⟩:=h
 have hl:=Zdn
 have hs:sizeLine=16777216:=sizeLine_eq
 cases x with
 | non =>
  cases rx
  have e':k=false:=e
  subst e'
  exact truthy_none ⟨H,I,q⟩
 | bl b =>
  cases rx
  have e':k=b:=e
  subst e'
  exact wpAny_truthy_bool ⟨H,I,q⟩
 | int i =>
  obtain ⟨t,rfl⟩:=rx
  have e':k=(i != 0):=e
  subst e'
  exact PySem.P.truthy_int ⟨H,I,q⟩
 | str y =>
  obtain ⟨t,rfl⟩:=rx
  obtain ⟨hy,e'⟩:y.length≤sizeLine∧k=((y.length:Int) != 0):=e
  subst e'
  exact PySem.P.truthy_str (by omega) ⟨H,I.tok _,q⟩
 | byt y =>
  obtain ⟨t,rfl⟩:=rx
  obtain ⟨hy,e'⟩:y.size≤sizeLine∧k=((y.size:Int) != 0):=e
  subst e'
  exact PySem.W.truthy_bytes (by omega) ⟨H,I.tok _,q⟩
 | ref p =>
  cases rx
  have e':(∃ xs,SqL X.K H p xs∧k=!xs.isEmpty)∨(∃ xs,SqT X.K H p xs∧k=!xs.isEmpty)∨∃ kvs,H p=some (.dK kvs)∧k=!kvs.isEmpty:=e
  rcases e' with ⟨xs,hx,e'⟩ | ⟨xs,hx,e'⟩ | ⟨kvs,hx,e'⟩
  ·subst e'
   obtain ⟨its,r,pl,hz⟩:=I.list hx
   have hlen:=r.length
   exact wpAny_truthy_list pl.isList (by simp only [List.size_toArray];omega) ⟨H,I.tok _,by rw [ZbQ r];exact q⟩
  ·subst e'
   obtain ⟨its,r,pl,hz⟩:=I.tuple hx
   have hlen:=r.length
   exact truthy_tuple pl (by simp only [List.size_toArray];omega) ⟨H,I.tok _,by rw [ZbQ r];exact q⟩
  ·subst e'
   obtain ⟨hz,hS,vs,r,m⟩:kvs.length≤sizeLine∧(p==sysModules)=false∧∃ vs,KV kvs vs∧s.heap.DictOf (VO X.prog X.w) p vs:=I.hok p _ hx
   have hlen:kvs.length=vs.length:=Paired.length r
   exact wpAny_truthy_dict hS m (by omega) ⟨H,I.tok _,by rw [Zfu r];exact q⟩
 | _=>exact (show False from e).elim
theorem V7 (ha:PE X a ta) (he:∀ whole,isTrue a X.env whole=(do let v ← whole;standAt a.pos;holding [v] (truthy v))) :
  PT X a (fun σ H Q=>ta σ H fun x H'=>∃ k,TruV X.K x H' k∧Q k H'):=by
 intro pins s σ H Q I h
 exact isTrue_plain (thn (ha pins s σ H _ I h) fun v s1 ⟨x,H1,I1,r1,q1⟩=>ZiW pins s1 σ H1 x v Q I1 r1 q1) (he _)
theorem Zfi:OpR X (binaryOp .Add) (fun x y H Q=>∃ i j,x=.str i∧y=.str j∧i.length+j.length≤sizeLine∧Q (.str (i++j)) H):=by
 intro pins s σ H x y v u Q I rx ry h
 obtain ⟨i,j,rfl,rfl,hz,q⟩:=h
 obtain ⟨t,rfl⟩:=rx
 obtain ⟨t',rfl⟩:=ry
 exact add_str (fun t' tk=>⟨.str (i++j),H,I.tok _,⟨_,rfl⟩,q⟩) hz
theorem ZgS {x:V}{us:List Value} (r:Vals [x] us):∃ u,us=[u]∧RelV x u:=by
 cases r with
 | cons r1 r2=>cases r2;exact ⟨_,rfl,r1⟩
theorem ZjQ {x y:V}{us:List Value} (r:Vals [x,y] us):∃ u w',us=[u,w']∧RelV x u∧RelV y w':=by
 cases r with
 | cons r1 r2 =>
  cases r2 with
  | cons r3 r4=>cases r4;exact ⟨_,_,rfl,r1,r3⟩
theorem ZdF (hc:X.calm=true):ZdO X (.builtin "min") (fun xs H Q=>∃ i j,xs=[.int i,.int j]∧Q (.int (if j<i then j else i)) H):=by
 intro pins s σ H xs us Q I r h
 obtain ⟨i,j,rfl,q⟩:=h
 obtain ⟨u,w',rfl,⟨t,rfl⟩,⟨t',rfl⟩⟩:=ZjQ r
 refine min_two_ints (I.ok.hd hc) fun h' tk k=>⟨_,H,I.kept k,?_,q⟩
 by_cases hj:j<i
 ·rw [if_pos hj,if_pos hj];exact ⟨_,rfl⟩
 ·rw [if_neg hj,if_neg hj];exact ⟨_,rfl⟩
theorem ZdE:ZdO X (.type "str") (fun xs H Q=>∃ i,xs=[.int i]∧i.natAbs.log2<1920∧Q (.str (toString i)) H):=by
 intro pins s σ H xs us Q I r h
 obtain ⟨i,rfl,hz,q⟩:=h
 obtain ⟨u,rfl,t,rfl⟩:=ZgS r
 exact PySem.P.str_of_int hz ⟨.str _,H,I.tok _,⟨_,rfl⟩,q⟩
theorem Ze1:ZdO X (.builtin "ord") (fun xs H Q=>∃ x,xs=[.str x]∧x.length=1∧Q (.int (x.cps.getD 0 0:Nat)) H):=by
 intro pins s σ H xs us Q I r h
 obtain ⟨x,rfl,hz,q⟩:=h
 obtain ⟨u,rfl,t,rfl⟩:=ZgS r
 exact ord_of_one hz ⟨.int _,H,I.tok _,⟨_,rfl⟩,q⟩
end
end L2
namespace L2
open PySem PySem.Spec PyProof.Rows
structure ObjM (h:Heap) (x dx C:Addr) (mA:Str→Option Value):Prop where
 obj:h.get? x=some (PySem.W.instObj C dx)
 ns:h.Ns1 dx mA
 ne:dx≠x
theorem Zgd {h:Heap}{dx:Addr}{mA:Str→Option Value} (n:h.Ns1 dx mA):∃ od,h.get? dx=some od∧∀ name,PySem.W.lookIn name od=some (mA name):=by
 obtain ⟨o,es,ep,ho,hd,hk,_,hm⟩:=n
 refine ⟨o,ho,fun name=>?_⟩
 have e:=hm name
 unfold nsFind findBy at e
 rw [← Array.find?_toList] at e
 unfold PySem.W.lookIn
 rw [hd]
 dsimp only
 split
 ·rename_i y q
  rw [q] at e
  exact congrArg some e
 ·rename_i q
  rw [q] at e
  have a:es.toList.any (·.refKey)=false:=by
   rw [List.any_eq_false]
   intro y hy
   obtain ⟨z,t,hkey⟩:=hk y (Array.mem_toList_iff.mp hy)
   simp [DictEntry.refKey,hkey]
  have a':¬ es.toList.any (·.refKey)=true:=by rw [a];exact Bool.false_ne_true
  rw [if_neg a']
  exact congrArg some e
theorem ObjM.look {h:Heap}{x dx C:Addr}{mA:Str→Option Value} (I:ObjM h x dx C mA):∃ od,PySem.W.InstAt h x (PySem.W.instObj C dx) C (some od)∧∀ name,PySem.W.lookIn name od=some (mA name) :=
 let ⟨od,ho,hl⟩:=Zgd I.ns
 ⟨od,⟨I.obj,rfl,rfl,ho⟩,hl⟩
section
variable {prog:Program}{w:World}{A:Around}{E:Value→Shared→Prop}{s:Shared}{K:PySem.W.Frag}{x dx C f:Addr}{mA:Str→Option Value}{name:Str}{v:Value}
theorem ZiC {expr:Bool}{Q:Value→Shared→Prop} (X:K.In s.heap) (I:ObjM s.heap x dx C mA) (hg:PySem.W.plainGet K C name=true) (hh:PySem.W.hasDictIn K C=true)
  (ha:PySem.W.findIn K (.ref C) name=some none) (hv:mA name=some v) (hv':PySem.W.handedIn v=true) (h:Q v { s with toks:=s.toks+1 }) :
  wpAny (model prog w) A (getAttr (.ref x) name expr) Q E s:=by
 obtain ⟨od,J,hl⟩:=I.look
 exact PySem.W.get_value X J (PySem.W.plainGet_of hg).1 (PySem.W.findObj_own hh ha rfl (by rw [hl,hv])) hv' h
theorem Zhs {pl:Sem Bool}{Q:Value×List Value→Shared→Prop} (X:K.In s.heap) (I:ObjM s.heap x dx C mA) (hg:PySem.W.plainGet K C name=true)
  (hf:PySem.W.findIn K (.ref C) name=some (some (.ref f))) (ht:PySem.W.isFn K (.ref f)=true) (hv:mA name=none) (h:Q (.ref f,[.ref x]) s) :
  wpAny (model prog w) A (getMethod (.ref x) name pl) Q E s:=by
 obtain ⟨od,J,hl⟩:=I.look
 exact PySem.W.method_fn X J (PySem.W.plainGet_of hg).1 (PySem.W.plainGet_of hg).2 hf (beq_iff_eq.mp ht) (by show (PySem.W.lookIn name od).map (·.isSome)=some false;rw [hl,hv];rfl) h
theorem Zh9 {ns:List Str}{Q:Unit→Shared→Prop} (X:K.In s.heap) (I:ObjM s.heap x dx C mA)
  (hs:PySem.W.findIn K (.ref C) "__setattr__"=some (some (.builtin "object.__setattr__"))) (hp:PySem.W.plainOver K C=true) (ht:PySem.W.takerIn K C name=some none) (hh:PySem.W.hasDictIn K C=true)
  (hw:PySem.Within mA ns) (hsz:ns.length≤sizeLine)
  (h:∀ h',ObjM h' x dx C (fun y=>if y=name then some v else mA y)→Heap.SameBut dx s.heap h'→Q () { s with heap:=h',toks:=s.toks+2 }) :
  wpAny (model prog w) A (setAttr (.ref x) name v) Q E s:=by
 obtain ⟨od,J,hl⟩:=I.look
 refine PySem.W.set_plain X J hs (PySem.W.osa_open (s:={ s with toks:=s.toks+1 }) (r:=none) X J hp ht fun b=>?_)
 obtain ⟨cd,hc,hd'⟩:=PySem.W.any_some hh
 have hx:s.heap.get? x=some ⟨.ref C,some dx,.plain,#[]⟩:=I.obj
 refine wpAny_bind (wpAny_pure (wpAny_bind (wpAny_bind (wpAny_loadPart hx (wpAny_bind (PySem.W.Looks.here (s:={ s with toks:=s.toks+1 }) (PySem.W.looks_clsIn X hc) ?_))))))
 rw [hd']
 refine wpAny_pure (a:=some dx) (wpAny_bind (wpAny_pure (wpAny_bind ?_)))
 refine wpAny_nsSet1 (s:={ s with toks:=s.toks+1 }) I.ns fun h' hn2 hs2=>?_
 obtain ⟨oD,esD,epD,hoD,hdD,hcD⟩:=hn2.count (PySem.Within.cons name v hw)
 refine wpAny_bind (wpAny_lookBehind hoD (by rw [hdD];exact pastItsLine_dict (Nat.le_trans hcD (by rw [List.length_cons];omega))) ?_)
 exact wpAny_pure (h _ ⟨(hs2.2 _ (Ne.symm I.ne)).trans I.obj,hn2,I.ne⟩ hs2)
theorem Zhl {R:Result→Shared→Prop}{vs:List Value}{kw:List (Str×Value)} (X:K.In s.heap) (hm:PySem.W.makesIn K C=true)
  (hi:PySem.W.findIn K (.ref C) "__init__"=some (some (.ref f))) (hf:PySem.W.typeIn K (.ref f)=some (.type "function"))
  (h:codeAny (model prog w) (A.under (.builtin "type.__call__" ⟨.ref C::vs,kw⟩)) (.call (.ref f) ⟨.ref (s.heap.objs.size+1)::vs,kw⟩) (PySem.W.InitBack (s.heap.objs.size+1) R)
   { s with heap:=(s.heap.push PySem.W.emptyDict).push (PySem.W.instObj C s.heap.objs.size) }) :
  codeAny (model prog w) A (.call (.ref C) ⟨vs,kw⟩) R s:=by
 obtain ⟨hh,g,d,t,os⟩:=s
 exact PySem.W.make_core (PySem.W.makes_of X hm) (PySem.W.looks_findIn X hi) (fun self=>PySem.W.bind_fn X self hf) (.inl rfl) h
end
def putF (f:Str) (v:V):List (Str×V)→List (Str×V)
 | []=>[(f,v)]
 | (g,x)::r=>if g=f then (g,v)::r else (g,x)::putF f v r
theorem Za0 (f g:Str) (v:V):∀ fs:List (Str×V),(putF f v fs).lookup g=if g=f then some v else fs.lookup g
 | []=>by
  show List.lookup g [(f,v)]=_
  by_cases h:g=f
  ·have hb:(g==f)=true:=beq_iff_eq.mpr h
   simp only [List.lookup,hb,if_pos h]
  ·have hb:(g==f)=false:=beq_eq_false_iff_ne.mpr h
   simp only [List.lookup,hb,if_neg h]
 | (k,x)::r=>by
  have ih:=Za0 f g v r
  rw [show putF f v ((k,x)::r)=(if k=f then (k,v)::r else (k,x)::putF f v r) from rfl]
  by_cases hk:k=f
  ·rw [if_pos hk]
   by_cases h:g=k
   ·have hb:(g==k)=true:=beq_iff_eq.mpr h
    simp only [List.lookup,hb,if_pos (h.trans hk)]
   ·have hb:(g==k)=false:=beq_eq_false_iff_ne.mpr h
    simp only [List.lookup,hb,if_neg (fun e:g=f=>h (e.trans hk.symm))]
  ·rw [if_neg hk]
   by_cases h:g=k
   ·have hb:(g==k)=true:=beq_iff_eq.mpr h
    simp only [List.lookup,hb,if_neg (fun e:g=f=>hk (h.symm.trans e))]
   ·have hb:(g==k)=false:=beq_eq_false_iff_ne.mpr h
    simp only [List.lookup,hb]
    exact ih
theorem Za4 (f:Str) (v:V):∀ fs:List (Str×V),f∈(putF f v fs).map (·.1)∧∀ g,g∈fs.map (·.1)→g∈(putF f v fs).map (·.1)
 | []=>⟨by simp [putF],fun g h=>by simp at h⟩
 | (k,x)::r=>by
  obtain ⟨i1,i2⟩:=Za4 f v r
  rw [show putF f v ((k,x)::r)=(if k=f then (k,v)::r else (k,x)::putF f v r) from rfl]
  by_cases hk:k=f
  ·rw [if_pos hk]
   subst hk
   exact ⟨by simp,fun g h=>by simpa using h⟩
  ·rw [if_neg hk]
   refine ⟨?_,fun g h=>?_⟩
   ·rw [List.map_cons]
    exact List.mem_cons_of_mem _ i1
   ·rw [List.map_cons] at h ⊢
    rcases List.mem_cons.mp h with e | e
    ·exact List.mem_cons.mpr (.inl e)
    ·exact List.mem_cons_of_mem _ (i2 g e)
theorem UJ (f:Str) (v:V):∀ fs:List (Str×V),(putF f v fs).length≤fs.length+1
 | []=>by simp [putF]
 | (k,x)::r=>by
  have ih:=UJ f v r
  rw [show putF f v ((k,x)::r)=(if k=f then (k,v)::r else (k,x)::putF f v r) from rfl]
  by_cases hk:k=f
  ·rw [if_pos hk,List.length_cons,List.length_cons];omega
  ·rw [if_neg hk,List.length_cons,List.length_cons];omega
theorem RelO.some_of {v:V}{o:Option Value} (r:RelO (some v) o):∃ u,o=some u∧RelV v u:=by
 cases o with
 | none=>exact (show False from r).elim
 | some u=>exact ⟨u,rfl,r⟩
theorem RelO.none_of {o:Option Value} (r:RelO none o):o=none:=by
 cases o with
 | none=>rfl
 | some u=>exact (show False from r).elim
theorem Zgr {v:V}{u:Value} (r:RelV v u):PySem.W.handedIn u=true:=by
 cases v with
 | non=>cases (show u=Value.none from r);rfl
 | bl b=>cases (show u=Value.bool b from r);rfl
 | int i=>obtain ⟨t,e⟩:=(show ∃ t,u=Value.int i t from r);cases e;rfl
 | str x=>obtain ⟨t,e⟩:=(show ∃ t,u=Value.str x t from r);cases e;rfl
 | byt b=>obtain ⟨t,e⟩:=(show ∃ t,u=Value.bytes b t from r);cases e;rfl
 | flt b=>obtain ⟨t,e⟩:=(show ∃ t,u=Value.float b t from r);cases e;rfl
 | ref a=>cases (show u=Value.ref a from r);rfl
 | ty n=>cases (show u=Value.type n from r);rfl
section
variable {P:Program}{w:World}{H H':Hp}{h h':Heap}{a C dx:Addr}{fs fs':List (Str×V)}
theorem Zej (hok:HOk P w H h) (e:H a=some (.ins C dx fs)):∃ mA,ObjM h a dx C mA∧(∀ f,RelO (fs.lookup f) (mA f))∧PySem.Within mA (fs.map (·.1))∧fs.length≤1000∧H dx=some (.own a):=by
 obtain ⟨d,z,ne,ob,mA,n,r,q⟩:=(show WU P w H h a (.ins C dx fs) from hok a _ e)
 exact ⟨mA,⟨ob,n,ne⟩,r,q,z,d⟩
end
structure Cls (K:PySem.W.Frag) (C:Addr):Prop where
 pg:PySem.W.plainGet K C Str.empty=true
 hd:PySem.W.hasDictIn K C=true
 po:PySem.W.plainOver K C=true
 sa:PySem.W.findIn K (.ref C) "__setattr__"=some (some (.builtin "object.__setattr__"))
theorem Cls.get {K:PySem.W.Frag}{C:Addr} (c:Cls K C) (f:Str):PySem.W.plainGet K C f=true:=c.pg
def ZF (K:PySem.W.Frag) (C:Addr) (f:Str):Prop:=PySem.W.findIn K (.ref C) f=some none
theorem ZF.taker {K:PySem.W.Frag}{C:Addr}{f:Str} (n:ZF K C f):PySem.W.takerIn K C f=some none:=by
 unfold PySem.W.takerIn
 rw [show PySem.W.findIn K (.ref C) f=some none from n]
 rfl
structure Meth (K:PySem.W.Frag) (C:Addr) (m:Str) (f:Addr):Prop where
 at_:PySem.W.findIn K (.ref C) m=some (some (.ref f))
 fn:PySem.W.isFn K (.ref f)=true
 kp:PySem.W.keepIn K (.ref f)=true
section
variable {X:Cx}{pins:List (Addr×Obj)}{σ:St}{H:Hp}{s:Shared}{a C dx:Addr}{fs:List (Str×V)}{f:Str}{v:V}{A:Around}{E:Value→Shared→Prop}
theorem ZbR {b:Bool}{Q:Value→Shared→Prop} (I:Inv X pins σ H s) (e:H a=some (.ins C dx fs)) (c:Cls X.K C) (n:ZF X.K C f) (l:fs.lookup f=some v)
  (h:∀ u s',Inv X pins σ H s'→RelV v u→Q u s'):wpAny (model X.prog X.w) A (getAttr (.ref a) f b) Q E s:=by
 obtain ⟨mA,O,r,_,_,_⟩:=Zej I.hok e
 obtain ⟨u,hu,ru⟩:=RelO.some_of (v:=v) (o:=mA f) (by rw [← l];exact r f)
 exact ZiC I.kIn O (c.get f) c.hd n hu (Zgr ru) (h u _ (I.tok _) ru)
theorem JV {m:Str}{g:Addr}{pl:Sem Bool}{Q:Value×List Value→Shared→Prop} (I:Inv X pins σ H s) (e:H a=some (.ins C dx fs)) (c:Cls X.K C) (k:Meth X.K C m g) (l:fs.lookup m=none)
  (h:Q (.ref g,[.ref a]) s):wpAny (model X.prog X.w) A (getMethod (.ref a) m pl) Q E s:=by
 obtain ⟨mA,O,r,_,_,_⟩:=Zej I.hok e
 have hn:mA m=none:=RelO.none_of (by rw [← l];exact r m)
 exact Zhs I.kIn O (c.get m) k.at_ k.fn hn h
theorem ZbE {y:V}{u:Value}{Q:Unit→Shared→Prop} (I:Inv X pins σ H s) (e:H a=some (.ins C dx fs)) (c:Cls X.K C) (n:ZF X.K C f) (hl:fs.length<1000) (ry:RelV y u)
  (h:∀ s',Inv X pins σ (upd H a (.ins C dx (putF f y fs))) s'→Q () s'):wpAny (model X.prog X.w) A (setAttr (.ref a) f u) Q E s:=by
 obtain ⟨mA,O,r,wi,_,ho⟩:=Zej I.hok e
 have hz:(fs.map (·.1)).length≤sizeLine:=by rw [List.length_map,sizeLine_eq];omega
 refine Zh9 I.kIn O c.sa c.po n.taker c.hd wi hz fun h' O' sb=>h _ ?_
 have hd:∃ o,h'.get? dx=some o:=let ⟨o,_,_,e',_⟩:=O'.ns;⟨o,e'⟩
 refine I.write (x:=a) (e:=dx) (by rw [e];exact True.intro) (.inr ho) (fun b q hb z=>(sb.2 b hb).trans z) hd ?_
 refine ⟨by rw [Zi O.ne];exact ho,?_,O.ne,O'.obj,_,O'.ns,fun g=>?_,fun g hg=>?_⟩
 ·have:=UJ f y fs;omega
 ·show RelO ((putF f y fs).lookup g) (if g=f then some u else mA g)
  rw [Za0]
  by_cases q:g=f
  ·rw [if_pos q,if_pos q];exact ry
  ·rw [if_neg q,if_neg q];exact r g
 ·by_cases q:g=f
  ·rw [q];exact (Za4 f y fs).1
  ·refine (Za4 f y fs).2 g (wi g fun z=>hg ?_)
   show (if g=f then some u else mA g)=none
   rw [if_neg q];exact z
theorem Inv.made (I:Inv X pins σ H s):Inv X pins σ (upd (upd H s.heap.objs.size (.own (s.heap.objs.size+1))) (s.heap.objs.size+1) (.ins C s.heap.objs.size []))
  { s with heap:=(s.heap.push PySem.W.emptyDict).push (PySem.W.instObj C s.heap.objs.size) }:=by
 have e1:(s.heap.push PySem.W.emptyDict).get? s.heap.objs.size=some PySem.W.emptyDict:=Heap.get?_push_size s.heap rfl
 have e2:((s.heap.push PySem.W.emptyDict).push (PySem.W.instObj C s.heap.objs.size)).get? (s.heap.objs.size+1)=some (PySem.W.instObj C s.heap.objs.size):=by
  have:=Heap.get?_push_size (s.heap.push PySem.W.emptyDict) (o:=PySem.W.instObj C s.heap.objs.size) rfl
  rwa [Heap.size_push] at this
 have e3:(s.heap.push PySem.W.emptyDict).Ns s.heap.objs.size (fun _=>none):=⟨PySem.W.emptyDict,#[],_,e1,rfl,(fun e he=>absurd he (by simp)),fun _=>rfl⟩
 have I1:=I.laid (a:=s.heap.objs.size) (o:=.own (s.heap.objs.size+1)) (h':=s.heap.push PySem.W.emptyDict) (t':=s.toks) (fun b u q=>Heap.get?_push_of_some _ q) (Nat.le_refl _) ⟨_,e1⟩
 refine I1.laid (a:=s.heap.objs.size+1) (o:=.ins C s.heap.objs.size []) (t':=s.toks) (fun b u q=>Heap.get?_push_of_some _ q) (Nat.le_of_eq (Heap.size_push _ _)) ?_
 have ne:s.heap.objs.size≠s.heap.objs.size+1:=Nat.ne_of_lt (Nat.lt_succ_self _)
 refine ⟨by rw [Zi ne,Ze],Nat.zero_le _,ne,e2,fun _=>none,(Heap.Ns1.of_empty e3).at fun o q=>Heap.get?_push_of_some _ q,fun _=>True.intro,fun y hy=>absurd rfl hy⟩
theorem ZiQ {prog:Program}{w:World}{env:Env}{e:Expr}{f:Str}{pos:Pos}{s:Shared}{Q:Value→Shared→Prop} (hb:attributeBase e f env (eval e env)=eval e env)
  (h:wpAny (model prog w) A (eval e env) (fun o s₁=>wpAny (model prog w) A (getAttr o f true) Q E s₁) E s):wpAny (model prog w) A (eval (.Attribute e f pos) env) Q E s :=
 Attribute_any_ h (by rw [arm_eval_Attribute,hb])
end
def tFld (K:PySem.W.Frag) (ta:TE) (f:Str):TE:=fun σ H Q=>ta σ H fun x H1=>∃ a C dx fs v,x=.ref a∧H1 a=some (.ins C dx fs)∧Cls K C∧ZF K C f∧fs.lookup f=some v∧Q v H1
def sFld (K:PySem.W.Frag) (ta tv:TE) (f:Str):TS:=fun D σ H=>tv σ H fun y H1=>ta σ H1 fun x H2=>∃ a C dx fs,x=.ref a∧H2 a=some (.ins C dx fs)∧Cls K C∧ZF K C f∧fs.length<1000 ∧
 D.nx σ (upd H2 a (.ins C dx (putF f y fs)))
def InOp (X:Cx) (op:Operator) (rd:V→V→Hp→VK→Prop):Prop :=
 ∀ (pins:List (Addr×Obj)) (s:Shared) (σ:St) (H:Hp) (x y:V) (u v:Value) (Q:VK),Inv X pins σ H s→RelV x u→RelV y v→rd x y H Q→wpAny (model X.prog X.w) X.A (inplaceOp op u v) (EP X pins σ Q) X.xe s
def ZaP (K:PySem.W.Frag) (ta tv:TE) (rd:V→V→Hp→VK→Prop) (f:Str):TS:=fun D σ H=>ta σ H fun x H1=>∃ a C dx fs v,x=.ref a∧H1 a=some (.ins C dx fs)∧Cls K C∧ZF K C f∧fs.lookup f=some v ∧
 tv σ H1 fun y H2=>rd v y H2 fun z H3=>∃ dx' fs',H3 a=some (.ins C dx' fs')∧fs'.length<1000∧D.nx σ (upd H3 a (.ins C dx' (putF f z fs')))
section
variable {X:Cx}{o e value:Expr}{f:Str}{pos pos' tpos:Pos}{ta tv:TE}
theorem Zv (he:PE X e ta) (hb:attributeBase e f X.env (eval e X.env)=eval e X.env):PE X (.Attribute e f pos) (tFld X.K ta f):=by
 intro pins s σ H Q I h
 refine ZiQ hb (thn (he pins s σ H _ I h) fun u s1 ⟨x,H1,I1,rx,a,C,dx,fs,v,ex,ea,c,n,l,q⟩=>?_)
 subst ex
 obtain rfl:u=Value.ref a:=rx
 exact ZbR I1 ea c n l fun u' s2 I2 ru=>⟨v,H1,I2,ru,q⟩
theorem ZN (ha:PE X o ta) (hv:PE X value tv) (hs:swapsWith value (some (.Attribute o f pos')) pos.line X.env=pure false):PS X (.Assign [.Attribute o f pos'] value pos) (sFld X.K ta tv f):=by
 intro pins s σ H D I h
 refine plainObj_wpAny_Assign_Attribute (thn (hv pins s σ H _ I h) fun u s1 ⟨y,H1,I1,ry,q⟩=>thn (ha pins s1 σ H1 _ I1 q) fun ov s2 ⟨x,H2,I2,rx,a,C,dx,fs,ex,ea,c,n,l,q2⟩=>?_) hs
 subst ex
 obtain rfl:ov=Value.ref a:=rx
 exact ZbE I2 ea c n l ry fun s3 I3=>⟨σ,_,I3,q2⟩
theorem VG {op:Operator}{rd:V→V→Hp→VK→Prop} (ha:PE X o ta) (hv:PE X value tv) (hop:InOp X op rd):PS X (.AugAssign (.Attribute o f tpos) op value pos) (ZaP X.K ta tv rd f):=by
 intro pins s σ H D I h
 refine wpAny_AugAssign_AttributeAny (thn (ha pins s σ H _ I h) fun ov s1 ⟨x,H1,I1,rx,a,C,dx,fs,v,ex,ea,c,n,l,q⟩=>?_)
 subst ex
 obtain rfl:ov=Value.ref a:=rx
 refine ZbR I1 ea c n l fun u s2 I2 ru=>thn (hv pins s2 σ H1 _ I2 q) fun w3 s3 ⟨y,H2,I3,ry,q3⟩=>thn (hop pins s3 σ H2 v y u w3 _ I3 ru ry q3) fun w4 s4 ⟨z,H3,I4,rz,dx',fs',ea',l',q4⟩=>?_
 exact ZbE I4 ea' c n l' rz fun s5 I5=>⟨σ,_,I5,q4⟩
def rAdd:V→V→Hp→VK→Prop:=fun x y H Q=>∃ i j,x=.int i∧y=.int j∧Q (.int (i+j)) H
theorem Zds:InOp X .Add rAdd:=by
 rintro pins s σ H x y u v Q I rx ry ⟨i,j,rfl,rfl,q⟩
 obtain ⟨t,rfl⟩:=(show ∃ t,u=Value.int i t from rx)
 obtain ⟨t',rfl⟩:=(show ∃ t',v=Value.int j t' from ry)
 exact PyProof.Rows.iadd_int ⟨.int (i+j),H,I.tok _,⟨_,rfl⟩,q⟩
theorem Zit {pl:Sem Bool}{m:Str}{apos:Pos}{args:List Expr}{pins:List (Addr×Obj)}{s:Shared}{σ:St}{H:Hp}{Q:Value→Shared→Prop}{te:TE} (he:PE X e te) (I:Inv X pins σ H s)
  (h:te σ H fun x H1=>∃ a C dx fs g,x=.ref a∧H1 a=some (.ins C dx fs)∧Cls X.K C∧Meth X.K C m g∧fs.lookup m=none ∧
   ∀ s1,Inv X pins σ H1 s1→wpAny (model X.prog X.w) X.A (callWith pos (.ref g) [.ref a] (backTo pos (starEach args X.env)) (backToKw pos (keywordEach [] X.env))) Q X.xe s1)
  (ht:eval (.Call (.Attribute e m apos) args [] pos) X.env=(do
   let ov ← eval e X.env
   standAt apos.atName
   let (f,first) ← holding [ov] (getMethod ov m pl)
   callWith pos f first (backTo pos (starEach args X.env)) (backToKw pos (keywordEach [] X.env)))) :
  wpAny (model X.prog X.w) X.A (eval (.Call (.Attribute e m apos) args [] pos) X.env) Q X.xe s:=by
 refine PySem.W.methodCall_KW (pl:=pl) (thn (he pins s σ H _ I h) fun u s1 ⟨x,H1,I1,rx,a,C,dx,fs,g,ex,ea,c,k,l,q⟩=>?_) ht
 subst ex
 obtain rfl:u=Value.ref a:=rx
 exact JV I1 ea c k l (q s1 I1)
end
section
variable {X:Cx}{pins:List (Addr×Obj)}{σ:St}{H:Hp}{s:Shared}{A:Around}{E:Value→Shared→Prop}{Q:Value→Shared→Prop}{c:Value}{b:Bool}
end
end L2
namespace L2
open PySem PySem.Spec PyProof.Rows
structure Room (k:Nat) (A:Around):Prop where
 hd:A.handled=none
 dp:A.depth+3 * k+5<recursionLimit
 un:A.units+16 * k+200<cLine
theorem Room.mono {j k:Nat}{A:Around} (r:Room k A) (h:j≤k):Room j A:=⟨r.hd,by have:=r.dp;omega,by have:=r.un;omega⟩
theorem Room.deeper {k:Nat}{A:Around} (r:Room (k+1) A) (env:Env):Room k (A.deeper env) :=
 ⟨r.hd,by have:=r.dp;show A.depth+1+3 * k+5<_;omega,by have:=r.un;show A.units+3+16 * k+200<_;omega⟩
theorem Zfp {A:Around}{C:Addr}{us:List Value}{kw:List (Str×Value)}:(A.under (.builtin "type.__call__" ⟨.ref C::us,kw⟩)).depth=A.depth+1:=by
 first | rfl | simp [Around.under,Code.weight,Code.isCreation,Code.isGuard,Code.isCaller,Code.frames,Code.isFrame,guardIds]
theorem Zfo {A:Around}{C:Addr}{us:List Value}{kw:List (Str×Value)}:(A.under (.builtin "type.__call__" ⟨.ref C::us,kw⟩)).units=A.units+1:=by
 first | rfl | simp [Around.under,Code.cUnits,Code.frames,Code.isFrame]
theorem Room.make {k:Nat}{A:Around} (r:Room (k+1) A) (C:Addr) (us:List Value) (kw:List (Str×Value)):Room k (A.under (.builtin "type.__call__" ⟨.ref C::us,kw⟩)) :=
 ⟨r.hd,by have:=r.dp;rw [Zfp];omega,by have:=r.un;rw [Zfo];omega⟩
theorem Room.depth {k:Nat}{A:Around} (r:Room k A):A.depth<recursionLimit:=by have:=r.dp;omega
theorem Room.units {k:Nat}{A:Around} (r:Room k A):A.units+64<cLine:=by have:=r.un;omega
def tNil:TA:=fun _ H Q=>Q [] H
def Ze9 (ta:TE) (tr:TA):TA:=fun σ H Q=>ta σ H fun x H1=>tr σ H1 fun xs H2=>Q (x::xs) H2
section
variable {X:Cx}{e:Expr}{es:List Expr}{te:TE}{t:TA}{pos:Pos}
theorem Zd:PA X [] tNil:=fun _ _ _ _ H Q I h=>Calls.spliced_nil ⟨[],H,I,.nil,h⟩
theorem Za (ha:PE X e te) (hr:PA X es t) (hs:starEach (e::es) X.env=(false,eval e X.env)::starEach es X.env:=by rfl):PA X (e::es) (Ze9 te t):=by
 intro pos pins s σ H Q I h
 rw [hs]
 show wpAny _ _ (spliced ((false,eval e X.env)::backTo pos (starEach es X.env))) _ _ s
 refine Calls.spliced_cons (thn (ha pins s σ H _ I h) fun u s1 ⟨x,H1,I1,r1,q1⟩=>?_)
 exact thn (hr pos pins s1 σ H1 _ I1 q1) fun us s2 ⟨xs,H2,I2,r2,q2⟩=>⟨x::xs,H2,I2,.cons r1 r2,q2⟩
def tTup (t:TA):TE:=fun σ H Q=>t σ H fun xs H1=>xs.length≤sizeLine∧∀ p,H1 p=none→Q (.ref p) (upd H1 p (.tup xs))
def tLst (t:TA):TE:=fun σ H Q=>t σ H fun xs H1=>xs.length≤sizeLine∧∀ p,H1 p=none→Q (.ref p) (upd H1 p (.lst xs))
theorem Wj {x1} (h:PA X es t):PE X (.Tuple es x1 pos) (tTup t):=by
 intro pins s σ H Q I hq
 refine wpAny_Tuple_spliced (thn (h pos pins s σ H _ I hq) fun us s1 ⟨xs,H1,I1,r,z,q⟩=>⟨by rw [← r.length];exact z,?_⟩)
 have hf:H1 s1.heap.objs.size=none:=I1.hok.fresh (Nat.le_refl _)
 refine ⟨.ref s1.heap.objs.size,upd H1 s1.heap.objs.size (.tup xs),I1.laid (t':=s1.toks) (fun b u e=>Heap.get?_push_of_some _ e) (Nat.le_refl _) ?_,rfl,q _ hf⟩
 exact ⟨z,us,r,⟨_,Heap.get?_push_size _ rfl,rfl,_,rfl⟩⟩
theorem YR (h:PA X es t):PE X (.List es pos) (tLst t):=by
 intro pins s σ H Q I hq
 refine wpAny_List_spliced (thn (h pos pins s σ H _ I hq) fun us s1 ⟨xs,H1,I1,r,z,q⟩=>⟨by rw [← r.length];exact z,?_⟩)
 have hf:H1 s1.heap.objs.size=none:=I1.hok.fresh (Nat.le_refl _)
 refine ⟨.ref s1.heap.objs.size,upd H1 s1.heap.objs.size (.lst xs),I1.laid (t':=s1.toks) (fun b u e=>Heap.get?_push_of_some _ e) (Nat.le_refl _) ?_,rfl,q _ hf⟩
 exact ⟨z,us,0,r,Heap.get?_push_size _ rfl⟩
end
abbrev Sp:=List V→Hp→VK→XK→Prop
abbrev CXT:=List Env→Hp→Shared→XK→Value→Shared→Prop
structure Env0 (P:Program) (w:World) (K:PySem.W.Frag) (mg:Str→Option Value) (base:Heap) (A:Around) (outer:List Env) (s:Shared) (H:Hp):Prop where
 frames:A.frames=some outer
 mod:Mod K mg base
 bs:∀ b o,base.get? b=some o→s.heap.get? b=some o∧H b=none
 bsz:base.objs.size≤s.heap.objs.size
 funs:s.heap.FunFrames base outer
 frf:∀ b∈frs outer,H b=none
 hok:HOk P w H s.heap
 bare:AllBare s.gens
def CE (outer:List Env) (P:Program) (w:World) (H:Hp) (s:Shared) (Q:VK) (u:Value) (s':Shared):Prop :=
 ∃ v H',s'.os=s.os∧AllBare s'.gens∧Un (frs outer) [] H H' s.heap s'.heap∧HOk P w H' s'.heap∧RelV v u∧Q v H'
def CR (CX:CXT) (outer:List Env) (P:Program) (w:World) (H:Hp) (s:Shared) (Q:VK) (E:XK) (r:Result) (s':Shared):Prop :=
 match r with
 | .ok (.ret u)=>CE outer P w H s Q u s'
 | .ok _=>False
 | .error e=>CX outer H s E e s'
structure FnOk (P:Program) (w:World) (K:PySem.W.Frag) (mg:Str→Option Value) (base:Heap) (CX:CXT) (k:Nat) (f:Addr) (fd:FuncData) (ps:List Str) (sp:Sp):Prop where
 len:∀ vs H Q E,sp vs H Q E→vs.length=ps.length
 run:∀ (A:Around) (outer:List Env) (s:Shared) (H:Hp) (args:Args) (us:List Value) (vs:List V) (Q:VK) (E:XK),Room k A→Env0 P w K mg base A outer s H→BindsTo s fd args (ps.zip us)→Vals vs us→sp vs H Q E →
  codeAny (model P w) A (.call (.ref f) args) (CR CX outer P w H s Q E) s
theorem Env0.make {P:Program}{w:World}{K:PySem.W.Frag}{mg:Str→Option Value}{base:Heap}{A:Around}{outer:List Env}{s:Shared}{H:Hp} (e:Env0 P w K mg base A outer s H) (C:Addr) (us:List Value) (kw:List (Str×Value)) :
  Env0 P w K mg base (A.under (.builtin "type.__call__" ⟨.ref C::us,kw⟩)) outer s H:=⟨by first | exact e.frames | (simpa [Around.under,Code.envs,Code.isFrame,pushEnvs] using e.frames),e.mod,e.bs,e.bsz,e.funs,e.frf,e.hok,e.bare⟩
section
variable {X:Cx}{pins:List (Addr×Obj)}{σ:St}{H:Hp}{s s':Shared}
theorem Inv.env0 (I:Inv X pins σ H s):Env0 X.prog X.w X.K X.mg X.base X.A X.stack s H :=
 ⟨I.ok.frames,I.ok.mod,I.bs,Nat.le_trans I.ok.bsz I.sz,I.stack,I.stkFree,I.hok,I.bare⟩
theorem Inv.after {Q:VK}{u:Value} (I:Inv X pins σ H s) (h:CE X.stack X.prog X.w H s Q u s'):EP X pins σ Q u s':=by
 obtain ⟨v,H',os,bare,un,hok,r,q⟩:=h
 obtain ⟨hh,g,d,t,os'⟩:=s'
 obtain rfl:os'=s.os:=os
 exact ⟨v,H',I.call (h':=hh) (g':=g) (d':=d) (t':=t) (ch:=[]) un hok bare (fun b z=>absurd z (by simp)),r,q⟩
end
def Zbi (sp:Sp) (dvs:List V) (E:XK) (t:TA):TE:=fun σ H Q=>t σ H fun vs H1=>sp (vs++dvs) H1 Q E
def Zb6 (C:Addr) (m:Str) (sp:Sp) (dvs:List V) (E:XK) (ta:TE) (t:TA):TE:=fun σ H Q=>ta σ H fun x H1=>∃ a dx fs,x=.ref a∧H1 a=some (.ins C dx fs)∧fs.lookup m=none ∧
 t σ H1 fun vs H2=>sp (x::(vs++dvs)) H2 Q E
def ZcS (C:Addr) (sp:Sp) (dvs:List V) (E:XK) (t:TA):TE:=fun σ H Q=>t σ H fun vs H1=>∀ x dx,H1 x=none→H1 dx=none→dx≠x →
 sp (.ref x::(vs++dvs)) (upd (upd H1 dx (.own x)) x (.ins C dx [])) (fun v H2=>v=.non∧Q (.ref x) H2) E
def ZB (K:PySem.W.Frag) (fd:FuncData) (ps:List Str) (ds:List Value):Prop :=
 ∀ (s:Shared) (us:List Value),K.In s.heap→(us++ds).length=ps.length→BindsTo s fd ⟨us,[]⟩ (ps.zip (us++ds))
theorem ZB.all {K:PySem.W.Frag}{fd:FuncData}{ps:List Str} (h:∀ us:List Value,us.length=ps.length→bindArgs fd ⟨us,[]⟩=pure (ps.zip us)):ZB K fd ps []:=fun s us _ hl=>by
 rw [List.append_nil] at hl ⊢
 exact .of_eq (h us hl)
def WC (CX:CXT) (X:Cx) (E:XK):Prop:=∀ (pins:List (Addr×Obj)) (σ:St) (H:Hp) (s:Shared) (e:Value) (s':Shared),Inv X pins σ H s→CX X.stack H s E e s'→X.xe e s'
section
variable {X:Cx}{CX:CXT}{k:Nat}{f C:Addr}{fd:FuncData}{ps:List Str}{sp:Sp}{dvs:List V}{ds:List Value}{E:XK}{x m:Str}{p pos apos:Pos}{e o:Expr}{es:List Expr}{ta:TE}{t:TA}
theorem ZfV {pins:List (Addr×Obj)}{σ:St}{H:Hp}{s:Shared}{Q:VK}{us:List Value}{vs:List V} (F:FnOk X.prog X.w X.K X.mg X.base CX k f fd ps sp) (hr:Room k X.A) (hb:ZB X.K fd ps ds) (hd:Vals dvs ds) (hx:WC CX X E)
  (I:Inv X pins σ H s) (r:Vals vs us) (h:sp (vs++dvs) H Q E):wpAny (model X.prog X.w) X.A (call (.ref f) us) (EP X pins σ Q) X.xe s:=by
 have r2:Vals (vs++dvs) (us++ds):=r.append hd
 have hl:(us++ds).length=ps.length:=by rw [← r2.length];exact F.len _ _ _ _ h
 refine wpAny_call (codeAny_mono (F.run X.A X.stack s H ⟨us,[]⟩ (us++ds) (vs++dvs) Q E hr I.env0 (hb s us I.kIn hl) r2 h) fun r s' hq=>?_)
 cases r with
 | error e=>exact hx pins σ H s e s' I hq
 | ok fl =>
  cases fl with
  | ret u=>exact I.after hq
  | next=>exact False.elim hq
  | brk=>exact False.elim hq
  | cont=>exact False.elim hq
theorem Zik (F:FnOk X.prog X.w X.K X.mg X.base CX k f fd ps sp) (hr:Room k X.A) (hg:Gl X x) (hm:X.mg x=some (.ref f)) (hk:PySem.W.keepIn X.K (.ref f)=true) (hb:ZB X.K fd ps ds) (hd:Vals dvs ds) (hx:WC CX X E)
  (ha:PA X (e::es) t) (hdb:(x==("__debug__":Str))=false:=by decide) (he:starEach (e::es) X.env=(false,eval e X.env)::starEach es X.env:=by rfl) (hpl:(backTo pos (starEach es X.env)).any (·.1)=false:=by rfl) :
  PE X (.Call (.Name x p) (e::es) [] pos) (Zbi sp dvs E t):=by
 intro pins s σ H Q I h
 refine wpAny_Call_Name_kw (UK I hg hm ?_ hdb)
 refine PySem.W.callWith_K (h₀:=X.base) I.ok.mod.kin hk (thn (ha pos pins s σ H _ I h) fun us s1 ⟨vs,H1,I1,r,q⟩=>⟨I1.kIn,?_⟩) he hpl
 exact ZfV F hr hb hd hx I1 r q
theorem Zii {pl:Sem Bool} (he:PE X o ta) (c:Cls X.K C) (hm:Meth X.K C m f) (F:FnOk X.prog X.w X.K X.mg X.base CX k f fd ps sp) (hr:Room k X.A) (hb:ZB X.K fd ps ds) (hd:Vals dvs ds) (hx:WC CX X E) (ha:PA X (e::es) t)
  (hst:starEach (e::es) X.env=(false,eval e X.env)::starEach es X.env:=by rfl) (hpl:(backTo pos (starEach es X.env)).any (·.1)=false:=by rfl)
  (ht:eval (.Call (.Attribute o m apos) (e::es) [] pos) X.env=(do
   let ov ← eval o X.env
   standAt apos.atName
   let (f,first) ← holding [ov] (getMethod ov m pl)
   callWith pos f first (backTo pos (starEach (e::es) X.env)) (backToKw pos (keywordEach [] X.env))):=by rfl) :
  PE X (.Call (.Attribute o m apos) (e::es) [] pos) (Zb6 C m sp dvs E ta t):=by
 intro pins s σ H Q I h
 refine PySem.W.methodCall_KW (pl:=pl) (thn (he pins s σ H _ I h) fun u s1 ⟨x,H1,I1,rx,a,dx,fs,ex,ea,l,q⟩=>?_) ht
 subst ex
 obtain rfl:u=Value.ref a:=rx
 refine JV I1 ea c hm l ?_
 refine PySem.W.callWith_K (first:=[.ref a]) (h₀:=X.base) I.ok.mod.kin hm.kp (thn (ha pos pins s1 σ H1 _ I1 q) fun us s2 ⟨vs,H2,I2,r,q2⟩=>⟨I2.kIn,?_⟩) hst hpl
 exact ZfV (us:=.ref a::us) (vs:=.ref a::vs) F hr hb hd hx I2 (.cons rfl r) q2
theorem Zg4 {pl:Sem Bool} (he:PE X o ta) (c:Cls X.K C) (hm:Meth X.K C m f) (F:FnOk X.prog X.w X.K X.mg X.base CX k f fd ps sp) (hr:Room k X.A) (hb:ZB X.K fd ps ds) (hd:Vals dvs ds) (hx:WC CX X E)
  (ht:eval (.Call (.Attribute o m apos) [] [] pos) X.env=(do
   let ov ← eval o X.env
   standAt apos.atName
   let (f,first) ← holding [ov] (getMethod ov m pl)
   callWith pos f first (backTo pos (starEach [] X.env)) (backToKw pos (keywordEach [] X.env))):=by rfl) :
  PE X (.Call (.Attribute o m apos) [] [] pos) (Zb6 C m sp dvs E ta tNil):=by
 intro pins s σ H Q I h
 refine PySem.W.methodCall_KW (pl:=pl) (thn (he pins s σ H _ I h) fun u s1 ⟨x,H1,I1,rx,a,dx,fs,ex,ea,l,q⟩=>?_) ht
 subst ex
 obtain rfl:u=Value.ref a:=rx
 refine JV I1 ea c hm l ?_
 exact PySem.W.callWith_K0 (first:=[.ref a]) I1.kIn hm.kp (ZfV (us:=[.ref a]) (vs:=[.ref a]) F hr hb hd hx I1 (.cons rfl .nil) q)
structure Mk (K:PySem.W.Frag) (C f:Addr):Prop where
 makes:PySem.W.makesIn K C=true
 init:PySem.W.findIn K (.ref C) "__init__"=some (some (.ref f))
 fn:PySem.W.isFn K (.ref f)=true
 kp:PySem.W.keepIn K (.ref C)=true
theorem Zg1 {pins:List (Addr×Obj)}{σ:St}{H:Hp}{s:Shared}{Q:VK}{us:List Value}{vs:List V} (M:Mk X.K C f) (F:FnOk X.prog X.w X.K X.mg X.base CX k f fd ps sp) (hr:Room (k+1) X.A) (hb:ZB X.K fd ps ds) (hd:Vals dvs ds)
  (hx:WC CX X E) (I:Inv X pins σ H s) (r:Vals vs us)
  (h:∀ x dx,H x=none→H dx=none→dx≠x→sp (.ref x::(vs++dvs)) (upd (upd H dx (.own x)) x (.ins C dx [])) (fun v H2=>v=.non∧Q (.ref x) H2) E) :
  wpAny (model X.prog X.w) X.A (call (.ref C) us) (EP X pins σ Q) X.xe s:=by
 have hq:=h (s.heap.objs.size+1) s.heap.objs.size (I.hok.fresh (Nat.le_succ _)) (I.hok.fresh (Nat.le_refl _)) (Nat.ne_of_lt (Nat.lt_succ_self _))
 have I2:=Inv.made (C:=C) I
 have r2:Vals (V.ref (s.heap.objs.size+1)::(vs++dvs)) (Value.ref (s.heap.objs.size+1)::(us++ds)):=.cons rfl (r.append hd)
 have hl:(Value.ref (s.heap.objs.size+1)::us++ds).length=ps.length:=by
  have e:=r2.length
  rw [F.len _ _ _ _ hq] at e
  exact e.symm
 refine wpAny_call (Zhl (f:=f) I.kIn M.makes M.init (beq_iff_eq.mp M.fn) (codeAny_mono (F.run _ X.stack _ _ ⟨Value.ref (s.heap.objs.size+1)::us,[]⟩ (Value.ref (s.heap.objs.size+1)::(us++ds)) _ _ E (hr.make C us [])
  (I2.env0.make C us []) (hb _ (Value.ref (s.heap.objs.size+1)::us) I2.kIn hl) r2 hq) fun r s' hq'=>?_))
 cases r with
 | error e=>exact hx pins σ _ _ e s' I2 hq'
 | ok fl =>
  cases fl with
  | ret u =>
   obtain ⟨v,H',I3,rv,ev,q3⟩:=I2.after hq'
   subst ev
   exact ⟨rv,⟨V.ref (s.heap.objs.size+1),H',I3,rfl,q3⟩⟩
  | next=>exact False.elim hq'
  | brk=>exact False.elim hq'
  | cont=>exact False.elim hq'
theorem Zij (M:Mk X.K C f) (F:FnOk X.prog X.w X.K X.mg X.base CX k f fd ps sp) (hr:Room (k+1) X.A) (hg:Gl X x) (hm:X.mg x=some (.ref C)) (hb:ZB X.K fd ps ds) (hd:Vals dvs ds) (hx:WC CX X E)
  (ha:PA X (e::es) t) (hdb:(x==("__debug__":Str))=false:=by decide) (he:starEach (e::es) X.env=(false,eval e X.env)::starEach es X.env:=by rfl) (hpl:(backTo pos (starEach es X.env)).any (·.1)=false:=by rfl) :
  PE X (.Call (.Name x p) (e::es) [] pos) (ZcS C sp dvs E t):=by
 intro pins s σ H Q I h
 refine wpAny_Call_Name_kw (UK I hg hm ?_ hdb)
 refine PySem.W.callWith_K (h₀:=X.base) I.ok.mod.kin M.kp (thn (ha pos pins s σ H _ I h) fun us s1 ⟨vs,H1,I1,r,q⟩=>⟨I1.kIn,?_⟩) he hpl
 exact Zg1 M F hr hb hd hx I1 r q
end
section
variable {X:Cx}{CX:CXT}{k:Nat}{f C:Addr}{fd:FuncData}{ps ks:List Str}{sp:Sp}{E:XK}{x m:Str}{p pos apos kpos:Pos}{e o:Expr}{es:List Expr}{kws:List Keyword}{te ta:TE}{t tk:TA}{nm:Option Str}
variable {g:List Value→List Value→List Value}{gV:List V→List V→List V}
end
structure Zp (N P:List Str) (sc:Scope):Prop where
 kind:sc.kind=.function
 co:sc.isCoroutine=false
 gen:sc.isGenerator=false
 nd:N.Nodup
 pre:N.take P.length=P
 par:∀ x∈P,sc.names.lookup x=some .local∨sc.names.lookup x=some .cell
 nofree:∀ y∈sc.names,y.2≠.free
theorem ZdG {kindOf:Str→Option NameKind}{x:Str}:∀ {binds:List (Str×Value)}{m:Str→Option Value},(∀ v,(x,v) ∉ binds)→bindL kindOf binds m x=m x
 | [],_,_=>rfl
 | (n,v)::r,m,h=>by
  unfold bindL
  rw [ZdG fun w hw=>h w (List.mem_cons_of_mem _ hw)]
  split
  ·have:x≠n:=by rintro rfl;exact h v List.mem_cons_self
   simp [this]
  ·rfl
theorem ZdI {kindOf:Str→Option NameKind}{x:Str}:∀ {binds:List (Str×Value)}{m:Str→Option Value},(∀ v,(x,v) ∉ binds)→bindC kindOf binds m x=m x
 | [],_,_=>rfl
 | (n,v)::r,m,h=>by
  unfold bindC
  rw [ZdI fun w hw=>h w (List.mem_cons_of_mem _ hw)]
  split
  ·rfl
  ·have:x≠n:=by rintro rfl;exact h v List.mem_cons_self
   simp [this]
theorem ZdH {kindOf:Str→Option NameKind}{x:Str}{v:Value}:∀ {P:List Str}{vs:List Value}{i:Nat}{m:Str→Option Value},P.Nodup→P[i]?=some x→vs[i]?=some v→kindOf x=some .local →
  bindL kindOf (P.zip vs) m x=some v
 | [],_,_,_,_,h,_,_=>by simp at h
 | _::_,[],_,_,_,_,h,_=>by simp at h
 | p::P,w::vs,0,m,nd,h1,h2,hk=>by
  simp at h1 h2;subst h1;subst h2
  show bindL kindOf ((p,w)::P.zip vs) m p=_
  unfold bindL
  rw [ZdG fun v hv=>(List.nodup_cons.mp nd).1 (List.of_mem_zip hv).1,if_pos hk]
  simp
 | p::P,w::vs,i+1,m,nd,h1,h2,hk=>by
  show bindL kindOf ((p,w)::P.zip vs) m x=_
  unfold bindL
  exact ZdH (i:=i) (List.nodup_cons.mp nd).2 (by simpa using h1) (by simpa using h2) hk
theorem ZdJ {kindOf:Str→Option NameKind}{x:Str}{v:Value}:∀ {P:List Str}{vs:List Value}{i:Nat}{m:Str→Option Value},P.Nodup→P[i]?=some x→vs[i]?=some v→kindOf x≠some .local →
  bindC kindOf (P.zip vs) m x=some v
 | [],_,_,_,_,h,_,_=>by simp at h
 | _::_,[],_,_,_,_,h,_=>by simp at h
 | p::P,w::vs,0,m,nd,h1,h2,hk=>by
  simp at h1 h2;subst h1;subst h2
  show bindC kindOf ((p,w)::P.zip vs) m p=_
  unfold bindC
  rw [ZdI fun v hv=>(List.nodup_cons.mp nd).1 (List.of_mem_zip hv).1,if_neg hk]
  simp
 | p::P,w::vs,i+1,m,nd,h1,h2,hk=>by
  show bindC kindOf ((p,w)::P.zip vs) m x=_
  unfold bindC
  exact ZdJ (i:=i) (List.nodup_cons.mp nd).2 (by simpa using h1) (by simpa using h2) hk
def start (N:List Str) (vs:List V):St:=vs.map some++List.replicate (N.length-vs.length) none
def cxOf (CX:CXT) (P:Program) (w:World) (K:PySem.W.Frag) (mg:Str→Option Value) (base:Heap) (N:List Str) (qual:Str) (scope:Scope) (f:Addr) (cd:Value) (A:Around) (outer:List Env) (s:Shared) (H:Hp) (E:XK):Cx where
 prog:=P
 w:=w
 K:=K
 mg:=mg
 base:=base
 A:=A.deeper (envOfC qual scope s.heap.objs.size f cd)
 N:=N
 s_0:=s
 H_0:=H
 env:=envOfC qual scope s.heap.objs.size f cd
 outer:=outer
 stack:=envOfC qual scope s.heap.objs.size f cd::outer
 ex:=[]
 calm:=true
 fn:=fun _=>true
 pn:=[]
 xe:=fun e s'=>wpAny (model P w) (A.deeper (envOfC qual scope s.heap.objs.size f cd)) (leaving (envOfC qual scope s.heap.objs.size f cd) e) (fun _ s''=>CX outer H s E e s'') (fun e' s''=>CX outer H s E e' s'') s'
theorem Ze0 {sc:Scope}{n:Nat}{x:Str} (h:sc.names.lookup x=some .cell):∃ c,(cellsFrom n sc.names []).lookup x=some c:=by
 have q:=PySem.W.cellsFrom_some sc.names n [] (.inl h)
 exact Option.isSome_iff_exists.mp q
theorem Zgo {CX:CXT}{P:Program}{w:World}{K:PySem.W.Frag}{mg:Str→Option Value}{base:Heap}{N ps:List Str}{qual:Str}{scope:Scope}{f:Addr}{cd:Value}{A:Around}{outer:List Env}{s s1:Shared}{H:Hp}{E:XK}{us:List Value}{vs:List V}
  (S:Zp N ps scope) (hd:A.handled=none) (e0:Env0 P w K mg base A outer s H) (hl:vs.length=ps.length) (r:Vals vs us)
  (x:InCallC s s.heap.objs.size (bindL (envOfC qual scope s.heap.objs.size f cd).kindOf (ps.zip us) fun _=>none) (cellsFrom (s.heap.objs.size+1) scope.names []) (bindC (envOfC qual scope s.heap.objs.size f cd).kindOf (ps.zip us) fun _=>none) s1) :
  Inv (cxOf CX P w K mg base N qual scope f cd A outer s H E) [] (start N vs) H s1:=by
 have hpl:ps.length≤N.length:=by have:=congrArg List.length S.pre;rw [List.length_take] at this;omega
 obtain ⟨h1,tk,rfl,hk⟩:=x.done
 have noA:∀ b:Addr,b ∉ (cxOf CX P w K mg base N qual scope f cd A outer s H E).ex:=fun b z=>absurd (show b∈([]:List Addr) from z) (by simp)
 refine ⟨⟨e0.mod,S.kind,rfl,rfl,Nat.le_refl _,fun y z c h1 h2=>?_,fun y hy=>?_,fun y c _ h=>?_,fun _=>hd,Around.frames_deeper e0.frames,.inr ⟨rfl,rfl⟩,fun b z=>absurd z (noA b),e0.bs,e0.bsz,fun b _ _=>noA b,fun b z=>absurd z (noA b),e0.funs,e0.frf⟩,
  rfl,e0.bare,Un.kept hk,⟨_,x.toInCall.ns,fun i y v h1 h2 h3=>?_⟩,fun y c h=>⟨_,x.cell y c h⟩,e0.hok.fresh (Nat.le_refl _),fun y c h=>?_,fun p hp=>absurd (show p∈([]:List (Addr×Obj)) from hp) (by simp),e0.hok.kept hk,?_⟩
 ·exact name_of_addr x.apart (PySem.mem_of_lookup h1) (PySem.mem_of_lookup h2)
 ·have hy:scope.names.lookup y=some .cell∨scope.names.lookup y=some .free:=hy
  rcases hy with hy | hy
  ·exact Ze0 hy
  ·exact absurd rfl (S.nofree _ (PySem.mem_of_lookup hy))
 ·exact Nat.le_of_lt (x.above y c (PySem.mem_of_lookup h))
 ·have hi:i<vs.length:=by
   unfold start at h2
   by_cases hi:i<vs.length
   ·exact hi
   ·rw [List.getElem?_append_right (by simpa using hi)] at h2
    rw [List.getElem?_replicate] at h2
    split at h2 <;> cases h2
  have ha:vs[i]?=some v:=by
   unfold start at h2
   rw [List.getElem?_append_left (by simpa using hi),List.getElem?_map] at h2
   cases e:vs[i]? with
   | none=>rw [e] at h2;cases h2
   | some a=>rw [e] at h2;cases h2;rfl
  obtain ⟨u,hu,rv⟩:=r.get ha
  have hp:ps[i]?=some y:=by
   rw [← S.pre,List.getElem?_take_of_lt (by omega)];exact h1
  have ndP:ps.Nodup:=by rw [← S.pre];exact S.nd.sublist (List.take_sublist _ _)
  refine ⟨u,rv,?_⟩
  rcases S.par y (List.mem_of_getElem? hp) with k | k
  ·exact .inl ⟨k,ZdH ndP hp hu k⟩
  ·obtain ⟨c,e⟩:=Ze0 (n:=s.heap.objs.size+1) k
   refine .inr ⟨.inl k,c,e,?_⟩
   have q:=x.cell y c e
   rw [ZdJ ndP hp hu (by show scope.names.lookup y≠_;rw [k];decide)] at q
   exact q
 ·exact e0.hok.fresh (Nat.le_of_lt (x.above y c (PySem.mem_of_lookup h)))
 ·unfold start
  show _=N.length
  rw [List.length_append,List.length_map,List.length_replicate]
  omega
theorem ZiI {CX:CXT}{P:Program}{w:World}{K:PySem.W.Frag}{mg:Str→Option Value}{base:Heap}{k:Nat}{f:Addr}{name qual:Str}{params:Arguments}{body:List Stmt}{scope:Scope}{dV kV doc pm cdv ct oc:Value}{an od:Option Addr}
  {osl:Array (Option Value)}{N ps:List Str}{sp:Sp} (lk:K.lookup f=some ⟨oc,od,.func (PySem.W.fnOf name qual params body scope dV kV doc pm an cdv ct),osl⟩) (hcd:PySem.W.codeIn K cdv qual=true) (S:Zp N ps scope)
  (len:∀ vs H Q E,sp vs H Q E→vs.length=ps.length)
  (hbody:∀ (A:Around) (outer:List Env) (s:Shared) (H:Hp) (vs:List V) (Q:VK) (E:XK),Room k (A.deeper (envOfC qual scope s.heap.objs.size f cdv))→sp vs H Q E →
   ∃ t,PSs (cxOf CX P w K mg base N qual scope f cdv A outer s H E) body t∧t { nx:=fun _ H'=>Q .non H',rt:=Q } (start N vs) H) :
  FnOk P w K mg base CX (k+1) f (PySem.W.fnOf name qual params body scope dV kV doc pm an cdv ct) ps sp:=by
 refine ⟨len,fun A outer s H args us vs Q E hr e0 hb r hsp=>?_⟩
 have hl:=len _ _ _ _ hsp
 have KX:K.In s.heap:=e0.mod.kin.keeps fun b o e=>(e0.bs b o e).1
 have lim:s.heap.NoLimit:=e0.mod.nolimit.keeps fun b o e=>(e0.bs b o e).1
 have hkind:∀ y∈ps.zip us,scope.names.lookup y.1=some .local∨(scope.names.lookup y.1=some .cell∧((cellsFrom (s.heap.objs.size+1) scope.names []).lookup y.1).isSome=true):=fun ⟨n,v⟩ hy=>by
  rcases S.par n (List.of_mem_zip hy).1 with q | q
  ·exact .inl q
  ·exact .inr ⟨q,PySem.W.cellsFrom_some _ _ _ (.inl q)⟩
 refine codeAny_call_function hr.depth (KX _ _ lk) rfl S.co S.gen rfl (PySem.W.codeRec_of KX hcd) (hb _ _ _ _ ?_)
 refine wpAny_newFunctionEnv_cells S.kind hkind fun env he s1 x=>?_
 subst he
 refine ⟨lim.keeps x.toInCall.keep,codeAny_func ?_⟩
 obtain ⟨t,ht,hq⟩:=hbody A outer s H vs Q E (hr.deeper _) hsp
 have I:Inv (cxOf CX P w K mg base N qual scope f cdv A outer s H E) [] (start N vs) H s1:=Zgo S hr.hd e0 hl r x
 refine wpAny_mono (ht [] s1 (start N vs) H _ I hq) (fun fl s' hs=>?_) fun e s' hs=>hs
 have fin:∀ {σ':St}{H':Hp}{v:V}{u:Value},Inv (cxOf CX P w K mg base N qual scope f cdv A outer s H E) [] σ' H' s'→RelV v u→Q v H'→CE outer P w H s Q u s' :=
  fun {σ' H' v u} J rv q=>⟨v,H',J.os,J.bare,J.base,J.hok,rv,q⟩
 cases fl with
 | ret u =>
  obtain ⟨v,σ',H',J,rv,q⟩:=hs
  exact fin J rv q
 | next =>
  obtain ⟨σ',H',J,q⟩:=hs
  exact fin (v:=V.non) (u:=Value.none) J rfl q
 | brk =>
  obtain ⟨_,_,_,q⟩:=hs
  exact False.elim q
 | cont =>
  obtain ⟨_,_,_,q⟩:=hs
  exact False.elim q
end L2
namespace L2
open PySem PySem.Spec PyProof.Rows
section
variable {X:Cx}{x:Str}{p pos:Pos}{e:Expr}{es:List Expr}{t:TA}{id T:String}{r:List V→Hp→VK→Prop}
def tCB (r:List V→Hp→VK→Prop) (t:TA):TE:=fun σ H Q=>t σ H fun vs H1=>r vs H1 Q
theorem Zr (hc:ZdO X (.builtin id) r) (hg:Gl X x) (hm:X.mg x=none) (hv:bootBuiltins x=some (.builtin id)) (ha:PA X (e::es) t) (hn:x≠"__name__":=by decide) (hdb:(x==("__debug__":Str))=false:=by decide)
  (he:starEach (e::es) X.env=(false,eval e X.env)::starEach es X.env:=by rfl) (hpl:(backTo pos (starEach es X.env)).any (·.1)=false:=by rfl):PE X (.Call (.Name x p) (e::es) [] pos) (tCB r t):=by
 intro pins s σ H Q I h
 refine wpAny_Call_Name_kw (ZbN I hg hm hv ?_ hn hdb)
 exact PyProof.Rows.callWith_builtin1 (thn (ha pos pins s σ H _ I h) fun us s1 ⟨vs,H1,I1,r1,q1⟩=>hc pins s1 σ H1 vs us Q I1 r1 q1) he hpl
theorem Zf3 (hc:ZdO X (.type T) r) (hg:Gl X x) (hm:X.mg x=none) (hv:bootBuiltins x=some (.type T)) (ha:PA X (e::es) t) (hn:x≠"__name__":=by decide) (hdb:(x==("__debug__":Str))=false:=by decide)
  (he:starEach (e::es) X.env=(false,eval e X.env)::starEach es X.env:=by rfl) (hpl:(backTo pos (starEach es X.env)).any (·.1)=false:=by rfl):PE X (.Call (.Name x p) (e::es) [] pos) (tCB r t):=by
 intro pins s σ H Q I h
 refine wpAny_Call_Name_kw (ZbN I hg hm hv ?_ hn hdb)
 exact PyProof.Rows.callWith_type1 (thn (ha pos pins s σ H _ I h) fun us s1 ⟨vs,H1,I1,r1,q1⟩=>hc pins s1 σ H1 vs us Q I1 r1 q1) he hpl
end
end L2
namespace HT
open PySem PyProof.Rows
section
open PySem.SeqAt
open PySem.AutoSeq1 (wpAny_loadPart')
open PySem.MeetsSeq PySem.MeetsSeq2 PySem.MeetsSeq3
end
section
variable {prog:Program}{w:World}{A:Around}{E:Value→Shared→Prop}{s:Shared}
def sIx (n d:Nat):Option Int→Nat
 | none=>d
 | some v=>if v<0 then (v+(n:Int)).toNat else min v.toNat n
theorem sIx_none (n d:Nat):sIx n d none=d:=rfl
theorem sIx_nat (n d k:Nat):sIx n d (some (k:Int))=min k n:=by
 show (if (k:Int)<0 then ((k:Int)+(n:Int)).toNat else min (k:Int).toNat n)=min k n
 rw [if_neg (by omega),Int.toNat_natCast]
end
end HT
namespace L2
open PySem PySem.Spec PyProof.Rows
abbrev TO:=St→Hp→(Option Int→Hp→Prop)→Prop
def PO (X:Cx) (e:Option Expr) (t:TO):Prop :=
 ∀ (pins:List (Addr×Obj)) (s:Shared) (σ:St) (H:Hp) (Q:Option Int→Hp→Prop),Inv X pins σ H s→t σ H Q →
  wpAny (model X.prog X.w) X.A (evalPart e X.env) (fun u s'=>∃ o H',Inv X pins σ H' s'∧IsPart u o∧Q o H') X.xe s
def JI:TO:=fun _ H Q=>Q none H
def Ze6 (t:TE):TO:=fun σ H Q=>t σ H fun x H1=>∃ i,x=.int i∧Q (some i) H1
section
variable {X:Cx}{e:Expr}{te:TE}{lo hi:Option Expr}{tl th:TO}{pos p2:Pos}
theorem Zie:PO X none JI:=by
 intro pins s σ H Q I h
 rw [evalPart_none]
 exact wpAny_pure ⟨none,H,I,.none,h⟩
theorem ZdZ (h:PE X e te):PO X (some e) (Ze6 te):=by
 intro pins s σ H Q I hw
 rw [evalPart_some]
 refine thn (h pins s σ H _ I hw) fun u s1 ⟨x,H1,I1,r1,q1⟩=>?_
 obtain ⟨i,rfl,q⟩:=q1
 obtain ⟨t,rfl⟩:=r1
 exact ⟨some i,H1,I1,.int i t,q⟩
def SlR (X:Cx) (r:V→Option Int→Option Int→Hp→VK→Prop):Prop :=
 ∀ (pins:List (Addr×Obj)) (s:Shared) (σ:St) (H:Hp) (x:V) (v vl vu:Value) (lo hi:Option Int) (sl:Addr) (Q:VK),Inv X pins σ H s→RelV x v→s.heap.IsSliceOf sl vl vu .none→IsPart vl lo→IsPart vu hi→r x lo hi H Q →
  ∃ T id,typeLookup (.type T) "__getitem__"=pure (some (.builtin id))∧s.TypeIs v T∧wpAny (model X.prog X.w) X.A (getItem v (.ref sl)) (EP X pins σ Q) X.xe s
def tSl (r:V→Option Int→Option Int→Hp→VK→Prop) (te:TE) (tl th:TO):TE:=fun σ H Q=>te σ H fun x H1=>tl σ H1 fun l H2=>th σ H2 fun u H3=>r x l u H3 Q
theorem ZeL {r:V→Option Int→Option Int→Hp→VK→Prop} (hr:SlR X r) (he:PE X e te) (hl:PO X lo tl) (hu:PO X hi th):PE X (.Subscript e (.Slice lo hi none p2) pos) (tSl r te tl th):=by
 intro pins s σ H Q I h
 refine Subscript_ (thn (he pins s σ H _ I h) fun v s1 ⟨x,H1,I1,r1,q1⟩=>?_)
 refine wpAny_Slice (thn (hl pins s1 σ H1 _ I1 q1) fun vl s2 ⟨l,H2,I2,pl,q2⟩=>thn (hu pins s2 σ H2 _ I2 q2) fun vu s3 ⟨u,H3,I3,pu,q3⟩=>?_)
 rw [evalPart_none]
 refine wpAny_pure ?_
 have I4:Inv X pins σ H3 { s3 with heap:=s3.heap.push { cls:=.type "slice",data:=.fields #[vl,vu,.none] } }:=I3.kept (t':=s3.toks) fun b ob q=>Heap.get?_push_of_some _ q
 obtain ⟨T,id,hT,ht,hg⟩:=hr pins { s3 with heap:=s3.heap.push { cls:=.type "slice",data:=.fields #[vl,vu,.none] } } σ H3 x v vl vu l u s3.heap.objs.size Q I4 r1 (Heap.IsSliceOf.new ..) pl pu q3
 show wpAny (model X.prog X.w) X.A (subscriptTail e (.Slice lo hi none p2) v (.ref s3.heap.objs.size)) (EP X pins σ Q) X.xe { s3 with heap:=s3.heap.push { cls:=.type "slice",data:=.fields #[vl,vu,.none] } }
 exact tail_any (ops:=[.ref s3.heap.objs.size,v]) ht hT hg (by with_unfolding_all rfl)
def cutV (xs:List V) (lo hi:Option Int):List V:=(xs.drop (HT.sIx xs.length 0 lo)).take (HT.sIx xs.length xs.length hi-HT.sIx xs.length 0 lo)
theorem Zen (xs:List V) (lo hi:Option Int):(cutV xs lo hi).length≤xs.length:=by
 unfold cutV
 rw [List.length_take,List.length_drop]
 omega
end
end L2
namespace L2
open PySem PySem.Spec PyProof.Rows
def ixN (n:Nat) (i:Int):Option Nat:=if 0≤i then (if i<n then some i.toNat else none) else if -(n:Int)≤i then some (i+n).toNat else none
def atI {α:Type} (xs:List α) (i:Int):Option α:=(ixN xs.length i).bind fun j=>xs[j]?
theorem Zgm {n:Nat}{i:Int}{j:Nat} (h:ixN n i=some j):seqIndex? i n=some j∧j<n∧-(n:Int)≤i∧i<n:=by
 unfold ixN at h
 by_cases h0:0≤i
 ·rw [if_pos h0] at h
  by_cases h1:i<n
  ·rw [if_pos h1] at h
   have e:i.toNat=j:=Option.some.inj h
   exact ⟨by rw [seqIndex_of h0 h1,e],by omega,by omega,h1⟩
  ·rw [if_neg h1] at h;cases h
 ·rw [if_neg h0] at h
  by_cases h1:-(n:Int)≤i
  ·rw [if_pos h1] at h
   have e:(i+n).toNat=j:=Option.some.inj h
   exact ⟨by rw [seqIndex_neg (by omega) h1,e],by omega,h1,by omega⟩
  ·rw [if_neg h1] at h;cases h
theorem ZgL {α:Type}{xs:List α}{i:Int}{v:α} (h:atI xs i=some v):∃ j,seqIndex? i xs.length=some j∧xs[j]?=some v∧j<xs.length∧-(xs.length:Int)≤i∧i<xs.length:=by
 unfold atI at h
 cases e:ixN xs.length i with
 | none=>rw [e] at h;cases h
 | some j =>
  rw [e] at h
  obtain ⟨h1,h2,h3,h4⟩:=Zgm e
  exact ⟨j,h1,h,h2,h3,h4⟩
theorem V0 {α:Type}{xs:List α}{j:Nat}{v:α} (h:xs[j]?=some v):atI xs (j:Int)=some v:=by
 have hj:j<xs.length:=(List.getElem?_eq_some_iff.mp h).1
 have e:ixN xs.length (j:Int)=some j:=by
  unfold ixN
  rw [if_pos (by omega),if_pos (by omega)];simp
 unfold atI;rw [e];exact h
def ZiT (b:Expr):Prop:=∀ o i,subscripted b false o i=operate [o,i] (getItem o i)
def IxR (X:Cx) (r:R2):Prop :=
 ∀ (value slice:Expr) (pins:List (Addr×Obj)) (s:Shared) (σ:St) (H:Hp) (x y:V) (v u:Value) (Q:VK),Inv X pins σ H s→RelV x v→RelV y u→r x y H Q →
  subscripted slice false v u=operate [v,u] (getItem v u)→wpAny (model X.prog X.w) X.A (subscriptTail value slice v u) (EP X pins σ Q) X.xe s
def MtR (X:Cx) (id:String) (r:V→List V→Hp→VK→Prop):Prop :=
 ∀ (pins:List (Addr×Obj)) (s:Shared) (σ:St) (H:Hp) (x:V) (xs:List V) (v:Value) (us:List Value) (Q:VK),Inv X pins σ H s→RelV x v→Vals xs us→r x xs H Q →
  wpAny (model X.prog X.w) X.A (call (.builtin id) (v::us)) (EP X pins σ Q) X.xe s
section
variable {X:Cx}{a b:Expr}{ta tb:TE}{pos:Pos}
theorem ZK {r:R2} (hr:IxR X r) (ha:PE X a ta) (hb:PE X b tb) (hs:ZiT b):PE X (.Subscript a b pos) (tOp r ta tb):=by
 intro pins s σ H Q I h
 exact Subscript_ (binT ha hb I h fun v u s2 x y H2 I2 rx ry q=>hr a b pins s2 σ H2 x y v u Q I2 rx ry q (hs _ _))
def rIxL (K:PySem.W.Frag):R2:=fun x y H Q=>∃ p xs i v,x=.ref p∧y=.int i∧SqL K H p xs∧atI xs i=some v∧Q v H
def rIxT (K:PySem.W.Frag):R2:=fun x y H Q=>∃ p xs i v,x=.ref p∧y=.int i∧SqT K H p xs∧atI xs i=some v∧Q v H
theorem ZC:IxR X (rIxL X.K):=by
 intro value slice pins s σ H x y v u Q I rx ry h hs
 obtain ⟨p,xs,i,z,rfl,rfl,hq,he,q⟩:=h
 cases rx
 obtain ⟨t,rfl⟩:=ry
 obtain ⟨its,r,pl,hz⟩:=I.list hq
 obtain ⟨j,h1,h2,h3,h4,h5⟩:=ZgL he
 obtain ⟨w,ew,rw'⟩:=r.get h2
 have hl:=r.length
 have hn:=Zdn
 have fin:EP X pins σ Q w s:=⟨z,H,I,rw',q⟩
 by_cases h0:0≤i
 ·have hj:i.toNat=j:=by
   rw [seqIndex_of h0 h5] at h1
   exact Option.some.inj h1
  exact item_listR pl.isList h0 (by omega) (by rw [hj];simpa using ew) fin hs
 ·have hj:(i+(its.toArray.size:Int)).toNat=j:=by
   rw [seqIndex_neg (by omega) h4] at h1
   rw [List.size_toArray,← hl]
   exact Option.some.inj h1
  exact subscriptTail_builtinR (x:=w) pl.isList.typeIs slot_list_getitem.lookup
   (wpAny_getItem_list_neg (Q:=fun r s'=>r=w∧EP X pins σ Q r s') pl.isList (by omega) (by rw [List.size_toArray] <;> omega) (by omega) (by rw [hj];simpa using ew) ⟨rfl,fin⟩) hs
theorem YF:IxR X (rIxT X.K):=by
 intro value slice pins s σ H x y v u Q I rx ry h hs
 obtain ⟨p,xs,i,z,rfl,rfl,hq,he,q⟩:=h
 cases rx
 obtain ⟨t,rfl⟩:=ry
 obtain ⟨its,r,pl,hz⟩:=I.tuple hq
 obtain ⟨j,h1,h2,h3,h4,h5⟩:=ZgL he
 obtain ⟨w,ew,rw'⟩:=r.get h2
 have hl:=r.length
 have hn:=Zdn
 have fin:EP X pins σ Q w s:=⟨z,H,I,rw',q⟩
 exact subscriptTail_builtinR (x:=w) pl.typeIs slot_tuple_getitem.lookup
  (getItem_tuple (j:=j) (Q:=fun r s'=>r=w∧EP X pins σ Q r s') pl (by omega) (by omega) (by rw [List.size_toArray,← hl];exact h1) (by simpa using ew) ⟨rfl,fin⟩) hs
theorem Zfn (its:List Value) (n j:Nat) (u:Value):Obj.mapSeq (·.setIfInBounds j u) { cls:=.type "list",data:=.seq its.toArray n }={ cls:=.type "list",data:=.seq (its.set j u).toArray n }:=by
 simp [Obj.mapSeq]
theorem Inv.lst {pins:List (Addr×Obj)}{σ:St}{H:Hp}{s:Shared}{p:Addr}{xs:List V} (I:Inv X pins σ H s) (h:H p=some (.lst xs)) :
  ∃ (its:List Value) (n:Nat),Vals xs its∧s.heap.get? p=some { cls:=.type "list",data:=.seq its.toArray n }∧xs.length≤sizeLine:=by
 obtain ⟨z,its,n,r,e⟩:=I.hok p _ h
 exact ⟨its,n,r,e,z⟩
theorem Inv.lstUpd {pins:List (Addr×Obj)}{σ:St}{H:Hp}{s:Shared}{p:Addr}{xs ys:List V}{its its':List Value}{n n':Nat}{f:Obj→Obj} (I:Inv X pins σ H s) (h:H p=some (.lst xs))
  (ho:s.heap.get? p=some { cls:=.type "list",data:=.seq its.toArray n }) (hf:f { cls:=.type "list",data:=.seq its.toArray n }={ cls:=.type "list",data:=.seq its'.toArray n' }) (r:Vals ys its') (hz:ys.length≤sizeLine) (t:Nat) :
  Inv X pins σ (upd H p (.lst ys)) { s with heap:=s.heap.update p f,toks:=t }:=by
 have e:(s.heap.update p f).get? p=some { cls:=.type "list",data:=.seq its'.toArray n' }:=by
  rw [Heap.get?_update_self f ho (by rw [hf] <;> rfl),hf]
 refine I.write (x:=p) (e:=p) (by rw [h];trivial) (.inl rfl) (fun b u hb q=>(Heap.get?_update_other _ _ (Ne.symm hb)).trans q) ⟨_,e⟩ ?_
 exact ⟨hz,its',n',r,e⟩
def ZjR:V→V→V→Hp→(Hp→Prop)→Prop:=fun o i v H Q=>∃ p xs k j,o=.ref p∧i=.int k∧H p=some (.lst xs)∧ixN xs.length k=some j∧Q (upd H p (.lst (xs.set j v)))
theorem Zez:PSet X ZjR:=by
 intro pins s σ H o i v ov iv u Q I ro ri rv h
 obtain ⟨p,xs,k,j,rfl,rfl,hp,hj,q⟩:=h
 cases ro
 obtain ⟨t,rfl⟩:=ri
 obtain ⟨its,n,r,ho,hz⟩:=I.lst hp
 obtain ⟨h1,h2,h3,h4⟩:=Zgm hj
 have hl:=r.length
 have hn:=Zdn
 have I':Inv X pins σ (upd H p (.lst (xs.set j v))) { s with heap:=s.heap.update p (Obj.mapSeq (·.setIfInBounds j u)) } :=
  I.lstUpd hp ho (Zfn its n j u) (r.set rv j) (by rw [List.length_set];exact hz) s.toks
 by_cases h0:0≤k
 ·have hk:k.toNat=j:=by
   rw [seqIndex_of h0 h4] at h1
   exact Option.some.inj h1
  exact PySem.W.ki_setAt ho h0 (by omega) (by rw [List.size_toArray,← hl];exact h4) (by rw [hk];exact ⟨_,I',q⟩)
 ·have hk:(k+(its.toArray.size:Int)).toNat=j:=by
   rw [seqIndex_neg (by omega) h3] at h1
   rw [List.size_toArray,← hl]
   exact Option.some.inj h1
  exact PySem.W.ki_setBack ho (by omega) (by rw [List.size_toArray,← hl];exact h3) (by omega) (by rw [hk];exact ⟨_,I',q⟩)
theorem ZcV (lo hi:Option Int) (n:Nat):(sliceBounds lo hi none n).1=((HT.sIx n 0 lo:Nat):Int)∧(sliceBounds lo hi none n).2.1=((HT.sIx n n hi:Nat):Int)∧(sliceBounds lo hi none n).2.2=1:=by
 refine ⟨?_,?_,rfl⟩
 ·cases lo with
  | none=>simp [sliceBounds,HT.sIx]
  | some i =>
   simp only [sliceBounds,HT.sIx,Option.getD_none,show (1:Int) > 0 by decide,if_true]
   by_cases h:i<0
   ·simp only [h,if_true] <;> omega
   ·simp only [h,if_false] <;> omega
 ·cases hi with
  | none=>simp [sliceBounds,HT.sIx]
  | some i =>
   simp only [sliceBounds,HT.sIx,Option.getD_none,show (1:Int) > 0 by decide,if_true]
   by_cases h:i<0
   ·simp only [h,if_true] <;> omega
   ·simp only [h,if_false] <;> omega
theorem Zcb (its:List Value) (lo hi:Option Int):slicePick its.toArray lo hi none=((its.drop (HT.sIx its.length 0 lo)).take (HT.sIx its.length its.length hi-HT.sIx its.length 0 lo)).toArray:=by
 obtain ⟨h1,h2,h3⟩:=ZcV lo hi its.toArray.size
 unfold slicePick
 rw [h1,h2,h3]
 simp only [sliceRange_one,pick_run,List.size_toArray] <;> rfl
def rSlL (K:PySem.W.Frag):V→Option Int→Option Int→Hp→VK→Prop:=fun x lo hi H Q=>∃ a xs,x=.ref a∧SqL K H a xs∧∀ p,H p=none→Q (.ref p) (upd H p (.lst (cutV xs lo hi)))
theorem ZfU:SlR X (rSlL X.K):=by
 intro pins s σ H x v vl vu lo hi sl Q I rx hs pl pu h
 obtain ⟨a,xs,rfl,hx,q⟩:=h
 cases rx
 obtain ⟨its,r,ht,hz⟩:=I.list hx
 have hlen:=r.length
 refine ⟨"list",_,slot_list_getitem.lookup,ht.isList.typeIs,?_⟩
 refine wpAny_getItem_list_slice ht.isList hs pl pu .none (by simp) ?_ (by rw [List.size_toArray] <;> omega)
 rw [Zcb,← hlen]
 refine ⟨.ref s.heap.objs.size,_,I.laid (t':=s.toks) (o:=.lst (cutV xs lo hi)) (fun b ob q=>Heap.get?_push_of_some _ q) (Nat.le_refl _) ?_,rfl,q _ (I.hok.fresh (Nat.le_refl _))⟩
 exact ⟨Nat.le_trans (Zen xs lo hi) hz,_,0,(r.drop (HT.sIx xs.length 0 lo)).take (HT.sIx xs.length xs.length hi-HT.sIx xs.length 0 lo),Heap.get?_push_size _ rfl⟩
def VT:V→Bool
 | .non=>true
 | .bl _=>true
 | .int _=>true
 | .str _=>true
 | _=>false
def eqV:V→V→Bool
 | .non,.non=>true
 | .bl a,.bl b=>a==b
 | .bl a,.int b=>(if a then 1 else 0)==b
 | .int a,.bl b=>a==(if b then 1 else 0)
 | .int a,.int b=>a==b
 | .str a,.str b=>a==b
 | _,_=>false
theorem ZjF {A:Around}{s:Shared}{y x:V}{u v:Value} (ry:RelV y u) (rx:RelV x v) (fy:VT y=true) (fx:VT x=true):SeqAt.EqAt A s u v (eqV y x):=by
 cases y with
 | non =>
  cases ry
  cases x with
  | non=>cases rx;exact SeqAt.EqAt.same _
  | bl b=>cases rx;exact SeqAt.EqAt.none_bool b
  | int b=>obtain ⟨t,rfl⟩:=rx;exact SeqAt.EqAt.none_int b t
  | str b=>obtain ⟨t,rfl⟩:=rx;exact SeqAt.EqAt.none_str b t
  | _=>exact absurd (show false=true from fx) Bool.false_ne_true
 | bl a =>
  cases ry
  cases x with
  | non=>cases rx;exact SeqAt.EqAt.bool_none a
  | bl b=>cases rx;exact SeqAt.EqAt.bool_bool a b
  | int b=>obtain ⟨t,rfl⟩:=rx;exact SeqAt.EqAt.bool_int a b t
  | str b=>obtain ⟨t,rfl⟩:=rx;exact SeqAt.EqAt.bool_str a b t
  | _=>exact absurd (show false=true from fx) Bool.false_ne_true
 | int a =>
  obtain ⟨t',rfl⟩:=ry
  cases x with
  | non=>cases rx;exact SeqAt.EqAt.int_none a t'
  | bl b=>cases rx;exact SeqAt.EqAt.int_bool a t' b
  | int b=>obtain ⟨t,rfl⟩:=rx;exact SeqAt.EqAt.int_int a t' b t
  | str b=>obtain ⟨t,rfl⟩:=rx;exact SeqAt.EqAt.int_str a t' b t
  | _=>exact absurd (show false=true from fx) Bool.false_ne_true
 | str a =>
  obtain ⟨t',rfl⟩:=ry
  cases x with
  | non=>cases rx;exact SeqAt.EqAt.str_none a t'
  | bl b=>cases rx;exact SeqAt.EqAt.str_bool a t' b
  | int b=>obtain ⟨t,rfl⟩:=rx;exact SeqAt.EqAt.str_int a t' b t
  | str b=>obtain ⟨t,rfl⟩:=rx;exact SeqAt.EqAt.str_str a t' b t
  | _=>exact absurd (show false=true from fx) Bool.false_ne_true
 | _=>exact absurd (show false=true from fy) Bool.false_ne_true
def eqU (x:V) (u:Value):Bool:=match u with
 | .none=>eqV .non x
 | .bool b=>eqV (.bl b) x
 | .int i _=>eqV (.int i) x
 | .str z _=>eqV (.str z) x
 | _=>false
theorem ZeU {x y:V}{u:Value} (r:RelV y u) (f:VT y=true):eqU x u=eqV y x:=by
 cases y with
 | non=>cases r;rfl
 | bl b=>cases r;rfl
 | int i=>obtain ⟨t,rfl⟩:=r;rfl
 | str z=>obtain ⟨t,rfl⟩:=r;rfl
 | _=>exact absurd (show false=true from f) Bool.false_ne_true
theorem Zbg {x:V}:∀ {xs:List V}{us:List Value},Vals xs us→xs.all VT=true→us.any (eqU x)=xs.any fun y=>eqV y x
 | _,_,.nil,_=>rfl
 | y::xs,u::us,.cons r t,f=>by
  rw [List.all_cons,Bool.and_eq_true] at f
  rw [List.any_cons,List.any_cons,ZeU r f.1,Zbg t f.2]
theorem V8 {A:Around}{s:Shared}{x:V}{v:Value} (rx:RelV x v) (fx:VT x=true):∀ {xs:List V}{us:List Value},Vals xs us→xs.all VT=true→∀ u∈us,SeqAt.EqAt A s u v (eqU x u)
 | _,_,.nil,_=>fun u hu=>by cases hu
 | y::xs,u::us,.cons r t,f=>fun u' hu=>by
  rw [List.all_cons,Bool.and_eq_true] at f
  rcases List.mem_cons.mp hu with rfl | hu
  ·rw [ZeU r f.1];exact ZjF r rx f.1 fx
  ·exact V8 rx fx t f.2 u' hu
def inV (x:V) (xs:List V):Bool:=xs.any fun y=>eqV y x
def rIn (K:PySem.W.Frag) (neg:Bool):R2:=fun x y H Q=>∃ p xs,y=.ref p∧(SqL K H p xs∨SqT K H p xs)∧VT x=true∧xs.all VT=true∧Q (.bl (if neg then !inV x xs else inV x xs)) H
theorem Je:OpR X (compareOp .In) (rIn X.K false):=by
 intro pins s σ H x y v u Q I rx ry h
 obtain ⟨p,xs,rfl,hq,fx,fs,q⟩:=h
 cases ry
 rcases hq with hq | hq
 ·obtain ⟨its,r,pl,hz⟩:=I.list hq
  refine SeqAt.in_listAt (eqU x) pl.isList (fun w hw=>V8 rx fx r fs w (by simpa using hw)) ⟨.bl _,H,I,rfl,?_⟩
  rw [show its.toArray.any (eqU x)=its.any (eqU x) by simp,Zbg r fs]
  exact q
 ·obtain ⟨its,r,pl,hz⟩:=I.tuple hq
  refine SeqAt.in_tupleAt (eqU x) pl (fun w hw=>V8 rx fx r fs w (by simpa using hw)) ⟨.bl _,H,I,rfl,?_⟩
  rw [show its.toArray.any (eqU x)=its.any (eqU x) by simp,Zbg r fs]
  exact q
theorem Zah:OpR X (compareOp .NotIn) (rIn X.K true):=by
 intro pins s σ H x y v u Q I rx ry h
 obtain ⟨p,xs,rfl,hq,fx,fs,q⟩:=h
 cases ry
 rcases hq with hq | hq
 ·obtain ⟨its,r,pl,hz⟩:=I.list hq
  refine SeqAt.notIn_listAt (eqU x) pl.isList (fun w hw=>V8 rx fx r fs w (by simpa using hw)) ⟨.bl _,H,I,rfl,?_⟩
  rw [show its.toArray.any (eqU x)=its.any (eqU x) by simp,Zbg r fs]
  exact q
 ·obtain ⟨its,r,pl,hz⟩:=I.tuple hq
  refine SeqAt.notIn_tupleAt (eqU x) pl (fun w hw=>V8 rx fx r fs w (by simpa using hw)) ⟨.bl _,H,I,rfl,?_⟩
  rw [show its.toArray.any (eqU x)=its.any (eqU x) by simp,Zbg r fs]
  exact q
theorem Zj:ZdO X (.builtin "len") (fun xs H Q=>∃ p ys,xs=[.ref p]∧(SqL X.K H p ys∨SqT X.K H p ys)∧Q (.int ys.length) H):=by
 intro pins s σ H xs us Q I r h
 obtain ⟨p,ys,rfl,hq,q⟩:=h
 obtain ⟨u,rfl,rx⟩:=ZgS r
 cases rx
 have hn:=Zdn
 rcases hq with hq | hq
 ·obtain ⟨its,r',pl,hz⟩:=I.list hq
  have hlen:=r'.length
  exact Calls.call_len_list pl.isList (by simp only [List.size_toArray] <;> omega) ⟨.int ys.length,H,I.tok _,⟨s.toks+1,by rw [List.size_toArray,hlen]⟩,q⟩
 ·obtain ⟨its,r',pl,hz⟩:=I.tuple hq
  have hlen:=r'.length
  exact len_tuple pl (by simp only [List.size_toArray] <;> omega) ⟨.int ys.length,H,I.tok _,⟨s.toks+1,by rw [List.size_toArray,hlen]⟩,q⟩
def tyV (K:PySem.W.Frag) (T:String) (x:V) (H:Hp):Prop:=match x with
 | .str _=>T="str"
 | .int _=>T="int"
 | .ref p=>(T="list"∧∃ xs,SqL K H p xs)∨(T="tuple"∧∃ o,K.lookup p=some o∧o.cls=.type "tuple"∧o.dict=none) ∨
   (T="dict"∧((∃ kvs,H p=some (.dK kvs))∨∃ kvs,H p=some (.dT kvs)))∨(T="set"∧∃ S n,H p=some (.set S n))
 | _=>False
theorem ZiV {pins:List (Addr×Obj)}{σ:St}{H:Hp}{s:Shared}{T:String}{x:V}{v:Value} (I:Inv X pins σ H s) (r:RelV x v) (ty:tyV X.K T x H) :
  s.TypeIs v T∧∀ a,v=.ref a→∃ ob,s.heap.get? a=some ob∧ob.dict=none:=by
 cases x with
 | str z =>
  obtain ⟨t,rfl⟩:=r
  cases (show T="str" from ty)
  exact ⟨typeIs_str s z t,fun _ e=>nomatch e⟩
 | int i =>
  obtain ⟨t,rfl⟩:=r
  cases (show T="int" from ty)
  exact ⟨typeIs_int s i t,fun _ e=>nomatch e⟩
 | ref p =>
  cases r
  rcases ty with ⟨rfl,xs,hq⟩ | ⟨rfl,o,hk,hc,hd⟩ | ⟨rfl,hk⟩ | ⟨rfl,S,n,hk⟩
  ·obtain ⟨its,_,pl,_⟩:=I.list hq
   refine ⟨pl.isList.typeIs,fun a e=>?_⟩
   cases e
   obtain ⟨o,n,e,c,hd,_⟩:=pl
   exact ⟨o,e,hd⟩
  ·refine ⟨⟨o,I.kIn p o hk,hc⟩,fun a e=>?_⟩
   cases e
   exact ⟨o,I.kIn _ o hk,hd⟩
  ·have z:∃ o,s.heap.get? p=some o∧o.ExactDict:=by
    rcases hk with ⟨kvs,hk⟩ | ⟨kvs,hk⟩
    ·obtain ⟨_,_,_,_,o,_,_,e,ex,_⟩:=I.hok p _ hk
     exact ⟨o,e,ex⟩
    ·obtain ⟨_,_,_,_,o,_,_,e,ex,_⟩:=I.hok p _ hk
     exact ⟨o,e,ex⟩
   obtain ⟨o,e,ex⟩:=z
   refine ⟨⟨o,e,ex.1⟩,fun a e2=>?_⟩
   cases e2
   exact ⟨o,e,ex.2.1⟩
  ·obtain ⟨o,_,_,_,e,ex,_⟩:=I.hok p _ hk
   refine ⟨⟨o,e,ex.1⟩,fun a e2=>?_⟩
   cases e2
   exact ⟨o,e,ex.2.1⟩
 | _=>exact False.elim ty
def tBM (K:PySem.W.Frag) (T:String) (r:V→List V→Hp→VK→Prop) (to:TE) (t:TA):TE:=fun σ H Q=>to σ H fun x H1=>tyV K T x H1∧t σ H1 fun xs H2=>r x xs H2 Q
variable {o e:Expr}{es:List Expr}{to:TE}{t:TA}{name:Str}{apos cpos:Pos}{T id:String}{r:V→List V→Hp→VK→Prop}
theorem X6 (pa:PlainAttrs T) (slot:Slot T name id) (hty:typeOf (.builtin id)=pure (.type "method_descriptor")) (hm:MtR X id r) (ho:PE X o to) (ha:PA X (e::es) t)
  (hbase:attributeBase o name X.env (eval o X.env)=eval o X.env:=by rfl)
  (hfew:((backTo cpos (starEach (e::es) X.env)).all (fun x=>!x.1) && (backToKw cpos (keywordEach [] X.env)).all (fun x=>x.1.isSome)
   && decide ((e::es).length+([]:List Keyword).length+(if ([]:List Keyword).isEmpty then 0 else 1)<30))=true:=by rfl)
  (hline:(apos.endLine==cpos.line)=true:=by rfl) (hs:starEach (e::es) X.env=(false,eval e X.env)::starEach es X.env:=by rfl) (hplain:(backTo cpos (starEach es X.env)).any (·.1)=false:=by rfl) :
  PE X (.Call (.Attribute o name apos) (e::es) [] cpos) (tBM X.K T r to t):=by
 intro pins s σ H Q I h
 refine wpAny_Call_method_late hbase hfew hline rfl (thn (ho pins s σ H _ I h) fun v s1 ⟨x,H1,I1,r1,ty,q1⟩=>?_)
 obtain ⟨h1,h2⟩:=ZiV I1 r1 ty
 refine ⟨T,id,pa,slot,hty,h1,h2,?_⟩
 have hA:=ha cpos pins s1 σ H1 _ I1 q1
 rw [hs] at hA ⊢
 refine Calls.callWith_builtin (by show (false || (backTo cpos (starEach es X.env)).any (·.1))=false;rw [hplain] <;> rfl) (Calls.evalArgs_plain ?_)
 exact thn hA fun us s2 ⟨vs,H2,I2,r2,q2⟩=>hm pins s2 σ H2 x vs v us Q I2 r1 r2 q2
end
end L2
namespace L2
open PySem PySem.Spec PyProof.Rows
def MtM (X:Cx) (id:String) (r:V→List V→Hp→VK→Prop):Prop :=
 ∀ (pins:List (Addr×Obj)) (s:Shared) (σ:St) (H:Hp) (x:V) (xs:List V) (v:Value) (us:List Value) (Q:VK),Inv X pins σ H s→RelV x v→Vals xs us→r x xs H Q →
  wpAny (model X.prog X.w) X.A (call (.builtin id) (v::us)) (EP X pins σ Q) X.xe s
theorem Vals.one:∀ {x:V}{us:List Value},Vals [x] us→∃ u,us=[u]∧RelV x u
 | _,_,.cons r .nil=>⟨_,rfl,r⟩
section
variable {X:Cx}{pins:List (Addr×Obj)}{σ:St}{H:Hp}{s:Shared}{l b:Addr}{xs ys zs:List V}
theorem Inv.lset {its its':List Value}{n:Nat}{f:Array Value→Array Value}{t':Nat} (I:Inv X pins σ H s) (hH:H l=some (.lst xs))
  (e:s.heap.get? l=some { cls:=.type "list",data:=.seq its.toArray n }) (hf:f its.toArray=its'.toArray) (hv:Vals ys its') (hz:ys.length≤sizeLine) :
  Inv X pins σ (upd H l (.lst ys)) { s with heap:=s.heap.update l (Obj.mapSeq f),toks:=t' }:=by
 have q:=PySem.IsL.update e f
 rw [hf] at q
 refine I.write (x:=l) (e:=l) (by rw [hH];exact trivial) (.inl rfl) (fun b' u hb hu=>(Heap.get?_update_other s.heap (Obj.mapSeq f) (Ne.symm hb)).trans hu) ⟨_,q⟩ ?_
 exact ⟨hz,its',_,hv,q⟩
theorem Inv.lnew {its:List Value}{t':Nat} (I:Inv X pins σ H s) (hv:Vals ys its) (hz:ys.length≤sizeLine) :
  Inv X pins σ (upd H s.heap.objs.size (.lst ys)) { s with heap:=s.heap.push { cls:=.type "list",data:=.seq its.toArray },toks:=t' } :=
 I.laid (fun _ _ q=>Heap.get?_push_of_some _ q) (Nat.le_refl _) ⟨hz,its,0,hv,Heap.get?_push_size _ rfl⟩
theorem Inv.fresh (I:Inv X pins σ H s):H s.heap.objs.size=none:=I.hok.fresh (Nat.le_refl _)
theorem Inv.lstM (I:Inv X pins σ H s) (hH:H l=some (.lst xs)):xs.length≤sizeLine∧∃ (its:List Value) (n:Nat),Vals xs its∧xs.length=its.length∧s.heap.get? l=some { cls:=.type "list",data:=.seq its.toArray n }:=by
 obtain ⟨z,its,n,r,e⟩:=I.hok l _ hH
 exact ⟨z,its,n,r,r.length,e⟩
theorem Zhe {n:Nat} (h:n≤sizeLine):Builtin.List.listTooLong n=false:=by
 unfold Builtin.List.listTooLong
 exact decide_eq_false (by omega)
end
section
variable {X:Cx}
def UA:V→List V→Hp→VK→Prop:=fun x vs H Q=>∃ l xs y,x=.ref l∧vs=[y]∧H l=some (.lst xs)∧xs.length<sizeLine∧Q .non (upd H l (.lst (xs++[y])))
theorem Yq:MtM X "list.append" UA:=by
 intro pins s σ H x vs v us Q I rx rv h
 obtain ⟨l,xs,y,rfl,rfl,hH,hz,q⟩:=h
 cases rx
 obtain ⟨u,rfl,ru⟩:=rv.one
 obtain ⟨z,its,n,r,hl,e⟩:=I.lstM hH
 refine call_meets F.slot_list_append ⟨_,e,rfl⟩ F.entry_list_append (F.args_list_append_2 _ _) (PySem.list_append l its.toArray n u (by rw [List.size_toArray];omega)) ⟨e,?_⟩
 refine ⟨.non,_,I.lset (its':=its++[u]) hH e (by simp) (r.append (.cons ru .nil)) ?_,rfl,q⟩
 rw [List.length_append,List.length_singleton]
 omega
def JN:V→List V→Hp→VK→Prop:=fun x vs H Q=>∃ l b xs zs,x=.ref l∧vs=[.ref b]∧H l=some (.lst xs)∧H b=some (.lst zs)∧xs.length+zs.length≤sizeLine∧Q .non (upd H l (.lst (xs++zs)))
theorem Xr:MtM X "list.extend" JN:=by
 intro pins s σ H x vs v us Q I rx rv h
 obtain ⟨l,b,xs,zs,rfl,rfl,hH,hB,hz,q⟩:=h
 cases rx
 obtain ⟨u,rfl,ru⟩:=rv.one
 cases ru
 obtain ⟨z,its,n,r,hl,e⟩:=I.lstM hH
 obtain ⟨z2,its2,n2,r2,hl2,e2⟩:=I.lstM hB
 have hsz:its.toArray.size+its2.toArray.size≤sizeLine:=by rw [List.size_toArray,List.size_toArray];omega
 have hlong:¬ (!its.toArray.isEmpty && Builtin.List.listTooLong (its.toArray.size+its2.toArray.size))=true:=by
  rw [Zhe hsz,Bool.and_false]
  exact Bool.false_ne_true
 refine call_meets F.slot_list_extend ⟨_,e,rfl⟩ F.entry_list_extend (F.args_list_extend_2 _ _)
  (AutoSeq1.list_extend_list_list_0 l its.toArray n b its2.toArray n2 hlong (by rw [List.size_toArray];omega) (by omega)) ⟨e,e2,?_⟩
 refine ⟨.non,_,I.lset (its':=its++its2) hH e (by simp) (r.append r2) ?_,rfl,q⟩
 rw [List.length_append]
 omega
def rCat:R2:=fun x y H Q=>∃ l b xs zs,x=.ref l∧y=.ref b∧H l=some (.lst xs)∧H b=some (.lst zs)∧xs.length+zs.length≤sizeLine∧∀ p,H p=none→Q (.ref p) (upd H p (.lst (xs++zs)))
theorem Zjd:OpR X (binaryOp .Add) rCat:=by
 intro pins s σ H x y v u Q I rx ry h
 obtain ⟨l,b,xs,zs,rfl,rfl,hH,hB,hz,q⟩:=h
 cases rx
 cases ry
 obtain ⟨z,its,n,r,hl,e⟩:=I.lstM hH
 obtain ⟨z2,its2,n2,r2,hl2,e2⟩:=I.lstM hB
 refine PySem.P.add_list e e2 ?_ (by rw [List.size_toArray,List.size_toArray];omega)
 have ea:its.toArray++its2.toArray=(its++its2).toArray:=by simp
 rw [ea]
 exact ⟨.ref _,_,I.lnew (t':=s.toks) (r.append r2) (by rw [List.length_append];omega),rfl,q _ I.fresh⟩
end
section
variable {prog:Program}{w:World}{A:Around}{E:Value→Shared→Prop}{s:Shared}
end
section
variable {X:Cx}
end
end L2
namespace L2
open PySem PySem.Spec PyProof.Rows
theorem Vals.ints:∀ {ns:List Int}{us:List Value},Vals (ns.map V.int) us→IntsAre us ns
 | [],us,h=>by
  rw [List.map_nil] at h
  cases h
  exact IntsAre.nil
 | n::ns,us,h=>by
  rw [List.map_cons] at h
  cases h with
  | cons r t =>
   obtain ⟨k,rfl⟩:=r
   exact IntsAre.cons n k (Vals.ints t)
theorem Vals.ref1 {a:Addr}{us:List Value} (r:Vals [V.ref a] us):us=[Value.ref a]:=by
 cases r with
 | cons r t =>
  cases t
  cases r
  rfl
section
variable {prog:Program}{w:World}{A:Around}{E:Value→Shared→Prop}{s:Shared}{l:Addr}{its:List Value}{ns:List Int}{Q:Value→Shared→Prop}
theorem Zh8 (hh:A.handled=none) (hl:s.heap.IsList l its.toArray) (hi:IntsAre its ns)
  (h:∀ h' tk t',(∀ b o,s.heap.get? b=some o→h'.get? b=some o)→Q (.int ns.sum t') { s with heap:=h',toks:=tk }):wpAny (model prog w) A (call (.builtin "sum") [.ref l]) Q E s:=by
 obtain ⟨xs,e⟩:=hi.allInts.items
 have hn:numsOf (intItems xs).toList=ns:=by rw [← e];exact hi.numsOf
 rw [nums_intItems] at hn
 rw [e] at hl
 refine PySem.sum_intListG hh hl fun h' tk t' hk=>?_
 have:=h h' tk t' hk
 rw [preSum_eq,List.take_of_length_le (by simp),hn];exact this
end
section
variable {X:Cx}
def rSum (K:PySem.W.Frag):List V→Hp→VK→Prop:=fun vs H Q=>∃ (a:Addr) (ns:List Int),vs=[V.ref a]∧SqL K H a (ns.map V.int)∧Q (.int ns.sum) H
theorem ZgE (hc:X.calm=true):ZdO X (.builtin "sum") (rSum X.K):=by
 intro pins s σ H vs us Q I r h
 obtain ⟨a,ns,rfl,hs,q⟩:=h
 obtain ⟨its,rv,hl,_⟩:=I.list hs
 rw [Vals.ref1 r]
 exact Zh8 (I.ok.hd hc) hl.isList rv.ints fun h' tk t' hk=>⟨.int _,H,I.kept hk,⟨_,rfl⟩,q⟩
end
section
variable {X:Cx}
def Zi3 (K:PySem.W.Frag):V→List V→Hp→VK→Prop:=fun x xs H Q=>∃ (a:Addr) (ys:List V) (y:V) (j:Nat) (z:V),x=V.ref a∧xs=[y]∧SqL K H a ys∧VT y=true∧ys.all VT=true∧ys[j]?=some z∧eqV z y=true ∧
 (∀ (m:Nat) (z':V),m<j→ys[m]?=some z'→eqV z' y=false)∧Q (.int (j:Nat)) H
theorem Zgx {ys:List V} (f:ys.all VT=true) {j:Nat}{z:V} (h:ys[j]?=some z):VT z=true:=List.all_eq_true.mp f z (List.mem_of_getElem? h)
theorem Zhj:MtR X "list.index" (Zi3 X.K):=by
 intro pins s σ H x xs v us Q I rx rxs h
 obtain ⟨a,ys,y,j,z,rfl,rfl,hs,fy,fys,hz,hzj,hno,q⟩:=h
 cases rx
 cases rxs with
 | cons ry rt =>
  rename_i uy ut
  cases rt
  obtain ⟨its,rv,⟨⟨cls,dd,data,sl⟩,n,ho,hc,hdn,hd⟩,hlen⟩:=I.list hs
  simp only at hc hd
  subst hc hd
  obtain ⟨u,hu,ru⟩:=rv.get hz
  obtain ⟨hjl,hje⟩:=List.getElem?_eq_some_iff.mp hu
  have hvl:=rv.length
  have hj:j<its.toArray.size:=by simpa using hjl
  have hsl:=sizeLine_eq
  refine call_meets PySem.F.slot_list_index ⟨_,ho,rfl⟩ PySem.F.entry_list_index (PySem.F.args_list_index_2 _ _)
   (SeqAt.list_indexAt a its.toArray n dd sl uy (eqU y) j hj (by omega) ?_ ?_) ⟨ho,fun u' hu'=>V8 ry fy rv fys u' (by simpa using hu'),?_⟩
  ·have e1:its.toArray[j]=u:=by simpa using hje
   rw [e1,ZeU ru (Zgx fys hz)]
   exact hzj
  ·intro m hm hmj
   have hml:m<its.length:=by simpa using hm
   have hmy:m<ys.length:=by omega
   have hy':ys[m]?=some ys[m]:=List.getElem?_eq_getElem hmy
   obtain ⟨u2,hu2,ru2⟩:=rv.get hy'
   obtain ⟨_,hme⟩:=List.getElem?_eq_some_iff.mp hu2
   have e1:its.toArray[m]=u2:=by simpa using hme
   rw [e1,ZeU ru2 (Zgx fys hy')]
   exact hno m _ hmj hy'
  ·exact ⟨.int (j:Nat),H,I.tok _,⟨_,rfl⟩,q⟩
end
section
variable {X:Cx}
end
section
variable {X:Cx}
end
mutual
inductive Dp (K:PySem.W.Frag) (H:Hp):V→PyData→Prop
 | non:Dp K H .non .none
 | bl (b:Bool):Dp K H (.bl b) (.bool b)
 | int (i:Int):Dp K H (.int i) (.int i)
 | str (x:Str):Dp K H (.str x) (.str x)
 | lst {a:Addr}{xs:List V}{ds:List PyData}:SqL K H a xs→Zes K H xs ds→Dp K H (.ref a) (.list ds)
 | tup {a:Addr}{xs:List V}{ds:List PyData}:SqT K H a xs→Zes K H xs ds→Dp K H (.ref a) (.tuple ds)
inductive Zes (K:PySem.W.Frag) (H:Hp):List V→List PyData→Prop
 | nil:Zes K H [] []
 | cons {v:V}{vs:List V}{d:PyData}{ds:List PyData}:Dp K H v d→Zes K H vs ds→Zes K H (v::vs) (d::ds)
end
section
variable {X:Cx}{pins:List (Addr×Obj)}{σ:St}{H:Hp}{s:Shared}
mutual
theorem Dp.reads (I:Inv X pins σ H s):∀ (d:PyData) (v:V) (u:Value),Dp X.K H v d→RelV v u→∃ as,Reads s.heap u d as
 | .none,_,_,h,r=>by
  cases h
  cases r
  exact ⟨_,Reads.none⟩
 | .bool b,_,_,h,r=>by
  cases h
  cases r
  exact ⟨_,Reads.bool b⟩
 | .int i,_,_,h,r=>by
  cases h
  obtain ⟨t,rfl⟩:=r
  exact ⟨_,Reads.int i t⟩
 | .str x,_,_,h,r=>by
  cases h
  obtain ⟨t,rfl⟩:=r
  exact ⟨_,Reads.str x t⟩
 | .list ds,_,_,h,r=>by
  cases h with
  | lst hs ha =>
   cases r
   obtain ⟨its,rv,⟨o,n,ho,hc,_,hd⟩,_⟩:=I.list hs
   obtain ⟨as,hr⟩:=Dp.readsAll I ds _ its ha rv
   exact ⟨_,Reads.list ho hc hd hr⟩
 | .tuple ds,_,_,h,r=>by
  cases h with
  | tup hs ha =>
   cases r
   obtain ⟨its,rv,⟨o,ho,hc,n,hd⟩,_⟩:=I.tuple hs
   obtain ⟨as,hr⟩:=Dp.readsAll I ds _ its ha rv
   exact ⟨_,Reads.tuple ho hc hd hr⟩
 | .dict _,_,_,h,_=>by cases h
theorem Dp.readsAll (I:Inv X pins σ H s):∀ (ds:List PyData) (vs:List V) (us:List Value),Zes X.K H vs ds→Vals vs us→∃ as,ReadsAll s.heap us ds as
 | [],_,_,h,r=>by
  cases h
  cases r
  exact ⟨_,ReadsAll.nil⟩
 | d::ds,_,_,h,r=>by
  cases h with
  | cons h1 h2 =>
   cases r with
   | cons r1 r2 =>
    obtain ⟨as,q1⟩:=Dp.reads I d _ _ h1 r1
    obtain ⟨bs,q2⟩:=Dp.readsAll I ds _ _ h2 r2
    exact ⟨_,ReadsAll.cons q1 q2⟩
end
end
section
variable {X:Cx}
def rEqD (K:PySem.W.Frag):R2:=fun x y H Q=>∃ d e,Dp K H x d∧Dp K H y e∧SeqAt.shaped d=true∧SeqAt.shaped e=true∧Q (.bl (PyData.eqv d e)) H
theorem Zjc (hu:X.A.units+64<cLine):OpR X (compareOp .Eq) (rEqD X.K):=by
 intro pins s σ H x y v u Q I rx ry h
 obtain ⟨d,e,hd,he,sd,se,q⟩:=h
 obtain ⟨as,r1⟩:=Dp.reads I d x v hd rx
 obtain ⟨bs,r2⟩:=Dp.reads I e y u he ry
 exact SeqAt.compareEq_shaped r1 r2 sd se hu ⟨.bl _,H,I,rfl,q⟩
end
end L2
namespace L2
open PySem PySem.Spec PyProof.Rows
abbrev Zh0 (h:Heap) (c:Addr) (v:Option Value):Prop:=h.IsCell c v
def relS (scope sc:Scope):Scope :=
 { scope with names:=scope.names.map fun (n,k)=>if (k==.free && sc.kind==.function && sc.names.lookup n==some .cell) then (n,.cell) else (n,k) }
def Ys (cells:List (Str×Addr)):List (Str×NameKind)→List (Str×Addr)→List (Str×Addr)
 | [],acc=>acc
 | (n,k)::r,acc=>if k==.free then Ys cells r ((n,(cells.lookup n).getD 0)::acc) else Ys cells r acc
theorem Zaj (env:Env) (f:Str×NameKind→List (Str×Addr)→Sem (ForInStep (List (Str×Addr))))
  (hf:∀ n k c,f (n,k) c=if k==.free then (do let a ← cellOf env n;pure (.yield ((n,a)::c))) else pure (.yield c)) :
  ∀ (names:List (Str×NameKind)) (acc:List (Str×Addr)),(∀ y∈names,y.2=.free→∃ c,env.cells.lookup y.1=some c)→forIn names acc f=pure (Ys env.cells names acc)
 | [],acc,_=>by rw [List.forIn_nil];rfl
 | (n,k)::r,acc,h=>by
  rw [List.forIn_cons,hf]
  have ih:=fun acc=>Zaj env f hf r acc fun y hy=>h y (List.mem_cons_of_mem _ hy)
  unfold Ys
  by_cases hk:(k==NameKind.free)=true
  ·rw [if_pos hk,if_pos hk]
   obtain ⟨c,hc⟩:=h (n,k) List.mem_cons_self (by simpa using hk)
   have e:cellOf env n=pure c:=by unfold cellOf;rw [hc]
   rw [e]
   have e2:(env.cells.lookup n).getD 0=c:=by rw [hc];rfl
   rw [e2]
   exact ih _
  ·rw [if_neg hk,if_neg hk]
   exact ih _
theorem Zfx {scope:Scope}{env:Env} (h:∀ y∈scope.names,y.2=.free→∃ c,env.cells.lookup y.1=some c):closureFor scope env=pure (Ys env.cells scope.names []):=by
 simp only [closureFor]
 rw [Zaj env _ (fun n k c=>rfl) scope.names [] h]
 rfl
theorem JS {α:Type}:∀ {l:List (Str×α)}{n:Str}{c:α},(n,c)∈l→∃ c',l.lookup n=some c'
 | (k,v)::r,n,c,h=>by
  rw [List.lookup_cons]
  cases hb:n==k with
  | true=>exact ⟨_,rfl⟩
  | false =>
   rcases List.mem_cons.mp h with e | h
   ·cases e;simp at hb
   ·exact JS h
theorem Vc {cells:List (Str×Addr)}:∀ {names:List (Str×NameKind)}{acc:List (Str×Addr)}{n:Str}{c:Addr},(n,c)∈Ys cells names acc→(n,c)∈acc∨((n,.free)∈names∧c=(cells.lookup n).getD 0)
 | [],_,_,_,h=>.inl h
 | (m,k)::r,acc,n,c,h=>by
  unfold Ys at h
  split at h
  ·rename_i hk
   have hk:k=.free:=by simpa using hk
   rcases Vc h with h | ⟨h1,h2⟩
   ·rcases List.mem_cons.mp h with e | h
    ·cases e;exact .inr ⟨hk ▸ List.mem_cons_self,rfl⟩
    ·exact .inl h
   ·exact .inr ⟨List.mem_cons_of_mem _ h1,h2⟩
  ·rcases Vc h with h | ⟨h1,h2⟩
   ·exact .inl h
   ·exact .inr ⟨List.mem_cons_of_mem _ h1,h2⟩
theorem UQ {cells:List (Str×Addr)}:∀ {names:List (Str×NameKind)}{acc:List (Str×Addr)}{p:Str×Addr},p∈acc→p∈Ys cells names acc
 | [],_,_,h=>h
 | (m,k)::r,acc,p,h=>by
  unfold Ys
  split
  ·exact UQ (List.mem_cons_of_mem _ h)
  ·exact UQ h
theorem UP {cells:List (Str×Addr)}:∀ {names:List (Str×NameKind)}{acc:List (Str×Addr)}{n:Str},(n,.free)∈names→(n,(cells.lookup n).getD 0)∈Ys cells names acc
 | (m,k)::r,acc,n,h=>by
  unfold Ys
  rcases List.mem_cons.mp h with e | h
  ·cases e
   exact UQ List.mem_cons_self
  ·split
   ·exact UP h
   ·exact UP h
theorem VX:∀ {names:List (Str×NameKind)}{h:Heap}{acc:List (Str×Addr)}{x:Str}{c:Addr},(x,c)∈cellsFrom h.objs.size names acc →
  (x,c)∈acc∨((x,.cell)∈names∧h.objs.size≤c∧Zh0 (pushCells h names) c none)
 | [],_,_,_,_,h=>.inl h
 | (n,k)::r,h,acc,x,c,hm=>by
  unfold cellsFrom at hm
  unfold pushCells
  split at hm
  ·rename_i hk
   rw [if_pos hk]
   have hk:k=.cell:=by simpa using hk
   rw [← Heap.size_push h { cls:=.type "cell",data:=.cell none }] at hm
   rcases VX hm with hm | ⟨h1,h2,h3⟩
   ·rcases List.mem_cons.mp hm with e | hm
    ·cases e
     exact .inr ⟨hk ▸ List.mem_cons_self,Nat.le_refl _,_,pushCells_keeps r _ _ _ (Heap.get?_push_size _ rfl),rfl⟩
    ·exact .inl hm
   ·rw [Heap.size_push] at h2
    exact .inr ⟨List.mem_cons_of_mem _ h1,Nat.le_of_succ_le h2,h3⟩
  ·rename_i hk
   rw [if_neg hk]
   rcases VX hm with hm | ⟨h1,h2,h3⟩
   ·exact .inl hm
   ·exact .inr ⟨List.mem_cons_of_mem _ h1,h2,h3⟩
theorem Jy:∀ {names:List (Str×NameKind)}{n:Nat}{acc:List (Str×Addr)}{p:Str×Addr},p∈acc→p∈cellsFrom n names acc
 | [],_,_,_,h=>h
 | (m,k)::r,n,acc,p,h=>by
  unfold cellsFrom
  split
  ·exact Jy (List.mem_cons_of_mem _ h)
  ·exact Jy h
theorem Zbd:∀ {names:List (Str×NameKind)}{n:Nat}{acc:List (Str×Addr)}{x:Str},(x,.cell)∈names→∃ c,(x,c)∈cellsFrom n names acc
 | (m,k)::r,n,acc,x,h=>by
  unfold cellsFrom
  rcases List.mem_cons.mp h with e | h
  ·cases e
   exact ⟨n,Jy List.mem_cons_self⟩
  ·split
   ·exact Zbd h
   ·exact Zbd h
theorem Zbc:∀ {names:List (Str×NameKind)}{h:Heap}{acc:List (Str×Addr)}{x y:Str}{c:Addr},(∀ p∈acc,p.2<h.objs.size)→(∀ x y c,(x,c)∈acc→(y,c)∈acc→x=y) →
  (x,c)∈cellsFrom h.objs.size names acc→(y,c)∈cellsFrom h.objs.size names acc→x=y
 | [],_,_,_,_,_,_,hi,h1,h2=>hi _ _ _ h1 h2
 | (n,k)::r,h,acc,x,y,c,hl,hi,h1,h2=>by
  unfold cellsFrom at h1 h2
  split at h1
  ·rename_i hk
   rw [if_pos hk] at h2
   rw [← Heap.size_push h { cls:=.type "cell",data:=.cell none }] at h1 h2
   refine Zbc (h:=h.push _) (fun p hp=>?_) (fun x y c a b=>?_) h1 h2
   ·rw [Heap.size_push]
    rcases List.mem_cons.mp hp with rfl | hp
    ·exact Nat.lt_succ_self _
    ·exact Nat.lt_succ_of_lt (hl p hp)
   ·rcases List.mem_cons.mp a with e | a <;> rcases List.mem_cons.mp b with e' | b
    ·cases e;cases e';rfl
    ·cases e;exact absurd (hl _ b) (Nat.lt_irrefl _)
    ·cases e';exact absurd (hl _ a) (Nat.lt_irrefl _)
    ·exact hi _ _ _ a b
  ·rename_i hk
   rw [if_neg hk] at h2
   exact Zbc hl hi h1 h2
theorem Zeb {M:Model}{A:Around}{E:Value→Shared→Prop}{s:Shared}{scope:Scope}{globals:Addr}{closure:List (Str×Addr)}{qual:Str}{func:Option Addr}{code:Value}{around:Env}{builtins:Addr}{Q:Env→Shared→Prop}
  (h:Q (newEnv scope s.heap.objs.size globals (cellsFrom (s.heap.objs.size+1) scope.names closure) qual func code (some around) builtins)
   { s with heap:=pushCells (s.heap.push { cls:=.type "dict",data:=.dict #[] }) scope.names }) :
  wpAny M A (newFunctionEnv scope globals closure [] qual func code (some around) builtins) Q E s:=by
 simp only [newFunctionEnv,Option.isSome_some,if_true]
 refine wpAny_bind (wpAny_alloc ?_)
 refine wpAny_bind (wpAny_layCells _ (fun n k c=>rfl) scope.names closure _ _ ?_)
 rw [show ({ s with heap:=s.heap.push { cls:=.type "dict",data:=.dict #[] } }:Shared).heap.objs.size=s.heap.objs.size+1 from Heap.size_push ..]
 rw [List.forIn_nil]
 exact wpAny_bind (wpAny_pure (wpAny_pure h))
theorem UH {sc:Scope}:∀ {names:List (Str×NameKind)}{x:Str}{k:NameKind},
  (names.map fun (n,k)=>if (k==NameKind.free && sc.kind==.function && sc.names.lookup n==some .cell) then (n,NameKind.cell) else (n,k)).lookup x=some k →
  ∃ k',names.lookup x=some k'∧(k=k'∨(k'=.free∧k=.cell))
 | [],_,_,h=>by simp at h
 | (n,k₀)::r,x,k,h=>by
  have ih:=@UH sc r x k
  have h':List.lookup x ((if (k₀==NameKind.free && sc.kind==.function && sc.names.lookup n==some .cell)=true then (n,NameKind.cell) else (n,k₀))::(r.map _))=some k:=h
  cases hx:x==n with
  | true =>
   simp only [List.lookup_cons,hx]
   by_cases hc:(k₀==NameKind.free && sc.kind==.function && sc.names.lookup n==some .cell)=true
   ·rw [if_pos hc] at h'
    simp only [List.lookup_cons,hx] at h'
    cases h'
    simp only [Bool.and_eq_true,beq_iff_eq] at hc
    exact ⟨k₀,rfl,.inr ⟨hc.1.1,rfl⟩⟩
   ·rw [if_neg hc] at h'
    simp only [List.lookup_cons,hx] at h'
    cases h'
    exact ⟨_,rfl,.inl rfl⟩
  | false =>
   simp only [List.lookup_cons,hx]
   by_cases hc:(k₀==NameKind.free && sc.kind==.function && sc.names.lookup n==some .cell)=true
   ·rw [if_pos hc] at h'
    simp only [List.lookup_cons,hx] at h'
    exact ih h'
   ·rw [if_neg hc] at h'
    simp only [List.lookup_cons,hx] at h'
    exact ih h'
structure JD (N:List Str) (sc scope:Scope) (own:List (Str×Nat)):Prop where
 kind:scope.kind=.function
 uniq:∀ y∈scope.names,scope.names.lookup y.1=some y.2
 ix:∀ p∈own,N[p.2]?=some p.1
 free:∀ y∈scope.names,y.2=.free→sc.names.lookup y.1=some .cell∨sc.names.lookup y.1=some .free
 own:∀ y∈scope.names,y.2=.local∨y.2=.cell→y.1∈own.map (·.1)∨y.1 ∉ N
def wipe (σ:St):List Nat→St
 | []=>σ
 | v::vs=>(wipe σ vs).set v none
theorem Uv (σ:St):∀ vs:List Nat,(wipe σ vs).length=σ.length
 | []=>rfl
 | v::vs=>by unfold wipe;rw [List.length_set,Uv σ vs]
theorem Zay {σ:St}{i:Nat}{x:V}:∀ {vs:List Nat},(wipe σ vs)[i]?=some (some x)→σ[i]?=some (some x)∧i ∉ vs
 | [],h=>⟨h,by simp⟩
 | v::vs,h=>by
  unfold wipe at h
  by_cases hi:v=i
  ·subst hi
   by_cases hv:v<(wipe σ vs).length
   ·rw [List.getElem?_set_self hv] at h;cases h
   ·rw [List.getElem?_eq_none (by simpa using hv)] at h;cases h
  ·rw [List.getElem?_set_ne hi] at h
   obtain ⟨h1,h2⟩:=Zay h
   exact ⟨h1,by simp only [List.mem_cons,not_or];exact ⟨fun e=>hi e.symm,h2⟩⟩
abbrev Cx.blk (X:Cx) (s:Shared) (H:Hp) (scope:Scope) (cenv:Env) (fp:List Addr):Cx:={ X with s_0:=s,H_0:=H,env:=cenv,outer:=X.stack,ex:=fp,fn:=fun x=>scope.names.lookup x==some .cell,pn:=[],xe:=fun _ _=>False }
section
variable {X:Cx}{pins:List (Addr×Obj)}{σ:St}{H:Hp}{s:Shared}
theorem Zeq {scope:Scope}{own:List (Str×Nat)}{fp:List Addr} (I:Inv X pins σ H s) (ok:JD X.N X.env.scope scope own) (hN:X.N.Nodup) (hfp:∀ b∈fp,FpOk X pins H b∧b<s.heap.objs.size) :
  Inv (X.blk s H scope (compEnvC scope (cellsFrom (s.heap.objs.size+1) scope.names (Ys X.env.cells scope.names [])) s.heap.objs.size X.env) fp) [] (wipe σ (own.map (·.2))) H { s with heap:=pushCells (s.heap.push { cls:=.type "dict",data:=.dict #[] }) scope.names }:=by
 have hfree:∀ y∈scope.names,y.2=.free→∃ c,X.env.cells.lookup y.1=some c:=fun y hy e=>by
  rcases ok.free y hy e with k | k
  ·exact I.ok.has _ (.inl k)
  ·exact I.ok.has _ (.inr k)
 generalize hcenv:compEnvC scope (cellsFrom (s.heap.objs.size+1) scope.names (Ys X.env.cells scope.names [])) s.heap.objs.size X.env=cenv
 have kp:∀ b o,s.heap.get? b=some o→(pushCells (s.heap.push { cls:=.type "dict",data:=.dict #[] }) scope.names).get? b=some o:=fun b o e=>pushCells_keeps _ _ _ _ (Heap.get?_push_of_some _ e)
 have hL:cenv.locals=s.heap.objs.size:=by rw [← hcenv];rfl
 have hcl:cenv.cells=cellsFrom (s.heap.objs.size+1) scope.names (Ys X.env.cells scope.names []):=by rw [← hcenv];rfl
 have hsc:cenv.scope=relS scope X.env.scope:=by rw [← hcenv];rfl
 rw [← Heap.size_push s.heap { cls:=.type "dict",data:=.dict #[] }] at hcl
 have cm:∀ {y c},(y,c)∈Ys X.env.cells scope.names []→X.env.cells.lookup y=some c∧c<s.heap.objs.size:=fun {y c} hm=>by
  rcases Vc hm with hm | ⟨h1,rfl⟩
  ·cases hm
  ·obtain ⟨c,hc⟩:=hfree _ h1 rfl
   rw [hc]
   obtain ⟨w,z⟩:=I.cell _ _ hc
   exact ⟨rfl,z.lt⟩
 have mem:∀ {y c},cenv.cells.lookup y=some c→(X.env.cells.lookup y=some c∧c<s.heap.objs.size)∨(s.heap.objs.size+1≤c∧Zh0 (pushCells (s.heap.push { cls:=.type "dict",data:=.dict #[] }) scope.names) c none):=fun {y c} e=>by
  rw [hcl] at e
  rcases VX (PySem.mem_of_lookup e) with hm | ⟨_,h2,h3⟩
  ·exact .inl (cm hm)
  ·rw [Heap.size_push] at h2;exact .inr ⟨h2,h3⟩
 have look:∀ {y},scope.names.lookup y=some .free→∃ c,cenv.cells.lookup y=some c∧X.env.cells.lookup y=some c:=fun {y} hl=>by
  have hy:(y,NameKind.free)∈scope.names:=PySem.mem_of_lookup hl
  obtain ⟨c',e'⟩:=JS (Jy (names:=scope.names) (n:=(s.heap.push { cls:=.type "dict",data:=.dict #[] }).objs.size) (UP (cells:=X.env.cells) (acc:=[]) hy))
  rw [← hcl] at e'
  refine ⟨c',e',?_⟩
  rw [hcl] at e'
  rcases VX (PySem.mem_of_lookup e') with hm | ⟨h1,_,_⟩
  ·exact (cm hm).1
  ·have:=ok.uniq _ h1
   rw [hl] at this;cases this
 have okB:(X.blk s H scope cenv fp).Ok:=by
  refine ⟨I.ok.mod,by show cenv.scope.kind=_;rw [hsc];exact ok.kind,by show cenv.globals=_;rw [← hcenv];exact I.ok.glob,by show cenv.builtins=_;rw [← hcenv];exact I.ok.blt,by show s.heap.objs.size≤cenv.locals;rw [hL];exact Nat.le_refl _,
   fun y z c e1 e2=>?_,fun y hy=>?_,fun y c z e=>?_,I.ok.hd,I.ok.frames,.inl rfl,fun b hb=>⟨?_,fun y c e z=>?_⟩,I.bs,Nat.le_trans I.ok.bsz I.sz,fun b o e hb=>?_,fun b hb z=>?_,I.stack,I.stkFree⟩
  ·have e1:cenv.cells.lookup y=some c:=e1
   have e2:cenv.cells.lookup z=some c:=e2
   rw [hcl] at e1 e2
   refine Zbc (fun p hp=>?_) (fun y z c a b=>I.ok.inj y z c (cm a).1 (cm b).1) (PySem.mem_of_lookup e1) (PySem.mem_of_lookup e2)
   rw [Heap.size_push]
   exact Nat.lt_succ_of_lt (cm (y:=p.1) (c:=p.2) hp).2
  ·show ∃ c,cenv.cells.lookup y=some c
   have key:∀ k,cenv.kindOf y=some k→(k=.cell∨k=.free)→∃ c,cenv.cells.lookup y=some c:=fun k hk hk'=>by
    unfold Env.kindOf at hk
    rw [hsc] at hk
    obtain ⟨k',e,r⟩:=UH hk
    have:k'=.cell∨k'=.free:=by
     rcases r with rfl | ⟨rfl,_⟩
     ·exact hk'
     ·exact .inr rfl
    rcases this with rfl | rfl
    ·obtain ⟨c,hm⟩:=Zbd (n:=(s.heap.push { cls:=.type "dict",data:=.dict #[] }).objs.size) (acc:=Ys X.env.cells scope.names []) (PySem.mem_of_lookup e)
     obtain ⟨c',e'⟩:=JS hm
     exact ⟨c',by rw [hcl];exact e'⟩
    ·obtain ⟨c,h1,_⟩:=look e
     exact ⟨c,h1⟩
   rcases hy with hy | hy
   ·exact key _ hy (.inl rfl)
   ·exact key _ hy (.inr rfl)
  ·have z:(scope.names.lookup y==some NameKind.cell)=true:=z
   have z:scope.names.lookup y=some .cell:=by simpa using z
   have e:cenv.cells.lookup y=some c:=e
   rw [hcl] at e
   rcases VX (PySem.mem_of_lookup e) with hm | ⟨_,h2,_⟩
   ·rcases Vc hm with hm | ⟨h1,_⟩
    ·cases hm
    ·have q:=ok.uniq _ h1
     rw [z] at q;cases q
   ·rw [Heap.size_push] at h2
    exact Nat.le_of_succ_le h2
  ·show b≠cenv.locals
   rw [hL];exact Nat.ne_of_lt (hfp b hb).2
  ·have e:cenv.cells.lookup y=some c:=e
   rcases mem e with ⟨h1,_⟩ | ⟨h1,_⟩
   ·exact (hfp b hb).1.2.2.2.2.1 y c h1 z
   ·have h2:s.heap.objs.size+1≤b:=by rw [← z];exact h1
    exact absurd (Nat.lt_of_lt_of_le (hfp b hb).2 (Nat.le_of_succ_le h2)) (Nat.lt_irrefl _)
  ·rcases (hfp b hb).1.2.2.2.1 with z | z
   ·exact I.ok.noex b o e z
   ·exact absurd (Nat.lt_of_lt_of_le (Heap.lt_size e) (Nat.le_trans I.ok.bsz z)) (Nat.lt_irrefl _)
  ·rcases List.mem_cons.mp (I.stkSub b z) with z | z
   ·exact (hfp b hb).1.2.1 z
   ·exact (hfp b hb).1.2.2.1 z
 refine ⟨okB,rfl,I.bare,Un.kept kp,⟨fun _=>none,?_,fun i y av e1 e2 e3=>?_⟩,fun y c e=>?_,?_,fun y c e=>?_,fun p hp=>?_,I.hok.kept kp,by rw [Uv];exact I.len⟩
 ·show Heap.Ns _ cenv.locals _
  rw [hL]
  exact Heap.Ns.keeps (Heap.Ns.new ..) fun b o e=>pushCells_keeps _ _ _ _ e
 ·obtain ⟨e2,hne⟩:=Zay e2
  have hfr:scope.names.lookup y=some .free∧(cenv.kindOf y=some .cell∨cenv.kindOf y=some .free):=by
   have key:∀ k,cenv.scope.names.lookup y=some k→k=.local∨k=.cell∨k=.free→scope.names.lookup y=some .free∧(cenv.kindOf y=some .cell∨cenv.kindOf y=some .free):=fun k hk hk'=>by
    have hk0:=hk
    rw [hsc] at hk
    obtain ⟨k',e,r⟩:=UH hk
    have no:¬ (k'=.local∨k'=.cell):=fun hh=>by
     rcases ok.own _ (PySem.mem_of_lookup e) hh with e' | e'
     ·obtain ⟨p,hp,hpy⟩:=List.mem_map.mp e'
      have e3:=ok.ix p hp
      have:p.1=y:=hpy
      rw [this] at e3
      exact hne (List.mem_map.mpr ⟨p,hp,Zcw hN e3 e1⟩)
     ·exact e' (List.mem_of_getElem? e1)
    rcases r with rfl | ⟨rfl,rfl⟩
    ·rcases hk' with rfl | rfl | rfl
     ·exact absurd (.inl rfl) no
     ·exact absurd (.inr rfl) no
     ·exact ⟨e,.inr hk0⟩
    ·exact ⟨e,.inl hk0⟩
   have e3:Vis cenv.scope y:=e3
   rcases e3 with e3 | e3 | e3
   ·exact key _ e3 (.inl rfl)
   ·exact key _ e3 (.inr (.inl rfl))
   ·exact key _ e3 (.inr (.inr rfl))
  obtain ⟨m,hn,hl⟩:=I.loc
  have hvis:Vis X.env.scope y:=(ok.free _ (PySem.mem_of_lookup hfr.1) rfl).elim (fun k=>.inr (.inl k)) (fun k=>.inr (.inr k))
  obtain ⟨w,r,q⟩:=hl i y av e1 e2 hvis
  refine ⟨w,r,.inr ⟨hfr.2,?_⟩⟩
  obtain ⟨c,h1,h2⟩:=look hfr.1
  rcases q with ⟨k,_⟩ | ⟨_,c',e',z⟩
  ·have k:X.env.scope.names.lookup y=some .local:=k
   rcases ok.free _ (PySem.mem_of_lookup hfr.1) rfl with k' | k' <;> rw [show X.env.scope.names.lookup y=_ from k'] at k <;> cases k
  ·rw [h2] at e';cases e'
   exact ⟨c,h1,z.keeps kp⟩
 ·have e:cenv.cells.lookup y=some c:=e
  rcases mem e with ⟨h1,_⟩ | ⟨_,z⟩
  ·obtain ⟨w,z⟩:=I.cell y c h1
   exact ⟨w,z.keeps kp⟩
  ·exact ⟨_,z⟩
 ·show H cenv.locals=none
  rw [hL];exact I.hok.fresh (Nat.le_refl _)
 ·have e:cenv.cells.lookup y=some c:=e
  rcases mem e with ⟨h1,_⟩ | ⟨h1,_⟩
  ·exact I.freeC y c h1
  ·exact I.hok.fresh (Nat.le_of_succ_le h1)
 ·exact absurd (show p∈([]:List (Addr×Obj))++[] from hp) (by simp)
theorem ZjL {E:Value→Shared→Prop}{D:Addr}{xs:List V}{y:V}{v:Value}{Q:Value→Shared→Prop} (I:Inv X pins σ H s) (hD:H D=some (.lst xs)) (hz:xs.length<sizeLine) (r:RelV y v)
  (h:∀ s',Inv X pins σ (upd H D (.lst (xs++[y]))) s'→Q .none s'):wpAny (model X.prog X.w) X.A (call (.builtin "list.append") [.ref D,v]) Q E s:=by
 obtain ⟨hz',its,n,ri,e⟩:=I.hok D _ hD
 have hl:=ri.length
 refine append_at (hsz:=by rw [List.size_toArray];omega) e fun h' sb ho'=>?_
 refine h { s with heap:=h' } (I.write (t':=s.toks) (by rw [hD];trivial) (.inl rfl) (fun b u hb q=>(sb.2 b hb).trans q) ⟨_,ho'⟩ ⟨by rw [List.length_append];exact hz,its++[v],n+1,ri.append (.cons r .nil),?_⟩)
 rw [ho']
 simp
def PTs (X:Cx) (ifs:List Expr) (t:TT):Prop :=
 ∀ (pins:List (Addr×Obj)) (s:Shared) (σ:St) (H:Hp) (Q:Bool→Hp→Prop),Inv X pins σ H s→t σ H Q →
  wpAny (model X.prog X.w) X.A (forIn ifs true fun c r=>if r=true then do let ok ← isTrue c X.env (eval c X.env);pure (ForInStep.yield ok) else pure (ForInStep.yield r)) (TP X pins σ Q) X.xe s
def tYes:TT:=fun _ H Q=>Q true H
theorem W6:PTs X [] tYes:=fun _ _ _ H _ I h=>wpAny_tests_nil ⟨H,I,h⟩
theorem Zid {c:Expr}{t:TT} (h:PT X c t):PTs X [c] t:=fun pins s σ H Q I hw=>wpAny_tests_one (h pins s σ H Q I hw)
end
theorem thnF {α:Type}{t:Sem α}{Q Q':α→Shared→Prop}{M:Model}{A:Around}{E:Value→Shared→Prop}{s:Shared} (h:wpAny M A t Q (fun _ _=>False) s) (hQ:∀ a s,Q a s→Q' a s):wpAny M A t Q' E s:=wpAny_mono h hQ fun _ _ z=>False.elim z
theorem Zdz {prog:Program}{w:World}{A:Around}{R:Result→Shared→Prop}{s:Shared}{elt target iter:Expr}{ifs:List Expr}{scope:Scope}{pos:Pos}{it acc:Value}{env:Env} (I:Nat→Shared→Prop)
  (turn:∀ n s,I n s→wpAny (model prog w) A (pyNext it) (fun r s₁=>match r with
   | none=>R (.ok .next) s₁
   | some v=>wpAny (model prog w) A (letOwnedTupleGo target it v) (fun _ s₁'=>wpAny (model prog w) A (assign target env v) (fun _ s₂ =>
     wpAny (model prog w) A (forIn ifs true fun c r=>if r=true then do let ok ← isTrue c env (eval c env);pure (ForInStep.yield ok) else pure (ForInStep.yield r)) (fun ok s₃ =>
      if ok=true then wpAny (model prog w) A (eval elt env) (fun x s₄ =>
       wpAny (model prog w) A (call (.builtin "list.append") [acc,x]) (fun _ s₅=>∃ m,m<n∧I m s₅) (notedBy (model prog w) A env fun e s'=>R (.error e) s') s₄) (notedBy (model prog w) A env fun e s'=>R (.error e) s') s₃
      else ∃ m,m<n∧I m s₃) (notedBy (model prog w) A env fun e s'=>R (.error e) s') s₂) (notedBy (model prog w) A env fun e s'=>R (.error e) s') s₁') (notedBy (model prog w) A env fun e s'=>R (.error e) s') s₁) (notedBy (model prog w) A env fun e s'=>R (.error e) s') s)
  (n:Nat) (h:I n s) :
  codeAny (model prog w) A (.compLoop (.ListComp elt [⟨target,iter,ifs,0⟩] scope pos) 0 it acc env) R s:=by
 refine codeAny_loop rfl I (fun n s hI=>?_) n h
 show wpAny _ A ((compTurn (.ListComp elt [⟨target,iter,ifs,0⟩] scope pos) 0 it acc env).onRaise (fun x=>do noteFrame x env;theTreesLotGoes x)) _ _ s
 refine wpAny_noted ?_
 rw [compTurn_list]
 refine wpAny_bind (wpAny_standAt (wpAny_bind (wpAny_mono (turn n s hI) (fun r s₁ h₁=>?_) fun _ _ h'=>h')))
 cases r with
 | none=>exact wpAny_pure h₁
 | some v =>
  refine wpAny_bind (wpAny_mono h₁ (fun _ s₁' h₁'=>?_) fun _ _ h'=>h')
  refine wpAny_bind (wpAny_mono h₁' (fun _ s₂ h₂=>wpAny_bind (wpAny_mono h₂ (fun ok s₃ h₃=>?_) fun _ _ h'=>h')) fun _ _ h'=>h')
  cases ok with
  | false=>exact wpAny_pure ⟨rfl,h₃⟩
  | true =>
   exact wpAny_bind (wpAny_bind (wpAny_mono h₃ (fun x s₄ h₄=>wpAny_bind (wpAny_mono h₄ (fun _ s₅ h₅=>wpAny_pure (wpAny_pure ⟨rfl,h₅⟩)) fun _ _ h'=>h')) fun _ _ h'=>h'))
section
variable {X:Cx}
def tLc (wi:TI) (g:TG) (tt:TT) (te:TE) (vs:List Nat):TE:=fun σ H Q=>wi σ H fun J H1=>∀ D,H1 D=none→∃ W:Nat→Nat→Hp→Prop,(∃ m,W 0 m (upd H1 D (.lst [])))∧∀ i m H,W i m H →
 (J.stop i H∧Q (.ref D) H)∨(J.go i H∧∃ Nx:Hp→Prop,(∀ H',Nx H'→∃ m',m' < m∧W (i+1) m' H')∧∀ x H',J.yld i H x H'→g x (wipe σ vs) H' fun σ2 H2=>wipe σ2 vs=wipe σ vs∧tt σ2 H2 fun b H3 =>
  if b=true then te σ2 H3 fun y H4=>∃ acc,H4 D=some (.lst acc)∧acc.length<sizeLine∧Nx (upd H4 D (.lst (acc++[y]))) else Nx H3)
theorem Zgg {pins:List (Addr×Obj)}{s:Shared}{σ:St}{H:Hp}{Q:VK}{elt tg iter:Expr}{ifs:List Expr}{scope:Scope}{own:List (Str×Nat)}{pos pos':Pos}{wi:TI}{g:TG}{tt:TT}{te:TE}{use:Option (Value→Sem Unit)}{Qf:Value→Shared→Prop}
  (hc:X.calm=true) (hN:X.N.Nodup) (I:Inv X pins σ H s) (hi:PI X tg iter wi) (ok:JD X.N X.env.scope scope own)
  (hg:∀ (s:Shared) (H:Hp) (C:Addr) (cl:List (Str×Addr)) (fp:List Addr),PG (X.blk s H scope (compEnvC scope cl C X.env) fp) tg g) (ht:∀ (s:Shared) (H:Hp) (C:Addr) (cl:List (Str×Addr)) (fp:List Addr),PTs (X.blk s H scope (compEnvC scope cl C X.env) fp) ifs tt)
  (he:∀ (s:Shared) (H:Hp) (C:Addr) (cl:List (Str×Addr)) (fp:List Addr),PE (X.blk s H scope (compEnvC scope cl C X.env) fp) elt te) (hs:∀ x,foldedSetIterable iter X.env x=pure x)
  (h:tLc wi g tt te (own.map (·.2)) σ H Q)
  (hRR:∀ D C s' m H',Inv X pins σ H' s'→Q (.ref D) H'→s'.heap.Ns C m→FpOk X pins H' C→compPost (model X.prog X.w) X.A X.xe use Qf (.ref D) C (.ok .next) s') :
  wpAny (model X.prog X.w) X.A (comprehension (.ListComp elt [⟨tg,iter,ifs,0⟩] scope pos) scope X.env pos' (newList []) false (eval iter X.env) use) Qf X.xe s:=by
 have hfree:∀ y∈scope.names,y.2=.free→∃ c,X.env.cells.lookup y.1=some c:=fun y hy e=>by
  rcases ok.free y hy e with k | k
  ·exact I.ok.has _ (.inl k)
  ·exact I.ok.has _ (.inr k)
 refine wpAny_comprehension_free (use:=use) rfl hs (Zfx hfree) ok.kind (fun y hy e=>by rw [ok.uniq y hy,e])
  (thn (hi pins s σ H _ I h) fun xv s1 hx=>thn hx fun itv s2 h2=>?_)
 obtain ⟨it,fp,tn,J,H2,e,I2,T,st2,f2,q⟩:=h2
 subst e
 refine wpAny_newObj_type (Zeb ?_) (by show 0≤sizeLine;decide)
 generalize hD:s2.heap.objs.size=D
 have hDn:H2 D=none:=I2.hok.fresh (Nat.le_of_eq hD)
 obtain ⟨W,⟨m0,w0⟩,turn⟩:=q D hDn
 -- the new list
 generalize hs3:({ s2 with heap:=s2.heap.push { cls:=.type "list",data:=.seq ([]:List Value).toArray } }:Shared)=s3
 have I3:Inv X pins σ (upd H2 D (.lst [])) s3:=by
  rw [← hs3]
  refine I2.laid (t':=s2.toks) (fun b o e=>Heap.get?_push_of_some _ e) (Nat.le_of_eq hD) ⟨Nat.zero_le _,[],0,.nil,?_⟩
  rw [← hD]
  exact Heap.get?_push_size _ rfl
 have h3:s3.heap=s2.heap.push { cls:=.type "list",data:=.seq ([]:List Value).toArray }:=by rw [← hs3]
 have sz:∀ b∈fp,b<s2.heap.objs.size:=fun b hb=>by
  obtain ⟨o,e,_⟩:=T.obj _ _ st2 b hb
  exact Heap.lt_size e
 have f3:∀ b∈fp,FpOk X pins (upd H2 D (.lst [])) b∧b<s3.heap.objs.size:=fun b hb=>by
  have hlt:=sz b hb
  refine ⟨⟨?_,(f2 b hb).2⟩,by rw [h3,Heap.size_push];exact Nat.lt_succ_of_lt hlt⟩
  rw [Zi (by rw [← hD];exact Nat.ne_of_lt hlt)]
  exact (f2 b hb).1
 have st3:tn 0 s3.heap:=T.keep _ _ _ st2 fun b _ o e=>by rw [h3];exact Heap.get?_push_of_some _ e
 have I4:=Zeq I3 ok hN f3
 have pg:=hg s3 (upd H2 D (.lst [])) s3.heap.objs.size (cellsFrom (s3.heap.objs.size+1) scope.names (Ys X.env.cells scope.names [])) fp
 have pt:=ht s3 (upd H2 D (.lst [])) s3.heap.objs.size (cellsFrom (s3.heap.objs.size+1) scope.names (Ys X.env.cells scope.names [])) fp
 have pe:=he s3 (upd H2 D (.lst [])) s3.heap.objs.size (cellsFrom (s3.heap.objs.size+1) scope.names (Ys X.env.cells scope.names [])) fp
 show codeAny _ _ (.compStart (.ListComp elt [⟨tg,iter,ifs,0⟩] scope pos) 0 (.ref it) (.ref D) (compEnvC scope (cellsFrom (s3.heap.objs.size+1) scope.names (Ys X.env.cells scope.names [])) s3.heap.objs.size X.env)) (compPost (model X.prog X.w) X.A X.xe use Qf (.ref D) s3.heap.objs.size) { s3 with heap:=pushCells (s3.heap.push { cls:=.type "dict",data:=.dict #[] }) scope.names }
 have nfp:∀ b∈fp,(upd H2 D (.lst [])) b=none:=fun b hb=>(f3 b hb).1.1
 generalize hce:compEnvC scope (cellsFrom (s3.heap.objs.size+1) scope.names (Ys X.env.cells scope.names [])) s3.heap.objs.size X.env=ce at I4 pg pt pe ⊢
 have cL:ce.locals=s3.heap.objs.size:=by subst hce;rfl
 generalize hH3:upd H2 D (.lst [])=H3 at I3 I4 pg pt pe w0 nfp f3
 generalize hs4:({ s3 with heap:=pushCells (s3.heap.push { cls:=.type "dict",data:=.dict #[] }) scope.names }:Shared)=s4 at I4 ⊢
 have st4:tn 0 s4.heap:=T.keep _ _ _ st3 fun b _ o e=>by rw [← hs4];exact pushCells_keeps _ _ _ _ (Heap.get?_push_of_some _ e)
 have stat:∀ {σ':St}{H':Hp}{s':Shared},Inv (X.blk s3 H3 scope ce fp) [] σ' H' s'→(∀ b∈fp,H' b=none)→∀ b∈fp,FpOk (X.blk s3 H3 scope ce fp) [] H' b:=fun {σ' H' s'} I' hn b hb =>
  ⟨hn b hb,(I'.ok.exf b hb).1,I'.ok.exfs b hb,.inl hb,fun x c e=>(I'.ok.exf b hb).2 x c e,fun p hp=>absurd (show p∈([]:List (Addr×Obj))++[] from hp) (by simp)⟩
 have loop:codeAny (model X.prog X.w) X.A (.compLoop (.ListComp elt [⟨tg,iter,ifs,0⟩] scope pos) 0 (.ref it) (.ref D) ce) (compPost (model X.prog X.w) X.A X.xe use Qf (.ref D) s3.heap.objs.size) s4:=by
  refine Zdz (fun n s'=>∃ i H',Inv (X.blk s3 H3 scope ce fp) [] (wipe σ (own.map (·.2))) H' s'∧tn i s'.heap∧(∀ b∈fp,H' b=none)∧W i n H') ?_ m0 ⟨0,H3,I4,st4,nfp,w0⟩
  rintro n s5 ⟨i,H5,I5,st5,n5,w5⟩
  rcases turn i n H5 w5 with ⟨stop,qq⟩ | ⟨go,Nx,hNx,step⟩
  ·have td:=T.done (X.blk s3 H3 scope ce fp) rfl rfl rfl hc i [] s5 _ H5 (fun _ _=>False) I5 (stat I5 n5) st5 stop
   refine thnF td fun r s6 ⟨hr,I6⟩=>?_
   subst hr
   -- back in the def's context
   have I7:Inv X pins σ H5 s6:=I3.call' (ch:=fp) I6.os I6.base I6.hok I6.bare fun b hb=>⟨(f3 b hb).1.2.2.2.1,(f3 b hb).1.2.1,(f3 b hb).1.2.2.2.2.1,(f3 b hb).1.2.2.2.2.2⟩
   have nC:H5 s3.heap.objs.size=none:=by
    have z:H5 ce.locals=none:=I6.free
    rw [cL] at z
    exact z
   obtain ⟨m,hn,_⟩:=I6.loc
   have hn:s6.heap.Ns ce.locals m:=hn
   rw [cL] at hn
   exact hRR D s3.heap.objs.size s6 m H5 I7 qq hn (I3.fpOk (Nat.le_refl _) nC)
  ·have ti:=T.item (X.blk s3 H3 scope ce fp) rfl rfl rfl hc i [] s5 _ H5 (fun _ _=>False) I5 (stat I5 n5) st5 go
   refine thnF ti fun r s6 ⟨u,hr,h6⟩=>?_
   subst hr
   refine thnF h6 fun _ s7 ⟨x,H7,I7,r7,y7,st7,n7⟩=>?_
   have I7':=I7.pinned (stat I7 n7) (T.obj _ _ st7)
   refine thnF (pg _ s7 _ H7 x u _ I7' r7 (step x H7 y7)) fun _ s8 ⟨σ8,H8,I8,hw8,q8⟩=>?_
   refine thnF (pt _ s8 σ8 H8 _ I8 q8) fun b s9 ⟨H9,I9,q9⟩=>?_
   -- the turn's end
   have fin:∀ {s':Shared}{H':Hp},Inv (X.blk s3 H3 scope ce fp) ([]++Zc4 fp s7.heap) σ8 H' s'→Nx H'→∃ m,m<n∧∃ i H',Inv (X.blk s3 H3 scope ce fp) [] (wipe σ (own.map (·.2))) H' s'∧tn i s'.heap∧(∀ b∈fp,H' b=none)∧W i m H':=fun {s' H'} I' nx=>by
    obtain ⟨m',hm,w'⟩:=hNx H' nx
    have pin':∀ b∈fp,∀ o,s7.heap.get? b=some o→s'.heap.get? b=some o∧H' b=none:=fun b hb o e =>
     let z:=I'.pin (b,o) (List.mem_append_right _ (List.mem_append_right _ (JR hb e)))
     ⟨z.1,z.2.1⟩
    have hl:(wipe σ (own.map (·.2))).length=σ8.length:=by rw [← hw8,Uv]
    refine ⟨m',hm,i+1,H',(I'.unpinned (pins:=[])).weak hl (fun j v e=>?_),T.keep _ _ _ st7 fun b hb o e=>(pin' b hb o e).1,fun b hb=>?_,w'⟩
    ·rw [← hw8] at e
     exact (Zay e).1
    ·obtain ⟨o,e,_⟩:=T.obj _ _ st7 b hb
     exact (pin' b hb o e).2
   cases b with
   | false =>
    simp only [Bool.false_eq_true,if_false] at q9 ⊢
    exact fin I9 q9
   | true =>
    simp only [if_true] at q9 ⊢
    refine thnF (pe _ s9 σ8 H9 _ I9 q9) fun z s10 ⟨yv,H10,I10,r10,acc,hD10,hz10,nx⟩=>?_
    exact ZjL (X:=X.blk s3 H3 scope ce fp) I10 hD10 hz10 r10 fun s11 I11=>fin I11 nx
 exact codeAny_compStart_list loop (T.self X.A 0 _ _ _ st4 loop)
theorem Zf0 {elt tg iter:Expr}{ifs:List Expr}{scope:Scope}{own:List (Str×Nat)}{pos:Pos}{wi:TI}{g:TG}{tt:TT}{te:TE} (hc:X.calm=true) (hN:X.N.Nodup) (hi:PI X tg iter wi) (ok:JD X.N X.env.scope scope own)
  (hg:∀ (s:Shared) (H:Hp) (C:Addr) (cl:List (Str×Addr)) (fp:List Addr),PG (X.blk s H scope (compEnvC scope cl C X.env) fp) tg g) (ht:∀ (s:Shared) (H:Hp) (C:Addr) (cl:List (Str×Addr)) (fp:List Addr),PTs (X.blk s H scope (compEnvC scope cl C X.env) fp) ifs tt)
  (he:∀ (s:Shared) (H:Hp) (C:Addr) (cl:List (Str×Addr)) (fp:List Addr),PE (X.blk s H scope (compEnvC scope cl C X.env) fp) elt te) (hs:∀ x,foldedSetIterable iter X.env x=pure x:=by intro _;rfl) :
  PE X (.ListComp elt [⟨tg,iter,ifs,0⟩] scope pos) (tLc wi g tt te (own.map (·.2))):=by
 intro pins s σ H Q I h
 rw [eval_ListComp]
 refine Zgg hc hN I hi ok hg ht he hs h fun D C s' m H' I' q hn f=>⟨m,hn,fun h'' sb=>?_⟩
 obtain ⟨f0,f1,f2,f3,f4,f5⟩:=f
 exact ⟨.ref D,H',I'.turned (t':=s'.toks) (fun b o hb e=>(sb.2 b hb).trans e) f0 f1 f3 f4 f5,rfl,q⟩
theorem Jb {i:Nat}{y:Str}{py:Pos}{elt tg iter:Expr}{ifs:List Expr}{scope:Scope}{own:List (Str×Nat)}{pos spos:Pos}{wi:TI}{g:TG}{tt:TT}{te:TE} (hc:X.calm=true) (hN:X.N.Nodup) (hy:X.N[i]?=some y) (hyl:X.env.scope.names.lookup y=some .local)
  (hsw:swapsWith (.ListComp elt [⟨tg,iter,ifs,0⟩] scope pos) (some (.Name y py)) spos.line X.env=pure true) (hi:PI X tg iter wi) (ok:JD X.N X.env.scope scope own)
  (hg:∀ (s:Shared) (H:Hp) (C:Addr) (cl:List (Str×Addr)) (fp:List Addr),PG (X.blk s H scope (compEnvC scope cl C X.env) fp) tg g) (ht:∀ (s:Shared) (H:Hp) (C:Addr) (cl:List (Str×Addr)) (fp:List Addr),PTs (X.blk s H scope (compEnvC scope cl C X.env) fp) ifs tt)
  (he:∀ (s:Shared) (H:Hp) (C:Addr) (cl:List (Str×Addr)) (fp:List Addr),PE (X.blk s H scope (compEnvC scope cl C X.env) fp) elt te) (hs:∀ x,foldedSetIterable iter X.env x=pure x:=by intro _;rfl) :
  PS X (.Assign [.Name y py] (.ListComp elt [⟨tg,iter,ifs,0⟩] scope pos) spos) (tAsg (tLc wi g tt te (own.map (·.2))) (Jt i)):=by
 intro pins s σ H D I h
 rw [exec_Assign_Name_used _ _ _ _ hsw]
 refine wpAny_bind (wpAny_standAt (wpAny_bind ?_))
 show wpAny _ X.A (do let _ ← comprehension (.ListComp elt [⟨tg,iter,ifs,0⟩] scope pos) scope X.env (firstIterPos [⟨tg,iter,ifs,0⟩] pos) (newList []) false (eval iter X.env) (some (assign (.Name y py) X.env))) _ _ s
 have h:tLc wi g tt te (own.map (·.2)) σ H (fun x H1=>Jt i x σ H1 D.nx):=h
 refine wpAny_bind (thn (Zgg (Qf:=fun _ s'=>SP X pins D .next s') hc hN I hi ok hg ht he hs h fun L C s' m H' I' q hn f=>?_) fun _ s' hq=>wpAny_pure (wpAny_pure hq))
 show wpAny _ _ (assign (.Name y py) X.env (.ref L)) _ _ _
 refine wpAny_assign_Name (ZcT (v:=V.ref L) I' hN hy (.inl hyl) rfl (fun s2 I2 ⟨a,sb,ha⟩=>?_) (.inr hyl))
 obtain ⟨f0,f1,f2,f3,f4,f5⟩:=f
 have haC:C≠a:=by
  rcases ha with z | z
  ·rw [z];exact f1
  ·exact fun e=>f4 y a z e.symm
 refine ⟨m,hn.sameBut sb haC,fun h3 sb3=>?_⟩
 exact ⟨_,H',I2.turned (t':=s2.toks) (fun b o hb e=>(sb3.2 b hb).trans e) f0 f1 f3 f4 f5,q⟩
theorem ZaE {elt:Expr}{gs:List Comprehension}{scope:Scope}{pos py:Pos}{y:Str}{l:Nat}{env:Env} (hk:env.scope.kind=.function) (hy:env.scope.names.lookup y=some .local) (hl:(py.line==pos.line)=true)
  (ha:(scope.names.any fun (n,k)=>n==y && (k==.local || k==.cell))=false):swapsWith (.ListComp elt gs scope pos) (some (.Name y py)) l env=pure true:=by
 have ky:env.kindOf y=some .local:=hy
 have hb:env.blockKind=.function:=by unfold Env.blockKind;rw [hk];rfl
 unfold swapsWith
 simp only [hb,ky,ha,Expr.pos,hl]
 rfl
end
theorem Jo {lo:Int}{n:Nat}{g:TG}{tt:TT}{te:TE}{vs:List Nat}{σ:St}{H1:Hp}{D:Addr}{Qd:Hp→Prop} (Pv:Nat→Hp→Prop) (h0:Pv 0 (upd H1 D (.lst [])))
  (hs:∀ i H,i<n→Pv i H→g (.int (lo+i)) (wipe σ vs) H fun σ2 H2=>wipe σ2 vs=wipe σ vs∧tt σ2 H2 fun b H3 =>
   if b=true then te σ2 H3 fun y H4=>∃ acc,H4 D=some (.lst acc)∧acc.length<sizeLine∧Pv (i+1) (upd H4 D (.lst (acc++[y]))) else Pv (i+1) H3) (hd:∀ H,Pv n H→Qd H) :
  ∃ W:Nat→Nat→Hp→Prop,(∃ m,W 0 m (upd H1 D (.lst [])))∧∀ i m H,W i m H →
   ((Itr lo n).stop i H∧Qd H)∨((Itr lo n).go i H∧∃ Nx:Hp→Prop,(∀ H',Nx H'→∃ m',m' < m∧W (i+1) m' H')∧∀ x H',(Itr lo n).yld i H x H'→g x (wipe σ vs) H' fun σ2 H2=>wipe σ2 vs=wipe σ vs∧tt σ2 H2 fun b H3 =>
    if b=true then te σ2 H3 fun y H4=>∃ acc,H4 D=some (.lst acc)∧acc.length<sizeLine∧Nx (upd H4 D (.lst (acc++[y]))) else Nx H3):=by
 refine ⟨fun i m H=>m=n-i∧i≤n∧Pv i H,⟨n,by simp,Nat.zero_le _,h0⟩,?_⟩
 rintro i m H ⟨rfl,hi,p⟩
 by_cases hlt:i<n
 ·refine .inr ⟨hlt,Pv (i+1),fun H' p'=>⟨n-(i+1),by omega,rfl,hlt,p'⟩,fun x H' y=>?_⟩
  obtain ⟨e,y⟩:=y
  subst e y
  exact hs i _ hlt p
 ·have e:i=n:=by omega
  subst e
  exact .inl ⟨Nat.le_refl _,hd H p⟩
theorem Zcx {K:PySem.W.Frag}{a:Addr}{xs:List V}{g:TG}{tt:TT}{te:TE}{vs:List Nat}{σ:St}{H1:Hp}{D:Addr}{Qd:Hp→Prop} (Pv:Nat→Hp→Prop) (h0:Pv 0 (upd H1 D (.lst []))) (hl:∀ i H,i≤xs.length→Pv i H→SqL K H a xs)
  (hs:∀ i x H,xs[i]?=some x→Pv i H→g x (wipe σ vs) H fun σ2 H2=>wipe σ2 vs=wipe σ vs∧tt σ2 H2 fun b H3 =>
   if b=true then te σ2 H3 fun y H4=>∃ acc,H4 D=some (.lst acc)∧acc.length<sizeLine∧Pv (i+1) (upd H4 D (.lst (acc++[y]))) else Pv (i+1) H3) (hd:∀ H,Pv xs.length H→Qd H) :
  ∃ W:Nat→Nat→Hp→Prop,(∃ m,W 0 m (upd H1 D (.lst [])))∧∀ i m H,W i m H →
   ((Itl K a).stop i H∧Qd H)∨((Itl K a).go i H∧∃ Nx:Hp→Prop,(∀ H',Nx H'→∃ m',m' < m∧W (i+1) m' H')∧∀ x H',(Itl K a).yld i H x H'→g x (wipe σ vs) H' fun σ2 H2=>wipe σ2 vs=wipe σ vs∧tt σ2 H2 fun b H3 =>
    if b=true then te σ2 H3 fun y H4=>∃ acc,H4 D=some (.lst acc)∧acc.length<sizeLine∧Nx (upd H4 D (.lst (acc++[y]))) else Nx H3):=by
 refine ⟨fun i m H=>m=xs.length-i∧i≤xs.length∧Pv i H,⟨xs.length,by simp,Nat.zero_le _,h0⟩,?_⟩
 rintro i m H ⟨rfl,hi,p⟩
 have q:=hl i H hi p
 by_cases hlt:i<xs.length
 ·refine .inr ⟨⟨xs,xs[i],q,by simp [hlt]⟩,Pv (i+1),fun H' p'=>⟨xs.length-(i+1),by omega,rfl,hlt,p'⟩,fun x H' y=>?_⟩
  obtain ⟨e,y⟩:=y
  subst e
  exact hs i x _ (y xs q) p
 ·have e:i=xs.length:=by omega
  subst e
  exact .inl ⟨⟨xs,q,Nat.le_refl _⟩,hd H p⟩
end L2
namespace L2
open PySem PySem.Spec PyProof.Rows
section
variable {prog:Program}{w:World}{A:Around}{R:Result→Shared→Prop}{s:Shared}{elt t0 i0 t1 i1:Expr}{ifs0 ifs1:List Expr}{scope:Scope}{pos:Pos}{it acc:Value}{env:Env}
end
section
variable {X:Cx}
end
end L2
namespace L2
open PySem PySem.Spec PyProof.Rows
section
variable {κ:Type} [DecidableEq κ]
end
theorem ZjW {P:Program}{w:World}{k:Key}{u:Value} (r:RelV (kV k) u):(VO P w).is k u=true:=by
 cases k with
 | inl i=>obtain ⟨t,e⟩:=(show ∃ t,u=Value.int i t from r);subst e;exact Zed P w i t
 | inr x=>obtain ⟨t,e⟩:=(show ∃ t,u=Value.str x t from r);subst e;exact Zec P w x t
theorem Zdr {P:Program}{w:World}:∀ {ks:List Key}{us:List Value},Vals (ks.map kV) us→ItemsAre (VO P w) ks us
 | [],_,r=>by rw [List.map_nil] at r;cases r;exact .nil
 | k::ks,_,r=>by
  rw [List.map_cons] at r
  cases r with
  | cons h t=>exact .cons (ZjW h) (Zdr t)
section
variable {P:Program}{w:World}{H:Hp}{h:Heap}{a:Addr}
theorem Zkq {ks:List Key} (ok:HOk P w H h) (e:H a=some (.tup (ks.map kV))):(tupleKind (VO P w)).is h ks a:=by
 obtain ⟨_,its,r,o,h1,h2,n,h3⟩:=(show WU P w H h a (.tup (ks.map kV)) from ok a _ e)
 exact ⟨o,its.toArray,n,h1,h2,h3,by simpa using Zdr r⟩
end
section
variable {X:Cx}{pins:List (Addr×Obj)}{σ:St}{H:Hp}{s:Shared}{a:Addr}{y v:V}{u r:Value}{o:Option V}{A:Around}{E:Value→Shared→Prop}
end
section
variable {X:Cx}{pins:List (Addr×Obj)}{σ:St}{H:Hp}{s:Shared}{a:Addr}{kvs:List (Key×V)}{k:Key}{u:Value}{A:Around}{E:Value→Shared→Prop}
end
section
variable {X:Cx}{o i e value:Expr}{pos pos' tpos:Pos}{td ty tv:TE}
end
section
variable {X:Cx}{pos:Pos}
end
section
variable {X:Cx}{pins:List (Addr×Obj)}{σ:St}{H:Hp}{s:Shared}{a:Addr}{y d:V}{u r:Value}{o:Option V}{A:Around}{E:Value→Shared→Prop}
end
section
variable {X:Cx}{o e f:Expr}{apos cpos:Pos}{td ty tx:TE}
end
section
variable {X:Cx}{pins:List (Addr×Obj)}{σ:St}{H:Hp}{s:Shared}{a:Addr}{kvs:List (Key×V)}{A:Around}{E:Value→Shared→Prop}
end
section
variable {X:Cx}{pins:List (Addr×Obj)}{σ:St}{H:Hp}{s:Shared}{a:Addr}{y:V}{u:Value}{A:Around}{E:Value→Shared→Prop}
end
end L2
namespace L2
open PySem PySem.Spec PyProof.Rows
section
variable {prog:Program}{w:World}{A:Around}{E:Value→Shared→Prop}
end
section
variable {X:Cx}
end
end L2
namespace L2
open PySem PySem.Spec PyProof.Rows
section
variable {X:Cx}{pins:List (Addr×Obj)}{σ:St}{H:Hp}{s:Shared}{h':Heap}
theorem Inv.turnedNew {t':Nat}{ch:List Addr}{T:Addr}{ob:HO} (I:Inv X pins σ H s) (k:∀ b o,b ∉ ch→s.heap.get? b=some o→h'.get? b=some o) (hf:∀ b∈ch,FpOk X pins H b) (hT:s.heap.objs.size≤T)
  (new:WU X.prog X.w (upd H T ob) h' T ob):Inv X pins σ (upd H T ob) { s with heap:=h',toks:=t' }:=by
 have hn:H T=none:=I.hok.fresh hT
 have nit:∀ b u,H b=some u→b ∉ ch:=fun b u e z=>by
  have q:=(hf b z).1
  rw [q] at e;cases e
 refine I.step (g':=s.gens) (d':=s.drawn) (ch:=ch) (fun b hb=>⟨(hf b hb).2.2.2.1,(hf b hb).2.1,(hf b hb).2.2.2.2.1,(hf b hb).2.2.2.2.2⟩) (fun b o _ _ hc e _=>k b o hc e) (fun b o _ _ hc e _=>⟨o.slots,k b o hc e⟩)
  (fun b o _ e n=>?_) (fun b o hc e=>⟨o,k b o hc e⟩) (fun b xs e=>?_) (fun b o u e=>?_) (fun b ps e=>⟨#[],?_⟩) (fun m hm=>?_) (fun b u e=>?_) I.bare
 ·rw [Zi (Nat.ne_of_lt (Nat.lt_of_lt_of_le (Heap.lt_size e) hT))];exact n
 ·rw [Zi (Zg e hn)];exact e
 ·rw [Zi (Zg e hn)];exact e
 ·rw [Zi (Zg e hn),e];simp
 ·obtain ⟨o,es,ep,ho,r⟩:=hm
  exact ⟨o,es,ep,k _ o (fun z=>(hf _ z).2.1 rfl) ho,r⟩
 ·by_cases hb:b=T
  ·subst hb
   rw [Ze] at e
   cases e
   exact new
  ·rw [Zi hb] at e
   refine (I.hok b u e).stay (fun c v hc q=>k c v ?_ q) (fun c q=>by rw [Zi (Zg q hn)];exact q) fun c xs q=>by rw [Zi (Zg q hn)];exact q
   rcases hc with z | z
   ·rw [z];exact nit b u e
   ·exact nit c _ z
end
section
variable {X:Cx}
theorem ZfX {tg:Expr}{pins:List (Addr×Obj)}{σ:St}{H:Hp}{s:Shared}{R:It→Hp→Prop}{J:It}{tn:Nat→Heap→Prop}{tk:Nat} (I:Inv X pins σ H s) (o:Obj)
  (T:Turn X.prog X.w X.K tg J [s.heap.objs.size] s.heap.objs.size tn) (st:tn 0 (s.heap.push o)) (q:R J H):PIE X pins σ tg R (.ref s.heap.objs.size) { s with heap:=s.heap.push o,toks:=tk }:=by
 refine ⟨s.heap.objs.size,[s.heap.objs.size],tn,J,H,rfl,I.kept fun b ob e=>Heap.get?_push_of_some _ e,T,st,fun b hb=>?_,q⟩
 have e:b=s.heap.objs.size:=by simpa using hb
 subst e
 exact I.fpOk (Nat.le_refl _) (I.hok.fresh (Nat.le_refl _))
end
def Itc (lo c:Int) (n:Nat):It:=⟨fun i _=>i<n,fun i H x H'=>H'=H∧x=.int (lo+(i:Nat) * c),fun i _=>n≤i⟩
theorem ZdT {P:Program}{w:World}{K:PySem.W.Frag}{tg:Expr} (it:Addr) (lo c:Int) (n:Nat):Turn P w K tg (Itc lo c n) [it] it (fun i h=>IsRangeIter h it (lo+(i:Nat) * c) ((n:Int)-(i:Nat)) c) where
 mem:=by simp
 obj:=fun i h st b hb=>by
  have e:b=it:=by simpa using hb
  subst e
  exact ⟨_,st,fun v z=>nomatch z⟩
 keep:=fun i h h' st k=>k it (by simp) _ st
 item:=by
  intro X hP hw hK hc i pins s σ H E I hf st hg
  subst hP hw hK
  obtain ⟨f0,f1,f2,f3,f4,f5⟩:=hf it (by simp)
  have W:=Walks.range (prog:=X.prog) (w:=X.w) (I.ok.hd hc) it lo c n
  refine W.item i s _ _ hg st fun v h' tk hv st' kk=>?_
  obtain ⟨t,rfl⟩:=hv
  have I1:Inv X pins σ H { s with heap:=h',toks:=tk }:=I.turned (fun b o hb e=>kk b o (by simpa using hb) e) f0 f1 f3 f4 f5
  exact ⟨_,rfl,Zgs (s:={ s with heap:=h',toks:=tk }) (n:="range_iterator") st' rfl rfl (by decide) ⟨.int (lo+(i:Nat) * c),H,I1,⟨t,rfl⟩,⟨rfl,rfl⟩,st',fun b hb=>(hf b hb).1⟩⟩
 done:=by
  intro X hP hw hK hc i pins s σ H E I hf st hg
  subst hP hw hK
  obtain ⟨f0,f1,f2,f3,f4,f5⟩:=hf it (by simp)
  exact wpAny_pyNext_range_end (I.ok.hd hc) st (by have:n≤i:=hg;omega) fun h' eb=>⟨rfl,I.turned (t':=s.toks) (fun b o hb e=>eb b o hb e) f0 f1 f3 f4 f5⟩
 self:=fun A i s Q E st h=>wpAny_pyIter_rangeiter st h
def RgC (i j c:Int) (n:Nat):Prop:=c≠0∧c.natAbs<1073741824∧Builtin.Range.small i j c=true∧Builtin.Range.rangeSize i j c=n
theorem RgC.neg {i j:Int} (ha:-(2 ^ 62)≤i) (ha':i<2 ^ 62) (hb:-(2 ^ 62)≤j) (hb':j<2 ^ 62):RgC i j (-1) (i-j).toNat :=
 ⟨by decide,by decide,PySem.W.small_down ha ha' hb hb',PySem.W.rangeSize_downNat i j⟩
def ZjY (ta:TA):TI:=fun σ H R=>ta σ H fun vs H1=>∃ (i j c:Int) (n:Nat),vs=[.int i,.int j,.int c]∧RgC i j c n∧R (Itc i c n) H1
section
variable {X:Cx}{tg:Expr}
theorem ZaS {a b c:Expr}{ta:TA}{p pos:Pos} (hg:Gl X "range") (hm:X.mg "range"=none) (ha:PA X [a,b,c] ta)
  (hs:starEach [a,b,c] X.env=(false,eval a X.env)::starEach [b,c] X.env:=by rfl) (hpl:(backTo pos (starEach [b,c] X.env)).any (·.1)=false:=by rfl) :
  PI X tg (.Call (.Name "range" p) [a,b,c] [] pos) (ZjY ta):=by
 intro pins s σ H R I h
 refine Call_ (ZbN I hg hm boot_range (PyProof.Rows.callWith_type1 (thn (ha pos pins s σ H _ I h) fun us s1 ⟨vs,H1,I1,r1,q1⟩=>?_) hs hpl))
 obtain ⟨i,j,k,n,e,⟨c0,c1,c2,c3⟩,q⟩:=q1
 subst e
 cases r1 with
 | cons r rr =>
  cases rr with
  | cons r' rr =>
   cases rr with
   | cons r'' rr =>
    cases rr
    obtain ⟨t,rfl⟩:=r
    obtain ⟨t',rfl⟩:=r'
    obtain ⟨t'',rfl⟩:=r''
    refine call_range_3 c0 ?_ (.inl (PyProof.noPylong_small c1))
    refine wpAny_pyIter_range (IsRange.new ..) c2 ?_
    have I2:Inv X pins σ H1 { s1 with heap:=s1.heap.push { cls:=.type "range",data:=.fields #[.int i t,.int j t',.int k t''] } }:=I1.kept (t':=s1.toks) fun b o e=>Heap.get?_push_of_some _ e
    refine ZfX (tk:=s1.toks) I2 _ (ZdT _ i k n) ?_ q
    have e1:i+((0:Nat):Int) * k=i:=by simp
    have e2:(n:Int)-((0:Nat):Int)=Builtin.Range.rangeSize i j k:=by rw [c3];simp
    show IsRangeIter _ _ (i+((0:Nat):Int) * k) ((n:Int)-((0:Nat):Int)) k
    rw [e1,e2]
    exact Heap.get?_push_size _ rfl
end
theorem JW {lo c:Int}{n:Nat}{g:TG}{tb:TS}{D:Ends}{σ:St}{H:Hp} (Pv:Nat→St→Hp→Prop) (h0:Pv 0 σ H)
  (hs:∀ i σ H,i<n→Pv i σ H→g (.int (lo+(i:Nat) * c)) σ H fun σ2 H2=>tb { D with nx:=Pv (i+1),ct:=Pv (i+1),bk:=D.nx } σ2 H2) (hd:∀ σ H,Pv n σ H→D.nx σ H) :
  ∃ W:Nat→Nat→St→Hp→Prop,(∃ m,W 0 m σ H)∧∀ i m σ H,W i m σ H →
   ((Itc lo c n).stop i H∧D.nx σ H)∨((Itc lo c n).go i H∧∃ N:St→Hp→Prop,(∀ σ' H',N σ' H'→∃ m',m' < m∧W (i+1) m' σ' H')∧∀ x H',(Itc lo c n).yld i H x H'→g x σ H' fun σ2 H2=>tb { D with nx:=N,ct:=N,bk:=D.nx } σ2 H2):=by
 refine ⟨fun i m σ H=>m=n-i∧i≤n∧Pv i σ H,⟨n,by simp,Nat.zero_le _,h0⟩,?_⟩
 rintro i m σ H ⟨rfl,hi,p⟩
 by_cases hlt:i<n
 ·refine .inr ⟨hlt,Pv (i+1),fun σ' H' p'=>⟨n-(i+1),by omega,rfl,hlt,p'⟩,fun x H' y=>?_⟩
  obtain ⟨e,y⟩:=y
  subst e y
  exact hs i σ _ hlt p
 ·have e:i=n:=by omega
  subst e
  exact .inl ⟨Nat.le_refl _,hd σ H p⟩
section
variable {X:Cx}{tg:Expr}
end
def Its (x:Str):It:=⟨fun i _=>i<x.cps.size,fun i H v H'=>H'=H∧∃ c,x.cps[i]?=some c∧v=.str ⟨#[c]⟩,fun i _=>x.cps.size≤i⟩
theorem Zev {P:Program}{w:World}{K:PySem.W.Frag}{tg:Expr} (it:Addr) (x:Str) (t:Tok) (ty:String) (hty:ty="str_ascii_iterator"∨ty="str_iterator") :
  Turn P w K tg (Its x) [it] it (fun i h=>h.IsStrIter it ty x t i) where
 mem:=by simp
 obj:=fun i h st b hb=>by
  have e:b=it:=by simpa using hb
  subst e
  obtain ⟨o,e,c,d⟩:=st
  exact ⟨o,e,fun v z=>by rw [d] at z;cases z⟩
 keep:=fun i h h' st k=>let ⟨o,ho,r⟩:=st;⟨o,k it (by simp) o ho,r⟩
 item:=by
  intro X hP hw hK hc i pins s σ H E I hf st hg
  subst hP hw hK
  obtain ⟨f0,f1,f2,f3,f4,f5⟩:=hf it (by simp)
  have W:Walks X.prog X.w X.A it [it] [it] x.cps.size (SignAt x) (fun i h=>h.IsStrIter it ty x t i):=by
   rcases hty with e | e
   ·rw [e];exact Walks.strAscii (I.ok.hd hc) it x t
   ·rw [e];exact Walks.strWide (I.ok.hd hc) it x t
  have hno:["enumerate","zip","dict_itemiterator","dict_reverseitemiterator","odict_iterator","itertools.zip_longest","itertools.pairwise"].contains ty=false:=by
   rcases hty with e | e
   ·rw [e];decide
   ·rw [e];decide
  refine W.item i s _ _ hg st fun v h' tk hv st' kk=>?_
  obtain ⟨c,u,hcx,rfl⟩:=hv
  have I1:Inv X pins σ H { s with heap:=h',toks:=tk }:=I.turned (fun b o hb e=>kk b o (by simpa using hb) e) f0 f1 f3 f4 f5
  obtain ⟨oi,e,cc,dd⟩:=id st'
  exact ⟨_,rfl,Zgs (s:={ s with heap:=h',toks:=tk }) e cc dd hno ⟨.str ⟨#[c]⟩,H,I1,⟨u,rfl⟩,⟨rfl,c,hcx,rfl⟩,st',fun b hb=>(hf b hb).1⟩⟩
 done:=by
  intro X hP hw hK hc i pins s σ H E I hf st hg
  subst hP hw hK
  obtain ⟨f0,f1,f2,f3,f4,f5⟩:=hf it (by simp)
  have hx:x.cps[i]?=none:=Array.getElem?_eq_none hg
  rcases hty with e | e
  ·rw [e] at st
   exact wpAny_pyNext_ascii_end (I.ok.hd hc) st hx fun h' eb=>⟨rfl,I.turned (t':=s.toks) (fun b o hb e=>eb b o hb e) f0 f1 f3 f4 f5⟩
  ·rw [e] at st
   exact wpAny_pyNext_wide_end (I.ok.hd hc) st hx fun h' eb=>⟨rfl,I.turned (t':=s.toks) (fun b o hb e=>eb b o hb e) f0 f1 f3 f4 f5⟩
 self:=fun A i s Q E st h=>by
  rcases hty with e | e
  ·rw [e] at st;exact wpAny_pyIter_striter_ascii st h
  ·rw [e] at st;exact wpAny_pyIter_striter_wide st h
def iStr (te:TE):TI:=fun σ H R=>te σ H fun v H1=>∃ x,v=.str x∧R (Its x) H1
theorem Zi6 {X:Cx}{tg e:Expr}{te:TE} (he:PE X e te):PI X tg e (iStr te):=by
 intro pins s σ H R I h
 refine thn (he pins s σ H _ I h) fun v s1 ⟨y,H1,I1,r1,x,ex,q⟩=>?_
 subst ex
 obtain ⟨t,rfl⟩:=r1
 cases ha:x.cps.all (· < 128)
 ·exact wpAny_pyIter_wide ha (ZfX (tk:=s1.toks) I1 _ (Zev _ x t "str_iterator" (.inr rfl)) ⟨_,Heap.get?_push_size _ rfl,rfl,rfl⟩ q)
 ·exact wpAny_pyIter_ascii ha (ZfX (tk:=s1.toks) I1 _ (Zev _ x t "str_ascii_iterator" (.inl rfl)) ⟨_,Heap.get?_push_size _ rfl,rfl,rfl⟩ q)
section
variable {prog:Program}{w:World}{A:Around}{E:Value→Shared→Prop}{s:Shared}
end
section
variable {X:Cx}{pins:List (Addr×Obj)}{σ:St}{H:Hp}{s:Shared}{d:Addr}{o:Obj}
end
section
variable {P:Program}{w:World}{K:PySem.W.Frag}{tg:Expr}{d:Addr}{o:Obj}{es:Array DictEntry}{ep:Nat}
end
section
variable {X:Cx}{tg e:Expr}{td:TE}{apos cpos:Pos}
end
def Ite (K:PySem.W.Frag) (a:Addr):It :=
 ⟨fun i H=>∃ (xs:List V) (x:V),SqL K H a xs∧xs[i]?=some x,fun i H v H'=>∃ T x,v=.ref T∧H T=none∧H'=upd H T (.tup [.int (i:Nat),x])∧∀ xs,SqL K H a xs→xs[i]?=some x,fun i H=>∃ xs:List V,SqL K H a xs∧xs.length≤i⟩
theorem ZfH {P:Program}{w:World}{K:PySem.W.Frag}{elts:List Expr}{kk:Nat}{tpos:Pos} (a e it:Addr) :
  Turn P w K (.Tuple elts kk tpos) (Ite K a) [e,it] e (fun i h=>(∃ old,IsEnum h e it ((i:Nat):Int) old)∧h.IsListIter it a i∧e≠it) where
 mem:=by simp
 obj:=fun i h st b hb=>by
  obtain ⟨⟨old,he⟩,⟨o,ho,hc,hd⟩,_⟩:=st
  have e':b=e∨b=it:=by simpa using hb
  rcases e' with z | z
  ·rw [z];exact ⟨_,he,fun v q=>nomatch q⟩
  ·rw [z];exact ⟨o,ho,fun v q=>by rw [hd] at q;cases q⟩
 keep:=fun i h h' st k=>let ⟨⟨old,he⟩,hi,hne⟩:=st;⟨⟨old,k e (by simp) _ he⟩,hi.at fun o q=>k it (by simp) o q,hne⟩
 item:=by
  intro X hP hw hK hc i pins s σ H E I hf st hg
  subst hP hw hK
  obtain ⟨⟨old,he⟩,hit,hne⟩:=st
  obtain ⟨xs,x,hq,hx⟩:=hg
  obtain ⟨its,rv,p,hz⟩:=I.list hq
  obtain ⟨u,hu,ru⟩:=rv.get hx
  have hel:e<s.heap.objs.size:=Heap.lt_size he
  have hil:it<s.heap.objs.size:=by obtain ⟨_,q,_⟩:=hit;exact Heap.lt_size q
  refine wpAny_pyNext_enum_item he hit p.isList (x:=u) (by simpa using hu) hne fun h' ho hit' hT hsz hk=>?_
  refine ⟨_,rfl,wpAny_letOwnedTupleGo_enum (s:={ s with heap:=h',toks:=s.toks+1 }) ho fun h'' he' sb=>?_⟩
  have hT2:h''.get? s.heap.objs.size=some { cls:=.type "tuple",data:=.seq #[.int i s.toks,u] }:=(sb.2 _ (Nat.ne_of_gt hel)).trans hT
  have new:WU X.prog X.w (upd H s.heap.objs.size (.tup [.int (i:Nat),x])) h'' s.heap.objs.size (.tup [.int (i:Nat),x]) :=
   ⟨by show 2≤sizeLine;decide,[.int i s.toks,u],.cons ⟨_,rfl⟩ (.cons ru .nil),⟨_,hT2,rfl,_,rfl⟩⟩
  have I1:Inv X pins σ (upd H s.heap.objs.size (.tup [.int (i:Nat),x])) { s with heap:=h'',toks:=s.toks+1 } :=
   I.turnedNew (ch:=[e,it]) (fun b ob hb q=>(sb.2 b (fun z=>hb (by simp [z]))).trans (hk b ob (fun z=>hb (by simp [z])) (fun z=>hb (by simp [z])) q)) hf (Nat.le_refl _) new
  refine ⟨.ref s.heap.objs.size,_,I1,rfl,⟨_,x,rfl,I.hok.fresh (Nat.le_refl _),rfl,fun ys hy=>by rw [I.list_inj hy hq];exact hx⟩,⟨⟨u,?_⟩,hit'.at fun o q=>(sb.2 it (Ne.symm hne)).trans q,hne⟩,fun b hb=>?_⟩
  ·have e1:((i+1:Nat):Int)=(i:Int)+1:=by omega
   rw [e1];exact he'
  ·have hb':b<s.heap.objs.size:=by
    have e':b=e∨b=it:=by simpa using hb
    rcases e' with z | z
    ·rw [z];exact hel
    ·rw [z];exact hil
   rw [Zi (Nat.ne_of_lt hb')]
   exact (hf b hb).1
 done:=by
  intro X hP hw hK hc i pins s σ H E I hf st hg
  subst hP hw hK
  obtain ⟨⟨old,he⟩,hit,hne⟩:=st
  obtain ⟨xs,hq,hx⟩:=hg
  obtain ⟨its,rv,p,hz⟩:=I.list hq
  obtain ⟨f0,f1,f2,f3,f4,f5⟩:=hf it (by simp)
  have hl:=rv.length
  exact wpAny_pyNext_enum_end (I.ok.hd hc) he hit p.isList (by simp;omega) fun h' eb=>⟨rfl,I.turned (t':=s.toks) (fun b o hb q=>eb b o hb q) f0 f1 f3 f4 f5⟩
 self:=fun A i s Q E st h=>let ⟨⟨_,he⟩,_⟩:=st;wpAny_pyIter_enum he h
def Zj2 (K:PySem.W.Frag) (ta:TA):TI:=fun σ H R=>ta σ H fun vs H1=>∃ a xs,vs=[.ref a]∧SqL K H1 a xs∧R (Ite K a) H1
theorem Zig {X:Cx}{e:Expr}{ta:TA}{p pos tpos:Pos}{elts:List Expr}{kk:Nat} (hg:Gl X "enumerate") (hm:X.mg "enumerate"=none) (ha:PA X [e] ta) (hs:starEach [e] X.env=[(false,eval e X.env)]:=by rfl) :
  PI X (.Tuple elts kk tpos) (.Call (.Name "enumerate" p) [e] [] pos) (Zj2 X.K ta):=by
 intro pins s σ H R I h
 refine Call_ (ZbN I hg hm boot_enumerate (PyProof.Rows.callWith_type1 (thn (ha pos pins s σ H _ I h) fun us s1 ⟨vs,H1,I1,r1,q1⟩=>?_) hs rfl))
 obtain ⟨a,xs,ex,hq,q⟩:=q1
 subst ex
 cases r1 with
 | cons r rr =>
  cases rr
  cases r
  obtain ⟨its,rv,p',hz⟩:=I1.list hq
  refine call_enumerate_list p'.isList fun h' he hit hsz hk=>wpAny_pyIter_enum he ?_
  have I2:Inv X pins σ H1 { s1 with heap:=h' }:=I1.kept (t':=s1.toks) hk
  refine ⟨s1.heap.objs.size+1,[s1.heap.objs.size+1,s1.heap.objs.size],_,_,H1,rfl,I2,ZfH a (s1.heap.objs.size+1) s1.heap.objs.size,⟨⟨.none,he⟩,hit,Nat.succ_ne_self _⟩,fun b hb=>?_,q⟩
  have e':b=s1.heap.objs.size+1∨b=s1.heap.objs.size:=by simpa using hb
  have hle:s1.heap.objs.size≤b:=by
   rcases e' with z | z
   ·rw [z];exact Nat.le_add_right _ _
   ·rw [z];exact Nat.le_refl _
  exact I1.fpOk hle (I1.hok.fresh hle)
end L2
section 
namespace Bits
open PySem PyProof.Rows
end Bits
end 
section 
namespace TL
open PySem PySem.Builtin PySem.Builtin.Str PySem.StrLaws
abbrev tl (x:Str):List Nat:=x.cps.toList
def pre (S l:List Nat):Bool:=l.take S.length==S
def par (S:List Nat):List Nat→List Nat→Option (List Nat×List Nat)
 | _,[]=>none
 | acc,c::r=>if pre S (c::r)=true then some (acc,(c::r).drop S.length) else par S (acc++[c]) r
def XV (S:List Nat):List (List Nat)→List Nat
 | []=>[]
 | [p]=>p
 | p::q::r=>p++(S++XV S (q::r))
end TL
end 
namespace L2
open PySem PySem.Spec PyProof.Rows
section
variable {X:Cx}{pins:List (Addr×Obj)}{σ:St}{H:Hp}{s:Shared}{Q:VK}
end
section
variable {X:Cx}
end
section
variable {X:Cx}{o e:Expr}{to te:TE}
end
end L2
namespace L2
open PySem PySem.Spec PyProof.Rows
section
variable {X:Cx}
end
end L2
namespace Att
open PySem PySem.W PySem.Calls PyProof.Rows
section
variable {prog:Program}{w:World}{A:Around}{E:Value→Shared→Prop}{s:Shared}{K:Frag}
end
end Att
namespace L2
open PySem PySem.Spec PyProof.Rows
end L2
namespace L2
open PySem PySem.Spec PyProof.Rows
end L2
namespace L2
open PySem PySem.Spec PyProof.Rows
def YS (s:Stmt) (j:Nat):Stmt:=match s with
 | .ClassDef _ _ _ body _ _ _ _ _ _ _=>body.getD j (.Pass ⟨0,0,0,0⟩)
 | _=>.Pass ⟨0,0,0,0⟩
def Zn (s:Stmt):Arguments:=match s with
 | .FunctionDef _ a _ _ _ _ _ _ _ _=>a
 | _=>{ posonlyargs:=[],args:=[],vararg:=none,kwonlyargs:=[],kw_defaults:=[],kwarg:=none,defaults:=[] }
def Zk (s:Stmt):List Stmt:=match s with
 | .FunctionDef _ _ b _ _ _ _ _ _ _=>b
 | _=>[]
def Zc (s:Stmt):Scope:=match s with
 | .FunctionDef _ _ _ _ _ _ sc _ _ _=>sc
 | _=>{ kind:=.function,names:=[],isGenerator:=false,isCoroutine:=false }
abbrev CX0:CXT:=fun _ _ _ _ _ _=>False
abbrev E0:XK:=fun _ _ _=>False
theorem Zz {X:Cx}:WC CX0 X E0:=fun _ _ _ _ _ _ _ h=>h.elim
structure Fun (K:PySem.W.Frag) (x qual:Str) (st:Stmt) (f:Addr) (fd:FuncData):Prop where
 ex:∃ (oc:Value) (od:Option Addr) (kV doc pm:Value) (an:Option Addr) (cdv ct:Value) (osl:Array (Option Value)),
  fd=PySem.W.fnOf x qual (Zn st) (Zk st) (Zc st) .none kV doc pm an cdv ct∧K.lookup f=some ⟨oc,od,.func fd,osl⟩∧PySem.W.codeIn K cdv qual=true
 kp:PySem.W.keepIn K (.ref f)=true
section
variable {P:Program}{w:World}{K:PySem.W.Frag}{mg:Str→Option Value}{base:Heap}
theorem Fun.ok {x qual:Str}{st:Stmt}{f:Addr}{fd:FuncData}{N ps:List Str}{k:Nat}{sp:Sp} (F:Fun K x qual st f fd) (S:Zp N ps (Zc st)) (len:∀ vs H Q E,sp vs H Q E→vs.length=ps.length)
  (hbody:∀ (cdv:Value) (A:Around) (outer:List Env) (s:Shared) (H:Hp) (vs:List V) (Q:VK) (E:XK),Room k (A.deeper (envOfC qual (Zc st) s.heap.objs.size f cdv))→sp vs H Q E →
   ∃ t,PSs (cxOf CX0 P w K mg base N qual (Zc st) f cdv A outer s H E).nox (Zk st) t∧t { nx:=fun _ H'=>Q .non H',rt:=Q } (start N vs) H):FnOk P w K mg base CX0 (k+1) f fd ps sp:=by
 obtain ⟨oc,od,kV,doc,pm,an,cdv,ct,osl,rfl,lk,hcd⟩:=F.ex
 refine ZiI lk hcd S len fun A outer s H vs Q E hr hsp=>?_
 obtain ⟨t,h,q⟩:=hbody cdv A outer s H vs Q E hr hsp
 exact ⟨t,h.nox,q⟩
theorem Fun.binds {x qual:Str}{st:Stmt}{f:Addr}{fd:FuncData}{ps:List Str} (F:Fun K x qual st f fd)
  (h:∀ (kV doc pm:Value) (an:Option Addr) (cdv ct:Value) (us:List Value),us.length=ps.length→bindArgs (PySem.W.fnOf x qual (Zn st) (Zk st) (Zc st) .none kV doc pm an cdv ct) ⟨us,[]⟩=pure (ps.zip us)):ZB K fd ps []:=by
 obtain ⟨oc,od,kV,doc,pm,an,cdv,ct,osl,rfl,lk,hcd⟩:=F.ex
 exact .all (h kV doc pm an cdv ct)
theorem Zw {x qual:Str}{st:Stmt}{f:Addr}{oc:Value}{od an:Option Addr}{osl:Array (Option Value)}{kV doc pm cdv ct:Value} (l:K.lookup f=some ⟨oc,od,.func (PySem.W.fnOf x qual (Zn st) (Zk st) (Zc st) .none kV doc pm an cdv ct),osl⟩)
  (c:PySem.W.codeIn K cdv qual=true) (k:PySem.W.keepIn K (.ref f)=true):Fun K x qual st f (PySem.W.fnOf x qual (Zn st) (Zk st) (Zc st) .none kV doc pm an cdv ct):=⟨⟨oc,od,kV,doc,pm,an,cdv,ct,osl,rfl,l,c⟩,k⟩
end
section
variable {X:Cx}
theorem pv (i:Nat) {x:Str}{pos:Pos} (hN:X.N[i]?=some x:=by rfl) (hv:Vis X.env.scope x:=by first | exact Or.inl rfl | exact Or.inr (Or.inl rfl) | exact Or.inr (Or.inr rfl)) (hd:(x==("__debug__":Str))=false:=by decide)
  (hcd:(x==("__classdict__":Str))=false:=by decide):PE X (.Name x pos) (tVar i):=ZeK hN hv hd hcd
end
section
variable {κ:Type} [DecidableEq κ]
end
theorem Ziq {α:Type}{l:List α} (hN:l.Nodup) {i j:Nat}{x:α} (a:l[i]?=some x) (b:l[j]?=some x):i=j:=by
 obtain ⟨h1,e1⟩:=List.getElem?_eq_some_iff.mp a
 obtain ⟨h2,e2⟩:=List.getElem?_eq_some_iff.mp b
 exact (List.getElem_inj hN).mp (e1.trans e2.symm)
end L2
end
section
section
set_option maxRecDepth 100000
set_option maxHeartbeats 2000000
namespace L2
open PySem PySem.Spec PyProof.Rows
open PySem.W (WData Codec OpenSpec Well WellAll ReadsW ReadsAllW)
mutual
inductive Dw (K:PySem.W.Frag) (H:Hp):V→WData→Prop
 | non:Dw K H .non .none
 | bl (b:Bool):Dw K H (.bl b) (.bool b)
 | int (i:Int):Dw K H (.int i) (.int i)
 | str (x:Str):Dw K H (.str x) (.str x)
 | byt (b:Array UInt8):Dw K H (.byt b) (.bytes b.toList)
 | lst {a:Addr}{xs:List V}{ds:List WData}:SqL K H a xs→Vi K H xs ds→Dw K H (.ref a) (.list ds)
 | tup {a:Addr}{xs:List V}{ds:List WData}:SqT K H a xs→Vi K H xs ds→Dw K H (.ref a) (.tuple ds)
inductive Vi (K:PySem.W.Frag) (H:Hp):List V→List WData→Prop
 | nil:Vi K H [] []
 | cons {v:V}{vs:List V}{d:WData}{ds:List WData}:Dw K H v d→Vi K H vs ds→Vi K H (v::vs) (d::ds)
end
theorem dw_ints {K:PySem.W.Frag}{H:Hp}:∀ ns:List Int,Vi K H (ns.map V.int) (ns.map WData.int)
 | []=>.nil
 | n::r=>.cons (.int n) (dw_ints r)
theorem ints_dw {K:PySem.W.Frag}{H:Hp}:∀ (ns:List Int) (xs:List V),Vi K H xs (ns.map WData.int)→xs=ns.map V.int
 | [],xs,h=>by
  cases h
  rfl
 | n::r,xs,h=>by
  cases h with
  | cons h1 h2 =>
   cases h1
   rw [ints_dw r _ h2] <;> rfl
section
variable {P:Program}{w:World}{K:PySem.W.Frag}{H:Hp}{h:Heap}{R:PySem.W.WRecords}{cl:Str→Option Addr}
theorem Zi0 {a:Addr}{xs:List V} (hok:HOk P w H h) (KX:K.In h) (q:SqL K H a xs):∃ (its:List Value) (o:Obj) (n:Nat),Vals xs its∧h.get? a=some o∧o.cls=.type "list"∧o.data=.seq its.toArray n:=by
 rcases q with q | ⟨o,its,n,e,hc,_,hd,_,hv⟩
 ·obtain ⟨_,its,n,hv,e⟩:=(show WU P w H h a (.lst xs) from q.ok hok)
  exact ⟨its,_,n,hv,e,rfl,rfl⟩
 ·exact ⟨its.toList,o,n,hv,KX _ _ e,hc,by simp [hd]⟩
theorem ZiZ {a:Addr}{xs:List V} (hok:HOk P w H h) (KX:K.In h) (q:SqT K H a xs):∃ (its:List Value) (o:Obj) (n:Nat),Vals xs its∧h.get? a=some o∧o.cls=.type "tuple"∧o.data=.seq its.toArray n:=by
 rcases q with q | ⟨o,its,n,e,hc,hd,_,hv⟩
 ·obtain ⟨_,its,hv,o,e,hc,n,hd⟩:=(show WU P w H h a (.tup xs) from q.ok hok)
  exact ⟨its,o,n,hv,e,hc,hd⟩
 ·exact ⟨its.toList,o,n,hv,KX _ _ e,hc,by simp [hd]⟩
mutual
theorem Dw.reads (hok:HOk P w H h) (KX:K.In h):∀ (d:WData) (v:V) (u:Value),Dw K H v d→RelV v u→∃ as,ReadsW R cl h u d as
 | .none,_,_,x,r=>by
  cases x
  cases r
  exact ⟨_,ReadsW.none⟩
 | .bool b,_,_,x,r=>by
  cases x
  cases r
  exact ⟨_,ReadsW.bool b⟩
 | .int i,_,_,x,r=>by
  cases x
  obtain ⟨t,rfl⟩:=r
  exact ⟨_,ReadsW.int i t⟩
 | .str s,_,_,x,r=>by
  cases x
  obtain ⟨t,rfl⟩:=r
  exact ⟨_,ReadsW.str s t⟩
 | .bytes b,_,_,x,r=>by
  cases x
  obtain ⟨t,rfl⟩:=r
  exact ⟨_,ReadsW.bytes _ t⟩
 | .list ds,_,_,x,r=>by
  cases x with
  | lst hs ha =>
   cases r
   obtain ⟨its,o,n,rv,ho,hc,hd⟩:=Zi0 hok KX hs
   obtain ⟨as,hr⟩:=Dw.readsAll hok KX ds _ its ha rv
   exact ⟨_,ReadsW.list ho hc hd hr⟩
 | .tuple ds,_,_,x,r=>by
  cases x with
  | tup hs ha =>
   cases r
   obtain ⟨its,o,n,rv,ho,hc,hd⟩:=ZiZ hok KX hs
   obtain ⟨as,hr⟩:=Dw.readsAll hok KX ds _ its ha rv
   exact ⟨_,ReadsW.tuple ho hc hd hr⟩
 | .float _,_,_,x,_=>by cases x
 | .dict _,_,_,x,_=>by cases x
 | .bytearray _,_,_,x,_=>by cases x
 | .set _,_,_,x,_=>by cases x
 | .frozenset _,_,_,x,_=>by cases x
 | .obj _ _,_,_,x,_=>by cases x
theorem Dw.readsAll (hok:HOk P w H h) (KX:K.In h):∀ (ds:List WData) (vs:List V) (us:List Value),Vi K H vs ds→Vals vs us→∃ as,ReadsAllW R cl h us ds as
 | [],_,_,x,r=>by
  cases x
  cases r
  exact ⟨_,ReadsAllW.nil⟩
 | d::ds,_,_,x,r=>by
  cases x with
  | cons h1 h2 =>
   cases r with
   | cons r1 r2 =>
    obtain ⟨as,q1⟩:=Dw.reads hok KX d _ _ h1 r1
    obtain ⟨bs,q2⟩:=Dw.readsAll hok KX ds _ _ h2 r2
    exact ⟨_,ReadsAllW.cons q1 q2⟩
end
end
mutual
def plW:WData→Bool
 | .none=>true
 | .bool _=>true
 | .int _=>true
 | .str _=>true
 | .bytes _=>true
 | .list xs=>plWs xs
 | .tuple xs=>plWs xs
 | _=>false
def plWs:List WData→Bool
 | []=>true
 | x::r=>plW x && plWs r
end
theorem ZeH {α:Type}{f:α→WData} (h:∀ a,plW (f a)=true):∀ l:List α,plWs (l.map f)=true
 | []=>rfl
 | x::r=>by
  show (plW (f x) && plWs (r.map f))=true
  rw [h x,ZeH h r] <;> rfl
theorem Zaf:∀ (c:Codec) (a:c.denote),plW (c.enc a)=true
 | .unit,_=>rfl
 | .bool,_=>rfl
 | .int _ _,_=>rfl
 | .nat _ _,_=>rfl
 | .u8,_=>rfl
 | .bytes _ _,_=>rfl
 | .text _ _ _ _,_=>rfl
 | .list _ _ c,a=>ZeH (fun x=>Zaf c x) a
 | .pair c d,a=>by
  show (plW (c.enc a.1) && (plW (d.enc a.2) && true))=true
  rw [Zaf c a.1,Zaf d a.2] <;> rfl
 | .triple c d e,a=>by
  show (plW (c.enc a.1) && (plW (d.enc a.2.1) && (plW (e.enc a.2.2) && true)))=true
  rw [Zaf c a.1,Zaf d a.2.1,Zaf e a.2.2] <;> rfl
 | .option c,none=>rfl
 | .option c,some x=>Zaf c x
theorem Zc3:∀ (cs:List Codec) (a:Codec.denoteAll cs),plWs (Codec.encAll cs a)=true
 | [],_=>rfl
 | c::cs,a=>by
  show (plW (c.enc a.1) && plWs (Codec.encAll cs a.2))=true
  rw [Zaf c a.1,Zc3 cs a.2] <;> rfl
theorem JE:∀ {xs:List WData}{d:WData},d∈xs→d.weight≤WData.weightAll xs
 | [],d,h=>absurd h (by simp)
 | x::r,d,h=>by
  show d.weight≤x.weight+1+WData.weightAll r
  rcases List.mem_cons.mp h with e | m
  ·rw [e]
   lia
  ·have z:=JE m
   lia
def toV:Value→V
 | .none=>.non
 | .bool b=>.bl b
 | .int i _=>.int i
 | .str x _=>.str x
 | .bytes b _=>.byt b
 | .ref a=>.ref a
 | _=>.non
def OkU (A:List Addr):Value→Prop
 | .none=>True
 | .bool _=>True
 | .int _ _=>True
 | .str _ _=>True
 | .bytes _ _=>True
 | .ref a=>a∈A
 | _=>False
theorem OkU.mono {A B:List Addr} (h:∀ a∈A,a∈B):∀ {u:Value},OkU A u→OkU B u:=fun {u} x=>by
 cases u with
 | ref a=>exact h a x
 | none=>trivial
 | bool b=>trivial
 | int i t=>trivial
 | str s t=>trivial
 | bytes b t=>trivial
 | _=>exact False.elim x
theorem Zg2 {A:List Addr}{u:Value} (x:OkU A u):RelV (toV u) u:=by
 cases u with
 | ref a=>rfl
 | none=>rfl
 | bool b=>rfl
 | int i t=>exact ⟨t,rfl⟩
 | str s t=>exact ⟨t,rfl⟩
 | bytes b t=>exact ⟨t,rfl⟩
 | _=>exact False.elim x
theorem V2 {A:List Addr}:∀ {vs:List Value},(∀ u∈vs,OkU A u)→Vals (vs.map toV) vs
 | [],_=>.nil
 | u::r,h=>.cons (Zg2 (h u (List.mem_cons_self ..))) (V2 fun x hx=>h x (List.mem_cons_of_mem _ hx))
def Zap (h:Heap) (A:List Addr) (a:Addr):Prop:=∃ vs:List Value,vs.length≤sizeLine∧(∀ u∈vs,OkU A u) ∧
 (h.get? a=some { cls:=.type "list",data:=.seq vs.toArray }∨h.get? a=some { cls:=.type "tuple",data:=.seq vs.toArray })
theorem Zap.mono {h:Heap}{A B:List Addr}{a:Addr} (k:∀ a∈A,a∈B) (x:Zap h A a):Zap h B a:=by
 obtain ⟨vs,h1,h2,h3⟩:=x
 exact ⟨vs,h1,fun u hu=>(h2 u hu).mono k,h3⟩
theorem WV {P:Params}{h:Heap}:∀ {vs:List Value}{ds:List WData},WellAll P h vs ds→vs.length=ds.length
 | _,_,.nil=>rfl
 | _,_,.cons _ b=>by
  show _+1=_+1
  rw [WV b]
theorem ZcL {P:Params}{h:Heap}{v:Value}{ds:List WData} (x:Well P h v (.list ds)):∃ (a:Addr) (vs:List Value),v=.ref a∧h.get? a=some { cls:=.type "list",data:=.seq vs.toArray }∧WellAll P h vs ds:=by
 cases x with
 | list ho hall=>exact ⟨_,_,rfl,ho,hall⟩
theorem Zby {P:Params}{h:Heap}{v:Value}{ds:List WData} (x:Well P h v (.tuple ds)):∃ (a:Addr) (vs:List Value),v=.ref a∧h.get? a=some { cls:=.type "tuple",data:=.seq vs.toArray }∧WellAll P h vs ds:=by
 cases x with
 | tuple ho hall=>exact ⟨_,_,rfl,ho,hall⟩
theorem ZcM {P:Params}{h:Heap}{us:List Value}{d:WData}{ds:List WData} (x:WellAll P h us (d::ds)):∃ (v:Value) (vs:List Value),us=v::vs∧Well P h v d∧WellAll P h vs ds:=by
 cases x with
 | cons a b=>exact ⟨_,_,rfl,a,b⟩
theorem Zgf {n:Nat} (h:n≤1048576):n≤sizeLine:=Nat.le_trans h (by decide)
section
variable {P:Params}{h:Heap}
mutual
theorem ZhH:∀ (d:WData) (v:Value),Well P h v d→plW d=true→d.weight≤1048576→∃ A:List Addr,OkU A v∧∀ a∈A,Zap h A a
 | .none,_,x,_,_=>by
  cases x
  exact ⟨[],trivial,fun a m=>absurd m (by simp)⟩
 | .bool b,_,x,_,_=>by
  cases x
  exact ⟨[],trivial,fun a m=>absurd m (by simp)⟩
 | .int i,_,x,_,_=>by
  cases x
  exact ⟨[],trivial,fun a m=>absurd m (by simp)⟩
 | .str s,_,x,_,_=>by
  cases x
  exact ⟨[],trivial,fun a m=>absurd m (by simp)⟩
 | .bytes b,_,x,_,_=>by
  cases x
  exact ⟨[],trivial,fun a m=>absurd m (by simp)⟩
 | .list ds,_,x,p,z=>by
  obtain ⟨a,vs,rfl,ho,hall⟩:=ZcL x
  have z2:WData.weightAll ds≤1048576:=z
  obtain ⟨A,h1,h2⟩:=Zav ds _ hall p fun d hd=>Nat.le_trans (JE hd) z2
  have k:∀ b∈A,b∈a::A:=fun b hb=>List.mem_cons_of_mem _ hb
  refine ⟨a::A,List.mem_cons_self ..,fun b hb=>?_⟩
  rcases List.mem_cons.mp hb with e | m
  ·rw [e]
   exact ⟨vs,Zgf (by rw [WV hall];exact Nat.le_trans (PySem.W.length_le_weightAllW ds) z2),fun u hu=>(h1 u hu).mono k,.inl ho⟩
  ·exact (h2 b m).mono k
 | .tuple ds,_,x,p,z=>by
  obtain ⟨a,vs,rfl,ho,hall⟩:=Zby x
  have z2:WData.weightAll ds≤1048576:=z
  obtain ⟨A,h1,h2⟩:=Zav ds _ hall p fun d hd=>Nat.le_trans (JE hd) z2
  have k:∀ b∈A,b∈a::A:=fun b hb=>List.mem_cons_of_mem _ hb
  refine ⟨a::A,List.mem_cons_self ..,fun b hb=>?_⟩
  rcases List.mem_cons.mp hb with e | m
  ·rw [e]
   exact ⟨vs,Zgf (by rw [WV hall];exact Nat.le_trans (PySem.W.length_le_weightAllW ds) z2),fun u hu=>(h1 u hu).mono k,.inr ho⟩
  ·exact (h2 b m).mono k
 | .float _,_,_,p,_=>Bool.noConfusion (show false=true from p)
 | .dict _,_,_,p,_=>Bool.noConfusion (show false=true from p)
 | .bytearray _,_,_,p,_=>Bool.noConfusion (show false=true from p)
 | .set _,_,_,p,_=>Bool.noConfusion (show false=true from p)
 | .frozenset _,_,_,p,_=>Bool.noConfusion (show false=true from p)
 | .obj _ _,_,_,p,_=>Bool.noConfusion (show false=true from p)
theorem Zav:∀ (ds:List WData) (vs:List Value),WellAll P h vs ds→plWs ds=true→(∀ d∈ds,d.weight≤1048576)→∃ A:List Addr,(∀ u∈vs,OkU A u)∧∀ a∈A,Zap h A a
 | [],_,x,_,_=>by
  cases x
  exact ⟨[],fun u m=>absurd m (by simp),fun a m=>absurd m (by simp)⟩
 | d::ds,_,x,p,z=>by
  obtain ⟨v,vs,rfl,x1,x2⟩:=ZcM x
  have q:plW d=true∧plWs ds=true:=Bool.and_eq_true_iff.mp p
  obtain ⟨A,a1,a2⟩:=ZhH d v x1 q.1 (z d (List.mem_cons_self ..))
  obtain ⟨B,b1,b2⟩:=Zav ds vs x2 q.2 fun e he=>z e (List.mem_cons_of_mem _ he)
  have kA:∀ b∈A,b∈A++B:=fun b hb=>List.mem_append.mpr (.inl hb)
  have kB:∀ b∈B,b∈A++B:=fun b hb=>List.mem_append.mpr (.inr hb)
  refine ⟨A++B,fun u hu=>?_,fun b hb=>?_⟩
  ·rcases List.mem_cons.mp hu with e | m
   ·rw [e]
    exact a1.mono kA
   ·exact (b1 u m).mono kB
  ·rcases List.mem_append.mp hb with m | m
   ·exact (a2 b m).mono kA
   ·exact (b2 b m).mono kB
end
end
def hoOf (o:Obj):Option HO:=match o.data with
 | .seq vs _=>if (o.cls==Value.type "list")=true then some (.frz o (.lst (vs.toList.map toV))) else some (.frz o (.tup (vs.toList.map toV)))
 | _=>none
def argH (K:PySem.W.Frag) (h:Heap) (A:List Addr):Hp:=fun b=>if b∈A then (if (K.lookup b).isNone=true then (h.get? b).bind hoOf else none) else none
def ZjN (H:Hp):Prop:=∀ b,H b=none∨∃ o u,H b=some (.frz o u)
theorem ZeT (vs:List Value):hoOf { cls:=.type "list",data:=.seq vs.toArray }=some (.frz { cls:=.type "list",data:=.seq vs.toArray } (.lst (vs.map toV))):=by
 show (if (Value.type "list"==Value.type "list")=true then some (HO.frz { cls:=.type "list",data:=.seq vs.toArray } (.lst (vs.toArray.toList.map toV))) else some (HO.frz { cls:=.type "list",data:=.seq vs.toArray } (.tup (vs.toArray.toList.map toV))))=_
 rw [if_pos (beq_self_eq_true _)]
theorem ZeS (vs:List Value):hoOf { cls:=.type "tuple",data:=.seq vs.toArray }=some (.frz { cls:=.type "tuple",data:=.seq vs.toArray } (.tup (vs.map toV))):=by
 show (if (Value.type "tuple"==Value.type "list")=true then some (HO.frz { cls:=.type "tuple",data:=.seq vs.toArray } (.lst (vs.toArray.toList.map toV))) else some (HO.frz { cls:=.type "tuple",data:=.seq vs.toArray } (.tup (vs.toArray.toList.map toV))))=_
 rw [if_neg (by decide)]
section
variable {P:Program}{w:World}{K:PySem.W.Frag}{h:Heap}{A:List Addr}
theorem ZcE {b:Addr}{o:Obj} (hb:b∈A) (hk:K.lookup b=none) (e:h.get? b=some o):argH K h A b=hoOf o:=by
 unfold argH
 rw [if_pos hb,hk,if_pos (show (none:Option Obj).isNone=true from rfl),e] <;> rfl
theorem Zip {b:Addr}{u:HO} (q:argH K h A b=some u):b∈A∧K.lookup b=none:=by
 unfold argH at q
 by_cases hb:b∈A
 ·rw [if_pos hb] at q
  cases hk:K.lookup b with
  | none=>exact ⟨hb,rfl⟩
  | some o =>
   rw [hk,if_neg (by simp)] at q
   cases q
 ·rw [if_neg hb] at q
  cases q
theorem ZcD (ar:∀ a∈A,Zap h A a) {b:Addr}{u:HO} (q:argH K h A b=some u):K.lookup b=none∧∃ vs:List Value,vs.length≤sizeLine∧(∀ u∈vs,OkU A u) ∧
  ((h.get? b=some { cls:=.type "list",data:=.seq vs.toArray }∧u=.frz { cls:=.type "list",data:=.seq vs.toArray } (.lst (vs.map toV))) ∨
   (h.get? b=some { cls:=.type "tuple",data:=.seq vs.toArray }∧u=.frz { cls:=.type "tuple",data:=.seq vs.toArray } (.tup (vs.map toV)))):=by
 obtain ⟨hb,hk⟩:=Zip q
 obtain ⟨vs,h1,h2,h3⟩:=ar b hb
 refine ⟨hk,vs,h1,h2,?_⟩
 rcases h3 with e | e
 ·rw [ZcE hb hk e,ZeT] at q
  exact .inl ⟨e,(Option.some.inj q).symm⟩
 ·rw [ZcE hb hk e,ZeS] at q
  exact .inr ⟨e,(Option.some.inj q).symm⟩
theorem ZgM (ar:∀ a∈A,Zap h A a):ZjN (argH K h A):=fun b=>by
 cases q:argH K h A b with
 | none=>exact .inl rfl
 | some u =>
  obtain ⟨_,vs,_,_,⟨_,e⟩ | ⟨_,e⟩⟩:=ZcD ar q
  ·exact .inr ⟨_,_,by rw [e]⟩
  ·exact .inr ⟨_,_,by rw [e]⟩
theorem ZiR (ar:∀ a∈A,Zap h A a):HOk P w (argH K h A) h:=fun b u q=>by
 obtain ⟨_,vs,h1,h2,⟨e,rfl⟩ | ⟨e,rfl⟩⟩:=ZcD ar q
 ·exact ⟨e,by rw [List.length_map];exact h1,vs,_,V2 h2,e⟩
 ·exact ⟨e,by rw [List.length_map];exact h1,vs,V2 h2,_,e,rfl,_,rfl⟩
theorem Zcc {c c':Value}{vs us:List Value} (e:(some { cls:=c,data:=.seq vs.toArray }:Option Obj)=some { cls:=c',data:=.seq us.toArray }):c=c'∧vs=us:=by
 have e1:=Option.some.inj e
 have e2:c=c':=congrArg Obj.cls e1
 have e3:Data.seq vs.toArray=Data.seq us.toArray:=congrArg Obj.data e1
 injection e3 with e4
 refine ⟨e2,?_⟩
 have e5:=congrArg Array.toList e4
 simpa using e5
theorem argL (KX:K.In h) (ar:∀ a∈A,Zap h A a) {a:Addr}{vs:List Value} (ha:a∈A) (e:h.get? a=some { cls:=.type "list",data:=.seq vs.toArray }):(∀ u∈vs,OkU A u)∧SqL K (argH K h A) a (vs.map toV):=by
 obtain ⟨us,h1,h2,h3⟩:=ar a ha
 have hu:us=vs:=by
  rcases h3 with q | q
  ·rw [e] at q
   exact (Zcc q).2.symm
  ·rw [e] at q
   exact absurd (Value.type.inj (Zcc q).1) (by decide)
 subst hu
 refine ⟨h2,?_⟩
 cases hk:K.lookup a with
 | none=>exact .inl (.inr ⟨_,by rw [ZcE ha hk e,ZeT]⟩)
 | some o =>
  have e2:=KX a o hk
  rw [e] at e2
  obtain rfl:=Option.some.inj e2
  exact .inr ⟨_,us.toArray,_,hk,rfl,rfl,rfl,by rw [List.size_toArray];exact h1,by simpa using V2 h2⟩
theorem argT (KX:K.In h) (ar:∀ a∈A,Zap h A a) {a:Addr}{vs:List Value} (ha:a∈A) (e:h.get? a=some { cls:=.type "tuple",data:=.seq vs.toArray }):(∀ u∈vs,OkU A u)∧SqT K (argH K h A) a (vs.map toV):=by
 obtain ⟨us,h1,h2,h3⟩:=ar a ha
 have hu:us=vs:=by
  rcases h3 with q | q
  ·rw [e] at q
   exact absurd (Value.type.inj (Zcc q).1) (by decide)
  ·rw [e] at q
   exact (Zcc q).2.symm
 subst hu
 refine ⟨h2,?_⟩
 cases hk:K.lookup a with
 | none=>exact .inl (.inr ⟨_,by rw [ZcE ha hk e,ZeS]⟩)
 | some o =>
  have e2:=KX a o hk
  rw [e] at e2
  obtain rfl:=Option.some.inj e2
  exact .inr ⟨_,us.toArray,_,hk,rfl,rfl,by rw [List.size_toArray];exact h1,by simpa using V2 h2⟩
mutual
theorem ZjG {Pm:Params} (KX:K.In h) (ar:∀ a∈A,Zap h A a):∀ (d:WData) (v:Value),Well Pm h v d→plW d=true→OkU A v→Dw K (argH K h A) (toV v) d
 | .none,_,x,_,_=>by
  cases x
  exact .non
 | .bool b,_,x,_,_=>by
  cases x
  exact .bl b
 | .int i,_,x,_,_=>by
  cases x
  exact .int i
 | .str s,_,x,_,_=>by
  cases x
  exact .str s
 | .bytes b,_,x,_,_=>by
  cases x
  have z:=Dw.byt (K:=K) (H:=argH K h A) b.toArray
  exact z
 | .list ds,_,x,p,hu=>by
  obtain ⟨a,vs,rfl,ho,hall⟩:=ZcL x
  obtain ⟨h2,hs⟩:=argL KX ar hu ho
  exact .lst hs (ZeV KX ar ds _ hall p h2)
 | .tuple ds,_,x,p,hu=>by
  obtain ⟨a,vs,rfl,ho,hall⟩:=Zby x
  obtain ⟨h2,hs⟩:=argT KX ar hu ho
  exact .tup hs (ZeV KX ar ds _ hall p h2)
 | .float _,_,_,p,_=>Bool.noConfusion (show false=true from p)
 | .dict _,_,_,p,_=>Bool.noConfusion (show false=true from p)
 | .bytearray _,_,_,p,_=>Bool.noConfusion (show false=true from p)
 | .set _,_,_,p,_=>Bool.noConfusion (show false=true from p)
 | .frozenset _,_,_,p,_=>Bool.noConfusion (show false=true from p)
 | .obj _ _,_,_,p,_=>Bool.noConfusion (show false=true from p)
theorem ZeV {Pm:Params} (KX:K.In h) (ar:∀ a∈A,Zap h A a):∀ (ds:List WData) (vs:List Value),WellAll Pm h vs ds→plWs ds=true→(∀ u∈vs,OkU A u)→Vi K (argH K h A) (vs.map toV) ds
 | [],_,x,_,_=>by
  cases x
  exact .nil
 | d::ds,_,x,p,hu=>by
  obtain ⟨v,vs,rfl,x1,x2⟩:=ZcM x
  have q:plW d=true∧plWs ds=true:=Bool.and_eq_true_iff.mp p
  exact .cons (ZjG KX ar d v x1 q.1 (hu _ (List.mem_cons_self ..))) (ZeV KX ar ds vs x2 q.2 fun u m=>hu u (List.mem_cons_of_mem _ m))
end
end
theorem Zbs {ds:List WData} (h:WData.layableAll ds=true):∀ d∈ds,d.weight≤1048576:=fun d hd =>
 (PySem.W.layableW_iff.mp (List.all_eq_true.mp h d hd)).2.2
theorem ZbW:∀ (cs:List Codec) (a:Codec.denoteAll cs),(Codec.encAll cs a).length=cs.length
 | [],_=>rfl
 | c::cs,a=>by
  show (Codec.encAll cs a.2).length+1=cs.length+1
  rw [ZbW cs a.2]
end L2
end
end
section
set_option maxRecDepth 100000
namespace L2
open PySem PySem.Spec PyProof.Rows
theorem WU.is {P:Program}{w:World}{H:Hp}{h:Heap}{a:Addr}{o:HO} (x:WU P w H h a o):∃ ob,h.get? a=some ob:=by
 cases o with
 | lst xs=>exact let ⟨_,_,_,_,e⟩:=x;⟨_,e⟩
 | tup xs=>exact let ⟨_,_,_,ob,e,_⟩:=x;⟨ob,e⟩
 | dK kvs=>exact let ⟨_,_,_,_,ob,_,_,e,_⟩:=x;⟨ob,e⟩
 | dT kvs=>exact let ⟨_,_,_,_,ob,_,_,e,_⟩:=x;⟨ob,e⟩
 | set S n=>exact let ⟨ob,_,_,_,e,_⟩:=x;⟨ob,e⟩
 | ins C dx fs=>exact let ⟨_,_,_,e,_⟩:=x;⟨_,e⟩
 | own y=>exact x
 | xd fs=>exact let ⟨_,⟨ob,_,_,e,_⟩,_⟩:=x;⟨ob,e⟩
 | rng lo hi=>exact let ⟨_,_,_,e⟩:=x;⟨_,e⟩
 | frz ob u=>exact let ⟨e,_⟩:=x;⟨_,e⟩
 | tbl ps=>exact ⟨_,(show h.get? a=some _ from x)⟩
 | met f y=>exact ⟨_,(show h.get? a=some _ from x)⟩
 | ext φ=>exact let ⟨_,e,_⟩:=x;e
theorem HOk.none {P:Program}{w:World}{H:Hp}{h:Heap}{a:Addr} (x:HOk P w H h) (e:h.get? a=Option.none):H a=Option.none:=by
 cases q:H a with
 | none=>rfl
 | some o =>
  obtain ⟨ob,z⟩:=(x a o q).is
  rw [e] at z;cases z
def Fly (h:Heap) (e T:Addr) (cls:Value):Prop :=
 ∃ oe vs a0 oT ts,h.get? e=some oe∧(oe.cls=cls∧vs[0]?=some a0)∧oe.data=.fields vs∧vs[1]?=some (.ref T)∧T≠e∧h.get? T=some oT∧oT.data=.fields ts∧ts[3]?=some .none
structure ZhJ (P:Program) (w:World) (cls:Value) (l:List Env) (H H':Hp) (h h':Heap) (e T:Addr):Prop where
 un:Un (frs l) [] H H' h h'
 hok:HOk P w H' h'
 ne:h.get? e=none
 nT:h.get? T=none
 fe:H' e=none
 fT:H' T=none
 fly:Fly h' e T cls
def CX1 (P:Program) (w:World) (C:Addr):CXT:=fun outer H s E v s' =>
 ∃ e T H',v=.ref e∧s'.os=s.os∧AllBare s'.gens∧ZhJ P w (.ref C) outer H H' s.heap s'.heap e T∧E (.ref C) none H'
def Zcy (h:Heap) (l:List Env) (e T:Addr):Heap:=PySem.W.hideAll h (frs l++[e,T])
theorem Zbb {h:Heap}{l:List Env}{e T b:Addr}{o:Obj} (q:h.get? b=some o) (n:b ∉ frs l) (ne:b≠e) (nT:b≠T):(Zcy h l e T).get? b=some o :=
 PySem.W.hideAll_get _ q fun m=>by
  rcases List.mem_append.mp m with z | z
  ·exact n z
  ·simp at z;exact z.elim ne nT
theorem UO {h:Heap}{l:List Env}{e T:Addr}:(Zcy h l e T).StaysIn h:=fun _ _ q=>PySem.W.of_hideAll _ q
theorem Zat {P:Program}{w:World}{cls a0:Value}{l l':List Env}{H H':Hp}{h h' h2:Heap}{e T:Addr}{bs:Heap} (un:Un (frs l) [] H H' h h') (hok:HOk P w H' h') (ne:h.get? e=none) (nT:h.get? T=none) (fe:H' e=none) (fT:H' T=none)
  (hf:h'.FunFrames bs l) (fr:∀ b∈frs l,H' b=none) (fl:Heap.FlyingW (Zcy h' l e T) l' e cls a0 h2) (up:h'.UpToSlots h2) :
  ∃ T',ZhJ P w cls l H H' h h2 e T':=by
 obtain ⟨st,_,_,oe,vs,T',oT,ts,he,hc,hd,h1,nT',hne,hT,hdT,h3⟩:=fl
 have kp:∀ b o,h'.get? b=some o→b ∉ frs l→b≠e→b≠T→h2.get? b=some o:=fun b o q n n1 n2=>st b o (Zbb q n n1 n2)
 have sl:∀ b o,h'.get? b=some o→b∈frs l→∃ s,h2.get? b=some { o with slots:=s }:=fun b o q m=>by
  obtain ⟨_,o',ho',hnf⟩:=hf.mem m
  rw [q] at ho';cases ho'
  exact up b o q hnf
 have nn:∀ b o,h.get? b=some o→b≠e∧b≠T:=fun b o q=>⟨fun z=>(by rw [z,ne] at q;cases q),fun z=>(by rw [z,nT] at q;cases q)⟩
 have tk:∀ b u,H' b=some u→b ∉ frs l∧b≠e∧b≠T:=fun b u q=>⟨fun z=>(by rw [fr b z] at q;cases q),fun z=>(by rw [z,fe] at q;cases q),fun z=>(by rw [z,fT] at q;cases q)⟩
 have nofr:T' ∉ frs l:=fun m=>by
  obtain ⟨_,o',ho',hnf⟩:=hf.mem m
  obtain ⟨s,hs⟩:=sl T' o' ho' m
  rw [hT] at hs;cases hs
  exact hnf _ hdT
 refine ⟨T',⟨fun b o q n hb hx=>kp b o (un.keep b o q n hb hx) hb (nn b o q).1 (nn b o q).2,fun b o q n hb hx=>?_,un.free,fun b o q hx=>?_,un.tups,un.frzs,un.tbls⟩,fun b u q=>?_,ne,?_,fe,?_,⟨oe,vs,a0,oT,ts,he,hc,hd,h1,hne,hT,hdT,h3⟩⟩
 ·obtain ⟨s,e1⟩:=un.slot b o q n hb hx
  obtain ⟨s2,e2⟩:=sl b _ e1 hb
  exact ⟨s2,e2⟩
 ·obtain ⟨o',e1⟩:=un.there b o q hx
  by_cases m:b∈frs l
  ·obtain ⟨s,e2⟩:=sl b _ e1 m
   exact ⟨_,e2⟩
  ·exact ⟨o',kp b o' e1 m (nn b o q).1 (nn b o q).2⟩
 ·refine (hok b u q).stay (fun c v hc r=>?_) (fun _ z=>z) fun _ _ z=>z
  have z:∃ u',H' c=some u':=by
   rcases hc with rfl | hc
   ·exact ⟨u,q⟩
   ·exact ⟨_,hc⟩
  obtain ⟨u',z⟩:=z
  exact kp c v r (tk c u' z).1 (tk c u' z).2.1 (tk c u' z).2.2
 ·cases q:h.get? T' with
  | none=>rfl
  | some o =>
   obtain ⟨o',e1⟩:=un.there T' o q (by simp)
   rw [Zbb e1 nofr hne (nn T' o q).2] at nT'
   cases nT'
 ·cases q:H' T' with
  | none=>rfl
  | some u =>
   obtain ⟨ob,z⟩:=(hok _ _ q).is
   rw [Zbb z nofr hne (tk _ _ q).2.2] at nT'
   cases nT'
theorem ZgF {h:Heap}{l:List Env}{e T:Addr}:(Zcy h l e T).get? e=none:=PySem.W.hideAll_none _ (by simp)
theorem ZiN {h:Heap}{l:List Env}{e T:Addr}:(Zcy h l e T).get? T=none:=PySem.W.hideAll_none _ (by simp)
theorem VV {h bs:Heap}{l:List Env}{e T:Addr} (hf:h.FunFrames bs l):h.FunFrames (Zcy h l e T) l :=
 PySem.W.funFrames_hide hf fun env he a ha=>List.mem_append_left _ (List.mem_filterMap.mpr ⟨env,he,ha⟩)
theorem Fly.traced {h:Heap}{l:List Env}{e T:Addr}{cls:Value} (f:Fly h e T cls):∃ a0,h.TracedW (Zcy h l e T) e cls a0:=by
 obtain ⟨oe,vs,a0,oT,ts,he,hc,hd,h1,hne,hT,hdT,h3⟩:=f
 exact ⟨a0,oe,vs,T,oT,ts,he,hc,hd,h1,ZiN,hne,hT,hdT,h3⟩
theorem Inv.flown {X:Cx}{pins:List (Addr×Obj)}{σ:St}{H H':Hp}{s s':Shared}{cls:Value}{e T:Addr} (I:Inv X pins σ H s) (os:s'.os=s.os) (bare:AllBare s'.gens)
  (F:ZhJ X.prog X.w cls X.stack H H' s.heap s'.heap e T):Inv X pins σ H' s':=I.call' os F.un F.hok bare fun b z=>absurd z (by simp)
section
variable {P:Program}{w:World}{K:PySem.W.Frag}{mg:Str→Option Value}{base:Heap}{N:List Str}{qual:Str}{scope:Scope}{f C:Addr}{cd:Value}{A:Around}{outer:List Env}{s:Shared}{H:Hp}{E:XK}
abbrev cxE (P:Program) (w:World) (K:PySem.W.Frag) (mg:Str→Option Value) (base:Heap) (C:Addr) (N:List Str) (qual:Str) (scope:Scope) (f:Addr) (cd:Value) (A:Around) (outer:List Env) (s:Shared) (H:Hp) (E:XK):Cx :=
 cxOf (CX1 P w C) P w K mg base N qual scope f cd A outer s H E
theorem Zdv {pins:List (Addr×Obj)}{σ:St}{H1 H':Hp}{s1 s2:Shared}{e T:Addr} (I:Inv (cxE P w K mg base C N qual scope f cd A outer s H E) pins σ H1 s1) (os:s2.os=s1.os) (bare:AllBare s2.gens)
  (F:ZhJ P w (.ref C) (cxE P w K mg base C N qual scope f cd A outer s H E).stack H1 H' s1.heap s2.heap e T) (hE:E (.ref C) none H'):CX1 P w C outer H s E (.ref e) s2:=by
 have J:=I.flown os bare F
 have old:∀ b,s1.heap.get? b=none→s.heap.get? b=none:=fun b n=>by
  cases q:s.heap.get? b with
  | none=>rfl
  | some o =>
   obtain ⟨o',z⟩:=I.base.there b o q (by show b ∉ ([]:List Addr);simp)
   rw [n] at z;cases z
 exact ⟨e,T,H',rfl,J.os,J.bare,⟨J.base,J.hok,old _ F.ne,old _ F.nT,F.fe,F.fT,F.fly⟩,hE⟩
theorem Yz:WC (CX1 P w C) (cxE P w K mg base C N qual scope f cd A outer s H E) E:=by
 intro pins σ H1 s1 v s' I h
 obtain ⟨e,T,H',rfl,os,bare,F,hE⟩:=h
 have J:=I.flown os bare F
 obtain ⟨a0,tr⟩:=F.fly.traced (l:=(cxE P w K mg base C N qual scope f cd A outer s H E).stack)
 refine wpAny_leaves_onW (L:=s.heap.objs.size) J.ok.frames rfl ⟨UO,ZgF,VV J.stack,tr⟩ fun h2 fl up=>?_
 obtain ⟨T',F'⟩:=Zat F.un F.hok F.ne F.nT F.fe F.fT J.stack J.stkFree fl up
 exact Zdv (s2:={ s' with heap:=h2 }) I os bare F' hE
theorem ZiX {pins:List (Addr×Obj)}{σ:St}{H1:Hp}{s1:Shared}{e:Addr}{h':Heap}{vs:List Value} (I:Inv (cxE P w K mg base C N qual scope f cd A outer s H E) pins σ H1 s1) (m:Heap.MadeExcOf s1.heap h' e (.ref C) vs) (hE:E (.ref C) none H1) :
  (cxE P w K mg base C N qual scope f cd A outer s H E).xe (.ref e) { s1 with heap:=h' }:=by
 have fe:=I.hok.none m.new
 refine wpAny_leaves_madeW (base:=Zcy s1.heap (cxE P w K mg base C N qual scope f cd A outer s H E).stack e e) (h:=s1.heap) (L:=s.heap.objs.size) I.ok.frames rfl UO (VV I.stack) m fun h2 t fl _ _ up=>?_
 obtain ⟨T',F'⟩:=Zat (Un.refl) I.hok m.new m.new fe fe I.stack I.stkFree fl ((Heap.UpToSlots.of_keeps m.keeps).trans up)
 exact Zdv (s2:={ s1 with heap:=h2 }) I rfl I.bare F' hE
end
structure Exc (K:PySem.W.Frag) (mg:Str→Option Value) (x:Str) (C:Addr):Prop where
 mgE:mg x=some (.ref C)
 q:PySem.W.excIn K C [.type "ValueError",.type "Exception",.type "BaseException",.type "object"] "ValueError.__new__"=true
theorem Exc.obj {K:PySem.W.Frag}{mg:Str→Option Value}{x:Str}{C:Addr}{h:Heap} (T:Exc K mg x C) (X:K.In h) :
  OwnCls x C [.type "ValueError",.type "Exception",.type "BaseException",.type "object"] "ValueError.__new__" mg h:=by
 refine ⟨T.mgE,?_⟩
 have q:=T.q
 unfold PySem.W.excIn at q
 split at q
 ·rename_i dd cd sl ho
  split at q
  ·rename_i C' bm k0 k1 k2 k3 n k5 hm hs
   simp only [Bool.and_eq_true,beq_iff_eq,Bool.not_eq_true'] at q
   obtain ⟨⟨⟨⟨⟨e1,e2⟩,e3⟩,e4⟩,e5⟩,e6⟩:=q
   subst e1;subst e2
   obtain ⟨nm,bs,mro,ns,qn,hd,sn,sub,ab,col,del⟩:=cd
   dsimp only at hm e3 e5 e6
   subst hm;subst e3
   have es:sl=#[k0,k1,k2,k3,some (.builtin "ValueError.__new__"),k5]:=by
    cases sl;simp only at hs;rw [hs]
   subst es
   exact ⟨bm,ns,nm,qn,bs,hd,sn,sub,ab,col,dd,k0,k1,k2,k3,k5,_,X _ _ ho,.of_isNs (PySem.W.isNs_of_in X e5),PySem.W.nsMap_none_of_in X e5 e6,PySem.W.tail_of_in X e4⟩
  ·cases q
 ·cases q
def ZbA (C:Addr) (E:XK) (ta:TA):TS:=fun _ σ H=>ta σ H fun vs H1=>vs.length≤sizeLine∧E (.ref C) none H1
theorem WA {P:Program}{w:World}{K:PySem.W.Frag}{mg:Str→Option Value}{base:Heap}{N:List Str}{qual:Str}{scope:Scope}{f C:Addr}{cd:Value}{A:Around}{outer:List Env}{s:Shared}{H:Hp}{E:XK}{x:Str}{np cpos pos:Pos}{a:Expr}{as:List Expr}{ta:TA}
  (T:Exc K mg x C) (hg:Gl (cxE P w K mg base C N qual scope f cd A outer s H E) x) (ha:PA (cxE P w K mg base C N qual scope f cd A outer s H E) (a::as) ta)
  (he:starEach (a::as) (cxE P w K mg base C N qual scope f cd A outer s H E).env=(false,eval a (cxE P w K mg base C N qual scope f cd A outer s H E).env)::starEach as (cxE P w K mg base C N qual scope f cd A outer s H E).env:=by rfl)
  (hpl:(backTo cpos (starEach as (cxE P w K mg base C N qual scope f cd A outer s H E).env)).any (·.1)=false:=by rfl) (hdb:(x==("__debug__":Str))=false:=by decide) :
  PS (cxE P w K mg base C N qual scope f cd A outer s H E) (.Raise (some (.Call (.Name x np) (a::as) [] cpos)) none pos) (ZbA C E ta):=by
 intro pins s1 σ H1 D I h
 obtain ⟨bm,N',nm,q,bs,hdct,sn,sub,ab,col,dd,k0,k1,k2,k3,k5,mN,hC,hN,hni,TL⟩:=(T.obj I.ok.mod.kin).obj
 refine wpAny_Raise_call_subU (C:=C) (nm:=nm) (q:=q) (N:=N') (bs:=bs) (bm:=bm) (hdct:=hdct) (sn:=sn) (sub:=sub) (ab:=ab) (col:=col) (dd:=dd) (k0:=k0) (k1:=k1) (k2:=k2) (k3:=k3) (k5:=k5) (mN:=mN)
  PySem.F.excBase_ValueError (by decide) PySem.F.excBase_ValueError (TL.hasType (by decide)) (I.ok.hd rfl) (by rw [he];exact hpl) hni (UK I hg T.mgE ⟨rfl,?_⟩ hdb)
 have hw:=ha cpos pins s1 σ H1 _ I h
 rw [he] at hw ⊢
 refine Calls.evalArgs_plain (thn hw fun us s2 ⟨vs,H2,I2,r,hl,hq⟩=>⟨rfl,?_,I2.bk _ _ hC,hN.keeps I2.bk,TL.keeps I2.bk,fun h' e m=>ZiX I2 m hq⟩)
 show us.length≤sizeLine
 rw [← r.length];exact hl
abbrev Cx.marked (X:Cx) (e:Addr):Cx:={ X with A:=X.A.mark (some (.ref e)),calm:=false,xe:=fun _ _=>False }
section
variable {X:Cx}{pins:List (Addr×Obj)}{σ:St}{H:Hp}{s:Shared}{e:Addr}
theorem Inv.marked (I:Inv X pins σ H s) (e:Addr):Inv (X.marked e) pins σ H s :=
 ⟨⟨I.ok.mod,I.ok.kind,I.ok.glob,I.ok.blt,I.ok.above,I.ok.inj,I.ok.has,I.ok.cab,fun z=>absurd z (by simp),I.ok.frames,I.ok.stk,I.ok.exf,I.ok.bs,I.ok.bsz,I.ok.noex,I.ok.exfs,I.ok.funs,I.ok.frf⟩,
  I.os,I.bare,I.base,I.loc,I.cell,I.free,I.freeC,I.pin,I.hok,I.len⟩
theorem Inv.unmarked (ok:X.Ok) (I:Inv (X.marked e) pins σ H s):Inv X pins σ H s :=
 ⟨ok,I.os,I.bare,I.base,I.loc,I.cell,I.free,I.freeC,I.pin,I.hok,I.len⟩
theorem SP.unmarked (ok:X.Ok) {D:Ends}{f:Flow}{s':Shared} (h:SP (X.marked e) pins D f s'):SP X pins D f s':=by
 cases f with
 | next=>obtain ⟨σ',H',I,q⟩:=h;exact ⟨σ',H',I.unmarked ok,q⟩
 | brk=>obtain ⟨σ',H',I,q⟩:=h;exact ⟨σ',H',I.unmarked ok,q⟩
 | cont=>obtain ⟨σ',H',I,q⟩:=h;exact ⟨σ',H',I.unmarked ok,q⟩
 | ret u=>obtain ⟨v,σ',H',I,r,q⟩:=h;exact ⟨v,σ',H',I.unmarked ok,r,q⟩
end
abbrev TX:=Ends→XK→St→Hp→Prop
def ZgR (X:Cx) (C:Addr) (pins:List (Addr×Obj)) (σ:St) (E:XK) (v:Value) (s':Shared):Prop:=∃ s1 H1,Inv X pins σ H1 s1∧CX1 X.prog X.w C X.stack H1 s1 E v s'
def PXS (X:Cx) (C:Addr) (st:Stmt) (t:TX):Prop :=
 ∀ (pins:List (Addr×Obj)) (s:Shared) (σ:St) (H:Hp) (D:Ends) (E:XK),Inv X pins σ H s→t D E σ H→wpAny (model X.prog X.w) X.A (exec st X.env) (SP X pins D) (ZgR X C pins σ E) s
def PXE (X:Cx) (C:Addr) (e:Expr) (t:St→Hp→VK→XK→Prop):Prop :=
 ∀ (pins:List (Addr×Obj)) (s:Shared) (σ:St) (H:Hp) (Q:VK) (E:XK),Inv X pins σ H s→t σ H Q E→wpAny (model X.prog X.w) X.A (eval e X.env) (EP X pins σ Q) (ZgR X C pins σ E) s
def ZfO (sp:Sp) (dvs:List V) (t:TA):St→Hp→VK→XK→Prop:=fun σ H Q E=>t σ H fun vs H1=>sp (vs++dvs) H1 Q E
section
variable {X:Cx}{k:Nat}{f C:Addr}{fd:FuncData}{ps:List Str}{sp:Sp}{dvs:List V}{ds:List Value}{x:Str}{p pos:Pos}{e:Expr}{es:List Expr}{t:TA}
theorem Zic {i:Nat}{y:Str}{pos':Pos}{te:St→Hp→VK→XK→Prop} (hN:X.N.Nodup) (hi:X.N[i]?=some y) (hx:Loc X.env.scope y) (he:PXE X C e te) (hs:swapsWith e (some (.Name y pos')) pos.line X.env=pure false:=by rfl)
  (hf:X.fn y=true∨X.env.scope.names.lookup y=some .local:=by first | exact .inl rfl | exact .inr rfl | assumption):PXS X C (.Assign [.Name y pos'] e pos) (fun D E σ H=>te σ H (fun v H1=>D.nx (σ.set i (some v)) H1) E):=by
 intro pins s σ H D E I h
 refine wpAny_Assign_Name (thn (he pins s σ H _ E I h) fun v s1 ⟨z,H1,I1,r1,q1⟩=>?_) hs
 exact Zar I1 hN hi hx r1 (fun s2 I2=>⟨_,H1,I2,q1⟩) hf
theorem ZjH {x:Str}{np hpos:Pos}{b0:Stmt}{suite:List Stmt}{ts:Addr→TS}{pins:List (Addr×Obj)}{σ:St}{D:Ends}{v:Value}{s':Shared} (T:Exc X.K X.mg x C) (hg:Gl X x) (hst:X.stack=X.env::X.outer∧X.env.frame=some X.env.locals)
  (hs:∀ e,PSs (X.marked e) (b0::suite) (ts e)) (h:ZgR X C pins σ (fun _ _ H1=>∀ e,ts e D σ H1) v s') (hdb:(x==("__debug__":Str))=false:=by decide) :
  wpAny (model X.prog X.w) X.A (noteFrame v X.env) (fun _ s₂=>wpAny (model X.prog X.w) X.A (setFlight v none) (fun _ s₃ =>
   wpAny (model X.prog X.w) X.A (handleBy v X.env [.ExceptHandler (some (.Name x np)) none (b0::suite) hpos]) (SP X pins D) X.xe s₃) X.xe s₂) X.xe s':=by
 obtain ⟨s1,H1,I,e,T0,H',rfl,os,bare,F,hq⟩:=h
 have J:=I.flown os bare F
 obtain ⟨a0,tr⟩:=F.fly.traced (l:=X.stack)
 have hfr:X.A.frames=some (X.env::X.outer):=by rw [← hst.1];exact J.ok.frames
 have fl0:Heap.FlyingW (Zcy s'.heap X.stack e T0) (X.env::X.outer) e (.ref C) a0 s'.heap:=⟨UO,ZgF,by rw [← hst.1];exact VV J.stack,tr⟩
 refine wpAny_looks_onW hfr hst.2 fl0 fun h4 held4 up4=>?_
 refine wpAny_landsW held4 fun h5 fl5 up5'=>?_
 have up5:=up4.trans up5'
 obtain ⟨T5,F5⟩:=Zat F.un F.hok F.ne F.nT F.fe F.fT J.stack J.stkFree fl5 up5
 have I5:Inv X pins σ H' { s' with heap:=h5 }:=I.flown (s':={ s' with heap:=h5 }) os bare F5
 obtain ⟨ob,hob,hobc⟩:=fl5.there
 obtain ⟨bm,N',nm,q,bs,hdct,sn,sub,ab,col,dd,k0,k1,k2,k3,k5,mN,hC,hN,hni,TL⟩:=(T.obj I5.kIn).obj
 refine wpAny_handleBy_cons (codeAny_handlers_test ?_) (by intro q;cases q)
 refine UK (I5.marked e) hg T.mgE ?_ hdb
 refine wpAny_excMatches_sub_self hC hob hobc (TL.hasType (by decide)) (codeAny_handlers_suite ?_)
 refine lands_againW fl5 fun h6 fl6 up6=>?_
 obtain ⟨T6,F6⟩:=Zat F.un F.hok F.ne F.nT F.fe F.fT J.stack J.stkFree fl6 (up5.trans up6)
 have I6:Inv X pins σ H' { s' with heap:=h6 }:=I.flown (s':={ s' with heap:=h6 }) os bare F6
 exact wpAny_mono (hs e pins _ σ H' D (I6.marked e) (hq e)) (fun f s2 q=>q.unmarked I6.ok) fun _ _ z=>False.elim z
theorem Zi4 {st:Stmt}{tx:TX}{x:Str}{np hpos:Pos}{b0:Stmt}{suite:List Stmt}{ts:Addr→TS} (T:Exc X.K X.mg x C) (hg:Gl X x) (hb:PXS X C st tx) (hs:∀ e,PSs (X.marked e) (b0::suite) (ts e))
  (hst:X.stack=X.env::X.outer∧X.env.frame=some X.env.locals:=by exact ⟨rfl,rfl⟩) (hdb:(x==("__debug__":Str))=false:=by decide) :
  PS X (.Try [st] [.ExceptHandler (some (.Name x np)) none (b0::suite) hpos] [] [] pos) (fun D σ H=>tx D (fun _ _ H1=>∀ e,ts e D σ H1) σ H):=by
 intro pins s σ H D I h
 refine wpAny_Try_except (wpAny_execs_cons (wpAny_mono (hb pins s σ H D _ I h) (fun f s1 q=>?_) fun v s1 q=>ZjH T hg hst hs q hdb))
 cases f with
 | next=>exact wpAny_execs_nil (wpAny_execs_nil q)
 | ret v=>exact q
 | brk=>exact q
 | cont=>exact q
end
end L2
end
section
namespace L2
open PySem PySem.Spec PyProof.Rows PySem.Calls
section
variable {X:Cx}
def tFv (te:TE):TE:=fun σ H Q=>te σ H fun v H1=>∃ i:Int,v=.int i∧i.natAbs.log2<1920∧Q (.str (toString i)) H1
theorem Zi8 {e:Expr}{te:TE}{pos:Pos} (he:PE X e te):PE X (.FormattedValue e (-1) none pos) (tFv te):=by
 intro pins s σ H Q I h
 refine FormattedValue_plain (thn (he pins s σ H _ I h) fun u s1 ⟨v,H1,I1,r,i,e,hi,q⟩=>?_)
 subst e
 obtain ⟨t,rfl⟩:=r
 exact formatField_int_small hi ⟨.str (toString i),H1,I1.tok _,⟨_,rfl⟩,q⟩
def Zh7:List TE→Str→TE
 | [],acc=>fun _ H Q=>acc.length≤sizeLine∧Q (.str acc) H
 | t::ts,acc=>fun σ H Q=>t σ H fun v H1=>∃ x,v=.str x∧(acc++x).length≤sizeLine∧Zh7 ts (acc++x) σ H1 Q
inductive PEs (X:Cx):List Expr→List TE→Prop
 | nil:PEs X [] []
 | cons {e:Expr}{t:TE}{es:List Expr}{ts:List TE}:PE X e t→PEs X es ts→PEs X (e::es) (t::ts)
theorem ZjX {es:List Expr}{ts:List TE} (h:PEs X es ts):∀ (acc:Str) {pins:List (Addr×Obj)}{s:Shared}{σ:St}{H:Hp}{Q:VK},Inv X pins σ H s→Zh7 ts acc σ H Q →
  wpAny (model X.prog X.w) X.A (joinParts acc (evalEach es X.env)) (EP X pins σ Q) X.xe s:=by
 induction h with
 | nil =>
  intro acc pins s σ H Q I ⟨hz,q⟩
  exact joinParts_nil ⟨.str acc,H,I.tok _,⟨_,rfl⟩,q⟩ hz
 | cons he hs ih =>
  intro acc pins s σ H Q I h
  refine joinParts_cons (thn (he pins s σ H _ I h) fun u s1 ⟨v,H1,I1,r,x,e,hx,q⟩=>?_)
  subst e
  obtain ⟨t,rfl⟩:=r
  exact ⟨hx,ih _ I1 q⟩
theorem Zf2 {e1 e2:Expr}{es:List Expr}{ts:List TE}{pos:Pos} (h:PEs X (e1::e2::es) ts):PE X (.JoinedStr (e1::e2::es) pos) (Zh7 ts Str.empty):=by
 intro pins s σ H Q I q
 exact JoinedStr_many (ZjX h _ I q)
end
end L2
end
section
set_option maxRecDepth 100000
namespace L2
open PySem PySem.Spec PyProof.Rows
section
variable {P:Program}{w:World}{K:PySem.W.Frag}{mg:Str→Option Value}{base:Heap}
theorem Fun.okE {x qual:Str}{st:Stmt}{f C:Addr}{fd:FuncData}{N ps:List Str}{k:Nat}{sp:Sp} (F:Fun K x qual st f fd) (S:Zp N ps (Zc st)) (len:∀ vs H Q E,sp vs H Q E→vs.length=ps.length)
  (hbody:∀ (cdv:Value) (A:Around) (outer:List Env) (s:Shared) (H:Hp) (vs:List V) (Q:VK) (E:XK),Room k (A.deeper (envOfC qual (Zc st) s.heap.objs.size f cdv))→sp vs H Q E →
   ∃ t,PSs (cxE P w K mg base C N qual (Zc st) f cdv A outer s H E) (Zk st) t∧t { nx:=fun _ H'=>Q .non H',rt:=Q } (start N vs) H):FnOk P w K mg base (CX1 P w C) (k+1) f fd ps sp:=by
 obtain ⟨oc,od,kV,doc,pm,an,cdv,ct,osl,rfl,lk,hcd⟩:=F.ex
 exact ZiI lk hcd S len fun A outer s H vs Q E hr hsp=>hbody cdv A outer s H vs Q E hr hsp
end
structure FnC (P:Program) (w:World) (K:PySem.W.Frag) (mg:Str→Option Value) (base:Heap) (CX:CXT) (k:Nat) (x:Str) (ps:List Str) (sp:Sp):Prop where
 ex:∃ f fd,mg x=some (.ref f)∧PySem.W.keepIn K (.ref f)=true∧ZB K fd ps []∧FnOk P w K mg base CX k f fd ps sp
structure Z9 (P:Program) (w:World) (K:PySem.W.Frag) (mg:Str→Option Value) (base:Heap) (CX:CXT) (k:Nat) (C:Addr) (m:Str) (ps:List Str) (sp:Sp):Prop where
 ex:∃ f fd,Meth K C m f∧ZB K fd ps []∧FnOk P w K mg base CX k f fd ps sp
structure J0 (P:Program) (w:World) (K:PySem.W.Frag) (mg:Str→Option Value) (base:Heap) (CX:CXT) (k:Nat) (C:Addr) (x:Str) (ps:List Str) (sp:Sp):Prop where
 ex:∃ f fd,mg x=some (.ref C)∧Mk K C f∧ZB K fd ps []∧FnOk P w K mg base CX k f fd ps sp
section
variable {X:Cx}{CX:CXT}{j k:Nat}{C:Addr}{ps:List Str}{sp:Sp}{E:XK}{x m:Str}{p pos apos:Pos}{e o:Expr}{es:List Expr}{ta:TE}{t:TA}
theorem Zl (c:FnC X.prog X.w X.K X.mg X.base CX j x ps sp) (hr:Room k X.A) (hx:WC CX X E) (ha:PA X (e::es) t) (hjk:j≤k:=by decide) (hg:Gl X x:=by rfl)
  (hdb:(x==("__debug__":Str))=false:=by decide) (he:starEach (e::es) X.env=(false,eval e X.env)::starEach es X.env:=by rfl) (hpl:(backTo pos (starEach es X.env)).any (·.1)=false:=by rfl) :
  PE X (.Call (.Name x p) (e::es) [] pos) (Zbi sp [] E t):=by
 obtain ⟨f,fd,hm,hk,hb,F⟩:=c.ex
 exact Zik F (hr.mono hjk) hg hm hk hb .nil hx ha hdb he hpl
theorem Zt {pl:Sem Bool} (he:PE X o ta) (c:Cls X.K C) (F:Z9 X.prog X.w X.K X.mg X.base CX j C m ps sp) (hr:Room k X.A) (hx:WC CX X E) (ha:PA X (e::es) t) (hjk:j≤k:=by decide)
  (hst:starEach (e::es) X.env=(false,eval e X.env)::starEach es X.env:=by rfl) (hpl:(backTo pos (starEach es X.env)).any (·.1)=false:=by rfl)
  (ht:eval (.Call (.Attribute o m apos) (e::es) [] pos) X.env=(do
   let ov ← eval o X.env
   standAt apos.atName
   let (f,first) ← holding [ov] (getMethod ov m pl)
   callWith pos f first (backTo pos (starEach (e::es) X.env)) (backToKw pos (keywordEach [] X.env))):=by rfl) :
  PE X (.Call (.Attribute o m apos) (e::es) [] pos) (Zb6 C m sp [] E ta t):=by
 obtain ⟨f,fd,hm,hb,F⟩:=F.ex
 exact Zii he c hm F (hr.mono hjk) hb .nil hx ha hst hpl ht
theorem XT {pl:Sem Bool} (he:PE X o ta) (c:Cls X.K C) (F:Z9 X.prog X.w X.K X.mg X.base CX j C m ps sp) (hr:Room k X.A) (hx:WC CX X E) (hjk:j≤k:=by decide)
  (ht:eval (.Call (.Attribute o m apos) [] [] pos) X.env=(do
   let ov ← eval o X.env
   standAt apos.atName
   let (f,first) ← holding [ov] (getMethod ov m pl)
   callWith pos f first (backTo pos (starEach [] X.env)) (backToKw pos (keywordEach [] X.env))):=by rfl) :
  PE X (.Call (.Attribute o m apos) [] [] pos) (Zb6 C m sp [] E ta tNil):=by
 obtain ⟨f,fd,hm,hb,F⟩:=F.ex
 exact Zg4 he c hm F (hr.mono hjk) hb .nil hx ht
theorem W9 (c:J0 X.prog X.w X.K X.mg X.base CX j C x ps sp) (hr:Room k X.A) (hx:WC CX X E) (ha:PA X (e::es) t) (hjk:j+1≤k:=by decide) (hg:Gl X x:=by rfl)
  (hdb:(x==("__debug__":Str))=false:=by decide) (he:starEach (e::es) X.env=(false,eval e X.env)::starEach es X.env:=by rfl) (hpl:(backTo pos (starEach es X.env)).any (·.1)=false:=by rfl) :
  PE X (.Call (.Name x p) (e::es) [] pos) (ZcS C sp [] E t):=by
 obtain ⟨f,fd,hm,M,hb,F⟩:=c.ex
 exact Zij M F (hr.mono hjk) hg hm hb .nil hx ha hdb he hpl
theorem Z8 {i:Int} (h:∃ u,X.mg x=some (.int i u)) (hg:Gl X x:=by rfl) (hd:(x==("__debug__":Str))=false:=by decide):PE X (.Name x pos) (tC (.int i)):=by
 obtain ⟨u,h⟩:=h
 exact Zf1 hg h ⟨u,rfl⟩ hd
theorem UC {a:Addr} (h:X.mg x=some (.ref a)) (hg:Gl X x:=by rfl) (hd:(x==("__debug__":Str))=false:=by decide):PE X (.Name x pos) (tC (.ref a)):=Zf1 hg h (show RelV (.ref a) (.ref a) from rfl) hd
end
def Kp (S:List Addr) (H H':Hp):Prop:=∀ b o,H b=some o→b ∉ S→H' b=some o
theorem Kp.refl {S:List Addr}{H:Hp}:Kp S H H:=fun _ _ e _=>e
theorem Kp.trans {S:List Addr}{H H1 H2:Hp} (a:Kp S H H1) (b:Kp S H1 H2):Kp S H H2:=fun c o e n=>b c o (a c o e n) n
theorem Kp.mono {S S':List Addr}{H H1:Hp} (a:Kp S H H1) (h:∀ b∈S,b∈S'):Kp S' H H1:=fun c o e n=>a c o e fun z=>n (h c z)
theorem Kp.put {S:List Addr}{H:Hp}{a:Addr}{o:HO} (h:a∈S):Kp S H (upd H a o):=fun c u e n=>by
 have z:c≠a:=fun z=>n (by rw [z];exact h)
 rw [Zi z];exact e
theorem Kp.new {S:List Addr}{H:Hp}{a:Addr}{o:HO} (h:H a=none):Kp S H (upd H a o):=fun c u e n=>by rw [Zi (Zg e h)];exact e
theorem Kp.put2 {S:List Addr}{H H1:Hp}{a:Addr}{o:HO} (k:Kp S H H1) (h:a∈S∨H a=none):Kp S H (upd H1 a o):=fun c u e n=>by
 have z:c≠a:=fun z=>by
  subst z
  rcases h with h | h
  ·exact n h
  ·rw [h] at e;cases e
 rw [Zi z];exact k c u e n
theorem Kp.free {S:List Addr}{H H1:Hp} (k:Kp S H H1) {a:Addr} (n:a ∉ S) (h:H1 a=none):H a=none:=by
 cases q:H a with
 | none=>rfl
 | some o=>rw [k a o q n] at h;cases h
theorem Kp.seq {K:PySem.W.Frag}{S:List Addr}{H H':Hp}{a:Addr}{xs:List V} (e:Kp S H H') (n:a ∉ S) (h:SqL K H a xs):SqL K H' a xs:=by
 rcases h with (h | ⟨o,h⟩) | h
 ·exact .inl (.inl (e _ _ h n))
 ·exact .inl (.inr ⟨o,e _ _ h n⟩)
 ·exact .inr h
end L2
end
section
set_option maxRecDepth 100000
namespace L2
open PySem PySem.Spec PyProof.Rows
section
variable {σ:St}{H:Hp}{Q:VK}{D:Ends}{N B C2:St→Hp→Prop}{R:VK}{K:PySem.W.Frag}{E:XK}
theorem Zm {G:Prop} (h:∀ G':Prop,(G→G')→G'):G:=h G id
theorem ZjA {t u:TS} (h:∀ M:TS,(∀ D σ H,u D σ H→M D σ H)→t ⟨M ⟨N,R,B,C2⟩,R,B,C2⟩ σ H):tSeq t u ⟨N,R,B,C2⟩ σ H:=h u fun _ _ _ z=>z
theorem g_nx (h:N σ H):Ends.nx ⟨N,R,B,C2⟩ σ H:=h
theorem g_rt {v:V} (h:R v H):Ends.rt ⟨N,R,B,C2⟩ v H:=h
theorem Zjt (h:D.nx σ H):Ze7 D σ H:=h
theorem Zkg {c:TT}{t u:TS} (h:c σ H fun b H1=>if b=true then t D σ H1 else u D σ H1):tIfS c t u D σ H:=h
theorem Zj6 {te:TE} (h:te σ H D.rt):tRet te D σ H:=h
theorem ZjB {te:TE} (h:te σ H fun _ H1=>D.nx σ H1):Ze8 te D σ H:=h
theorem Zkl {te:TE}{g:TG} (h:te σ H fun x H1=>g x σ H1 D.nx):tAsg te g D σ H:=h
theorem g_or {t u:TT}{Qb:Bool→Hp→Prop} (h:t σ H fun c H1=>if c=true then Qb true H1 else u σ H1 Qb):tOr t u σ H Qb:=h
theorem Zkm {t u:TT}{Qb:Bool→Hp→Prop} (h:t σ H fun c H1=>if c=true then u σ H1 Qb else Qb false H1):tAnd t u σ H Qb:=h
theorem Zj8 {t:TT}{Qb:Bool→Hp→Prop} (h:t σ H fun c H1=>Qb (!c) H1):tNot t σ H Qb:=h
theorem Zjp {t:TE}{Qb:Bool→Hp→Prop} (h:t σ H fun x H'=>∃ k,x=.bl k∧Qb k H'):ZcR t σ H Qb:=h
theorem g_B {t:TE}{Qb:Bool→Hp→Prop} (h:t σ H fun x H'=>∃ k,x=.bl k∧Qb k H'):tB t σ H Qb:=h
theorem Zj3 {Qb:Bool→Hp→Prop} (h:Qb true H):tYes σ H Qb:=h
theorem Zkj {c:Bool}{P:Bool→Prop} (h:P c):∃ k,V.bl c=V.bl k∧P k:=⟨c,rfl,h⟩
theorem Zki {c:Int}{P:Int→Prop} (h:P c):∃ k,V.int c=V.int k∧P k:=⟨c,rfl,h⟩
theorem Zkc {q:Addr}{α:Type}{P:Addr→α→Prop} (h:∃ y,P q y):∃ p y,[V.ref q]=[V.ref p]∧P p y:=let ⟨y,z⟩:=h;⟨q,y,rfl,z⟩
theorem Zkb {q r:Int}{P:Int→Int→Prop} (h:P q r):∃ p p',[V.int q,V.int r]=[V.int p,V.int p']∧P p p':=⟨q,r,rfl,h⟩
theorem g_op {r:R2}{ta tb:TE} (h:ta σ H fun x H1=>tb σ H1 fun y H2=>r x y H2 Q):tOp r ta tb σ H Q:=h
theorem Zj7 {g:Int→Int→V}{i j:Int} (h:Q (g i j) H):rI0 g (.int i) (.int j) H Q:=⟨i,j,rfl,rfl,h⟩
theorem g_rI {C:Int→Int→Prop}{g:Int→Int→V}{i j:Int} (h:C i j∧Q (g i j) H):rI C g (.int i) (.int j) H Q:=⟨i,j,rfl,rfl,h.1,h.2⟩
theorem g_C {v:V} (h:Q v H):tC v σ H Q:=h
theorem ZiF {r r':R2}{ta tb tc:TE} (h:ta σ H fun x H1=>tb σ H1 fun y H2=>r x y H2 fun z H3=>∃ k,z=.bl k∧if k=true then tc σ H3 fun w' H4=>r' y w' H4 Q else Q (.bl false) H3):ZbB r r' ta tb tc σ H Q:=h
theorem Zkk {i j:Int} (h:Q (.bl (decide (i=j))) H):rEq (.int i) (.int j) H Q:=⟨rfl,by rw [show decide (V.int i=V.int j)=decide (i=j) from decide_eq_decide.mpr (Iff.of_eq (V.int.injEq i j))];exact h⟩
theorem Zkf {f:Int→Int→Int}{i j:Int} (h:Q (.int (f i j)) H):ipI f (.int i) (.int j) H Q:=⟨i,j,rfl,rfl,h⟩
theorem Zjr {i j:Int} (h:Q (.int (i+j)) H):rAdd (.int i) (.int j) H Q:=⟨i,j,rfl,rfl,h⟩
theorem ZjD {sp:Sp}{t:TA} (h:t σ H fun vs H1=>sp vs H1 Q E):Zbi sp [] E t σ H Q:=by
 unfold Zbi
 have e:(fun (vs:List V) (H1:Hp)=>sp (vs++[]) H1 Q E)=fun vs H1=>sp vs H1 Q E:=by funext vs H1;rw [List.append_nil]
 rw [e];exact h
theorem ZjC {ta:TE}{tr:TA}{Qs:List V→Hp→Prop} (h:ta σ H fun x H1=>tr σ H1 fun xs H2=>Qs (x::xs) H2):Ze9 ta tr σ H Qs:=h
theorem Zj9 {Qs:List V→Hp→Prop} (h:Qs [] H):tNil σ H Qs:=h
theorem g_CB {r:List V→Hp→VK→Prop}{t:TA} (h:t σ H fun vs H1=>r vs H1 Q):tCB r t σ H Q:=h
theorem ZiD {C:Addr}{ta:TA} (h:ta σ H fun vs H1=>vs.length≤sizeLine∧E (.ref C) none H1):ZbA C E ta D σ H:=h
theorem Zj4 {t:TA} (h:t σ H fun xs H1=>xs.length≤sizeLine∧∀ p,H1 p=none→Q (.ref p) (upd H1 p (.tup xs))):tTup t σ H Q:=h
theorem Zka {t:TA} (h:t σ H fun xs H1=>xs.length≤sizeLine∧∀ p,H1 p=none→Q (.ref p) (upd H1 p (.lst xs))):tLst t σ H Q:=h
theorem g_BM {T:String}{r:V→List V→Hp→VK→Prop}{to:TE}{t:TA} (h:to σ H fun x H1=>tyV K T x H1∧t σ H1 fun xs H2=>r x xs H2 Q):tBM K T r to t σ H Q:=h
theorem Zhv {l:Addr}{y:V} (h:∃ xs,H l=some (.lst xs)∧xs.length<sizeLine∧Q .non (upd H l (.lst (xs++[y])))):UA (.ref l) [y] H Q:=let ⟨xs,h1,h2,h3⟩:=h;⟨l,xs,y,rfl,rfl,h1,h2,h3⟩
theorem Zhu {l b:Addr} (h:∃ xs zs,H l=some (.lst xs)∧H b=some (.lst zs)∧xs.length+zs.length≤sizeLine∧Q .non (upd H l (.lst (xs++zs)))):JN (.ref l) [.ref b] H Q:=let ⟨xs,zs,h1,h2,h3,h4⟩:=h;⟨l,b,xs,zs,rfl,rfl,h1,h2,h3,h4⟩
theorem g_sl {r:V→Option Int→Option Int→Hp→VK→Prop}{te:TE}{tl th:TO} (h:te σ H fun x H1=>tl σ H1 fun l H2=>th σ H2 fun u H3=>r x l u H3 Q):tSl r te tl th σ H Q:=h
theorem Zht {Qo:Option Int→Hp→Prop} (h:Qo none H):JI σ H Qo:=h
theorem Zjs {t:TE}{Qo:Option Int→Hp→Prop} (h:t σ H fun x H1=>∃ i,x=.int i∧Qo (some i) H1):Ze6 t σ H Qo:=h
theorem Zj5 {p:Addr}{lo hi:Option Int} (h:∃ xs,SqL K H p xs∧∀ q,H q=none→Q (.ref q) (upd H q (.lst (cutV xs lo hi)))):rSlL K (.ref p) lo hi H Q:=let ⟨xs,h1,h2⟩:=h;⟨p,xs,rfl,h1,h2⟩
theorem Zjv {C:Addr}{sp:Sp}{t:TA} (h:t σ H fun vs H1=>∀ x dx,H1 x=none→H1 dx=none→dx≠x→sp (.ref x::vs) (upd (upd H1 dx (.own x)) x (.ins C dx [])) (fun v H2=>v=.non∧Q (.ref x) H2) E):ZcS C sp [] E t σ H Q:=by
 unfold ZcS
 have e:(fun (vs:List V) (H1:Hp)=>∀ x dx,H1 x=none→H1 dx=none→dx≠x→sp (.ref x::(vs++[])) (upd (upd H1 dx (.own x)) x (.ins C dx [])) (fun v H2=>v=.non∧Q (.ref x) H2) E)=fun vs H1=>∀ x dx,H1 x=none→H1 dx=none→dx≠x→sp (.ref x::vs) (upd (upd H1 dx (.own x)) x (.ins C dx [])) (fun v H2=>v=.non∧Q (.ref x) H2) E:=by funext vs H1;rw [List.append_nil]
 rw [e];exact h
theorem Zkh {ta:TE}{f:Str} (h:ta σ H fun x H1=>∃ a C dx fs v,x=.ref a∧H1 a=some (.ins C dx fs)∧Cls K C∧ZF K C f∧fs.lookup f=some v∧Q v H1):tFld K ta f σ H Q:=h
theorem Js {r C dx:Addr}{fs:List (Str×V)}{v:V}{f:Str}{P:V→Prop} (hH:H r=some (.ins C dx fs)) (hc:Cls K C) (hn:ZF K C f) (hl:fs.lookup f=some v) (h:P v):∃ a C dx fs v,V.ref r=.ref a∧H a=some (.ins C dx fs)∧Cls K C∧ZF K C f∧fs.lookup f=some v∧P v:=⟨r,C,dx,fs,v,rfl,hH,hc,hn,hl,h⟩
theorem Zju {C:Addr}{m:Str}{sp:Sp}{ta:TE}{t:TA} (h:ta σ H fun x H1=>∃ a dx fs,x=.ref a∧H1 a=some (.ins C dx fs)∧fs.lookup m=none∧t σ H1 fun vs H2=>sp (x::vs) H2 Q E):Zb6 C m sp [] E ta t σ H Q:=by
 unfold Zb6
 have e:(fun (x:V) (H1:Hp)=>∃ a dx fs,x=.ref a∧H1 a=some (.ins C dx fs)∧fs.lookup m=none∧t σ H1 fun vs H2=>sp (x::(vs++[])) H2 Q E)=fun x H1=>∃ a dx fs,x=.ref a∧H1 a=some (.ins C dx fs)∧fs.lookup m=none∧t σ H1 fun vs H2=>sp (x::vs) H2 Q E:=by
  have e2:∀ x:V,(fun (vs:List V) (H2:Hp)=>sp (x::(vs++[])) H2 Q E)=fun vs H2=>sp (x::vs) H2 Q E:=fun x=>by funext vs H2;rw [List.append_nil]
  funext x H1;rw [e2]
 rw [e];exact h
theorem Zgu {r C dx:Addr}{fs:List (Str×V)}{m:Str}{G:Prop} (hH:H r=some (.ins C dx fs)) (hl:fs.lookup m=none) (h:G):∃ a dx fs,V.ref r=.ref a∧H a=some (.ins C dx fs)∧fs.lookup m=none∧G:=⟨r,dx,fs,rfl,hH,hl,h⟩
theorem Zjq {ta tv:TE}{f:Str} (h:tv σ H fun y H1=>ta σ H1 fun x H2=>∃ a C dx fs,x=.ref a∧H2 a=some (.ins C dx fs)∧Cls K C∧ZF K C f∧fs.length<1000∧D.nx σ (upd H2 a (.ins C dx (putF f y fs)))):sFld K ta tv f D σ H:=h
theorem Ws {r C dx:Addr}{fs:List (Str×V)}{f:Str}{y:V}{P:Hp→Prop} (hH:H r=some (.ins C dx fs)) (hc:Cls K C) (hn:ZF K C f) (h:fs.length<1000∧P (upd H r (.ins C dx (putF f y fs)))):∃ a C dx fs,V.ref r=.ref a∧H a=some (.ins C dx fs)∧Cls K C∧ZF K C f∧fs.length<1000∧P (upd H a (.ins C dx (putF f y fs))):=⟨r,C,dx,fs,rfl,hH,hc,hn,h.1,h.2⟩
theorem Za7 {r C dx:Addr}{fs:List (Str×V)}{f:Str}{y:V}{P:Hp→Prop} (hc:Cls K C) (hn:ZF K C f) (h:fs.length<1000∧P (upd H r (.ins C dx (putF f y fs)))):∃ a C' dx' fs',V.ref r=.ref a∧upd H r (.ins C dx fs) a=some (.ins C' dx' fs')∧Cls K C'∧ZF K C' f∧fs'.length<1000∧P (upd (upd H r (.ins C dx fs)) a (.ins C' dx' (putF f y fs'))):=⟨r,C,dx,fs,rfl,Ze,hc,hn,h.1,by rw [WW];exact h.2⟩
theorem Zgt {ta tv:TE}{rd:V→V→Hp→VK→Prop}{f:Str} (h:ta σ H fun x H1=>∃ a C dx fs v,x=.ref a∧H1 a=some (.ins C dx fs)∧Cls K C∧ZF K C f∧fs.lookup f=some v∧tv σ H1 fun y H2=>rd v y H2 fun z H3=>∃ dx' fs',H3 a=some (.ins C dx' fs')∧fs'.length<1000∧D.nx σ (upd H3 a (.ins C dx' (putF f z fs')))):ZaP K ta tv rd f D σ H:=h
theorem ZbS {r C dx:Addr}{fs:List (Str×V)}{f:Str}{v:V}{P:Addr→Addr→V→Prop} (hH:H r=some (.ins C dx fs)) (hc:Cls K C) (hn:ZF K C f) (hl:fs.lookup f=some v) (h:P r C v):∃ a C dx fs v,V.ref r=.ref a∧H a=some (.ins C dx fs)∧Cls K C∧ZF K C f∧fs.lookup f=some v∧P a C v:=⟨r,C,dx,fs,v,rfl,hH,hc,hn,hl,h⟩
theorem ZhW {r C dx:Addr}{fs:List (Str×V)}{P:Addr→List (Str×V)→Prop} (hH:H r=some (.ins C dx fs)) (h:fs.length<1000∧P dx fs):∃ dx' fs',H r=some (.ins C dx' fs')∧fs'.length<1000∧P dx' fs':=⟨dx,fs,hH,h.1,h.2⟩
theorem Zke {p:Addr}{i:Int} (h:∃ xs,SqL K H p xs∧∃ v,atI xs i=some v∧Q v H):rIxL K (.ref p) (.int i) H Q:=let ⟨xs,h1,v,h2,h3⟩:=h;⟨p,xs,i,v,rfl,rfl,h1,h2,h3⟩
theorem Zkd {p:Addr}{i:Int} (h:∃ xs,SqT K H p xs∧∃ v,atI xs i=some v∧Q v H):rIxT K (.ref p) (.int i) H Q:=let ⟨xs,h1,v,h2,h3⟩:=h;⟨p,xs,i,v,rfl,rfl,h1,h2,h3⟩
end
section
variable {A B:Prop}
theorem Zjw (h:A):if true=true then A else B:=by rw [if_pos rfl];exact h
theorem Zjy (h:B):if false=true then A else B:=by rw [if_neg Bool.false_ne_true];exact h
theorem Zjz {p:Prop} [Decidable p] (h:if p then A else B):if decide p=true then A else B:=by
 by_cases z:p
 ·rw [if_pos z] at h;rw [if_pos (decide_eq_true z)];exact h
 ·rw [if_neg z] at h;rw [if_neg (fun y=>z (of_decide_eq_true y))];exact h
theorem ZiE {p:Prop} [Decidable p] (h:if ¬ p then A else B):if (!decide p)=true then A else B:=by
 by_cases z:p
 ·rw [if_neg (fun y=>y z)] at h;rw [if_neg (by simp [z])];exact h
 ·rw [if_pos z] at h;rw [if_pos (by simp [z])];exact h
theorem Zjx {b:Bool} (h:if b=false then A else B):if (!b)=true then A else B:=by
 cases b
 ·rw [if_pos rfl] at h;exact (by rw [if_pos (show (!false)=true from rfl)];exact h)
 ·rw [if_neg (by decide)] at h;exact (by rw [if_neg (by decide)];exact h)
end
theorem g_v0 {v:V}{r:List (Option V)}{H:Hp}{Q:VK} (h:Q v H):tVar 0 (some v::r) H Q:=⟨v,rfl,h⟩
theorem g_v1 {v:V}{a0:Option V}{r:List (Option V)}{H:Hp}{Q:VK} (h:Q v H):tVar 1 (a0::some v::r) H Q:=⟨v,rfl,h⟩
theorem g_n1 {v:V}{a0:Option V}{b:Option V}{r:List (Option V)}{H:Hp}{Qg:St→Hp→Prop} (h:Qg (a0::some v::r) H):Jt 1 v (a0::b::r) H Qg:=h
theorem g_v2 {v:V}{a0 a1:Option V}{r:List (Option V)}{H:Hp}{Q:VK} (h:Q v H):tVar 2 (a0::a1::some v::r) H Q:=⟨v,rfl,h⟩
theorem g_n2 {v:V}{a0 a1:Option V}{b:Option V}{r:List (Option V)}{H:Hp}{Qg:St→Hp→Prop} (h:Qg (a0::a1::some v::r) H):Jt 2 v (a0::a1::b::r) H Qg:=h
theorem g_a2 {x:V}{a0 a1:Option V}{r:List (Option V)}{H:Hp}{D:Ends}{te:TE}{ti:TIp} (h:te (a0::a1::some x::r) H fun y H1=>ti x y H1 fun z H2=>D.nx (a0::a1::some z::r) H2):tAug 2 te ti D (a0::a1::some x::r) H:=⟨x,rfl,h⟩
theorem g_v3 {v:V}{a0 a1 a2:Option V}{r:List (Option V)}{H:Hp}{Q:VK} (h:Q v H):tVar 3 (a0::a1::a2::some v::r) H Q:=⟨v,rfl,h⟩
theorem g_n3 {v:V}{a0 a1 a2:Option V}{b:Option V}{r:List (Option V)}{H:Hp}{Qg:St→Hp→Prop} (h:Qg (a0::a1::a2::some v::r) H):Jt 3 v (a0::a1::a2::b::r) H Qg:=h
theorem g_a3 {x:V}{a0 a1 a2:Option V}{r:List (Option V)}{H:Hp}{D:Ends}{te:TE}{ti:TIp} (h:te (a0::a1::a2::some x::r) H fun y H1=>ti x y H1 fun z H2=>D.nx (a0::a1::a2::some z::r) H2):tAug 3 te ti D (a0::a1::a2::some x::r) H:=⟨x,rfl,h⟩
theorem g_v4 {v:V}{a0 a1 a2 a3:Option V}{r:List (Option V)}{H:Hp}{Q:VK} (h:Q v H):tVar 4 (a0::a1::a2::a3::some v::r) H Q:=⟨v,rfl,h⟩
theorem g_n4 {v:V}{a0 a1 a2 a3:Option V}{b:Option V}{r:List (Option V)}{H:Hp}{Qg:St→Hp→Prop} (h:Qg (a0::a1::a2::a3::some v::r) H):Jt 4 v (a0::a1::a2::a3::b::r) H Qg:=h
theorem g_v5 {v:V}{a0 a1 a2 a3 a4:Option V}{r:List (Option V)}{H:Hp}{Q:VK} (h:Q v H):tVar 5 (a0::a1::a2::a3::a4::some v::r) H Q:=⟨v,rfl,h⟩
theorem g_n5 {v:V}{a0 a1 a2 a3 a4:Option V}{b:Option V}{r:List (Option V)}{H:Hp}{Qg:St→Hp→Prop} (h:Qg (a0::a1::a2::a3::a4::some v::r) H):Jt 5 v (a0::a1::a2::a3::a4::b::r) H Qg:=h
theorem g_v6 {v:V}{a0 a1 a2 a3 a4 a5:Option V}{r:List (Option V)}{H:Hp}{Q:VK} (h:Q v H):tVar 6 (a0::a1::a2::a3::a4::a5::some v::r) H Q:=⟨v,rfl,h⟩
theorem g_n6 {v:V}{a0 a1 a2 a3 a4 a5:Option V}{b:Option V}{r:List (Option V)}{H:Hp}{Qg:St→Hp→Prop} (h:Qg (a0::a1::a2::a3::a4::a5::some v::r) H):Jt 6 v (a0::a1::a2::a3::a4::a5::b::r) H Qg:=h
end L2
end
section
set_option maxRecDepth 100000
namespace L2
open PySem PySem.Spec PyProof.Rows
section
variable {X:Cx}{CX:CXT}{j k:Nat}{ps:List Str}{sp:Sp}{E:XK}{x y:Str}{p pos:Pos}{e:Expr}{es:List Expr}{t:TA}
def ZhM (i:Nat) (f:Addr) (u:TE):TE:=fun σ H Q=>σ[i]?=some (some (V.ref f))∧u σ H Q
def ZfN (i:Nat) (f:Addr) (u:St→Hp→VK→XK→Prop):St→Hp→VK→XK→Prop:=fun σ H Q E=>σ[i]?=some (some (V.ref f))∧u σ H Q E
theorem Zg3 (i:Nat) {f C:Addr} (c:FnC X.prog X.w X.K X.mg X.base (CX1 X.prog X.w C) j y ps sp) (hm:X.mg y=some (.ref f)) (hr:Room k X.A) (ha:PA X.nox (e::es) t) (hjk:j≤k:=by decide)
  (hN:X.N[i]?=some x:=by rfl) (hv:Vis X.env.scope x:=by first | exact Or.inl rfl | exact Or.inr (Or.inl rfl) | exact Or.inr (Or.inr rfl)) (hd:(x==("__debug__":Str))=false:=by decide) (hcd:(x==("__classdict__":Str))=false:=by decide)
  (he:starEach (e::es) X.env=(false,eval e X.env)::starEach es X.env:=by rfl) (hpl:(backTo pos (starEach es X.env)).any (·.1)=false:=by rfl) :
  PXE X C (.Call (.Name x p) (e::es) [] pos) (ZfN i f (ZfO sp [] t)):=by
 obtain ⟨f',fd,hm',hk,hb,F⟩:=c.ex
 rw [hm] at hm'
 cases hm'
 intro pins s σ H Q E I h
 refine wpAny_Call_Name_kw (wpAny_mono (ZeK (X:=X.nox) (pos:=p) hN hv hd hcd pins s σ H (fun v H'=>v=V.ref f∧ZfO sp [] t σ H' Q E) (I.wish _) ⟨_,h.1,rfl,h.2⟩) (fun u s1 ⟨v,H1,I1',r,ev,q⟩=>?_) fun _ _ z=>False.elim z)
 subst ev
 have r:u=.ref f:=by cases r;rfl
 subst r
 have I1:=I1'.unwish
 refine PySem.W.callWith_K (h₀:=X.base) I1.ok.mod.kin hk (wpAny_mono (ha pos pins s1 σ H1 _ (I1.wish _) q) (fun us s2 ⟨vs,H2,I2',r,q⟩=>?_) fun _ _ z=>False.elim z) he hpl
 have I2:=I2'.unwish
 refine ⟨I2.kIn,?_⟩
 have r2:Vals (vs++[]) (us++[]):=r.append .nil
 have hl:(us++[]).length=ps.length:=by rw [← r2.length];exact F.len _ _ _ _ q
 refine wpAny_call (codeAny_mono (F.run X.A X.stack s2 H2 ⟨us,[]⟩ (us++[]) (vs++[]) Q E (hr.mono hjk) I2.env0 (hb s2 us I2.kIn hl) r2 q) fun r s' hq=>?_)
 cases r with
 | error v=>exact ⟨s2,H2,I2,hq⟩
 | ok fl =>
  cases fl with
  | ret u=>exact I2.after hq
  | next=>exact False.elim hq
  | brk=>exact False.elim hq
  | cont=>exact False.elim hq
end
end L2
end
section
set_option maxRecDepth 100000
namespace L2
open PySem PySem.Spec PyProof.Rows
def Zem (P:Program) (w:World) (K:PySem.W.Frag) (mg:Str→Option Value) (base:Heap) (N:List Str) (qual:Str) (scope:Scope) (f:Addr) (cd:Value) (cl:List (Str×Addr)) (A:Around) (outer:List Env) (s:Shared) (H:Hp) (E:XK):Cx where
 prog:=P
 w:=w
 K:=K
 mg:=mg
 base:=base
 A:=A.deeper (PySem.W.envX qual scope s.heap.objs.size f cd cl)
 N:=N
 s_0:=s
 H_0:=H
 env:=PySem.W.envX qual scope s.heap.objs.size f cd cl
 outer:=outer
 stack:=PySem.W.envX qual scope s.heap.objs.size f cd cl::outer
 ex:=[]
 calm:=true
 fn:=fun _=>false
 pn:=[]
 xe:=fun e s'=>wpAny (model P w) (A.deeper (PySem.W.envX qual scope s.heap.objs.size f cd cl)) (leaving (PySem.W.envX qual scope s.heap.objs.size f cd cl) e) (fun _ s''=>CX0 outer H s E e s'') (fun e' s''=>CX0 outer H s E e' s'') s'
structure ZcG (x fx:Str) (sc:Scope):Prop where
 kind:sc.kind=.function
 co:sc.isCoroutine=false
 gen:sc.isGenerator=false
 par:sc.names.lookup x=some .local
 fre:sc.names.lookup fx=some .free
 nocell:∀ y∈sc.names,y.2≠.cell
 only:∀ y∈sc.names,y.2=.free→y.1=fx
section
variable {P:Program}{w:World}{K:PySem.W.Frag}{mg:Str→Option Value}{base:Heap}{k:Nat}{f c' kc:Addr}{params:Arguments}{body:Expr}{scope:Scope}{pm ctv uk:Value}{name qual x fx:Str}{kv:V}{sp:Sp}
theorem Zjh (S:ZcG x fx scope) (hf:base.get? f=some (PySem.W.kla_obj name qual params body scope [(fx,kc)] pm c' ctv)) (hc:base.CodeRec (.ref c') qual) (hcell:base.IsCell kc (some uk)) (rk:RelV kv uk)
  (len:∀ vs H Q E,sp vs H Q E→vs.length=[x].length)
  (hbody:∀ (A:Around) (outer:List Env) (s:Shared) (H:Hp) (v:V) (Q:VK) (E:XK),Room k (A.deeper (PySem.W.envX qual scope s.heap.objs.size f (.ref c') [(fx,kc)]))→sp [v] H Q E →
   ∃ t,PE (Zem P w K mg base [x,fx] qual scope f (.ref c') [(fx,kc)] A outer s H E) body t∧t [some v,some kv] H Q) :
  FnOk P w K mg base CX0 (k+1) f (PySem.W.kla_fn name qual params body scope [(fx,kc)] pm (.ref c') ctv) [x] sp:=by
 refine ⟨len,fun A outer s H args us vs Q E hr e0 hb r hsp=>?_⟩
 have hl:=len _ _ _ _ hsp
 obtain ⟨v,rfl⟩:∃ v,vs=[v]:=by
  match vs,hl with
  | [v],_=>exact ⟨v,rfl⟩
 obtain ⟨u,rfl,rv⟩:=ZgS r
 have lim:s.heap.NoLimit:=e0.mod.nolimit.keeps fun b o e=>(e0.bs b o e).1
 have ks:∀ b o,base.get? b=some o→s.heap.get? b=some o:=fun b o e=>(e0.bs b o e).1
 refine PySem.W.kla_callFunE hr.depth (ks _ _ hf) rfl S.co S.gen rfl (hc.keeps ks) (hb _ _ _ _ ?_)
 have hloc:∀ y∈[x].zip [u],scope.names.lookup y.1=some .local:=fun y hy=>by
  simp at hy;subst hy;exact S.par
 refine wpAny_newFunctionEnv S.nocell hloc (fun h₁ hns hsb=>?_) S.kind
 have hk:∀ b o,s.heap.get? b=some o→h₁.get? b=some o:=fun b o e=>hsb.extBut b o (Nat.ne_of_lt (Heap.lt_size e)) (Heap.get?_push_of_some _ e)
 refine ⟨lim.keeps hk,PySem.W.kla_codeExpr ?_⟩
 obtain ⟨t,ht,hq⟩:=hbody A outer s H v Q E (hr.deeper _) hsp
 have noA:∀ b:Addr,b ∉ (Zem P w K mg base [x,fx] qual scope f (.ref c') [(fx,kc)] A outer s H E).ex:=fun b z=>absurd (show b∈([]:List Addr) from z) (by simp)
 have hlk:∀ y c,([(fx,kc)]:List (Str×Addr)).lookup y=some c→y=fx∧c=kc:=fun y c h=>by
  have:=PySem.mem_of_lookup h
  simp at this;exact this
 have hkc:=hcell
 obtain ⟨oc,hoc,hoc2⟩:=hkc
 have hcs:=(e0.bs _ _ hoc)
 have I:Inv (Zem P w K mg base [x,fx] qual scope f (.ref c') [(fx,kc)] A outer s H E) [] [some v,some kv] H { s with heap:=h₁,toks:=s.toks+([x].zip [u]).length }:=by
  refine ⟨⟨e0.mod,S.kind,rfl,rfl,Nat.le_refl _,fun y z c h1 h2=>?_,fun y hy=>?_,fun y c h=>Bool.noConfusion (show false=true from h),fun _=>hr.hd,Around.frames_deeper e0.frames,.inr ⟨rfl,rfl⟩,fun b z=>absurd z (noA b),e0.bs,e0.bsz,fun b _ _=>noA b,fun b z=>absurd z (noA b),e0.funs,e0.frf⟩,
   rfl,e0.bare,Un.kept hk,⟨_,hns,fun i y v' h1 h2 h3=>?_⟩,fun y c h=>?_,e0.hok.fresh (Nat.le_refl _),fun y c h=>?_,fun p hp=>absurd (show p∈([]:List (Addr×Obj)) from hp) (by simp),e0.hok.kept hk,rfl⟩
  ·rw [(hlk y c h1).1,(hlk z c h2).1]
  ·have hy:scope.names.lookup y=some .cell∨scope.names.lookup y=some .free:=hy
   rcases hy with hy | hy
   ·exact absurd rfl (S.nocell _ (PySem.mem_of_lookup hy))
   ·refine ⟨kc,?_⟩
    have ey:y=fx:=S.only _ (PySem.mem_of_lookup hy) rfl
    show List.lookup y [(fx,kc)]=some kc
    rw [ey]
    simp
  ·match i,h1,h2 with
   | 0,h1,h2 =>
    have e1:x=y:=by simpa [Zem] using h1
    have e2:v=v':=by simpa using h2
    subst e1;subst e2
    refine ⟨u,rv,.inl ⟨S.par,?_⟩⟩
    simp
   | 1,h1,h2 =>
    have e1:fx=y:=by simpa [Zem] using h1
    have e2:kv=v':=by simpa using h2
    subst e1;subst e2
    refine ⟨uk,rk,.inr ⟨.inr S.fre,kc,?_,?_⟩⟩
    ·show List.lookup fx [(fx,kc)]=some kc
     simp
    ·exact (hcell.keeps ks).keeps hk
   | i+2,h1,h2=>simp at h2
  ·obtain ⟨_,rfl⟩:=hlk y c h
   exact ⟨_,(hcell.keeps ks).keeps hk⟩
  ·obtain ⟨_,rfl⟩:=hlk y c h
   exact hcs.2
 refine wpAny_mono (ht [] _ _ H _ I hq) (fun u' s' hs=>?_) fun e s' hs=>hs
 obtain ⟨v',H',J,rv',q'⟩:=hs
 exact ⟨v',H',J.os,J.bare,J.base,J.hok,rv',q'⟩
end
end L2
end
section
set_option maxRecDepth 100000
namespace L2
open PySem PySem.Spec PyProof.Rows
def ZhG (h:Heap) (H:Hp) (l:List Env):Heap:=PySem.W.hideAll h (trk h H++frs l)
theorem JB {h:Heap}{H:Hp}{l:List Env}{b:Addr}{o:Obj} (e:h.get? b=some o) (n:H b=none) (hl:b ∉ frs l):(ZhG h H l).get? b=some o :=
 PySem.W.hideAll_get _ e fun hm=>by
  rcases List.mem_append.mp hm with hm | hm
  ·have q:(H b).isSome=true:=(List.mem_filter.mp hm).2
   rw [n] at q;simp at q
  ·exact hl hm
theorem Zhb {h:Heap}{H:Hp}{l:List Env}{b:Addr}{o:Obj} (e:(ZhG h H l).get? b=some o):h.get? b=some o∧H b=none:=by
 have e':h.get? b=some o:=PySem.W.of_hideAll _ e
 refine ⟨e',?_⟩
 cases q:H b with
 | none=>rfl
 | some u =>
  have hm:b∈trk h H++frs l:=List.mem_append_left _ (List.mem_filter.mpr ⟨List.mem_range.mpr (Heap.lt_size e'),by rw [q];rfl⟩)
  have:=PySem.W.hideAll_none (h:=h) (trk h H++frs l) hm
  unfold ZhG at e
  rw [this] at e;cases e
theorem Mod.keeps {K:PySem.W.Frag}{mg:Str→Option Value}{b b':Heap} (m:Mod K mg b) (k:∀ a o,b.get? a=some o→b'.get? a=some o):Mod K mg b' :=
 ⟨m.kin.keeps k,m.glob.keeps k,let ⟨mb,h1,h2⟩:=m.blt;⟨mb,h1.keeps k,h2⟩,m.nolimit.keeps k⟩
def ZgY (i j:Nat) (fr PT:Addr) (lp:Pos) (spA:Addr→V→Sp) (E:XK):TE:=fun σ H Q=>∃ vt kv ps,σ[i]?=some (some vt)∧σ[j]?=some (some kv)∧H PT=some (.tbl ps)∧PySem.TriplesOk ps.toList∧PySem.codeAmong lp ps.toList=none ∧
 ∀ f ps',H f=none→spA f kv [vt,.ref fr,.ref f] (upd H PT (.tbl ps')) Q E
section
variable {X:Cx}{i j k jl:Nat}{c PT gf fr:Addr}{g t x fx ql rn:Str}{p pt pos lp rp:Pos}{params:Arguments}{body:Expr}{sc:Scope}{E:XK}{spL:V→Sp}{spA:Addr→V→Sp}{ps2:List Str}
theorem Zff (S:ZcG x fx sc) (hcode:X.env.code=.ref c) (hC:∀ h,X.K.In h→PySem.W.CodeHd h c PT) (hB:X.base.BuiltinsAt X.mg PT)
  (hcell:X.env.kindOf fx=some .cell) (hfn:X.fn fx=true) (hNj:X.N[j]?=some fx) (hNi:X.N[i]?=some t) (hvt:Vis X.env.scope t)
  (hcl:∀ kc,X.env.cells.lookup fx=some kc→closureFor sc X.env=pure [(fx,kc)]) (hdef:defaultsOf params X.env=([],[])) (hql:X.env.qual++"<lambda>"=ql)
  (hrg:Gl X rn) (hrm:X.mg rn=some (.ref fr)) (hgl:Gl X g) (hm:X.mg g=some (.ref gf)) (hk:PySem.W.keepIn X.K (.ref gf)=true) (hr:Room k X.A)
  (hlen:∀ kv vs H Q E,spL kv vs H Q E→vs.length=[x].length)
  (hA:∀ (base':Heap) (f:Addr) (fd:FuncData) (kv:V),Mod X.K X.mg base'→PySem.W.FnAt f base'→(∀ (s:Shared) (us:List Value),us.length=[x].length→BindsTo s fd ⟨us,[]⟩ ([x].zip us))→FnOk X.prog X.w X.K X.mg base' CX0 (jl+1) f fd [x] (spL kv) →
   FnC X.prog X.w X.K X.mg base' CX0 k g ps2 (spA f kv))
  (hbind:∀ (f:Addr) (c' kc:Addr) (pm ctv:Value) (s:Shared) (us:List Value),us.length=[x].length→BindsTo s (PySem.W.kla_fn "<lambda>" ql params body sc [(fx,kc)] pm (.ref c') ctv) ⟨us,[]⟩ ([x].zip us))
  (hL:∀ (base':Heap) (f c' kc:Addr) (kv:V) (A:Around) (outer:List Env) (s:Shared) (H:Hp) (v:V) (Q:VK) (E:XK),Room jl (A.deeper (PySem.W.envX ql sc s.heap.objs.size f (.ref c') [(fx,kc)]))→spL kv [v] H Q E →
   ∃ t,PE (Zem X.prog X.w X.K X.mg base' [x,fx] ql sc f (.ref c') [(fx,kc)] A outer s H E) body t∧t [some v,some kv] H Q)
  (hx:WC CX0 X E) (hgP:mainGlobals≠PT)
  (hdb:(g==("__debug__":Str))=false:=by decide) (hdrn:(rn==("__debug__":Str))=false:=by decide) (hdt:(t==("__debug__":Str))=false:=by decide) (hct:(t==("__classdict__":Str))=false:=by decide)
  (he:starEach [.Name t pt,.Name rn rp,.Lambda params body sc lp] X.env=(false,eval (.Name t pt) X.env)::starEach [.Name rn rp,.Lambda params body sc lp] X.env:=by rfl)
  (he1:starEach [.Name rn rp,.Lambda params body sc lp] X.env=(false,eval (.Name rn rp) X.env)::starEach [.Lambda params body sc lp] X.env:=by rfl)
  (he2:starEach [.Lambda params body sc lp] X.env=(false,eval (.Lambda params body sc lp) X.env)::starEach [] X.env:=by rfl)
  (hpl:(backTo pos (starEach [.Name rn rp,.Lambda params body sc lp] X.env)).any (·.1)=false:=by rfl) :
  PE X (.Call (.Name g p) [.Name t pt,.Name rn rp,.Lambda params body sc lp] [] pos) (ZgY i j fr PT lp spA E):=by
 intro pins s σ H Q I h
 obtain ⟨vt,kv,ps,hi,hj,hPT,hTr,hnf,hq⟩:=h
 refine wpAny_Call_Name_kw (UK I hgl hm ?_ hdb)
 refine PySem.W.callWith_K (h₀:=X.base) I.ok.mod.kin hk ?_ he hpl
 rw [he]
 show wpAny _ _ (spliced ((false,eval (.Name t pt) X.env)::backTo pos (starEach [.Name rn rp,.Lambda params body sc lp] X.env))) _ _ s
 refine Calls.spliced_cons (thn (ZeK (pos:=pt) hNi hvt hdt hct pins s σ H (fun v H'=>v=vt∧H'=H) I ⟨vt,hi,rfl,rfl⟩) fun ut s1 ⟨v1,H1,I1,rt,ev,eH⟩=>?_)
 subst ev;subst eH
 rw [he1]
 show wpAny _ _ (spliced ((false,eval (.Name rn rp) X.env)::backTo pos (starEach [.Lambda params body sc lp] X.env))) _ _ s1
 refine Calls.spliced_cons (UK I1 hrg hrm ?_ hdrn)
 rw [he2]
 show wpAny _ _ (spliced ((false,eval (.Lambda params body sc lp) X.env)::backTo pos (starEach [] X.env))) _ _ s1
 obtain ⟨m,hns,hl⟩:=I1.loc
 obtain ⟨uk,rk,hlk⟩:=hl j fx kv hNj hj (.inr (.inl hcell))
 obtain ⟨kc,hkc,hcl1⟩:∃ kc,X.env.cells.lookup fx=some kc∧s1.heap.IsCell kc (some uk):=by
  rcases hlk with ⟨z,_⟩ | ⟨_,c1,h1,h2⟩
  ·rw [hcell] at z;cases z
  ·exact ⟨c1,h1,h2⟩
 have hPs:s1.heap.get? PT=some (PySem.W.tabObj ps):=I1.hok PT _ hPT
 have hbk:∀ b o,X.base.get? b=some o→s1.heap.get? b=some o:=fun b o e=>(I1.bs b o e).1
 have hBs:s1.heap.BuiltinsAt X.mg PT:=by
  obtain ⟨bm,ob,a1,a2,a3,a4,a5,r⟩:=hB
  exact ⟨bm,ob,a1,a2,a3,a4,hbk _ _ a5,r⟩
 have hgs:s1.heap.Ns mainGlobals X.mg:=I1.ok.mod.glob.keeps hbk
 refine Calls.spliced_cons (PySem.W.kla_eval hdef ?_)
 rw [hql]
 refine PySem.W.kla_makeFunction (hcl kc hkc) I1.ok.glob hgs hcode (hC _ (I1.ok.mod.kin.keeps hbk)) hPs hTr hnf hgP hBs fun c' ctv h' tk hx' hge hlt hrec htb=>?_
 refine Calls.spliced_nil ?_
 -- the state behind the lambda
 have hsz:s1.heap.objs.size≤h'.objs.size:=Nat.le_of_lt (Nat.lt_of_le_of_lt hge hlt)
 have keep:∀ b o,b≠PT→s1.heap.get? b=some o→(h'.push (PySem.W.kla_obj "<lambda>" ql params body sc [(fx,kc)] ((X.mg "__name__").getD .none) c' ctv)).get? b=some o:=fun b o nb e=>Heap.get?_push_of_some _ (hx' b o nb e)
 have hPn:(h'.push (PySem.W.kla_obj "<lambda>" ql params body sc [(fx,kc)] ((X.mg "__name__").getD .none) c' ctv)).get? PT=some (PySem.W.tabObj (ps++#[rawInt lp.line,rawInt lp.col,.ref c'])):=Heap.get?_push_of_some _ htb
 have hfo:(h'.push (PySem.W.kla_obj "<lambda>" ql params body sc [(fx,kc)] ((X.mg "__name__").getD .none) c' ctv)).get? h'.objs.size=some (PySem.W.kla_obj "<lambda>" ql params body sc [(fx,kc)] ((X.mg "__name__").getD .none) c' ctv):=Heap.get?_push_size _ rfl
 have hrec':(h'.push (PySem.W.kla_obj "<lambda>" ql params body sc [(fx,kc)] ((X.mg "__name__").getD .none) c' ctv)).CodeRec (.ref c') ql:=hrec.push _
 generalize hG:h'.push (PySem.W.kla_obj "<lambda>" ql params body sc [(fx,kc)] ((X.mg "__name__").getD .none) c' ctv)=G at *
 have ntb:∀ b u,H1 b=some u→b≠PT→upd H1 PT (.tbl (ps++#[rawInt lp.line,rawInt lp.col,.ref c'])) b=some u:=fun b u e n=>by rw [Zi n];exact e
 have un:Un (frs X.stack) [] H1 (upd H1 PT (.tbl (ps++#[rawInt lp.line,rawInt lp.col,.ref c']))) s1.heap G:=by
  have npt:∀ b,H1 b=none→b≠PT:=fun b n z=>by rw [z,hPT] at n;cases n
  refine ⟨fun b o e n _ _=>keep b o (npt b n) e,fun b o e n _ _=>⟨o.slots,keep b o (npt b n) e⟩,fun b o e n _=>by rw [Zi (npt b n)];exact n,fun b o e _=>?_,fun b xs e=>ntb b _ e (fun z=>by rw [z,hPT] at e;cases e),fun b o u e=>ntb b _ e (fun z=>by rw [z,hPT] at e;cases e),fun b qs e=>?_⟩
  ·by_cases z:b=PT
   ·subst z;exact ⟨_,hPn⟩
   ·exact ⟨o,keep b o z e⟩
  ·by_cases z:b=PT
   ·subst z
    rw [hPT] at e
    cases e
    exact ⟨_,Ze⟩
   ·exact ⟨#[],by rw [Zi z,e];simp⟩
 have hok2:HOk X.prog X.w (upd H1 PT (.tbl (ps++#[rawInt lp.line,rawInt lp.col,.ref c']))) G:=fun b u e=>by
  by_cases z:b=PT
  ·subst z
   rw [Ze] at e
   cases e
   exact hPn
  ·rw [Zi z] at e
   refine (I1.hok b u e).stay (fun d o hd r=>keep d o ?_ r) (fun d r=>ntb d _ r fun z=>by rw [z,hPT] at r;cases r) fun d xs r=>ntb d _ r fun z=>by rw [z,hPT] at r;cases r
   rcases hd with rfl | hd
   ·exact z
   ·intro z;rw [z,hPT] at hd;cases hd
 have I2:Inv X pins σ (upd H1 PT (.tbl (ps++#[rawInt lp.line,rawInt lp.col,.ref c']))) { s1 with heap:=G,toks:=tk }:=I1.call' rfl un hok2 I1.bare fun b z=>absurd z (by simp)
 refine ⟨I2.kIn,?_⟩
 have hlN:∀ b,b∈frs X.stack→b<s1.heap.objs.size∧b≠kc:=fun b hb=>by
  obtain ⟨_,o,ho,_⟩:=I1.stack.mem hb
  refine ⟨Heap.lt_size ho,fun z=>?_⟩
  rcases List.mem_cons.mp (I1.stkSub b hb) with e | hb'
  ·obtain ⟨on,es,ep,e1,e2,_⟩:=hns
   obtain ⟨ocl,e3,e4⟩:=hcl1
   rw [← z,e] at e3
   rw [e3] at e1
   cases e1
   rw [e4] at e2;cases e2
  ·obtain ⟨_,o2,ho2,_⟩:=I1.ok.funs.mem hb'
   have h1:=Heap.lt_size ho2
   have h2:=I1.ok.cab fx kc hfn hkc
   rw [z] at h1
   exact absurd h1 (Nat.not_lt.mpr h2)
 have fresh:∀ b,s1.heap.objs.size≤b→upd H1 PT (.tbl (ps++#[rawInt lp.line,rawInt lp.col,.ref c'])) b=none∧b ∉ frs X.stack:=fun b hb=>by
  refine ⟨?_,fun z=>absurd (hlN b z).1 (Nat.not_lt.mpr hb)⟩
  have hbP:b≠PT:=fun z=>by rw [z] at hb;exact absurd (Heap.lt_size hPs) (Nat.not_lt.mpr hb)
  rw [Zi hbP]
  exact I1.hok.fresh hb
 obtain ⟨B',hB'⟩:∃ B',B'=ZhG G (upd H1 PT (.tbl (ps++#[rawInt lp.line,rawInt lp.col,.ref c']))) X.stack:=⟨_,rfl⟩
 have ksB:∀ b o,X.base.get? b=some o→B'.get? b=some o:=fun b o e=>by
  rw [hB']
  have q:=I2.bs b o e
  refine JB q.1 q.2 fun z=>?_
  have:=(I1.stack.mem z).1
  rw [e] at this;cases this
 have hM:Mod X.K X.mg B':=I1.ok.mod.keeps ksB
 have hfB:B'.get? h'.objs.size=some (PySem.W.kla_obj "<lambda>" ql params body sc [(fx,kc)] ((X.mg "__name__").getD .none) c' ctv):=by
  rw [hB']
  have q:=fresh h'.objs.size hsz
  exact JB hfo q.1 q.2
 have hcB:B'.CodeRec (.ref c') ql:=by
  obtain ⟨c2,oc,vs,tq,e1,e2,e3,e4⟩:=hrec'
  cases e1
  have q:=fresh c' hge
  exact ⟨c',oc,vs,tq,rfl,by rw [hB'];exact JB e2 q.1 q.2,e3,e4⟩
 have hkB:B'.IsCell kc (some uk):=by
  obtain ⟨oc,e1,e2⟩:=hcl1
  have hkP:kc≠PT:=fun z=>by
   rw [z,hPs] at e1
   cases e1;cases e2
  refine ⟨oc,?_,e2⟩
  rw [hB']
  refine JB (keep _ _ hkP e1) ?_ (fun z=>(hlN kc z).2 rfl)
  rw [Zi hkP]
  exact I1.freeC fx kc hkc
 have FL:=Zjh (w:=X.w) (P:=X.prog) (K:=X.K) (mg:=X.mg) (base:=B') (k:=jl) (kv:=kv) (sp:=spL kv) S hfB hcB hkB rk (hlen kv) (fun A outer s H v Q E hr hsp=>hL B' _ c' kc kv A outer s H v Q E hr hsp)
 obtain ⟨gf',gd,hm',_,hbg,FG⟩:=(hA B' h'.objs.size _ kv hM ⟨_,_,_,_,hfB⟩ (hbind h'.objs.size c' kc _ ctv) FL).ex
 rw [hm] at hm'
 cases hm'
 have hsp:=hq h'.objs.size (ps++#[rawInt lp.line,rawInt lp.col,.ref c']) (I1.hok.fresh hsz)
 have r2:Vals [v1,.ref fr,.ref h'.objs.size] [ut,.ref fr,.ref h'.objs.size]:=.cons rt (.cons rfl (.cons rfl .nil))
 have hl2:([ut,Value.ref fr,Value.ref h'.objs.size]:List Value).length=ps2.length:=by rw [← r2.length];exact FG.len _ _ _ _ hsp
 have e0:Env0 X.prog X.w X.K X.mg B' X.A X.stack { s1 with heap:=G,toks:=tk } (upd H1 PT (.tbl (ps++#[rawInt lp.line,rawInt lp.col,.ref c']))) :=
  ⟨I2.ok.frames,hM,fun b o e=>by rw [hB'] at e;exact Zhb e,by rw [hB'];exact Nat.le_of_eq (PySem.W.hideAll_size _ _),by
   rw [hB']
   exact PySem.W.funFrames_hide I2.stack fun env he a ha=>List.mem_append_right _ (List.mem_filterMap.mpr ⟨env,he,ha⟩),I2.stkFree,I2.hok,I2.bare⟩
 have hb2:=hbg { s1 with heap:=G,toks:=tk } [ut,.ref fr,.ref h'.objs.size] I2.kIn (by rw [List.append_nil];exact hl2)
 rw [List.append_nil] at hb2
 refine wpAny_call (codeAny_mono (FG.run X.A X.stack _ _ ⟨[ut,.ref fr,.ref h'.objs.size],[]⟩ [ut,.ref fr,.ref h'.objs.size] [v1,.ref fr,.ref h'.objs.size] Q E hr e0 hb2 r2 hsp) fun r s' hq=>?_)
 cases r with
 | error e=>exact hx pins σ _ _ e s' I2 hq
 | ok fl =>
  cases fl with
  | ret u=>exact I2.after hq
  | next=>exact False.elim hq
  | brk=>exact False.elim hq
  | cont=>exact False.elim hq
theorem Zg6 {CX:CXT}{j:Nat}{ps:List Str}{sp:Sp}{e:Expr}{es:List Expr}{ta:TA} (i:Nat) {f:Addr}{fd:FuncData} (hat:PySem.W.FnAt f X.base) (F:FnOk X.prog X.w X.K X.mg X.base CX j f fd ps sp)
  (hb:∀ (s:Shared) (us:List Value),us.length=ps.length→BindsTo s fd ⟨us,[]⟩ (ps.zip us)) (hr:Room k X.A) (hx:WC CX X E) (ha:PA X (e::es) ta) (hjk:j≤k:=by decide)
  (hN:X.N[i]?=some x:=by rfl) (hv:Vis X.env.scope x:=by first | exact Or.inl rfl | exact Or.inr (Or.inl rfl) | exact Or.inr (Or.inr rfl)) (hd:(x==("__debug__":Str))=false:=by decide) (hcd:(x==("__classdict__":Str))=false:=by decide)
  (he:starEach (e::es) X.env=(false,eval e X.env)::starEach es X.env:=by rfl) (hpl:(backTo pos (starEach es X.env)).any (·.1)=false:=by rfl) :
  PE X (.Call (.Name x p) (e::es) [] pos) (ZhM i f (Zbi sp [] E ta)):=by
 intro pins s σ H Q I h
 refine wpAny_Call_Name_kw (thn (ZeK (pos:=p) hN hv hd hcd pins s σ H (fun v H'=>v=V.ref f∧Zbi sp [] E ta σ H' Q) I ⟨_,h.1,rfl,h.2⟩) fun u s1 ⟨v,H1,I1,r,ev,q⟩=>?_)
 subst ev
 have r:u=.ref f:=by cases r;rfl
 subst r
 have at':∀ {s':Shared}{H':Hp},Inv X pins σ H' s'→PySem.W.FnAt f s'.heap:=fun J=>by
  obtain ⟨oc,od,fd',sl,e⟩:=hat
  exact ⟨oc,od,fd',sl,(J.bs _ _ e).1⟩
 refine PySem.W.callWith_F (at' I1) (thn (ha pos pins s1 σ H1 _ I1 q) fun us s2 ⟨vs,H2,I2,r,q⟩=>⟨at' I2,?_⟩) he hpl
 rw [List.nil_append]
 have q:sp (vs++[]) H2 Q E:=q
 rw [List.append_nil] at q
 have hl:us.length=ps.length:=by rw [← r.length];exact F.len _ _ _ _ q
 refine wpAny_call (codeAny_mono (F.run X.A X.stack s2 H2 ⟨us,[]⟩ us vs Q E (hr.mono hjk) I2.env0 (hb s2 us hl) r q) fun r s' hq=>?_)
 cases r with
 | error e=>exact hx pins σ H2 s2 e s' I2 hq
 | ok fl =>
  cases fl with
  | ret u=>exact I2.after hq
  | next=>exact False.elim hq
  | brk=>exact False.elim hq
  | cont=>exact False.elim hq
end
end L2
end
section
set_option maxRecDepth 100000
set_option maxHeartbeats 2000000
namespace L2
open PySem PySem.Spec PyProof.Rows
open PySem.W (WData Codec OpenSpec Well WellAll ReadsW ReadsAllW)
theorem SqL.up {K:PySem.W.Frag}{H H':Hp}{a:Addr}{xs:List V} (k:∀ b u,H b=some u→H' b=some u) (h:SqL K H a xs):SqL K H' a xs:=by
 rcases h with (h | ⟨o,h⟩) | h
 ·exact .inl (.inl (k _ _ h))
 ·exact .inl (.inr ⟨o,k _ _ h⟩)
 ·exact .inr h
theorem SqT.up {K:PySem.W.Frag}{H H':Hp}{a:Addr}{xs:List V} (k:∀ b u,H b=some u→H' b=some u) (h:SqT K H a xs):SqT K H' a xs:=by
 rcases h with (h | ⟨o,h⟩) | h
 ·exact .inl (.inl (k _ _ h))
 ·exact .inl (.inr ⟨o,k _ _ h⟩)
 ·exact .inr h
mutual
theorem Dw.up {K:PySem.W.Frag}{H H':Hp} (k:∀ b u,H b=some u→H' b=some u):∀ {v:V}{d:WData},Dw K H v d→Dw K H' v d
 | _,_,.non=>.non
 | _,_,.bl b=>.bl b
 | _,_,.int i=>.int i
 | _,_,.str x=>.str x
 | _,_,.byt b=>.byt b
 | _,_,.lst h1 h2=>.lst (h1.up k) (Vi.up k h2)
 | _,_,.tup h1 h2=>.tup (h1.up k) (Vi.up k h2)
theorem Vi.up {K:PySem.W.Frag}{H H':Hp} (k:∀ b u,H b=some u→H' b=some u):∀ {vs:List V}{ds:List WData},Vi K H vs ds→Vi K H' vs ds
 | _,_,.nil=>.nil
 | _,_,.cons h1 h2=>.cons (Dw.up k h1) (Vi.up k h2)
end
theorem Zfb {P:Program}{w:World}{K:PySem.W.Frag}{mg mb:Str→Option Value}{k:Nat}{fa c PT:Addr}{fd:FuncData}{ps:List Str}{sp:Sp}{s₁:Shared}{vals:List Value}{ds:List WData}{R:PySem.W.WRecords}{cl:Str→Option Addr}{d0:WData}
  (KX:K.In s₁.heap) (hns:s₁.heap.Ns mainGlobals mg) (hb:s₁.heap.Ns builtinsNs mb) (hbb:∀ x:Str,x≠"__name__"→mb x=bootBuiltins x) (hlim:s₁.heap.NoLimit) (hg:s₁.gens=#[])
  (hwl:WellAll w.params s₁.heap vals ds) (hpl:plWs ds=true) (hwt:∀ d∈ds,d.weight≤1048576) (hr:Room k callerA)
  (hC:PySem.W.CodeHd s₁.heap c PT) (hP:s₁.heap.get? PT=some (PySem.W.tabObj #[])) (hnt:PySem.W.noTabs K=true) (hbm:s₁.heap.BuiltinsAt mg PT)
  (F:∀ base:Heap,K.In base→base.Ns mainGlobals mg→base.BuiltinsAt mg PT→FnOk P w K mg base CX0 k fa fd ps sp) (hbind:∀ (s:Shared) (us:List Value),us.length=ps.length→BindsTo s fd ⟨us,[]⟩ (ps.zip us)) (hlen:ds.length=ps.length)
  (hsp:∀ (H:Hp) (xs:List V),H PT=some (.tbl #[])→Vi K H xs ds→sp xs H (fun v H'=>Dw K H' v d0) fun _ _ _=>False) :
  codeAny (model P w) callerA (.call (.ref fa) ⟨vals,[]⟩) (fun r s'=>∃ u as,r=.ok (.ret u)∧ReadsW R cl s'.heap u d0 as∧OldK s₁.heap s'.heap∧s'.os=s₁.os∧AllBare s'.gens) s₁:=by
 obtain ⟨A,ho,ar⟩:=Zav ds vals hwl hpl hwt
 have hO:ZjN (argH K s₁.heap A):=ZgM ar
 have hok0:HOk P w (argH K s₁.heap A) s₁.heap:=ZiR ar
 have hS0:=ZeV KX ar ds vals hwl hpl ho
 have hV:=V2 ho
 have hK:∀ b u,argH K s₁.heap A b=some u→K.lookup b=none:=fun b u q=>(ZcD ar q).1
 have noD:∀ {b:Addr}{o:Obj},s₁.heap.get? b=some o→(∀ vs n,o.data≠.seq vs n)→argH K s₁.heap A b=none:=fun {b o} e d=>by
  cases q:argH K s₁.heap A b with
  | none=>rfl
  | some u =>
   obtain ⟨_,vs,_,_,⟨e2,_⟩ | ⟨e2,_⟩⟩:=ZcD ar q
   ·rw [e2] at e
    cases e
    exact absurd rfl (d _ _)
   ·rw [e2] at e
    cases e
    exact absurd rfl (d _ _)
 have hPn:argH K s₁.heap A PT=none:=noD hP (fun vs n z=>by cases z)
 generalize argH K s₁.heap A=H0 at hO hok0 hS0 hK noD hPn
 have up:∀ b u,H0 b=some u→upd H0 PT (.tbl #[]) b=some u:=fun b u e=>by rw [Zi (Zg e hPn)];exact e
 have hS:Vi K (upd H0 PT (.tbl #[])) (vals.map toV) ds:=Vi.up up hS0
 have hok:HOk P w (upd H0 PT (.tbl #[])) s₁.heap:=fun b u e=>by
  by_cases z:b=PT
  ·subst z
   rw [Ze] at e
   cases e
   exact hP
  ·rw [Zi z] at e
   exact (hok0 b u e).stay (fun _ _ _ r=>r) (fun d r=>up _ _ r) fun d xs r=>up _ _ r
 have nKP:K.lookup PT=none:=by
  cases q:K.lookup PT with
  | none=>rfl
  | some o =>
   have e2:=KX _ _ q
   rw [hP] at e2
   cases e2
   have h2:=List.all_eq_true.mp hnt (PT,PySem.W.tabObj #[]) (PySem.W.mem_of_lookupK q)
   exact absurd (show false=true from h2) Bool.false_ne_true
 have nT:∀ b,H0 b=none→b≠PT→upd H0 PT (.tbl #[]) b=none:=fun b n z=>by rw [Zi z];exact n
 have base_of:∀ {b:Addr}{o:Obj},s₁.heap.get? b=some o→upd H0 PT (.tbl #[]) b=none→(hidT s₁.heap (upd H0 PT (.tbl #[]))).get? b=some o:=fun e n=>Zhq e n
 have neP:∀ {b:Addr}{o:Obj},s₁.heap.get? b=some o→(∀ vs,o.data≠.fields vs)→b≠PT:=fun {b o} e d z=>by
  rw [z,hP] at e
  cases e
  exact absurd rfl (d _)
 have nsK:∀ {b:Addr}{m:Str→Option Value},s₁.heap.Ns b m→(hidT s₁.heap (upd H0 PT (.tbl #[]))).Ns b m:=fun {b m} ⟨o,es,ep,e,d,r⟩=>⟨o,es,ep,base_of e (nT _ (noD e fun vs n z=>by rw [d] at z;cases z) (neP e fun vs z=>by rw [d] at z;cases z)),d,r⟩
 have nK:∀ b o,K.lookup b=some o→upd H0 PT (.tbl #[]) b=none:=fun b o e=>by
  refine nT b ?_ (fun z=>by rw [z,nKP] at e;cases e)
  cases q:H0 b with
  | none=>rfl
  | some u =>
   rw [hK b u q] at e
   cases e
 have hKb:K.In (hidT s₁.heap (upd H0 PT (.tbl #[]))):=fun b o e=>base_of (KX b o e) (nK b o e)
 have hM:Mod K mg (hidT s₁.heap (upd H0 PT (.tbl #[]))):=⟨hKb,nsK hns,⟨mb,nsK hb,hbb⟩,let ⟨mc,h1,h2⟩:=hlim;⟨mc,nsK h1,h2⟩⟩
 have hBm:(hidT s₁.heap (upd H0 PT (.tbl #[]))).BuiltinsAt mg PT:=by
  obtain ⟨bm,ob,a1,a2,a3,a4,a5,a6,a7,a8⟩:=hbm
  exact ⟨bm,ob,a1,a2,a3,a4,base_of a5 (nT _ (noD a5 fun vs n z=>by rw [a8] at z;cases z) a4),a6,a7,a8⟩
 have e0:Env0 P w K mg (hidT s₁.heap (upd H0 PT (.tbl #[]))) callerA [] s₁ (upd H0 PT (.tbl #[])):=⟨rfl,hM,fun b o e=>Zio e,Nat.le_of_eq (Zgp _ _),trivial,fun b hb=>absurd (show b∈([]:List Addr) from hb) (by simp),hok,.of_eq hg⟩
 have hl:vals.length=ps.length:=by rw [WV hwl];exact hlen
 refine codeAny_mono ((F _ hKb (nsK hns) hBm).run callerA [] s₁ (upd H0 PT (.tbl #[])) ⟨vals,[]⟩ vals (vals.map toV) _ _ hr e0 (hbind s₁ vals hl) hV (hsp _ _ Ze hS)) fun r s' x=>?_
 cases r with
 | error e=>exact False.elim x
 | ok fl =>
  cases fl with
  | next=>exact False.elim x
  | brk=>exact False.elim x
  | cont=>exact False.elim x
  | ret u =>
   obtain ⟨v,H',os,bare,un,hok',r',q⟩:=x
   have kept:∀ b o,b≠PT→s₁.heap.get? b=some o→s'.heap.get? b=some o:=fun b o nb e=>by
    cases q2:H0 b with
    | none=>exact un.keep b o e (nT b q2 nb) (by intro z;exact absurd (show b∈([]:List Addr) from z) (by simp)) (by simp)
    | some u2 =>
     rcases hO b with z | ⟨ob,u3,z⟩
     ·rw [q2] at z
      cases z
     ·have z1:=up _ _ z
      have z2:=un.frzs b ob _ z1
      obtain ⟨e1,_⟩:=hok b _ z1
      obtain ⟨e2,_⟩:=hok' b _ z2
      rw [e] at e1
      cases e1
      exact e2
   obtain ⟨more,hmore⟩:=un.tbls PT #[] Ze
   have hP':s'.heap.get? PT=some (PySem.W.tabObj (#[]++more)):=hok' PT _ hmore
   have KX':K.In s'.heap:=fun b o e=>kept b o (fun z=>by rw [z,nKP] at e;cases e) (KX b o e)
   obtain ⟨as,hrd⟩:=Dw.reads (R:=R) (cl:=cl) hok' KX' d0 v u q r'
   refine ⟨u,as,rfl,hrd,⟨fun b o e=>?_,fun b o e=>?_⟩,os,bare⟩
   ·by_cases z:b=PT
    ·subst z
     rw [hP] at e
     cases e
     exact .inr (.inl ⟨(hC.tab hP).isCodeTable,rfl,#[],more,rfl,hP'⟩)
    ·exact .inl (kept b o z e)
   ·by_cases z:b=PT
    ·subst z;exact ⟨_,hP'⟩
    ·exact ⟨o,kept b o z e⟩
theorem walk_specT {r:OpenSpec}{k:Nat}{q:Program}{loose:List Str}{XP:(Str→Option Value)→Heap→Prop}{YP:World→Heap→Prop}{d:DefRec}{K:Params→PySem.W.Frag}{ps:List Str}{sp:PySem.W.Frag→Addr→Sp}
  (hwell:r.wellSaid=true) (hdf:d.params.defaults=[]) (hlen:r.args.length=ps.length) (hr:Room k callerA)
  (hY:∀ (w:World) (h:Heap),YP w h→(K w.params).In h) {d':DefRec} (hrec:(recsOf q).find? (fun e=>e.name==d.name)=some d')
  (hnt:∀ w:World,PySem.W.noTabs (K w.params)=true) (htab:∀ w:World,(PySem.W.tabIn (K w.params) d.name).isSome=true)
  (F:∀ (w:World) (mg:Str→Option Value) (fa c PT:Addr) (h:Heap),YP w h→(K w.params).In h→h.Ns mainGlobals mg→mg d.name=some (.ref fa)→PySem.W.tabIn (K w.params) d.name=some (c,PT)→(∀ h',(K w.params).In h'→PySem.W.CodeHd h' c PT)→mainGlobals≠PT →
   ∃ fd:FuncData,(∀ (s:Shared) (us:List Value),us.length=ps.length→BindsTo s fd ⟨us,[]⟩ (ps.zip us)) ∧
    ∀ base:Heap,(K w.params).In base→base.Ns mainGlobals mg→base.BuiltinsAt mg PT→FnOk r.prog w (K w.params) mg base CX0 k fa fd ps (sp (K w.params) PT))
  (hsp:∀ (K:PySem.W.Frag) (PT:Addr) (H:Hp) (xs:List V) (a:Codec.denoteAll r.args),H PT=some (.tbl #[])→Codec.withinAll r.args a=true→Codec.app r.args r.asked a=true→Vi K H xs (Codec.encAll r.args a) →
   sp K PT xs H (fun v H'=>Dw K H' v (r.ret.enc (Codec.app r.args r.f a))) fun _ _ _=>False) :
  PySem.W.WalkOS q loose XP YP r d [] (fun f vs=>PySem.call f vs):=by
 intro w s_0 s₁ mg mb G Y fa o pm cd doc dV kV ho hd hcd hD hmg hg args vals as hpre hlay hrd hwl hlo
 obtain ⟨a,e1,e2⟩:=PySem.W.os_pre_some hpre
 obtain ⟨e3,hwi⟩:=Codec.encAll_of_decAll r.args args a e1
 subst e3
 have KX:=hY w _ Y
 obtain ⟨⟨c,PT⟩,htb⟩:=Option.isSome_iff_exists.mp (htab w)
 obtain ⟨hC,hP⟩:=PySem.W.tab_of G.T KX hrec htb
 have hCa:∀ h',(K w.params).In h'→PySem.W.CodeHd h' c PT:=fun h' X'=>by
  have ht:=htb
  unfold PySem.W.tabIn at ht
  split at ht
  ·split at ht
   ·split at ht
    ·split at ht
     ·rename_i hfo
      split at ht
      ·cases ht
       obtain ⟨o,vs,file,tf,flags,tg,inF,text,tt,e1,r⟩:=hC
       have e2:=KX _ _ hfo
       rw [e1] at e2
       cases e2
       exact ⟨_,vs,file,tf,flags,tg,inF,text,tt,X' _ _ hfo,r⟩
      ·cases ht
     ·cases ht
    ·cases ht
   ·cases ht
  ·cases ht
 obtain ⟨bm,ob,b1,b2,b3,b4,b5,b6⟩:=G.T.bmain
 have hgP:mainGlobals≠PT:=fun z=>by
  obtain ⟨o,es,ep,e,hd,_⟩:=G.T.g
  rw [z,hP] at e;cases e;cases hd
 have hbP:bm≠PT:=fun z=>by
  rw [z,hP] at b3;cases b3;cases b4
 have hbG:bm≠mainGlobals:=fun z=>by
  obtain ⟨o,es,ep,e,hd,_⟩:=G.T.g
  rw [z,e] at b3;cases b3;rw [hd] at b6;cases b6
 obtain ⟨fd,hb,hF⟩:=F w mg fa c PT _ Y KX G.T.g hmg htb hCa hgP
 refine PySem.W.enter_call (codeAny_mono (Zfb (R:=[]) (cl:=classAt s_0.heap) (d0:=r.ret.enc (Codec.app r.args r.f a)) KX G.T.g G.T.b G.T.builtins G.T.nolimit hg hwl (Zc3 _ _) (Zbs hlay) hr hC hP (hnt w) ⟨bm,ob,b1,b2,hbG,hbP,b3,b4,b5,b6⟩ hF hb (by rw [ZbW];exact hlen)
  (fun H xs hO hS=>hsp _ PT H xs a hO hwi e2 hS)) fun r' s' hq=>?_)
 obtain ⟨u,as',rfl,h1,h2,h3,h4⟩:=hq
 exact ⟨.inl ⟨u,_,as',rfl,fun _=>rfl,h1,(OpenSpec.post_iff hwell hwi _ _).mpr rfl,fun z=>Bool.noConfusion (show false=true from z)⟩,h2,h3,h4⟩
end L2
end
section
namespace Vp
open Vh VhPage
def pk (bs:List UInt8) (p:Nat):Int:=match bs[p]? with | some c=>(c.toNat:Int) | none=>256
theorem Zif (bs:List UInt8) (p:Nat):0≤pk bs p∧pk bs p≤256:=by
 unfold pk
 split
 ·rename_i c _;have:=c.toNat_lt;lia
 ·lia
theorem ZA (bs:List UInt8) (p:Nat):(bs.drop p).head?=bs[p]?:=by rw [List.head?_drop]
theorem ZX (bs:List UInt8) (p:Nat):(bs.drop p).drop 1=bs.drop (p+1):=by rw [List.drop_drop]
theorem Zcj {bs:List UInt8}{p:Nat}{c:UInt8} (h:bs[p]?=some c):pk bs p=c.toNat:=by unfold pk;rw [h]
theorem VH {bs:List UInt8}{p:Nat}{c:UInt8}:pk bs p=c.toNat↔bs[p]?=some c:=by
 unfold pk
 cases h:bs[p]? with
 | none =>
  have:=c.toNat_lt
  constructor
  ·intro z;simp at z;lia
  ·intro z;cases z
 | some d =>
  constructor
  ·intro z
   have:d.toNat=c.toNat:=by
    have z':(d.toNat:Int)=c.toNat:=z
    lia
   rw [UInt8.toNat_inj.mp this]
  ·intro z;cases z;rfl
theorem Zck {bs:List UInt8}{p:Nat}:pk bs p=256↔bs[p]?=none:=by
 unfold pk
 cases h:bs[p]? with
 | none=>simp
 | some d =>
  have:=d.toNat_lt
  simp
  lia
theorem Xv {bs:List UInt8}{p:Nat}{c:UInt8} (h:pk bs p=c.toNat):byte_ c p (bs.drop p)=.ok ((),p+1,bs.drop (p+1)):=by
 unfold byte_ byNext
 rw [ZA,VH.mp h]
 dsimp only
 rw [if_pos rfl]
 unfold behind gives
 rw [ZX]
theorem Vf {bs:List UInt8}{p:Nat}{c:UInt8} (h:¬ pk bs p=c.toNat):byte_ c p (bs.drop p)=.error p:=by
 unfold byte_ byNext
 rw [ZA]
 dsimp only
 rw [if_neg (fun z=>h (VH.mpr z))]
 rfl
theorem ZO {α β:Type}{r:Rd α}{f:α→Rd β}{p p':Nat}{b b':Bytes}{x:α} (h:r p b=.ok (x,p',b')):andThen r f p b=f x p' b':=by unfold andThen;rw [h]
theorem Z7 {α β:Type}{r:Rd α}{f:α→Rd β}{p i:Nat}{b:Bytes} (h:r p b=.error i):andThen r f p b=.error i:=by unfold andThen;rw [h]
theorem Zfr {lo hi v k:Nat} (hv:v≠0) (h1:v * 10 ^ k≤hi) (h2:lo<(v+1) * 10 ^ k) (h3:hi<10 ^ 11):leadsTo lo hi v=true:=by
 unfold leadsTo
 rw [if_neg hv,List.any_eq_true]
 have hk:k<12:=by
  apply Decidable.byContradiction
  intro hk
  have h4:10 ^ 11≤10 ^ k:=Nat.pow_le_pow_right (by lia) (by lia)
  have h5:1 * 10 ^ k≤v * 10 ^ k:=Nat.mul_le_mul_right _ (by lia)
  lia
 exact ⟨k,List.mem_range.mpr hk,by simp [h1,h2]⟩
theorem Zeg {lo hi v k:Nat} (hv:v≠0) (h:∀ j,j<k→¬ (v * 10 ^ j≤hi∧lo<(v+1) * 10 ^ j)) (h1:hi<v * 10 ^ k):leadsTo lo hi v=false:=by
 unfold leadsTo
 rw [if_neg hv,List.any_eq_false]
 intro j _ q
 have q':v * 10 ^ j≤hi∧lo<(v+1) * 10 ^ j:=by simpa using q
 by_cases hj:j<k
 ·exact h j hj q'
 ·have h4:10 ^ k≤10 ^ j:=Nat.pow_le_pow_right (by lia) (by lia)
  have h5:=Nat.mul_le_mul_left v h4
  lia
theorem Zfq {lo hi:Nat}:leadsTo lo hi 0=(lo==0):=by unfold leadsTo;rw [if_pos rfl]
def dig (bs:List UInt8) (lo hi v p:Nat):Option Nat:=if 48≤pk bs p∧pk bs p≤57∧leadsTo lo hi (v * 10+(pk bs p-48).toNat)=true then some (v * 10+(pk bs p-48).toNat) else none
theorem Za6 {c:UInt8}:isDigit c=true↔48≤c.toNat∧c.toNat≤57:=by
 unfold isDigit
 rw [Bool.and_eq_true,decide_eq_true_eq,decide_eq_true_eq,UInt8.le_iff_toNat_le,UInt8.le_iff_toNat_le]
 exact Iff.rfl
theorem UN (lo hi f:Nat) (v:Option Nat) (bs:List UInt8) (p:Nat) (hv:v≠some 0):digits lo hi (f+1) v p (bs.drop p)=match dig bs lo hi (v.getD 0) p with
  | some n=>digits lo hi f (some n) (p+1) (bs.drop (p+1))
  | none=>match v with
   | some n=>if lo≤n∧n≤hi then .ok (n,p,bs.drop p) else .error p
   | none=>.error p:=by
 rw [Vh.digits.eq_def]
 dsimp only
 unfold byNext
 rw [ZA]
 have key:((bs[p]?).bind fun (c:UInt8)=>if isDigit c=false∨v=some 0 then none else if leadsTo lo hi (10 * v.getD 0+(c.toNat-48))=true then some (10 * v.getD 0+(c.toNat-48)) else none)=dig bs lo hi (v.getD 0) p:=by
  unfold dig pk
  cases h:bs[p]? with
  | none =>
   simp only [Option.bind_none]
   rw [if_neg (by lia)]
  | some c =>
   simp only [Option.bind_some]
   by_cases hd:isDigit c=true
   ·have hd':=Za6.mp hd
    rw [if_neg (by simp [hd,hv])]
    have e1:((c.toNat:Int)-48).toNat=c.toNat-48:=by lia
    rw [e1,Nat.mul_comm 10]
    by_cases hl:leadsTo lo hi (v.getD 0 * 10+(c.toNat-48))=true
    ·rw [if_pos hl,if_pos ⟨by lia,by lia,hl⟩]
    ·rw [if_neg hl,if_neg (fun z=>hl z.2.2)]
   ·rw [if_pos (by simp [hd]),if_neg (fun z=>hd (Za6.mpr ⟨by lia,by lia⟩))]
 dsimp only
 rw [key]
 cases dig bs lo hi (v.getD 0) p with
 | some n=>dsimp only;unfold behind;rw [ZX]
 | none =>
  dsimp only
  cases v with
  | none=>rfl
  | some n =>
   dsimp only
   split <;> rfl
theorem Zel (lo hi f:Nat) (bs:List UInt8) (p:Nat):digits lo hi (f+1) (some 0) p (bs.drop p)=if lo=0 then .ok (0,p,bs.drop p) else .error p:=by
 rw [Vh.digits.eq_def]
 dsimp only
 unfold byNext
 rw [ZA]
 have key:((bs[p]?).bind fun (c:UInt8)=>if isDigit c=false∨some 0=some 0 then none else if leadsTo lo hi (10 * (some 0).getD 0+(c.toNat-48))=true then some (10 * (some 0).getD 0+(c.toNat-48)) else none)=none:=by
  cases bs[p]? with
  | none=>rfl
  | some c=>simp
 dsimp only
 rw [key]
 dsimp only
 by_cases h:lo=0
 ·rw [if_pos ⟨by lia,by lia⟩,if_pos h];rfl
 ·rw [if_neg (by lia),if_neg h];rfl
theorem Zhm {lo hi v:Nat} (h:leadsTo lo hi v=true):v≤hi:=by
 unfold leadsTo at h
 split at h
 ·lia
 ·rw [List.any_eq_true] at h
  obtain ⟨k,_,hk⟩:=h
  rw [Bool.and_eq_true,decide_eq_true_eq] at hk
  have:v * 1≤v * 10 ^ k:=Nat.mul_le_mul_left _ (Nat.one_le_pow _ _ (by lia))
  lia
structure Zko (bs:List UInt8) (lo hi p0 v p f:Nat):Prop where
 eq:num lo hi p0 (bs.drop p0)=digits lo hi f (some v) p (bs.drop p)
 le:v≤hi
 big:10 ^ 20≤v * 10 ^ f * 10
theorem Zdj {bs:List UInt8}{lo hi p v:Nat} (h:dig bs lo hi 0 p=some v):num lo hi p (bs.drop p)=digits lo hi 19 (some v) (p+1) (bs.drop (p+1)):=by
 unfold num
 rw [UN lo hi 19 none bs p (by simp)]
 show (match dig bs lo hi 0 p with | some n=>_ | none=>_)=_
 rw [h]
theorem Zhd {bs:List UInt8}{lo hi p:Nat} (h:dig bs lo hi 0 p=none):num lo hi p (bs.drop p)=.error p:=by
 unfold num
 rw [UN lo hi 19 none bs p (by simp)]
 show (match dig bs lo hi 0 p with | some n=>_ | none=>_)=_
 rw [h]
theorem Zgz {bs:List UInt8}{lo hi v p n:Nat} (h:dig bs lo hi v p=some n):n≤hi∧v * 10≤n∧leadsTo lo hi n=true:=by
 unfold dig at h
 split at h
 ·rename_i z
  cases h
  exact ⟨Zhm z.2.2,by lia,z.2.2⟩
 ·cases h
def Wq:List Int:=[124,47,40,41,91,93,60,62,123,125,61,43,126,94,35,34]
def isL (n:Int):Bool:=!(decide (n<33) || (decide (127≤n) && decide (n≤159)) || Wq.contains n) && decide (n % 65536<65534)
def ZcW (n:Int):Int:=if n<128 then 1 else if 194≤n∧n≤223 then 2 else if 224≤n∧n≤239 then 3 else if 240≤n∧n≤244 then 4 else 0
def blo (n:Int):Int:=if n=224 then 160 else if n=240 then 144 else 128
def bhi (n:Int):Int:=if n=237 then 159 else if n=244 then 143 else 191
theorem VQ {v:Nat} (h:160≤v):isL (v:Int)=decide (v % 65536<65534):=by
 unfold isL
 have h1:Wq.contains (v:Int)=false:=by
  rw [List.contains_eq_any_beq,List.any_eq_false]
  intro x hx
  have:x≤127:=by
   revert x
   decide
  simp;lia
 rw [h1,decide_eq_false (show ¬ (v:Int)<33 by lia),decide_eq_false (show ¬ (v:Int)≤159 by lia)]
 simp
 constructor <;> intro z <;> lia
theorem ZiB {v:Nat} (h1:128≤v) (h2:v≤159):isL (v:Int)=false:=by
 unfold isL
 rw [decide_eq_true (show 127≤(v:Int) by lia),decide_eq_true (show (v:Int)≤159 by lia)]
 simp
theorem Zgn {c:UInt8} (h:c.toNat<128):isL (c.toNat:Int)=isLetter c.toNat:=by
 have key:∀ n,n<128→isL ((n:Nat):Int)=isLetter n:=by decide +kernel
 exact key _ h
theorem JG (bs:List UInt8) (lo hi p:Nat) (h1:128≤lo) (h:hi≤255):tail_ lo hi p (bs.drop p)=if (lo:Int)≤pk bs p∧pk bs p≤hi then .ok ((pk bs p).toNat-128,p+1,bs.drop (p+1)) else .error p:=by
 unfold tail_ byNext
 rw [ZA]
 unfold pk
 cases e:bs[p]? with
 | none =>
  dsimp only
  rw [if_neg (by lia)]
  rfl
 | some c =>
  dsimp only
  by_cases q:lo≤c.toNat∧c.toNat≤hi
  ·rw [if_pos q,if_pos (by lia)]
   unfold behind gives
   rw [ZX]
   rfl
  ·rw [if_neg q,if_neg (by lia)]
   rfl
def Jl (bs:List UInt8):Nat→Nat→Int→Int→Nat→Except Nat (Nat×Nat)
 | 0,v,_,_,p=>.ok (v,p)
 | n+1,v,lo,hi,p=>if lo≤pk bs p∧pk bs p≤hi then (if n=0∧isL ((v * 64+((pk bs p).toNat-128):Nat):Int)=false then .error p else Jl bs n (v * 64+((pk bs p).toNat-128)) 128 191 (p+1)) else .error p
def outR (bs:List UInt8):Except Nat (Nat×Nat)→Except Nat (Nat×Nat×Bytes)
 | .ok (x,p)=>.ok (x,p,bs.drop p)
 | .error i=>.error i
def ZdL (n:Nat):Nat:=if n<0xE0 then 0xC0 else if n<0xF0 then 0xE0 else 0xF0
def Wp (n:Nat):Nat:=if n<0xE0 then 1 else if n<0xF0 then 2 else 3
theorem ZfT {c:UInt8} (h1:194≤c.toNat) (h2:c.toNat≤244):startsLetter c=true:=by
 unfold startsLetter
 rw [if_neg (by lia)]
 simp;lia
theorem Zee {bs:List UInt8}{p:Nat}{c:UInt8} (hc:bs[p]?=some c) (h1:194≤c.toNat) (h2:c.toNat≤244) :
  letter_ p (bs.drop p)=outR bs (Jl bs (Wp c.toNat) (c.toNat-ZdL c.toNat) (blo c.toNat) (bhi c.toNat) (p+1)):=by
 unfold letter_ byNext
 rw [ZA,hc]
 dsimp only
 rw [if_neg (by rw [ZfT h1 h2];decide),if_neg (show ¬ c.toNat<128 by lia)]
 unfold Wp ZdL blo bhi
 have b1:=Zif bs (p+1)
 have b2:=Zif bs (p+2)
 have b3:=Zif bs (p+3)
 generalize e1:pk bs (p+1)=x1 at b1
 generalize e2:pk bs (p+2)=x2 at b2
 generalize e3:pk bs (p+3)=x3 at b3
 generalize c.toNat=n at h1 h2
 by_cases hE:n<224
 ·simp only [if_pos hE]
  unfold behind
  rw [ZX]
  unfold andThen
  rw [JG _ _ _ _ (by split <;> lia) (by lia),e1]
  simp only [Jl,e1]
  rw [if_neg (show ¬ (n:Int)=224 by lia),if_neg (show ¬ (n:Int)=240 by lia),if_neg (show ¬ (n:Int)=237 by lia),if_neg (show ¬ (n:Int)=244 by lia)]
  by_cases q:128≤x1∧x1≤191
  ·rw [if_pos q]
   by_cases h3:n=194
   ·subst h3
    by_cases h4:160≤x1
    ·rw [if_pos (by simp;lia)]
     have:isL (((194-192) * 64+(x1.toNat-128):Nat):Int)=true:=by rw [VQ (by lia)];simp;lia
     rw [if_neg (by rw [this];simp)]
     rfl
    ·rw [if_neg (by simp;lia)]
     have:isL (((194-192) * 64+(x1.toNat-128):Nat):Int)=false:=ZiB (by lia) (by lia)
     rw [if_pos ⟨by simp,this⟩]
     rfl
   ·rw [if_neg h3,if_pos (by simp;lia)]
    have:isL (((n-192) * 64+(x1.toNat-128):Nat):Int)=true:=by rw [VQ (by lia)];simp;lia
    rw [if_neg (by rw [this];simp)]
    rfl
  ·rw [if_neg q,if_neg (by split <;> lia)]
   rfl
 ·simp only [if_neg hE]
  by_cases hF:n<240
  ·simp only [if_pos hF]
   unfold behind
   rw [ZX]
   unfold andThen
   rw [JG _ _ _ _ (by split <;> lia) (by split <;> lia),e1]
   simp only [Jl,e1]
   by_cases q:(if (n:Int)=224 then (160:Int) else if (n:Int)=240 then 144 else 128)≤x1∧x1≤(if (n:Int)=237 then (159:Int) else if (n:Int)=244 then 143 else 191)
   ·rw [if_pos q,if_pos (by split at q <;> split at q <;> (try split at q) <;> (try split at q) <;> (try split) <;> (try split) <;> lia)]
    have x1lo:128≤x1:=by split at q <;> (try split at q) <;> lia
    have x1hi:x1≤191:=by split at q <;> (try split at q) <;> (try split at q) <;> (try split at q) <;> lia
    have x1E:n=224→160≤x1:=fun z=>by rw [if_pos (by lia)] at q;lia
    dsimp only
    rw [JG _ _ _ _ (by lia) (by split <;> lia),e2]
    rw [if_neg (show ¬ (1=0∧_) by simp)]
    by_cases q2:128≤x2∧x2≤191
    ·rw [if_pos q2]
     have big:160≤((n-224) * 64+(x1.toNat-128)) * 64+(x2.toNat-128):=by
      by_cases z:n=224
      ·have:=x1E z;lia
      ·lia
     by_cases h5:n=239∧x1.toNat-128=63
     ·rw [if_pos h5]
      by_cases h6:x2≤189
      ·rw [if_pos (by simp;lia)]
       have:isL (((((n-224) * 64+(x1.toNat-128)) * 64+(x2.toNat-128):Nat)):Int)=true:=by rw [VQ big];simp;lia
       rw [if_neg (by rw [this];simp)]
       simp only [Jl,outR,gives]
       rw [show (n-224) * 4096+(x1.toNat-128) * 64+(x2.toNat-128)=((n-224) * 64+(x1.toNat-128)) * 64+(x2.toNat-128) by lia]
      ·rw [if_neg (by simp;lia)]
       have:isL (((((n-224) * 64+(x1.toNat-128)) * 64+(x2.toNat-128):Nat)):Int)=false:=by rw [VQ big];simp;lia
       rw [if_pos ⟨by simp,this⟩]
       rfl
     ·rw [if_neg h5,if_pos (by simp;lia)]
      have:isL (((((n-224) * 64+(x1.toNat-128)) * 64+(x2.toNat-128):Nat)):Int)=true:=by rw [VQ big];simp;lia
      rw [if_neg (by rw [this];simp)]
      simp only [Jl,outR,gives]
      rw [show (n-224) * 4096+(x1.toNat-128) * 64+(x2.toNat-128)=((n-224) * 64+(x1.toNat-128)) * 64+(x2.toNat-128) by lia]
    ·rw [if_neg q2,if_neg (by split <;> lia)]
     rfl
   ·rw [if_neg q,if_neg (by split at q <;> (try split at q) <;> (try split at q) <;> (try split at q) <;> (try split) <;> (try split) <;> lia)]
    rfl
  ·simp only [if_neg hF]
   unfold behind
   rw [ZX]
   unfold andThen
   rw [JG _ _ _ _ (by split <;> lia) (by split <;> lia),e1]
   simp only [Jl,e1]
   by_cases q:(if (n:Int)=224 then (160:Int) else if (n:Int)=240 then 144 else 128)≤x1∧x1≤(if (n:Int)=237 then (159:Int) else if (n:Int)=244 then 143 else 191)
   ·rw [if_pos q,if_pos (by split at q <;> split at q <;> (try split at q) <;> (try split at q) <;> (try split) <;> (try split) <;> lia)]
    have x1lo:128≤x1:=by split at q <;> (try split at q) <;> lia
    have x1hi:x1≤191:=by split at q <;> (try split at q) <;> (try split at q) <;> (try split at q) <;> lia
    have x1E:n=240→144≤x1:=fun z=>by rw [if_neg (by lia),if_pos (by lia)] at q;lia
    dsimp only
    rw [JG _ _ _ _ (by lia) (by lia),e2]
    rw [if_neg (show ¬ (2=0∧_) by simp)]
    by_cases q2:128≤x2∧x2≤191
    ·rw [if_pos q2,if_pos (by simp;lia)]
     dsimp only
     rw [JG _ _ _ _ (by lia) (by split <;> lia),e3]
     rw [if_neg (show ¬ (1=0∧_) by simp)]
     by_cases q3:128≤x3∧x3≤191
     ·rw [if_pos q3]
      have big:160≤(((n-240) * 64+(x1.toNat-128)) * 64+(x2.toNat-128)) * 64+(x3.toNat-128):=by
       by_cases z:n=240
       ·have:=x1E z;lia
       ·lia
      by_cases h5:(x1.toNat-128) % 16=15∧x2.toNat-128=63
      ·rw [if_pos h5]
       by_cases h6:x3≤189
       ·rw [if_pos (by simp;lia)]
        have:isL ((((((n-240) * 64+(x1.toNat-128)) * 64+(x2.toNat-128)) * 64+(x3.toNat-128):Nat)):Int)=true:=by rw [VQ big];simp;lia
        rw [if_neg (by rw [this];simp)]
        simp only [Jl,outR,gives]
        rw [show (n-240) * 262144+(x1.toNat-128) * 4096+(x2.toNat-128) * 64+(x3.toNat-128)=(((n-240) * 64+(x1.toNat-128)) * 64+(x2.toNat-128)) * 64+(x3.toNat-128) by lia]
       ·rw [if_neg (by simp;lia)]
        have:isL ((((((n-240) * 64+(x1.toNat-128)) * 64+(x2.toNat-128)) * 64+(x3.toNat-128):Nat)):Int)=false:=by rw [VQ big];simp;lia
        rw [if_pos ⟨by simp,this⟩]
        rfl
      ·rw [if_neg h5,if_pos (by simp;lia)]
       have:isL ((((((n-240) * 64+(x1.toNat-128)) * 64+(x2.toNat-128)) * 64+(x3.toNat-128):Nat)):Int)=true:=by rw [VQ big];simp;lia
       rw [if_neg (by rw [this];simp)]
       simp only [Jl,outR,gives]
       rw [show (n-240) * 262144+(x1.toNat-128) * 4096+(x2.toNat-128) * 64+(x3.toNat-128)=(((n-240) * 64+(x1.toNat-128)) * 64+(x2.toNat-128)) * 64+(x3.toNat-128) by lia]
     ·rw [if_neg q3,if_neg (by split <;> lia)]
      rfl
    ·rw [if_neg q2,if_neg (by simp;lia)]
     rfl
   ·rw [if_neg q,if_neg (by split at q <;> (try split at q) <;> (try split at q) <;> (try split at q) <;> (try split) <;> (try split) <;> lia)]
    rfl
end Vp
end
section
namespace Vp
open Vh VhPage
def Zao (mk:List UInt8):Rd Nat:=byNext fun (c:Option UInt8)=>match c with
 | none=>stray
 | some x=>if mk.contains x=true then behind (gives x.toNat) else letter_
def cS (bs:List UInt8) (mk:List UInt8) (p:Nat):Bool:=match bs[p]? with
 | none=>false
 | some x=>mk.contains x || startsLetter x
def preO {α:Type} (xs:List α):Except Nat (List α×Nat×Bytes)→Except Nat (List α×Nat×Bytes)
 | .ok (r,p,b)=>.ok (xs++r,p,b)
 | .error i=>.error i
theorem W8 {α:Type} (xs ys:List α) (r:Except Nat (List α×Nat×Bytes)):preO xs (preO ys r)=preO (xs++ys) r:=by
 cases r with
 | error i=>rfl
 | ok x=>obtain ⟨r,p,b⟩:=x;simp [preO]
theorem Jc {α:Type} (r:Except Nat (List α×Nat×Bytes)):preO [] r=r:=by
 cases r with
 | error i=>rfl
 | ok x=>obtain ⟨r,p,b⟩:=x;simp [preO]
theorem Vd {bs mk:List UInt8}{p:Nat} (h:cS bs mk p=false):Zao mk p (bs.drop p)=.error p:=by
 unfold Zao byNext
 rw [ZA]
 unfold cS at h
 cases e:bs[p]? with
 | none=>rfl
 | some x =>
  rw [e] at h
  dsimp only at h ⊢
  rw [Bool.or_eq_false_iff] at h
  rw [if_neg (by rw [h.1];decide)]
  unfold letter_ byNext
  rw [ZA,e]
  dsimp only
  rw [if_pos h.2]
  rfl
theorem ZcA {bs mk:List UInt8}{p k:Nat} (h:cS bs mk p=false):chars_ mk k p (bs.drop p)=.ok ([],p,bs.drop p):=by
 cases k with
 | zero=>rfl
 | succ k =>
  rw [chars_]
  unfold byNext
  rw [ZA]
  unfold cS at h
  cases e:bs[p]? with
  | none=>rfl
  | some x =>
   rw [e] at h
   dsimp only at h ⊢
   rw [Bool.or_eq_false_iff] at h
   rw [if_neg (by rw [h.1];decide),if_neg (by rw [h.2];decide)]
   rfl
theorem ZdA {bs mk:List UInt8}{p k i:Nat} (h:cS bs mk p=true) (h1:Zao mk p (bs.drop p)=.error i):chars_ mk (k+1) p (bs.drop p)=.error i:=by
 rw [chars_]
 unfold Zao byNext at h1
 unfold byNext
 rw [ZA] at h1 ⊢
 unfold cS at h
 cases e:bs[p]? with
 | none=>rw [e] at h;cases h
 | some x =>
  rw [e] at h h1
  dsimp only at h h1 ⊢
  by_cases hm:mk.contains x=true
  ·rw [if_pos hm] at h1
   cases h1
  ·rw [if_neg hm] at h1 ⊢
   have hs:startsLetter x=true:=by
    rcases Bool.or_eq_true_iff.mp h with z | z
    ·exact absurd z hm
    ·exact z
   rw [if_pos hs]
   exact Z7 h1
theorem ZeZ {bs mk:List UInt8}{p k n p':Nat} (h:cS bs mk p=true) (h1:Zao mk p (bs.drop p)=.ok (n,p',bs.drop p')):chars_ mk (k+1) p (bs.drop p)=preO [n] (chars_ mk k p' (bs.drop p')):=by
 rw [chars_]
 unfold Zao byNext at h1
 unfold byNext
 rw [ZA] at h1 ⊢
 unfold cS at h
 have fin:∀ (r:Rd Letters),andThen r (fun (l:Letters)=>gives (n::l)) p' (bs.drop p')=preO [n] (r p' (bs.drop p')):=fun r=>by
  unfold andThen
  cases r p' (bs.drop p') with
  | error i=>rfl
  | ok x=>rfl
 cases e:bs[p]? with
 | none=>rw [e] at h;cases h
 | some x =>
  rw [e] at h h1
  dsimp only at h h1 ⊢
  by_cases hm:mk.contains x=true
  ·rw [if_pos hm] at h1 ⊢
   unfold behind gives at h1
   rw [ZX] at h1
   injection h1 with h1
   injection h1 with h2 h3
   injection h3 with h3 h4
   subst h2 h3
   unfold behind
   rw [ZX]
   exact fin _
  ·rw [if_neg hm] at h1 ⊢
   have hs:startsLetter x=true:=by
    rcases Bool.or_eq_true_iff.mp h with z | z
    ·exact absurd z hm
    ·exact z
   rw [if_pos hs,ZO h1]
   exact fin _
theorem UZ {bs mk:List UInt8}{p k p':Nat}{x:Letters} (h:chars_ mk k p (bs.drop p)=.ok (x,p',bs.drop p')) (hx:x≠[]):someChars_ mk k p (bs.drop p)=.ok (x,p',bs.drop p'):=by
 unfold someChars_
 rw [ZO h]
 rw [if_neg (by cases x <;> simp at hx ⊢)]
 rfl
theorem Zey {bs mk:List UInt8}{p k i:Nat} (h:chars_ mk k p (bs.drop p)=.error i):someChars_ mk k p (bs.drop p)=.error i:=by
 unfold someChars_
 exact Z7 h
theorem ZgZ {bs mk:List UInt8}{p k:Nat} (h:chars_ mk k p (bs.drop p)=.ok ([],p,bs.drop p)):someChars_ mk k p (bs.drop p)=.error p:=by
 unfold someChars_
 rw [ZO h]
 rfl
theorem Jn:∀ (k:Nat),letters_ k=chars_ [] k
 | 0=>rfl
 | k+1=>by
  rw [letters_,chars_,Jn k]
  rfl
theorem WJ (k:Nat):someLetters_ k=someChars_ [] k:=by unfold someLetters_ someChars_;rw [Jn]
def XY (one:Rd Letters) (m:Nat):Rd (List Letters):=byNext fun (c:Option UInt8)=>if c=some 10 then behind (gives []) else if m=0 then stray else andThen (byte_ 32) fun (_:Unit)=>row_ one m
theorem ZbH {one:Rd Letters}{m p p':Nat}{b b':Bytes}{x:Letters} (h:one p b=.ok (x,p',b')):row_ one (m+1) p b=preO [x] (XY one m p' b'):=by
 rw [row_,ZO h]
 unfold XY byNext
 dsimp only
 split
 ·rfl
 ·split
  ·rfl
  ·unfold andThen
   cases byte_ 32 p' b' with
   | error i=>rfl
   | ok y =>
    obtain ⟨u,p2,b2⟩:=y
    dsimp only
    cases row_ one m p2 b2 with
    | error i=>rfl
    | ok z=>rfl
theorem Zci {one:Rd Letters}{m p i:Nat}{b:Bytes} (h:one p b=.error i):row_ one (m+1) p b=.error i:=by
 rw [row_,Z7 h]
theorem ZhL {one:Rd Letters}{m p:Nat}{bs:List UInt8} (h:pk bs p=10):XY one m p (bs.drop p)=.ok ([],p+1,bs.drop (p+1)):=by
 unfold XY byNext
 rw [ZA,VH (c:=10) |>.mp h]
 dsimp only
 rw [if_pos rfl]
 unfold behind gives
 rw [ZX]
theorem ZhK {one:Rd Letters}{m p:Nat}{bs:List UInt8} (h:pk bs p=32) (hm:m≠0):XY one m p (bs.drop p)=row_ one m (p+1) (bs.drop (p+1)):=by
 unfold XY byNext
 have e:=(VH (c:=32)).mp h
 rw [ZA,e]
 dsimp only
 rw [if_neg (by decide),if_neg hm]
 exact ZO (Xv h)
theorem ZaD {one:Rd Letters}{m p:Nat}{bs:List UInt8} (h1:pk bs p≠10) (h2:m=0∨pk bs p≠32):XY one m p (bs.drop p)=.error p:=by
 unfold XY byNext
 rw [ZA]
 dsimp only
 rw [if_neg (fun z=>h1 ((VH (c:=10)).mpr z))]
 by_cases hm:m=0
 ·rw [if_pos hm];rfl
 ·rw [if_neg hm]
  exact Z7 (Vf (fun z=>(h2.resolve_left hm) z))
theorem ZjI {bs mk:List UInt8}{p:Nat} (hm:∀ c∈mk,33≤c.toNat) (h:pk bs p=32∨pk bs p=10):cS bs mk p=false:=by
 unfold cS
 cases e:bs[p]? with
 | none=>rfl
 | some x =>
  dsimp only
  have e2:=Zcj e
  have hx:x.toNat=32∨x.toNat=10:=by lia
  have h1:mk.contains x=false:=by
   rw [List.contains_eq_any_beq,List.any_eq_false]
   intro y hy z
   have:=hm y hy
   rw [eq_of_beq z] at hx
   lia
  have h2:startsLetter x=false:=by
   unfold startsLetter
   rw [if_pos (by lia)]
   rcases hx with z | z <;> rw [z] <;> decide
  rw [h1,h2];rfl
end Vp
end
section
namespace Vp
open Vh VhPage
theorem XJ {β:Type}{bs:List UInt8}{p:Nat}{c:UInt8}{g:Unit→Rd β} (h:48≤pk bs p∧pk bs p≤57) (hc:c.toNat<48:=by decide):andThen (byte_ c) g p (bs.drop p)=.error p:=Z7 (Vf (by lia))
def ZjO (bs:List UInt8) (lo hi p p':Nat):Prop:=num lo hi p (bs.drop p)=.error p'∨∃ x,num lo hi p (bs.drop p)=.ok (x,p',bs.drop p')∧48≤pk bs p'∧pk bs p'≤57
theorem UG {β:Type}{bs:List UInt8}{lo hi p p':Nat}{f:Nat→Rd β} (h:ZjO bs lo hi p p') (hf:∀ x,(48≤pk bs p'∧pk bs p'≤57)→f x p' (bs.drop p')=.error p'):andThen (num lo hi) f p (bs.drop p)=.error p':=by
 rcases h with h | ⟨x,h,hd⟩
 ·exact Z7 h
 ·rw [ZO h];exact hf x hd
theorem ZaC {β:Type} (lo hi:Nat) (f:Nat→Rd β):andThen (then_ lo hi) f=andThen (byte_ 32) (fun _=>andThen (num lo hi) f):=by
 funext p b
 unfold then_ andThen
 cases byte_ 32 p b with
 | error i=>rfl
 | ok x=>rfl
def hd:List (Nat×Nat)→List Nat→Rd (List Nat)
 | [],xs=>andThen (byte_ 10) fun (_:Unit)=>gives xs
 | b::r,[]=>andThen (num b.1 b.2) fun x=>hd r [x]
 | b::r,y::ys=>andThen (byte_ 32) fun (_:Unit)=>andThen (num b.1 b.2) fun x=>hd r ((y::ys)++[x])
def hdr (bds:List (Nat×Nat)):Rd (List Nat):=andThen (byte_ 94) fun (_:Unit)=>hd bds []
theorem hd_s (b:Nat×Nat) (r:List (Nat×Nat)):∀ (xs:List Nat),xs≠[]→hd (b::r) xs=andThen (byte_ 32) fun (_:Unit)=>andThen (num b.1 b.2) fun x=>hd r (xs++[x])
 | [],h=>absurd rfl h
 | _::_,_=>rfl
theorem Zhr {bs:List UInt8}{p:Nat} (h:48≤pk bs p∧pk bs p≤57):∀ (bds:List (Nat×Nat)) (xs:List Nat),xs≠[]→hd bds xs p (bs.drop p)=.error p
 | [],_,_=>by rw [hd];exact XJ h
 | b::r,xs,hx=>by rw [hd_s b r xs hx];exact XJ h
def mapR {α β:Type} (f:α→β) (r:Rd α):Rd β:=fun p b=>match r p b with
 | .error i=>.error i
 | .ok x=>.ok (f x.1,x.2.1,x.2.2)
theorem Zhk {α β γ:Type} (f:β→γ) (r:Rd α) (g:α→Rd β):mapR f (andThen r g)=andThen r fun x=>mapR f (g x):=by
 funext p b
 unfold mapR andThen
 cases r p b with
 | error i=>rfl
 | ok x=>rfl
theorem Zgc {α β:Type} (f:α→β) (x:α):mapR f (gives x)=gives (f x):=rfl
theorem Zje {α β:Type}{f:α→β}{r:Rd α}{x:α}{p p':Nat}{b b':Bytes} (h:r p b=.ok (x,p',b')):mapR f r p b=.ok (f x,p',b'):=by unfold mapR;rw [h]
theorem Zjf {α β:Type}{f:α→β}{r:Rd α}{p i:Nat}{b:Bytes} (h:r p b=.error i):mapR f r p b=.error i:=by unfold mapR;rw [h]
def mkS:List Nat→Settings
 | [a,b,c,d,e,f]=>⟨a,b,c,d,e,f⟩
 | _=>⟨0,0,0,0,0,0⟩
def bdS:List (Nat×Nat):=[(20,240),(6,240),(1,16),(1,100),(0,1),(0,10000)]
theorem J2:settings_=mapR mkS (hdr bdS):=by
 unfold settings_ hdr bdS
 simp only [hd,Zhk,Zgc,ZaC,List.cons_append,List.nil_append,mkS]
def wRow (k lo:Nat):Rd (List (Nat×Nat×Nat)):=andThen (num lo LARGEST) fun (a:Nat)=>andThen (byte_ 32) fun (_:Unit)=>andThen (num a LARGEST) fun (b:Nat)=>andThen (byte_ 32) fun (_:Unit)=>andThen (num 0 2) fun (n:Nat)=>andThen (byte_ 10) fun (_:Unit) =>
 andThen (widths_ k (b+1)) fun (r:List (Nat×Nat×Nat))=>gives ((a,b,n)::r)
theorem ZfD {bs:List UInt8}{p k lo:Nat} (h:pk bs p=40) (hlo:lo≤LARGEST):widths_ (k+1) lo p (bs.drop p)=wRow k lo (p+1) (bs.drop (p+1)):=by
 rw [widths_]
 unfold byNext
 rw [ZA,(VH (c:=40)).mp h]
 dsimp only
 rw [if_pos ⟨rfl,hlo⟩]
 unfold behind wRow
 rw [ZX]
 simp only [ZaC]
theorem ZdQ {bs:List UInt8}{p k lo:Nat} (h:k=0∨pk bs p≠40∨LARGEST<lo):widths_ k lo p (bs.drop p)=.ok ([],p,bs.drop p):=by
 cases k with
 | zero=>rfl
 | succ k =>
  rw [widths_]
  unfold byNext
  rw [ZA]
  dsimp only
  rw [if_neg]
  ·rfl
  ·rintro ⟨h1,h2⟩
   rcases h with h | h | h
   ·cases h
   ·exact h ((VH (c:=40)).mpr h1)
   ·lia
theorem Jw {α:Type} (x:α) (r:Rd (List α)) (p:Nat) (b:Bytes):andThen r (fun (l:List α)=>gives (x::l)) p b=preO [x] (r p b):=by
 unfold andThen
 cases r p b with
 | error i=>rfl
 | ok y=>rfl
end Vp
end
section
namespace Vp
open Vh VhPage
theorem Zg7 {bs:List UInt8}{p k n:Nat} (h:pk bs p=62) (hn:1≤n):paras_ (k+1) n p (bs.drop p)=andThen (row_ (someChars_ [] 64) n) (fun (q:List Letters)=>andThen (paras_ k (n-q.length)) fun (r:List (List Letters))=>gives (q::r)) (p+1) (bs.drop (p+1)):=by
 rw [paras_]
 unfold byNext
 rw [ZA,(VH (c:=62)).mp h]
 dsimp only
 rw [if_pos ⟨rfl,hn⟩]
 unfold behind
 rw [ZX,WJ]
theorem Zfh {bs:List UInt8}{p k n:Nat} (h:k=0∨pk bs p≠62∨n=0):paras_ k n p (bs.drop p)=.ok ([],p,bs.drop p):=by
 cases k with
 | zero=>rfl
 | succ k =>
  rw [paras_]
  unfold byNext
  rw [ZA]
  dsimp only
  rw [if_neg]
  ·rfl
  ·rintro ⟨h1,h2⟩
   rcases h with h | h | h
   ·cases h
   ·exact h ((VH (c:=62)).mpr h1)
   ·lia
def UY:Nat→List (List Letters)→List (Nat×Nat)
 | _,[]=>[]
 | a,p::r=>(a,a+p.length)::UY (a+p.length) r
theorem ZbD (q:List Letters):∀ (a:Nat) (xs:List (List Letters)),UY a (xs++[q])=UY a xs++[(a+xs.flatten.length,a+xs.flatten.length+q.length)]
 | a,[]=>by simp [UY]
 | a,p::r=>by
  show (a,a+p.length)::UY (a+p.length) (r++[q])=_
  rw [ZbD q (a+p.length) r]
  simp [UY,Nat.add_assoc]
theorem UX:∀ (a:Nat) (xs:List (List Letters)),(UY a xs).length=xs.length
 | _,[]=>rfl
 | a,p::r=>by simp [UY,UX (a+p.length) r]
def sRow (n k i0:Nat):Rd (List (Nat×List Letters)):=andThen (num i0 (n-1)) fun (i:Nat)=>andThen (byte_ 32) fun (_:Unit)=>andThen (row_ (someChars_ [94] 16) 4) fun (l:List Letters)=>andThen (signs_ n k i) fun (r:List (Nat×List Letters))=>gives ((i,l)::r)
theorem Zg0 {bs:List UInt8}{p k n i0:Nat} (h:pk bs p=123) (hn:1≤n):signs_ n (k+1) i0 p (bs.drop p)=sRow n k i0 (p+1) (bs.drop (p+1)):=by
 rw [signs_]
 unfold byNext
 rw [ZA,(VH (c:=123)).mp h]
 dsimp only
 rw [if_pos ⟨rfl,hn⟩]
 unfold behind sRow
 rw [ZX]
theorem Zfc {bs:List UInt8}{p k n i0:Nat} (h:k=0∨pk bs p≠123∨n=0):signs_ n k i0 p (bs.drop p)=.ok ([],p,bs.drop p):=by
 cases k with
 | zero=>rfl
 | succ k =>
  rw [signs_]
  unfold byNext
  rw [ZA]
  dsimp only
  rw [if_neg]
  ·rfl
  ·rintro ⟨h1,h2⟩
   rcases h with h | h | h
   ·cases h
   ·exact h ((VH (c:=123)).mpr h1)
   ·lia
def eRow (n k f0 most:Nat):Rd (List Entry):=andThen (num f0 n) fun (f:Nat)=>andThen (byte_ 32) fun (_:Unit)=>andThen (num 0 (n-f)) fun (m:Nat)=>andThen (tokens_ (min 1024 most)) fun (t:List Letters)=>andThen (entries_ n k f (most-t.length)) fun (r:List Entry)=>gives (⟨f,m,t⟩::r)
theorem Zfv {bs:List UInt8}{p k n f0 most:Nat} (h:pk bs p=91) (hn:1≤n):entries_ n (k+1) f0 most p (bs.drop p)=eRow n k f0 most (p+1) (bs.drop (p+1)):=by
 rw [entries_]
 unfold byNext
 rw [ZA,(VH (c:=91)).mp h]
 dsimp only
 rw [if_pos ⟨rfl,hn⟩]
 unfold behind eRow
 rw [ZX]
 simp only [ZaC]
theorem Zdx {bs:List UInt8}{p k n f0 most:Nat} (h:k=0∨pk bs p≠91∨n=0):entries_ n k f0 most p (bs.drop p)=.ok ([],p,bs.drop p):=by
 cases k with
 | zero=>rfl
 | succ k =>
  rw [entries_]
  unfold byNext
  rw [ZA]
  dsimp only
  rw [if_neg]
  ·rfl
  ·rintro ⟨h1,h2⟩
   rcases h with h | h | h
   ·cases h
   ·exact h ((VH (c:=91)).mpr h1)
   ·lia
theorem ZdV (k:Nat):tokens_ k=XY token_ k:=rfl
theorem ZgT {bs:List UInt8}{p:Nat} (h1:pk bs p≠91) (h2:pk bs p≠35):token_ p (bs.drop p)=someChars_ MARKBYTES 64 p (bs.drop p):=by
 unfold token_ byNext
 rw [ZA]
 dsimp only
 rw [if_neg]
 rintro (h | h)
 ·exact h1 ((VH (c:=91)).mpr h)
 ·exact h2 ((VH (c:=35)).mpr h)
theorem ZgU {bs:List UInt8}{p:Nat} (h:pk bs p=91∨pk bs p=35):token_ p (bs.drop p)=.error p:=by
 unfold token_ byNext
 rw [ZA]
 dsimp only
 rw [if_pos]
 ·rfl
 ·rcases h with h | h
  ·exact .inl ((VH (c:=91)).mp h)
  ·exact .inr ((VH (c:=35)).mp h)
end Vp
end
section
namespace Vp
open Vh VhPage
def ZdM (rs:List (Nat×Nat×Nat)):Prop:=rs.Pairwise (fun x y=>x.2.1<y.1)∧∀ x∈rs,x.1≤x.2.1
def VY (rs:List (Nat×Nat×Nat)) (c:Nat):Nat:=if isMark c=true then 1 else match rs.find? fun (x:Nat×Nat×Nat)=>decide (x.1≤c) && decide (c≤x.2.1) with
 | some x=>x.2.2
 | none=>1
def Xw (rs:List (Nat×Nat×Nat)) (l:Letters):Nat:=(l.map (VY rs)).sum
theorem Zgq {rs:List (Nat×Nat×Nat)} (ok:ZdM rs) {i j:Nat}{x y:Nat×Nat×Nat} (hi:rs[i]?=some x) (hj:rs[j]?=some y) (h:i≤j):x.2.1≤y.2.1:=by
 rcases Nat.lt_or_eq_of_le h with h | rfl
 ·obtain ⟨hi',ei⟩:=List.getElem?_eq_some_iff.mp hi
  obtain ⟨hj',ej⟩:=List.getElem?_eq_some_iff.mp hj
  have:=List.pairwise_iff_getElem.mp ok.1 i j hi' hj' h
  rw [ei,ej] at this
  have:=ok.2 y (List.mem_of_getElem? hj)
  lia
 ·rw [hi] at hj;cases hj;exact Nat.le_refl _
theorem Zhx {rs:List (Nat×Nat×Nat)} (ok:ZdM rs) {c low:Nat} (h1:∀ i x,rs[i]?=some x→i<low→x.2.1<c) (h2:∀ i x,rs[i]?=some x→low≤i→c≤x.2.1) :
  (rs.find? fun (x:Nat×Nat×Nat)=>decide (x.1≤c) && decide (c≤x.2.1))=match rs[low]? with
   | some x=>if x.1≤c then some x else none
   | none=>none:=by
 rcases ok with ⟨pw,ok⟩
 induction rs generalizing low with
 | nil=>simp
 | cons r rs ih =>
  rw [List.pairwise_cons] at pw
  cases low with
  | zero =>
   rw [List.getElem?_cons_zero]
   have hc:=h2 0 r (by simp) (Nat.zero_le _)
   by_cases hr:r.1≤c
   ·simp [List.find?_cons,hr,hc]
   ·simp only [List.find?_cons,hr,decide_false,Bool.false_and,if_false]
    rw [List.find?_eq_none]
    intro x hx
    have:=pw.1 x hx
    have:=ok r (by simp)
    simp;lia
  | succ low =>
   have hc:=h1 0 r (by simp) (Nat.succ_pos _)
   have e:(decide (r.1≤c) && decide (c≤r.2.1))=false:=by simp;lia
   rw [List.getElem?_cons_succ,List.find?_cons,e]
   exact ih (fun i x h l=>h1 (i+1) x (by simpa using h) (by lia)) (fun i x h l=>h2 (i+1) x (by simpa using h) (by lia)) pw.2 (fun x hx=>ok x (by simp [hx]))
theorem ZgH {rs:List (Nat×Nat×Nat)} (ok:ZdM rs) {c low:Nat} (h1:∀ i x,rs[i]?=some x→i<low→x.2.1<c) (h2:∀ i x,rs[i]?=some x→low≤i→c≤x.2.1) :
  VY rs c=if isMark c=true then 1 else match rs[low]? with
   | some x=>if x.1≤c then x.2.2 else 1
   | none=>1:=by
 unfold VY
 rw [Zhx ok h1 h2]
 cases rs[low]? with
 | none=>rfl
 | some x=>by_cases h:x.1≤c <;> simp [h]
theorem Zb3 (room:Nat):∀ (xs:List Nat) (c s:Nat) (t:List (Nat×Nat)) (b:Nat×Nat),(c=0→xs≠[])→(c≠0→1≤b.2∧b.2≤c)→1≤(bestLine room c s xs t b).2∧(bestLine room c s xs t b).2≤c+xs.length
 | [],c,s,t,b,h0,h=>by
  have hc:c≠0:=fun z=>h0 z rfl
  unfold bestLine
  have:=h hc
  exact ⟨this.1,by simp;lia⟩
 | x::xs,c,s,t,b,h0,h=>by
  show 1≤(if 1≤c∧room<(if c=0 then x else s+1+x) then b else bestLine room (c+1) (if c=0 then x else s+1+x) xs (t.drop 1) (if c=0∨lineCost room (if c=0 then x else s+1+x) xs.isEmpty+(t.headD (0,0)).1≤b.1 then (lineCost room (if c=0 then x else s+1+x) xs.isEmpty+(t.headD (0,0)).1,c+1) else b)).2∧(if 1≤c∧room<(if c=0 then x else s+1+x) then b else bestLine room (c+1) (if c=0 then x else s+1+x) xs (t.drop 1) (if c=0∨lineCost room (if c=0 then x else s+1+x) xs.isEmpty+(t.headD (0,0)).1≤b.1 then (lineCost room (if c=0 then x else s+1+x) xs.isEmpty+(t.headD (0,0)).1,c+1) else b)).2≤c+(x::xs).length
  generalize (if c=0 then x else s+1+x)=n
  generalize lineCost room n xs.isEmpty+(t.headD (0,0)).1=z
  rw [List.length_cons]
  by_cases g:1≤c∧room<n
  ·rw [if_pos g]
   have:=h (by lia)
   lia
  ·rw [if_neg g]
   have hb:1≤(if c=0∨z≤b.1 then (z,c+1) else b).2∧(if c=0∨z≤b.1 then (z,c+1) else b).2≤c+1:=by
    by_cases y:c=0∨z≤b.1
    ·rw [if_pos y];exact ⟨Nat.succ_le_succ (Nat.zero_le _),Nat.le_refl _⟩
    ·rw [if_neg y]
     have:=h (by lia)
     lia
   have:=Zb3 room xs (c+1) n (t.drop 1) (if c=0∨z≤b.1 then (z,c+1) else b) (fun z=>by lia) (fun _=>hb)
   lia
def bst (room:Nat) (xs:List Nat) (T:List (Nat×Nat)) (i:Nat):Nat×Nat:=bestLine room 0 0 (xs.drop i) (T.drop i) (0,0)
def tab (room:Nat) (xs:List Nat):List (Nat×Nat):=costTable room (xs.drop 1)
theorem Wb (room:Nat):∀ xs:List Nat,(costTable room xs).length=xs.length
 | []=>rfl
 | x::xs=>by unfold costTable;simp [Wb room xs]
theorem JH (room:Nat):∀ (i:Nat) (xs:List Nat),(costTable room xs).drop i=costTable room (xs.drop i)
 | 0,xs=>by simp
 | i+1,[]=>by simp [costTable]
 | i+1,x::xs=>JH room i xs
theorem Zew (room:Nat) (xs:List Nat) {i:Nat} (h1:1≤i) (h2:i<xs.length):(tab room xs).drop (i-1)=bst room xs (tab room xs) i::(tab room xs).drop i:=by
 unfold tab bst
 rw [JH,JH,List.drop_drop,List.drop_drop]
 have e1:1+(i-1)=i:=by lia
 rw [e1]
 obtain ⟨x,l,hl⟩:∃ x l,xs.drop i=x::l:=by
  cases h:xs.drop i with
  | nil=>rw [List.drop_eq_nil_iff] at h;lia
  | cons x l=>exact ⟨x,l,rfl⟩
 have e2:xs.drop (1+i)=l:=by
  have:xs.drop (1+i)=(xs.drop i).drop 1:=by rw [List.drop_drop,Nat.add_comm]
  rw [this,hl];rfl
 rw [e2,hl]
 rfl
theorem YT {room:Nat}{xs:List Nat}{T:List (Nat×Nat)}{i:Nat} (h:i<xs.length):1≤(bst room xs T i).2∧i+(bst room xs T i).2≤xs.length:=by
 have:=Zb3 room (xs.drop i) 0 0 (T.drop i) (0,0) (fun _ z=>by rw [List.drop_eq_nil_iff] at z;lia) (fun z=>absurd rfl z)
 rw [Nat.zero_add,List.length_drop] at this
 exact ⟨this.1,by have:=this.2;unfold bst;lia⟩
def Vn (room:Nat) (xs:List Nat) (e:Nat):Nat:=if e<xs.length then (bst room xs (tab room xs) e).1 else 0
theorem ZcQ (room:Nat) (xs:List Nat) (e:Nat):(((tab room xs).drop e).headD (0,0)).1=Vn room xs (e+1):=by
 unfold Vn
 split
 ·rename_i h
  have:=Zew room xs (i:=e+1) (by lia) h
  rw [Nat.add_sub_cancel] at this
  rw [this];rfl
 ·rename_i h
  have:(tab room xs).drop e=[]:=by
   rw [List.drop_eq_nil_iff];unfold tab;rw [Wb,List.length_drop];lia
  rw [this];rfl
theorem Zak:∀ (f g:Nat) (t:List (Nat×Nat)),(∀ x∈t,1≤x.2)→t.length≤f→t.length≤g→byTable f t=byTable g t
 | 0,g,t,_,h,_=>by have:t=[]:=List.length_eq_zero_iff.mp (by lia);subst this;cases g <;> rfl
 | f+1,g,[],_,_,_=>by cases g <;> rfl
 | f+1,0,x::t,_,_,h=>by simp at h
 | f+1,g+1,x::t,hx,h,h'=>by
  have h1:=hx x (by simp)
  simp only [List.length_cons] at h h'
  show x.2::byTable f ((x::t).drop x.2)=x.2::byTable g ((x::t).drop x.2)
  have hm:∀ y∈(x::t).drop x.2,1≤y.2:=fun y hy=>hx y (List.mem_of_mem_drop hy)
  have hl:((x::t).drop x.2).length≤t.length:=by rw [List.length_drop,List.length_cons];lia
  rw [Zak f g _ hm (by lia) (by lia)]
def cnts (room:Nat) (xs:List Nat) (i:Nat):List Nat:=byTable ((tab room xs).length) ((tab room xs).drop (i-1))
theorem Zh6 (room:Nat) (xs:List Nat):∀ x∈tab room xs,1≤x.2:=by
 intro x hx
 obtain ⟨k,hk⟩:=List.mem_iff_getElem?.mp hx
 have hlt:k<(tab room xs).length:=by
  rw [List.getElem?_eq_some_iff] at hk;exact hk.1
 have hl:k+1<xs.length:=by unfold tab at hlt;rw [Wb,List.length_drop] at hlt;lia
 have:=Zew room xs (i:=k+1) (by lia) hl
 rw [Nat.add_sub_cancel] at this
 have h0:((tab room xs).drop k)[0]?=some x:=by rw [List.getElem?_drop];simpa using hk
 rw [this] at h0
 simp at h0
 rw [← h0]
 exact (YT hl).1
theorem Zau (room:Nat) (xs:List Nat) {i:Nat} (h1:1≤i) (h:xs.length≤i):cnts room xs i=[]:=by
 unfold cnts
 have:(tab room xs).drop (i-1)=[]:=by
  rw [List.drop_eq_nil_iff];unfold tab;rw [Wb,List.length_drop];lia
 rw [this]
 cases (tab room xs).length <;> rfl
theorem Zcz (room:Nat) (xs:List Nat) {i:Nat} (h1:1≤i) (h:i<xs.length):cnts room xs i=(bst room xs (tab room xs) i).2::cnts room xs (i+(bst room xs (tab room xs) i).2):=by
 have hp:=(YT (room:=room) (T:=tab room xs) h).1
 unfold cnts
 have hl:(tab room xs).length=xs.length-1:=by unfold tab;rw [Wb,List.length_drop]
 have hl':(tab room xs).length=(xs.length-2)+1:=by lia
 rw [Zew room xs h1 h]
 have e:byTable (tab room xs).length (bst room xs (tab room xs) i::(tab room xs).drop i)=(bst room xs (tab room xs) i).2::byTable (xs.length-2) ((bst room xs (tab room xs) i::(tab room xs).drop i).drop (bst room xs (tab room xs) i).2):=by
  rw [hl'];rfl
 rw [e]
 congr 1
 have e2:(bst room xs (tab room xs) i::(tab room xs).drop i).drop (bst room xs (tab room xs) i).2=(tab room xs).drop (i+(bst room xs (tab room xs) i).2-1):=by
  rw [← Zew room xs h1 h,List.drop_drop]
  congr 1;lia
 rw [e2]
 have hm:∀ y∈(tab room xs).drop (i+(bst room xs (tab room xs) i).2-1),1≤y.2:=fun y hy=>Zh6 room xs y (List.mem_of_mem_drop hy)
 have hlen:((tab room xs).drop (i+(bst room xs (tab room xs) i).2-1)).length≤xs.length-2:=by rw [List.length_drop,hl];lia
 exact Zak _ _ _ hm hlen (by rw [List.length_drop];lia)
theorem Jz (room r:Nat) (xs:List Nat) (h:0<xs.length):broken room r xs=(bst room xs (tab r xs) 0).2::cnts r xs (bst room xs (tab r xs) 0).2:=by
 cases xs with
 | nil=>simp at h
 | cons x l =>
  have hp:=(YT (room:=room) (T:=tab r (x::l)) (i:=0) h).1
  show (bst room (x::l) (tab r (x::l)) 0).2::byTable l.length ((tab r (x::l)).drop ((bst room (x::l) (tab r (x::l)) 0).2-1))=_
  congr 1
  unfold cnts
  have hl:(tab r (x::l)).length=l.length:=by unfold tab;rw [Wb];rfl
  rw [hl]
def Vb (room:Nat) (xs:List Nat) (e:Nat):Nat:=if e<xs.length then (cnts room xs e).length else 0
theorem JT (room:Nat) (xs:List Nat) {e:Nat} (h1:1≤e):Vb room xs e=(cnts room xs e).length:=by
 unfold Vb
 split
 ·rfl
 ·rw [Zau room xs h1 (by lia)];rfl
theorem Zfy (room r:Nat) (xs:List Nat) (h:0<xs.length):(broken room r xs).length=1+Vb r xs (bst room xs (tab r xs) 0).2:=by
 rw [Jz room r xs h,List.length_cons,JT r xs (YT h).1,Nat.add_comm]
theorem ZgK (room:Nat) (xs:List Nat) (r start e taken:Nat) (b:Nat×Nat) (hs:start<e) {x:Nat} (hx:xs[e]?=some x) :
  bestLine room (e-start) taken (xs.drop e) ((tab r xs).drop e) b=if room<taken+1+x then b else
   bestLine room (e+1-start) (taken+1+x) (xs.drop (e+1)) ((tab r xs).drop (e+1)) (if lineCost room (taken+1+x) (decide (e+1=xs.length))+Vn r xs (e+1)≤b.1 then (lineCost room (taken+1+x) (decide (e+1=xs.length))+Vn r xs (e+1),e+1-start) else b):=by
 obtain ⟨he,ex⟩:=List.getElem?_eq_some_iff.mp hx
 have hd:xs.drop e=x::xs.drop (e+1):=by rw [List.drop_eq_getElem_cons he,ex]
 have hne:e-start≠0:=by lia
 have hse:e-start+1=e+1-start:=by lia
 have hem:(xs.drop (e+1)).isEmpty=decide (e+1=xs.length):=by
  by_cases z:e+1=xs.length
  ·rw [decide_eq_true z,List.isEmpty_iff,List.drop_eq_nil_iff];lia
  ·rw [decide_eq_false z]
   cases h:xs.drop (e+1) with
   | nil=>rw [List.drop_eq_nil_iff] at h;lia
   | cons _ _=>rfl
 rw [hd]
 show (if 1≤e-start∧room<(if e-start=0 then x else taken+1+x) then b else bestLine room (e-start+1) (if e-start=0 then x else taken+1+x) (xs.drop (e+1)) (((tab r xs).drop e).drop 1) (if e-start=0∨lineCost room (if e-start=0 then x else taken+1+x) (xs.drop (e+1)).isEmpty+(((tab r xs).drop e).headD (0,0)).1≤b.1 then (lineCost room (if e-start=0 then x else taken+1+x) (xs.drop (e+1)).isEmpty+(((tab r xs).drop e).headD (0,0)).1,e-start+1) else b))=_
 rw [if_neg hne,ZcQ,hem,hse,List.drop_drop]
 have h1:1≤e-start:=by lia
 simp only [h1,hne,true_and,false_or]
theorem Zfz (room:Nat) (xs:List Nat) (r start:Nat) {x:Nat} (hx:xs[start]?=some x) :
  bst room xs (tab r xs) start=bestLine room 1 x (xs.drop (start+1)) ((tab r xs).drop (start+1)) (lineCost room x (decide (start+1=xs.length))+Vn r xs (start+1),1):=by
 obtain ⟨he,ex⟩:=List.getElem?_eq_some_iff.mp hx
 have hd:xs.drop start=x::xs.drop (start+1):=by rw [List.drop_eq_getElem_cons he,ex]
 have hem:(xs.drop (start+1)).isEmpty=decide (start+1=xs.length):=by
  by_cases z:start+1=xs.length
  ·rw [decide_eq_true z,List.isEmpty_iff,List.drop_eq_nil_iff];lia
  ·rw [decide_eq_false z]
   cases h:xs.drop (start+1) with
   | nil=>rw [List.drop_eq_nil_iff] at h;lia
   | cons _ _=>rfl
 unfold bst
 rw [hd]
 show bestLine room 1 x (xs.drop (start+1)) (((tab r xs).drop start).drop 1) (lineCost room x (xs.drop (start+1)).isEmpty+(((tab r xs).drop start).headD (0,0)).1,1)=_
 rw [ZcQ,hem,List.drop_drop]
end Vp
end
section
namespace Vp
open Vh VhPage
theorem ZhA (d:Nat) (h:d<10):(Nat.digitChar d).toNat=48+d∧(UInt8.ofNat (48+d)).toNat=48+d:=by
 have:∀ d:Fin 10,(Nat.digitChar d.val).toNat=48+d.val∧(UInt8.ofNat (48+d.val)).toNat=48+d.val:=by decide
 exact this ⟨d,h⟩
theorem Zdy:∀ (k n:Nat) (ds:List Char),(Nat.toDigitsCore 10 k n ds).map Char.toNat=(digitsIn k n).map UInt8.toNat++ds.map Char.toNat
 | 0,n,ds=>by simp [Nat.toDigitsCore,digitsIn]
 | k+1,n,ds=>by
  have hd:=ZhA (n % 10) (Nat.mod_lt _ (by decide))
  unfold Nat.toDigitsCore digitsIn
  simp only []
  by_cases h:n<10
  ·rw [if_pos (by lia),if_pos h]
   simp [hd.1];lia
  ·rw [if_neg (by lia),if_neg h,Zdy k (n / 10)]
   simp [hd.1];lia
theorem ZeN (n:Nat):num10 n=(Nat.toDigits 10 n).map Char.toNat:=by
 unfold num10 decimal Nat.toDigits
 rw [Zdy];simp
theorem Jk (n:Nat):(PySem.Str.ofString (toString (n:Int))).cps.toList=num10 n:=by
 rw [ZeN]
 have:=PyProof.Rows.text_ofNat n
 show (PySem.Str.ofString (toString (Int.ofNat n))).cps.toList=_
 rw [this]
theorem Wn {n k:Nat} (hk:1≤k) (h:n<10 ^ k):(num10 n).length≤k:=by
 rw [ZeN,List.length_map]
 exact PyProof.Rows.digits10_le hk h
end Vp
end
section
namespace Vp
open Vh VhPage
theorem Jm {W d n:Nat} (h:d≤W) (b:Bool):lineCost (W-d) n b=lineCost W (n+d) b:=by
 unfold lineCost
 have e:(b=true∨W-d<n)↔(b=true∨W<n+d):=⟨fun h1=>h1.elim .inl fun h1=>.inr (by lia),fun h1=>h1.elim .inl fun h1=>.inr (by lia)⟩
 by_cases z:b=true∨W-d<n
 ·rw [if_pos z,if_pos (e.mp z)]
 ·rw [if_neg z,if_neg (fun y=>z (e.mpr y))]
  congr 1;lia
theorem ZdK {W d:Nat} (h:d≤W):∀ (xs:List Nat) (c s:Nat) (t:List (Nat×Nat)) (b:Nat×Nat),1≤c→bestLine (W-d) c s xs t b=bestLine W c (s+d) xs t b
 | [],c,s,t,b,hc=>by unfold bestLine;rfl
 | x::xs,c,s,t,b,hc=>by
  have h0:c≠0:=by lia
  show (if 1≤c∧W-d<(if c=0 then x else s+1+x) then b else bestLine (W-d) (c+1) (if c=0 then x else s+1+x) xs (t.drop 1) (if c=0∨lineCost (W-d) (if c=0 then x else s+1+x) xs.isEmpty+(t.headD (0,0)).1≤b.1 then (lineCost (W-d) (if c=0 then x else s+1+x) xs.isEmpty+(t.headD (0,0)).1,c+1) else b)) =
   (if 1≤c∧W<(if c=0 then x else s+d+1+x) then b else bestLine W (c+1) (if c=0 then x else s+d+1+x) xs (t.drop 1) (if c=0∨lineCost W (if c=0 then x else s+d+1+x) xs.isEmpty+(t.headD (0,0)).1≤b.1 then (lineCost W (if c=0 then x else s+d+1+x) xs.isEmpty+(t.headD (0,0)).1,c+1) else b))
  rw [if_neg h0,if_neg h0,Jm h]
  have e1:s+1+x+d=s+d+1+x:=by lia
  rw [e1]
  by_cases z:W<s+d+1+x
  ·rw [if_pos ⟨hc,by lia⟩,if_pos ⟨hc,z⟩]
  ·have z1:¬ (1≤c∧W-d<s+1+x):=by lia
   have z2:¬ (1≤c∧W<s+d+1+x):=by lia
   rw [if_neg z1,if_neg z2,ZdK h xs _ _ _ _ (by lia),e1]
theorem Zep {W d:Nat} (h:d≤W) (ts:List Nat):broken (W-d) W (0::ts)=broken W W (d::ts):=by
 have e:bestLine (W-d) 0 0 (0::ts) (costTable W ts) (0,0)=bestLine W 0 0 (d::ts) (costTable W ts) (0,0):=by
  show bestLine (W-d) 1 0 ts ((costTable W ts).drop 1) (lineCost (W-d) 0 ts.isEmpty+((costTable W ts).headD (0,0)).1,1)=bestLine W 1 d ts ((costTable W ts).drop 1) (lineCost W d ts.isEmpty+((costTable W ts).headD (0,0)).1,1)
  rw [ZdK h ts 1 0 _ _ (Nat.le_refl 1),Jm h,Nat.zero_add]
 unfold broken
 simp only []
 rw [e]
theorem ZhC (r:Nat) (xs:List Nat):∀ (m i:Nat),xs.length-i=m→1≤i→i≤xs.length→i+(cnts r xs i).sum=xs.length:=by
 intro m
 induction m using Nat.strongRecOn with
 | _ m ih =>
  intro i hm h1 h2
  by_cases h:i<xs.length
  ·have c:=YT (room:=r) (T:=tab r xs) h
   rw [Zcz r xs h1 h,List.sum_cons]
   have:=ih (xs.length-(i+(bst r xs (tab r xs) i).2)) (by lia) (i+(bst r xs (tab r xs) i).2) rfl (by lia) c.2
   lia
  ·rw [Zau r xs h1 (by lia)];simp;lia
theorem JX (fr r:Nat) (xs:List Nat) (h:0<xs.length):(VhPage.broken fr r xs).sum=xs.length:=by
 rw [Jz fr r xs h,List.sum_cons]
 have c:=YT (room:=fr) (T:=tab r xs) h
 exact ZhC r xs _ _ rfl c.1 (by lia)
theorem ZhD (r:Nat) (xs:List Nat):∀ (m i:Nat),xs.length-i=m→1≤i→i≤xs.length→∀ c∈cnts r xs i,1≤c:=by
 intro m
 induction m using Nat.strongRecOn with
 | _ m ih =>
  intro i hm h1 h2
  by_cases h:i<xs.length
  ·have c:=YT (room:=r) (T:=tab r xs) h
   rw [Zcz r xs h1 h]
   intro y hy
   rcases List.mem_cons.mp hy with z | z
   ·rw [z];exact c.1
   ·exact ih (xs.length-(i+(bst r xs (tab r xs) i).2)) (by lia) (i+(bst r xs (tab r xs) i).2) rfl (by lia) c.2 y z
  ·rw [Zau r xs h1 (by lia)];intro y hy;simp at hy
theorem JY (fr r:Nat) (xs:List Nat) (h:0<xs.length):∀ c∈VhPage.broken fr r xs,1≤c:=by
 rw [Jz fr r xs h]
 have c:=YT (room:=fr) (T:=tab r xs) h
 intro y hy
 rcases List.mem_cons.mp hy with z | z
 ·rw [z];exact c.1
 ·exact ZhD r xs _ _ rfl c.1 (by lia) y z
end Vp
end
section
namespace Vp
open Vh VhPage
def ChOk (l:Letters):Prop:=∀ c∈l,c<0x110000
def ThOk (k:Nat) (l:Letters):Prop:=l≠[]∧l.length≤k∧ChOk l
structure WOk (w:Work):Prop where
 set:w.set.ok=true
 rows:w.widths.length≤64
 row:∀ x∈w.widths,33≤x.1∧x.1≤x.2.1∧x.2.1≤LARGEST∧x.2.2≤2
 apart:w.widths.Pairwise (fun x y=>x.2.1<y.1)
 paras:w.paras.length≤4096
 size:w.paras.flatten.length≤8192
 para:∀ q∈w.paras,q≠[]∧∀ x∈q,ThOk 64 x
 nsigns:w.signs.length≤4096
 sign:∀ x∈w.signs,x.1<w.paras.flatten.length∧x.2≠[]∧x.2.length≤4∧∀ y∈x.2,ThOk 16 y
 nent:w.entries.length≤4096
 toks:(w.entries.map fun e=>e.toks.length).sum≤65536
 ent:∀ e∈w.entries,e.first+e.count≤w.paras.flatten.length∧1≤w.paras.flatten.length∧e.toks.length≤1024∧∀ y∈e.toks,ThOk 64 y
 rise:w.entries.Pairwise (fun x y=>x.first≤y.first)
theorem Zib {w:Work} (h:WOk w):w.widths.Pairwise (fun x y=>x.2.1<y.1)∧∀ x∈w.widths,x.1≤x.2.1:=⟨h.apart,fun x hx=>(h.row x hx).2.1⟩
def Pd {α:Type} (r:Rd α) (ok:α→Prop):Prop:=∀ p b x p' b',r p b=.ok (x,p',b')→ok x
section
variable {α β:Type}{r r2:Rd α}{ok:α→Prop}
theorem Pd.thn {s:Rd β}{f:β→Rd α}{ok1:β→Prop} (h1:Pd s ok1) (h2:∀ x,ok1 x→Pd (f x) ok):Pd (andThen s f) ok:=by
 intro p b x p' b' h
 unfold andThen at h
 cases e:s p b with
 | error i=>rw [e] at h;cases h
 | ok z =>
  rw [e] at h
  obtain ⟨y,p1,b1⟩:=z
  exact h2 y (h1 p b y p1 b1 e) _ _ _ _ _ h
theorem Pd.next {f:Option UInt8→Rd α} (h:∀ c,Pd (f c) ok):Pd (byNext f) ok:=fun p b=>h b.head? p b
theorem Pd.beh (h:Pd r ok):Pd (behind r) ok:=fun p b=>h (p+1) (b.drop 1)
theorem Pd.giv {x:α} (h:ok x):Pd (gives x) ok:=by
 intro p b y p' b' e
 cases e
 exact h
theorem Pd.str:Pd (stray:Rd α) ok:=by intro p b y p' b' e;cases e
theorem Pd.ite {c:Prop} [Decidable c] (h1:c→Pd r ok) (h2:¬ c→Pd r2 ok):Pd (if c then r else r2) ok:=by
 by_cases z:c
 ·rw [if_pos z];exact h1 z
 ·rw [if_neg z];exact h2 z
theorem Pd.mono {ok2:α→Prop} (h:Pd r ok) (m:∀ x,ok x→ok2 x):Pd r ok2:=fun p b x p' b' e=>m x (h p b x p' b' e)
end
theorem Pd.byte (c:UInt8):Pd (byte_ c) (fun _=>True):=fun _ _ _ _ _ _=>trivial
theorem Pd.digits (lo hi:Nat):∀ (f:Nat) (v:Option Nat),Pd (Vh.digits lo hi f v) (fun x=>lo≤x∧x≤hi)
 | 0,v=>Pd.str
 | f+1,v=>by
  unfold Vh.digits
  refine Pd.next fun c=>?_
  dsimp only
  split
  ·exact Pd.beh (Pd.digits lo hi f _)
  ·split
   ·exact Pd.ite (fun h=>Pd.giv h) fun _=>Pd.str
   ·exact Pd.str
theorem Pd.num (lo hi:Nat):Pd (num lo hi) (fun x=>lo≤x∧x≤hi):=Pd.digits lo hi 20 none
theorem Pd.then_ (lo hi:Nat):Pd (VhPage.then_ lo hi) (fun x=>lo≤x∧x≤hi):=Pd.thn (Pd.byte 32) fun _ _=>Pd.num lo hi
theorem Pd.tail (lo hi:Nat):Pd (tail_ lo hi) (fun x=>x≤hi-128):=by
 refine Pd.next fun c=>?_
 cases c with
 | none=>exact Pd.str
 | some x=>exact Pd.ite (fun h=>Pd.beh (Pd.giv (by lia))) fun _=>Pd.str
theorem ZhV {c:Prop} [Decidable c] {x:Nat} (h:x≤(if c then 0xBD else 0xBF)-128):x<64:=by
 by_cases z:c
 ·rw [if_pos z] at h;lia
 ·rw [if_neg z] at h;lia
theorem Pd.letter:Pd letter_ (fun n=>n<0x110000):=by
 refine Pd.next fun c=>?_
 cases c with
 | none=>exact Pd.str
 | some x =>
  refine Pd.ite (fun _=>Pd.str) fun hs=>Pd.ite (fun h=>Pd.beh (Pd.giv (by lia))) fun h80=>Pd.ite (fun h=>Pd.beh (Pd.thn (Pd.tail _ _) fun a ha=>Pd.giv (by lia))) fun _=>Pd.ite (fun h=>Pd.beh (Pd.thn (ok1:=fun a=>a<64) ((Pd.tail _ _).mono fun a ha=>?_) fun a ha=>Pd.thn ((Pd.tail _ _).mono fun _ z=>ZhV z) fun b hb=>Pd.giv (by lia))) fun _=>?_
  ·by_cases z:x.toNat=0xED
   ·rw [if_pos z] at ha;lia
   ·rw [if_neg z] at ha;lia
  ·have hx:x.toNat≤244:=by
    have hs:startsLetter x=true:=by simpa using hs
    unfold startsLetter at hs
    rw [if_neg h80] at hs
    simp at hs
    exact hs.2
   refine Pd.beh (Pd.thn (ok1:=fun a=>a<64∧(x.toNat=244→a<16)) ((Pd.tail _ _).mono fun a ha=>?_) fun a ha=>Pd.thn (Pd.tail _ _) fun b hb=>Pd.thn ((Pd.tail _ _).mono fun _ z=>ZhV z) fun d hd=>Pd.giv (by lia))
   by_cases z:x.toNat=0xF4
   ·rw [if_pos z] at ha;exact ⟨by lia,fun _=>by lia⟩
   ·rw [if_neg z] at ha;exact ⟨by lia,fun y=>absurd y z⟩
theorem ChOk.cons {n:Nat}{l:Letters} (h:n<0x110000) (hl:ChOk l):ChOk (n::l):=fun d hd=>(List.mem_cons.mp hd).elim (fun z=>by rw [z];exact h) (hl d)
theorem Pd.chars {mk:List UInt8} (hm:∀ c∈mk,c.toNat<128):∀ k:Nat,Pd (chars_ mk k) (fun l=>l.length≤k∧ChOk l)
 | 0=>Pd.giv ⟨Nat.le_refl _,fun c hc=>by simp at hc⟩
 | k+1=>by
  unfold chars_
  refine Pd.next fun c=>?_
  cases c with
  | none=>exact Pd.giv ⟨Nat.zero_le _,fun c hc=>by simp at hc⟩
  | some x =>
   exact Pd.ite (fun h=>Pd.beh (Pd.thn (Pd.chars hm k) fun l hl=>Pd.giv ⟨Nat.succ_le_succ hl.1,hl.2.cons (Nat.lt_trans (hm x (by simpa using h)) (by decide))⟩))
    fun _=>Pd.ite (fun _=>Pd.thn Pd.letter fun n hn=>Pd.thn (Pd.chars hm k) fun l hl=>Pd.giv ⟨Nat.succ_le_succ hl.1,hl.2.cons hn⟩) fun _=>Pd.giv ⟨Nat.zero_le _,fun c hc=>by simp at hc⟩
theorem Pd.some {mk:List UInt8} (hm:∀ c∈mk,c.toNat<128) (k:Nat):Pd (someChars_ mk k) (ThOk k) :=
 Pd.thn (Pd.chars hm k) fun l hl=>Pd.ite (fun _=>Pd.str) fun z=>Pd.giv ⟨fun y=>z (by rw [y];rfl),hl.1,hl.2⟩
theorem Pd.token:Pd token_ (ThOk 64):=Pd.next fun c=>Pd.ite (fun _=>Pd.str) fun _=>Pd.some (by decide) 64
theorem Pd.row {one:Rd Letters}{ok:Letters→Prop} (h1:Pd one ok):∀ k:Nat,Pd (row_ one k) (fun l=>l≠[]∧l.length≤k∧∀ x∈l,ok x)
 | 0=>Pd.str
 | k+1=>by
  unfold row_
  refine Pd.thn h1 fun x hx=>Pd.next fun c=>Pd.ite (fun _=>Pd.beh (Pd.giv ⟨by simp,by simp,by simpa using hx⟩)) fun _=>Pd.ite (fun _=>Pd.str) fun _=>Pd.thn (Pd.byte 32) fun _ _=>Pd.thn (Pd.row h1 k) fun l hl=>Pd.giv ⟨by simp,Nat.succ_le_succ hl.2.1,fun y hy=>(List.mem_cons.mp hy).elim (fun z=>by rw [z];exact hx) (hl.2.2 y)⟩
theorem Pd.lett (k:Nat):Pd (someLetters_ k) (ThOk k):=by rw [WJ];exact Pd.some (by simp) k
theorem Pd.paras:∀ (k n:Nat),Pd (paras_ k n) (fun l=>l.length≤k∧l.flatten.length≤n∧∀ q∈l,q≠[]∧∀ x∈q,ThOk 64 x)
 | 0,n=>Pd.giv ⟨Nat.le_refl _,Nat.zero_le _,fun c hc=>by simp at hc⟩
 | k+1,n=>by
  unfold paras_
  refine Pd.next fun c=>Pd.ite (fun z=>Pd.beh (Pd.thn (Pd.row (Pd.lett 64) n) fun q hq=>Pd.thn (Pd.paras k (n-q.length)) fun l hl=>Pd.giv ⟨Nat.succ_le_succ hl.1,?_,fun y hy=>(List.mem_cons.mp hy).elim (fun z=>by rw [z];exact ⟨hq.1,hq.2.2⟩) (hl.2.2 y)⟩)) fun _=>Pd.giv ⟨Nat.zero_le _,Nat.zero_le _,fun c hc=>by simp at hc⟩
  have h1:=hq.2.1
  have h2:=hl.2.1
  rw [List.flatten_cons,List.length_append];lia
theorem Pd.signs (n:Nat):∀ (k fr:Nat),Pd (signs_ n k fr) (fun l=>l.length≤k∧∀ x∈l,x.1<n∧x.2≠[]∧x.2.length≤4∧∀ y∈x.2,ThOk 16 y)
 | 0,fr=>Pd.giv ⟨Nat.le_refl _,fun c hc=>by simp at hc⟩
 | k+1,fr=>by
  unfold signs_
  exact Pd.next fun c=>Pd.ite (fun z=>Pd.beh (Pd.thn (Pd.num fr (n-1)) fun i hi=>Pd.thn (Pd.byte 32) fun _ _=>Pd.thn (Pd.row (Pd.some (mk:=[94]) (by decide) 16) 4) fun l hl=>Pd.thn (Pd.signs n k i) fun r hr=>Pd.giv ⟨Nat.succ_le_succ hr.1,fun y hy=>(List.mem_cons.mp hy).elim (fun w=>by rw [w];exact ⟨Nat.lt_of_le_of_lt hi.2 (Nat.sub_lt z.2 Nat.one_pos),hl⟩) (hr.2 y)⟩)) fun _=>Pd.giv ⟨Nat.zero_le _,fun c hc=>by simp at hc⟩
theorem Pd.tokens (k:Nat):Pd (tokens_ k) (fun l=>l.length≤k∧∀ x∈l,ThOk 64 x) :=
 Pd.next fun c=>Pd.ite (fun _=>Pd.beh (Pd.giv ⟨Nat.zero_le _,fun c hc=>by simp at hc⟩)) fun _=>Pd.ite (fun _=>Pd.str) fun _=>Pd.thn (Pd.byte 32) fun _ _=>(Pd.row Pd.token k).mono fun _ h=>h.2
theorem Pd.entries (n:Nat):∀ (k fr most:Nat),Pd (entries_ n k fr most) (fun l=>l.length≤k∧(l.map fun e=>e.toks.length).sum≤most∧(∀ e∈l,fr≤e.first∧e.first+e.count≤n∧1≤n∧e.toks.length≤1024∧∀ y∈e.toks,ThOk 64 y)∧l.Pairwise (fun x y=>x.first≤y.first))
 | 0,fr,most=>Pd.giv ⟨Nat.le_refl _,Nat.zero_le _,fun c hc=>by simp at hc,.nil⟩
 | k+1,fr,most=>by
  unfold entries_
  refine Pd.next fun c=>Pd.ite (fun z=>Pd.beh (Pd.thn (Pd.num fr n) fun i hi=>Pd.thn (Pd.then_ 0 (n-i)) fun m hm=>Pd.thn (Pd.tokens (min 1024 most)) fun l hl=>Pd.thn (Pd.entries n k i (most-l.length)) fun r hr=>Pd.giv ?_)) fun _=>Pd.giv ⟨Nat.zero_le _,Nat.zero_le _,fun c hc=>by simp at hc,.nil⟩
  have h1:=hl.1
  have h2:=hr.2.1
  refine ⟨Nat.succ_le_succ hr.1,?_,fun y hy=>(List.mem_cons.mp hy).elim (fun w=>?_) (fun w=>?_),?_⟩
  ·rw [List.map_cons,List.sum_cons];dsimp only;lia
  ·rw [w];exact ⟨hi.1,by show i+m≤n;lia,z.2,Nat.le_trans h1 (Nat.min_le_left _ _),hl.2⟩
  ·have h3:=hr.2.2.1 y w
   exact ⟨Nat.le_trans hi.1 h3.1,h3.2⟩
  ·rw [List.pairwise_cons]
   exact ⟨fun y hy=>(hr.2.2.1 y hy).1,hr.2.2.2⟩
theorem Pd.settings:Pd settings_ (fun s=>s.ok=true) :=
 Pd.thn (Pd.byte 94) fun _ _=>Pd.thn (Pd.num 20 240) fun _ o1=>Pd.thn (Pd.then_ 6 240) fun _ o2=>Pd.thn (Pd.then_ 1 16) fun _ o3=>Pd.thn (Pd.then_ 1 100) fun _ o4=>Pd.thn (Pd.then_ 0 1) fun _ o5=>Pd.thn (Pd.then_ 0 10000) fun _ o6=>Pd.thn (Pd.byte 10) fun _ _=>Pd.giv (by simp [Settings.ok,inside,o1,o2,o3,o4,o5,o6])
theorem Pd.widths:∀ (k lo:Nat),Pd (widths_ k lo) (fun l=>l.length≤k∧(∀ x∈l,lo≤x.1∧x.1≤x.2.1∧x.2.1≤LARGEST∧x.2.2≤2)∧l.Pairwise (fun x y=>x.2.1<y.1))
 | 0,lo=>Pd.giv ⟨Nat.le_refl _,fun c hc=>by simp at hc,.nil⟩
 | k+1,lo=>by
  unfold widths_
  refine Pd.next fun c=>Pd.ite (fun z=>Pd.beh (Pd.thn (Pd.num lo LARGEST) fun n1 o1=>Pd.thn (Pd.then_ n1 LARGEST) fun n2 o2=>Pd.thn (Pd.then_ 0 2) fun n3 o3=>Pd.thn (Pd.byte 10) fun _ _=>Pd.thn (Pd.widths k (n2+1)) fun l hl=>Pd.giv ⟨Nat.succ_le_succ hl.1,fun y hy=>(List.mem_cons.mp hy).elim (fun w=>by rw [w];exact ⟨o1.1,o2.1,o2.2,o3.2⟩) (fun w=>?_),?_⟩)) fun _=>Pd.giv ⟨Nat.zero_le _,fun c hc=>by simp at hc,.nil⟩
  ·have h3:=hl.2.1 y w
   exact ⟨Nat.le_trans o1.1 (Nat.le_trans o2.1 (Nat.le_trans (Nat.le_succ _) h3.1)),h3.2⟩
  ·rw [List.pairwise_cons]
   exact ⟨fun y hy=>(hl.2.1 y hy).1,hl.2.2⟩
theorem Zh2 {bs:Bytes}{w:Work} (h:readWork bs=.ok w):WOk w:=by
 have key:Pd (andThen settings_ fun (s:Settings)=>andThen (widths_ 64 33) fun (w:List (Nat×Nat×Nat))=>andThen (paras_ 4096 8192) fun (p:List (List Letters))=>andThen (signs_ p.flatten.length 4096 0) fun (g:List (Nat×List Letters))=>andThen (entries_ p.flatten.length 4096 0 65536) fun (e:List Entry)=>end_ (⟨s,w,p,g,e⟩:Work)) WOk :=
  Pd.thn Pd.settings fun s o1=>Pd.thn (Pd.widths 64 33) fun ws o2=>Pd.thn (Pd.paras 4096 8192) fun ps o3=>Pd.thn (Pd.signs ps.flatten.length 4096 0) fun sg o4=>Pd.thn (Pd.entries ps.flatten.length 4096 0 65536) fun en o5=>Pd.next fun c=>Pd.ite (fun _=>Pd.giv ⟨o1,o2.1,o2.2.1,o2.2.2,o3.1,o3.2.1,o3.2.2,o4.1,o4.2,o5.1,o5.2.1,fun e he=>(o5.2.2.1 e he).2,o5.2.2.2⟩) fun _=>Pd.str
 unfold readWork readAll at h
 split at h
 ·cases h
 ·rename_i y hy
  cases h
  exact key _ _ _ _ _ hy
end Vp
end
section
namespace Vp
open Vh VhPage
end Vp
end
section
namespace Vp
open Vh VhPage
end Vp
end
section
namespace Vp
open Vh VhPage
end Vp
end
section
namespace Vp
open Vh VhPage
def Jx:Nat→List Line→Nat→Prop
 | a,[],n=>a=n
 | a,l::L,n=>l.first=a∧1≤l.count∧Jx (a+l.count) L n
theorem ZdC:∀ {a b c:Nat}{L L':List Line},Jx a L b→Jx b L' c→Jx a (L++L') c
 | a,b,c,[],L',h,h'=>by
  have:a=b:=h
  subst this;exact h'
 | a,b,c,l::L,L',h,h'=>⟨h.1,h.2.1,ZdC h.2.2 h'⟩
theorem ZbZ:∀ (br:List Nat) (a:Nat) (b:Bool),(∀ c∈br,1≤c)→Jx a (rowLines a b br) (a+br.sum)
 | [],a,b,_=>by show a=a+0;rfl
 | c::br,a,b,h=>by
  refine ⟨rfl,h c (by simp),?_⟩
  have:=ZbZ br (a+c) false (fun x hx=>h x (by simp [hx]))
  rw [List.sum_cons,← Nat.add_assoc]
  exact this
theorem Zdm {f:Nat}:∀ (L:List Line) (a n i:Nat),Jx a L n→a≤f→i<L.length→(∀ t x,t<i→L[t]?=some x→x.first+x.count≤f)→(i+1=L.length∨∃ x,L[i]?=some x∧f<x.first+x.count)→lineOf L f=i
 | [],a,n,i,_,_,hi,_,_=>by simp at hi
 | l::L,a,n,0,hc,ha,hi,h2,h3=>by
  unfold lineOf
  rw [List.findIdx?_cons]
  by_cases z:lineHas f l=true
  ·rw [if_pos z];rfl
  ·rw [if_neg z]
   have hnot:¬ f<l.first+l.count:=fun y=>z (by
    unfold lineHas
    have h1:l.first≤f:=by rw [hc.1];exact ha
    simp [h1,y])
   rcases h3 with h3 | ⟨x,hx,h3⟩
   ·have:L=[]:=List.length_eq_zero_iff.mp (by rw [List.length_cons] at h3;lia)
    subst this;rfl
   ·simp at hx;subst hx;exact absurd h3 hnot
 | l::L,a,n,i+1,hc,ha,hi,h2,h3=>by
  have he:=h2 0 l (by lia) (by simp)
  have hno:lineHas f l=false:=by
   unfold lineHas
   have:¬ f<l.first+l.count:=by lia
   simp [this]
  have ih:=Zdm L (a+l.count) n i hc.2.2 (by rw [← hc.1];exact he) (by simpa using hi) (fun t x ht hx=>h2 (t+1) x (by lia) (by simpa using hx)) (by
   rcases h3 with h3 | ⟨x,hx,h3⟩
   ·exact .inl (by rw [List.length_cons] at h3;lia)
   ·exact .inr ⟨x,by simpa using hx,h3⟩)
  unfold lineOf at ih ⊢
  rw [List.findIdx?_cons,if_neg (by rw [hno];decide)]
  cases hj:L.findIdx? (lineHas f) with
  | none =>
   rw [hj] at ih
   have ih:L.length-1=i:=ih
   show (l::L).length-1=i+1
   rw [List.length_cons]
   have:i<L.length:=by simpa using hi
   lia
  | some j =>
   rw [hj] at ih
   have ih:j=i:=ih
   show j+1=i+1
   lia
theorem UR (s:Settings):∀ (ps:List (List Letters)) (a:Nat) (t:List Nat),(∀ q∈ps,q≠[])→ps.flatten.length≤t.length→Jx a (linesFrom s a t ps) (a+ps.flatten.length)
 | [],a,t,_,_=>by show a=a+0;rfl
 | q::ps,a,t,h,ht=>by
  have hq:0<q.length:=List.length_pos_iff.mpr (h q (by simp))
  rw [List.flatten_cons,List.length_append] at ht ⊢
  have hl:(t.take q.length).length=q.length:=by rw [List.length_take];lia
  have h1:=ZbZ (broken (s.width-s.indent) s.width (t.take q.length)) a true (JY _ _ _ (by lia))
  rw [JX _ _ _ (by lia),hl] at h1
  have h2:=UR s ps (a+q.length) (t.drop q.length) (fun x hx=>h x (by simp [hx])) (by rw [List.length_drop];lia)
  rw [← Nat.add_assoc]
  exact ZdC h1 h2
end Vp
end
section
namespace Vp
open Vh VhPage
def ownN (L:Laid) (i k:Nat):Nat:=(L.footOf k (L.numberOf i k)).length
def W5 (B:Nat→Nat) (n i:Nat):Nat:=((List.range (n-i)).map fun d=>B (i+d)).sum
theorem V6 (B:Nat→Nat) {n i:Nat} (h:i<n):W5 B n i=B i+W5 B n (i+1):=by
 unfold W5
 have e:n-i=(n-(i+1))+1:=by lia
 rw [e,List.range_succ_eq_map,List.map_cons,List.sum_cons,List.map_map]
 congr 1
 congr 1
 apply List.map_congr_left
 intro d _
 show B (i+(d+1))=B (i+1+d)
 congr 1;lia
theorem ZaR (B:Nat→Nat) {n i:Nat} (h:n≤i):W5 B n i=0:=by
 unfold W5
 have e:n-i=0:=by lia
 rw [e];rfl
theorem ZeC (B:Nat→Nat) (n:Nat):∀ i,W5 B n i≤W5 B n 0
 | 0=>Nat.le_refl _
 | i+1=>by
  have ih:=ZeC B n i
  by_cases h:i<n
  ·rw [V6 B h] at ih;lia
  ·rw [ZaR B (by lia)];lia
def meas (L:Laid) (B:Nat→Nat) (i:Nat) (c:List (List Letters)):Nat:=2 * (L.lines.size-i)+c.length+W5 B L.lines.size i
theorem Zd2 (L:Laid) (i:Nat):L.ownFoot i (i+1)=L.footOf i (L.numberOf i i):=by
 unfold Laid.ownFoot
 have e:i+1-i=1:=by lia
 rw [e];simp [List.range_succ]
theorem Zbx {L:Laid}{i:Nat}{c:List (List Letters)}:∀ (f j:Nat) (own:List (List Letters)) (p:Page),i≤j→p∈L.wholesFrom i c f j own→p.first=i∧1≤p.lines∧j+1≤i+p.lines∧i+p.lines≤L.lines.size∧p.on=[]∧p.whole=true
 | 0,j,own,p,hj,h=>by simp [Laid.wholesFrom] at h
 | f+1,j,own,p,hj,h=>by
  unfold Laid.wholesFrom at h
  split at h
  ·simp at h
  ·rename_i hs
   simp only [] at h
   split at h
   ·simp at h
   ·rcases List.mem_cons.mp h with rfl | h
    ·refine ⟨rfl,?_,?_,?_,rfl,rfl⟩
     ·show 1≤j+1-i;lia
     ·show j+1≤i+(j+1-i);lia
     ·show i+(j+1-i)≤L.lines.size;lia
    ·have:=Zbx f (j+1) _ p (by lia) h
     exact ⟨this.1,this.2.1,by lia,this.2.2.2⟩
theorem Zea {L:Laid}{i:Nat}{c:List (List Letters)}{p:Page} (h:p∈L.nexts i c):(p.on=[]∧1≤p.lines∧p.whole=true∧p.first=i∧i+p.lines≤L.lines.size)∨(i<L.lines.size∧p=L.cutPage i c∧L.wholes i c=[]∧c.length+3≤L.work.set.height)∨(c≠[]∧p=L.alonePage i c):=by
 unfold Laid.nexts at h
 simp only [] at h
 split at h
 ·left
  have hm:p∈L.wholesFrom i c L.work.set.height i []:=by unfold Laid.wholes at h;simpa using h
  have:=Zbx _ _ _ p (Nat.le_refl _) hm
  exact ⟨this.2.2.2.2.1,this.2.1,this.2.2.2.2.2,this.1,this.2.2.2.1⟩
 ·rename_i hw
  have hw:L.wholes i c=[]:=by
   cases z:L.wholes i c with
   | nil=>rfl
   | cons a b=>rw [z] at hw;simp at hw
  split at h
  ·rename_i hc
   right;left
   exact ⟨hc.1,by simpa using h,hw,hc.2⟩
  ·split at h
   ·simp at h
   ·rename_i hc
    right;right
    exact ⟨fun z=>hc (by rw [z];rfl),by simpa using h⟩
theorem ZaF {L:Laid}{B:Nat→Nat}{i:Nat}{c:List (List Letters)}{p:Page} (hB:∀ i k,ownN L i k≤B k) (hh:6≤L.work.set.height) (h:p∈L.nexts i c) (hn:¬ (p.on.isEmpty=true∧1≤p.lines)):meas L B (i+p.lines) p.on<meas L B i c:=by
 rcases Zea h with h | ⟨h1,rfl,_⟩ | ⟨h1,rfl⟩
 ·exact absurd ⟨by rw [h.1];rfl,h.2.1⟩ hn
 ·unfold meas
  have e1:(L.cutPage i c).lines=1:=rfl
  have e2:(L.cutPage i c).on=(c++L.ownFoot i (i+1)).drop (L.work.set.height-2):=rfl
  rw [e1,e2,Zd2,List.length_drop,List.length_append,V6 B h1]
  have:=hB i i
  unfold ownN at this
  lia
 ·unfold meas
  have e1:(L.alonePage i c).lines=0:=rfl
  have e2:(L.alonePage i c).on=c.drop (L.work.set.height-1):=rfl
  rw [e1,e2,List.length_drop,Nat.add_zero]
  have:=List.length_pos_iff.mpr h1
  lia
theorem ZbU {L:Laid}{K K':Nat→Nat×List Page}:∀ (f i:Nat) (c:List (List Letters)),(∀ j,i<j→K j=K' j)→L.pagesFrom K f i c=L.pagesFrom K' f i c
 | 0,i,c,h=>rfl
 | f+1,i,c,h=>by
  unfold Laid.pagesFrom
  split
  ·rfl
  ·congr 1
   apply List.map_congr_left
   intro p hp
   congr 1
   split
   ·rename_i z;exact h _ (by lia)
   ·exact ZbU f _ _ (fun j hj=>h j (by lia))
theorem Za8 {L:Laid}{B:Nat→Nat}{K:Nat→Nat×List Page} (hB:∀ i k,ownN L i k≤B k) (hh:6≤L.work.set.height):∀ (f f' i:Nat) (c:List (List Letters)),meas L B i c<f→meas L B i c<f'→L.pagesFrom K f i c=L.pagesFrom K f' i c
 | 0,_,_,_,h,_=>by lia
 | _+1,0,_,_,_,h=>by lia
 | f+1,f'+1,i,c,h,h'=>by
  unfold Laid.pagesFrom
  split
  ·rfl
  ·congr 1
   apply List.map_congr_left
   intro p hp
   congr 1
   split
   ·rfl
   ·rename_i z
    have:=ZaF hB hh hp z
    exact Za8 hB hh f f' _ _ (by lia) (by lia)
theorem ZgN (L:Laid):∀ k,(L.allFrom k).length=k
 | 0=>rfl
 | k+1=>by unfold Laid.allFrom;simp only [List.length_cons];rw [ZgN L k]
theorem ZcF (L:Laid):∀ d k,(L.allFrom (k+d)).drop d=L.allFrom k
 | 0,k=>by simp
 | d+1,k=>by
  have e:k+(d+1)=(k+d)+1:=by lia
  rw [e]
  conv=>lhs;unfold Laid.allFrom
  simp only [List.drop_succ_cons]
  exact ZcF L d k
def kn (L:Laid) (j:Nat):Nat×List Page:=(L.allFrom L.lines.size).getD j (0,[])
theorem ZjV (L:Laid) {i:Nat} (h:i<L.lines.size):kn L i=L.pagesFrom (kn L) L.most i []:=by
 have e:L.lines.size=(L.lines.size-i)+i:=by lia
 have h1:(L.allFrom L.lines.size).getD i (0,[])=(L.allFrom (L.lines.size-i)).getD 0 (0,[]):=by
  have:=ZcF L i (L.lines.size-i)
  rw [← e] at this
  rw [← this];simp [List.getD_eq_getElem?_getD]
 obtain ⟨k,hk⟩:∃ k,L.lines.size-i=k+1:=⟨L.lines.size-i-1,by lia⟩
 unfold kn
 rw [h1,hk]
 conv=>lhs;unfold Laid.allFrom
 simp only [List.getD_cons_zero]
 have ei:L.lines.size-(k+1)=i:=by lia
 rw [ei]
 apply ZbU
 intro j hj
 have h2:(L.allFrom L.lines.size).drop (i+1)=L.allFrom k:=by
  have:=ZcF L (i+1) k
  have e2:k+(i+1)=L.lines.size:=by lia
  rw [e2] at this;exact this
 rw [← h2]
 simp only [List.getD_eq_getElem?_getD,List.getElem?_drop]
 congr 2;lia
theorem Zji (L:Laid) {j:Nat} (h:L.lines.size≤j):kn L j=(0,[]):=by
 unfold kn
 rw [List.getD_eq_getElem?_getD,List.getElem?_eq_none (by rw [ZgN];exact h)];rfl
def best (L:Laid) (B:Nat→Nat) (i:Nat) (c:List (List Letters)):Nat×List Page:=L.pagesFrom (kn L) (meas L B i c+1) i c
theorem V9 (L:Laid) (B:Nat→Nat) {i:Nat} (h:L.lines.size≤i):best L B i []=(0,[]):=by
 unfold best Laid.pagesFrom
 rw [if_pos ⟨h,rfl⟩]
structure Fits (L:Laid) (B:Nat→Nat):Prop where
 own:∀ i k,ownN L i k≤B k
 high:6≤L.work.set.height
 most:W5 B L.lines.size 0+2 * L.lines.size+1≤L.most
theorem Zgj {L:Laid}{B:Nat→Nat} (hF:Fits L B) (j:Nat):kn L j=best L B j []:=by
 by_cases h:j<L.lines.size
 ·rw [ZjV L h]
  unfold best
  refine Za8 hF.own hF.high _ _ _ _ ?_ (by lia)
  unfold meas
  have:=ZeC B L.lines.size j
  have:=hF.most
  simp only [List.length_nil]
  lia
 ·rw [Zji L (by lia),V9 L B (by lia)]
theorem Zer {L:Laid}{B:Nat→Nat} (hF:Fits L B) (i:Nat) (c:List (List Letters)):best L B i c=if L.lines.size≤i∧c.isEmpty=true then (0,[]) else firstOf ((L.nexts i c).map fun p=>L.with_ p (best L B (i+p.lines) p.on)):=by
 conv=>lhs;unfold best Laid.pagesFrom
 split
 ·rfl
 ·congr 1
  apply List.map_congr_left
  intro p hp
  congr 1
  split
  ·rename_i z
   rw [Zgj hF,List.isEmpty_iff.mp z.1]
  ·rename_i z
   have:=ZaF hF.own hF.high hp z
   unfold best
   exact Za8 hF.own hF.high _ _ _ _ (by lia) (by lia)
theorem ZbK {L:Laid}{B:Nat→Nat} (hF:Fits L B):L.pages=(best L B 0 []).2:=by
 rw [← Zgj hF 0]
 unfold Laid.pages kn
 cases L.allFrom L.lines.size <;> rfl
def Xs {α:Type} (xs:List (Nat×α)):Option (Nat×α):=xs.foldl (fun b y=>match b with
 | none=>some y
 | some x=>if y.1≤x.1 then some y else some x) none
def min2 (a b:Nat×List Page):Nat×List Page:=if b.1<a.1 then b else a
theorem Zfl (a b c:Nat×List Page):min2 (min2 a b) c=min2 a (min2 b c):=by
 unfold min2
 by_cases h1:b.1<a.1 <;> by_cases h2:c.1<b.1 <;> simp [h1,h2]
 ·intro h;lia
 ·intro h;lia
theorem Zdu:∀ (r:List (Nat×List Page)) (y x:Nat×List Page),r.foldl min2 (min2 y x)=min2 y (r.foldl min2 x)
 | [],y,x=>rfl
 | z::r,y,x=>by
  rw [List.foldl_cons,List.foldl_cons,Zfl,Zdu r]
theorem XU {α:Type} (xs:List (Nat×α)) (y:Nat×α):Xs (xs++[y])=match Xs xs with
 | none=>some y
 | some x=>if y.1≤x.1 then some y else some x:=by
 unfold Xs
 rw [List.foldl_append];rfl
theorem Zca {α:Type}{Q:List α→Prop} (h0:Q []) (hs:∀ xs y,Q xs→Q (xs++[y])) (xs:List α):Q xs:=by
 have:∀ (n:Nat) (xs:List α),xs.length=n→Q xs:=by
  intro n
  induction n with
  | zero=>intro xs h;rw [List.length_eq_zero_iff.mp h];exact h0
  | succ n ih =>
   intro xs h
   have hne:xs≠[]:=fun z=>by rw [z] at h;cases h
   rcases List.eq_nil_or_concat xs with z | ⟨l,b,z⟩
   ·exact absurd z hne
   ·rw [z,List.concat_eq_append] at h ⊢
    exact hs _ _ (ih _ (by simpa using h))
 exact this _ _ rfl
theorem VP {α:Type} (xs:List (Nat×α)) (h:xs≠[]):∃ b,Xs xs=some b∧b∈xs:=by
 refine Zca (Q:=fun xs=>xs≠[]→∃ b,Xs xs=some b∧b∈xs) (fun h=>absurd rfl h) ?_ xs h
 intro xs y ih _
 rw [XU]
 by_cases hx:xs=[]
 ·subst hx;exact ⟨y,rfl,by simp⟩
 ·obtain ⟨b,hb,hm⟩:=ih hx
  rw [hb]
  simp only []
  split
  ·exact ⟨y,rfl,by simp⟩
  ·exact ⟨b,rfl,by simp [hm]⟩
theorem Za9 (xs:List (Nat×List Page)):firstOf xs.reverse=(Xs xs).getD (0,[]):=by
 refine Zca (Q:=fun xs=>firstOf xs.reverse=(Xs xs).getD (0,[])) rfl ?_ xs
 intro xs y ih
 rw [XU,List.reverse_append]
 show firstOf (y::xs.reverse)=_
 by_cases hx:xs=[]
 ·subst hx;rfl
 ·obtain ⟨b,hb,_⟩:=VP xs hx
  rw [hb] at ih ⊢
  obtain ⟨x,r,hr⟩:∃ x r,xs.reverse=x::r:=by
   cases z:xs.reverse with
   | nil=>simp at z;exact absurd z hx
   | cons x r=>exact ⟨x,r,rfl⟩
  rw [hr] at ih ⊢
  have ih:r.foldl min2 x=b:=ih
  show (x::r).foldl min2 y=_
  rw [List.foldl_cons,Zdu,ih]
  unfold min2
  simp only []
  split <;> split
  ·lia
  ·rfl
  ·rfl
  ·lia
theorem Zeh {α β:Type} (g:α→β) (xs:List (Nat×α)):Xs (xs.map fun y=>(y.1,g y.2))=(Xs xs).map fun y=>(y.1,g y.2):=by
 refine Zca (Q:=fun xs=>Xs (xs.map fun y=>(y.1,g y.2))=(Xs xs).map fun y=>(y.1,g y.2)) rfl ?_ xs
 intro xs y ih
 rw [List.map_append,List.map_cons,List.map_nil,XU,XU,ih]
 cases Xs xs with
 | none=>rfl
 | some b =>
  simp only [Option.map_some]
  split <;> rfl
end Vp
end
section
namespace Vp
open Vh VhPage
def ownS (L:Laid) (i k:Nat):Nat:=(L.ownFoot i k).length
theorem Zag (L:Laid) {i k:Nat} (h:i≤k):L.ownFoot i (k+1)=L.ownFoot i k++L.footOf k (L.numberOf i k):=by
 unfold Laid.ownFoot
 have e:k+1-i=(k-i)+1:=by lia
 have e2:i+(k-i)=k:=by lia
 rw [e,List.range_succ,List.flatMap_append]
 simp [e2]
theorem ZaV (L:Laid) (i:Nat):L.ownFoot i i=[]:=by
 unfold Laid.ownFoot;simp
theorem ZeM (L:Laid) (i:Nat):ownS L i i=0:=by unfold ownS;rw [ZaV];rfl
theorem Zc6 (L:Laid) {i k:Nat} (h:i≤k):ownS L i (k+1)=ownS L i k+ownN L i k:=by
 unfold ownS ownN;rw [Zag L h,List.length_append]
theorem Zcn (L:Laid) (i:Nat):ownS L i (i+1)=ownN L i i:=by rw [Zc6 L (Nat.le_refl _),ZeM,Nat.zero_add]
def whole (L:Laid) (i:Nat) (c:List (List Letters)) (k:Nat):Page:=⟨i,k+1-i,c.length,ownS L i (k+1),c++L.ownFoot i (k+1),[],true⟩
def Yr (L:Laid) (i C k:Nat):Nat:=wantsOf (k+1-i) (C+ownS L i (k+1))
theorem Xx (L:Laid) (i:Nat) (c:List (List Letters)) (k:Nat):(whole L i c k).wants=Yr L i c.length k:=by
 unfold Page.wants whole Yr ownS
 simp only [List.length_append]
def wl (L:Laid) (i:Nat) (c:List (List Letters)):List Page:=L.wholesFrom i c L.work.set.height i []
theorem ZcJ (L:Laid) (i:Nat) (c:List (List Letters)):L.wholes i c=(wl L i c).reverse:=rfl
theorem ZbT (L:Laid) (i:Nat) (c:List (List Letters)) (f:Nat) {j:Nat} (h:i≤j):L.wholesFrom i c (f+1) j (L.ownFoot i j)=if L.lines.size≤j then [] else if L.work.set.height<Yr L i c.length j then [] else whole L i c j::L.wholesFrom i c f (j+1) (L.ownFoot i (j+1)):=by
 conv=>lhs;unfold Laid.wholesFrom
 rw [← Zag L h,← Xx]
 rfl
theorem Zeu (L:Laid) (i:Nat) (c:List (List Letters)) (d:Nat) (h1:i+d≤L.lines.size) (h2:∀ e,e<d→Yr L i c.length (i+e)≤L.work.set.height) (h3:L.lines.size≤i+d∨L.work.set.height<Yr L i c.length (i+d)):∀ (m f j:Nat),d=j+m→m≤f→L.wholesFrom i c f (i+j) (L.ownFoot i (i+j))=(List.range m).map fun e=>whole L i c (i+(j+e))
 | 0,0,j,_,_=>rfl
 | 0,f+1,j,hd,_=>by
  rw [ZbT L i c f (by lia)]
  have e:d=j:=by lia
  subst e
  rcases h3 with h3 | h3
  ·rw [if_pos h3];rfl
  ·rw [if_pos h3];simp
 | m+1,0,j,_,hf=>by lia
 | m+1,f+1,j,hd,hf=>by
  rw [ZbT L i c f (by lia),if_neg (by lia),if_neg (by have:=h2 j (by lia);lia)]
  have ih:=Zeu L i c d h1 h2 h3 m f (j+1) (by lia) (by lia)
  rw [show i+j+1=i+(j+1) by lia,ih,List.range_succ_eq_map,List.map_cons,List.map_map]
  congr 1
  apply List.map_congr_left
  intro e _
  show whole L i c (i+(j+1+e))=whole L i c (i+(j+(e+1)))
  congr 1;lia
theorem Zh3 (L:Laid) (i:Nat) (c:List (List Letters)) (d:Nat) (h1:i+d≤L.lines.size) (h2:∀ e,e<d→Yr L i c.length (i+e)≤L.work.set.height) (h3:L.lines.size≤i+d∨L.work.set.height<Yr L i c.length (i+d)):wl L i c=(List.range d).map fun e=>whole L i c (i+e):=by
 have hd:d≤L.work.set.height:=by
  cases d with
  | zero=>lia
  | succ d =>
   have:=h2 d (by lia)
   unfold Yr wantsOf at this
   lia
 have:=Zeu L i c d h1 h2 h3 d L.work.set.height 0 (by lia) hd
 rw [Nat.add_zero,ZaV] at this
 unfold wl
 rw [this]
 apply List.map_congr_left
 intro e _
 rw [Nat.zero_add]
theorem ZiU (L:Laid) (i:Nat) (c:List (List Letters)) (hi:i≤L.lines.size):∃ d,i+d≤L.lines.size∧(∀ e,e<d→Yr L i c.length (i+e)≤L.work.set.height)∧(L.lines.size≤i+d∨L.work.set.height<Yr L i c.length (i+d)):=by
 have:∀ m d,i+d+m=L.lines.size→(∀ e,e<d→Yr L i c.length (i+e)≤L.work.set.height)→∃ d,i+d≤L.lines.size∧(∀ e,e<d→Yr L i c.length (i+e)≤L.work.set.height)∧(L.lines.size≤i+d∨L.work.set.height<Yr L i c.length (i+d)):=by
  intro m
  induction m with
  | zero=>intro d h h2;exact ⟨d,by lia,h2,.inl (by lia)⟩
  | succ m ih =>
   intro d h h2
   by_cases z:L.work.set.height<Yr L i c.length (i+d)
   ·exact ⟨d,by lia,h2,.inr z⟩
   ·refine ih (d+1) (by lia) fun e he=>?_
    by_cases y:e=d
    ·subst y;lia
    ·exact h2 e (by lia)
 exact this (L.lines.size-i) 0 (by lia) (fun e he=>by lia)
theorem Zbw (L:Laid) (i:Nat) (c:List (List Letters)) (hi:i≤L.lines.size):wl L i c=[]↔(L.lines.size≤i∨L.work.set.height<Yr L i c.length i):=by
 obtain ⟨d,h1,h2,h3⟩:=ZiU L i c hi
 rw [Zh3 L i c d h1 h2 h3]
 cases d with
 | zero=>simp;simpa using h3
 | succ d =>
  have:=h2 0 (by lia)
  rw [Nat.add_zero] at this
  constructor
  ·intro z;simp [List.range_succ] at z
  ·intro z;lia
theorem Zet (L:Laid) (i:Nat) (c:List (List Letters)) (hi:i≤L.lines.size) {p:Page} (hp:p∈wl L i c):∃ k,i≤k∧k<L.lines.size∧p=whole L i c k∧Yr L i c.length k≤L.work.set.height:=by
 obtain ⟨d,h1,h2,h3⟩:=ZiU L i c hi
 rw [Zh3 L i c d h1 h2 h3,List.mem_map] at hp
 obtain ⟨e,he,rfl⟩:=hp
 rw [List.mem_range] at he
 exact ⟨i+e,by lia,by lia,rfl,h2 e he⟩
def ZeP (L:Laid) (i e:Nat):Nat:=(if (L.line (e-1)).begins=true∧(L.line (e-1)).ends=false then L.work.set.loose else 0)+(if (L.line i).ends=true∧(L.line i).begins=false then L.work.set.loose else 0)
def ZaA (L:Laid) (i e w:Nat):Nat:=ZeP L i e+(if e<L.lines.size then (L.work.set.height-w) ^ 2 else 0)
theorem Us (L:Laid) (i:Nat) (c:List (List Letters)) {k:Nat} (h:i≤k) (last:Bool) (hl:last=decide (L.lines.size≤k+1)):L.pageCost (whole L i c k) last=ZaA L i (k+1) (Yr L i c.length k):=by
 unfold Laid.pageCost
 have e0:(whole L i c k).whole=true:=rfl
 have e1:(whole L i c k).first=i:=rfl
 have e2:(whole L i c k).lines=k+1-i:=rfl
 have e3:i+(k+1-i)-1=k:=by lia
 rw [e0,if_neg (by decide),Xx]
 unfold ZaA Laid.looseEnds ZeP
 simp only [e1,e2,e3,hl]
 by_cases z:k+1<L.lines.size
 ·rw [if_neg (by simp;lia),if_pos z,Nat.add_comm];rfl
 ·rw [if_pos (by simp;lia),if_neg z];simp
theorem Zek (l:List (Nat×List Page)) (h:l≠[]):firstOf l∈l:=by
 have:=Za9 l.reverse
 rw [List.reverse_reverse] at this
 obtain ⟨b,hb,hm⟩:=VP l.reverse (by simpa using h)
 rw [this,hb]
 simpa using hm
variable {L:Laid}{B:Nat→Nat}
theorem ZeO (hh:6≤L.work.set.height) {i:Nat}{c:List (List Letters)} (h:i<L.lines.size∨c≠[]):L.nexts i c≠[]:=by
 unfold Laid.nexts
 simp only []
 split
 ·rename_i z;intro y;rw [y] at z;simp at z
 ·split
  ·simp
  ·rename_i z
   split
   ·rename_i y
    have y:c=[]:=List.isEmpty_iff.mp y
    subst y
    rcases h with h | h
    ·exact absurd ⟨h,by simp only [List.length_nil];lia⟩ z
    ·exact absurd rfl h
   ·simp
theorem ZiP (hF:Fits L B) {i:Nat}{c:List (List Letters)} (h:i<L.lines.size∨c≠[]):(best L B i c).2≠[]:=by
 rw [Zer hF,if_neg (by
  rintro ⟨h1,h2⟩
  rcases h with h | h
  ·lia
  ·exact h (List.isEmpty_iff.mp h2))]
 have:=Zek ((L.nexts i c).map fun p=>L.with_ p (best L B (i+p.lines) p.on)) (by
  intro z
  exact ZeO hF.high h (List.map_eq_nil_iff.mp z))
 obtain ⟨p,_,hp⟩:=List.mem_map.mp this
 rw [← hp]
 unfold Laid.with_
 simp
theorem Zb2 (hF:Fits L B) {j:Nat} (c:List (List Letters)):(best L B j c).2.isEmpty=(decide (L.lines.size≤j) && c.isEmpty):=by
 by_cases h:j<L.lines.size∨c≠[]
 ·have h1:=ZiP hF h
  have:(best L B j c).2.isEmpty=false:=by
   cases z:(best L B j c).2 with
   | nil=>exact absurd z h1
   | cons a b=>rfl
  rw [this]
  rcases h with h | h
  ·have:¬ L.lines.size≤j:=by lia
   simp [this]
  ·cases c with
   | nil=>exact absurd rfl h
   | cons a b=>simp
 ·have hc:c=[]:=Classical.byContradiction fun z=>h (.inr z)
  subst hc
  have hj:L.lines.size≤j:=Classical.byContradiction fun z=>h (.inl (by lia))
  rw [V9 L B hj];simp [hj]
def cst (L:Laid) (B:Nat→Nat) (i:Nat) (p:Page):Nat:=ZaA L i (i+p.lines) p.wants+(best L B (i+p.lines) []).1
def Zbv (L:Laid) (B:Nat→Nat) (i:Nat) (xs:List Page):Option (Nat×Page):=Xs (xs.map fun p=>(cst L B i p,p))
theorem ZfB (L:Laid) (B:Nat→Nat) (i:Nat) (xs:List Page) (p:Page):Zbv L B i (xs++[p])=match Zbv L B i xs with
 | none=>some (cst L B i p,p)
 | some x=>if cst L B i p≤x.1 then some (cst L B i p,p) else some x:=by
 unfold Zbv
 rw [List.map_append,List.map_cons,List.map_nil,XU]
 cases Xs (List.map (fun p=>(cst L B i p,p)) xs) <;> rfl
theorem Zb4 (L:Laid) (B:Nat→Nat) (i:Nat) (xs:List Page) (h:xs≠[]):∃ p,p∈xs∧Zbv L B i xs=some (cst L B i p,p):=by
 obtain ⟨b,hb,hm⟩:=VP (xs.map fun p=>(cst L B i p,p)) (by simpa using h)
 obtain ⟨p,hp,rfl⟩:=List.mem_map.mp hm
 exact ⟨p,hp,hb⟩
theorem JZ (hF:Fits L B) {i:Nat}{c:List (List Letters)} (hi:i≤L.lines.size) (hw:wl L i c≠[]):∃ p,p∈wl L i c∧Zbv L B i (wl L i c)=some (cst L B i p,p)∧best L B i c=(cst L B i p,p::(best L B (i+p.lines) []).2):=by
 obtain ⟨p,hp,hb⟩:=Zb4 L B i _ hw
 refine ⟨p,hp,hb,?_⟩
 have hn:¬ (L.lines.size≤i∧c.isEmpty=true):=by
  rintro ⟨z,_⟩
  exact hw ((Zbw L i c hi).mpr (.inl z))
 rw [Zer hF,if_neg hn]
 have e:L.nexts i c=(wl L i c).reverse:=by
  unfold Laid.nexts
  simp only []
  rw [ZcJ,if_pos (by simpa using hw)]
 rw [e,List.map_reverse,Za9]
 have e2:((wl L i c).map fun p=>L.with_ p (best L B (i+p.lines) p.on))=((wl L i c).map fun p=>(cst L B i p,p)).map fun y=>(y.1,y.2::(best L B (i+y.2.lines) []).2):=by
  rw [List.map_map]
  apply List.map_congr_left
  intro q hq
  obtain ⟨k,hk,hkn,rfl,_⟩:=Zet L i c hi hq
  show L.with_ _ _=_
  unfold Laid.with_ cst
  have e3:(whole L i c k).on=[]:=rfl
  have e4:i+(whole L i c k).lines=k+1:=by show i+(k+1-i)=k+1;lia
  simp only [e3,e4,Xx]
  rw [Zb2 hF,Us L i c hk _ (by simp)]
  simp only [Function.comp_apply,e4,Xx]
 rw [e2,Zeh (fun (p:Page)=>p::(best L B (i+p.lines) []).2)]
 unfold Zbv at hb
 rw [hb];rfl
def Z2 (L:Laid) (i:Nat) (c:List (List Letters)):Page:=if i<L.lines.size∧c.length+3≤L.work.set.height then L.cutPage i c else L.alonePage i c
theorem ZbV {i:Nat}{c:List (List Letters)} (hw:wl L i c=[]) (h:i<L.lines.size∨c≠[]) (hh:6≤L.work.set.height):L.nexts i c=[Z2 L i c]:=by
 have:=ZeO hh h
 unfold Z2
 unfold Laid.nexts at *
 simp only [ZcJ,hw] at *
 rw [if_neg (by simp)] at *
 split
 ·rfl
 ·rename_i z
  rw [if_neg z] at this
  split
  ·rename_i y;rw [if_pos y] at this;exact absurd rfl this
  ·rfl
theorem UT (hF:Fits L B) {i:Nat}{c:List (List Letters)} (hw:wl L i c=[]) (h:i<L.lines.size∨c≠[]):best L B i c=((best L B (i+(Z2 L i c).lines) (Z2 L i c).on).1,Z2 L i c::(best L B (i+(Z2 L i c).lines) (Z2 L i c).on).2):=by
 conv=>lhs;rw [Zer hF,if_neg (by
  rintro ⟨h1,h2⟩
  rcases h with h | h
  ·lia
  ·exact h (List.isEmpty_iff.mp h2)),ZbV hw h hF.high]
 show L.with_ _ _=_
 unfold Laid.with_ Laid.pageCost
 have:(Z2 L i c).whole=false:=by unfold Z2;split <;> rfl
 rw [this,if_pos rfl,Nat.zero_add]
theorem UL (hF:Fits L B) {i:Nat}{c:List (List Letters)} (hi:i≤L.lines.size) (hw:wl L i c=[]) (h:i<L.lines.size∨c≠[]):meas L B (i+(Z2 L i c).lines) (Z2 L i c).on<meas L B i c:=by
 refine ZaF hF.own hF.high (by rw [ZbV hw h hF.high];simp) ?_
 rintro ⟨h1,h2⟩
 unfold Z2 at h1 h2
 split at h1
 ·rename_i z
  have:=(Zbw L i c hi).mp hw
  have hk:L.work.set.height<Yr L i c.length i:=by lia
  have e:(L.cutPage i c).on=(c++L.ownFoot i (i+1)).drop (L.work.set.height-2):=rfl
  rw [e] at h1
  have h1:=congrArg List.length (List.isEmpty_iff.mp h1)
  rw [List.length_drop,List.length_append] at h1
  unfold Yr wantsOf ownS at hk
  simp only [List.length_nil] at h1
  split at hk <;> lia
 ·rename_i z
  rw [if_neg z] at h2
  exact absurd h2 (by show ¬ 1≤0;lia)
def Vo (L:Laid):List Page→List (Page×Nat)
 | []=>[]
 | p::r=>(p,L.pageCost p r.isEmpty)::Vo L r
theorem ZcH (L:Laid):∀ l,(Vo L l).length=l.length
 | []=>rfl
 | p::r=>by simp [Vo,ZcH L r]
theorem Zax (L:Laid):∀ (l:List Page) (k:Nat) (p:Page),l[k]?=some p→(Vo L l)[k]?=some (p,L.pageCost p (decide (k+1=l.length)))
 | [],k,p,h=>by simp at h
 | q::r,0,p,h=>by
  simp at h;subst h
  have e:r.isEmpty=decide (0+1=(q::r).length):=by cases r <;> simp
  rw [Vo,List.getElem?_cons_zero,e]
 | q::r,k+1,p,h=>by
  rw [Vo,List.getElem?_cons_succ,Zax L r k p (by simpa using h)]
  have e:decide (k+1=r.length)=decide (k+1+1=(q::r).length):=decide_eq_decide.mpr (by rw [List.length_cons];lia)
  rw [e]
theorem ZdP (hF:Fits L B) {i:Nat}{c:List (List Letters)} (hi:i≤L.lines.size) {k:Nat} (hk:i≤k) (hb:best L B i c=(cst L B i (whole L i c k),whole L i c k::(best L B (i+(whole L i c k).lines) []).2)):Vo L (best L B i c).2=(whole L i c k,ZaA L i (k+1) (Yr L i c.length k))::Vo L (best L B (k+1) []).2:=by
 have e4:i+(whole L i c k).lines=k+1:=by show i+(k+1-i)=k+1;lia
 rw [hb,e4]
 simp only [Vo]
 rw [Zb2 hF,Us L i c hk _ (by simp)]
theorem ZcI (hF:Fits L B) {i:Nat}{c:List (List Letters)} (hw:wl L i c=[]) (h:i<L.lines.size∨c≠[]):Vo L (best L B i c).2=(Z2 L i c,0)::Vo L (best L B (i+(Z2 L i c).lines) (Z2 L i c).on).2:=by
 rw [UT hF hw h]
 simp only [Vo]
 unfold Laid.pageCost
 have:(Z2 L i c).whole=false:=by unfold Z2;split <;> rfl
 rw [this,if_pos rfl]
end Vp
end
section
namespace Vp
open Vh VhPage
theorem UM {α β:Type} (g:α→Nat) (h:α→β):∀ (xs:List α) (a:Array (List β)) (k:Nat),k<a.size→(xs.foldl (fun a x=>a.modify (g x) fun l=>l++[h x]) a).getD k []=a.getD k []++(xs.filter fun x=>g x==k).map h
 | [],a,k,hk=>by simp
 | x::xs,a,k,hk=>by
  rw [List.foldl_cons,UM g h xs _ k (by rw [Array.size_modify];exact hk)]
  have e:(a.modify (g x) fun l=>l++[h x]).getD k []=if g x=k then a.getD k []++[h x] else a.getD k []:=by
   rw [Array.getD_eq_getD_getElem?,Array.getElem?_modify,Array.getD_eq_getD_getElem?]
   split
   ·rename_i z
    rw [Array.getElem?_eq_getElem hk];rfl
   ·rfl
  rw [e,List.filter_cons]
  by_cases z:g x=k
  ·rw [if_pos z,if_pos (by simpa using z),List.map_cons,List.append_assoc];rfl
  ·rw [if_neg z,if_neg (by simpa using z)]
theorem Zc2 {β:Type} (n k:Nat):(Array.replicate n ([]:List β)).getD k []=[]:=by
 rw [Array.getD_eq_getD_getElem?,Array.getElem?_replicate]
 split <;> rfl
def sgn (w:Work) (k:Nat):List (List Letters):=(w.signs.filter fun x=>x.1==k).map (·.2)
theorem Wr (w:Work):(laid w).work=w:=rfl
theorem ZbO (w:Work):(laid w).words=w.paras.flatten.toArray:=rfl
theorem Zgh (w:Work) (k:Nat):(laid w).word k=w.paras.flatten.getD k []:=by
 unfold Laid.word
 rw [ZbO];simp [List.getD_eq_getElem?_getD]
theorem Zfs (w:Work) {k:Nat} (h:k<w.paras.flatten.length):(laid w).signs.getD k []=sgn w k:=by
 have:=UM (fun x:Nat×List Letters=>x.1) (fun x=>x.2) w.signs (Array.replicate w.paras.flatten.length []) k (by simpa using h)
 rw [Zc2] at this
 exact this
def wtkS (w:Work) (k:Nat):Nat:=Xw w.widths (w.paras.flatten.getD k [])+(sgn w k).length
theorem Zh1 {α β:Type} (f:α×Nat→β) (l:List α) (k:Nat):(l.zipIdx.map f)[k]?=(l[k]?).map fun x=>f (x,k):=by
 rw [List.getElem?_map,List.getElem?_zipIdx,Option.map_map,Nat.zero_add];rfl
def tkl (w:Work):List Nat:=(laid w).takes.toList
theorem ZfI (w:Work):(tkl w).length=w.paras.flatten.length:=by
 show (List.map _ (List.zipIdx w.words)).length=_
 rw [List.length_map,List.length_zipIdx];rfl
theorem ZfJ (w:Work) {k:Nat} (h:k<w.paras.flatten.length):(tkl w)[k]?=some (wtkS w k):=by
 have e:tkl w=w.paras.flatten.zipIdx.map fun x=>w.thingTakes x.1+((laid w).signs.getD x.2 []).length:=rfl
 rw [e,Zh1,List.getElem?_eq_getElem h,Option.map_some,Zfs w h]
 unfold wtkS
 rw [List.getD_eq_getElem?_getD,List.getElem?_eq_getElem h];rfl
theorem Ze5 (w:Work) {k:Nat} (h:k<w.paras.flatten.length):(laid w).takes.getD k 0=wtkS w k:=by
 have:=ZfJ w h
 unfold tkl at this
 rw [Array.getElem?_toList] at this
 rw [Array.getD_eq_getD_getElem?,this];rfl
def lnl (w:Work):List Line:=linesFrom w.set 0 (tkl w) w.paras
theorem ZbP (w:Work):(laid w).lines=(lnl w).toArray:=rfl
theorem Yg (w:Work):(laid w).lines.size=(lnl w).length:=by rw [ZbP];simp
theorem Jp (w:Work) {k:Nat}{x:Line} (h:(lnl w)[k]?=some x):(laid w).line k=x:=by
 unfold Laid.line
 rw [ZbP];simp [h]
theorem Zai (w:Work) {k:Nat} (h:k<(lnl w).length):(laid w).entries.getD k []=w.entries.filter fun e=>lineOf (lnl w) e.first==k:=by
 have:=UM (fun x:Entry=>lineOf (lnl w) x.first) (fun x=>x) w.entries (Array.replicate (lnl w).length []) k (by simpa using h)
 rw [Zc2] at this
 simp only [List.map_id',List.nil_append] at this
 exact this
theorem Xu {w:Work} (h:WOk w):Jx 0 (lnl w) w.paras.flatten.length:=by
 have:=UR w.set w.paras 0 (tkl w) (fun q hq=>(h.para q hq).1) (by rw [ZfI];exact Nat.le_refl _)
 rw [Nat.zero_add] at this
 exact this
theorem VW:∀ {a n:Nat}{l:List Line}{k:Nat}{x:Line},Jx a l n→l[k]?=some x→a+k≤x.first∧1≤x.count∧x.first+x.count+(l.length-(k+1))≤n
 | a,n,[],k,x,h,hx=>by simp at hx
 | a,n,y::l,0,x,h,hx=>by
  simp at hx;subst hx
  have:∀ {a n:Nat}{l:List Line},Jx a l n→a+l.length≤n:=by
   intro a n l
   induction l generalizing a with
   | nil=>intro h;have:a=n:=h;simp;lia
   | cons y l ih=>intro h;have:=ih h.2.2;have:=h.2.1;rw [List.length_cons];lia
  have:=this h.2.2
  refine ⟨by rw [h.1];lia,h.2.1,?_⟩
  rw [List.length_cons,h.1];lia
 | a,n,y::l,k+1,x,h,hx=>by
  have:=VW h.2.2 (by simpa using hx)
  have:=h.2.1
  rw [List.length_cons]
  lia
theorem ZdB:∀ {a n:Nat}{l:List Line},Jx a l n→a+l.length≤n
 | a,n,[],h=>by have:a=n:=h;simp;lia
 | a,n,y::l,h=>by have:=ZdB h.2.2;have:=h.2.1;rw [List.length_cons];lia
theorem Zb1:∀ {a n:Nat}{l:List Line}{k:Nat}{x:Line},Jx a l n→l[k]?=some x→k+1=l.length→x.first+x.count=n
 | a,n,[],k,x,h,hx,_=>by simp at hx
 | a,n,y::l,0,x,h,hx,hk=>by
  simp at hx;subst hx
  have:l=[]:=List.length_eq_zero_iff.mp (by rw [List.length_cons] at hk;lia)
  subst this
  have h2:a+y.count=n:=h.2.2
  rw [h.1];exact h2
 | a,n,y::l,k+1,x,h,hx,hk=>Zb1 h.2.2 (by simpa using hx) (by rw [List.length_cons] at hk;lia)
theorem ZbY:∀ {a n:Nat}{l:List Line}{x:Line},Jx a l n→l[0]?=some x→x.first=a
 | a,n,[],x,h,hx=>by simp at hx
 | a,n,y::l,x,h,hx=>by simp at hx;subst hx;exact h.1
theorem Zb0:∀ {a n:Nat}{l:List Line}{k:Nat}{x y:Line},Jx a l n→l[k]?=some y→l[k+1]?=some x→x.first=y.first+y.count
 | a,n,[],k,x,y,h,hx,_=>by simp at hx
 | a,n,z::l,0,x,y,h,hy,hx=>by
  simp at hy;subst hy
  rw [h.1]
  exact ZbY h.2.2 (by simpa using hx)
 | a,n,z::l,k+1,x,y,h,hy,hx=>Zb0 h.2.2 (by simpa using hy) (by simpa using hx)
theorem UI {w:Work} (h:WOk w):(lnl w).length≤w.paras.flatten.length:=by
 have hc:=Xu h
 cases z:(lnl w).length with
 | zero=>lia
 | succ m =>
  have hx:(lnl w)[m]?=some (lnl w)[m]:=List.getElem?_eq_getElem (by lia)
  have:=VW hc hx
  lia
theorem ZgD {α:Type}:∀ (br:List Nat) (l:List α),(cut br l).length=br.length
 | [],l=>rfl
 | c::br,l=>by rw [cut,List.length_cons,List.length_cons,ZgD br]
theorem ZbM:∀ (br:List Nat),(∀ c∈br,1≤c)→br.length≤br.sum
 | [],h=>Nat.le_refl _
 | c::br,h=>by
  have:=ZbM br (fun x hx=>h x (by simp [hx]))
  have:=h c (by simp)
  rw [List.length_cons,List.sum_cons];lia
theorem ZgJ (fr r:Nat) (xs:List Nat):(broken fr r xs).length≤xs.length:=by
 cases xs with
 | nil=>exact Nat.le_refl _
 | cons x l =>
  have h1:=JX fr r (x::l) (by simp)
  have h2:=JY fr r (x::l) (by simp)
  have:=ZbM _ h2
  lia
def Y3 (w:Work) (k:Nat):Nat:=((w.entries.filter fun e=>lineOf (lnl w) e.first==k).map fun e=>e.toks.length+2).sum
theorem Zgw:∀ (es:List Entry) (f:Entry→Letters),es≠[]→1+(es.flatMap fun x=>f x::x.toks).length≤(es.map fun e=>e.toks.length+2).sum
 | [],f,h=>absurd rfl h
 | [e],f,h=>by simp;lia
 | e::e'::es,f,h=>by
  have:=Zgw (e'::es) f (by simp)
  rw [List.flatMap_cons,List.length_append,List.map_cons,List.sum_cons,List.length_cons]
  lia
theorem Zja (w:Work) {k:Nat} (hk:k<(lnl w).length) (i:Nat):ownN (laid w) i k≤Y3 w k:=by
 unfold ownN Laid.footOf
 simp only []
 rw [ZgD]
 refine Nat.le_trans (ZgJ _ _ _) ?_
 rw [List.length_map]
 unfold Laid.note
 simp only []
 rw [Zai w hk]
 unfold Y3
 generalize (w.entries.filter fun e=>lineOf (lnl w) e.first==k)=es
 cases es with
 | nil=>simp
 | cons e es =>
  rw [if_neg (by simp),List.length_cons]
  have:=Zgw (e::es) ((laid w).key k) (by simp)
  lia
theorem Zil (w:Work) {k:Nat} (hk:¬ k<(lnl w).length) (i:Nat):ownN (laid w) i k=0:=by
 unfold ownN Laid.footOf Laid.note
 have e:(laid w).entries.getD k []=[]:=by
  have hs:(laid w).entries.size=(lnl w).length:=by
   have:∀ (xs:List Entry) (a:Array (List Entry)),(xs.foldl (fun (a:Array (List Entry)) (x:Entry)=>a.modify (lineOf (lnl w) x.first) fun (r:List Entry)=>r++[x]) a).size=a.size:=by
    intro xs
    induction xs with
    | nil=>intro a;rfl
    | cons x xs ih=>intro a;rw [List.foldl_cons,ih,Array.size_modify]
   have:=this w.entries (Array.replicate (lnl w).length [])
   rw [Array.size_replicate] at this
   exact this
  rw [Array.getD_eq_getD_getElem?,Array.getElem?_eq_none (by lia)];rfl
 simp only [e]
 rfl
theorem ZfR (g m:Nat):∀ n,((List.range n).map fun k=>if m==k then g else 0).sum≤g∧(n≤m→((List.range n).map fun k=>if m==k then g else 0).sum=0)
 | 0=>by simp
 | n+1=>by
  have ih:=ZfR g m n
  rw [List.range_succ,List.map_append,List.sum_append]
  simp only [List.map_cons,List.map_nil,List.sum_cons,List.sum_nil,Nat.add_zero]
  constructor
  ·by_cases z:m=n
   ·subst z;rw [if_pos (by simp),ih.2 (Nat.le_refl _)];lia
   ·rw [if_neg (by simpa using z)];lia
  ·intro h
   rw [ih.2 (by lia),if_neg (by simp;lia)]
theorem ZfS (f g:Nat→Nat):∀ (l:List Nat),(l.map fun k=>f k+g k).sum=(l.map f).sum+(l.map g).sum
 | []=>rfl
 | x::l=>by simp only [List.map_cons,List.sum_cons];rw [ZfS f g l];lia
theorem ZbC (f:Entry→Nat) (g:Entry→Nat) (n:Nat):∀ (es:List Entry),((List.range n).map fun k=>((es.filter fun e=>f e==k).map g).sum).sum≤(es.map g).sum
 | []=>by
  have:∀ (l:List Nat),(l.map fun k=>(([]:List Entry).map g).sum).sum=0:=by
   intro l;induction l with
   | nil=>rfl
   | cons x l ih=>rw [List.map_cons,List.sum_cons,ih];rfl
  have:=this (List.range n)
  simp only [List.filter_nil]
  lia
 | e::es=>by
  have ih:=ZbC f g n es
  have h1:=(ZfR (g e) (f e) n).1
  have e1:((List.range n).map fun k=>(((e::es).filter fun e=>f e==k).map g).sum)=(List.range n).map fun k=>(if f e==k then g e else 0)+((es.filter fun e=>f e==k).map g).sum:=by
   apply List.map_congr_left
   intro k _
   rw [List.filter_cons]
   split
   ·rw [List.map_cons,List.sum_cons]
   ·rw [Nat.zero_add]
  rw [e1,ZfS,List.map_cons,List.sum_cons]
  lia
theorem Jv {w:Work} (h:WOk w):Fits (laid w) (Y3 w):=by
 refine ⟨fun i k=>?_,?_,?_⟩
 ·by_cases hk:k<(lnl w).length
  ·exact Zja w hk i
  ·rw [Zil w hk];exact Nat.zero_le _
 ·have:=h.set
  unfold Settings.ok inside at this
  simp only [Bool.and_eq_true,decide_eq_true_eq] at this
  exact this.2.1.1
 ·unfold Laid.most W5
  rw [Wr,Yg]
  have:=ZbC (fun e=>lineOf (lnl w) e.first) (fun e=>e.toks.length+2) (lnl w).length w.entries
  simp only [Nat.sub_zero,Nat.zero_add]
  have e:((List.range (lnl w).length).map fun d=>Y3 w d)=(List.range (lnl w).length).map fun k=>((w.entries.filter fun e=>lineOf (lnl w) e.first==k).map fun e=>e.toks.length+2).sum:=rfl
  rw [e]
  lia
theorem Xy {s:Settings} (h:s.ok=true):20≤s.width∧s.width≤240∧6≤s.height∧s.height≤240∧1≤s.indent∧s.indent≤16∧1≤s.every∧s.every≤100∧s.anew≤1∧s.loose≤10000:=by
 unfold Settings.ok inside at h
 simp only [Bool.and_eq_true,decide_eq_true_eq] at h
 lia
theorem ZdU {w:Work} (h:WOk w):(w.entries.map fun e=>e.toks.length+2).sum≤65536+2 * 4096:=by
 have:∀ (es:List Entry),(es.map fun e=>e.toks.length+2).sum=(es.map fun e=>e.toks.length).sum+2 * es.length:=by
  intro es
  induction es with
  | nil=>rfl
  | cons e es ih=>simp only [List.map_cons,List.sum_cons,List.length_cons];lia
 have:=this w.entries
 have:=h.toks
 have:=h.nent
 lia
def WS (w:Work) (l:Line):Nat:=takes (l.spots.map (wtkS w))
end Vp
end
section
namespace Vp
open Vh VhPage
def ZdD:Nat→List Page→Nat→Prop
 | a,[],n=>a=n
 | a,p::r,n=>p.first=a∧ZdD (a+p.lines) r n
variable {L:Laid}{B:Nat→Nat}
theorem VS (L:Laid) (i:Nat) (c:List (List Letters)):(Z2 L i c).first=i:=by unfold Z2;split <;> rfl
theorem VR {L:Laid}{i:Nat}{c:List (List Letters)} (hi:i≤L.lines.size):i+(Z2 L i c).lines≤L.lines.size:=by
 unfold Z2
 split
 ·rename_i h;have:=h.1;show i+1≤_;lia
 ·show i+0≤_;lia
theorem Ze2 {i k:Nat}{c:List (List Letters)} (h:i≤k) (hk:k<L.lines.size):meas L B (k+1) []<meas L B i c:=by
 unfold meas
 have h1:W5 B L.lines.size (k+1)≤W5 B L.lines.size i:=by
  have:∀ d,W5 B L.lines.size (i+d)≤W5 B L.lines.size i:=by
   intro d
   induction d with
   | zero=>exact Nat.le_refl _
   | succ d ihd =>
    by_cases h:i+d<L.lines.size
    ·have:=V6 B h
     rw [show i+(d+1)=i+d+1 by lia];lia
    ·rw [ZaR B (by lia)];lia
  have:=this (k+1-i)
  rw [show i+(k+1-i)=k+1 by lia] at this
  exact this
 simp only [List.length_nil]
 lia
theorem Zfm {w:Work} (h:WOk w):meas (laid w) (Y3 w) 0 []≤100000:=by
 have h1:=(Jv h).most
 unfold Laid.most at h1
 rw [Wr,Yg] at h1
 have h2:=ZdU h
 have h3:=UI h
 have h4:=h.size
 have h5:W5 (Y3 w) (lnl w).length 0≤(w.entries.map fun (e:Entry)=>e.toks.length+2).sum+1:=by lia
 unfold meas
 rw [Yg]
 simp only [List.length_nil]
 lia
theorem ZfA (hF:Fits L B):∀ (m i:Nat) (c:List (List Letters)),meas L B i c=m→i≤L.lines.size→ZdD i (best L B i c).2 L.lines.size:=by
 intro m
 induction m using Nat.strongRecOn with
 | _ m ih =>
  intro i c hm hi
  by_cases hn:i<L.lines.size∨c≠[]
  ·by_cases hw:wl L i c=[]
   ·rw [UT hF hw hn]
    refine ⟨VS L i c,?_⟩
    exact ih _ (by have:=UL hF hi hw hn;lia) _ _ rfl (VR hi)
   ·obtain ⟨p,hp,_,hb⟩:=JZ hF hi hw
    rw [hb]
    obtain ⟨k,hk,hkn,rfl,_⟩:=Zet L i c hi hp
    have e:i+(whole L i c k).lines=k+1:=by show i+(k+1-i)=k+1;lia
    refine ⟨rfl,?_⟩
    rw [e]
    refine ih (meas L B (k+1) []) ?_ _ _ rfl (by lia)
    rw [← hm]
    unfold meas
    have h1:W5 B L.lines.size (k+1)≤W5 B L.lines.size i:=by
     have:∀ d,W5 B L.lines.size (i+d)≤W5 B L.lines.size i:=by
      intro d
      induction d with
      | zero=>exact Nat.le_refl _
      | succ d ihd =>
       by_cases h:i+d<L.lines.size
       ·have:=V6 B h
        rw [show i+(d+1)=i+d+1 by lia];lia
       ·rw [ZaR B (by lia)];lia
     have:=this (k+1-i)
     rw [show i+(k+1-i)=k+1 by lia] at this
     exact this
    simp only [List.length_nil]
    lia
  ·have hc:c=[]:=Classical.byContradiction fun z=>hn (.inr z)
   subst hc
   have hj:L.lines.size≤i:=Classical.byContradiction fun z=>hn (.inl (by lia))
   rw [V9 L B hj]
   show i=_
   lia
theorem Zd1 (hF:Fits L B):ZdD 0 L.pages L.lines.size:=by
 rw [ZbK hF];exact ZfA hF _ _ _ rfl (Nat.zero_le _)
theorem ZeG:∀ (l:List Page) (b n t j:Nat) (p:Page),ZdD b l n→b≤t→l[j]?=some p→t<p.first+p.lines→(∀ i q,i<j→l[i]?=some q→q.first+q.lines≤t)→VhG.pageOf l t=j∧p.first≤t
 | [],b,n,t,j,p,_,_,h,_,_=>by simp at h
 | x::l,b,n,t,0,p,hc,hb,h,hp,_=>by
  simp at h;subst h
  have h1:x.first≤t:=by rw [hc.1];exact hb
  refine ⟨?_,h1⟩
  unfold VhG.pageOf
  rw [List.findIdx_cons];simp [h1,hp]
 | x::l,b,n,t,j+1,p,hc,hb,h,hp,hq=>by
  have hx:=hq 0 x (by lia) (by simp)
  have ih:=ZeG l (b+x.lines) n t j p hc.2 (by rw [← hc.1];exact hx) (by simpa using h) hp (fun i q hi h'=>hq (i+1) q (by lia) (by simpa using h'))
  refine ⟨?_,ih.2⟩
  unfold VhG.pageOf at ih ⊢
  rw [List.findIdx_cons,ih.1]
  have:¬ t<x.first+x.lines:=by lia
  simp [this]
theorem ZeF:∀ (l:List Page) (b n t:Nat),ZdD b l n→t<n→b≤t→∃ (j:Nat) (p:Page),l[j]?=some p∧t<p.first+p.lines
 | [],b,n,t,hc,ht,hb=>by have:b=n:=hc;lia
 | x::l,b,n,t,hc,ht,hb=>by
  by_cases h:t<x.first+x.lines
  ·exact ⟨0,x,by simp,h⟩
  ·obtain ⟨j,p,h1,h2⟩:=ZeF l (b+x.lines) n t hc.2 ht (by rw [← hc.1];lia)
   exact ⟨j+1,p,by simpa using h1,h2⟩
theorem Zdl {w:Work} (h:WOk w) {k:Nat}{x:Line} (hx:(lnl w)[k]?=some x):(laid w).lineTakes k=WS w x:=by
 unfold Laid.lineTakes WS
 rw [Jp w hx]
 congr 1
 apply List.map_congr_left
 intro d hd
 have:=VW (Xu h) hx
 unfold Line.spots at hd
 obtain ⟨e,he,rfl⟩:=List.mem_map.mp hd
 rw [List.mem_range] at he
 exact Ze5 w (by lia)
end Vp
end
section
set_option maxRecDepth 100000
namespace Vp
open PySem PySem.Spec PyProof.Rows L2
def top (i:Nat):Stmt:=PySem.Challenge.pw_vellumpages_s03_line.main.body.getD i (.Pass ⟨0,0,0,0⟩)
def stI (l:List Stmt) (i:Nat):Stmt:=l.getD i (.Pass ⟨0,0,0,0⟩)
def noEx:Expr:=.Constant .none 0 ⟨0,0,0,0⟩
def ZaG:Stmt→Expr
 | .Assign _ v _=>v
 | .Return (some v) _=>v
 | .Expr v _=>v
 | .AugAssign _ _ v _=>v
 | _=>noEx
def ZiL (e:Expr) (i:Nat):Expr:=match e with
 | .Call _ as _ _=>as.getD i noEx
 | _=>noEx
def exL:Expr→Expr
 | .BinOp a _ _ _=>a
 | _=>noEx
def exR:Expr→Expr
 | .BinOp _ _ b _=>b
 | _=>noEx
def lcSc:Expr→Scope
 | .ListComp _ _ sc _=>sc
 | _=>{ kind:=.function,names:=[],isGenerator:=false,isCoroutine:=false }
abbrev WT:=Nat→L2.St→Hp→Prop
def BdT (K:PySem.W.Frag) (ab:Addr) (bds:List (Nat×Nat)):Prop:=∃ vs,(∀ H,SqT K H ab vs)∧Paired (fun (x:Nat×Nat) v=>∃ b,v=.ref b∧(∀ H,SqT K H b [.int (x.1:Int),.int (x.2:Int)])∧x.2<10 ^ 11) bds vs
theorem Zcg {i j:Int}:scal (.int i) (.int j)=true:=rfl
theorem Zcd {i j:Str}:scal (.str i) (.str j)=true:=rfl
theorem Zch {i j:Bool}:scal (.bl i) (.bl j)=true:=rfl
theorem Zce:scal .non .non=true:=rfl
theorem Zcf {i:Int}:scal (.int i) .non=true:=rfl
structure Ad where
 CE:Addr
 CR:Addr
 CW:Addr
 CL:Addr
 CN:Addr
 CP:Addr
 aMARKS:Addr
 aENDS:Addr
 aSETTING_BOUNDS:Addr
 aCARET:Addr
 F_read_work:Addr
 PT:Addr
structure Txt (K:PySem.W.Frag) (mg:Str→Option Value) (a:Ad):Prop where
 exc:Exc K mg "NoText" a.CE
 clReader:Cls K a.CR
 n_t:ZF K a.CR "t"
 n_at:ZF K a.CR "at"
 clWork:Cls K a.CW
 n_width:ZF K a.CW "width"
 n_height:ZF K a.CW "height"
 n_indent:ZF K a.CW "indent"
 n_every:ZF K a.CW "every"
 n_anew:ZF K a.CW "anew"
 n_loose:ZF K a.CW "loose"
 n_rows:ZF K a.CW "rows"
 n_head:ZF K a.CW "head"
 n_paragraphs:ZF K a.CW "paragraphs"
 n_words:ZF K a.CW "words"
 n_signs:ZF K a.CW "signs"
 n_entries:ZF K a.CW "entries"
 clLine:Cls K a.CL
 nL_first:ZF K a.CL "first"
 nL_end:ZF K a.CL "end"
 nL_opens:ZF K a.CL "opens"
 nL_closes:ZF K a.CL "closes"
 nL_taken:ZF K a.CL "taken"
 nL_note:ZF K a.CL "note"
 clNote:Cls K a.CN
 nN_things:ZF K a.CN "things"
 nN_takes:ZF K a.CN "takes"
 nN_tails:ZF K a.CN "tails"
 clPage:Cls K a.CP
 nP_kind:ZF K a.CP "kind"
 nP_first:ZF K a.CP "first"
 nP_end:ZF K a.CP "end"
 nP_came:ZF K a.CP "came"
 nP_own:ZF K a.CP "own"
 nP_rest:ZF K a.CP "rest"
 nP_cost:ZF K a.CP "cost"
 nl:∀ b o,K.lookup b=some o→o.cls≠.type "list"
 len:mg "len"=none
 ord:mg "ord"=none
 min:mg "min"=none
 max:mg "max"=none
 range:mg "range"=none
 enumerate:mg "enumerate"=none
 str:mg "str"=none
 list:mg "list"=none
 sum:mg "sum"=none
 cBLANK:∃ u,mg "BLANK"=some (.int 32 u)
 cFIRST_LETTER:∃ u,mg "FIRST_LETTER"=some (.int 33 u)
 cLAST_CHARACTER:∃ u,mg "LAST_CHARACTER"=some (.int 1114111 u)
 cMOST_LETTERS:∃ u,mg "MOST_LETTERS"=some (.int 64 u)
 cWHOLE:∃ u,mg "WHOLE"=some (.int 0 u)
 cCUT:∃ u,mg "CUT"=some (.int 1 u)
 cFOOT_ALONE:∃ u,mg "FOOT_ALONE"=some (.int 2 u)
 cNO_BYTE:∃ u,mg "NO_BYTE"=some (.int 256 u)
 cMOST_ROWS:∃ u,mg "MOST_ROWS"=some (.int 64 u)
 cMOST_PARAGRAPHS:∃ u,mg "MOST_PARAGRAPHS"=some (.int 4096 u)
 cMOST_WORDS:∃ u,mg "MOST_WORDS"=some (.int 8192 u)
 cMOST_SIGNS:∃ u,mg "MOST_SIGNS"=some (.int 4096 u)
 cMOST_ENTRIES:∃ u,mg "MOST_ENTRIES"=some (.int 4096 u)
 cMOST_TOKENS:∃ u,mg "MOST_TOKENS"=some (.int 65536 u)
 cMOST_TOKENS_OF_ENTRY:∃ u,mg "MOST_TOKENS_OF_ENTRY"=some (.int 1024 u)
 cMOST_SIGN_THINGS:∃ u,mg "MOST_SIGN_THINGS"=some (.int 4 u)
 cMOST_SIGN_CHARACTERS:∃ u,mg "MOST_SIGN_CHARACTERS"=some (.int 16 u)
 cMOST_TEXT_BYTES:∃ u,mg "MOST_TEXT_BYTES"=some (.int 1048576 u)
 f_read_work:mg "read_work"=some (.ref a.F_read_work)
 cMARKS:mg "MARKS"=some (.ref a.aMARKS)
 tMARKS:∀ H,SqT K H a.aMARKS (Wq.map V.int)
 cENDS:mg "ENDS"=some (.ref a.aENDS)
 tENDS:∀ H,SqT K H a.aENDS [V.int 32,V.int 10]
 cSETTING_BOUNDS:mg "SETTING_BOUNDS"=some (.ref a.aSETTING_BOUNDS)
 tSETTING_BOUNDS:BdT K a.aSETTING_BOUNDS [(20,240),(6,240),(1,16),(1,100),(0,1),(0,10000)]
 cCARET:mg "CARET"=some (.ref a.aCARET)
 tCARET:∀ H,SqT K H a.aCARET [V.int 94]
end Vp
end
section
set_option maxRecDepth 100000
set_option maxHeartbeats 4000000
namespace Vp
open PySem PySem.Spec PyProof.Rows L2
local macro_rules | `(tactic| walk_at "rd")=>`(tactic| (try simp only [tSeq,tIfS,tOr,tAnd,tNot,ZcR,tB,tOp,rI0,rI,tVar,tC,ZbB,tRet,ZgW,Ze7,Ze8,tAsg,Jt,rEq,rNe,rIn,tAug,ipI,Zbi,Ze9,tNil,tUn,rU,tIf,ZgX,ZfQ,tOrV,tCB,ZbA,tTup,tLst,L2.start,L2.cxOf,List.map_cons,List.map_nil,List.length_cons,List.length_nil,List.replicate,List.cons_append,List.nil_append,List.append_nil,Nat.sub_self,Nat.zero_add,Nat.add_sub_cancel,Nat.reduceAdd,Nat.reduceSub,List.getElem?_cons_zero,List.getElem?_cons_succ,List.set_cons_zero,List.set_cons_succ,Option.some.injEq,V.int.injEq,V.bl.injEq,V.ref.injEq,V.str.injEq,exists_eq_left',exists_and_left,exists_const,true_and,and_true,Zcg,Zcd,Zch,Zce,Zcf,decide_eq_true_eq,Bool.not_eq_true',decide_eq_false_iff_not,Bool.not_not,Bool.not_true,Bool.not_false,if_true,if_false,ite_true,ite_false,↓reduceIte,Bool.false_eq_true,List.cons.injEq,exists_eq_left,gTup,Zgv,gNil,tBM,UA,JN,tSl,JI,Ze6,rSlL,ZcS]))
section
variable {P:Program}{w:World}{K:PySem.W.Frag}{mg:Str→Option Value}{base:Heap}{a:Ad}
theorem Jr (n:Int) (l:List Int):inV (.int n) (l.map V.int)=l.contains n:=by
 unfold inV
 rw [List.any_map,List.contains_eq_any_beq]
 congr 1
 funext y
 show (y==n)=(n==y)
 exact Bool.beq_comm
theorem Ju (l:List Int):(l.map V.int).all VT=true:=by
 rw [List.all_map,List.all_eq_true];intro _ _;rfl
def Wu (K:PySem.W.Frag) (a:Ad):Sp:=fun vs H Q _=>∃ n:Int,vs=[.int n]∧Q (.bl (isL n)) H
abbrev XC:Stmt:=top 6
theorem J6:Zp ["character"] ["character"] (Zc XC):=⟨rfl,rfl,rfl,by decide +kernel,rfl,by decide +kernel,by decide +kernel⟩
theorem Zdb {f:Addr}{fd:FuncData} (F:Fun K "is_letter" "is_letter" XC f fd) (T:Txt K mg a):FnOk P w K mg base CX0 1 f fd ["character"] (Wu K a):=by
 refine F.ok J6 (fun vs H Q E h=>?_) (fun cdv A outer s H vs Q E hr h=>?_)
 ·obtain ⟨n,rfl,q⟩:=h
  rfl
 ·obtain ⟨n,rfl,q⟩:=h
  have nd:=J6.nd
  refine ⟨_,(Zb (Ye (PW.pt (Zbj (Zq Wm (pv 0) (Z8 T.cFIRST_LETTER) (Zu _)) (Zbj (W7 WI WI Zh (pv 0) Zh) (Ja (Zq Je (pv 0) (UC T.cMARKS) (by with_unfolding_all rfl)))))) (Zf (Zs Zfg)) Zx) (Zf (Zs (Wk Wm (ZG Zjb (pv 0) Zh) Zh (Zu _))))),?_⟩
  have hm:=Jr n Wq
  have hf:=Ju Wq
  unfold isL at q
  walk_at "rd"
  split
  ·rename_i h;simpa [h] using q
  ·rename_i h1
   have last:(¬ (127≤n∧n≤159))→∃ x,(SqL K H a.aMARKS x∨SqT K H a.aMARKS x)∧VT (V.int n)=true∧x.all VT=true∧if inV (V.int n) x=true then Q (V.bl false) H else (0:Int)<65536∧Q (V.bl (decide (n % 65536<65534))) H:=fun h2=>by
    refine ⟨_,.inr (T.tMARKS H),rfl,hf,?_⟩
    rw [hm]
    have h3:(decide (127≤n) && decide (n≤159))=false:=by
     by_cases z:127≤n <;> simp [z] <;> lia
    rw [h3] at q
    generalize Wq.contains n=c at q
    cases c
    ·rw [if_neg (by decide)];exact ⟨by decide,by simpa [h1] using q⟩
    ·rw [if_pos rfl];simpa [h1] using q
   split
   ·split
    ·rename_i h2 h3;simpa [h1,h2,h3] using q
    ·exact last (by lia)
   ·exact last (by lia)
def WG (K:PySem.W.Frag) (a:Ad):Sp:=fun vs H Q _=>∃ v lo hi:Nat,vs=[.int v,.int lo,.int hi]∧hi<10 ^ 11∧Q (.bl (Vh.leadsTo lo hi v)) H
abbrev YY:Stmt:=top 57
theorem Ui:Zp ["value","low","high","least","most"] ["value","low","high"] (Zc YY):=⟨rfl,rfl,rfl,by decide +kernel,rfl,by decide +kernel,by decide +kernel⟩
theorem Zbn {f:Addr}{fd:FuncData} (F:Fun K "begins_some" "begins_some" YY f fd) (T:Txt K mg a):FnOk P w K mg base CX0 1 f fd ["value","low","high"] (WG K a):=by
 refine F.ok Ui (fun vs H Q E h=>?_) (fun cdv A outer s H vs Q E hr h=>?_)
 ·obtain ⟨v,lo,hi,rfl,hhi,q⟩:=h
  rfl
 ·obtain ⟨v,lo,hi,rfl,hhi,q⟩:=h
  have nd:=Ui.nd
  refine ⟨_,(Zb (Ye (Zq Va (pv 0) Zh (Zu _)) (Zf (Zs (Wk Va (pv 1) Zh (Zu _)))) Zx) (Zb (Zo (i:=3) nd rfl (Or.inl rfl) (pv 0)) (Zb (Zo (i:=4) nd rfl (Or.inl rfl) (pv 0)) (Zb (Yu PassesOwn.never (Zq WI (pv 3) (pv 2) (Zu _)) (Zb (Ye (Zq Zf6 (pv 4) (pv 1) (Zu _)) (Zf (Zs Zfg)) Zx) (Zb (Zo (i:=3) nd rfl (Or.inl rfl) (ZG Zc7 (pv 3) Zh)) (Zf (Zo (i:=4) nd rfl (Or.inl rfl) (ZG Ya (ZG Zc7 (pv 4) Zh) Zh)))))) (Zf (Zs Zfg)))))),?_⟩
  walk_at "rd"
  split
  ·rename_i h
   have h0:v=0:=by lia
   subst h0
   rw [Zfq] at q
   have e:decide ((lo:Int)=0)=(lo==0):=by
    by_cases z:lo=0 <;> simp [z]
   rw [e];exact q
  ·rename_i h
   have hv:v≠0:=by lia
   obtain ⟨W,hW⟩:∃ W:WT,W=fun m σ H'=>H'=H∧∃ L M k:Nat,σ=[some (.int v),some (.int lo),some (.int hi),some (.int L),some (.int M)]∧L=v * 10 ^ k∧M+1=(v+1) * 10 ^ k∧1≤L∧m=hi+1-L∧∀ j,j<k→¬ (v * 10 ^ j≤hi∧lo<(v+1) * 10 ^ j):=⟨_,rfl⟩
   refine ⟨W,⟨_,by rw [hW];exact ⟨rfl,v,v,0,rfl,by simp,by simp,by lia,rfl,fun j z=>absurd z (Nat.not_lt_zero j)⟩⟩,fun m σ H' hw=>?_⟩
   rw [hW] at hw
   obtain ⟨rfl,L,M,k,rfl,hL,hM,hL1,rfl,hno⟩:=hw
   walk_at "rd"
   split
   ·rename_i h1
    refine ⟨fun σ' H''=>∃ m',m' < hi+1-L∧W m' σ' H'',fun _ _ z=>z,?_⟩
    split
    ·rename_i h2
     rw [Zfr (k:=k) hv (by lia) (by lia) hhi] at q
     exact q
    ·rename_i h2
     refine ⟨.inr (by lia),.inr (by lia),hi+1-L * 10,by lia,?_⟩
     rw [hW]
     refine ⟨rfl,L * 10,M * 10+9,k+1,by simp,?_,?_,by lia,rfl,?_⟩
     ·rw [hL,Nat.pow_succ,Nat.mul_assoc]
     ·rw [Nat.pow_succ,← Nat.mul_assoc,← hM];lia
     ·intro j hj
      by_cases z:j=k
      ·subst z;lia
      ·exact hno j (by lia)
   ·rename_i h1
    rw [Zeg (k:=k) hv hno (by lia)] at q
    exact q
def Wc (K:PySem.W.Frag) (a:Ad):Sp:=fun vs H Q _=>∃ n:Int,vs=[.int n]∧Q (.int (ZcW n)) H
abbrev YG:Stmt:=top 58
theorem Vz:Zp ["lead"] ["lead"] (Zc YG):=⟨rfl,rfl,rfl,by decide +kernel,rfl,by decide +kernel,by decide +kernel⟩
theorem ZaW {f:Addr}{fd:FuncData} (F:Fun K "size_by_lead" "size_by_lead" YG f fd) (T:Txt K mg a):FnOk P w K mg base CX0 1 f fd ["lead"] (Wc K a):=by
 refine F.ok Vz (fun vs H Q E h=>?_) (fun cdv A outer s H vs Q E hr h=>?_)
 ·obtain ⟨n,rfl,q⟩:=h
  rfl
 ·obtain ⟨n,rfl,q⟩:=h
  have nd:=Vz.nd
  refine ⟨_,(Zb (Ye (Zq Wm (pv 0) Zh (Zu _)) (Zf (Zs Zh)) Zx) (Zb (Ye (W7 WI WI Zh (pv 0) Zh) (Zf (Zs Zh)) Zx) (Zb (Ye (W7 WI WI Zh (pv 0) Zh) (Zf (Zs Zh)) Zx) (Zb (Ye (W7 WI WI Zh (pv 0) Zh) (Zf (Zs Zh)) Zx) (Zf (Zs Zh)))))),?_⟩
  unfold ZcW at q
  walk_at "rd"
  (repeat' split) <;> (simp only [*,if_true,if_false,and_true,true_and,and_self,not_false_eq_true] at q ⊢) <;> first | exact q | (exfalso;lia) | (simp_all;done) | (rw [if_neg (by lia)] at q;exact q) | skip
def XX (K:PySem.W.Frag) (a:Ad):Sp:=fun vs H Q _=>∃ n:Int,vs=[.int n]∧∀ p,H p=none→Q (.ref p) (upd H p (.tup [.int (blo n),.int (bhi n)]))
abbrev Yy:Stmt:=top 59
theorem Vm:Zp ["lead"] ["lead"] (Zc Yy):=⟨rfl,rfl,rfl,by decide +kernel,rfl,by decide +kernel,by decide +kernel⟩
theorem Zan {f:Addr}{fd:FuncData} (F:Fun K "bounds_behind" "bounds_behind" Yy f fd) (T:Txt K mg a):FnOk P w K mg base CX0 1 f fd ["lead"] (XX K a):=by
 refine F.ok Vm (fun vs H Q E h=>?_) (fun cdv A outer s H vs Q E hr h=>?_)
 ·obtain ⟨n,rfl,q⟩:=h
  rfl
 ·obtain ⟨n,rfl,q⟩:=h
  have nd:=Vm.nd
  refine ⟨_,(Zb (Ye (Zq Va (pv 0) Zh (Zu _)) (Zf (Zs (Wj (Za Zh (Za Zh Zd))))) Zx) (Zb (Ye (Zq Va (pv 0) Zh (Zu _)) (Zf (Zs (Wj (Za Zh (Za Zh Zd))))) Zx) (Zb (Ye (Zq Va (pv 0) Zh (Zu _)) (Zf (Zs (Wj (Za Zh (Za Zh Zd))))) Zx) (Zb (Ye (Zq Va (pv 0) Zh (Zu _)) (Zf (Zs (Wj (Za Zh (Za Zh Zd))))) Zx) (Zf (Zs (Wj (Za Zh (Za Zh Zd))))))))),?_⟩
  unfold blo bhi at q
  have z2:2≤sizeLine:=by decide
  walk_at "rd"
  (repeat' split) <;> refine ⟨z2,fun p hp=>?_⟩ <;> have q':=q p hp <;> simp_all
end
set_option hygiene false in
local macro_rules | `(tactic| walk_at "rdr")=>`(tactic| (try simp only [tSeq,tIfS,tOr,tAnd,tNot,ZcR,tB,tOp,rI0,rI,tVar,tC,ZbB,tRet,ZgW,Ze7,Ze8,tAsg,Jt,rEq,rNe,rIn,tAug,ipI,Zbi,Ze9,tNil,tUn,rU,tIf,ZgX,ZfQ,tOrV,tCB,ZbA,tTup,tLst,L2.start,L2.cxOf,List.map_cons,List.map_nil,List.length_cons,List.length_nil,List.replicate,List.cons_append,List.nil_append,List.append_nil,Nat.sub_self,Nat.zero_add,Nat.add_sub_cancel,Nat.reduceAdd,Nat.reduceSub,List.getElem?_cons_zero,List.getElem?_cons_succ,List.set_cons_zero,List.set_cons_succ,Option.some.injEq,V.int.injEq,V.bl.injEq,V.ref.injEq,V.str.injEq,exists_eq_left',exists_and_left,exists_const,true_and,and_true,Zcg,Zcd,Zch,Zce,Zcf,decide_eq_true_eq,Bool.not_eq_true',decide_eq_false_iff_not,Bool.not_not,Bool.not_true,Bool.not_false,if_true,if_false,ite_true,ite_false,↓reduceIte,Bool.false_eq_true,List.cons.injEq,exists_eq_left,gTup,Zgv,gNil,tBM,UA,JN,tSl,JI,Ze6,rSlL,ZcS,tFld,Zb6,sFld,ZaP,rAdd,rIxL,rIxT,hR,hR2,T.clReader,T.n_t,T.n_at,rf_t,Zfe,ZeB,ZhN,JM,HO.ins.injEq,and_assoc,Ze]))
def rf (ta:Addr) (i:Int):List (Str×V):=[("t",.ref ta),("at",.int i)]
theorem rf_t (ta:Addr) (i:Int):(rf ta i).lookup ("t":Str)=some (.ref ta):=rfl
theorem Zfe (ta:Addr) (i:Int):(rf ta i).lookup ("at":Str)=some (.int i):=by
 unfold rf
 rw [List.lookup_cons,show (("at":Str)==("t":Str))=false from by decide]
 rfl
theorem ZeB (ta:Addr) (i j:Int):putF "at" (.int j) (rf ta i)=rf ta j:=by
 show (if ("t":Str)="at" then _ else _)=_
 rw [if_neg (by decide)]
 show _::(if ("at":Str)="at" then _ else _)=_
 rw [if_pos rfl]
 rfl
theorem ZhN (ta:Addr) (i:Int):(rf ta i).length=2:=rfl
theorem JM (ta:Addr) (i:Int) {m:Str} (h1:m≠"t") (h2:m≠"at"):(rf ta i).lookup m=none:=by
 unfold rf
 rw [List.lookup_cons,beq_eq_false_iff_ne.mpr h1]
 dsimp only
 rw [List.lookup_cons,beq_eq_false_iff_ne.mpr h2]
 rfl
theorem VE (ta:Addr) (i:Int):(rf ta i).lookup ("peek":Str)=none:=JM ta i (by decide) (by decide)
theorem ZdY (ta:Addr) (i:Int):(rf ta i).lookup ("sees":Str)=none:=JM ta i (by decide) (by decide)
theorem ZfW (ta:Addr) (i:Int):(rf ta i).lookup ("take":Str)=none:=JM ta i (by decide) (by decide)
theorem ZaQ (ta:Addr) (i:Int):(rf ta i).lookup ("take_end":Str)=none:=JM ta i (by decide) (by decide)
theorem X5 (ta:Addr) (i:Int):(rf ta i).lookup ("take_digit":Str)=none:=JM ta i (by decide) (by decide)
theorem Up (ta:Addr) (i:Int):(rf ta i).lookup ("take_number":Str)=none:=JM ta i (by decide) (by decide)
theorem WP (ta:Addr) (i:Int):(rf ta i).lookup ("take_character":Str)=none:=JM ta i (by decide) (by decide)
theorem Xb (ta:Addr) (i:Int):(rf ta i).lookup ("take_long_letter":Str)=none:=JM ta i (by decide) (by decide)
theorem U8 (ta:Addr) (i:Int):(rf ta i).lookup ("take_thing":Str)=none:=JM ta i (by decide) (by decide)
theorem U9 (ta:Addr) (i:Int):(rf ta i).lookup ("ends_thing":Str)=none:=JM ta i (by decide) (by decide)
theorem Zae (ta:Addr) (i:Int):(rf ta i).lookup ("take_head":Str)=none:=JM ta i (by decide) (by decide)
theorem Uo (ta:Addr) (i:Int):(rf ta i).lookup ("take_things":Str)=none:=JM ta i (by decide) (by decide)
def bsV (bs:List UInt8):List V:=bs.map fun c=>V.int (c.toNat:Int)
theorem ZjJ {bs:List UInt8}{p:Nat}{c:UInt8} (h:bs[p]?=some c):atI (bsV bs) (p:Int)=some (.int (c.toNat:Int)):=V0 (by unfold bsV;rw [List.getElem?_map,h];rfl)
theorem Zeo (bs:List UInt8):(bsV bs).length=bs.length:=by unfold bsV;rw [List.length_map]
def Rdr (K:PySem.W.Frag) (a:Ad) (H:Hp) (r ta:Addr) (bs:List UInt8) (p:Nat):Prop:=∃ dx,H r=some (.ins a.CR dx (rf ta (p:Int)))∧SqL K H ta (bsV bs)∧ta≠r
section
variable {P:Program}{w:World}{K:PySem.W.Frag}{mg:Str→Option Value}{base:Heap}{a:Ad}
theorem Rdr.move {H H':Hp}{r dx ta:Addr}{bs:List UInt8}{p:Nat} (hS:SqL K H ta (bsV bs)) (ne:ta≠r) (k:Kp [r] H H') (e:H' r=some (.ins a.CR dx (rf ta (p:Int)))):Rdr K a H' r ta bs p :=
 ⟨dx,e,k.seq (by simpa using ne) hS,ne⟩
def WH (K:PySem.W.Frag) (a:Ad):Sp:=fun vs H Q _=>∃ (x dx ta:Addr) (bs:List UInt8),vs=[.ref x,.ref ta]∧H x=some (.ins a.CR dx [])∧SqL K H ta (bsV bs)∧ta≠x∧∀ H',Kp [x] H H'→Rdr K a H' x ta bs 0→Q .non H'
theorem Zi2 (ta:Addr):putF "at" (.int 0) (putF "t" (.ref ta) [])=rf ta 0:=by
 show (if ("t":Str)="at" then _ else _)=_
 rw [if_neg (by decide)]
 rfl
abbrev Y2:Stmt:=YS (top 60) 0
theorem Um:Zp ["self","t"] ["self","t"] (Zc Y2):=⟨rfl,rfl,rfl,by decide +kernel,rfl,by decide +kernel,by decide +kernel⟩
theorem Zbr {f:Addr}{fd:FuncData} (F:Fun K "__init__" "Reader.__init__" Y2 f fd) (T:Txt K mg a):FnOk P w K mg base CX0 1 f fd ["self","t"] (WH K a):=by
 refine F.ok Um (fun vs H Q E h=>?_) (fun cdv A outer s H vs Q E hr h=>?_)
 ·obtain ⟨x,dx,ta,bs,rfl,hR,hS,hne,q⟩:=h
  rfl
 ·obtain ⟨x,dx,ta,bs,rfl,hR,hS,hne,q⟩:=h
  have nd:=Um.nd
  refine ⟨_,(Zb (ZN (pv 0) (pv 1) rfl) (Zf (ZN (pv 0) Zh rfl))),?_⟩
  have hR2:=hR
  walk_at "rdr"
  have k:Kp [x] H (upd (upd H x (HO.ins a.CR dx (putF "t" (V.ref ta) []))) x (HO.ins a.CR dx (putF "at" (V.int 0) (putF "t" (V.ref ta) [])))):=(Kp.put (by simp)).trans (Kp.put (by simp))
  exact ⟨by decide,(by show 1<1000;decide),q _ k (Rdr.move (dx:=dx) hS hne k (by rw [Ze,Zi2];rfl))⟩
def Z0 (K:PySem.W.Frag) (a:Ad):Sp:=fun vs H Q _=>∃ (r ta:Addr) (bs:List UInt8) (p:Nat),vs=[.ref r]∧Rdr K a H r ta bs p∧Q (.int (pk bs p)) H
abbrev Y1:Stmt:=YS (top 60) 1
theorem Ul:Zp ["self"] ["self"] (Zc Y1):=⟨rfl,rfl,rfl,by decide +kernel,rfl,by decide +kernel,by decide +kernel⟩
theorem Zbq {f:Addr}{fd:FuncData} (F:Fun K "peek" "Reader.peek" Y1 f fd) (T:Txt K mg a):FnOk P w K mg base CX0 1 f fd ["self"] (Z0 K a):=by
 refine F.ok Ul (fun vs H Q E h=>?_) (fun cdv A outer s H vs Q E hr h=>?_)
 ·obtain ⟨r,ta,bs,p,rfl,⟨dx,hR,hS,hne⟩,q⟩:=h
  rfl
 ·obtain ⟨r,ta,bs,p,rfl,⟨dx,hR,hS,hne⟩,q⟩:=h
  have nd:=Ul.nd
  refine ⟨_,(Zb (Ye (Zq Wm (Zv (pv 0) rfl) (Zr Zj rfl T.len PySem.boot_len (Za (Zv (pv 0) rfl) Zd)) (Zu _)) (Zf (Zs (ZK ZC (Zv (pv 0) rfl) (Zv (pv 0) rfl) (fun _ _=>rfl)))) Zx) (Zf (Zs (Z8 T.cNO_BYTE)))),?_⟩
  have hR2:=hR
  walk_at "rdr"
  refine ⟨_,.inl hS,?_⟩
  rw [Zeo]
  split
  ·rename_i h
   have hp:p<bs.length:=by lia
   have e:=List.getElem?_eq_getElem hp
   rw [Zcj e] at q
   exact ⟨_,hS,_,ZjJ e,q⟩
  ·rename_i h
   rw [Zck.mpr (List.getElem?_eq_none (by lia))] at q
   exact q
def ZZ (K:PySem.W.Frag) (a:Ad):Sp:=fun vs H Q _=>∃ (r ta:Addr) (bs:List UInt8) (p:Nat) (sg:Str) (n:Nat),vs=[.ref r,.str sg]∧Rdr K a H r ta bs p∧sg.length=1∧sg.cps.getD 0 0=n∧Q (.bl (decide (pk bs p=(n:Int)))) H
abbrev Y0:Stmt:=YS (top 60) 2
theorem Uk:Zp ["self","sign"] ["self","sign"] (Zc Y0):=⟨rfl,rfl,rfl,by decide +kernel,rfl,by decide +kernel,by decide +kernel⟩
theorem Zbp {f:Addr}{fd:FuncData} (F:Fun K "sees" "Reader.sees" Y0 f fd) (T:Txt K mg a) (zzae:Z9 P w K mg base CX0 1 a.CR "peek" ["self"] (Z0 K a)):FnOk P w K mg base CX0 2 f fd ["self","sign"] (ZZ K a):=by
 refine F.ok Uk (fun vs H Q E h=>?_) (fun cdv A outer s H vs Q E hr h=>?_)
 ·obtain ⟨r,ta,bs,p,sg,n,rfl,⟨dx,hR,hS,hne⟩,h1,h2,q⟩:=h
  rfl
 ·obtain ⟨r,ta,bs,p,sg,n,rfl,⟨dx,hR,hS,hne⟩,h1,h2,q⟩:=h
  have nd:=Uk.nd
  refine ⟨_,(Zf (Zs (Wk Va (XT (pv 0) T.clReader zzae hr Zz) (Zr Ze1 rfl T.ord boot_ord (Za (pv 1) Zd)) (Zu _)))),?_⟩
  have hR2:=hR
  walk_at "rdr"
  refine ⟨VE _ _,r,ta,bs,p,rfl,⟨dx,hR,hS,hne⟩,?_⟩
  walk_at "rdr"
  refine ⟨h1,?_⟩
  rw [h2]
  exact q
def Out (K:PySem.W.Frag) (a:Ad) (H:Hp) (r ta:Addr) (bs:List UInt8) (p:Nat) {α:Type} (rd:Vh.Rd α) (Q:α→Hp→Prop) (E:XK):Prop :=
 (∀ x p' H',rd p (bs.drop p)=.ok (x,p',bs.drop p')→Kp [r] H H'→Rdr K a H' r ta bs p'→Q x H')∧∀ p' H',rd p (bs.drop p)=.error p'→Rdr K a H' r ta bs p'→E (.ref a.CE) none H'
def ZY (K:PySem.W.Frag) (a:Ad):Sp:=fun vs H Q E=>∃ (r ta:Addr) (bs:List UInt8) (p:Nat) (sg:Str) (c:UInt8),vs=[.ref r,.str sg]∧Rdr K a H r ta bs p∧sg.length=1∧sg.cps.getD 0 0=c.toNat∧Out K a H r ta bs p (Vh.byte_ c) (fun _ H'=>Q .non H') E
abbrev YZ:Stmt:=YS (top 60) 3
theorem Uj:Zp ["self","sign"] ["self","sign"] (Zc YZ):=⟨rfl,rfl,rfl,by decide +kernel,rfl,by decide +kernel,by decide +kernel⟩
theorem Zbo {f:Addr}{fd:FuncData} (F:Fun K "take" "Reader.take" YZ f fd) (T:Txt K mg a) (zzac:Z9 P w K mg base CX0 2 a.CR "sees" ["self","sign"] (ZZ K a)):FnOk P w K mg base (CX1 P w a.CE) 3 f fd ["self","sign"] (ZY K a):=by
 refine F.okE Uj (fun vs H Q E h=>?_) (fun cdv A outer s H vs Q E hr h=>?_)
 ·obtain ⟨r,ta,bs,p,sg,c,rfl,⟨dx,hR,hS,hne⟩,h1,h2,q1,q2⟩:=h
  rfl
 ·obtain ⟨r,ta,bs,p,sg,c,rfl,⟨dx,hR,hS,hne⟩,h1,h2,q1,q2⟩:=h
  have nd:=Uj.nd
  refine ⟨_,(Zb (Ye (Uq (Wi (Zt (pv 0) T.clReader zzac hr Zz (Za (pv 1) Zd)))) (Zf (WA T.exc rfl (Za ZL Zd))) Zx) (Zf (VG (pv 0) Zh Zds))),?_⟩
  have hR2:=hR
  walk_at "rdr"
  refine ⟨ZdY _ _,r,ta,bs,p,sg,_,rfl,⟨dx,hR,hS,hne⟩,h1,h2,?_⟩
  walk_at "rdr"
  split
  ·rename_i h
   exact ⟨by decide,q2 p H (Vf h) ⟨dx,hR,hS,hne⟩⟩
  ·rename_i h
   have h:=Decidable.not_not.mp h
   refine ⟨by decide,q1 () (p+1) _ (Xv h) (Kp.put (by simp)) (Rdr.move (dx:=dx) hS hne (Kp.put (by simp)) ?_)⟩
   rw [Ze];rfl
def Xq (K:PySem.W.Frag) (a:Ad):Sp:=fun vs H Q E=>∃ (r ta:Addr) (bs:List UInt8) (p:Nat),vs=[.ref r]∧Rdr K a H r ta bs p∧(bs[p]?=none→Q .non H)∧(bs[p]?≠none→E (.ref a.CE) none H)
abbrev Yd:Stmt:=YS (top 60) 4
theorem Wy:Zp ["self"] ["self"] (Zc Yd):=⟨rfl,rfl,rfl,by decide +kernel,rfl,by decide +kernel,by decide +kernel⟩
theorem Jj {f:Addr}{fd:FuncData} (F:Fun K "take_end" "Reader.take_end" Yd f fd) (T:Txt K mg a) (zzae:Z9 P w K mg base CX0 1 a.CR "peek" ["self"] (Z0 K a)):FnOk P w K mg base (CX1 P w a.CE) 2 f fd ["self"] (Xq K a):=by
 refine F.okE Wy (fun vs H Q E h=>?_) (fun cdv A outer s H vs Q E hr h=>?_)
 ·obtain ⟨r,ta,bs,p,rfl,⟨dx,hR,hS,hne⟩,q1,q2⟩:=h
  rfl
 ·obtain ⟨r,ta,bs,p,rfl,⟨dx,hR,hS,hne⟩,q1,q2⟩:=h
  have nd:=Wy.nd
  refine ⟨_,(Zf (Ye (Zq ZjU (XT (pv 0) T.clReader zzae hr Zz) (Z8 T.cNO_BYTE) (Zu _)) (Zf (WA T.exc rfl (Za ZL Zd))) Zx)),?_⟩
  have hR2:=hR
  walk_at "rdr"
  refine ⟨VE _ _,r,ta,bs,p,rfl,⟨dx,hR,hS,hne⟩,?_⟩
  walk_at "rdr"
  split
  ·rename_i h
   exact ⟨by decide,q2 fun z=>h (Zck.mpr z)⟩
  ·rename_i h
   exact q1 (Zck.mp (Decidable.not_not.mp h))
def Y5 (K:PySem.W.Frag) (a:Ad):Sp:=fun vs H Q E=>∃ (r ta:Addr) (bs:List UInt8) (p v lo hi:Nat),vs=[.ref r,.int v,.int lo,.int hi]∧Rdr K a H r ta bs p∧hi<10 ^ 11 ∧
 (∀ n H',dig bs lo hi v p=some n→Kp [r] H H'→Rdr K a H' r ta bs (p+1)→Q (.int n) H')∧(dig bs lo hi v p=none→E (.ref a.CE) none H)
abbrev ZV:Stmt:=YS (top 60) 5
theorem X0:Zp ["self","value","low","high","digit"] ["self","value","low","high"] (Zc ZV):=⟨rfl,rfl,rfl,by decide +kernel,rfl,by decide +kernel,by decide +kernel⟩
theorem Ub {f:Addr}{fd:FuncData} (F:Fun K "take_digit" "Reader.take_digit" ZV f fd) (T:Txt K mg a) (zzae:Z9 P w K mg base CX0 1 a.CR "peek" ["self"] (Z0 K a)) (zzcs:FnC P w K mg base CX0 1 "begins_some" ["value","low","high"] (WG K a)):FnOk P w K mg base (CX1 P w a.CE) 2 f fd ["self","value","low","high"] (Y5 K a):=by
 refine F.okE X0 (fun vs H Q E h=>?_) (fun cdv A outer s H vs Q E hr h=>?_)
 ·obtain ⟨r,ta,bs,p,v,lo,hi,rfl,⟨dx,hR,hS,hne⟩,hhi,q1,q2⟩:=h
  rfl
 ·obtain ⟨r,ta,bs,p,v,lo,hi,rfl,⟨dx,hR,hS,hne⟩,hhi,q1,q2⟩:=h
  have nd:=X0.nd
  refine ⟨_,(Zb (Zo (i:=4) nd rfl (Or.inl rfl) (ZG Yj (XT (pv 0) T.clReader zzae hr Zz) Zh)) (Zb (Ye (PW.pt (Zbj (Uq (W7 WI WI Zh (pv 4) Zh)) (Ja (Uq (Wi (Zl zzcs hr Zz (Za (ZG Ya (ZG Zc7 (pv 1) Zh) (pv 4)) (Za (pv 2) (Za (pv 3) Zd))))))))) (Zf (WA T.exc rfl (Za ZL Zd))) Zx) (Zb (VG (pv 0) Zh Zds) (Zf (Zs (ZG Ya (ZG Zc7 (pv 1) Zh) (pv 4))))))),?_⟩
  have hR2:=hR
  walk_at "rdr"
  refine ⟨VE _ _,r,ta,bs,p,rfl,⟨dx,hR,hS,hne⟩,?_⟩
  walk_at "rdr"
  by_cases h1:48≤pk bs p∧pk bs p≤57
  ·rw [if_pos (by lia),if_neg (by lia)]
   have e:((v:Int) * 10+(pk bs p-48))=((v * 10+(pk bs p-48).toNat:Nat):Int):=by lia
   refine ⟨.inr (by lia),v * 10+(pk bs p-48).toNat,lo,hi,by rw [e],hhi,?_⟩
   walk_at "rdr"
   split
   ·rename_i h2
    refine ⟨by decide,q2 ?_⟩
    unfold dig
    rw [if_neg (fun z=>by rw [h2] at z;exact Bool.false_ne_true z.2.2)]
   ·rename_i h2
    rw [e]
    refine ⟨by decide,.inr (by lia),q1 _ _ ?_ (Kp.put (by simp)) (Rdr.move (dx:=dx) hS hne (Kp.put (by simp)) (by rw [Ze];rfl))⟩
    unfold dig
    rw [if_pos ⟨h1.1,h1.2,by simpa using h2⟩]
  ·have no:dig bs lo hi v p=none:=by
    unfold dig
    rw [if_neg (fun z=>h1 ⟨z.1,z.2.1⟩)]
   split
   ·rw [if_pos (by lia)]
    exact ⟨by decide,q2 no⟩
   ·exact ⟨by decide,q2 no⟩
def ZH (K:PySem.W.Frag) (a:Ad):Sp:=fun vs H Q E=>∃ (r ta:Addr) (bs:List UInt8) (p lo hi:Nat),vs=[.ref r,.int lo,.int hi]∧Rdr K a H r ta bs p∧hi<10 ^ 11 ∧
 (∀ x p' H',Vh.num lo hi p (bs.drop p)=.ok (x,p',bs.drop p')→lo≤x→x≤hi→Kp [r] H H'→Rdr K a H' r ta bs p'→Q (.int (x:Nat)) H') ∧
 (∀ p' H',(Vh.num lo hi p (bs.drop p)=.error p'∨∃ x,Vh.num lo hi p (bs.drop p)=.ok (x,p',bs.drop p')∧48≤pk bs p'∧pk bs p'≤57)→Rdr K a H' r ta bs p'→E (.ref a.CE) none H')
abbrev ZR:Stmt:=YS (top 60) 6
theorem XS:Zp ["self","low","high","value"] ["self","low","high"] (Zc ZR):=⟨rfl,rfl,rfl,by decide +kernel,rfl,by decide +kernel,by decide +kernel⟩
theorem VN {f:Addr}{fd:FuncData} (F:Fun K "take_number" "Reader.take_number" ZR f fd) (T:Txt K mg a) (zzal:Z9 P w K mg base (CX1 P w a.CE) 2 a.CR "take_digit" ["self","value","low","high"] (Y5 K a)) (zzae:Z9 P w K mg base CX0 1 a.CR "peek" ["self"] (Z0 K a)):FnOk P w K mg base (CX1 P w a.CE) 3 f fd ["self","low","high"] (ZH K a):=by
 refine F.okE XS (fun vs H Q E h=>?_) (fun cdv A outer s H vs Q E hr h=>?_)
 ·obtain ⟨r,ta,bs,p,lo,hi,rfl,⟨dx,hR,hS,hne⟩,hhi,q1,q2⟩:=h
  rfl
 ·obtain ⟨r,ta,bs,p,lo,hi,rfl,⟨dx,hR,hS,hne⟩,hhi,q1,q2⟩:=h
  have nd:=XS.nd
  refine ⟨_,(Zb (Zo (i:=3) nd rfl (Or.inl rfl) (Zt (pv 0) T.clReader zzal hr Yz (Za Zh (Za (pv 1) (Za (pv 2) Zd))))) (Zb (Yu PassesOwn.leaving (PW.pt (Xm (Zq Jf (pv 3) Zh (Zu _)) (Xc (W7 WI WI Zh (XT (pv 0) T.clReader zzae hr Zz) Zh)))) (Zf (Zo (i:=3) nd rfl (Or.inl rfl) (Zt (pv 0) T.clReader zzal hr Yz (Za (pv 3) (Za (pv 1) (Za (pv 2) Zd))))))) (Zb (Ye (Zq Wm (pv 3) (pv 1) (Zu _)) (Zf (WA T.exc rfl (Za ZL Zd))) Zx) (Zf (Zs (pv 3)))))),?_⟩
  have hR2:=hR
  walk_at "rdr"
  refine ⟨X5 _ _,r,ta,bs,p,0,lo,hi,rfl,⟨dx,hR,hS,hne⟩,hhi,fun n H1 hn k1 R1=>?_,fun hn=>q2 p H (.inl (Zhd hn)) ⟨dx,hR,hS,hne⟩⟩
  obtain ⟨W,hW⟩:∃ W:WT,W=fun m σ H'=>∃ v p',σ=[some (.ref r),some (.int lo),some (.int hi),some (.int (v:Nat))]∧Rdr K a H' r ta bs p'∧Kp [r] H H'∧v≤hi∧m=hi+1-v ∧
   (v=0→Vh.num lo hi p (bs.drop p)=if lo=0 then .ok (0,p',bs.drop p') else .error p')∧(v≠0→∃ f,Zko bs lo hi p v p' f):=⟨_,rfl⟩
  walk_at "rd"
  refine ⟨W,⟨_,by
   rw [hW]
   refine ⟨n,p+1,rfl,R1,k1,(Zgz hn).1,rfl,fun z=>?_,fun z=>⟨19,Zdj hn,(Zgz hn).1,by lia⟩⟩
   rw [Zdj hn,z,Zel]⟩,fun m σ H2 hw=>?_⟩
  rw [hW] at hw
  obtain ⟨v,p2,rfl,⟨dx2,hR,hS,hne⟩,k2,hv,rfl,hz,hnz⟩:=hw
  have hR2:=hR
  walk_at "rdr"
  split
  ·rename_i h0
   have hv0:v≠0:=by lia
   obtain ⟨f,N⟩:=hnz hv0
   have hf:1≤f:=by
    cases f with
    | zero=>have:=N.big;lia
    | succ f=>lia
   obtain ⟨f,rfl⟩:∃ g,f=g+1:=⟨f-1,by lia⟩
   have eq:=N.eq
   rw [UN lo hi f (some v) bs p2 (by simp [hv0])] at eq
   have eq:Vh.num lo hi p (bs.drop p)=match dig bs lo hi v p2 with | some n=>Vh.digits lo hi f (some n) (p2+1) (bs.drop (p2+1)) | none=>if lo≤v∧v≤hi then .ok (v,p2,bs.drop p2) else .error p2:=eq
   refine ⟨VE _ _,r,ta,bs,p2,rfl,⟨dx2,hR,hS,hne⟩,?_⟩
   walk_at "rdr"
   have stop:dig bs lo hi v p2=none→Rdr K a H2 r ta bs p2→if (v:Int)<lo then 1≤sizeLine∧E (.ref a.CE) none H2 else Q (.int v) H2:=fun hd R=>by
    rw [hd] at eq
    dsimp only at eq
    split
    ·rename_i h1
     rw [if_neg (by lia)] at eq
     exact ⟨by decide,q2 p2 H2 (.inl eq) R⟩
    ·rename_i h1
     rw [if_pos ⟨by lia,hv⟩] at eq
     exact q1 v p2 H2 eq (by lia) hv k2 R
   by_cases hd:48≤pk bs p2∧pk bs p2≤57
   ·rw [if_pos hd.1,if_pos hd.2]
    refine ⟨fun σ' H'=>∃ m',m' < hi+1-v∧W m' σ' H',fun _ _ z=>z,X5 _ _,r,ta,bs,p2,v,lo,hi,rfl,⟨dx2,hR,hS,hne⟩,hhi,fun n H3 hn k3 R3=>?_,fun hn=>?_⟩
    ·walk_at "rd"
     rw [hn] at eq
     have b:=Zgz hn
     refine ⟨hi+1-n,by lia,?_⟩
     rw [hW]
     refine ⟨n,p2+1,rfl,R3,k2.trans k3,b.1,rfl,fun z=>by lia,fun _=>⟨f,eq,b.1,?_⟩⟩
     have h1:=N.big
     have h2:=Nat.mul_le_mul_right (10 ^ f * 10) b.2.1
     have e1:v * 10 ^ (f+1) * 10=v * 10 * (10 ^ f * 10):=by rw [Nat.pow_succ];simp only [Nat.mul_assoc,Nat.mul_comm,Nat.mul_left_comm]
     have e2:n * 10 ^ f * 10=n * (10 ^ f * 10):=by rw [Nat.mul_assoc]
     lia
    ·rw [hn] at eq
     dsimp only at eq
     by_cases h1:lo≤v∧v≤hi
     ·rw [if_pos h1] at eq
      exact q2 p2 H2 (.inr ⟨v,eq,hd⟩) ⟨dx2,hR,hS,hne⟩
     ·rw [if_neg h1] at eq
      exact q2 p2 H2 (.inl eq) ⟨dx2,hR,hS,hne⟩
   ·have no:dig bs lo hi v p2=none:=by
     unfold dig
     rw [if_neg (fun z=>hd ⟨z.1,z.2.1⟩)]
    have st:=stop no ⟨dx2,hR,hS,hne⟩
    split
    ·rw [if_neg (by lia)]
     exact st
    ·exact st
  ·rename_i h0
   have hv0:v=0:=by lia
   have eq:=hz hv0
   subst hv0
   split
   ·rename_i h1
    rw [if_neg (by lia)] at eq
    exact ⟨by decide,q2 p2 H2 (.inl eq) ⟨dx2,hR,hS,hne⟩⟩
   ·rename_i h1
    rw [if_pos (by lia)] at eq
    exact q1 0 p2 H2 eq (by lia) (by lia) k2 ⟨dx2,hR,hS,hne⟩
end
local macro_rules | `(tactic| walk_at "gs")=>`(tactic| (try dsimp only [L2.start,L2.cxE,L2.cxOf,List.map,List.length_cons,List.length_nil,List.replicate,List.cons_append,List.nil_append,Nat.sub_self,Nat.zero_add,Nat.add_sub_cancel,Nat.reduceAdd,Nat.reduceSub]))
set_option hygiene false in
local macro_rules | `(tactic| walk_at "g1")=>`(tactic| with_reducible first | refine ZjA fun M hM=>?_ | refine g_v0 ?_ | refine g_v1 ?_ | refine g_v2 ?_ | refine g_v3 ?_ | refine g_nx ?_ | refine Zjt ?_ | refine Zj6 ?_ | refine ZjB ?_ | refine Zkl ?_ | refine g_op ?_ | refine g_C ?_ | refine Zj7 ?_ | refine ZjC ?_ | refine Zj9 ?_ | refine ZjD ?_ | refine g_CB ?_ | refine g_BM ?_ | refine Zkg ?_ | refine Zjp ?_ | refine g_B ?_ | refine Zkj ?_ | refine Zki ?_ | refine Zkc ?_ | refine Zkb ?_ | refine Zjw ?_ | refine Zjy ?_ | refine Zjz ?_ | refine Zkk ?_ | refine ZiE ?_ | refine Zjx ?_ | refine Zkm ?_ | refine g_or ?_ | refine Zj8 ?_ | refine g_rI ?_ | refine ZiF ?_ | refine Zkf ?_ | refine Zjr ?_ | refine ZiD ?_ | refine Zj4 ?_ | refine Zka ?_ | refine Zhv ?_ | refine Zhu ?_ | refine g_sl ?_ | refine Zht ?_ | refine Zjs ?_ | refine Zj5 ?_ | refine Zjv ?_ | refine Zkh ?_ | refine Zju ?_ | refine Zjq ?_ | refine Zgt ?_ | refine Zke ?_ | refine Zkd ?_ | refine g_rt ?_ | refine Zj3 ?_ | refine g_n1 ?_ | refine g_n2 ?_ | refine g_n3 ?_ | refine g_n4 ?_ | refine g_n5 ?_ | refine g_n6 ?_ | refine g_v4 ?_ | refine g_v5 ?_ | refine g_v6 ?_ | refine g_a2 ?_ | refine g_a3 ?_ | refine hM _ _ _ ?_)
set_option hygiene false in
local macro_rules | `(tactic| walk_at "g2")=>`(tactic| with_reducible first | refine Zgu hR (by first | exact VE _ _ | exact ZdY _ _ | exact ZfW _ _ | exact Up _ _ | exact U8 _ _ | exact Uo _ _ | exact X5 _ _ | exact WP _ _ | exact Xb _ _ | exact ZaQ _ _ | exact U9 _ _ | exact Zae _ _) ?_ | refine Js hR T.clReader (by first | exact T.n_t | exact T.n_at) (by first | exact rf_t _ _ | exact Zfe _ _) ?_ | refine ZbS hR T.clReader T.n_at (Zfe _ _) ?_ | refine ZhW hR ?_ | refine Ws hR T.clReader (by first | exact T.n_t | exact T.n_at) ?_ | refine Zgu hR2 (by first | exact VE _ _ | exact ZdY _ _ | exact ZfW _ _ | exact Up _ _ | exact U8 _ _ | exact Uo _ _ | exact X5 _ _ | exact WP _ _ | exact Xb _ _ | exact ZaQ _ _ | exact U9 _ _ | exact Zae _ _) ?_ | refine Js hR2 T.clReader (by first | exact T.n_t | exact T.n_at) (by first | exact rf_t _ _ | exact Zfe _ _) ?_ | refine ZbS hR2 T.clReader T.n_at (Zfe _ _) ?_ | refine ZhW hR2 ?_ | refine Ws hR2 T.clReader (by first | exact T.n_t | exact T.n_at) ?_)
local macro_rules | `(tactic| walk_at "gr")=>`(tactic| repeat (first | walk_at "g1" | walk_at "g2"))
section
variable {P:Program}{w:World}{K:PySem.W.Frag}{mg:Str→Option Value}{base:Heap}{a:Ad}
theorem ZjK {n:Nat}:atI [V.int 192,V.int 224,V.int 240] ((Wp n:Int)+1-2)=some (.int (ZdL n:Int)):=by
 unfold Wp ZdL
 split
 ·rfl
 ·split <;> rfl
def Yk (K:PySem.W.Frag) (a:Ad):Sp:=fun vs H Q E=>∃ (r ta:Addr) (bs:List UInt8) (p:Nat) (c:UInt8),vs=[.ref r,.int (c.toNat:Int),.int ((Wp c.toNat:Int)+1)]∧Rdr K a H r ta bs p∧bs[p]?=some c∧194≤c.toNat∧c.toNat≤244 ∧
 Out K a H r ta bs p Vh.letter_ (fun x H'=>Q (.int (x:Nat)) H') E
abbrev ZD:Stmt:=YS (top 60) 9
theorem Y4:Zp ["self","lead","size","value","bounds","left","byte"] ["self","lead","size"] (Zc ZD):=⟨rfl,rfl,rfl,by decide +kernel,rfl,by decide +kernel,by decide +kernel⟩
theorem Wt {f:Addr}{fd:FuncData} (F:Fun K "take_long_letter" "Reader.take_long_letter" ZD f fd) (T:Txt K mg a) (zzbn:FnC P w K mg base CX0 1 "bounds_behind" ["lead"] (XX K a)) (zzae:Z9 P w K mg base CX0 1 a.CR "peek" ["self"] (Z0 K a)) (zzcf:FnC P w K mg base CX0 1 "is_letter" ["character"] (Wu K a)):FnOk P w K mg base (CX1 P w a.CE) 2 f fd ["self","lead","size"] (Yk K a):=by
 refine F.okE Y4 (fun vs H Q E h=>?_) (fun cdv A outer s H vs Q E hr h=>?_)
 ·obtain ⟨r,ta,bs,p,c,rfl,⟨dx,hR,hS,hne⟩,hc,h1,h2,q1,q2⟩:=h
  rfl
 ·obtain ⟨r,ta,bs,p,c,rfl,⟨dx,hR,hS,hne⟩,hc,h1,h2,q1,q2⟩:=h
  have nd:=Y4.nd
  refine ⟨_,(Zb (VG (pv 0) Zh Zds) (Zb (Zo (i:=3) nd rfl (Or.inl rfl) (ZG Yj (pv 1) (ZK YF (Wj (Za Zh (Za Zh (Za Zh Zd)))) (ZG Yj (pv 2) Zh) (fun _ _=>rfl)))) (Zb (Zo (i:=4) nd rfl (Or.inl rfl) (Zl zzbn hr Zz (Za (pv 1) Zd))) (Zb (VF PassesOwn.leaving rfl (ZaS rfl T.range (Za (ZG Yj (pv 2) Zh) (Za (Zc5 J1 Zh) (Za (Zc5 J1 Zh) Zd)))) (Yl (i:=5) nd rfl (Or.inl rfl)) (Zb (Zo (i:=6) nd rfl (Or.inl rfl) (XT (pv 0) T.clReader zzae hr Zz)) (Zb (Ye (Uq (W7 WI WI (ZK YF (pv 4) Zh (fun _ _=>rfl)) (pv 6) (ZK YF (pv 4) Zh (fun _ _=>rfl)))) (Zf (WA T.exc rfl (Za ZL Zd))) Zx) (Zb (Zo (i:=3) nd rfl (Or.inl rfl) (ZG Yj (ZG Ya (ZG Zc7 (pv 3) Zh) (pv 6)) Zh)) (Zb (Ye (PW.pt (Xm (Zq Va (pv 5) Zh (Zu _)) (Xc (Uq (Wi (Zl zzcf hr Zz (Za (pv 3) Zd))))))) (Zf (WA T.exc rfl (Za ZL Zd))) Zx) (Zb (VG (pv 0) Zh Zds) (Zf (Zo (i:=4) nd rfl (Or.inl rfl) (Wj (Za Zh (Za Zh Zd))))))))))) (Zf (Zs (pv 3))))))),?_⟩
  walk_at "gs"
  have hR2:=hR
  have hlong:=Zee hc h1 h2
  have z3:3≤sizeLine:=by decide
  have z2:2≤sizeLine:=by decide
  walk_at "gr"
  refine ⟨(show 2<1000 by decide),?_⟩
  walk_at "gr"
  refine ⟨z3,fun t1 ht1=>?_⟩
  walk_at "gr"
  refine ⟨_,.inl (.inl Ze),_,ZjK,?_⟩
  walk_at "gr"
  refine ⟨_,rfl,fun t2 ht2=>?_⟩
  walk_at "gr"
  have m3:Wp c.toNat≤3∧1≤Wp c.toNat:=by unfold Wp;split <;> (try split) <;> lia
  have ne1:t1≠r:=fun z=>by rw [z,Ze] at ht1;cases ht1
  have ne2:t2≠r:=fun z=>by rw [z,Zi (Ne.symm ne1),Ze] at ht2;cases ht2
  obtain ⟨Pv,hP⟩:∃ Pv:WT,Pv=fun i σ H'=>∃ (v:Nat) (lo hi:Int) (b:Addr) (p':Nat) (o1 o2:Option V),
   σ=[some (.ref r),some (.int (c.toNat:Int)),some (.int ((Wp c.toNat:Int)+1)),some (.int (v:Int)),some (.ref b),o1,o2]∧Rdr K a H' r ta bs p'∧Kp [r] H H'∧H' b=some (.tup [.int lo,.int hi])∧128≤lo∧hi≤191 ∧
   Jl bs (Wp c.toNat) (c.toNat-ZdL c.toNat) (blo c.toNat) (bhi c.toNat) (p+1)=Jl bs (Wp c.toNat-i) v lo hi p':=⟨_,rfl⟩
  walk_at "gr"
  refine ⟨_,rfl,_,_,rfl,rfl,_,rfl,_,rfl,_,_,_,_,rfl,RgC.neg (by lia) (by lia) (by lia) (by lia),JW Pv ?_ ?_ ?_⟩
  ·have e:((c.toNat:Int)-(ZdL c.toNat:Int))=((c.toNat-ZdL c.toNat:Nat):Int):=by unfold ZdL;split <;> (try split) <;> lia
   have k1:Kp [r] H (upd (upd (upd H r (HO.ins a.CR dx (rf ta ((p:Int)+1)))) t1 (HO.tup [V.int 192,V.int 224,V.int 240])) t2 (HO.tup [V.int (blo c.toNat),V.int (bhi c.toNat)])) :=
    ((Kp.put (by simp)).trans (Kp.new ht1)).trans (Kp.new ht2)
   rw [hP]
   walk_at "gr"
   refine ⟨_,_,_,t2,p+1,none,none,by rw [e],Rdr.move (dx:=dx) hS hne k1 (by rw [Zi (Ne.symm ne2),Zi (Ne.symm ne1),Ze];rfl),k1,Ze,?_,?_,rfl⟩
   ·unfold blo;split <;> (try split) <;> lia
   ·unfold bhi;split <;> (try split) <;> lia
  ·intro i σ H2 hi hw
   rw [hP] at hw
   obtain ⟨v,lo,hi',b,p2,o1,o2,rfl,⟨dx2,hR,hS,hne⟩,k2,hb,l1,l2,eq⟩:=hw
   have hi:i<Wp c.toNat:=by lia
   obtain ⟨m,hm⟩:∃ m,Wp c.toNat-i=m+1:=⟨Wp c.toNat-i-1,by lia⟩
   rw [hm] at eq
   rw [eq] at hlong
   have hR2:=hR
   have R:Rdr K a H2 r ta bs p2:=⟨dx2,hR,hS,hne⟩
   walk_at "gr"
   refine ⟨r,ta,bs,p2,rfl,R,?_⟩
   walk_at "gr"
   walk_at "gr"
   refine ⟨_,.inl (.inl hb),_,rfl,_,rfl,?_⟩
   walk_at "gr"
   by_cases hin:lo≤pk bs p2∧pk bs p2≤hi'
   ·rw [if_pos hin.1]
    walk_at "gr"
    refine ⟨_,.inl (.inl hb),_,rfl,?_⟩
    walk_at "gr"
    rw [if_neg (by lia)]
    walk_at "gr"
    refine ⟨.inr (by lia),?_⟩
    walk_at "gr"
    have ev:((v:Int) * 64+pk bs p2-128)=((v * 64+((pk bs p2).toNat-128):Nat):Int):=by lia
    simp only [ev]
    rw [Jl,if_pos hin] at eq hlong
    have nxt:¬ (m=0∧isL ((v * 64+((pk bs p2).toNat-128):Nat):Int)=false)→2<1000∧2≤sizeLine∧∀ t,upd H2 r (HO.ins a.CR dx2 (rf ta ((p2:Int)+1))) t=none →
      Pv (i+1) [some (V.ref r),some (V.int (c.toNat:Int)),some (V.int ((Wp c.toNat:Int)+1)),some (V.int ((v * 64+((pk bs p2).toNat-128):Nat):Int)),some (V.ref t),some (V.int ((Wp c.toNat:Int)+1-2+(i:Int) * -1)),some (V.int (pk bs p2))]
       (upd (upd H2 r (HO.ins a.CR dx2 (rf ta ((p2:Int)+1)))) t (HO.tup [V.int 128,V.int 191])):=fun hno=>by
     walk_at "gr"
     refine ⟨by decide,z2,fun t ht=>?_⟩
     walk_at "gr"
     rw [if_neg hno] at eq
     have net:t≠r:=fun z=>by rw [z,Ze] at ht;cases ht
     have k3:Kp [r] H2 (upd (upd H2 r (HO.ins a.CR dx2 (rf ta ((p2:Int)+1)))) t (HO.tup [V.int 128,V.int 191])):=(Kp.put (by simp)).trans (Kp.new ht)
     rw [hP]
     exact ⟨_,128,191,t,p2+1,_,_,rfl,Rdr.move (dx:=dx2) hS hne k3 (by rw [Zi (Ne.symm net),Ze];rfl),k2.trans k3,Ze,by lia,by lia,by rw [eq,show Wp c.toNat-(i+1)=m by lia]⟩
    split
    ·rename_i h0
     walk_at "gr"
     refine ⟨_,rfl,?_⟩
     walk_at "gr"
     walk_at "gr"
     split
     ·rename_i h5
      rw [if_pos ⟨by lia,h5⟩] at hlong
      exact ⟨by decide,q2 p2 H2 hlong R⟩
     ·rename_i h5
      walk_at "gr"
      refine ⟨(show 2<1000 by decide),?_⟩
      walk_at "gr"
      refine ⟨z2,fun t ht=>?_⟩
      walk_at "gr"
      rw [ZeB] at ht ⊢
      exact (nxt (fun z=>h5 z.2)).2.2 t ht
    ·rename_i h0
     walk_at "gr"
     refine ⟨(show 2<1000 by decide),?_⟩
     walk_at "gr"
     refine ⟨z2,fun t ht=>?_⟩
     walk_at "gr"
     rw [ZeB] at ht ⊢
     exact (nxt (fun z=>h0 (by lia))).2.2 t ht
   ·have er:Vh.letter_ p (bs.drop p)=.error p2:=by rw [hlong,Jl,if_neg hin];rfl
    split
    ·walk_at "gr"
     refine ⟨_,.inl (.inl hb),_,rfl,?_⟩
     walk_at "gr"
     rw [if_pos (by lia)]
     walk_at "gr"
     exact ⟨by decide,q2 p2 H2 er R⟩
    ·walk_at "gr"
     exact ⟨by decide,q2 p2 H2 er R⟩
  ·intro σ H2 hw
   rw [hP] at hw
   obtain ⟨v,lo,hi',b,p2,o1,o2,rfl,R,k2,hb,l1,l2,eq⟩:=hw
   walk_at "gr"
   rw [show Wp c.toNat-((Wp c.toNat:Int)+1-2 - -1).toNat=0 by lia,Jl] at eq
   rw [eq] at hlong
   exact q1 v p2 H2 hlong k2 R
theorem Zjo (n:Nat) (mk:List UInt8) (c:UInt8) (h:c.toNat=n):inV (.int (n:Int)) (bsV mk)=mk.contains c:=by
 subst h
 unfold inV bsV
 rw [List.any_map,List.contains_eq_any_beq]
 congr 1
 funext y
 show ((y.toNat:Int)==(c.toNat:Int))=(c==y)
 by_cases e:c=y
 ·subst e;simp
 ·rw [beq_eq_false_iff_ne.mpr e,beq_eq_false_iff_ne]
  intro z
  exact e (UInt8.toNat_inj.mp (by lia))
theorem ZiK (mk:List UInt8):(bsV mk).all VT=true:=by
 unfold bsV
 rw [List.all_map,List.all_eq_true];intro _ _;rfl
def Yw (K:PySem.W.Frag) (a:Ad):Sp:=fun vs H Q E=>∃ (r ma ta:Addr) (bs mk:List UInt8) (p:Nat),vs=[.ref r,.ref ma]∧Rdr K a H r ta bs p∧(∀ H',Kp [r] H H'→SqT K H' ma (bsV mk))∧(∀ c∈mk,c.toNat<128) ∧
 Out K a H r ta bs p (Zao mk) (fun x H'=>Q (.int (x:Nat)) H') E
abbrev ZI:Stmt:=YS (top 60) 8
theorem Xd:Zp ["self","marks","lead","size"] ["self","marks"] (Zc ZI):=⟨rfl,rfl,rfl,by decide +kernel,rfl,by decide +kernel,by decide +kernel⟩
theorem WQ {f:Addr}{fd:FuncData} (F:Fun K "take_character" "Reader.take_character" ZI f fd) (T:Txt K mg a) (zzae:Z9 P w K mg base CX0 1 a.CR "peek" ["self"] (Z0 K a)) (zzb3:FnC P w K mg base CX0 1 "size_by_lead" ["lead"] (Wc K a)) (zzaj:Z9 P w K mg base (CX1 P w a.CE) 2 a.CR "take_long_letter" ["self","lead","size"] (Yk K a)) (zzcf:FnC P w K mg base CX0 1 "is_letter" ["character"] (Wu K a)):FnOk P w K mg base (CX1 P w a.CE) 3 f fd ["self","marks"] (Yw K a):=by
 refine F.okE Xd (fun vs H Q E h=>?_) (fun cdv A outer s H vs Q E hr h=>?_)
 ·obtain ⟨r,ma,ta,bs,mk,p,rfl,⟨dx,hR,hS,hne⟩,hma,hmk,q1,q2⟩:=h
  rfl
 ·obtain ⟨r,ma,ta,bs,mk,p,rfl,⟨dx,hR,hS,hne⟩,hma,hmk,q1,q2⟩:=h
  have nd:=Xd.nd
  refine ⟨_,(Zb (Zo (i:=2) nd rfl (Or.inl rfl) (XT (pv 0) T.clReader zzae hr Zz)) (Zb (Zo (i:=3) nd rfl (Or.inl rfl) (Zl zzb3 hr Zz (Za (pv 2) Zd))) (Zb (Ye (Zq Jf (pv 3) Zh (Zu _)) (Zf (Zs (Zt (pv 0) T.clReader zzaj hr Yz (Za (pv 2) (Za (pv 3) Zd))))) Zx) (Zb (Ye (PW.pt (Zbj (Zq Va (pv 3) Zh (Zu _)) (Ja (Uq (PW.pt (Zbj (Wi (Zl zzcf hr Zz (Za (pv 2) Zd))) (Ja (Zq Je (pv 2) (pv 1) (by with_unfolding_all rfl))))))))) (Zf (WA T.exc rfl (Za ZL Zd))) Zx) (Zb (VG (pv 0) Zh Zds) (Zf (Zs (pv 2)))))))),?_⟩
  have hR2:=hR
  have R:Rdr K a H r ta bs p:=⟨dx,hR,hS,hne⟩
  walk_at "rdr"
  refine ⟨VE _ _,r,ta,bs,p,rfl,R,?_⟩
  walk_at "rdr"
  refine ⟨_,rfl,?_⟩
  walk_at "rdr"
  cases e:bs[p]? with
  | none =>
   rw [Zck.mpr e]
   rw [if_neg (by decide),if_pos (by decide)]
   exact ⟨by decide,q2 p H (Vd (by unfold cS;rw [e])) R⟩
  | some c =>
   rw [Zcj e]
   have hlt:=c.toNat_lt
   have er:128≤c.toNat→¬ (194≤c.toNat∧c.toNat≤244)→Zao mk p (bs.drop p)=.error p:=fun h1 h2=>Vd (by
    unfold cS
    rw [e]
    dsimp only
    rw [Bool.or_eq_false_iff]
    constructor
    ·rw [List.contains_eq_any_beq,List.any_eq_false]
     intro y hy z
     have:=hmk y hy
     rw [← eq_of_beq z] at this
     lia
    ·unfold Vh.startsLetter
     rw [if_neg (by lia)]
     simp;lia)
   by_cases h1:c.toNat<128
   ·have es:ZcW (c.toNat:Int)=1:=by unfold ZcW;rw [if_pos (by lia)]
    rw [es,if_neg (by decide),if_neg (by decide)]
    refine ⟨_,rfl,?_⟩
    walk_at "rdr"
    have k1:Kp [r] H (upd H r (HO.ins a.CR dx (rf ta ((p:Int)+1)))):=Kp.put (by simp)
    have R1:Rdr K a (upd H r (HO.ins a.CR dx (rf ta ((p:Int)+1)))) r ta bs (p+1):=Rdr.move (dx:=dx) hS hne k1 (by rw [Ze];rfl)
    have okc:(mk.contains c=true∨isL (c.toNat:Int)=true)→Zao mk p (bs.drop p)=.ok (c.toNat,p+1,bs.drop (p+1)):=fun h=>by
     unfold Zao Vh.byNext
     rw [ZA,e]
     dsimp only
     by_cases hm:mk.contains c=true
     ·rw [if_pos hm];unfold Vh.behind Vh.gives;rw [ZX]
     ·rw [if_neg hm]
      have hl:=h.resolve_left hm
      rw [Zgn h1] at hl
      unfold Vh.letter_ Vh.byNext
      rw [ZA,e]
      dsimp only
      rw [if_neg (by unfold Vh.startsLetter;rw [if_pos h1,hl];decide),if_pos h1]
      unfold Vh.behind Vh.gives;rw [ZX]
    split
    ·rename_i hl
     exact ⟨by decide,q1 _ _ _ (okc (.inr hl)) k1 R1⟩
    ·rename_i hl
     refine ⟨_,.inr (hma H Kp.refl),rfl,ZiK mk,?_⟩
     rw [Zjo _ mk c rfl]
     split
     ·rename_i hm
      refine ⟨by decide,q2 p H (Vd ?_) R⟩
      unfold cS
      rw [e]
      dsimp only
      rw [hm]
      unfold Vh.startsLetter
      rw [if_pos h1,← Zgn h1]
      simpa using hl
     ·rename_i hm
      exact ⟨by decide,q1 _ _ _ (okc (.inl (by simpa using hm))) k1 R1⟩
   ·by_cases h2:194≤c.toNat∧c.toNat≤244
    ·have es:ZcW (c.toNat:Int)=(Wp c.toNat:Int)+1:=by
      unfold ZcW Wp
      rw [if_neg (by lia)]
      by_cases z1:c.toNat<224
      ·rw [if_pos (by lia),if_pos z1];rfl
      ·rw [if_neg (by lia),if_neg z1]
       by_cases z2:c.toNat<240
       ·rw [if_pos (by lia),if_pos z2];rfl
       ·rw [if_neg (by lia),if_pos (by lia),if_neg z2];rfl
     have m3:1≤Wp c.toNat:=by unfold Wp;split <;> (try split) <;> lia
     rw [es,if_pos (by lia)]
     have ec:Zao mk p (bs.drop p)=Vh.letter_ p (bs.drop p):=by
      unfold Zao Vh.byNext
      rw [ZA,e]
      dsimp only
      rw [if_neg]
      intro z
      rw [List.contains_eq_any_beq,List.any_eq_true] at z
      refine Zm fun G0 hG0=>?_
      obtain ⟨y,hy,z⟩:=z
      refine hG0 ?_
      clear hG0
      have:=hmk y hy
      rw [← eq_of_beq z] at this
      lia
     rw [ec] at q1 q2
     exact ⟨Xb _ _,r,ta,bs,p,c,rfl,R,e,h2.1,h2.2,q1,q2⟩
    ·have es:ZcW (c.toNat:Int)=0:=by
      unfold ZcW
      rw [if_neg (by lia),if_neg (by lia),if_neg (by lia),if_neg (by lia)]
     rw [es,if_neg (by decide),if_pos rfl]
     exact ⟨by decide,q2 p H (er (by lia) h2) R⟩
end
section
variable {P:Program}{w:World}{K:PySem.W.Frag}{mg:Str→Option Value}{base:Heap}{a:Ad}
def lV (x:List Nat):List V:=x.map fun (n:Nat)=>V.int (n:Int)
theorem Z6 (x:List Nat):(lV x).length=x.length:=by unfold lV;rw [List.length_map]
theorem Zgi (x:List Nat) (n:Nat):lV x++[V.int (n:Int)]=lV (x++[n]):=by unfold lV;rw [List.map_append];rfl
def OutT (K:PySem.W.Frag) (a:Ad) (H:Hp) (r ta:Addr) (bs mk:List UInt8) (p k:Nat) (Q:VK) (E:XK):Prop :=
 (∀ x p' H' l,VhPage.someChars_ mk k p (bs.drop p)=.ok (x,p',bs.drop p')→x.length≤k→1≤x.length→H l=none→l≠r→Kp [r] H H'→H' l=some (.lst (lV x))→Rdr K a H' r ta bs p'→Q (.ref l) H') ∧
 ∀ p' H',(VhPage.someChars_ mk k p (bs.drop p)=.error p'∨∃ x,VhPage.someChars_ mk k p (bs.drop p)=.ok (x,p',bs.drop p')∧pk bs p'≠32∧pk bs p'≠10)→Rdr K a H' r ta bs p'→E (.ref a.CE) none H'
def MkOk (K:PySem.W.Frag) (H:Hp) (r ma:Addr) (mk:List UInt8):Prop:=(∀ H',Kp [r] H H'→SqT K H' ma (bsV mk))∧∀ c∈mk,33≤c.toNat∧c.toNat<128
theorem MkOk.kp {H H':Hp}{r ma:Addr}{mk:List UInt8} (h:MkOk K H r ma mk) (k:Kp [r] H H'):MkOk K H' r ma mk:=⟨fun H2 k2=>h.1 H2 (k.trans k2),h.2⟩
def Zfw (bs mk:List UInt8) (p:Nat):Bool:=decide (pk bs p=32) || decide (pk bs p=10) || (Wq.contains (pk bs p) && !(mk.map fun c=>(c.toNat:Int)).contains (pk bs p))
theorem ZhF (mk:List UInt8):bsV mk=(mk.map fun c=>(c.toNat:Int)).map V.int:=by unfold bsV;rw [List.map_map];rfl
theorem ZiO {bs mk:List UInt8}{p:Nat} (h:Wq.contains (pk bs p)=true) (h2:(mk.map fun c=>(c.toNat:Int)).contains (pk bs p)=false):cS bs mk p=false:=by
 unfold cS
 cases e:bs[p]? with
 | none=>rfl
 | some x =>
  rw [Zcj e] at h h2
  dsimp only
  rw [Bool.or_eq_false_iff]
  constructor
  ·cases z:mk.contains x with
   | false=>rfl
   | true =>
    have:(mk.map fun c=>(c.toNat:Int)).contains (x.toNat:Int)=true:=List.contains_iff_mem.mpr (List.mem_map.mpr ⟨x,List.contains_iff_mem.mp z,rfl⟩)
    rw [this] at h2;cases h2
  ·have hm:Vh.MARKS.contains x.toNat=true:=by
    have:=List.contains_iff_mem.mp h
    refine List.contains_iff_mem.mpr ?_
    have e2:Wq=Vh.MARKS.map fun (n:Nat)=>(n:Int):=by decide
    rw [e2] at this
    obtain ⟨y,hy,hy2⟩:=List.mem_map.mp this
    have hy3:y=x.toNat:=by lia
    rw [← hy3];exact hy
   have hlt:x.toNat<128:=by
    have h':=List.contains_iff_mem.mp hm
    have:∀ y∈Vh.MARKS,y<128:=by decide
    exact this _ h'
   unfold Vh.startsLetter
   rw [if_pos hlt]
   unfold Vh.isLetter
   rw [hm]
   simp
def Y6 (K:PySem.W.Frag) (a:Ad):Sp:=fun vs H Q _=>∃ (r ma ta:Addr) (bs mk:List UInt8) (p:Nat),vs=[.ref r,.ref ma]∧Rdr K a H r ta bs p∧SqT K H ma (bsV mk)∧Q (.bl (Zfw bs mk p)) H
abbrev ZW:Stmt:=YS (top 60) 10
theorem X1:Zp ["self","marks","byte"] ["self","marks"] (Zc ZW):=⟨rfl,rfl,rfl,by decide +kernel,rfl,by decide +kernel,by decide +kernel⟩
theorem Uc {f:Addr}{fd:FuncData} (F:Fun K "ends_thing" "Reader.ends_thing" ZW f fd) (T:Txt K mg a) (zzae:Z9 P w K mg base CX0 1 a.CR "peek" ["self"] (Z0 K a)):FnOk P w K mg base CX0 2 f fd ["self","marks"] (Y6 K a):=by
 refine F.ok X1 (fun vs H Q E h=>?_) (fun cdv A outer s H vs Q E hr h=>?_)
 ·obtain ⟨r,ma,ta,bs,mk,p,rfl,⟨dx,hR,hS,hne⟩,hma,q⟩:=h
  rfl
 ·obtain ⟨r,ma,ta,bs,mk,p,rfl,⟨dx,hR,hS,hne⟩,hma,q⟩:=h
  have nd:=X1.nd
  refine ⟨_,(Zb (Zo (i:=2) nd rfl (Or.inl rfl) (XT (pv 0) T.clReader zzae hr Zz)) (Zf (Zs (ZjT (Wk Je (pv 2) (UC T.cENDS) (by with_unfolding_all rfl)) (ZhQ (Zi9 (Wk Je (pv 2) (UC T.cMARKS) (by with_unfolding_all rfl)) (ZhQ (Wk Zah (pv 2) (pv 1) (by with_unfolding_all rfl))))))))),?_⟩
  have hR2:=hR
  rw [ZhF] at hma
  unfold Zfw at q
  walk_at "rdr"
  refine ⟨VE _ _,r,ta,bs,p,rfl,⟨dx,hR,hS,hne⟩,?_⟩
  generalize pk bs p=n at q ⊢
  walk_at "rdr"
  refine ⟨_,.inr (T.tENDS H),rfl,rfl,?_⟩
  have e1:inV (V.int n) [V.int 32,V.int 10]=(decide (n=32) || decide (n=10)):=by
   rw [show [V.int 32,V.int 10]=([32,10]:List Int).map V.int from rfl,Jr]
   show (n==32 || (n==10 || false))=_
   rw [Bool.or_false];rfl
  rw [e1]
  by_cases h1:(decide (n=32) || decide (n=10))=true
  ·rw [if_pos h1];rw [h1,Bool.true_or] at q;exact q
  ·rw [if_neg h1]
   have h1:(decide (n=32) || decide (n=10))=false:=by simpa using h1
   rw [h1,Bool.false_or] at q
   refine ⟨_,.inr (T.tMARKS H),rfl,Ju Wq,?_⟩
   rw [Jr]
   by_cases h2:Wq.contains n=true
   ·rw [if_pos h2]
    rw [h2,Bool.true_and] at q
    refine ⟨_,.inr hma,rfl,Ju _,?_⟩
    rw [Jr]
    exact q
   ·rw [if_neg h2]
    have h2:Wq.contains n=false:=by simpa using h2
    rw [h2,Bool.false_and] at q
    exact q
def Yt (K:PySem.W.Frag) (a:Ad):Sp:=fun vs H Q E=>∃ (r ma ta:Addr) (bs mk:List UInt8) (p k:Nat),vs=[.ref r,.int (k:Int),.ref ma]∧Rdr K a H r ta bs p∧MkOk K H r ma mk∧1≤k∧k≤1000∧OutT K a H r ta bs mk p k Q E
abbrev ZU:Stmt:=YS (top 60) 11
theorem XZ:Zp ["self","most","marks","thing"] ["self","most","marks"] (Zc ZU):=⟨rfl,rfl,rfl,by decide +kernel,rfl,by decide +kernel,by decide +kernel⟩
theorem Ua {f:Addr}{fd:FuncData} (F:Fun K "take_thing" "Reader.take_thing" ZU f fd) (T:Txt K mg a) (zzah:Z9 P w K mg base (CX1 P w a.CE) 3 a.CR "take_character" ["self","marks"] (Yw K a)) (zzar:Z9 P w K mg base CX0 2 a.CR "ends_thing" ["self","marks"] (Y6 K a)):FnOk P w K mg base (CX1 P w a.CE) 4 f fd ["self","most","marks"] (Yt K a):=by
 refine F.okE XZ (fun vs H Q E h=>?_) (fun cdv A outer s H vs Q E hr h=>?_)
 ·obtain ⟨r,ma,ta,bs,mk,p,k,rfl,⟨dx,hR,hS,hne⟩,hma,hk1,hk2,q1,q2⟩:=h
  rfl
 ·obtain ⟨r,ma,ta,bs,mk,p,k,rfl,⟨dx,hR,hS,hne⟩,hma,hk1,hk2,q1,q2⟩:=h
  have nd:=XZ.nd
  refine ⟨_,(Zb (Zo (i:=3) nd rfl (Or.inl rfl) (YR (Za (Zt (pv 0) T.clReader zzah hr Yz (Za (pv 2) Zd)) Zd))) (Zb (Yu PassesOwn.leaving (PW.pt (Xm (Zq Wm (Zr Zj rfl T.len PySem.boot_len (Za (pv 3) Zd)) (pv 1) (Zu _)) (Xc (Uq (Wi (Zt (pv 0) T.clReader zzar hr Zz (Za (pv 2) Zd))))))) (Zf (Zy (X6 PySem.F.plainAttrs_list PySem.F.slot_list_append PySem.F.type_list_append Yq (pv 3) (Za (Zt (pv 0) T.clReader zzah hr Yz (Za (pv 2) Zd)) Zd))))) (Zf (Zs (pv 3))))),?_⟩
  walk_at "gs"
  have hR2:=hR
  have R:Rdr K a H r ta bs p:=⟨dx,hR,hS,hne⟩
  obtain ⟨k',rfl⟩:∃ k',k=k'+1:=⟨k-1,by lia⟩
  have hS0:=hS
  have hm33:∀ c∈mk,33≤c.toNat:=fun c hc=>(hma.2 c hc).1
  walk_at "gr"
  refine ⟨r,ma,ta,bs,mk,p,rfl,R,hma.1,fun c hc=>(hma.2 c hc).2,fun n p1 H1 e1 k1 R1=>?_,fun p1 H1 e1 R1=>?_⟩
  ·walk_at "gr"
   refine ⟨(show 1≤sizeLine by decide),fun l hl=>?_⟩
   walk_at "gr"
   have hs:cS bs mk p=true:=by
    cases z:cS bs mk p with
    | true=>rfl
    | false=>rw [Vd z] at e1;cases e1
   have lr:l≠r:=fun z=>by
    refine Zm fun G0 hG0=>?_
    obtain ⟨_,h,_⟩:=R1
    refine hG0 ?_
    clear hG0
    rw [z,h] at hl;cases hl
   have hl0:H l=none:=k1.free (by simpa using lr) hl
   obtain ⟨W,hW⟩:∃ W:WT,W=fun m σ H'=>∃ (xs:List Nat) (p':Nat),σ=[some (.ref r),some (.int ((k'+1:Nat):Int)),some (.ref ma),some (.ref l)]∧H' l=some (.lst (lV xs))∧Rdr K a H' r ta bs p'∧Kp [r] H H'∧1≤xs.length∧xs.length≤k'+1 ∧
    VhPage.chars_ mk (k'+1) p (bs.drop p)=preO xs (VhPage.chars_ mk (k'+1-xs.length) p' (bs.drop p'))∧m=k'+1-xs.length:=⟨_,rfl⟩
   walk_at "gr"
   refine ⟨W,⟨_,by
    rw [hW]
    have k2:Kp [r] H1 (upd H1 l (HO.lst [V.int (n:Int)])):=Kp.new hl
    have R2:Rdr K a (upd H1 l (HO.lst [V.int (n:Int)])) r ta bs p1:=by
     refine Zm fun G0 hG0=>?_
     obtain ⟨dx1,a1,a2,a3⟩:=R1
     refine hG0 ?_
     clear hG0
     exact Rdr.move (dx:=dx1) a2 a3 k2 (by rw [Zi (Ne.symm lr)];exact a1)
    exact ⟨[n],p1,rfl,Ze,R2,k1.trans k2,by simp,by simp,ZeZ hs e1,rfl⟩⟩,fun m σ H2 hw=>?_⟩
   rw [hW] at hw
   refine Zm fun G0 hG0=>?_
   obtain ⟨xs,p2,rfl,hl2,⟨dx2,hR,hS,hne⟩,k2,x1,x2,eq,rfl⟩:=hw
   refine hG0 ?_
   clear hG0
   have hR2:=hR
   have R2:Rdr K a H2 r ta bs p2:=⟨dx2,hR,hS,hne⟩
   have fin:(xs.length=k'+1∨cS bs mk p2=false)→Q (.ref l) H2:=fun h=>by
    have e:VhPage.chars_ mk (k'+1) p (bs.drop p)=.ok (xs,p2,bs.drop p2):=by
     rw [eq]
     rcases h with h | h
     ·rw [h,Nat.sub_self,VhPage.chars_]
      unfold Vh.gives
      show Except.ok (xs++[],_,_)=_
      rw [List.append_nil]
     ·rw [ZcA h]
      show Except.ok (xs++[],_,_)=_
      rw [List.append_nil]
    exact q1 xs p2 H2 l (UZ e (by cases xs <;> simp at x1 ⊢)) x2 x1 hl0 lr k2 hl2 R2
   walk_at "gr"
   refine ⟨_,.inl (.inl (.inl hl2)),?_⟩
   walk_at "gr"
   rw [Z6]
   by_cases hlen:xs.length=k'+1
   ·rw [if_neg (by lia)]
    walk_at "gr"
    exact fin (.inl hlen)
   ·rw [if_pos (by lia)]
    walk_at "gr"
    refine ⟨r,ma,ta,bs,mk,p2,rfl,R2,(hma.kp k2).1 _ Kp.refl,?_⟩
    walk_at "gr"
    walk_at "gr"
    cases hend:Zfw bs mk p2 with
    | true =>
     rw [if_neg (by decide)]
     walk_at "gr"
     refine fin (.inr ?_)
     unfold Zfw at hend
     rw [Bool.or_eq_true,Bool.or_eq_true,decide_eq_true_eq,decide_eq_true_eq,Bool.and_eq_true] at hend
     rcases hend with hend | hend
     ·exact ZjI hm33 hend
     ·exact ZiO hend.1 (by simpa using hend.2)
    | false =>
      rw [if_pos rfl]
      walk_at "gr"
      have h32:pk bs p2≠32:=fun z=>by unfold Zfw at hend;rw [z] at hend;simp at hend
      have h10:pk bs p2≠10:=fun z=>by unfold Zfw at hend;rw [z] at hend;simp at hend
      walk_at "gr"
      refine ⟨fun σ' H'=>∃ m',m' < k'+1-xs.length∧W m' σ' H',fun _ _ z=>z,?_⟩
      walk_at "gr"
      have ex:k'+1-xs.length=(k'+1-(xs.length+1))+1:=by lia
      walk_at "gr"
      refine ⟨.inl ⟨rfl,_,.inl (.inl hl2)⟩,?_⟩
      walk_at "gr"
      refine ⟨r,ma,ta,bs,mk,p2,rfl,R2,(hma.kp k2).1,fun c hc=>(hma.2 c hc).2,fun n3 p3 H3 e3 k3 R3=>?_,fun p3 H3 e3 R3=>?_⟩
      ·have hs2:cS bs mk p2=true:=by
        cases z:cS bs mk p2 with
        | true=>rfl
        | false=>rw [Vd z] at e3;cases e3
       have hl3:H3 l=some (.lst (lV xs)):=k3 _ _ hl2 (by simpa using lr)
       walk_at "gr"
       refine ⟨_,hl3,?_,k'+1-(xs.length+1),by lia,?_⟩
       ·rw [Z6];exact Nat.lt_of_le_of_lt (show xs.length≤1000 by lia) (by decide)
       ·rw [hW,Zgi]
        have k4:Kp [r] H (upd H3 l (HO.lst (lV (xs++[n3])))):=(k2.trans k3).put2 (.inr hl0)
        have R4:Rdr K a (upd H3 l (HO.lst (lV (xs++[n3])))) r ta bs p3:=by
         refine Zm fun G0 hG0=>?_
         obtain ⟨dx1,a1,a2,a3⟩:=R3
         refine hG0 ?_
         clear hG0
         exact ⟨dx1,by rw [Zi (Ne.symm lr)];exact a1,k4.seq (by simpa using hne) hS0,hne⟩
        walk_at "gr"
        refine ⟨xs++[n3],p3,rfl,Ze,R4,k4,by simp,by simp;lia,?_,by simp⟩
        walk_at "gr"
        rw [eq,ex,ZeZ hs2 e3,W8]
        simp
      ·refine q2 p3 H3 ?_ R3
       by_cases hs2:cS bs mk p2=true
       ·exact .inl (Zey (by rw [eq,ex,ZdA hs2 e3];rfl))
       ·have hs2:cS bs mk p2=false:=by simpa using hs2
        rw [Vd hs2] at e3
        injection e3 with e3
        subst e3
        refine .inr ⟨xs,UZ ?_ (by cases xs <;> simp at x1 ⊢),h32,h10⟩
        rw [eq,ZcA hs2]
        show Except.ok (xs++[],_,_)=_
        rw [List.append_nil]
  ·refine q2 p1 H1 (.inl ?_) R1
   by_cases hs:cS bs mk p=true
   ·exact Zey (ZdA hs e1)
   ·have hs:cS bs mk p=false:=by simpa using hs
    rw [Vd hs] at e1
    injection e1 with e1
    subst e1
    exact ZgZ (ZcA hs)
end
section
variable {P:Program}{w:World}{K:PySem.W.Frag}{mg:Str→Option Value}{base:Heap}{a:Ad}
def LN (H H':Hp) (x:List Nat) (v:V):Prop:=∃ l,v=.ref l∧H' l=some (.lst (lV x))∧H l=none
theorem Paired.snoc {α β:Type}{R:α→β→Prop}:∀ {xs:List α}{ys:List β}{x:α}{y:β},Paired R xs ys→R x y→Paired R (xs++[x]) (ys++[y])
 | _,_,_,_,.nil,h=>.cons h .nil
 | _,_,_,_,.cons r t,h=>.cons r (Paired.snoc t h)
theorem Paired.app {α β:Type}{R:α→β→Prop}:∀ {xs xs':List α}{ys ys':List β},Paired R xs ys→Paired R xs' ys'→Paired R (xs++xs') (ys++ys')
 | _,_,_,_,.nil,h=>h
 | _,_,_,_,.cons r t,h=>.cons r (Paired.app t h)
def OutR (K:PySem.W.Frag) (a:Ad) (H:Hp) (r ta:Addr) (bs mk:List UInt8) (p n k:Nat) (Q:VK) (E:XK):Prop :=
 (∀ xs vs p' H' l,VhPage.row_ (VhPage.someChars_ mk k) n p (bs.drop p)=(if pk bs p'=10 then .ok (xs,p'+1,bs.drop (p'+1)) else .error p')→1≤xs.length→xs.length≤n→(∀ x∈xs,x.length≤k)→H l=none→Kp [r] H H'→H' l=some (.lst vs)→Paired (LN H H') xs vs →
  Rdr K a H' r ta bs p'→Q (.ref l) H') ∧
 ∀ p' H',VhPage.row_ (VhPage.someChars_ mk k) n p (bs.drop p)=.error p'→Rdr K a H' r ta bs p'→E (.ref a.CE) none H'
def Yp (K:PySem.W.Frag) (a:Ad):Sp:=fun vs H Q E=>∃ (r ma ta:Addr) (bs mk:List UInt8) (p n k:Nat),vs=[.ref r,.int (n:Int),.int (k:Int),.ref ma]∧Rdr K a H r ta bs p∧MkOk K H r ma mk∧1≤n∧n≤8192∧1≤k∧k≤1000 ∧
 OutR K a H r ta bs mk p n k Q E
abbrev ZQ:Stmt:=YS (top 60) 12
theorem XR:Zp ["self","most_things","most","marks","things"] ["self","most_things","most","marks"] (Zc ZQ):=⟨rfl,rfl,rfl,by decide +kernel,rfl,by decide +kernel,by decide +kernel⟩
theorem VM {f:Addr}{fd:FuncData} (F:Fun K "take_things" "Reader.take_things" ZQ f fd) (T:Txt K mg a) (zzag:Z9 P w K mg base (CX1 P w a.CE) 4 a.CR "take_thing" ["self","most","marks"] (Yt K a)) (zzac:Z9 P w K mg base CX0 2 a.CR "sees" ["self","sign"] (ZZ K a)) (zzaa:Z9 P w K mg base (CX1 P w a.CE) 3 a.CR "take" ["self","sign"] (ZY K a)):FnOk P w K mg base (CX1 P w a.CE) 5 f fd ["self","most_things","most","marks"] (Yp K a):=by
 refine F.okE XR (fun vs H Q E h=>?_) (fun cdv A outer s H vs Q E hr h=>?_)
 ·obtain ⟨r,ma,ta,bs,mk,p,n,k,rfl,⟨dx,hR,hS,hne⟩,hma,hn1,hn2,hk1,hk2,q1,q2⟩:=h
  rfl
 ·obtain ⟨r,ma,ta,bs,mk,p,n,k,rfl,⟨dx,hR,hS,hne⟩,hma,hn1,hn2,hk1,hk2,q1,q2⟩:=h
  have nd:=XR.nd
  refine ⟨_,(Zb (Zo (i:=4) nd rfl (Or.inl rfl) (YR (Za (Zt (pv 0) T.clReader zzag hr Yz (Za (pv 2) (Za (pv 3) Zd))) Zd))) (Zb (Yu PassesOwn.leaving (PW.pt (Xm (Wi (Zt (pv 0) T.clReader zzac hr Zz (Za ZL Zd))) (Xc (Zq Wm (Zr Zj rfl T.len PySem.boot_len (Za (pv 4) Zd)) (pv 1) (Zu _))))) (Zb (Zy (Zt (pv 0) T.clReader zzaa hr Yz (Za ZL Zd))) (Zf (Zy (X6 PySem.F.plainAttrs_list PySem.F.slot_list_append PySem.F.type_list_append Yq (pv 4) (Za (Zt (pv 0) T.clReader zzag hr Yz (Za (pv 2) (Za (pv 3) Zd))) Zd)))))) (Zf (Zs (pv 4))))),?_⟩
  walk_at "gs"
  have hR2:=hR
  have R:Rdr K a H r ta bs p:=⟨dx,hR,hS,hne⟩
  have hS0:=hS
  obtain ⟨n',rfl⟩:∃ n',n=n'+1:=⟨n-1,by lia⟩
  walk_at "gr"
  have bad:∀ {m p1:Nat},(pk bs p1≠32∧pk bs p1≠10)→XY (VhPage.someChars_ mk k) m p1 (bs.drop p1)=.error p1:=fun h=>ZaD h.2 (.inr h.1)
  walk_at "gr"
  refine ⟨r,ma,ta,bs,mk,p,k,rfl,R,hma,hk1,hk2,fun x p1 H1 l1 e1 x2 x1 hl1 l1r k1 hx R1=>?_,fun p1 H1 e1 R1=>?_⟩
  ·walk_at "gr"
   refine ⟨(show 1≤sizeLine by decide),fun l hl=>?_⟩
   walk_at "gr"
   have lr:l≠r:=fun z=>by
    refine Zm fun G0 hG0=>?_
    obtain ⟨_,h,_⟩:=R1
    refine hG0 ?_
    clear hG0
    rw [z,h] at hl;cases hl
   have hl0:H l=none:=k1.free (by simpa using lr) hl
   have ll1:l1≠l:=fun z=>by rw [z,hl] at hx;cases hx
   obtain ⟨W,hW⟩:∃ W:WT,W=fun m σ H'=>∃ (xs:List (List Nat)) (vs:List V) (p':Nat),σ=[some (.ref r),some (.int ((n'+1:Nat):Int)),some (.int (k:Int)),some (.ref ma),some (.ref l)]∧H' l=some (.lst vs)∧Paired (fun x v=>LN H H' x v∧v≠.ref l) xs vs∧Rdr K a H' r ta bs p'∧Kp [r] H H'∧1≤xs.length∧xs.length≤n'+1∧(∀ x∈xs,x.length≤k) ∧
    VhPage.row_ (VhPage.someChars_ mk k) (n'+1) p (bs.drop p)=preO xs (XY (VhPage.someChars_ mk k) (n'+1-xs.length) p' (bs.drop p'))∧m=n'+1-xs.length:=⟨_,rfl⟩
   walk_at "gr"
   refine ⟨W,⟨_,by
    rw [hW]
    have k2:Kp [r] H1 (upd H1 l (HO.lst [V.ref l1])):=Kp.new hl
    have R2:Rdr K a (upd H1 l (HO.lst [V.ref l1])) r ta bs p1:=by
     refine Zm fun G0 hG0=>?_
     obtain ⟨dx1,a1,a2,a3⟩:=R1
     refine hG0 ?_
     clear hG0
     exact Rdr.move (dx:=dx1) a2 a3 k2 (by rw [Zi (Ne.symm lr)];exact a1)
    exact ⟨[x],[.ref l1],p1,rfl,Ze,.cons ⟨⟨l1,rfl,by rw [Zi ll1];exact hx,hl1⟩,fun z=>ll1 (V.ref.inj z)⟩ .nil,R2,k1.trans k2,by simp,by simp,by simpa using x2,ZbH e1,rfl⟩⟩,fun m σ H2 hw=>?_⟩
   rw [hW] at hw
   refine Zm fun G0 hG0=>?_
   obtain ⟨xs,vs,p2,rfl,hl2,hP,⟨dx2,hR,hS,hne⟩,k2,x1,x2,x3,eq,rfl⟩:=hw
   refine hG0 ?_
   clear hG0
   have hR2:=hR
   have R2:Rdr K a H2 r ta bs p2:=⟨dx2,hR,hS,hne⟩
   have hlen:=Paired.length hP
   have fin:(xs.length=n'+1∨pk bs p2≠32)→Q (.ref l) H2:=fun h=>by
    refine q1 xs vs p2 H2 l ?_ x1 x2 x3 hl0 k2 hl2 (Paired.mapP hP fun _ _ z=>z.1) R2
    rw [eq]
    by_cases h10:pk bs p2=10
    ·rw [ZhL h10,if_pos h10]
     show Except.ok (xs++[],_,_)=_
     rw [List.append_nil]
    ·rw [ZaD h10 (h.imp (fun z=>by lia) id),if_neg h10]
     rfl
   walk_at "gr"
   refine ⟨r,ta,bs,p2,_,32,rfl,R2,by decide,by decide,?_⟩
   walk_at "gr"
   walk_at "gr"
   by_cases h32:pk bs p2=32
   ·rw [if_pos (by simpa using h32)]
    walk_at "gr"
    refine ⟨_,.inl (.inl (.inl hl2)),?_⟩
    walk_at "gr"
    rw [← hlen]
    by_cases hfull:xs.length=n'+1
    ·rw [if_neg (by lia)]
     walk_at "gr"
     exact fin (.inl hfull)
    ·rw [if_pos (by lia)]
     walk_at "gr"
     refine ⟨fun σ' H'=>∃ m',m' < n'+1-xs.length∧W m' σ' H',fun _ _ z=>z,?_⟩
     walk_at "gr"
     have ex:n'+1-xs.length=(n'+1-(xs.length+1))+1:=by lia
     have eqt:VhPage.row_ (VhPage.someChars_ mk k) (n'+1) p (bs.drop p)=preO xs (VhPage.row_ (VhPage.someChars_ mk k) (n'+1-xs.length) (p2+1) (bs.drop (p2+1))):=by rw [eq,ZhK h32 (by lia)]
     walk_at "gr"
     refine ⟨r,ta,bs,p2,_,32,rfl,R2,by decide,by decide,fun _ p3 H3 e3 k3 R3=>?_,fun p3 H3 e3 R3=>?_⟩
     ·have ep:p3=p2+1:=by
       rw [Xv (c:=32) h32] at e3
       injection e3 with e3;injection e3 with _ e3;injection e3 with e3 _
       exact e3.symm
      subst ep
      refine Zm fun G0 hG0=>?_
      obtain ⟨dx3,hR,hS,hne⟩:=R3
      refine hG0 ?_
      clear hG0
      have hR2:=hR
      have R3:Rdr K a H3 r ta bs (p2+1):=⟨dx3,hR,hS,hne⟩
      have hl3:H3 l=some (.lst vs):=k3 _ _ hl2 (by simpa using lr)
      simp only [tBM,UA]
      walk_at "gr"
      refine ⟨.inl ⟨rfl,_,.inl (.inl hl3)⟩,?_⟩
      walk_at "gr"
      refine ⟨r,ma,ta,bs,mk,p2+1,k,rfl,R3,hma.kp (k2.trans k3),hk1,hk2,fun x p4 H4 l4 e4 y2 y1 hl4 l4r k4 hx4 R4=>?_,fun p4 H4 e4 R4=>?_⟩
      ·have hl4':H4 l=some (.lst vs):=k4 _ _ hl3 (by simpa using lr)
       have ne4:l4≠l:=fun z=>by rw [z,hl3] at hl4;cases hl4
       walk_at "gr"
       refine ⟨_,hl4',?_,n'+1-(xs.length+1),by lia,?_⟩
       ·rw [← hlen];exact Nat.lt_of_le_of_lt (show xs.length≤8192 by lia) (by decide)
       ·rw [hW]
        have k5:Kp [r] H (upd H4 l (HO.lst (vs++[V.ref l4]))):=((k2.trans k3).trans k4).put2 (.inr hl0)
        have R5:Rdr K a (upd H4 l (HO.lst (vs++[V.ref l4]))) r ta bs p4:=by
         refine Zm fun G0 hG0=>?_
         obtain ⟨dx1,a1,a2,a3⟩:=R4
         refine hG0 ?_
         clear hG0
         exact ⟨dx1,by rw [Zi (Ne.symm lr)];exact a1,k5.seq (by simpa using hne) hS0,hne⟩
        walk_at "gr"
        refine ⟨xs++[x],vs++[.ref l4],p4,rfl,Ze,Paired.snoc (Paired.mapP hP ?_) ⟨⟨l4,rfl,by rw [Zi ne4];exact hx4,(k2.trans k3).free (by simpa using l4r) hl4⟩,fun z=>ne4 (V.ref.inj z)⟩,R5,k5,by simp,by simp;lia,fun z hz=>(List.mem_append.mp hz).elim (x3 z) (fun h=>by rw [List.mem_singleton.mp h];exact y2),?_,by simp⟩
        ·rintro y v ⟨⟨b,rfl,hb,hb0⟩,nb⟩
         have br:b≠r:=fun z=>by
          refine Zm fun G0 hG0=>?_
          obtain ⟨_,h,_⟩:=R
          refine hG0 ?_
          clear hG0
          rw [z,h] at hb0;cases hb0
         have nb:b≠l:=fun z=>nb (by rw [z])
         exact ⟨⟨b,rfl,by rw [Zi nb];exact k4 _ _ (k3 _ _ hb (by simpa using br)) (by simpa using br),hb0⟩,fun z=>nb (V.ref.inj z)⟩
        ·rw [eqt,ex,ZbH e4,W8]
         simp
      ·refine q2 p4 H4 ?_ R4
       rw [eqt,ex]
       rcases e4 with e4 | ⟨x,e4,hb⟩
       ·rw [Zci e4];rfl
       ·rw [ZbH e4,bad hb];rfl
     ·rw [Xv (c:=32) h32] at e3
      cases e3
   ·rw [if_neg (by simpa using h32)]
    walk_at "gr"
    exact fin (.inr h32)
  ·refine q2 p1 H1 ?_ R1
   rcases e1 with e1 | ⟨x,e1,hb⟩
   ·exact Zci e1
   ·rw [ZbH e1,bad hb];rfl
end
section
variable {P:Program}{w:World}{K:PySem.W.Frag}{mg:Str→Option Value}{base:Heap}{a:Ad}
theorem Paired.get {α β:Type}{R:α→β→Prop}:∀ {xs:List α}{ys:List β}{i:Nat}{y:β},Paired R xs ys→ys[i]?=some y→∃ x,xs[i]?=some x∧R x y
 | _,_,_,_,.nil,e=>by simp at e
 | _,_,0,_,.cons r _,e=>by simp at e;subst e;exact ⟨_,rfl,r⟩
 | _,_,i+1,y,.cons _ t,e=>by
  obtain ⟨u,h1,h2⟩:=Paired.get (i:=i) (y:=y) t (by simpa using e)
  exact ⟨u,by simpa using h1,h2⟩
theorem Paired.getL {α β:Type}{R:α→β→Prop}:∀ {xs:List α}{ys:List β},Paired R xs ys→xs.length=ys.length
 | _,_,.nil=>rfl
 | _,_,.cons _ t=>by simp [Paired.getL t]
def Xa (K:PySem.W.Frag) (a:Ad):Sp:=fun vs H Q E=>∃ (r ab ta:Addr) (bs:List UInt8) (p:Nat) (bds:List (Nat×Nat)),vs=[.ref r,.ref ab]∧Rdr K a H r ta bs p∧BdT K ab bds∧bds.length≤8 ∧
 (∀ xs p' H' l,hdr bds p (bs.drop p)=.ok (xs,p',bs.drop p')→xs.length=bds.length→H l=none→Kp [r] H H'→H' l=some (.lst (lV xs))→Rdr K a H' r ta bs p'→Q (.ref l) H') ∧
 ∀ p' H',hdr bds p (bs.drop p)=.error p'→Rdr K a H' r ta bs p'→E (.ref a.CE) none H'
abbrev Z5:Stmt:=YS (top 60) 7
theorem Wh:Zp ["self","all_bounds","numbers","bounds"] ["self","all_bounds"] (Zc Z5):=⟨rfl,rfl,rfl,by decide +kernel,rfl,by decide +kernel,by decide +kernel⟩
theorem UF {f:Addr}{fd:FuncData} (F:Fun K "take_head" "Reader.take_head" Z5 f fd) (T:Txt K mg a) (zzaa:Z9 P w K mg base (CX1 P w a.CE) 3 a.CR "take" ["self","sign"] (ZY K a)) (zzab:Z9 P w K mg base (CX1 P w a.CE) 3 a.CR "take_number" ["self","low","high"] (ZH K a)):FnOk P w K mg base (CX1 P w a.CE) 4 f fd ["self","all_bounds"] (Xa K a):=by
 refine F.okE Wh (fun vs H Q E h=>?_) (fun cdv A outer s H vs Q E hr h=>?_)
 ·obtain ⟨r,ab,ta,bs,p,bds,rfl,⟨dx,hR,hS,hne⟩,hB,hb8,q1,q2⟩:=h
  rfl
 ·obtain ⟨r,ab,ta,bs,p,bds,rfl,⟨dx,hR,hS,hne⟩,hB,hb8,q1,q2⟩:=h
  have nd:=Wh.nd
  refine ⟨_,(Zb (Zo (i:=2) nd rfl (Or.inl rfl) (YR Zd)) (Zb (Zy (Zt (pv 0) T.clReader zzaa hr Yz (Za ZL Zd))) (Zb (VF PassesOwn.leaving rfl (Zi5 (pv 1)) (Yl (i:=3) nd rfl (Or.inl rfl)) (Zb (Ye (Zq Jf (Zr Zj rfl T.len PySem.boot_len (Za (pv 2) Zd)) Zh (Zu _)) (Zf (Zy (Zt (pv 0) T.clReader zzaa hr Yz (Za ZL Zd)))) Zx) (Zf (Zy (X6 PySem.F.plainAttrs_list PySem.F.slot_list_append PySem.F.type_list_append Yq (pv 2) (Za (Zt (pv 0) T.clReader zzab hr Yz (Za (ZK YF (pv 3) Zh (fun _ _=>rfl)) (Za (ZK YF (pv 3) Zh (fun _ _=>rfl)) Zd))) Zd)))))) (Zb (Zy (Zt (pv 0) T.clReader zzaa hr Yz (Za ZL Zd))) (Zf (Zs (pv 2))))))),?_⟩
  walk_at "gs"
  have hR2:=hR
  have R:Rdr K a H r ta bs p:=⟨dx,hR,hS,hne⟩
  have hS0:=hS
  obtain ⟨bv,tB,hP⟩:=hB
  have hbl:=Paired.getL hP
  walk_at "gr"
  refine ⟨by decide,fun l hl=>?_⟩
  walk_at "gr"
  have lr:l≠r:=fun z=>by rw [z,hR] at hl;cases hl
  have k0:Kp [r] H (upd H l (HO.lst [])):=Kp.new hl
  have hR:upd H l (HO.lst []) r=some (HO.ins a.CR dx (rf ta p)):=by rw [Zi (Ne.symm lr)];exact hR
  have R0:Rdr K a (upd H l (HO.lst [])) r ta bs p:=Rdr.move (dx:=dx) hS hne k0 hR
  walk_at "gr"
  refine ⟨r,ta,bs,p,_,94,rfl,R0,by decide,by decide,fun _ p1 H1 e1 k1 R1=>?_,fun p1 H1 e1 R1=>q2 p1 H1 (Z7 e1) R1⟩
  walk_at "gr"
  obtain ⟨Pv,hPv⟩:∃ Pv:WT,Pv=fun i σ H'=>∃ (xs:List Nat) (p':Nat) (o:Option V),σ=[some (.ref r),some (.ref ab),some (.ref l),o]∧xs.length=i∧H' l=some (.lst (lV xs))∧Rdr K a H' r ta bs p'∧Kp [r] H H'∧hdr bds p (bs.drop p)=hd (bds.drop i) xs p' (bs.drop p'):=⟨_,rfl⟩
  walk_at "gr"
  refine ⟨_,rfl,_,rfl,⟨_,tB _⟩,ZiG (xs:=bv) Pv ?_ (fun _ _ _ _ _=>tB _) ?_ ?_⟩
  ·rw [hPv]
   walk_at "gr"
   refine ⟨[],p1,none,rfl,rfl,k1 _ _ Ze (by simpa using lr),R1,k0.trans k1,?_⟩
   walk_at "gr"
   unfold hdr
   rw [ZO e1,List.drop_zero]
  ·intro i v σ H2 hi hw
   rw [hPv] at hw
   obtain ⟨xs,p2,o,rfl,hxl,hl2,⟨dx2,hR,hS,hne⟩,k2,eq⟩:=hw
   have hR2:=hR
   have R2:Rdr K a H2 r ta bs p2:=⟨dx2,hR,hS,hne⟩
   obtain ⟨bd,hbd,b,rfl,tb,hhi⟩:=Paired.get hP hi
   have hib:=(List.getElem?_eq_some_iff.mp hbd).1
   have edrop:bds.drop i=bd::bds.drop (i+1):=by
    rw [List.drop_eq_getElem_cons hib]
    rw [List.getElem?_eq_getElem hib] at hbd
    injection hbd with hbd
    rw [hbd]
   rw [edrop] at eq
   -- the number and what follows
   have step:∀ p3 H3,Rdr K a H3 r ta bs p3→Kp [r] H2 H3→hdr bds p (bs.drop p)=Vh.andThen (Vh.num bd.1 bd.2) (fun x=>hd (bds.drop (i+1)) (xs++[x])) p3 (bs.drop p3) →
     ∀ Qk:VK,(∀ (x:Nat) H4,H4 l=some (.lst (lV xs))→Pv (i+1) [some (.ref r),some (.ref ab),some (.ref l),some (.ref b)] (upd H4 l (.lst (lV xs++[V.int (x:Int)])))→Qk (.int (x:Int)) H4) →
     ZH K a [.ref r,.int (bd.1:Int),.int (bd.2:Int)] H3 Qk E:=fun p3 H3 R3 k3 eq3 Qk hQ=>by
    refine ⟨r,ta,bs,p3,bd.1,bd.2,rfl,R3,hhi,fun x p4 H4 e4 _ _ k4 R4=>?_,fun p4 H4 e4 R4=>?_⟩
    ·have hl4:H4 l=some (.lst (lV xs)):=k4 _ _ (k3 _ _ hl2 (by simpa using lr)) (by simpa using lr)
     refine hQ x H4 hl4 ?_
     rw [hPv,Zgi]
     have k5:Kp [r] H (upd H4 l (.lst (lV (xs++[x])))):=((k2.trans k3).trans k4).put2 (.inr hl)
     obtain ⟨dx4,a1,a2,a3⟩:=R4
     exact ⟨xs++[x],p4,_,rfl,by simp [hxl],Ze,⟨dx4,by rw [Zi (Ne.symm lr)];exact a1,k5.seq (by simpa using hne) hS0,hne⟩,k5,by rw [eq3,ZO e4]⟩
    ·exact q2 p4 H4 (by rw [eq3];exact UG e4 fun x hd=>Zhr hd _ _ (by simp)) R4
   walk_at "gr"
   refine ⟨_,.inl (.inl (.inl hl2)),?_⟩
   walk_at "gr"
   rw [Z6]
   by_cases h0:0<xs.length
   ·rw [if_pos (by lia)]
    walk_at "gr"
    have ne:xs≠[]:=by intro z;rw [z] at h0;simp at h0
    rw [hd_s _ _ _ ne] at eq
    walk_at "gr"
    refine ⟨r,ta,bs,p2,_,32,rfl,R2,by decide,by decide,fun _ p3 H3 e3 k3 R3=>?_,fun p3 H3 e3 R3=>q2 p3 H3 (by rw [eq];exact Z7 e3) R3⟩
    walk_at "gr"
    rw [ZO e3] at eq
    have st:=step p3 H3 R3 k3 eq
    obtain ⟨dx3,hR,hS,hne⟩:=R3
    have hR2:=hR
    have hl3:H3 l=some (.lst (lV xs)):=k3 _ _ hl2 (by simpa using lr)
    walk_at "gr"
    refine ⟨.inl ⟨rfl,_,.inl (.inl hl3)⟩,?_⟩
    walk_at "gr"
    refine ⟨_,tb _,_,rfl,?_⟩
    walk_at "gr"
    refine ⟨_,tb _,_,rfl,?_⟩
    walk_at "gr"
    refine st _ fun x H4 hl4 hP4=>?_
    walk_at "gr"
    exact ⟨_,hl4,by rw [Z6];exact Nat.lt_of_le_of_lt (show _≤8 by first | lia | (simp only [List.length_nil];lia)) (by decide),hP4⟩
   ·rw [if_neg (by lia)]
    walk_at "gr"
    have e:xs=[]:=by cases xs with | nil=>rfl | cons _ _=>simp at h0
    subst e
    have st:=step p2 H2 R2 Kp.refl eq
    walk_at "gr"
    refine ⟨.inl ⟨rfl,_,.inl (.inl hl2)⟩,?_⟩
    walk_at "gr"
    refine ⟨_,tb _,_,rfl,?_⟩
    walk_at "gr"
    refine ⟨_,tb _,_,rfl,?_⟩
    walk_at "gr"
    refine st _ fun x H4 hl4 hP4=>?_
    walk_at "gr"
    exact ⟨_,hl4,by rw [Z6];exact Nat.lt_of_le_of_lt (show _≤8 by first | lia | (simp only [List.length_nil];lia)) (by decide),hP4⟩
  ·intro σ H2 hw
   rw [hPv] at hw
   obtain ⟨xs,p2,o,rfl,hxl,hl2,⟨dx2,hR,hS,hne⟩,k2,eq⟩:=hw
   have hR2:=hR
   have R2:Rdr K a H2 r ta bs p2:=⟨dx2,hR,hS,hne⟩
   rw [show bds.drop bv.length=[] from List.drop_of_length_le (by lia),hd] at eq
   walk_at "gr"
   refine ⟨r,ta,bs,p2,_,10,rfl,R2,by decide,by decide,fun _ p3 H3 e3 k3 R3=>?_,fun p3 H3 e3 R3=>q2 p3 H3 (by rw [eq];exact Z7 e3) R3⟩
   walk_at "gr"
   rw [ZO e3] at eq
   have hl3:H3 l=some (.lst (lV xs)):=k3 _ _ hl2 (by simpa using lr)
   walk_at "gr"
   exact q1 xs p3 H3 l eq (by lia) hl (k2.trans k3) hl3 R3
end
section
variable {P:Program}{w:World}{K:PySem.W.Frag}{mg:Str→Option Value}{base:Heap}{a:Ad}
theorem Zhw {K:PySem.W.Frag}{a:Addr}{xs:List V}{g:TG}{tb:TS}{D:Ends}{σ:L2.St}{H:Hp} (Pv:WT) (h0:Pv 0 σ H) (hl:∀ i σ H,i≤xs.length→Pv i σ H→SqL K H a xs)
  (hs:∀ i x σ H T,xs[i]?=some x→Pv i σ H→H T=none→g (.ref T) σ (upd H T (.tup [.int (i:Nat),x])) fun σ2 H2=>tb { D with nx:=Pv (i+1),ct:=Pv (i+1),bk:=D.nx } σ2 H2) (hd:∀ σ H,Pv xs.length σ H→D.nx σ H) :
  ∃ W:Nat→Nat→L2.St→Hp→Prop,(∃ m,W 0 m σ H)∧∀ i m σ H,W i m σ H →
   ((Ite K a).stop i H∧D.nx σ H)∨((Ite K a).go i H∧∃ N:L2.St→Hp→Prop,(∀ σ' H',N σ' H'→∃ m',m' < m∧W (i+1) m' σ' H')∧∀ x H',(Ite K a).yld i H x H'→g x σ H' fun σ2 H2=>tb { D with nx:=N,ct:=N,bk:=D.nx } σ2 H2):=by
 refine ⟨fun i m σ H=>i+m=xs.length∧Pv i σ H,⟨xs.length,by simp,h0⟩,?_⟩
 rintro i m σ H ⟨hm,p⟩
 have q:=hl i σ H (by lia) p
 cases m with
 | zero =>
  have e:i=xs.length:=by lia
  subst e
  exact .inl ⟨⟨xs,q,Nat.le_refl _⟩,hd σ H p⟩
 | succ m =>
  refine .inr ⟨⟨xs,xs[i]'(by lia),q,by simp [show i<xs.length by lia]⟩,Pv (i+1),fun σ' H' p'=>⟨m,by lia,by lia,p'⟩,?_⟩
  rintro v H' ⟨t,x,rfl,ht,rfl,hx⟩
  exact hs i x σ H t (hx xs q) p ht
def XV (sep:Nat):List (List Nat)→List Nat
 | []=>[]
 | [x]=>x
 | x::y::r=>x++sep::XV sep (y::r)
theorem JU (sep:Nat) (x:List Nat):∀ (ys:List (List Nat)),ys≠[]→XV sep (ys++[x])=XV sep ys++sep::x
 | [],h=>absurd rfl h
 | [y],_=>rfl
 | y::z::r,_=>by
  show y++sep::XV sep (z::r++[x])=(y++sep::XV sep (z::r))++sep::x
  rw [JU sep x (z::r) (by simp)]
  simp
theorem Z3 {α:Type}{l:List α}{i:Nat}{x:α} (h:l[i]?=some x):l.take (i+1)=l.take i++[x]:=by
 rw [List.take_add_one,h];rfl
theorem Zdq (sep:Nat):∀ (ys:List (List Nat)) (i:Nat),(XV sep (ys.take i)).length≤(XV sep ys).length
 | [],i=>by simp [XV]
 | [y],i=>by cases i <;> simp [XV]
 | y::z::r,i=>by
  cases i with
  | zero=>simp [XV]
  | succ i =>
   cases i with
   | zero=>simp [XV]
   | succ i =>
    have:=Zdq sep (z::r) (i+1)
    simp only [List.take_succ_cons,XV,List.length_append,List.length_cons] at this ⊢
    lia
def ZaI (K:PySem.W.Frag) (a:Ad):Sp:=fun vs H Q _=>∃ (lt:Addr) (us:List V) (xs:List (List Nat)) (sep:Nat),vs=[.ref lt,.int (sep:Int)]∧H lt=some (.lst us)∧Paired (fun x v=>∃ l,v=V.ref l∧H l=some (.lst (lV x))) xs us∧(XV sep xs).length≤16777216 ∧
 ∀ H' p,H p=none→Kp [] H H'→H' p=some (.lst (lV (XV sep xs)))→Q (.ref p) H'
abbrev V5:Stmt:=top 10
theorem Zc0:Zp ["things","between","characters","k","thing"] ["things","between"] (Zc V5):=⟨rfl,rfl,rfl,by decide +kernel,rfl,by decide +kernel,by decide +kernel⟩
theorem Zf9 {f:Addr}{fd:FuncData} (F:Fun K "joined" "joined" V5 f fd) (T:Txt K mg a):FnOk P w K mg base CX0 1 f fd ["things","between"] (ZaI K a):=by
 refine F.ok Zc0 (fun vs H Q E h=>?_) (fun cdv A outer s H vs Q E hr h=>?_)
 ·obtain ⟨lt,us,xs,sep,rfl,hlt,hP,hlen,q⟩:=h
  rfl
 ·obtain ⟨lt,us,xs,sep,rfl,hlt,hP,hlen,q⟩:=h
  have nd:=Zc0.nd
  refine ⟨_,(Zb (Zo (i:=2) nd rfl (Or.inl rfl) (YR Zd)) (Zb (VF PassesOwn.never rfl (Zig rfl T.enumerate (Za (pv 0) Zd)) (Zi7 rfl (ZeI (Yl (i:=3) nd rfl (Or.inl rfl)) (ZeI (Yl (i:=4) nd rfl (Or.inl rfl)) Zih))) (Zb (Ye (Zq Jf (pv 3) Zh (Zu _)) (Zf (Zy (X6 PySem.F.plainAttrs_list PySem.F.slot_list_append PySem.F.type_list_append Yq (pv 2) (Za (pv 1) Zd)))) Zx) (Zf (Zy (X6 PySem.F.plainAttrs_list PySem.F.slot_list_extend PySem.F.type_list_extend Xr (pv 2) (Za (pv 4) Zd)))))) (Zf (Zs (pv 2))))),?_⟩
  walk_at "rd"
  refine ⟨by decide,fun l hl=>?_⟩
  have nlt:lt≠l:=Zg hlt hl
  obtain ⟨Pv,hPv⟩:∃ Pv:WT,Pv=fun i σ H'=>∃ o1 o2:Option V,σ=[some (.ref lt),some (.int (sep:Int)),some (.ref l),o1,o2]∧Kp [] H H'∧H' l=some (.lst (lV (XV sep (xs.take i)))):=⟨_,rfl⟩
  refine ⟨_,rfl,_,_,rfl,.inl (.inl (by rw [Zi nlt];exact hlt)),Zhw (xs:=us) Pv ?_ ?_ ?_ ?_⟩
  ·rw [hPv]
   exact ⟨none,none,rfl,Kp.new hl,by rw [Ze];rfl⟩
  ·intro i σ H' _ hw
   rw [hPv] at hw
   obtain ⟨o1,o2,rfl,k,_⟩:=hw
   exact .inl (.inl (k _ _ hlt (by simp)))
  ·intro i v σ H2 t hi hw ht
   rw [hPv] at hw
   obtain ⟨o1,o2,rfl,k,hl2⟩:=hw
   obtain ⟨x,hx,b,rfl,hb⟩:=Paired.get hP hi
   have tl:l≠t:=Zg hl2 ht
   have bl:b≠l:=Zg hb hl
   have tot:=Zdq sep xs (i+1)
   rw [Z3 hx] at tot
   walk_at "rd"
   refine ⟨_,.inl (.inl Ze),rfl,_,_,rfl,_,_,rfl,rfl,?_⟩
   have hb2:H2 b=some (.lst (lV x)):=k _ _ hb (by simp)
   have bt:b≠t:=Zg hb2 ht
   have hz:sizeLine=16777216:=by decide
   have lt2:upd H2 t (HO.tup [V.int (i:Int),V.ref b]) l=some (.lst (lV (XV sep (xs.take i)))):=by rw [Zi tl];exact hl2
   have bt2:upd H2 t (HO.tup [V.int (i:Int),V.ref b]) b=some (.lst (lV x)):=by rw [Zi bt];exact hb2
   refine ⟨_,rfl,?_⟩
   have kk:Kp [] H (upd H2 t (HO.tup [V.int (i:Int),V.ref b])):=k.trans (Kp.new ht)
   by_cases h0:0<i
   ·have ne:xs.take i≠[]:=by
     intro z
     have h1:=congrArg List.length z
     have h2:i<xs.length:=(List.getElem?_eq_some_iff.mp hx).1
     rw [List.length_take,List.length_nil] at h1
     lia
    rw [JU sep x _ ne,List.length_append,List.length_cons] at tot
    rw [if_pos (by lia)]
    refine ⟨.inl ⟨rfl,_,.inl (.inl lt2)⟩,_,lt2,by rw [Z6];lia,.inl ⟨rfl,_,.inl (.inl Ze)⟩,_,rfl,_,Ze,_,by rw [Zi bl];exact bt2,by rw [List.length_append,Z6,Z6];simp;lia,?_⟩
    rw [hPv]
    refine ⟨_,_,rfl,(kk.put2 (.inr hl)).put2 (.inr hl),?_⟩
    rw [Ze,Z3 hx,JU sep x _ ne]
    unfold lV
    simp
   ·have i0:i=0:=by lia
    subst i0
    rw [if_neg (by lia)]
    refine ⟨.inl ⟨rfl,_,.inl (.inl lt2)⟩,_,rfl,_,lt2,_,bt2,by rw [Z6,Z6];simp [XV] at tot ⊢;lia,?_⟩
    rw [hPv]
    refine ⟨_,_,rfl,kk.put2 (.inr hl),?_⟩
    rw [Ze,Z3 hx]
    simp [XV,lV]
  ·intro σ H2 hw
   rw [hPv] at hw
   obtain ⟨o1,o2,rfl,k,hl2⟩:=hw
   walk_at "rd"
   refine q H2 l hl k ?_
   rw [hl2,← Paired.length hP,List.take_length]
def wf (s:VhPage.Settings) (r h p w g e:Addr):List (Str×V):=[("width",.int (s.width:Int)),("height",.int (s.height:Int)),("indent",.int (s.indent:Int)),("every",.int (s.every:Int)),("anew",.int (s.anew:Int)),("loose",.int (s.loose:Int)),
 ("rows",.ref r),("head",.ref h),("paragraphs",.ref p),("words",.ref w),("signs",.ref g),("entries",.ref e)]
theorem XI {f:Str}{v:V}:∀ {l:List (Str×V)},((l.map (·.1)).contains f)=false→putF f v l=l++[(f,v)]
 | [],_=>rfl
 | (g,x)::r,h=>by
  have h':(f==g || (r.map (·.1)).contains f)=false:=by simpa [List.contains_cons] using h
  rw [Bool.or_eq_false_iff] at h'
  show (if g=f then _ else _)=_
  rw [if_neg (fun z=>by rw [z] at h';simp at h'),XI h'.2]
  rfl
theorem Yf {f:Str}{v:V}{fs:List (Str×V)}{n:Nat} (h:fs.length≤n):(putF f v fs).length≤n+1:=Nat.le_trans (UJ f v fs) (by lia)
theorem ZjP (s:VhPage.Settings) (r h p w g e:Addr):putF "entries" (.ref e) (putF "signs" (.ref g) (putF "words" (.ref w) (putF "paragraphs" (.ref p) (putF "head" (.ref h) (putF "rows" (.ref r) (putF "loose" (.int (s.loose:Int)) (putF "anew" (.int (s.anew:Int))
  (putF "every" (.int (s.every:Int)) (putF "indent" (.int (s.indent:Int)) (putF "height" (.int (s.height:Int)) (putF "width" (.int (s.width:Int)) [])))))))))))=wf s r h p w g e:=by
 rw [XI (l:=[]) rfl];simp only [List.cons_append,List.nil_append]
 rw [XI (l:=[_]) rfl];simp only [List.cons_append,List.nil_append]
 rw [XI (l:=[_,_]) rfl];simp only [List.cons_append,List.nil_append]
 rw [XI (l:=[_,_,_]) rfl];simp only [List.cons_append,List.nil_append]
 rw [XI (l:=[_,_,_,_]) rfl];simp only [List.cons_append,List.nil_append]
 rw [XI (l:=[_,_,_,_,_]) rfl];simp only [List.cons_append,List.nil_append]
 rw [XI (l:=[_,_,_,_,_,_]) rfl];simp only [List.cons_append,List.nil_append]
 rw [XI (l:=[_,_,_,_,_,_,_]) rfl];simp only [List.cons_append,List.nil_append]
 rw [XI (l:=[_,_,_,_,_,_,_,_]) rfl];simp only [List.cons_append,List.nil_append]
 rw [XI (l:=[_,_,_,_,_,_,_,_,_]) rfl];simp only [List.cons_append,List.nil_append]
 rw [XI (l:=[_,_,_,_,_,_,_,_,_,_]) rfl];simp only [List.cons_append,List.nil_append]
 rw [XI (l:=[_,_,_,_,_,_,_,_,_,_,_]) rfl];simp only [List.cons_append,List.nil_append]
 rfl
theorem nd6 {r h p w g e:Addr} (h1:h≠r) (p1:p≠r) (p2:p≠h) (w1:w≠r) (w2:w≠h) (w3:w≠p) (g1:g≠r) (g2:g≠h) (g3:g≠p) (g4:g≠w) (e1:e≠r) (e2:e≠h) (e3:e≠p) (e4:e≠w) (e5:e≠g):[r,h,p,w,g,e].Nodup:=by
 simp [List.nodup_cons]
 exact ⟨⟨h1.symm,p1.symm,w1.symm,g1.symm,e1.symm⟩,⟨p2.symm,w2.symm,g2.symm,e2.symm⟩,⟨w3.symm,g3.symm,e3.symm⟩,⟨g4.symm,e4.symm⟩,e5.symm⟩
structure Stg (a:Ad) (H G:Hp) (x dx:Addr) (F:List (Str×V)) (l:List Addr):Prop where
 at_:G x=some (.ins a.CW dx F)
 kp:Kp [x] H G
 al:∀ b∈l,H b=none∧G b=some (.lst [])∧b≠x
 nd:l.Nodup
theorem Stg.look {H G:Hp}{x dx p:Addr}{F:List (Str×V)}{l:List Addr} (S:Stg a H G x dx F l) (hp:G p=none):upd G p (.lst []) x=some (.ins a.CW dx F):=by
 rw [Zi (Zg S.at_ hp)];exact S.at_
theorem Stg.step {H G:Hp}{x dx p:Addr}{F:List (Str×V)}{l:List Addr} (S:Stg a H G x dx F l) (hp:G p=none) (f:Str):Stg a H (upd (upd G p (.lst [])) x (.ins a.CW dx (putF f (.ref p) F))) x dx (putF f (.ref p) F) (l++[p]):=by
 have px:p≠x:=fun z=>by rw [z,S.at_] at hp;cases hp
 refine ⟨Ze,(S.kp.trans (Kp.new hp)).trans (Kp.put (by simp)),fun b hb=>?_,?_⟩
 ·rcases List.mem_append.mp hb with h | h
  ·obtain ⟨h1,h2,h3⟩:=S.al b h
   exact ⟨h1,by rw [Zi h3,Zi (Zg h2 hp)];exact h2,h3⟩
  ·have e:b=p:=by simpa using h
   subst e
   exact ⟨S.kp.free (by simpa using px) hp,by rw [Zi px,Ze],px⟩
 ·rw [List.nodup_append]
  refine ⟨S.nd,by simp,fun b hb c hc=>?_⟩
  have e:c=p:=by simpa using hc
  subst e
  exact Zg (S.al b hb).2.1 hp
def Vw (K:PySem.W.Frag) (a:Ad):Sp:=fun vs H Q _=>∃ (x dx se:Addr) (s:VhPage.Settings),vs=[.ref x,.ref se]∧H x=some (.ins a.CW dx [])∧H se=some (.lst [.int (s.width:Int),.int (s.height:Int),.int (s.indent:Int),.int (s.every:Int),.int (s.anew:Int),.int (s.loose:Int)]) ∧
 ∀ H' r h p w g e,Kp [x] H H'→H' x=some (.ins a.CW dx (wf s r h p w g e))→(∀ b∈[r,h,p,w,g,e],H b=none∧H' b=some (.lst []))→[r,h,p,w,g,e].Nodup→Q .non H'
set_option hygiene false in
local macro_rules | `(tactic| walk_at "wk")=>`(tactic| (try simp only [tSeq,tIfS,tOr,tAnd,tNot,ZcR,tB,tOp,rI0,rI,tVar,tC,ZbB,tRet,ZgW,Ze7,Ze8,tAsg,Jt,rEq,rNe,rIn,tAug,ipI,Zbi,Ze9,tNil,tUn,rU,tIf,ZgX,ZfQ,tOrV,tCB,ZbA,tTup,tLst,L2.start,L2.cxOf,List.map_cons,List.map_nil,List.length_cons,List.length_nil,List.replicate,List.cons_append,List.nil_append,List.append_nil,Nat.sub_self,Nat.zero_add,Nat.add_sub_cancel,Nat.reduceAdd,Nat.reduceSub,List.getElem?_cons_zero,List.getElem?_cons_succ,List.set_cons_zero,List.set_cons_succ,Option.some.injEq,V.int.injEq,V.bl.injEq,V.ref.injEq,V.str.injEq,exists_eq_left',exists_and_left,exists_const,true_and,and_true,Zcg,Zcd,Zch,Zce,Zcf,decide_eq_true_eq,Bool.not_eq_true',decide_eq_false_iff_not,Bool.not_not,Bool.not_true,Bool.not_false,if_true,if_false,ite_true,ite_false,↓reduceIte,Bool.false_eq_true,List.cons.injEq,exists_eq_left,gTup,Zgv,gNil,tBM,UA,JN,tSl,JI,Ze6,rSlL,ZcS,tFld,Zb6,sFld,ZaP,rAdd,rIxL,rIxT,hR,hR2,T.clWork,T.n_width,T.n_height,T.n_indent,T.n_every,T.n_anew,T.n_loose,T.n_rows,T.n_head,T.n_paragraphs,T.n_words,T.n_signs,T.n_entries,HO.ins.injEq,and_assoc,Ze]))
abbrev XF:Stmt:=YS (top 73) 0
theorem J9:Zp ["self","settings"] ["self","settings"] (Zc XF):=⟨rfl,rfl,rfl,by decide +kernel,rfl,by decide +kernel,by decide +kernel⟩
theorem Zde {f:Addr}{fd:FuncData} (F:Fun K "__init__" "Work.__init__" XF f fd) (T:Txt K mg a):FnOk P w K mg base CX0 1 f fd ["self","settings"] (Vw K a):=by
 refine F.ok J9 (fun vs H Q E h=>?_) (fun cdv A outer s H vs Q E hr h=>?_)
 ·obtain ⟨x,dx,se,s,rfl,hR,hse,q⟩:=h
  rfl
 ·obtain ⟨x,dx,se,s,rfl,hR,hse,q⟩:=h
  have nd:=J9.nd
  refine ⟨_,(Zb (ZN (pv 0) (ZK ZC (pv 1) Zh (fun _ _=>rfl)) rfl) (Zb (ZN (pv 0) (ZK ZC (pv 1) Zh (fun _ _=>rfl)) rfl) (Zb (ZN (pv 0) (ZK ZC (pv 1) Zh (fun _ _=>rfl)) rfl) (Zb (ZN (pv 0) (ZK ZC (pv 1) Zh (fun _ _=>rfl)) rfl) (Zb (ZN (pv 0) (ZK ZC (pv 1) Zh (fun _ _=>rfl)) rfl) (Zb (ZN (pv 0) (ZK ZC (pv 1) Zh (fun _ _=>rfl)) rfl) (Zb (ZN (pv 0) (YR Zd) rfl) (Zb (ZN (pv 0) (YR Zd) rfl) (Zb (ZN (pv 0) (YR Zd) rfl) (Zb (ZN (pv 0) (YR Zd) rfl) (Zb (ZN (pv 0) (YR Zd) rfl) (Zf (ZN (pv 0) (YR Zd) rfl))))))))))))),?_⟩
  have hR2:=hR
  walk_at "gs"
  walk_at "gr"
  have sx:se≠x:=WR hse hR (by intro z;cases z)
  have hq:∀ o,SqL K (upd H x o) se [.int (s.width:Int),.int (s.height:Int),.int (s.indent:Int),.int (s.every:Int),.int (s.anew:Int),.int (s.loose:Int)]:=fun o=>.inl (.inl (by rw [Zi sx];exact hse))
  have l1:∀ {u:V},(putF "width" u []).length≤1:=fun {u}=>Yf (Nat.le_refl 0)
  refine ⟨_,.inl (.inl hse),_,rfl,g_v0 (Ws hR T.clWork T.n_width ⟨by decide,?_⟩)⟩
  walk_at "gr"
  refine ⟨_,hq _,_,rfl,g_v0 (Za7 T.clWork T.n_height ⟨Nat.lt_of_le_of_lt l1 (by decide),?_⟩)⟩
  walk_at "gr"
  refine ⟨_,hq _,_,rfl,g_v0 (Za7 T.clWork T.n_indent ⟨Nat.lt_of_le_of_lt (Yf l1) (by decide),?_⟩)⟩
  walk_at "gr"
  refine ⟨_,hq _,_,rfl,g_v0 (Za7 T.clWork T.n_every ⟨Nat.lt_of_le_of_lt (Yf (Yf l1)) (by decide),?_⟩)⟩
  walk_at "gr"
  refine ⟨_,hq _,_,rfl,g_v0 (Za7 T.clWork T.n_anew ⟨Nat.lt_of_le_of_lt (Yf (Yf (Yf l1))) (by decide),?_⟩)⟩
  walk_at "gr"
  refine ⟨_,hq _,_,rfl,g_v0 (Za7 T.clWork T.n_loose ⟨Nat.lt_of_le_of_lt (Yf (Yf (Yf (Yf l1)))) (by decide),?_⟩)⟩
  walk_at "gr"
  have l6:=Yf (f:="loose") (v:=V.int (s.loose:Int)) (Yf (f:="anew") (v:=V.int (s.anew:Int)) (Yf (f:="every") (v:=V.int (s.every:Int)) (Yf (f:="indent") (v:=V.int (s.indent:Int)) (Yf (f:="height") (v:=V.int (s.height:Int)) (l1 (u:=V.int (s.width:Int)))))))
  have key:=ZjP s
  generalize hF6:putF "loose" (V.int (s.loose:Int)) (putF "anew" (V.int (s.anew:Int)) (putF "every" (V.int (s.every:Int)) (putF "indent" (V.int (s.indent:Int)) (putF "height" (V.int (s.height:Int)) (putF "width" (V.int (s.width:Int)) [])))))=F6 at l6 key ⊢
  have hz:(0:Nat)≤sizeLine:=by decide
  have S0:Stg a H (upd H x (HO.ins a.CW dx F6)) x dx F6 []:=⟨Ze,Kp.put (by simp),fun b hb=>absurd hb (by simp),List.nodup_nil⟩
  refine ⟨hz,fun p0 h0=>g_v0 (Ws (S0.look h0) T.clWork T.n_rows ⟨by lia,?_⟩)⟩
  walk_at "gr"
  have S1:=S0.step h0 "rows"
  refine ⟨hz,fun p1 h1=>g_v0 (Ws (S1.look h1) T.clWork T.n_head ⟨Nat.lt_of_le_of_lt (Yf l6) (by decide),?_⟩)⟩
  walk_at "gr"
  have S2:=S1.step h1 "head"
  refine ⟨hz,fun p2 h2=>g_v0 (Ws (S2.look h2) T.clWork T.n_paragraphs ⟨Nat.lt_of_le_of_lt (Yf (Yf l6)) (by decide),?_⟩)⟩
  walk_at "gr"
  have S3:=S2.step h2 "paragraphs"
  refine ⟨hz,fun p3 h3=>g_v0 (Ws (S3.look h3) T.clWork T.n_words ⟨Nat.lt_of_le_of_lt (Yf (Yf (Yf l6))) (by decide),?_⟩)⟩
  walk_at "gr"
  have S4:=S3.step h3 "words"
  refine ⟨hz,fun p4 h4=>g_v0 (Ws (S4.look h4) T.clWork T.n_signs ⟨Nat.lt_of_le_of_lt (Yf (Yf (Yf (Yf l6)))) (by decide),?_⟩)⟩
  walk_at "gr"
  have S5:=S4.step h4 "signs"
  refine ⟨hz,fun p5 h5=>g_v0 (Ws (S5.look h5) T.clWork T.n_entries ⟨Nat.lt_of_le_of_lt (Yf (Yf (Yf (Yf (Yf l6))))) (by decide),?_⟩)⟩
  walk_at "gr"
  have S6:=S5.step h5 "entries"
  refine q _ p0 p1 p2 p3 p4 p5 S6.kp ?_ (fun b hb=>⟨(S6.al b hb).1,(S6.al b hb).2.1⟩) S6.nd
  rw [← key]
  exact S6.at_
end
set_option hygiene false in
local macro_rules | `(tactic| walk_at "wk")=>`(tactic| (try simp only [tSeq,tIfS,tOr,tAnd,tNot,ZcR,tB,tOp,rI0,rI,tVar,tC,ZbB,tRet,ZgW,Ze7,Ze8,tAsg,Jt,rEq,rNe,rIn,tAug,ipI,Zbi,Ze9,tNil,tUn,rU,tIf,ZgX,ZfQ,tOrV,tCB,ZbA,tTup,tLst,L2.start,L2.cxOf,List.map_cons,List.map_nil,List.length_cons,List.length_nil,List.replicate,List.cons_append,List.nil_append,List.append_nil,Nat.sub_self,Nat.zero_add,Nat.add_sub_cancel,Nat.reduceAdd,Nat.reduceSub,List.getElem?_cons_zero,List.getElem?_cons_succ,List.set_cons_zero,List.set_cons_succ,Option.some.injEq,V.int.injEq,V.bl.injEq,V.ref.injEq,V.str.injEq,exists_eq_left',exists_and_left,exists_const,true_and,and_true,Zcg,Zcd,Zch,Zce,Zcf,decide_eq_true_eq,Bool.not_eq_true',decide_eq_false_iff_not,Bool.not_not,Bool.not_true,Bool.not_false,if_true,if_false,ite_true,ite_false,↓reduceIte,Bool.false_eq_true,List.cons.injEq,exists_eq_left,gTup,Zgv,gNil,tBM,UA,JN,tSl,JI,Ze6,rSlL,ZcS,tFld,Zb6,sFld,ZaP,rAdd,rIxL,rIxT,hR,hR2,hWk,hWk2,T.clReader,T.n_t,T.n_at,rf_t,Zfe,ZeB,ZhN,T.clWork,T.n_width,T.n_height,T.n_indent,T.n_every,T.n_anew,T.n_loose,T.n_rows,T.n_head,T.n_paragraphs,T.n_words,T.n_signs,T.n_entries,Zb5,ZdR,X2,UV,Zaq,V1,HO.ins.injEq,and_assoc,Ze]))
section
variable {P:Program}{w:World}{K:PySem.W.Frag}{mg:Str→Option Value}{base:Heap}{a:Ad}
theorem Zb5 (s:VhPage.Settings) (r h p w g e:Addr):(wf s r h p w g e).lookup ("rows":Str)=some (.ref r):=by rfl
theorem ZdR (s:VhPage.Settings) (r h p w g e:Addr):(wf s r h p w g e).lookup ("head":Str)=some (.ref h):=by rfl
theorem X2 (s:VhPage.Settings) (r h p w g e:Addr):(wf s r h p w g e).lookup ("paragraphs":Str)=some (.ref p):=by rfl
theorem UV (s:VhPage.Settings) (r h p w g e:Addr):(wf s r h p w g e).lookup ("words":Str)=some (.ref w):=by rfl
theorem Zaq (s:VhPage.Settings) (r h p w g e:Addr):(wf s r h p w g e).lookup ("signs":Str)=some (.ref g):=by rfl
theorem V1 (s:VhPage.Settings) (r h p w g e:Addr):(wf s r h p w g e).lookup ("entries":Str)=some (.ref e):=by rfl
end
set_option hygiene false in
local macro_rules | `(tactic| walk_at "g3")=>`(tactic| with_reducible first | refine Js hWk T.clWork (by first | exact T.n_rows | exact T.n_head | exact T.n_paragraphs | exact T.n_words | exact T.n_signs | exact T.n_entries | exact T.n_width | exact T.n_height | exact T.n_indent | exact T.n_every | exact T.n_anew | exact T.n_loose) (by first | exact Zb5 _ _ _ _ _ _ _ | exact ZdR _ _ _ _ _ _ _ | exact X2 _ _ _ _ _ _ _ | exact UV _ _ _ _ _ _ _ | exact Zaq _ _ _ _ _ _ _ | exact V1 _ _ _ _ _ _ _) ?_ | refine Js hWk2 T.clWork (by first | exact T.n_rows | exact T.n_head | exact T.n_paragraphs | exact T.n_words | exact T.n_signs | exact T.n_entries | exact T.n_width | exact T.n_height | exact T.n_indent | exact T.n_every | exact T.n_anew | exact T.n_loose) (by first | exact Zb5 _ _ _ _ _ _ _ | exact ZdR _ _ _ _ _ _ _ | exact X2 _ _ _ _ _ _ _ | exact UV _ _ _ _ _ _ _ | exact Zaq _ _ _ _ _ _ _ | exact V1 _ _ _ _ _ _ _) ?_)
local macro_rules | `(tactic| walk_at "gw")=>`(tactic| repeat (first | walk_at "g1" | walk_at "g2" | walk_at "g3"))
section
variable {P:Program}{w:World}{K:PySem.W.Frag}{mg:Str→Option Value}{base:Heap}{a:Ad}
def WkAt (a:Ad) (H:Hp) (wk dw:Addr) (s:VhPage.Settings) (r h p w g e:Addr):Prop:=H wk=some (.ins a.CW dw (wf s r h p w g e))
def TRow (H H':Hp) (x:Nat×Nat×Nat) (v:V):Prop:=∃ t,v=.ref t∧H' t=some (.tup [.int (x.1:Int),.int (x.2.1:Int),.int (x.2.2:Int)])∧H t=none
def Vt (K:PySem.W.Frag) (a:Ad):Sp:=fun vs H Q E=>∃ (r ta wk dw:Addr) (bs:List UInt8) (p:Nat) (s:VhPage.Settings) (aR aH aP aW aS aE:Addr),vs=[.ref r,.ref wk]∧Rdr K a H r ta bs p∧WkAt a H wk dw s aR aH aP aW aS aE∧H aR=some (.lst [])∧r≠wk∧ta≠aR ∧
 (∀ xs us p' H',VhPage.widths_ 64 33 p (bs.drop p)=.ok (xs,p',bs.drop p')→Kp [r,aR] H H'→H' aR=some (.lst us)→Paired (TRow H H') xs us→Rdr K a H' r ta bs p'→Q .non H') ∧
 ∀ p' H',VhPage.widths_ 64 33 p (bs.drop p)=.error p'→Rdr K a H' r ta bs p'→E (.ref a.CE) none H'
abbrev XA:Stmt:=top 74
theorem J4:Zp ["reader","work","low","lo","hi","width"] ["reader","work"] (Zc XA):=⟨rfl,rfl,rfl,by decide +kernel,rfl,by decide +kernel,by decide +kernel⟩
theorem Zc9 {f:Addr}{fd:FuncData} (F:Fun K "read_rows" "read_rows" XA f fd) (T:Txt K mg a) (zzac:Z9 P w K mg base CX0 2 a.CR "sees" ["self","sign"] (ZZ K a)) (zzaa:Z9 P w K mg base (CX1 P w a.CE) 3 a.CR "take" ["self","sign"] (ZY K a)) (zzab:Z9 P w K mg base (CX1 P w a.CE) 3 a.CR "take_number" ["self","low","high"] (ZH K a)):FnOk P w K mg base (CX1 P w a.CE) 4 f fd ["reader","work"] (Vt K a):=by
 refine F.okE J4 (fun vs H Q E h=>?_) (fun cdv A outer s H vs Q E hr h=>?_)
 ·obtain ⟨r,ta,wk,dw,bs,p,s,aR,aH,aP,aW,aS,aE,rfl,⟨dx,hR,hS,hne⟩,hWk,haR,rwk,taR,q1,q2⟩:=h
  rfl
 ·obtain ⟨r,ta,wk,dw,bs,p,s,aR,aH,aP,aW,aS,aE,rfl,⟨dx,hR,hS,hne⟩,hWk,haR,rwk,taR,q1,q2⟩:=h
  have nd:=J4.nd
  refine ⟨_,(Zb (Zo (i:=2) nd rfl (Or.inl rfl) (Z8 T.cFIRST_LETTER)) (Zf (Yu PassesOwn.leaving (PW.pt (Xm (Wi (Zt (pv 0) T.clReader zzac hr Zz (Za ZL Zd))) (Xm (Zq Wm (Zr Zj rfl T.len PySem.boot_len (Za (Zv (pv 1) rfl) Zd)) (Z8 T.cMOST_ROWS) (Zu _)) (Xc (Zq WI (pv 2) (Z8 T.cLAST_CHARACTER) (Zu _)))))) (Zb (Zy (Zt (pv 0) T.clReader zzaa hr Yz (Za ZL Zd))) (Zb (Zo (i:=3) nd rfl (Or.inl rfl) (Zt (pv 0) T.clReader zzab hr Yz (Za (pv 2) (Za (Z8 T.cLAST_CHARACTER) Zd)))) (Zb (Zy (Zt (pv 0) T.clReader zzaa hr Yz (Za ZL Zd))) (Zb (Zo (i:=4) nd rfl (Or.inl rfl) (Zt (pv 0) T.clReader zzab hr Yz (Za (pv 3) (Za (Z8 T.cLAST_CHARACTER) Zd)))) (Zb (Zy (Zt (pv 0) T.clReader zzaa hr Yz (Za ZL Zd))) (Zb (Zo (i:=5) nd rfl (Or.inl rfl) (Zt (pv 0) T.clReader zzab hr Yz (Za Zh (Za Zh Zd)))) (Zb (Zy (Zt (pv 0) T.clReader zzaa hr Yz (Za ZL Zd))) (Zb (Zy (X6 PySem.F.plainAttrs_list PySem.F.slot_list_append PySem.F.type_list_append Yq (Zv (pv 1) rfl) (Za (Wj (Za (pv 3) (Za (pv 4) (Za (pv 5) Zd)))) Zd))) (Zf (Zo (i:=2) nd rfl (Or.inl rfl) (ZG Ya (pv 4) Zh)))))))))))))),?_⟩
  have hR2:=hR
  have hWk:H wk=some (.ins a.CW dw (wf s aR aH aP aW aS aE)):=hWk
  have hWk2:=hWk
  have hWk0:=hWk
  have R:Rdr K a H r ta bs p:=⟨dx,hR,hS,hne⟩
  have hS0:=hS
  have raR:r≠aR:=WR hR haR (by intro z;cases z)
  have wkaR:wk≠aR:=WR hWk haR (by intro z;cases z)
  have big:VhPage.LARGEST<10 ^ 11:=by decide
  walk_at "gs"
  walk_at "gr"
  obtain ⟨W,hW⟩:∃ W:WT,W=fun m σ H'=>∃ (xs:List (Nat×Nat×Nat)) (us:List V) (lo p':Nat) (o1 o2 o3:Option V),σ=[some (.ref r),some (.ref wk),some (.int (lo:Int)),o1,o2,o3]∧H' aR=some (.lst us)∧Paired (TRow H H') xs us∧Rdr K a H' r ta bs p'∧Kp [r,aR] H H'∧xs.length≤64 ∧
   VhPage.widths_ 64 33 p (bs.drop p)=preO xs (VhPage.widths_ (64-xs.length) lo p' (bs.drop p'))∧m=64-xs.length:=⟨_,rfl⟩
  walk_at "gr"
  refine ⟨W,⟨_,by
   rw [hW]
   exact ⟨[],[],33,p,none,none,none,rfl,haR,.nil,R,Kp.refl,by simp,by rw [Jc];rfl,rfl⟩⟩,fun m σ H2 hw=>?_⟩
  rw [hW] at hw
  refine Zm fun G0 hG0=>?_
  obtain ⟨xs,us,lo,p2,o1,o2,o3,rfl,hu,hP,⟨dx2,hR,hS,hne⟩,k2,x64,eq,rfl⟩:=hw
  refine hG0 ?_
  clear hG0
  have hR2:=hR
  have R2:Rdr K a H2 r ta bs p2:=⟨dx2,hR,hS,hne⟩
  have hlen:=Paired.length hP
  have hWk:H2 wk=some (.ins a.CW dw (wf s aR aH aP aW aS aE)):=k2 _ _ hWk0 (by simp [Ne.symm rwk,wkaR])
  have hWk2:=hWk
  have fin:(64-xs.length=0∨pk bs p2≠40∨VhPage.LARGEST<lo)→Q .non H2:=fun h=>by
   refine q1 xs us p2 H2 ?_ k2 hu hP R2
   rw [eq,ZdQ h]
   show Except.ok (xs++[],_,_)=_
   rw [List.append_nil]
  walk_at "gw"
  refine ⟨r,ta,bs,p2,_,40,rfl,R2,by decide,by decide,?_⟩
  walk_at "gw"
  walk_at "gw"
  by_cases h40:pk bs p2=40
  ·rw [if_pos (by simpa using h40)]
   walk_at "gw"
   refine ⟨_,.inl (.inl (.inl hu)),?_⟩
   walk_at "gw"
   rw [← hlen]
   by_cases hfull:xs.length=64
   ·rw [if_neg (by lia)]
    walk_at "gw"
    exact fin (.inl (by lia))
   ·rw [if_pos (by lia)]
    walk_at "gw"
    by_cases hbig:VhPage.LARGEST<lo
    ·rw [if_neg (by unfold VhPage.LARGEST at hbig;lia)]
     walk_at "gw"
     exact fin (.inr (.inr hbig))
    ·rw [if_pos (by unfold VhPage.LARGEST at hbig;lia)]
     walk_at "gw"
     refine ⟨fun σ' H'=>∃ m',m' < 64-xs.length∧W m' σ' H',fun _ _ z=>z,?_⟩
     walk_at "gw"
     have ex:64-xs.length=(64-(xs.length+1))+1:=by lia
     rw [ex,ZfD h40 (by lia)] at eq
     have er:∀ {i:Nat},wRow (64-(xs.length+1)) lo (p2+1) (bs.drop (p2+1))=.error i→VhPage.widths_ 64 33 p (bs.drop p)=.error i:=fun h=>by rw [eq,h];rfl
     unfold wRow at er eq
     walk_at "gw"
     refine ⟨r,ta,bs,p2,_,40,rfl,R2,by decide,by decide,fun _ p3 H3 e3 k3 R3=>?_,fun p3 H3 e3 R3=>by rw [Xv (c:=40) h40] at e3;cases e3⟩
     walk_at "gw"
     have ep:p3=p2+1:=by
      rw [Xv (c:=40) h40] at e3
      injection e3 with e3;injection e3 with _ e3;injection e3 with e3 _
      exact e3.symm
     subst ep
     refine Zm fun G0 hG0=>?_
     obtain ⟨dx3,hR,hS,hne⟩:=R3
     refine hG0 ?_
     clear hG0
     have hR2:=hR
     have R3:Rdr K a H3 r ta bs (p2+1):=⟨dx3,hR,hS,hne⟩
     walk_at "gw"
     refine ⟨r,ta,bs,p2+1,lo,VhPage.LARGEST,rfl,R3,big,fun x p4 H4 e4 _ hx k4 R4=>?_,fun p4 H4 e4 R4=>q2 p4 H4 (er (UG e4 fun x hd=>XJ hd)) R4⟩
     walk_at "gw"
     rw [ZO e4] at er eq
     refine Zm fun G0 hG0=>?_
     obtain ⟨dx4,hR,hS,hne⟩:=R4
     refine hG0 ?_
     clear hG0
     have hR2:=hR
     have R4:Rdr K a H4 r ta bs p4:=⟨dx4,hR,hS,hne⟩
     walk_at "gw"
     refine ⟨r,ta,bs,p4,_,32,rfl,R4,by decide,by decide,fun _ p5 H5 e5 k5 R5=>?_,fun p5 H5 e5 R5=>q2 p5 H5 (er (Z7 e5)) R5⟩
     walk_at "gw"
     rw [ZO e5] at er eq
     refine Zm fun G0 hG0=>?_
     obtain ⟨dx5,hR,hS,hne⟩:=R5
     refine hG0 ?_
     clear hG0
     have hR2:=hR
     have R5:Rdr K a H5 r ta bs p5:=⟨dx5,hR,hS,hne⟩
     walk_at "gw"
     refine ⟨r,ta,bs,p5,x,VhPage.LARGEST,rfl,R5,big,fun y p6 H6 e6 hxy hy k6 R6=>?_,fun p6 H6 e6 R6=>q2 p6 H6 (er (UG e6 fun x hd=>XJ hd)) R6⟩
     walk_at "gw"
     rw [ZO e6] at er eq
     refine Zm fun G0 hG0=>?_
     obtain ⟨dx6,hR,hS,hne⟩:=R6
     refine hG0 ?_
     clear hG0
     have hR2:=hR
     have R6:Rdr K a H6 r ta bs p6:=⟨dx6,hR,hS,hne⟩
     walk_at "gw"
     refine ⟨r,ta,bs,p6,_,32,rfl,R6,by decide,by decide,fun _ p7 H7 e7 k7 R7=>?_,fun p7 H7 e7 R7=>q2 p7 H7 (er (Z7 e7)) R7⟩
     walk_at "gw"
     rw [ZO e7] at er eq
     refine Zm fun G0 hG0=>?_
     obtain ⟨dx7,hR,hS,hne⟩:=R7
     refine hG0 ?_
     clear hG0
     have hR2:=hR
     have R7:Rdr K a H7 r ta bs p7:=⟨dx7,hR,hS,hne⟩
     walk_at "gw"
     refine ⟨r,ta,bs,p7,0,2,rfl,R7,by decide,fun z p8 H8 e8 _ hz k8 R8=>?_,fun p8 H8 e8 R8=>q2 p8 H8 (er (UG e8 fun x hd=>XJ hd)) R8⟩
     walk_at "gw"
     rw [ZO e8] at er eq
     refine Zm fun G0 hG0=>?_
     obtain ⟨dx8,hR,hS,hne⟩:=R8
     refine hG0 ?_
     clear hG0
     have hR2:=hR
     have R8:Rdr K a H8 r ta bs p8:=⟨dx8,hR,hS,hne⟩
     walk_at "gw"
     refine ⟨r,ta,bs,p8,_,10,rfl,R8,by decide,by decide,fun _ p9 H9 e9 k9 R9=>?_,fun p9 H9 e9 R9=>q2 p9 H9 (er (Z7 e9)) R9⟩
     walk_at "gw"
     rw [ZO e9,Jw] at eq
     have k29:Kp [r] H2 H9:=((((((k3.trans k4).trans k5).trans k6).trans k7).trans k8).trans k9)
     have hWk:H9 wk=some (.ins a.CW dw (wf s aR aH aP aW aS aE)):=k29 _ _ hWk (by simp [Ne.symm rwk])
     have hWk2:=hWk
     have hu9:H9 aR=some (.lst us):=k29 _ _ hu (by simp [Ne.symm raR])
     walk_at "gw"
     refine ⟨.inl ⟨rfl,_,.inl (.inl hu9)⟩,?_⟩
     walk_at "gw"
     refine ⟨Nat.le_trans (show 3≤1000 by decide) (by decide),fun t ht=>?_⟩
     walk_at "gw"
     refine ⟨us,by rw [Zi (Zg hu9 ht)];exact hu9,by rw [← hlen];exact Nat.lt_of_le_of_lt x64 (by decide),?_⟩
     walk_at "gw"
     refine ⟨64-(xs.length+1),by lia,?_⟩
     walk_at "gw"
     rw [hW]
     have taR':t≠aR:=Ne.symm (Zg hu9 ht)
     have tr':t≠r:=fun z=>by obtain ⟨_,h,_⟩:=R9;rw [z,h] at ht;cases ht
     have k9':Kp [r,aR] H H9:=k2.trans (k29.mono (by simp))
     have ht0:H t=none:=k9'.free (by simp [taR',tr']) ht
     have kF:Kp [r,aR] H (upd (upd H9 t (HO.tup [V.int (x:Int),V.int (y:Int),V.int (z:Int)])) aR (HO.lst (us++[V.ref t]))):=(k9'.put2 (.inr ht0)).put2 (.inl (by simp))
     refine Zm fun G0 hG0=>?_
     obtain ⟨dx9,a1,a2,a3⟩:=R9
     refine hG0 ?_
     clear hG0
     walk_at "gw"
     refine ⟨xs++[(x,y,z)],us++[.ref t],y+1,p9,_,_,_,rfl,Ze,Paired.snoc (Paired.mapP hP ?_) ⟨t,rfl,by rw [Zi taR',Ze],ht0⟩,
      ⟨dx9,by rw [Zi raR,Zi (Ne.symm tr')];exact a1,kF.seq (by simp [hne,taR]) hS0,hne⟩,kF,by simp;lia,?_,by simp⟩
     ·rintro q v ⟨b,rfl,hb,hb0⟩
      have br:b≠r:=fun z=>by obtain ⟨_,h,_⟩:=R;rw [z,h] at hb0;cases hb0
      have baR:b≠aR:=fun z=>by rw [z,haR] at hb0;cases hb0
      have hb9:=k29 _ _ hb (by simp [br])
      exact ⟨b,rfl,by rw [Zi baR,Zi (Zg hb9 ht)];exact hb9,hb0⟩
     ·rw [eq,W8]
      simp
  ·rw [if_neg (by simpa using h40)]
   walk_at "gw"
   exact fin (.inr (.inl h40))
end
section
variable {P:Program}{w:World}{K:PySem.W.Frag}{mg:Str→Option Value}{base:Heap}{a:Ad}
def ZjM (H H':Hp) (x:Nat×Nat) (v:V):Prop:=∃ t,v=.ref t∧H' t=some (.tup [.int (x.1:Int),.int (x.2:Int)])∧H t=none
theorem Ve {bs:List UInt8}{p p':Nat}{c:UInt8}{x:Unit} (h:pk bs p=c.toNat) (e:Vh.byte_ c p (bs.drop p)=.ok (x,p',bs.drop p')):p'=p+1:=by
 rw [Xv h] at e
 injection e with e;injection e with _ e;injection e with e _
 exact e.symm
def Xp (K:PySem.W.Frag) (a:Ad):Sp:=fun vs H Q E=>∃ (r ta wk dw:Addr) (bs:List UInt8) (p:Nat) (s:VhPage.Settings) (aR aH aP aW aS aE:Addr),vs=[.ref r,.ref wk]∧Rdr K a H r ta bs p∧WkAt a H wk dw s aR aH aP aW aS aE∧H aP=some (.lst [])∧H aW=some (.lst [])∧aP≠aW∧r≠wk∧ta≠aP∧ta≠aW ∧
 (∀ xs us vs p' H',VhPage.paras_ 4096 8192 p (bs.drop p)=.ok (xs,p',bs.drop p')→xs.flatten.length≤8192→Kp [r,aP,aW] H H'→H' aW=some (.lst us)→Paired (LN H H') xs.flatten us→H' aP=some (.lst vs)→Paired (ZjM H H') (UY 0 xs) vs→Rdr K a H' r ta bs p'→Q .non H') ∧
 ∀ p' H',VhPage.paras_ 4096 8192 p (bs.drop p)=.error p'→Rdr K a H' r ta bs p'→E (.ref a.CE) none H'
abbrev Yb:Stmt:=top 75
theorem Ww:Zp ["reader","work","first"] ["reader","work"] (Zc Yb):=⟨rfl,rfl,rfl,by decide +kernel,rfl,by decide +kernel,by decide +kernel⟩
theorem Jh {f:Addr}{fd:FuncData} (F:Fun K "read_paragraphs" "read_paragraphs" Yb f fd) (T:Txt K mg a) (zzac:Z9 P w K mg base CX0 2 a.CR "sees" ["self","sign"] (ZZ K a)) (zzaa:Z9 P w K mg base (CX1 P w a.CE) 3 a.CR "take" ["self","sign"] (ZY K a)) (zzai:Z9 P w K mg base (CX1 P w a.CE) 5 a.CR "take_things" ["self","most_things","most","marks"] (Yp K a)):FnOk P w K mg base (CX1 P w a.CE) 6 f fd ["reader","work"] (Xp K a):=by
 refine F.okE Ww (fun vs H Q E h=>?_) (fun cdv A outer s H vs Q E hr h=>?_)
 ·obtain ⟨r,ta,wk,dw,bs,p,s,aR,aH,aP,aW,aS,aE,rfl,⟨dx,hR,hS,hne⟩,hWk,haP,haW,aPW,rwk,taP,taW,q1,q2⟩:=h
  rfl
 ·obtain ⟨r,ta,wk,dw,bs,p,s,aR,aH,aP,aW,aS,aE,rfl,⟨dx,hR,hS,hne⟩,hWk,haP,haW,aPW,rwk,taP,taW,q1,q2⟩:=h
  have nd:=Ww.nd
  refine ⟨_,(Zf (Yu PassesOwn.leaving (PW.pt (Xm (Wi (Zt (pv 0) T.clReader zzac hr Zz (Za ZL Zd))) (Xm (Zq Wm (Zr Zj rfl T.len PySem.boot_len (Za (Zv (pv 1) rfl) Zd)) (Z8 T.cMOST_PARAGRAPHS) (Zu _)) (Xc (Zq Wm (Zr Zj rfl T.len PySem.boot_len (Za (Zv (pv 1) rfl) Zd)) (Z8 T.cMOST_WORDS) (Zu _)))))) (Zb (Zy (Zt (pv 0) T.clReader zzaa hr Yz (Za ZL Zd))) (Zb (Zo (i:=2) nd rfl (Or.inl rfl) (Zr Zj rfl T.len PySem.boot_len (Za (Zv (pv 1) rfl) Zd))) (Zb (Zy (X6 PySem.F.plainAttrs_list PySem.F.slot_list_extend PySem.F.type_list_extend Xr (Zv (pv 1) rfl) (Za (Zt (pv 0) T.clReader zzai hr Yz (Za (ZG Yj (Z8 T.cMOST_WORDS) (pv 2)) (Za (Z8 T.cMOST_LETTERS) (Za (Wj Zd) Zd)))) Zd))) (Zb (Zy (X6 PySem.F.plainAttrs_list PySem.F.slot_list_append PySem.F.type_list_append Yq (Zv (pv 1) rfl) (Za (Wj (Za (pv 2) (Za (Zr Zj rfl T.len PySem.boot_len (Za (Zv (pv 1) rfl) Zd)) Zd))) Zd))) (Zf (Zy (Zt (pv 0) T.clReader zzaa hr Yz (Za ZL Zd)))))))))),?_⟩
  walk_at "gs"
  have hR2:=hR
  have hWk:H wk=some (.ins a.CW dw (wf s aR aH aP aW aS aE)):=hWk
  have hWk2:=hWk
  have hWk0:=hWk
  have R:Rdr K a H r ta bs p:=⟨dx,hR,hS,hne⟩
  have hS0:=hS
  have raP:r≠aP:=WR hR haP (by intro z;cases z)
  have raW:r≠aW:=WR hR haW (by intro z;cases z)
  have wkaP:wk≠aP:=WR hWk haP (by intro z;cases z)
  have wkaW:wk≠aW:=WR hWk haW (by intro z;cases z)
  obtain ⟨W,hW⟩:∃ W:WT,W=fun m σ H'=>∃ (xs:List (List (List Nat))) (us vs:List V) (p':Nat) (o:Option V),σ=[some (.ref r),some (.ref wk),o]∧H' aW=some (.lst us)∧Paired (LN H H') xs.flatten us∧H' aP=some (.lst vs)∧Paired (ZjM H H') (UY 0 xs) vs∧Rdr K a H' r ta bs p'∧Kp [r,aP,aW] H H'∧xs.length≤4096∧xs.flatten.length≤8192 ∧
   VhPage.paras_ 4096 8192 p (bs.drop p)=preO xs (VhPage.paras_ (4096-xs.length) (8192-xs.flatten.length) p' (bs.drop p'))∧m=4096-xs.length:=⟨_,rfl⟩
  walk_at "gw"
  refine ⟨W,⟨_,by
   rw [hW]
   exact ⟨[],[],[],p,none,rfl,haW,.nil,haP,.nil,R,Kp.refl,by simp,by simp,by rw [Jc];rfl,rfl⟩⟩,fun m σ H2 hw=>?_⟩
  rw [hW] at hw
  refine Zm fun G0 hG0=>?_
  obtain ⟨xs,us,vs,p2,o,rfl,hu,hPu,hv,hPv,⟨dx2,hR,hS,hne⟩,k2,x1,x2,eq,rfl⟩:=hw
  refine hG0 ?_
  clear hG0
  have hR2:=hR
  have R2:Rdr K a H2 r ta bs p2:=⟨dx2,hR,hS,hne⟩
  have hlu:=Paired.length hPu
  have hlv:=Paired.length hPv
  rw [UX] at hlv
  have hWk:H2 wk=some (.ins a.CW dw (wf s aR aH aP aW aS aE)):=k2 _ _ hWk0 (by simp [Ne.symm rwk,wkaP,wkaW])
  have hWk2:=hWk
  have fin:(4096-xs.length=0∨pk bs p2≠62∨8192-xs.flatten.length=0)→Q .non H2:=fun h=>by
   refine q1 xs us vs p2 H2 ?_ x2 k2 hu hPu hv hPv R2
   rw [eq,Zfh h]
   show Except.ok (xs++[],_,_)=_
   rw [List.append_nil]
  walk_at "gw"
  refine ⟨r,ta,bs,p2,_,62,rfl,R2,by decide,by decide,?_⟩
  walk_at "gw"
  walk_at "gw"
  by_cases h62:pk bs p2=62
  ·rw [if_pos (by simpa using h62)]
   walk_at "gw"
   refine ⟨_,.inl (.inl (.inl hv)),?_⟩
   walk_at "gw"
   rw [← hlv]
   by_cases hfull:xs.length=4096
   ·rw [if_neg (by lia)]
    walk_at "gw"
    exact fin (.inl (by lia))
   ·rw [if_pos (by lia)]
    walk_at "gw"
    refine ⟨_,.inl (.inl (.inl hu)),?_⟩
    walk_at "gw"
    rw [← hlu]
    by_cases hbig:xs.flatten.length=8192
    ·rw [if_neg (by lia)]
     walk_at "gw"
     exact fin (.inr (.inr (by lia)))
    ·rw [if_pos (by lia)]
     walk_at "gw"
     refine ⟨fun σ' H'=>∃ m',m' < 4096-xs.length∧W m' σ' H',fun _ _ z=>z,?_⟩
     walk_at "gw"
     have ex:4096-xs.length=(4096-(xs.length+1))+1:=by lia
     rw [ex,Zg7 h62 (by lia)] at eq
     have er:∀ {i:Nat},VhPage.row_ (VhPage.someChars_ [] 64) (8192-xs.flatten.length) (p2+1) (bs.drop (p2+1))=.error i→VhPage.paras_ 4096 8192 p (bs.drop p)=.error i:=fun h=>by rw [eq,Z7 h];rfl
     walk_at "gw"
     refine ⟨r,ta,bs,p2,_,62,rfl,R2,by decide,by decide,fun _ p3 H3 e3 k3 R3=>?_,fun p3 H3 e3 R3=>by rw [Xv (c:=62) h62] at e3;cases e3⟩
     walk_at "gw"
     have ep:=Ve (c:=62) h62 e3
     rw [ep] at R3
     refine Zm fun G0 hG0=>?_
     obtain ⟨dx3,hR,hS,hne⟩:=R3
     refine hG0 ?_
     clear hG0
     have hR2:=hR
     have R3:Rdr K a H3 r ta bs (p2+1):=⟨dx3,hR,hS,hne⟩
     have hWk:H3 wk=some (.ins a.CW dw (wf s aR aH aP aW aS aE)):=k3 _ _ hWk (by simp [Ne.symm rwk])
     have hWk2:=hWk
     have hu3:H3 aW=some (.lst us):=k3 _ _ hu (by simp [Ne.symm raW])
     have hv3:H3 aP=some (.lst vs):=k3 _ _ hv (by simp [Ne.symm raP])
     walk_at "gw"
     refine ⟨_,.inl (.inl (.inl hu3)),?_⟩
     walk_at "gw"
     refine ⟨.inl ⟨rfl,_,.inl (.inl hu3)⟩,?_⟩
     walk_at "gw"
     refine ⟨by decide,fun t ht=>?_⟩
     walk_at "gw"
     have tr:t≠r:=fun z=>by rw [z,hR] at ht;cases ht
     have kt:Kp [r] H3 (upd H3 t (HO.tup [])):=Kp.new ht
     have hR:upd H3 t (HO.tup []) r=some (HO.ins a.CR dx3 (rf ta ((p2+1:Nat):Int))):=by rw [Zi (Ne.symm tr)];exact hR
     have R4:Rdr K a (upd H3 t (HO.tup [])) r ta bs (p2+1):=Rdr.move (dx:=dx3) hS hne kt hR
     have hR2:=hR
     have e8:(8192:Int)-(us.length:Int)=((8192-xs.flatten.length:Nat):Int):=by rw [← hlu];lia
     rw [e8]
     have mk0:MkOk K (upd H3 t (HO.tup [])) r t []:=⟨fun H' k'=>.inl (.inl (k' _ _ Ze (by simp [tr]))),fun c hc=>absurd hc (by simp)⟩
     walk_at "gw"
     refine ⟨r,t,ta,bs,[],p2+1,8192-xs.flatten.length,64,rfl,R4,mk0,by lia,by lia,by lia,by lia,fun ys ws p5 H5 l5 e5 y1 y2 y3 hl5 k5 hl5' hPw R5=>?_,fun p5 H5 e5 R5=>q2 p5 H5 (er e5) R5⟩
     walk_at "gw"
     have k25:Kp [r] H2 H5:=(k3.trans kt).trans k5
     have hu5:H5 aW=some (.lst us):=k25 _ _ hu (by simp [Ne.symm raW])
     have hv5:H5 aP=some (.lst vs):=k25 _ _ hv (by simp [Ne.symm raP])
     have lW:aW≠l5:=fun z=>by
      rw [← z,Zi (Zg hu3 ht),hu3] at hl5
      cases hl5
     have hlw:=Paired.length hPw
     walk_at "gw"
     refine ⟨us,ws,hu5,hl5',by rw [← hlu,← hlw];exact Nat.le_trans (show _≤8192 by lia) (by decide),?_⟩
     walk_at "gw"
     -- behind extend
     have k25':Kp [r,aP,aW] H H5:=k2.trans (k25.mono (by simp))
     have kE:Kp [r,aP,aW] H (upd H5 aW (HO.lst (us++ws))):=k25'.put2 (.inl (by simp))
     refine Zm fun G0 hG0=>?_
     obtain ⟨dx5,hR,hS,hne⟩:=R5
     refine hG0 ?_
     clear hG0
     have hR:upd H5 aW (HO.lst (us++ws)) r=some (HO.ins a.CR dx5 (rf ta (p5:Int))):=by rw [Zi raW];exact hR
     have hR2:=hR
     have hWk:upd H5 aW (HO.lst (us++ws)) wk=some (.ins a.CW dw (wf s aR aH aP aW aS aE)):=by rw [Zi wkaW];exact k25 _ _ (k2 _ _ hWk0 (by simp [Ne.symm rwk,wkaP,wkaW])) (by simp [Ne.symm rwk])
     have hWk2:=hWk
     have hv6:upd H5 aW (HO.lst (us++ws)) aP=some (.lst vs):=by rw [Zi aPW];exact hv5
     walk_at "gw"
     refine ⟨.inl ⟨rfl,_,.inl (.inl hv6)⟩,?_⟩
     walk_at "gw"
     refine ⟨_,.inl (.inl (.inl Ze)),?_⟩
     walk_at "gw"
     refine ⟨(show 2≤sizeLine by decide),fun t2 ht2=>?_⟩
     walk_at "gw"
     refine ⟨vs,by rw [Zi (Zg hv6 ht2)];exact hv6,by rw [← hlv];exact Nat.lt_of_le_of_lt x1 (by decide),?_⟩
     walk_at "gw"
     have t2P:t2≠aP:=Ne.symm (Zg hv6 ht2)
     have t2W:t2≠aW:=fun z=>by rw [z,Ze] at ht2;cases ht2
     have t2r:t2≠r:=fun z=>by rw [z,hR] at ht2;cases ht2
     have ht20:H t2=none:=kE.free (by simp [t2P,t2W,t2r]) ht2
     generalize hG:upd (upd (upd H5 aW (HO.lst (us++ws))) t2 (HO.tup [V.int (us.length:Int),V.int ((us++ws).length:Int)])) aP (HO.lst (vs++[V.ref t2]))=G
     have kG:Kp [r,aP,aW] H G:=by rw [← hG];exact (kE.put2 (.inr ht20)).put2 (.inl (by simp))
     have GR:G r=some (HO.ins a.CR dx5 (rf ta (p5:Int))):=by rw [← hG,Zi raP,Zi (Ne.symm t2r)];exact hR
     have RG:Rdr K a G r ta bs p5:=⟨dx5,GR,kG.seq (by simp [hne,taP,taW]) hS0,hne⟩
     have GW:G aW=some (.lst (us++ws)):=by rw [← hG,Zi (Ne.symm aPW),Zi (Ne.symm t2W),Ze]
     have GP:G aP=some (.lst (vs++[V.ref t2])):=by rw [← hG,Ze]
     have Gt:G t2=some (.tup [V.int (us.length:Int),V.int ((us++ws).length:Int)]):=by rw [← hG,Zi t2P,Ze]
     have keep:∀ b o,H5 b=some o→b≠aW→b≠aP→G b=some o:=fun b o e n1 n2=>by
      have e6:upd H5 aW (HO.lst (us++ws)) b=some o:=by rw [Zi n1];exact e
      rw [← hG,Zi n2,Zi (Zg e6 ht2)]
      exact e6
     clear hG
     have hR:=GR
     have hR2:=hR
     walk_at "gw"
     refine ⟨r,ta,bs,p5,_,10,rfl,RG,by decide,by decide,fun _ p6 H6 e6 k6 R6=>?_,fun p6 H6 e6 R6=>?_⟩
     ·have h10:pk bs p5=10:=by
       apply Decidable.byContradiction
       intro z
       rw [Vf (c:=10) z] at e6
       cases e6
      have ep:=Ve (c:=10) h10 e6
      rw [ep] at R6
      rw [if_pos h10] at e5
      rw [ZO e5,Jw] at eq
      walk_at "gw"
      refine ⟨4096-(xs.length+1),by lia,?_⟩
      walk_at "gw"
      rw [hW]
      have k6':Kp [r,aP,aW] H H6:=kG.trans (k6.mono (by simp))
      have fr:∀ b,H b=none→b≠r∧b≠aP∧b≠aW:=fun b hb=>⟨fun z=>(by obtain ⟨_,h,_⟩:=R;rw [z,h] at hb;cases hb),fun z=>(by rw [z,haP] at hb;cases hb),fun z=>(by rw [z,haW] at hb;cases hb)⟩
      walk_at "gw"
      refine ⟨xs++[ys],us++ws,vs++[.ref t2],p5+1,_,rfl,k6 _ _ GW (by simp [Ne.symm raW]),?_,k6 _ _ GP (by simp [Ne.symm raP]),?_,R6,k6',by simp;lia,?_,?_,by simp⟩
      ·rw [List.flatten_append,List.flatten_cons,List.flatten_nil,List.append_nil]
       refine Paired.app (Paired.mapP hPu ?_) (Paired.mapP hPw ?_)
       ·rintro q v ⟨b,rfl,hb,hb0⟩
        refine Zm fun G0 hG0=>?_
        obtain ⟨n1,n2,n3⟩:=fr b hb0
        refine hG0 ?_
        clear hG0
        exact ⟨b,rfl,k6 _ _ (keep _ _ (k25 _ _ hb (by simp [n1])) n3 n2) (by simp [n1]),hb0⟩
       ·rintro q v ⟨b,rfl,hb,hb0⟩
        have br:b≠r:=fun z=>by obtain ⟨_,h,_⟩:=R4;rw [z,h] at hb0;cases hb0
        have hb3:H3 b=none:=kt.free (by simpa using br) hb0
        have bP:b≠aP:=fun z=>by rw [z,hv3] at hb3;cases hb3
        have bW:b≠aW:=fun z=>by rw [z,hu3] at hb3;cases hb3
        exact ⟨b,rfl,k6 _ _ (keep _ _ hb bW bP) (by simp [br]),(k2.trans (k3.mono (by simp))).free (by simp [br,bP,bW]) hb3⟩
      ·rw [ZbD]
       refine Paired.snoc (Paired.mapP hPv ?_) ⟨t2,rfl,?_,ht20⟩
       ·rintro q v ⟨b,rfl,hb,hb0⟩
        refine Zm fun G0 hG0=>?_
        obtain ⟨n1,n2,n3⟩:=fr b hb0
        refine hG0 ?_
        clear hG0
        exact ⟨b,rfl,k6 _ _ (keep _ _ (k25 _ _ hb (by simp [n1])) n3 n2) (by simp [n1]),hb0⟩
       ·have:=k6 _ _ Gt (by simp [t2r])
        rw [this,List.length_append,← hlu,← hlw]
        simp
      ·rw [List.flatten_append,List.length_append,List.flatten_cons,List.flatten_nil,List.append_nil];lia
      ·rw [eq,W8]
       simp [Nat.sub_sub,Nat.add_comm]
     ·by_cases h10:pk bs p5=10
      ·rw [Xv (c:=10) h10] at e6
       cases e6
      ·rw [Vf (c:=10) h10] at e6
       injection e6 with e6
       subst e6
       rw [if_neg h10] at e5
       exact q2 _ H6 (er e5) R6
  ·rw [if_neg (by simpa using h62)]
   walk_at "gw"
   exact fin (.inr (.inl h62))
end
section
variable {P:Program}{w:World}{K:PySem.W.Frag}{mg:Str→Option Value}{base:Heap}{a:Ad}
theorem ZgI:bsV VhPage.MARKBYTES=Wq.map V.int:=by decide +kernel
theorem Zir (T:Txt K mg a) (H:Hp) (r:Addr):MkOk K H r a.aMARKS VhPage.MARKBYTES:=⟨fun H' _=>by rw [ZgI];exact T.tMARKS H',by decide +kernel⟩
theorem Zis (T:Txt K mg a) (H:Hp) (r:Addr):MkOk K H r a.aCARET [94]:=⟨fun H' _=>T.tCARET H',by decide +kernel⟩
def WF (K:PySem.W.Frag) (a:Ad):Sp:=fun vs H Q E=>∃ (r ta:Addr) (bs:List UInt8) (p n:Nat),vs=[.ref r,.int (n:Int)]∧Rdr K a H r ta bs p∧n≤8192 ∧
 (∀ xs us p' H' l,VhPage.tokens_ n p (bs.drop p)=(if pk bs p'=10 then .ok (xs,p'+1,bs.drop (p'+1)) else .error p')→xs.length≤n→H l=none→Kp [r] H H'→H' l=some (.lst us)→Paired (LN H H') xs us→Rdr K a H' r ta bs p'→Q (.ref l) H') ∧
 ∀ p' H',VhPage.tokens_ n p (bs.drop p)=.error p'→Rdr K a H' r ta bs p'→E (.ref a.CE) none H'
abbrev YW:Stmt:=top 77
theorem Ug:Zp ["reader","most","tokens"] ["reader","most"] (Zc YW):=⟨rfl,rfl,rfl,by decide +kernel,rfl,by decide +kernel,by decide +kernel⟩
theorem Zbl {f:Addr}{fd:FuncData} (F:Fun K "read_tokens" "read_tokens" YW f fd) (T:Txt K mg a) (zzac:Z9 P w K mg base CX0 2 a.CR "sees" ["self","sign"] (ZZ K a)) (zzaa:Z9 P w K mg base (CX1 P w a.CE) 3 a.CR "take" ["self","sign"] (ZY K a)) (zzag:Z9 P w K mg base (CX1 P w a.CE) 4 a.CR "take_thing" ["self","most","marks"] (Yt K a)):FnOk P w K mg base (CX1 P w a.CE) 5 f fd ["reader","most"] (WF K a):=by
 refine F.okE Ug (fun vs H Q E h=>?_) (fun cdv A outer s H vs Q E hr h=>?_)
 ·obtain ⟨r,ta,bs,p,n,rfl,⟨dx,hR,hS,hne⟩,hn,q1,q2⟩:=h
  rfl
 ·obtain ⟨r,ta,bs,p,n,rfl,⟨dx,hR,hS,hne⟩,hn,q1,q2⟩:=h
  have nd:=Ug.nd
  refine ⟨_,(Zb (Zo (i:=2) nd rfl (Or.inl rfl) (YR Zd)) (Zb (Yu PassesOwn.leaving (PW.pt (Xm (Wi (Zt (pv 0) T.clReader zzac hr Zz (Za ZL Zd))) (Xc (Zq Wm (Zr Zj rfl T.len PySem.boot_len (Za (pv 2) Zd)) (pv 1) (Zu _))))) (Zb (Zy (Zt (pv 0) T.clReader zzaa hr Yz (Za ZL Zd))) (Zb (Ye (PW.pt (Zbj (Wi (Zt (pv 0) T.clReader zzac hr Zz (Za ZL Zd))) (Ja (Wi (Zt (pv 0) T.clReader zzac hr Zz (Za ZL Zd)))))) (Zf (WA T.exc rfl (Za ZL Zd))) Zx) (Zf (Zy (X6 PySem.F.plainAttrs_list PySem.F.slot_list_append PySem.F.type_list_append Yq (pv 2) (Za (Zt (pv 0) T.clReader zzag hr Yz (Za (Z8 T.cMOST_LETTERS) (Za (UC T.cMARKS) Zd))) Zd))))))) (Zf (Zs (pv 2))))),?_⟩
  walk_at "gs"
  have hR2:=hR
  have R:Rdr K a H r ta bs p:=⟨dx,hR,hS,hne⟩
  have hS0:=hS
  walk_at "gr"
  refine ⟨by decide,fun l hl=>?_⟩
  walk_at "gr"
  have lr:l≠r:=fun z=>by rw [z,hR] at hl;cases hl
  have k0:Kp [r] H (upd H l (HO.lst [])):=Kp.new hl
  have R0:Rdr K a (upd H l (HO.lst [])) r ta bs p:=Rdr.move (dx:=dx) hS hne k0 (by rw [Zi (Ne.symm lr)];exact hR)
  obtain ⟨W,hW⟩:∃ W:WT,W=fun m σ H'=>∃ (xs:List (List Nat)) (us:List V) (p':Nat),σ=[some (.ref r),some (.int (n:Int)),some (.ref l)]∧H' l=some (.lst us)∧Paired (fun x v=>LN H H' x v∧v≠.ref l) xs us∧Rdr K a H' r ta bs p'∧Kp [r] H H'∧xs.length≤n ∧
   VhPage.tokens_ n p (bs.drop p)=preO xs (XY VhPage.token_ (n-xs.length) p' (bs.drop p'))∧m=n-xs.length:=⟨_,rfl⟩
  walk_at "gr"
  refine ⟨W,⟨_,by
   rw [hW]
   exact ⟨[],[],p,rfl,Ze,.nil,R0,k0,by simp,by rw [Jc];rfl,rfl⟩⟩,fun m σ H2 hw=>?_⟩
  rw [hW] at hw
  refine Zm fun G0 hG0=>?_
  obtain ⟨xs,us,p2,rfl,hl2,hP,⟨dx2,hR,hS,hne⟩,k2,x2,eq,rfl⟩:=hw
  refine hG0 ?_
  clear hG0
  have hR2:=hR
  have R2:Rdr K a H2 r ta bs p2:=⟨dx2,hR,hS,hne⟩
  have hlen:=Paired.length hP
  have fin:(xs.length=n∨pk bs p2≠32)→Q (.ref l) H2:=fun h=>by
   refine q1 xs us p2 H2 l ?_ x2 hl k2 hl2 (Paired.mapP hP fun _ _ z=>z.1) R2
   rw [eq]
   by_cases h10:pk bs p2=10
   ·rw [ZhL h10,if_pos h10]
    show Except.ok (xs++[],_,_)=_
    rw [List.append_nil]
   ·rw [ZaD h10 (h.imp (fun z=>by lia) id),if_neg h10]
    rfl
  walk_at "gr"
  refine ⟨r,ta,bs,p2,_,32,rfl,R2,by decide,by decide,?_⟩
  walk_at "gr"
  walk_at "gr"
  by_cases h32:pk bs p2=32
  ·rw [if_pos (by simpa using h32)]
   walk_at "gr"
   refine ⟨_,.inl (.inl (.inl hl2)),?_⟩
   walk_at "gr"
   rw [← hlen]
   by_cases hfull:xs.length=n
   ·rw [if_neg (by lia)]
    walk_at "gr"
    exact fin (.inl hfull)
   ·rw [if_pos (by lia)]
    walk_at "gr"
    refine ⟨fun σ' H'=>∃ m',m' < n-xs.length∧W m' σ' H',fun _ _ z=>z,?_⟩
    walk_at "gr"
    have ex:n-xs.length=(n-(xs.length+1))+1:=by lia
    have eqt:VhPage.tokens_ n p (bs.drop p)=preO xs (VhPage.row_ VhPage.token_ (n-xs.length) (p2+1) (bs.drop (p2+1))):=by rw [eq,ZhK h32 (by lia)]
    walk_at "gr"
    refine ⟨r,ta,bs,p2,_,32,rfl,R2,by decide,by decide,fun _ p3 H3 e3 k3 R3=>?_,fun p3 H3 e3 R3=>by rw [Xv (c:=32) h32] at e3;cases e3⟩
    walk_at "gr"
    have ep:=Ve (c:=32) h32 e3
    rw [ep] at R3
    refine Zm fun G0 hG0=>?_
    obtain ⟨dx3,hR,hS,hne⟩:=R3
    refine hG0 ?_
    clear hG0
    have hR2:=hR
    have R3:Rdr K a H3 r ta bs (p2+1):=⟨dx3,hR,hS,hne⟩
    have hl3:H3 l=some (.lst us):=k3 _ _ hl2 (by simpa using lr)
    have no:(pk bs (p2+1)=91∨pk bs (p2+1)=35)→E (.ref a.CE) none H3:=fun h=>q2 (p2+1) H3 (by rw [eqt,ex,Zci (ZgU h)];rfl) R3
    walk_at "gr"
    refine ⟨r,ta,bs,p2+1,_,91,rfl,R3,by decide,by decide,?_⟩
    walk_at "gr"
    walk_at "gr"
    by_cases h91:pk bs (p2+1)=91
    ·rw [if_pos (by simpa using h91)]
     walk_at "gr"
     exact ⟨by decide,no (.inl h91)⟩
    ·rw [if_neg (by simpa using h91)]
     walk_at "gr"
     refine ⟨r,ta,bs,p2+1,_,35,rfl,R3,by decide,by decide,?_⟩
     walk_at "gr"
     walk_at "gr"
     by_cases h35:pk bs (p2+1)=35
     ·rw [if_pos (by simpa using h35)]
      walk_at "gr"
      exact ⟨by decide,no (.inr h35)⟩
     ·rw [if_neg (by simpa using h35)]
      walk_at "gr"
      have tok:=ZgT (bs:=bs) (p:=p2+1) h91 h35
      walk_at "gr"
      refine ⟨.inl ⟨rfl,_,.inl (.inl hl3)⟩,?_⟩
      walk_at "gr"
      refine ⟨r,_,ta,bs,VhPage.MARKBYTES,p2+1,64,rfl,R3,Zir T H3 r,by decide,by decide,fun x p4 H4 l4 e4 y2 y1 hl4 l4r k4 hx4 R4=>?_,fun p4 H4 e4 R4=>?_⟩
      ·have hl4':H4 l=some (.lst us):=k4 _ _ hl3 (by simpa using lr)
       have ne4:l4≠l:=fun z=>by rw [z,hl3] at hl4;cases hl4
       rw [← tok] at e4
       walk_at "gr"
       refine ⟨_,hl4',?_,n-(xs.length+1),by lia,?_⟩
       ·rw [← hlen];exact Nat.lt_of_le_of_lt (show xs.length≤8192 by lia) (by decide)
       ·rw [hW]
        have k5:Kp [r] H (upd H4 l (HO.lst (us++[V.ref l4]))):=((k2.trans k3).trans k4).put2 (.inr hl)
        have R5:Rdr K a (upd H4 l (HO.lst (us++[V.ref l4]))) r ta bs p4:=by
         refine Zm fun G0 hG0=>?_
         obtain ⟨dx1,a1,a2,a3⟩:=R4
         refine hG0 ?_
         clear hG0
         exact ⟨dx1,by rw [Zi (Ne.symm lr)];exact a1,k5.seq (by simpa using hne) hS0,hne⟩
        walk_at "gr"
        refine ⟨xs++[x],us++[.ref l4],p4,rfl,Ze,Paired.snoc (Paired.mapP hP ?_) ⟨⟨l4,rfl,by rw [Zi ne4];exact hx4,(k2.trans k3).free (by simpa using l4r) hl4⟩,fun z=>ne4 (V.ref.inj z)⟩,R5,k5,by simp;lia,?_,by simp⟩
        ·rintro y v ⟨⟨b,rfl,hb,hb0⟩,nb⟩
         have br:b≠r:=fun z=>by
          refine Zm fun G0 hG0=>?_
          obtain ⟨_,h,_⟩:=R
          refine hG0 ?_
          clear hG0
          rw [z,h] at hb0;cases hb0
         have nb:b≠l:=fun z=>nb (by rw [z])
         exact ⟨⟨b,rfl,by rw [Zi nb];exact k4 _ _ (k3 _ _ hb (by simpa using br)) (by simpa using br),hb0⟩,fun z=>nb (V.ref.inj z)⟩
        ·rw [eqt,ex,ZbH e4,W8]
         simp
      ·refine q2 p4 H4 ?_ R4
       rw [← tok] at e4
       rw [eqt,ex]
       rcases e4 with e4 | ⟨x,e4,hb⟩
       ·rw [Zci e4];rfl
       ·rw [ZbH e4,ZaD hb.2 (.inr hb.1)];rfl
  ·rw [if_neg (by simpa using h32)]
   walk_at "gr"
   exact fin (.inr h32)
def TEnt (H H':Hp) (x:VhPage.Entry) (v:V):Prop:=∃ t l us,v=.ref t∧H' t=some (.tup [.int (x.first:Int),.int (x.count:Int),.ref l])∧H t=none∧H' l=some (.lst us)∧H l=none∧Paired (LN H H') x.toks us
def Wd (K:PySem.W.Frag) (a:Ad):Sp:=fun vs H Q E=>∃ (r ta wk dw:Addr) (bs:List UInt8) (p n:Nat) (s:VhPage.Settings) (us:List V) (aR aH aP aW aS aE:Addr),vs=[.ref r,.ref wk]∧Rdr K a H r ta bs p∧WkAt a H wk dw s aR aH aP aW aS aE∧H aE=some (.lst [])∧H aW=some (.lst us)∧us.length=n∧n≤8192∧aE≠aW∧r≠wk∧ta≠aE ∧
 (∀ xs vs p' H',VhPage.entries_ n 4096 0 65536 p (bs.drop p)=.ok (xs,p',bs.drop p')→Kp [r,aE] H H'→H' aE=some (.lst vs)→Paired (TEnt H H') xs vs→Rdr K a H' r ta bs p'→Q .non H') ∧
 ∀ p' H',VhPage.entries_ n 4096 0 65536 p (bs.drop p)=.error p'→Rdr K a H' r ta bs p'→E (.ref a.CE) none H'
abbrev YH:Stmt:=top 78
theorem VA:Zp ["reader","work","left","first","count","tokens"] ["reader","work"] (Zc YH):=⟨rfl,rfl,rfl,by decide +kernel,rfl,by decide +kernel,by decide +kernel⟩
theorem ZaX {f:Addr}{fd:FuncData} (F:Fun K "read_entries" "read_entries" YH f fd) (T:Txt K mg a) (zzac:Z9 P w K mg base CX0 2 a.CR "sees" ["self","sign"] (ZZ K a)) (zzaa:Z9 P w K mg base (CX1 P w a.CE) 3 a.CR "take" ["self","sign"] (ZY K a)) (zzab:Z9 P w K mg base (CX1 P w a.CE) 3 a.CR "take_number" ["self","low","high"] (ZH K a)) (zzcr:FnC P w K mg base (CX1 P w a.CE) 5 "read_tokens" ["reader","most"] (WF K a)):FnOk P w K mg base (CX1 P w a.CE) 6 f fd ["reader","work"] (Wd K a):=by
 refine F.okE VA (fun vs H Q E h=>?_) (fun cdv A outer s H vs Q E hr h=>?_)
 ·obtain ⟨r,ta,wk,dw,bs,p,n,s,us,aR,aH,aP,aW,aS,aE,rfl,⟨dx,hR,hS,hne⟩,hWk,haE,haW,hun,hn,aEW,rwk,taE,q1,q2⟩:=h
  rfl
 ·obtain ⟨r,ta,wk,dw,bs,p,n,s,us,aR,aH,aP,aW,aS,aE,rfl,⟨dx,hR,hS,hne⟩,hWk,haE,haW,hun,hn,aEW,rwk,taE,q1,q2⟩:=h
  have nd:=VA.nd
  refine ⟨_,(Zb (Zo (i:=2) nd rfl (Or.inl rfl) (Z8 T.cMOST_TOKENS)) (Zb (Zo (i:=3) nd rfl (Or.inl rfl) Zh) (Zf (Yu PassesOwn.leaving (PW.pt (Xm (Wi (Zt (pv 0) T.clReader zzac hr Zz (Za ZL Zd))) (Xm (Zq Wm (Zr Zj rfl T.len PySem.boot_len (Za (Zv (pv 1) rfl) Zd)) (Z8 T.cMOST_ENTRIES) (Zu _)) (Xc (Zq Jf (Zr Zj rfl T.len PySem.boot_len (Za (Zv (pv 1) rfl) Zd)) Zh (Zu _)))))) (Zb (Zy (Zt (pv 0) T.clReader zzaa hr Yz (Za ZL Zd))) (Zb (Zo (i:=3) nd rfl (Or.inl rfl) (Zt (pv 0) T.clReader zzab hr Yz (Za (pv 3) (Za (Zr Zj rfl T.len PySem.boot_len (Za (Zv (pv 1) rfl) Zd)) Zd)))) (Zb (Zy (Zt (pv 0) T.clReader zzaa hr Yz (Za ZL Zd))) (Zb (Zo (i:=4) nd rfl (Or.inl rfl) (Zt (pv 0) T.clReader zzab hr Yz (Za Zh (Za (ZG Yj (Zr Zj rfl T.len PySem.boot_len (Za (Zv (pv 1) rfl) Zd)) (pv 3)) Zd)))) (Zb (Zo (i:=5) nd rfl (Or.inl rfl) (Zl zzcr hr Yz (Za (pv 0) (Za (Zr (ZdF rfl) rfl T.min boot_min (Za (pv 2) (Za (Z8 T.cMOST_TOKENS_OF_ENTRY) Zd))) Zd)))) (Zb (Zy (Zt (pv 0) T.clReader zzaa hr Yz (Za ZL Zd))) (Zb (Zy (X6 PySem.F.plainAttrs_list PySem.F.slot_list_append PySem.F.type_list_append Yq (Zv (pv 1) rfl) (Za (Wj (Za (pv 3) (Za (pv 4) (Za (pv 5) Zd)))) Zd))) (Zf (Ur (i:=2) nd rfl (Or.inl rfl) (Zr Zj rfl T.len PySem.boot_len (Za (pv 5) Zd)) Zjn))))))))))))),?_⟩
  walk_at "gs"
  have hR2:=hR
  have hWk:H wk=some (.ins a.CW dw (wf s aR aH aP aW aS aE)):=hWk
  have hWk2:=hWk
  have hWk0:=hWk
  have R:Rdr K a H r ta bs p:=⟨dx,hR,hS,hne⟩
  have hS0:=hS
  have raE:r≠aE:=WR hR haE (by intro z;cases z)
  have raW:r≠aW:=WR hR haW (by intro z;cases z)
  have wkaE:wk≠aE:=WR hWk haE (by intro z;cases z)
  walk_at "gr"
  obtain ⟨W,hW⟩:∃ W:WT,W=fun m σ H'=>∃ (xs:List VhPage.Entry) (vs:List V) (left fst p':Nat) (o1 o2:Option V),σ=[some (.ref r),some (.ref wk),some (.int (left:Int)),some (.int (fst:Int)),o1,o2]∧H' aE=some (.lst vs)∧Paired (TEnt H H') xs vs∧Rdr K a H' r ta bs p'∧Kp [r,aE] H H'∧xs.length≤4096 ∧
   VhPage.entries_ n 4096 0 65536 p (bs.drop p)=preO xs (VhPage.entries_ n (4096-xs.length) fst left p' (bs.drop p'))∧m=4096-xs.length:=⟨_,rfl⟩
  walk_at "gr"
  refine ⟨W,⟨_,by
   rw [hW]
   exact ⟨[],[],65536,0,p,none,none,rfl,haE,.nil,R,Kp.refl,by simp,by rw [Jc];rfl,rfl⟩⟩,fun m σ H2 hw=>?_⟩
  rw [hW] at hw
  refine Zm fun G0 hG0=>?_
  obtain ⟨xs,vs,left,fst,p2,o1,o2,rfl,hv,hPv,⟨dx2,hR,hS,hne⟩,k2,x1,eq,rfl⟩:=hw
  refine hG0 ?_
  clear hG0
  have hR2:=hR
  have R2:Rdr K a H2 r ta bs p2:=⟨dx2,hR,hS,hne⟩
  have hlv:=Paired.length hPv
  have hWk:H2 wk=some (.ins a.CW dw (wf s aR aH aP aW aS aE)):=k2 _ _ hWk0 (by simp [Ne.symm rwk,wkaE])
  have hWk2:=hWk
  have haW2:H2 aW=some (.lst us):=k2 _ _ haW (by simp [Ne.symm raW,Ne.symm aEW])
  have fin:(4096-xs.length=0∨pk bs p2≠91∨n=0)→Q .non H2:=fun h=>by
   refine q1 xs vs p2 H2 ?_ k2 hv hPv R2
   rw [eq,Zdx h]
   show Except.ok (xs++[],_,_)=_
   rw [List.append_nil]
  walk_at "gw"
  refine ⟨r,ta,bs,p2,_,91,rfl,R2,by decide,by decide,?_⟩
  walk_at "gw"
  walk_at "gw"
  by_cases h91:pk bs p2=91
  ·rw [if_pos (by simpa using h91)]
   walk_at "gw"
   refine ⟨_,.inl (.inl (.inl hv)),?_⟩
   walk_at "gw"
   rw [← hlv]
   by_cases hfull:xs.length=4096
   ·rw [if_neg (by lia)]
    walk_at "gw"
    exact fin (.inl (by lia))
   ·rw [if_pos (by lia)]
    walk_at "gw"
    refine ⟨_,.inl (.inl (.inl haW2)),?_⟩
    walk_at "gw"
    rw [hun]
    by_cases hz:n=0
    ·rw [if_neg (by lia)]
     walk_at "gw"
     exact fin (.inr (.inr hz))
    ·rw [if_pos (by lia)]
     walk_at "gw"
     refine ⟨fun σ' H'=>∃ m',m' < 4096-xs.length∧W m' σ' H',fun _ _ z=>z,?_⟩
     walk_at "gw"
     have ex:4096-xs.length=(4096-(xs.length+1))+1:=by lia
     rw [ex,Zfv h91 (by lia)] at eq
     have er:∀ {i:Nat},eRow n (4096-(xs.length+1)) fst left (p2+1) (bs.drop (p2+1))=.error i→VhPage.entries_ n 4096 0 65536 p (bs.drop p)=.error i:=fun h=>by rw [eq,h];rfl
     unfold eRow at er eq
     walk_at "gw"
     refine ⟨r,ta,bs,p2,_,91,rfl,R2,by decide,by decide,fun _ p3 H3 e3 k3 R3=>?_,fun p3 H3 e3 R3=>by rw [Xv (c:=91) h91] at e3;cases e3⟩
     walk_at "gw"
     have ep:=Ve (c:=91) h91 e3
     rw [ep] at R3
     refine Zm fun G0 hG0=>?_
     obtain ⟨dx3,hR,hS,hne⟩:=R3
     refine hG0 ?_
     clear hG0
     have hR2:=hR
     have R3:Rdr K a H3 r ta bs (p2+1):=⟨dx3,hR,hS,hne⟩
     have hWk:H3 wk=some (.ins a.CW dw (wf s aR aH aP aW aS aE)):=k3 _ _ hWk (by simp [Ne.symm rwk])
     have hWk2:=hWk
     have haW3:H3 aW=some (.lst us):=k3 _ _ haW2 (by simp [Ne.symm raW])
     walk_at "gw"
     refine ⟨_,.inl (.inl (.inl haW3)),?_⟩
     walk_at "gw"
     refine ⟨r,ta,bs,p2+1,fst,n,by rw [hun],R3,by lia,fun x p4 H4 e4 hx1 hx2 k4 R4=>?_,fun p4 H4 e4 R4=>q2 p4 H4 (er (UG e4 fun x hd=>XJ hd)) R4⟩
     walk_at "gw"
     rw [ZO e4] at er eq
     refine Zm fun G0 hG0=>?_
     obtain ⟨dx4,hR,hS,hne⟩:=R4
     refine hG0 ?_
     clear hG0
     have hR2:=hR
     have R4:Rdr K a H4 r ta bs p4:=⟨dx4,hR,hS,hne⟩
     have hWk:H4 wk=some (.ins a.CW dw (wf s aR aH aP aW aS aE)):=k4 _ _ hWk (by simp [Ne.symm rwk])
     have hWk2:=hWk
     have haW4:H4 aW=some (.lst us):=k4 _ _ haW3 (by simp [Ne.symm raW])
     walk_at "gw"
     refine ⟨r,ta,bs,p4,_,32,rfl,R4,by decide,by decide,fun _ p5 H5 e5 k5 R5=>?_,fun p5 H5 e5 R5=>q2 p5 H5 (er (Z7 e5)) R5⟩
     walk_at "gw"
     rw [ZO e5] at er eq
     refine Zm fun G0 hG0=>?_
     obtain ⟨dx5,hR,hS,hne⟩:=R5
     refine hG0 ?_
     clear hG0
     have hR2:=hR
     have R5:Rdr K a H5 r ta bs p5:=⟨dx5,hR,hS,hne⟩
     have hWk:H5 wk=some (.ins a.CW dw (wf s aR aH aP aW aS aE)):=k5 _ _ hWk (by simp [Ne.symm rwk])
     have hWk2:=hWk
     have haW5:H5 aW=some (.lst us):=k5 _ _ haW4 (by simp [Ne.symm raW])
     walk_at "gw"
     refine ⟨_,.inl (.inl (.inl haW5)),?_⟩
     walk_at "gw"
     refine ⟨r,ta,bs,p5,0,n-x,?_,R5,by lia,fun y p6 H6 e6 _ hy k6 R6=>?_,fun p6 H6 e6 R6=>q2 p6 H6 (er (UG e6 fun x hd=>?_)) R6⟩
     ·rw [hun,show (n:Int)-(x:Int)=((n-x:Nat):Int) by lia]
      rfl
     ·rw [ZO e6] at er eq
      refine Zm fun G0 hG0=>?_
      obtain ⟨dx6,hR,hS,hne⟩:=R6
      refine hG0 ?_
      clear hG0
      have hR2:=hR
      have R6:Rdr K a H6 r ta bs p6:=⟨dx6,hR,hS,hne⟩
      walk_at "gw"
      have em:(if (1024:Int)<(left:Int) then (1024:Int) else (left:Int))=((min 1024 left:Nat):Int):=by
       by_cases z:1024<left
       ·rw [if_pos (by lia)];lia
       ·rw [if_neg (by lia)];lia
      rw [em]
      walk_at "gw"
      refine ⟨r,ta,bs,p6,min 1024 left,rfl,R6,by lia,fun ys ws p7 H7 l7 e7 hys hl7 k7 hl7' hPw R7=>?_,fun p7 H7 e7 R7=>q2 p7 H7 (er (Z7 e7)) R7⟩
      walk_at "gw"
      refine Zm fun G0 hG0=>?_
      obtain ⟨dx7,hR,hS,hne⟩:=R7
      refine hG0 ?_
      clear hG0
      have hR2:=hR
      have R7:Rdr K a H7 r ta bs p7:=⟨dx7,hR,hS,hne⟩
      have l7r:l7≠r:=fun z=>by obtain ⟨_,h,_⟩:=R6;rw [z,h] at hl7;cases hl7
      walk_at "gw"
      refine ⟨r,ta,bs,p7,_,10,rfl,R7,by decide,by decide,fun _ p8 H8 e8 k8 R8=>?_,fun p8 H8 e8 R8=>?_⟩
      ·have h10:pk bs p7=10:=by
        apply Decidable.byContradiction
        intro z
        rw [Vf (c:=10) z] at e8
        cases e8
       have ep:=Ve (c:=10) h10 e8
       rw [ep] at R8
       rw [if_pos h10] at e7
       rw [ZO e7,Jw] at eq
       have k26:Kp [r] H2 H6:=((k3.trans k4).trans k5).trans k6
       have k28:Kp [r] H2 H8:=(k26.trans k7).trans k8
       have hv8:H8 aE=some (.lst vs):=k28 _ _ hv (by simp [Ne.symm raE])
       have hWk:H8 wk=some (.ins a.CW dw (wf s aR aH aP aW aS aE)):=k28 _ _ (k2 _ _ hWk0 (by simp [Ne.symm rwk,wkaE])) (by simp [Ne.symm rwk])
       have hWk2:=hWk
       have hl8:H8 l7=some (.lst ws):=k8 _ _ hl7' (by simp [l7r])
       have l7E:l7≠aE:=fun z=>by rw [z,k26 _ _ hv (by simp [Ne.symm raE])] at hl7;cases hl7
       have hlw:=Paired.length hPw
       walk_at "gw"
       refine ⟨.inl ⟨rfl,_,.inl (.inl hv8)⟩,?_⟩
       walk_at "gw"
       refine ⟨(show 3≤sizeLine by decide),fun t ht=>?_⟩
       walk_at "gw"
       refine ⟨vs,by rw [Zi (Zg hv8 ht)];exact hv8,by rw [← hlv];exact Nat.lt_of_le_of_lt x1 (by decide),?_⟩
       walk_at "gw"
       have tE:t≠aE:=Ne.symm (Zg hv8 ht)
       have tl7:l7≠t:=Zg hl8 ht
       have tr:t≠r:=fun z=>by obtain ⟨_,h,_⟩:=R8;rw [z,h] at ht;cases ht
       walk_at "gw"
       refine ⟨ws,.inl (.inl (.inl (by rw [Zi l7E,Zi tl7];exact hl8))),?_⟩
       walk_at "gw"
       refine ⟨4096-(xs.length+1),by lia,?_⟩
       walk_at "gw"
       rw [hW]
       have k8':Kp [r,aE] H H8:=k2.trans (k28.mono (by simp))
       have ht0:H t=none:=k8'.free (by simp [tE,tr]) ht
       have kF:Kp [r,aE] H (upd (upd H8 t (HO.tup [V.int (x:Int),V.int (y:Int),V.ref l7])) aE (HO.lst (vs++[V.ref t]))):=(k8'.put2 (.inr ht0)).put2 (.inl (by simp))
       have fr:∀ b,H b=none→b≠r∧b≠aE:=fun b hb=>⟨fun z=>(by obtain ⟨_,h,_⟩:=R;rw [z,h] at hb;cases hb),fun z=>(by rw [z,haE] at hb;cases hb)⟩
       have up:∀ b o,H8 b=some o→b≠aE→upd (upd H8 t (HO.tup [V.int (x:Int),V.int (y:Int),V.ref l7])) aE (HO.lst (vs++[V.ref t])) b=some o:=fun b o e n1=>by
        rw [Zi n1,Zi (Zg e ht)];exact e
       have hl70:H l7=none:=(k2.trans (k26.mono (by simp))).free (by simp [l7r,l7E]) hl7
       refine Zm fun G0 hG0=>?_
       obtain ⟨dx8,a1,a2,a3⟩:=R8
       refine hG0 ?_
       clear hG0
       have eleft:(left:Int)-(ws.length:Int)=((left-ys.length:Nat):Int):=by rw [← hlw];lia
       walk_at "gw"
       refine ⟨xs++[⟨x,y,ys⟩],vs++[.ref t],left-ys.length,x,p7+1,_,_,by rw [eleft],Ze,Paired.snoc (Paired.mapP hPv ?_) ⟨t,l7,ws,rfl,by rw [Zi tE,Ze],ht0,up _ _ hl8 l7E,hl70,Paired.mapP hPw ?_⟩,
        ⟨dx8,up _ _ a1 raE,kF.seq (by simp [hne,taE]) hS0,hne⟩,kF,by simp;lia,?_,by simp⟩
       ·rintro q v ⟨b,l,us',rfl,hb,hb0,hl,hl0,hq⟩
        obtain ⟨n1,n2⟩:=fr b hb0
        obtain ⟨n3,n4⟩:=fr l hl0
        walk_at "gw"
        refine ⟨b,l,us',rfl,up _ _ (k28 _ _ hb (by simp [n1])) n2,hb0,up _ _ (k28 _ _ hl (by simp [n3])) n4,hl0,Paired.mapP hq ?_⟩
        walk_at "gw"
        rintro q v ⟨c,rfl,hc,hc0⟩
        obtain ⟨n5,n6⟩:=fr c hc0
        exact ⟨c,rfl,up _ _ (k28 _ _ hc (by simp [n5])) n6,hc0⟩
       ·rintro q v ⟨c,rfl,hc,hc0⟩
        have cr:c≠r:=fun z=>by obtain ⟨_,h,_⟩:=R6;rw [z,h] at hc0;cases hc0
        have cE:c≠aE:=fun z=>by rw [z,k26 _ _ hv (by simp [Ne.symm raE])] at hc0;cases hc0
        exact ⟨c,rfl,up _ _ (k8 _ _ hc (by simp [cr])) cE,(k2.trans (k26.mono (by simp))).free (by simp [cr,cE]) hc0⟩
       ·rw [eq,W8]
        simp
      ·by_cases h10:pk bs p7=10
       ·rw [Xv (c:=10) h10] at e8
        cases e8
       ·rw [Vf (c:=10) h10] at e8
        injection e8 with e8
        subst e8
        rw [if_neg h10] at e7
        exact q2 _ H8 (er (Z7 e7)) R8
     ·rw [ZdV]
      exact Z7 (ZaD (by lia) (.inr (by lia)))
  ·rw [if_neg (by simpa using h91)]
   walk_at "gw"
   exact fin (.inr (.inl h91))
end
section
variable {P:Program}{w:World}{K:PySem.W.Frag}{mg:Str→Option Value}{base:Heap}{a:Ad}
def W4 (xs:List (Nat×List (List Nat))) (k:Nat):List (List (List Nat)):=(xs.filter fun x=>x.1==k).map (·.2)
theorem ZcX (xs:List (Nat×List (List Nat))) (k:Nat) (l:List (List Nat)):W4 (xs++[(k,l)]) k=W4 xs k++[l]:=by simp [W4]
theorem Zfd (xs:List (Nat×List (List Nat))) {i k:Nat} (h:k≠i) (l:List (List Nat)):W4 (xs++[(i,l)]) k=W4 xs k:=by
 have:(i==k)=false:=by rw [beq_eq_false_iff_ne];exact Ne.symm h
 simp [W4,this]
theorem Za5 (sep m:Nat):∀ (ys:List (List Nat)),(∀ x∈ys,x.length≤m)→(XV sep ys).length≤ys.length * (m+1)
 | [],_=>by simp [XV]
 | [y],h=>by
  have:=h y (by simp)
  simp [XV];lia
 | y::z::r,h=>by
  have h1:=h y (by simp)
  have h2:=Za5 sep m (z::r) (fun x hx=>h x (by simp at hx ⊢;exact .inr hx))
  simp only [XV,List.length_append,List.length_cons] at h2 ⊢
  have e:(r.length+1+1) * (m+1)=(r.length+1) * (m+1)+(m+1):=by rw [Nat.add_mul (r.length+1) 1,Nat.one_mul]
  lia
theorem Zh4 (s:VhPage.Settings) (r h p w g e g':Addr):putF "signs" (.ref g') (wf s r h p w g e)=wf s r h p w g' e:=by rfl
theorem Zh5 (s:VhPage.Settings) (r h p w g e h':Addr):putF "head" (.ref h') (wf s r h p w g e)=wf s r h' p w g e:=by rfl
theorem Zaz (s:VhPage.Settings) (r h p w g e:Addr):(wf s r h p w g e).length=12:=rfl
def SgAt (H H':Hp) (gs:List Addr) (xs:List (Nat×List (List Nat))):Prop:=∀ k g,gs[k]?=some g→∃ ts,H' g=some (.lst ts)∧Paired (fun y v=>LN H H' y v∧∀ g'∈gs,v≠.ref g') ((W4 xs k).map (XV 32)) ts
def W0 (K:PySem.W.Frag) (a:Ad):Sp:=fun vs H Q E=>∃ (r ta wk dw:Addr) (bs:List UInt8) (p n:Nat) (s:VhPage.Settings) (us:List V) (aR aH aP aW aS aE:Addr),vs=[.ref r,.ref wk]∧Rdr K a H r ta bs p∧WkAt a H wk dw s aR aH aP aW aS aE∧H aW=some (.lst us)∧us.length=n∧n≤8192∧r≠wk∧ta≠wk ∧
 (∀ xs gs p' H' D,VhPage.signs_ n 4096 0 p (bs.drop p)=.ok (xs,p',bs.drop p')→Kp [r,wk] H H'→WkAt a H' wk dw s aR aH aP aW D aE→H D=none→H' D=some (.lst (gs.map V.ref))→gs.length=n→(∀ g∈gs,H g=none)→SgAt H H' gs xs→Rdr K a H' r ta bs p'→Q .non H') ∧
 ∀ p' H',VhPage.signs_ n 4096 0 p (bs.drop p)=.error p'→Rdr K a H' r ta bs p'→E (.ref a.CE) none H'
abbrev YB:Stmt:=top 76
theorem U3:Zp ["reader","work","word","count","low","things"] ["reader","work"] (Zc YB):=⟨rfl,rfl,rfl,by decide +kernel,rfl,by decide +kernel,by decide +kernel⟩
theorem Zbf:JD ["reader","work","word","count","low","things"] (Zc YB) (lcSc (ZaG (stI (Zk YB) 0))) [("word",2)]:=⟨rfl,by decide +kernel,by decide +kernel,by decide +kernel,by decide +kernel⟩
theorem Zcr {f:Addr}{fd:FuncData} (F:Fun K "read_signs" "read_signs" YB f fd) (T:Txt K mg a) (zzac:Z9 P w K mg base CX0 2 a.CR "sees" ["self","sign"] (ZZ K a)) (zzaa:Z9 P w K mg base (CX1 P w a.CE) 3 a.CR "take" ["self","sign"] (ZY K a)) (zzab:Z9 P w K mg base (CX1 P w a.CE) 3 a.CR "take_number" ["self","low","high"] (ZH K a)) (zzai:Z9 P w K mg base (CX1 P w a.CE) 5 a.CR "take_things" ["self","most_things","most","marks"] (Yp K a)) (zzif:FnC P w K mg base CX0 1 "joined" ["things","between"] (ZaI K a)):FnOk P w K mg base (CX1 P w a.CE) 6 f fd ["reader","work"] (W0 K a):=by
 refine F.okE U3 (fun vs H Q E h=>?_) (fun cdv A outer s H vs Q E hr h=>?_)
 ·obtain ⟨r,ta,wk,dw,bs,p,n,s,us,aR,aH,aP,aW,aS,aE,rfl,⟨dx,hR,hS,hne⟩,hWk,haW,hun,hn,rwk,tawk,q1,q2⟩:=h
  rfl
 ·obtain ⟨r,ta,wk,dw,bs,p,n,s,us,aR,aH,aP,aW,aS,aE,rfl,⟨dx,hR,hS,hne⟩,hWk,haW,hun,hn,rwk,tawk,q1,q2⟩:=h
  have nd:=U3.nd
  refine ⟨_,(Zb (ZN (pv 1) (Zf0 rfl nd (VI (Zv (pv 1) rfl)) Zbf (fun _ _ _ _ _=>(Yl (i:=2) nd rfl (Or.inl rfl))) (fun _ _ _ _ _=>W6) (fun _ _ _ _ _=>(YR Zd))) rfl) (Zb (Zo (i:=3) nd rfl (Or.inl rfl) Zh) (Zb (Zo (i:=4) nd rfl (Or.inl rfl) Zh) (Zf (Yu PassesOwn.leaving (PW.pt (Xm (Wi (Zt (pv 0) T.clReader zzac hr Zz (Za ZL Zd))) (Xm (Zq Wm (pv 3) (Z8 T.cMOST_SIGNS) (Zu _)) (Xc (Zq Jf (Zr Zj rfl T.len PySem.boot_len (Za (Zv (pv 1) rfl) Zd)) Zh (Zu _)))))) (Zb (Zy (Zt (pv 0) T.clReader zzaa hr Yz (Za ZL Zd))) (Zb (Zo (i:=4) nd rfl (Or.inl rfl) (Zt (pv 0) T.clReader zzab hr Yz (Za (pv 4) (Za (ZG Yj (Zr Zj rfl T.len PySem.boot_len (Za (Zv (pv 1) rfl) Zd)) Zh) Zd)))) (Zb (Zy (Zt (pv 0) T.clReader zzaa hr Yz (Za ZL Zd))) (Zb (Zo (i:=5) nd rfl (Or.inl rfl) (Zt (pv 0) T.clReader zzai hr Yz (Za (Z8 T.cMOST_SIGN_THINGS) (Za (Z8 T.cMOST_SIGN_CHARACTERS) (Za (UC T.cCARET) Zd))))) (Zb (Zy (Zt (pv 0) T.clReader zzaa hr Yz (Za ZL Zd))) (Zb (Zy (X6 PySem.F.plainAttrs_list PySem.F.slot_list_append PySem.F.type_list_append Yq (ZK ZC (Zv (pv 1) rfl) (pv 4) (fun _ _=>rfl)) (Za (Zl zzif hr Zz (Za (pv 5) (Za (Z8 T.cBLANK) Zd))) Zd))) (Zf (Ur (i:=3) nd rfl (Or.inl rfl) Zh Jq))))))))))))),?_⟩
  walk_at "gs"
  have hWk:H wk=some (.ins a.CW dw (wf s aR aH aP aW aS aE)):=hWk
  have hWk0:=hWk
  have hR0:=hR
  have R:Rdr K a H r ta bs p:=⟨dx,hR,hS,hne⟩
  have hS0:=hS
  have raW:r≠aW:=WR hR haW (by intro z;cases z)
  have wkaW:wk≠aW:=WR hWk haW (by intro z;cases z)
  have z0:0≤sizeLine:=by decide
  walk_at "gw"
  refine ⟨_,rfl,wk,a.CW,dw,_,_,rfl,hWk,T.clWork,T.n_words,UV s aR aH aP aW aS aE,aW,rfl,⟨_,.inl (.inl haW)⟩,fun D hD=>?_⟩
  walk_at "gw"
  have nD:aW≠D:=Zg haW hD
  obtain ⟨Pv,hPv⟩:∃ Pv:Nat→Hp→Prop,Pv=fun i H'=>∃ gs:List Addr,gs.length=i∧H' D=some (.lst (gs.map V.ref))∧Kp [] H H'∧(∀ g∈gs,H g=none∧H' g=some (.lst [])∧g≠D)∧gs.Nodup:=⟨_,rfl⟩
  refine Zcx (xs:=us) Pv ?_ ?_ ?_ ?_
  ·rw [hPv]
   exact ⟨[],rfl,Ze,Kp.new hD,fun g hg=>absurd hg (by simp),List.nodup_nil⟩
  ·intro i H' _ hw
   rw [hPv] at hw
   refine Zm fun G0 hG0=>?_
   obtain ⟨gs,_,_,k,_⟩:=hw
   refine hG0 ?_
   clear hG0
   exact .inl (.inl (k _ _ haW (by simp)))
  ·intro i x H2 hi hw
   rw [hPv] at hw
   refine Zm fun G0 hG0=>?_
   obtain ⟨gs,hg1,hg2,k,hg3,hg4⟩:=hw
   refine hG0 ?_
   clear hG0
   walk_at "gw"
   refine ⟨rfl,?_⟩
   walk_at "gw"
   walk_at "gr"
   refine ⟨z0,fun g hg=>?_⟩
   walk_at "gr"
   have gD:D≠g:=Zg hg2 hg
   walk_at "gr"
   refine ⟨gs.map V.ref,by rw [Zi gD];exact hg2,by rw [List.length_map,hg1];exact Nat.lt_of_lt_of_le (List.getElem?_eq_some_iff.mp hi).1 (by rw [hun];exact Nat.le_trans hn (by decide)),?_⟩
   rw [hPv]
   have hg0:H g=none:=k.free (by simp) hg
   walk_at "gr"
   refine ⟨gs++[g],by simp [hg1],by rw [Ze];simp,(k.trans (Kp.new hg)).put2 (.inr hD),fun c hc=>?_,?_⟩
   ·rcases List.mem_append.mp hc with h | h
    ·refine Zm fun G0 hG0=>?_
     obtain ⟨h1,h2,h3⟩:=hg3 c h
     refine hG0 ?_
     clear hG0
     exact ⟨h1,by rw [Zi h3,Zi (Zg h2 hg)];exact h2,h3⟩
    ·have e:c=g:=by simpa using h
     subst e
     exact ⟨hg0,by rw [Zi (Ne.symm gD),Ze],Ne.symm gD⟩
   ·rw [List.nodup_append]
    walk_at "gr"
    refine ⟨hg4,by simp,fun b hb c hc=>?_⟩
    walk_at "gr"
    have e:c=g:=by simpa using hc
    subst e
    exact Zg (hg3 b hb).2.1 hg
  ·intro H2 hw
   rw [hPv] at hw
   refine Zm fun G0 hG0=>?_
   obtain ⟨gs,hg1,hg2,k,hg3,hg4⟩:=hw
   refine hG0 ?_
   clear hG0
   rw [hun] at hg1
   have hWk:H2 wk=some (.ins a.CW dw (wf s aR aH aP aW aS aE)):=k _ _ hWk0 (by simp)
   walk_at "gr"
   refine Ws hWk T.clWork T.n_signs ⟨by rw [Zaz];decide,?_⟩
   walk_at "gr"
   rw [Zh4]
   have Dwk:wk≠D:=Zg hWk0 hD
   have Dr:r≠D:=Zg hR0 hD
   generalize hG:upd H2 wk (HO.ins a.CW dw (wf s aR aH aP aW D aE))=G
   have GD:G D=some (.lst (gs.map V.ref)):=by rw [← hG,Zi (Ne.symm Dwk)];exact hg2
   have Gg:∀ g∈gs,H g=none∧G g=some (.lst [])∧g≠D:=fun g hg=>by
    refine Zm fun G0 hG0=>?_
    obtain ⟨h1,h2,h3⟩:=hg3 g hg
    refine hG0 ?_
    clear hG0
    exact ⟨h1,by rw [← hG,Zi (Ne.symm (Zg hWk0 h1))];exact h2,h3⟩
   have kG:Kp [r,wk] H G:=by rw [← hG];exact (k.mono (by simp)).put2 (.inl (by simp))
   have GR:G r=some (.ins a.CR dx (rf ta (p:Int))):=by rw [← hG,Zi rwk];exact k _ _ hR0 (by simp)
   have GW:G wk=some (.ins a.CW dw (wf s aR aH aP aW D aE)):=by rw [← hG,Ze]
   clear hG
   have fr:∀ b,H b=none→b≠r∧b≠wk:=fun b hb=>⟨fun z=>(by rw [z,hR0] at hb;cases hb),fun z=>(by rw [z,hWk0] at hb;cases hb)⟩
   have RG:Rdr K a G r ta bs p:=⟨dx,GR,kG.seq (by simp [hne,tawk]) hS0,hne⟩
   obtain ⟨W,hW⟩:∃ W:WT,W=fun m σ H'=>∃ (xs:List (Nat×List (List Nat))) (low p':Nat) (o1 o2:Option V),σ=[some (.ref r),some (.ref wk),o1,some (.int (xs.length:Int)),some (.int (low:Int)),o2]∧H' D=some (.lst (gs.map V.ref))∧SgAt H H' gs xs∧H' wk=some (.ins a.CW dw (wf s aR aH aP aW D aE))∧Rdr K a H' r ta bs p'∧Kp [r,wk] H H'∧xs.length≤4096 ∧
    VhPage.signs_ n 4096 0 p (bs.drop p)=preO xs (VhPage.signs_ n (4096-xs.length) low p' (bs.drop p'))∧m=4096-xs.length:=⟨_,rfl⟩
   walk_at "gr"
   refine ⟨W,⟨_,by
    rw [hW]
    walk_at "gr"
    refine ⟨[],0,p,_,none,rfl,GD,fun j g hg=>⟨[],(Gg g (List.mem_of_getElem? hg)).2.1,.nil⟩,GW,RG,kG,by simp,by rw [Jc];rfl,rfl⟩⟩,fun m σ H2 hw=>?_⟩
   rw [hW] at hw
   refine Zm fun G0 hG0=>?_
   obtain ⟨xs,low,p2,o1,o2,rfl,hD2,hSg,hWk,⟨dx2,hR,hS,hne⟩,k2,x1,eq,rfl⟩:=hw
   refine hG0 ?_
   clear hG0
   have hR2:=hR
   have hWk2:=hWk
   have R2:Rdr K a H2 r ta bs p2:=⟨dx2,hR,hS,hne⟩
   have haW2:H2 aW=some (.lst us):=k2 _ _ haW (by simp [Ne.symm raW,Ne.symm wkaW])
   have fin:(4096-xs.length=0∨pk bs p2≠123∨n=0)→Q .non H2:=fun h=>by
    refine q1 xs gs p2 H2 D ?_ k2 hWk hD hD2 hg1 (fun g hg=>(Gg g hg).1) hSg R2
    rw [eq,Zfc h]
    show Except.ok (xs++[],_,_)=_
    rw [List.append_nil]
   walk_at "gw"
   refine ⟨r,ta,bs,p2,_,123,rfl,R2,by decide,by decide,?_⟩
   walk_at "gw"
   walk_at "gw"
   by_cases h123:pk bs p2=123
   ·rw [if_pos (by simpa using h123)]
    walk_at "gw"
    by_cases hfull:xs.length=4096
    ·rw [if_neg (by lia)]
     walk_at "gw"
     exact fin (.inl (by lia))
    ·rw [if_pos (by lia)]
     walk_at "gw"
     refine ⟨_,.inl (.inl (.inl haW2)),?_⟩
     walk_at "gw"
     rw [hun]
     by_cases hz:n=0
     ·rw [if_neg (by lia)]
      walk_at "gw"
      exact fin (.inr (.inr hz))
     ·rw [if_pos (by lia)]
      walk_at "gw"
      refine ⟨fun σ' H'=>∃ m',m' < 4096-xs.length∧W m' σ' H',fun _ _ z=>z,?_⟩
      walk_at "gw"
      have ex:4096-xs.length=(4096-(xs.length+1))+1:=by lia
      rw [ex,Zg0 h123 (by lia)] at eq
      have er:∀ {i:Nat},sRow n (4096-(xs.length+1)) low (p2+1) (bs.drop (p2+1))=.error i→VhPage.signs_ n 4096 0 p (bs.drop p)=.error i:=fun h=>by rw [eq,h];rfl
      unfold sRow at er eq
      walk_at "gw"
      refine ⟨r,ta,bs,p2,_,123,rfl,R2,by decide,by decide,fun _ p3 H3 e3 k3 R3=>?_,fun p3 H3 e3 R3=>by rw [Xv (c:=123) h123] at e3;cases e3⟩
      walk_at "gw"
      have ep:=Ve (c:=123) h123 e3
      rw [ep] at R3
      refine Zm fun G0 hG0=>?_
      obtain ⟨dx3,hR,hS,hne⟩:=R3
      refine hG0 ?_
      clear hG0
      have hR2:=hR
      have R3:Rdr K a H3 r ta bs (p2+1):=⟨dx3,hR,hS,hne⟩
      have hWk:H3 wk=some (.ins a.CW dw (wf s aR aH aP aW D aE)):=k3 _ _ hWk (by simp [Ne.symm rwk])
      have hWk2:=hWk
      have haW3:H3 aW=some (.lst us):=k3 _ _ haW2 (by simp [Ne.symm raW])
      walk_at "gw"
      refine ⟨_,.inl (.inl (.inl haW3)),?_⟩
      walk_at "gw"
      refine ⟨r,ta,bs,p2+1,low,n-1,by rw [hun,show (n:Int)-1=((n-1:Nat):Int) by lia],R3,by lia,fun x p4 H4 e4 hx1 hx2 k4 R4=>?_,fun p4 H4 e4 R4=>q2 p4 H4 (er (UG e4 fun x hd=>XJ hd)) R4⟩
      walk_at "gw"
      rw [ZO e4] at er eq
      refine Zm fun G0 hG0=>?_
      obtain ⟨dx4,hR,hS,hne⟩:=R4
      refine hG0 ?_
      clear hG0
      have hR2:=hR
      have R4:Rdr K a H4 r ta bs p4:=⟨dx4,hR,hS,hne⟩
      walk_at "gw"
      refine ⟨r,ta,bs,p4,_,32,rfl,R4,by decide,by decide,fun _ p5 H5 e5 k5 R5=>?_,fun p5 H5 e5 R5=>q2 p5 H5 (er (Z7 e5)) R5⟩
      walk_at "gw"
      rw [ZO e5] at er eq
      refine Zm fun G0 hG0=>?_
      obtain ⟨dx5,hR,hS,hne⟩:=R5
      refine hG0 ?_
      clear hG0
      have hR2:=hR
      have R5:Rdr K a H5 r ta bs p5:=⟨dx5,hR,hS,hne⟩
      walk_at "gw"
      refine ⟨r,_,ta,bs,[94],p5,4,16,rfl,R5,Zis T H5 r,by decide,by decide,by decide,by decide,fun ys ws p7 H7 l7 e7 y1 y2 y3 hl7 k7 hl7' hPw R7=>?_,fun p7 H7 e7 R7=>q2 p7 H7 (er (Z7 e7)) R7⟩
      walk_at "gw"
      refine Zm fun G0 hG0=>?_
      obtain ⟨dx7,hR,hS,hne⟩:=R7
      refine hG0 ?_
      clear hG0
      have hR2:=hR
      have R7:Rdr K a H7 r ta bs p7:=⟨dx7,hR,hS,hne⟩
      have l7r:l7≠r:=fun z=>by obtain ⟨_,h,_⟩:=R5;rw [z,h] at hl7;cases hl7
      walk_at "gw"
      refine ⟨r,ta,bs,p7,_,10,rfl,R7,by decide,by decide,fun _ p8 H8 e8 k8 R8=>?_,fun p8 H8 e8 R8=>?_⟩
      ·have h10:pk bs p7=10:=by
        apply Decidable.byContradiction
        intro z
        rw [Vf (c:=10) z] at e8
        cases e8
       have ep:=Ve (c:=10) h10 e8
       rw [ep] at R8
       rw [if_pos h10] at e7
       rw [ZO e7,Jw] at eq
       have k25:Kp [r] H2 H5:=(k3.trans k4).trans k5
       have k28:Kp [r] H2 H8:=(k25.trans k7).trans k8
       have hD8:H8 D=some (.lst (gs.map V.ref)):=k28 _ _ hD2 (by simp [Ne.symm Dr])
       have hWk:H8 wk=some (.ins a.CW dw (wf s aR aH aP aW D aE)):=k28 _ _ ‹H2 wk=_› (by simp [Ne.symm rwk])
       have hWk2:=hWk
       have hl8:H8 l7=some (.lst ws):=k8 _ _ hl7' (by simp [l7r])
       obtain ⟨g,hg⟩:∃ g,gs[x]?=some g:=⟨_,List.getElem?_eq_getElem (by lia)⟩
       have hgm:g∈gs:=List.mem_of_getElem? hg
       refine Zm fun G0 hG0=>?_
       obtain ⟨hgn,_,hgD⟩:=Gg g hgm
       refine hG0 ?_
       clear hG0
       obtain ⟨gr,gwk⟩:=fr g hgn
       refine Zm fun G0 hG0=>?_
       obtain ⟨ts,hts,hPts⟩:=hSg x g hg
       refine hG0 ?_
       clear hG0
       have hts8:H8 g=some (.lst ts):=k28 _ _ hts (by simp [gr])
       have hPw8:Paired (fun y v=>∃ l,v=V.ref l∧H8 l=some (.lst (lV y))) ys ws:=Paired.mapP hPw (by
        rintro y v ⟨b,rfl,hb,hb0⟩
        have br:b≠r:=fun z=>by obtain ⟨_,h,_⟩:=R5;rw [z,h] at hb0;cases hb0
        exact ⟨b,rfl,k8 _ _ hb (by simp [br])⟩)
       have jb:=Za5 32 16 ys y3
       walk_at "gw"
       refine ⟨_,.inl (.inl hD8),_,V0 (v:=V.ref g) (by rw [List.getElem?_map,hg];rfl),?_⟩
       walk_at "gw"
       refine ⟨.inl ⟨rfl,_,.inl (.inl hts8)⟩,?_⟩
       walk_at "gw"
       refine ⟨l7,ws,ys,32,rfl,hl8,hPw8,by lia,fun H9 j hj k9 hj9=>?_⟩
       have hts9:H9 g=some (.lst ts):=k9 _ _ hts8 (by simp)
       have hlt:=Paired.length hPts
       have few:ts.length≤4096:=by
        rw [← hlt,List.length_map]
        unfold W4
        rw [List.length_map]
        exact Nat.le_trans (List.length_filter_le _ _) x1
       walk_at "gw"
       refine ⟨ts,hts9,Nat.lt_of_le_of_lt few (by decide),?_⟩
       walk_at "gw"
       refine ⟨4096-(xs.length+1),by lia,?_⟩
       walk_at "gw"
       rw [hW]
       have k8':Kp [r,wk] H H8:=k2.trans (k28.mono (by simp))
       have k9':Kp [r,wk] H H9:=k8'.trans (k9.mono (by simp))
       have jr:j≠r:=fun z=>by obtain ⟨_,h,_⟩:=R8;rw [z,h] at hj;cases hj
       have jwk:j≠wk:=fun z=>by rw [z,hWk] at hj;cases hj
       have jg:j≠g:=fun z=>by rw [z,hts8] at hj;cases hj
       have hj0:H j=none:=k8'.free (by simp [jr,jwk]) hj
       have kF:Kp [r,wk] H (upd H9 g (HO.lst (ts++[V.ref j]))):=k9'.put2 (.inr hgn)
       have up:∀ b o,H9 b=some o→b≠g→upd H9 g (HO.lst (ts++[V.ref j])) b=some o:=fun b o e n1=>by rw [Zi n1];exact e
       refine Zm fun G0 hG0=>?_
       obtain ⟨dx8,a1,a2,a3⟩:=R8
       refine hG0 ?_
       clear hG0
       have ec:((xs.length:Int)+1)=(((xs++[(x,ys)]).length:Nat):Int):=by simp
       -- lists that hold letters are no signs' lists
       have keepL:∀ (y:List Nat) (v:V),LN H H2 y v→(∀ g'∈gs,v≠.ref g')→LN H (upd H9 g (HO.lst (ts++[V.ref j]))) y v:=by
        rintro y v ⟨b,rfl,hb,hb0⟩ nb
        obtain ⟨n1,n2⟩:=fr b hb0
        exact ⟨b,rfl,up _ _ (k9 _ _ (k28 _ _ hb (by simp [n1])) (by simp)) (fun z=>nb g hgm (by rw [z])),hb0⟩
       walk_at "gw"
       refine ⟨xs++[(x,ys)],x,p7+1,_,_,by rw [ec],up _ _ (k9 _ _ hD8 (by simp)) (Ne.symm hgD),?_,up _ _ (k9 _ _ hWk (by simp)) (Ne.symm gwk),⟨dx8,up _ _ (k9 _ _ a1 (by simp)) (Ne.symm gr),kF.seq (by simp [hne,tawk]) hS0,hne⟩,kF,by simp;lia,?_,by simp⟩
       ·intro k' g' hg'
        have hgm':g'∈gs:=List.mem_of_getElem? hg'
        refine Zm fun G0 hG0=>?_
        obtain ⟨ts',hts',hP'⟩:=hSg k' g' hg'
        refine hG0 ?_
        clear hG0
        have gr':=(fr g' (Gg g' hgm').1).1
        by_cases hk:k'=x
        ·subst hk
         have e:g'=g:=Option.some.inj (hg'.symm.trans hg)
         subst e
         walk_at "gw"
         refine ⟨ts++[.ref j],Ze,?_⟩
         walk_at "gw"
         rw [ZcX,List.map_append]
         refine Paired.snoc (Paired.mapP hPts fun y v z=>⟨keepL y v z.1 z.2,z.2⟩) ⟨⟨j,rfl,by rw [Zi jg];exact hj9,hj0⟩,fun g2 hg2 z=>?_⟩
         obtain ⟨i2,hi2⟩:=List.getElem?_of_mem hg2
         refine Zm fun G0 hG0=>?_
         obtain ⟨t2,ht2,_⟩:=hSg i2 g2 hi2
         refine hG0 ?_
         clear hG0
         have g2r:=(fr g2 (Gg g2 hg2).1).1
         have z:j=g2:=V.ref.inj z
         rw [z,k28 _ _ ht2 (by simp [g2r])] at hj
         cases hj
        ·have ne:g'≠g:=fun z=>hk (Ziq hg4 hg' (by rw [z];exact hg))
         walk_at "gw"
         refine ⟨ts',up _ _ (k9 _ _ (k28 _ _ hts' (by simp [gr'])) (by simp)) ne,?_⟩
         walk_at "gw"
         rw [Zfd xs hk]
         exact Paired.mapP hP' fun y v z=>⟨keepL y v z.1 z.2,z.2⟩
       ·rw [eq,W8]
        simp
      ·by_cases h10:pk bs p7=10
       ·rw [Xv (c:=10) h10] at e8
        cases e8
       ·rw [Vf (c:=10) h10] at e8
        injection e8 with e8
        subst e8
        rw [if_neg h10] at e7
        exact q2 _ H8 (er (Z7 e7)) R8
   ·rw [if_neg (by simpa using h123)]
    walk_at "gw"
    exact fin (.inr (.inl h123))
end
section
variable {P:Program}{w:World}{K:PySem.W.Frag}{mg:Str→Option Value}{base:Heap}{a:Ad}
theorem SqL.is (T:Txt K mg a) {H:Hp}{ta:Addr}{xs:List V} (h:SqL K H ta xs):∃ o,H ta=some o:=by
 rcases h with (h | ⟨o,h⟩) | ⟨o,_,_,h,hc,_⟩
 ·exact ⟨_,h⟩
 ·exact ⟨_,h⟩
 ·exact absurd hc (T.nl _ _ h)
def LI (H:Hp) (x:List Nat) (v:V):Prop:=∃ l,v=.ref l∧H l=some (.lst (lV x))
def RowI (H:Hp) (x:Nat×Nat×Nat) (v:V):Prop:=∃ t,v=.ref t∧H t=some (.tup [.int (x.1:Int),.int (x.2.1:Int),.int (x.2.2:Int)])
def Zkn (H:Hp) (x:Nat×Nat) (v:V):Prop:=∃ t,v=.ref t∧H t=some (.tup [.int (x.1:Int),.int (x.2:Int)])
def EntI (H:Hp) (x:VhPage.Entry) (v:V):Prop:=∃ t l us,v=.ref t∧H t=some (.tup [.int (x.first:Int),.int (x.count:Int),.ref l])∧H l=some (.lst us)∧Paired (LI H) x.toks us
def SgI (H:Hp) (gs:List Addr) (xs:List (Nat×List (List Nat))):Prop:=∀ k g,gs[k]?=some g→∃ ts,H g=some (.lst ts)∧Paired (LI H) ((W4 xs k).map (XV 32)) ts
structure WRep (a:Ad) (H:Hp) (wk:Addr) (w:VhPage.Work) (hb:List UInt8):Prop where
 ex:∃ dw aR aH aP aW aS aE rs ps ws gs es,H wk=some (.ins a.CW dw (wf w.set aR aH aP aW aS aE))∧H aR=some (.lst rs)∧Paired (RowI H) w.widths rs∧H aH=some (.lst (bsV hb))∧H aP=some (.lst ps)∧Paired (Zkn H) (UY 0 w.paras) ps ∧
  H aW=some (.lst ws)∧Paired (LI H) w.paras.flatten ws∧H aS=some (.lst (gs.map V.ref))∧gs.length=w.paras.flatten.length∧SgI H gs w.signs∧H aE=some (.lst es)∧Paired (EntI H) w.entries es
def ZhZ (bs hb:List UInt8):Prop:=∃ s p0 x p1,VhPage.settings_ 0 bs=.ok (s,p0,bs.drop p0)∧VhPage.widths_ 64 33 p0 (bs.drop p0)=.ok (x,p1,bs.drop p1)∧hb=bs.take p1
def Vs (K:PySem.W.Frag) (a:Ad):Sp:=fun vs H Q E=>∃ (r ta:Addr) (bs:List UInt8),vs=[.ref r]∧Rdr K a H r ta bs 0 ∧
 (∀ w hb wk H',VhPage.readWork bs=.ok w→ZhZ bs hb→w.paras.flatten.length≤8192→Kp [r] H H'→WRep a H' wk w hb→Q (.ref wk) H') ∧
 ∀ p' H',VhPage.readWork bs=.error p'→Rdr K a H' r ta bs p'→E (.ref a.CE) none H'
theorem ZhB (bs:List UInt8) (p:Nat):cutV (bsV bs) none (some (p:Int))=bsV (bs.take p):=by
 unfold cutV
 rw [HT.sIx_none,HT.sIx_nat,List.drop_zero,Nat.sub_zero,Zeo]
 unfold bsV
 rw [← List.map_take]
 congr 1
 by_cases h:p≤bs.length
 ·rw [Nat.min_eq_left h]
 ·rw [Nat.min_eq_right (by lia),List.take_of_length_le (Nat.le_refl _),List.take_of_length_le (by lia)]
theorem Zei {G H' H'':Hp}{S:List Addr}{b:Addr}{o:HO} (k:Kp S H' H'') (hs:∀ c∈S,∃ o,G c=some o) (hb0:G b=none) (hb:H' b=some o):H'' b=some o:=k b o hb fun z=>by
 obtain ⟨o',h⟩:=hs b z
 rw [hb0] at h;cases h
abbrev Xz:Stmt:=top 79
theorem J3:Zp ["reader","work"] ["reader"] (Zc Xz):=⟨rfl,rfl,rfl,by decide +kernel,rfl,by decide +kernel,by decide +kernel⟩
theorem Zc8 {f:Addr}{fd:FuncData} (F:Fun K "read_work" "read_work" Xz f fd) (T:Txt K mg a) (zzem:J0 P w K mg base CX0 1 a.CW "Work" ["self","settings"] (Vw K a)) (zzek:FnC P w K mg base (CX1 P w a.CE) 4 "read_rows" ["reader","work"] (Vt K a)) (zza4:FnC P w K mg base (CX1 P w a.CE) 6 "read_paragraphs" ["reader","work"] (Xp K a)) (zzdh:FnC P w K mg base (CX1 P w a.CE) 6 "read_signs" ["reader","work"] (W0 K a)) (zzb4:FnC P w K mg base (CX1 P w a.CE) 6 "read_entries" ["reader","work"] (Wd K a)) (zza6:Z9 P w K mg base (CX1 P w a.CE) 2 a.CR "take_end" ["self"] (Xq K a)) (zzau:Z9 P w K mg base (CX1 P w a.CE) 4 a.CR "take_head" ["self","all_bounds"] (Xa K a)):FnOk P w K mg base (CX1 P w a.CE) 7 f fd ["reader"] (Vs K a):=by
 refine F.okE J3 (fun vs H Q E h=>?_) (fun cdv A outer s H vs Q E hr h=>?_)
 ·obtain ⟨r,ta,bs,rfl,⟨dx,hR,hS,hne⟩,q1,q2⟩:=h
  rfl
 ·obtain ⟨r,ta,bs,rfl,⟨dx,hR,hS,hne⟩,q1,q2⟩:=h
  have nd:=J3.nd
  refine ⟨_,(Zb (Zo (i:=1) nd rfl (Or.inl rfl) (W9 zzem hr Zz (Za (Zt (pv 0) T.clReader zzau hr Yz (Za (UC T.cSETTING_BOUNDS) Zd)) Zd))) (Zb (Zy (Zl zzek hr Yz (Za (pv 0) (Za (pv 1) Zd)))) (Zb (ZN (pv 1) (ZeL ZfU (Zv (pv 0) rfl) Zie (ZdZ (Zv (pv 0) rfl))) rfl) (Zb (Zy (Zl zza4 hr Yz (Za (pv 0) (Za (pv 1) Zd)))) (Zb (Zy (Zl zzdh hr Yz (Za (pv 0) (Za (pv 1) Zd)))) (Zb (Zy (Zl zzb4 hr Yz (Za (pv 0) (Za (pv 1) Zd)))) (Zb (Zy (XT (pv 0) T.clReader zza6 hr Yz)) (Zf (Zs (pv 1)))))))))),?_⟩
  have hR2:=hR
  have hWk:=hR
  have hWk2:=hR
  have hR0:=hR
  have R:Rdr K a H r ta bs 0:=⟨dx,hR,hS,hne⟩
  have hS0:=hS
  obtain ⟨ot,hta⟩:=SqL.is T hS
  have er:∀ {i:Nat},(Vh.andThen VhPage.settings_ fun (s:VhPage.Settings)=>Vh.andThen (VhPage.widths_ 64 33) fun (w:List (Nat×Nat×Nat))=>Vh.andThen (VhPage.paras_ 4096 8192) fun (p:List (List Vh.Letters))=>Vh.andThen (VhPage.signs_ p.flatten.length 4096 0) fun (g:List (Nat×List Vh.Letters))=>Vh.andThen (VhPage.entries_ p.flatten.length 4096 0 65536) fun (e:List VhPage.Entry)=>VhPage.end_ (⟨s,w,p,g,e⟩:VhPage.Work)) 0 (bs.drop 0)=.error i→VhPage.readWork bs=.error i:=fun h=>by
   unfold VhPage.readWork Vh.readAll
   rw [List.drop_zero] at h
   rw [h]
  have ok:∀ {x p' b'},(Vh.andThen VhPage.settings_ fun (s:VhPage.Settings)=>Vh.andThen (VhPage.widths_ 64 33) fun (w:List (Nat×Nat×Nat))=>Vh.andThen (VhPage.paras_ 4096 8192) fun (p:List (List Vh.Letters))=>Vh.andThen (VhPage.signs_ p.flatten.length 4096 0) fun (g:List (Nat×List Vh.Letters))=>Vh.andThen (VhPage.entries_ p.flatten.length 4096 0 65536) fun (e:List VhPage.Entry)=>VhPage.end_ (⟨s,w,p,g,e⟩:VhPage.Work)) 0 (bs.drop 0)=.ok (x,p',b')→VhPage.readWork bs=.ok x:=fun h=>by
   unfold VhPage.readWork Vh.readAll
   rw [List.drop_zero] at h
   rw [h]
  walk_at "gs"
  walk_at "gr"
  refine ⟨r,a.aSETTING_BOUNDS,ta,bs,0,bdS,rfl,R,T.tSETTING_BOUNDS,by decide,fun xs p1 H1 l1 e1 hxl hl1 k1 hl1' R1=>?_,fun p1 H1 e1 R1=>q2 p1 H1 (er (Z7 (by rw [J2];exact Zjf e1))) R1⟩
  walk_at "gr"
  obtain ⟨s,e1,hl1'⟩:∃ s:VhPage.Settings,VhPage.settings_ 0 (bs.drop 0)=.ok (s,p1,bs.drop p1)∧H1 l1=some (.lst [.int (s.width:Int),.int (s.height:Int),.int (s.indent:Int),.int (s.every:Int),.int (s.anew:Int),.int (s.loose:Int)]):=by
   match xs,hxl with
   | [x0,x1,x2,x3,x4,x5],_=>exact ⟨⟨x0,x1,x2,x3,x4,x5⟩,by rw [J2];exact Zje e1,hl1'⟩
  rw [ZO e1] at er ok
  intro wk dw nwk ndw newk
  refine Zm fun G0 hG0=>?_
  obtain ⟨dx1,hR,hS,hne⟩:=R1
  refine hG0 ?_
  clear hG0
  have R1:Rdr K a H1 r ta bs p1:=⟨dx1,hR,hS,hne⟩
  have rwk:r≠wk:=Zg hR nwk
  have rdw:r≠dw:=Zg hR ndw
  have tawk:ta≠wk:=Zg (k1 _ _ hta (by simp [hne])) nwk
  have l1wk:l1≠wk:=Zg hl1' nwk
  have l1dw:l1≠dw:=Zg hl1' ndw
  have hwk0:H wk=none:=k1.free (by simp [Ne.symm rwk]) nwk
  walk_at "gr"
  refine ⟨wk,dw,l1,s,rfl,Ze,by rw [Zi l1wk,Zi l1dw];exact hl1',fun H2 aR aH aP aW aS aE k2 hWk al nd6=>⟨rfl,?_⟩⟩
  walk_at "gr"
  have six:∀ b∈[aR,aH,aP,aW,aS,aE],b≠wk∧H1 b=none∧H b=none∧b≠r∧b≠ta∧H2 b=some (.lst []):=fun b hb=>by
   obtain ⟨h1,h2⟩:=al b hb
   have n1:b≠wk:=fun z=>by rw [z,Ze] at h1;cases h1
   rw [Zi n1] at h1
   have n2:b≠dw:=fun z=>by rw [z,Ze] at h1;cases h1
   rw [Zi n2] at h1
   have n3:b≠r:=fun z=>by rw [z,hR] at h1;cases h1
   exact ⟨n1,h1,k1.free (by simp [n3]) h1,n3,fun z=>(by rw [z,k1 _ _ hta (by simp [hne])] at h1;cases h1),h2⟩
  refine Zm fun G0 hG0=>?_
  obtain ⟨aRwk,aR1,aR0,aRr,aRta,aR2⟩:=six aR (by simp)
  refine hG0 ?_
  clear hG0
  refine Zm fun G0 hG0=>?_
  obtain ⟨aHwk,aH1,aH0,aHr,aHta,aH2⟩:=six aH (by simp)
  refine hG0 ?_
  clear hG0
  refine Zm fun G0 hG0=>?_
  obtain ⟨aPwk,aP1,aP0,aPr,aPta,aP2⟩:=six aP (by simp)
  refine hG0 ?_
  clear hG0
  refine Zm fun G0 hG0=>?_
  obtain ⟨aWwk,aW1,aW0,aWr,aWta,aW2⟩:=six aW (by simp)
  refine hG0 ?_
  clear hG0
  refine Zm fun G0 hG0=>?_
  obtain ⟨aEwk,aE1,aE0,aEr,aEta,aE2⟩:=six aE (by simp)
  refine hG0 ?_
  clear hG0
  have ndd:aR≠aP∧aR≠aW∧aR≠aE∧aP≠aW∧aP≠aE∧aW≠aE:=by
   simp only [List.nodup_cons,List.mem_cons,not_or] at nd6
   exact ⟨nd6.1.2.1,nd6.1.2.2.1,nd6.1.2.2.2.2.1,nd6.2.2.1.1,nd6.2.2.1.2.2.1,nd6.2.2.2.1.2.1⟩
  refine Zm fun G0 hG0=>?_
  obtain ⟨RP,RW,RE,PW,PE,WE⟩:=ndd
  refine hG0 ?_
  clear hG0
  have k02:Kp [r] H H2:=fun c o e n=>by
   have e1:=k1 c o e n
   have n1:c≠wk:=Zg e1 nwk
   exact k2 c o (by rw [Zi n1,Zi (Zg e1 ndw)];exact e1) (by simp [n1])
  have hR:H2 r=some (HO.ins a.CR dx1 (rf ta (p1:Int))):=k2 _ _ (by rw [Zi rwk,Zi rdw];exact hR) (by simp [rwk])
  have R2:Rdr K a H2 r ta bs p1:=Rdr.move (dx:=dx1) hS0 hne k02 hR
  walk_at "gr"
  refine ⟨r,ta,wk,dw,bs,p1,s,aR,aH,aP,aW,aS,aE,rfl,R2,hWk,aR2,rwk,Ne.symm aRta,fun ws rs p2 H3 e3 k3 hrs hPr R3=>?_,fun p2 H3 e3 R3=>q2 p2 H3 (er (Z7 e3)) R3⟩
  walk_at "gr"
  have hd0:ZhZ bs (bs.take p2):=⟨s,p1,ws,p2,by rw [List.drop_zero] at e1;exact e1,e3,rfl⟩
  rw [ZO e3] at er ok
  refine Zm fun G0 hG0=>?_
  obtain ⟨dx3,hR,hS,hne⟩:=R3
  refine hG0 ?_
  clear hG0
  have hR2:=hR
  have hWk:H3 wk=some (HO.ins a.CW dw (wf s aR aH aP aW aS aE)):=k3 _ _ hWk (by simp [Ne.symm rwk,Ne.symm aRwk])
  have hWk2:=hWk
  walk_at "gw"
  refine ⟨_,hS,fun hp hhp=>?_⟩
  walk_at "gw"
  have hpwk:wk≠hp:=Zg hWk hhp
  have hpr:r≠hp:=Zg hR hhp
  rw [ZhB]
  walk_at "gw"
  refine Ws (by rw [Zi hpwk];exact hWk) T.clWork T.n_head ⟨by rw [Zaz];decide,?_⟩
  walk_at "gw"
  rw [Zh5]
  generalize hG:upd (upd H3 hp (HO.lst (bsV (bs.take p2)))) wk (HO.ins a.CW dw (wf s aR hp aP aW aS aE))=H4
  have k34:Kp [wk] H3 H4:=by rw [← hG];exact (Kp.new hhp).trans (Kp.put (by simp))
  have hH4:H4 hp=some (.lst (bsV (bs.take p2))):=by rw [← hG,Zi (Ne.symm hpwk),Ze]
  have hWk:H4 wk=some (HO.ins a.CW dw (wf s aR hp aP aW aS aE)):=by rw [← hG,Ze]
  clear hG
  have hWk2:=hWk
  have hR:H4 r=some (HO.ins a.CR dx3 (rf ta (p2:Int))):=k34 _ _ hR (by simp [rwk])
  have hR2:=hR
  have k24:Kp [r,aR,wk] H2 H4:=(k3.mono (by simp)).trans (k34.mono (by simp))
  have R4:Rdr K a H4 r ta bs p2:=⟨dx3,hR,k24.seq (by simp [hne,Ne.symm aRta,tawk]) (k02.seq (by simp [hne]) hS0),hne⟩
  have aP4:H4 aP=some (.lst []):=k24 _ _ aP2 (by simp [aPr,Ne.symm RP,aPwk])
  have aW4:H4 aW=some (.lst []):=k24 _ _ aW2 (by simp [aWr,Ne.symm RW,aWwk])
  have aE4:H4 aE=some (.lst []):=k24 _ _ aE2 (by simp [aEr,Ne.symm RE,aEwk])
  walk_at "gw"
  refine ⟨r,ta,wk,dw,bs,p2,s,aR,hp,aP,aW,aS,aE,rfl,R4,hWk,aP4,aW4,PW,rwk,Ne.symm aPta,Ne.symm aWta,fun ps us vs p3 H5 e5 hps k5 hus hPu hvs hPv R5=>?_,fun p3 H5 e5 R5=>q2 p3 H5 (er (Z7 e5)) R5⟩
  walk_at "gw"
  rw [ZO e5] at er ok
  have hWk:H5 wk=some (HO.ins a.CW dw (wf s aR hp aP aW aS aE)):=k5 _ _ hWk (by simp [Ne.symm rwk,Ne.symm aPwk,Ne.symm aWwk])
  have hWk2:=hWk
  have aE5:H5 aE=some (.lst []):=k5 _ _ aE4 (by simp [aEr,Ne.symm PE,Ne.symm WE])
  have hlu:=Paired.length hPu
  walk_at "gw"
  refine ⟨r,ta,wk,dw,bs,p3,ps.flatten.length,s,us,aR,hp,aP,aW,aS,aE,rfl,R5,hWk,hus,hlu.symm,hps,rwk,tawk,fun sg gs p4 H6 D e6 k6 hWk6 hD0 hD hgl hg0 hSg R6=>?_,fun p4 H6 e6 R6=>q2 p4 H6 (er (Z7 e6)) R6⟩
  walk_at "gw"
  rw [ZO e6] at er ok
  have hWk:H6 wk=some (HO.ins a.CW dw (wf s aR hp aP aW D aE)):=hWk6
  have hWk2:=hWk
  have aE6:H6 aE=some (.lst []):=k6 _ _ aE5 (by simp [aEr,aEwk])
  have hus6:H6 aW=some (.lst us):=k6 _ _ hus (by simp [aWr,aWwk])
  walk_at "gw"
  refine ⟨r,ta,wk,dw,bs,p4,ps.flatten.length,s,us,aR,hp,aP,aW,D,aE,rfl,R6,hWk,aE6,hus6,hlu.symm,hps,Ne.symm WE,rwk,Ne.symm aEta,fun en es p5 H7 e7 k7 hes hPe R7=>?_,fun p5 H7 e7 R7=>q2 p5 H7 (er (Z7 e7)) R7⟩
  walk_at "gw"
  rw [ZO e7] at er ok
  refine Zm fun G0 hG0=>?_
  obtain ⟨dx7,hR,hS,hne⟩:=R7
  refine hG0 ?_
  clear hG0
  have R7:Rdr K a H7 r ta bs p5:=⟨dx7,hR,hS,hne⟩
  have hR2:=hR
  walk_at "gw"
  refine ⟨r,ta,bs,p5,rfl,R7,fun hend=>?_,fun hend=>q2 p5 H7 (er ?_) R7⟩
  ·have fin:VhPage.end_ (⟨s,ws,ps,sg,en⟩:VhPage.Work) p5 (bs.drop p5)=.ok (⟨s,ws,ps,sg,en⟩,p5,bs.drop p5):=by
    unfold VhPage.end_ Vh.byNext
    rw [ZA,hend]
    rfl
   walk_at "gr"
   have dom2:∀ c∈[r,wk,aP,aW,aE],∃ o,H2 c=some o:=fun c hc=>by
    simp at hc
    rcases hc with rfl | rfl | rfl | rfl | rfl
    ·obtain ⟨_,h,_⟩:=R2;exact ⟨_,h⟩
    ·exact ⟨_,‹H2 c=some (HO.ins a.CW dw (wf s aR aH aP aW aS aE))›⟩
    ·exact ⟨_,aP2⟩
    ·exact ⟨_,aW2⟩
    ·exact ⟨_,aE2⟩
   have dom3:∀ c∈[r,wk,aP,aW,aE],∃ o,H3 c=some o:=fun c hc=>by
    obtain ⟨o,ho⟩:=dom2 c hc
    by_cases z:c=r
    ·rw [z];exact ⟨_,‹H3 r=some _›⟩
    ·exact ⟨o,k3 _ _ ho (by
      simp at hc ⊢
      walk_at "gr"
      refine ⟨z,?_⟩
      walk_at "gr"
      rcases hc with rfl | rfl | rfl | rfl | rfl
      ·exact Ne.symm aRr
      ·exact Ne.symm aRwk
      ·exact Ne.symm RP
      ·exact Ne.symm RW
      ·exact Ne.symm RE)⟩
   have dom4:∀ c∈[r,wk,aP,aW,aE],∃ o,H4 c=some o:=fun c hc=>by
    simp at hc
    rcases hc with rfl | rfl | rfl | rfl | rfl
    ·obtain ⟨_,h,_⟩:=R4;exact ⟨_,h⟩
    ·exact ⟨_,‹H4 c=some (HO.ins a.CW dw (wf s aR hp aP aW aS aE))›⟩
    ·exact ⟨_,aP4⟩
    ·exact ⟨_,aW4⟩
    ·exact ⟨_,aE4⟩
   have dom5:∀ c∈[r,wk,aP,aW,aE],∃ o,H5 c=some o:=fun c hc=>by
    simp at hc
    rcases hc with rfl | rfl | rfl | rfl | rfl
    ·obtain ⟨_,h,_⟩:=R5;exact ⟨_,h⟩
    ·exact ⟨_,‹H5 c=some (HO.ins a.CW dw (wf s aR hp aP aW aS aE))›⟩
    ·exact ⟨_,hvs⟩
    ·exact ⟨_,hus⟩
    ·exact ⟨_,aE5⟩
   have k67:Kp [r,wk,aP,aW,aE] H6 H7:=k7.mono (by simp)
   have k57:Kp [r,wk,aP,aW,aE] H5 H7:=(k6.mono (by simp)).trans k67
   have k47:Kp [r,wk,aP,aW,aE] H4 H7:=(k5.mono (by intro b hb;simp at hb ⊢;rcases hb with h | h | h <;> simp [h])).trans k57
   have k37:Kp [r,wk,aP,aW,aE] H3 H7:=(k34.mono (by simp)).trans k47
   refine q1 ⟨s,ws,ps,sg,en⟩ (bs.take p2) wk H7 (ok fin) hd0 hps (fun c o e n=>?_) ⟨dw,aR,hp,aP,aW,D,aE,rs,vs,us,gs,es,k7 _ _ hWk (by simp [Ne.symm rwk,Ne.symm aEwk]),?_,?_,?_,?_,?_,?_,?_,?_,hgl,?_,hes,?_⟩
   ·have e2:=k02 c o e n
    have n1:c≠aR:=fun z=>by rw [z,aR0] at e;cases e
    refine k37 c o (k3 c o e2 (by simp at n ⊢;exact ⟨n,n1⟩)) ?_
    walk_at "gr"
    simp at n ⊢
    exact ⟨n,fun z=>(by rw [z,hwk0] at e;cases e),fun z=>(by rw [z,aP0] at e;cases e),fun z=>(by rw [z,aW0] at e;cases e),fun z=>(by rw [z,aE0] at e;cases e)⟩
   ·exact k37 _ _ hrs (by simp [aRr,aRwk,RP,RW,RE])
   ·exact Paired.mapP hPr (by rintro x v ⟨t,rfl,h,h0⟩;exact ⟨t,rfl,Zei k37 dom2 h0 h⟩)
   ·exact Zei k47 dom3 hhp hH4
   ·exact k7 _ _ (k6 _ _ hvs (by simp [aPr,aPwk])) (by simp [aPr,PE])
   ·exact Paired.mapP hPv (by rintro x v ⟨t,rfl,h,h0⟩;exact ⟨t,rfl,Zei k57 dom4 h0 h⟩)
   ·exact k7 _ _ hus6 (by simp [aWr,WE])
   ·exact Paired.mapP hPu (by rintro x v ⟨t,rfl,h,h0⟩;exact ⟨t,rfl,Zei k57 dom4 h0 h⟩)
   ·exact Zei k67 dom5 hD0 hD
   ·intro j g hg
    refine Zm fun G0 hG0=>?_
    obtain ⟨ts,h1,h2⟩:=hSg j g hg
    refine hG0 ?_
    clear hG0
    exact ⟨ts,Zei k67 dom5 (hg0 g (List.mem_of_getElem? hg)) h1,Paired.mapP h2 (by rintro x v ⟨⟨t,rfl,h,h0⟩,_⟩;exact ⟨t,rfl,Zei k67 dom5 h0 h⟩)⟩
   ·exact Paired.mapP hPe (by
     rintro x v ⟨t,l,us',rfl,h,_,h2,_,h3⟩
     exact ⟨t,l,us',rfl,h,h2,Paired.mapP h3 (by rintro y v ⟨b,rfl,hb,_⟩;exact ⟨b,rfl,hb⟩)⟩)
  ·unfold VhPage.end_ Vh.byNext
   rw [ZA]
   cases e:bs[p5]? with
   | none=>exact absurd e hend
   | some c=>rfl
end
section
variable {P:Program}{w:World}{K:PySem.W.Frag}{mg:Str→Option Value}{base:Heap}{a:Ad}
theorem Y7 {H:Hp}{p:Addr}{xs:List V}{j:Nat}{v:V}{Q:VK} (h:H p=some (.lst xs)) (e:xs[j]?=some v) (q:Q v H):rIxL K (.ref p) (.int (j:Int)) H Q:=⟨p,xs,(j:Int),v,rfl,rfl,.inl (.inl h),V0 e,q⟩
theorem Xt {H:Hp}{p:Addr}{xs:List V} (j:Nat) {v:V}{Q:VK} (h:H p=some (.tup xs)) (e:xs[j]?=some v) (q:Q v H):rIxT K (.ref p) (.int (j:Int)) H Q:=⟨p,xs,(j:Int),v,rfl,rfl,.inl (.inl h),V0 e,q⟩
theorem ZeY (c:Nat):∀ l:List Nat,(l.map (fun (n:Nat)=>(n:Int))).contains (c:Int)=l.contains c
 | []=>rfl
 | x::l=>by
  rw [List.map_cons,List.contains_cons,List.contains_cons,ZeY c l]
  congr 1
  by_cases z:c=x
  ·subst z;simp
  ·rw [beq_eq_false_iff_ne.mpr z,beq_eq_false_iff_ne];lia
theorem Ziu (c:Nat):Wq.contains (c:Int)=VhPage.isMark c:=ZeY c Vh.MARKS
theorem Paired.get2 {α β:Type}{R:α→β→Prop}:∀ {xs:List α}{ys:List β}{i:Nat}{x:α},Paired R xs ys→xs[i]?=some x→∃ y,ys[i]?=some y∧R x y
 | _,_,_,_,.nil,e=>by simp at e
 | _,_,0,_,.cons r _,e=>by simp at e;subst e;exact ⟨_,rfl,r⟩
 | _,_,i+1,y,.cons _ t,e=>by
  obtain ⟨u,h1,h2⟩:=Paired.get2 (i:=i) (x:=y) t (by simpa using e)
  exact ⟨u,by simpa using h1,h2⟩
def Uu (H:Hp) (rw:Addr) (rs:List (Nat×Nat×Nat)):Prop:=∃ us,H rw=some (.lst us)∧Paired (RowI H) rs us∧ZdM rs∧rs.length≤64
theorem Uu.keep {H H':Hp}{rw:Addr}{rs:List (Nat×Nat×Nat)} (h:Uu H rw rs) (k:Kp [] H H'):Uu H' rw rs:=by
 obtain ⟨us,h1,h2,h3⟩:=h
 exact ⟨us,k _ _ h1 (by simp),Paired.mono (fun x v ⟨t,e,ht⟩=>⟨t,e,k _ _ ht (by simp)⟩) h2,h3⟩
def Zb9 (K:PySem.W.Frag) (a:Ad):Sp:=fun vs H Q _=>∃ (rw:Addr) (rs:List (Nat×Nat×Nat)) (c:Nat),vs=[.ref rw,.int (c:Int)]∧Uu H rw rs∧Q (.int (VY rs c:Nat)) H
abbrev JL:Stmt:=top 7
theorem ZeA:Zp ["rows","character","low","high","middle"] ["rows","character"] (Zc JL):=⟨rfl,rfl,rfl,by decide +kernel,rfl,by decide +kernel,by decide +kernel⟩
theorem Zha {f:Addr}{fd:FuncData} (F:Fun K "cells" "cells" JL f fd) (T:Txt K mg a):FnOk P w K mg base CX0 1 f fd ["rows","character"] (Zb9 K a):=by
 refine F.ok ZeA (fun vs H Q E h=>?_) (fun cdv A outer s H vs Q E hr h=>?_)
 ·obtain ⟨rw,rs,c,rfl,⟨us,hrw,hP,ok,hn⟩,q⟩:=h
  rfl
 ·obtain ⟨rw,rs,c,rfl,⟨us,hrw,hP,ok,hn⟩,q⟩:=h
  have nd:=ZeA.nd
  refine ⟨_,(Zb (Zo (i:=2) nd rfl (Or.inl rfl) Zh) (Zb (Zo (i:=3) nd rfl (Or.inl rfl) (Zr Zj rfl T.len PySem.boot_len (Za (pv 0) Zd))) (Zb (Yu PassesOwn.never (Zq Wm (pv 2) (pv 3) (Zu _)) (Zb (Zo (i:=4) nd rfl (Or.inl rfl) (ZG Zim (ZG Ya (pv 2) (pv 3)) Zh)) (Zf (Ye (Zq Wm (ZK YF (ZK ZC (pv 0) (pv 4) (fun _ _=>rfl)) Zh (fun _ _=>rfl)) (pv 1) (Zu _)) (Zf (Zo (i:=2) nd rfl (Or.inl rfl) (ZG Ya (pv 4) Zh))) (Zf (Zo (i:=3) nd rfl (Or.inl rfl) (pv 4))))))) (Zb (Ye (PW.pt (Xm (Zq Wm (pv 2) (Zr Zj rfl T.len PySem.boot_len (Za (pv 0) Zd)) (Zu _)) (Xm (Zq WI (ZK YF (ZK ZC (pv 0) (pv 2) (fun _ _=>rfl)) Zh (fun _ _=>rfl)) (pv 1) (Zu _)) (Xc (Zq Zah (pv 1) (UC T.cMARKS) (by with_unfolding_all rfl)))))) (Zf (Zs (ZK YF (ZK ZC (pv 0) (pv 2) (fun _ _=>rfl)) Zh (fun _ _=>rfl)))) Zx) (Zf (Zs Zh)))))),?_⟩
  have hlu:=Paired.length hP
  walk_at "rd"
  refine ⟨_,.inl (.inl (.inl hrw)),?_⟩
  obtain ⟨W,hW⟩:∃ W:WT,W=fun m σ H'=>H'=H∧∃ (lo hi:Nat) (o:Option V),σ=[some (.ref rw),some (.int (c:Int)),some (.int (lo:Int)),some (.int (hi:Int)),o]∧m=hi-lo∧hi≤rs.length∧lo≤hi∧(∀ i x,rs[i]?=some x→i<lo→x.2.1<c)∧(∀ i x,rs[i]?=some x→hi≤i→c≤x.2.1):=⟨_,rfl⟩
  refine ⟨W,⟨_,by rw [hW];exact ⟨rfl,0,us.length,none,by simp,rfl,by lia,Nat.zero_le _,fun i x _ z=>absurd z (Nat.not_lt_zero i),fun i x hx z=>by rw [List.getElem?_eq_some_iff] at hx;obtain ⟨h,_⟩:=hx;lia⟩⟩,fun m σ H2 hw=>?_⟩
  rw [hW] at hw
  obtain ⟨rfl,lo,hi,o,rfl,rfl,hhi,hle,b1,b2⟩:=hw
  walk_at "rd"
  split
  ·rename_i h
   refine ⟨fun σ' H'=>∃ m',m' < hi-lo∧W m' σ' H',fun _ _ z=>z,⟨by lia,by lia⟩,?_⟩
   have em:((lo:Int)+(hi:Int)) / 2=(((lo+hi) / 2:Nat):Int):=by lia
   rw [em]
   generalize hm:(lo+hi) / 2=m
   have hm1:lo≤m:=by lia
   have hm2:m<hi:=by lia
   obtain ⟨x,hx⟩:∃ x,rs[m]?=some x:=⟨rs[m]'(by lia),List.getElem?_eq_getElem (by lia)⟩
   obtain ⟨y,hy,t,rfl,ht⟩:=Paired.get2 hP hx
   refine Y7 hrw hy (Xt 1 ht rfl ⟨_,rfl,?_⟩)
   split
   ·rename_i h1
    refine ⟨hi-(m+1),by lia,?_⟩
    rw [hW]
    refine ⟨rfl,m+1,hi,_,rfl,rfl,hhi,by lia,fun i y hy l=>?_,b2⟩
    have:=Zgq ok hy hx (by lia)
    lia
   ·rename_i h1
    refine ⟨m-lo,by lia,?_⟩
    rw [hW]
    refine ⟨rfl,lo,m,_,rfl,rfl,by lia,by lia,b1,fun i y hy l=>?_⟩
    have:=Zgq ok hx hy l
    lia
  ·rename_i h
   have e:lo=hi:=by lia
   subst e
   rw [ZgH ok b1 b2] at q
   refine ⟨_,.inl (.inl (.inl hrw)),?_⟩
   split
   ·rename_i h1
    obtain ⟨x,hx⟩:∃ x,rs[lo]?=some x:=⟨rs[lo]'(by lia),List.getElem?_eq_getElem (by lia)⟩
    obtain ⟨y,hy,t,rfl,ht⟩:=Paired.get2 hP hx
    rw [hx] at q
    refine Y7 hrw hy (Xt 0 ht rfl ⟨_,rfl,?_⟩)
    split
    ·rename_i h2
     refine ⟨_,.inr (T.tMARKS _),rfl,Ju Wq,?_⟩
     rw [Jr,Ziu]
     have h3:x.1≤c:=by lia
     simp only [h3,if_true] at q
     split
     ·rename_i h4
      rw [if_neg (by rw [h4];decide)] at q
      exact Y7 hrw hy (Xt 2 ht rfl q)
     ·rename_i h4
      rw [if_pos (by simpa using h4)] at q
      exact q
    ·rename_i h2
     have h3:¬ x.1≤c:=by lia
     simp only [h3,if_false,ite_self] at q
     exact q
   ·rename_i h1
    rw [List.getElem?_eq_none (by lia)] at q
    simp only [ite_self] at q
    exact q
def Yv (K:PySem.W.Frag) (a:Ad):Sp:=fun vs H Q _=>∃ (rw th:Addr) (rs:List (Nat×Nat×Nat)) (l:List Nat),vs=[.ref rw,.ref th]∧Uu H rw rs∧H th=some (.lst (lV l))∧l.length≤1048576∧∀ H',Kp [] H H'→Q (.int (Xw rs l:Nat)) H'
abbrev ZS:Stmt:=top 8
theorem WM:Zp ["rows","thing","character"] ["rows","thing"] (Zc ZS):=⟨rfl,rfl,rfl,by decide +kernel,rfl,by decide +kernel,by decide +kernel⟩
theorem US:JD ["rows","thing","character"] (Zc ZS) (lcSc (ZiL (ZaG (stI (Zk ZS) 0)) 0)) [("character",2)]:=⟨rfl,by decide +kernel,by decide +kernel,by decide +kernel,by decide +kernel⟩
theorem JQ {f:Addr}{fd:FuncData} (F:Fun K "cells_of_thing" "cells_of_thing" ZS f fd) (T:Txt K mg a) (zzjq:FnC P w K mg base CX0 1 "cells" ["rows","character"] (Zb9 K a)):FnOk P w K mg base CX0 2 f fd ["rows","thing"] (Yv K a):=by
 refine F.ok WM (fun vs H Q E h=>?_) (fun cdv A outer s H vs Q E hr h=>?_)
 ·obtain ⟨rw,th,rs,l,rfl,R,hth,hl,q⟩:=h
  rfl
 ·obtain ⟨rw,th,rs,l,rfl,R,hth,hl,q⟩:=h
  have nd:=WM.nd
  refine ⟨_,(Zf (Zs (Zr (ZgE rfl) rfl T.sum boot_sum (Za (Zf0 rfl nd (VI (pv 1)) US (fun _ _ _ _ _=>(Yl (i:=2) nd rfl (Or.inl rfl))) (fun _ _ _ _ _=>W6) (fun _ _ _ _ _=>(Zl zzjq hr Zz (Za (pv 0) (Za (pv 2) Zd))))) Zd)))),?_⟩
  have e0:Xw rs (l.take 0)=0:=rfl
  refine ⟨_,rfl,th,rfl,⟨_,.inl (.inl hth)⟩,fun D hD=>?_⟩
  have nD:th≠D:=Zg hth hD
  obtain ⟨Pv,hPv⟩:∃ Pv:Nat→Hp→Prop,Pv=fun i H'=>Kp [] H H'∧H' D=some (.lst (lV ((l.map (VY rs)).take i))):=⟨_,rfl⟩
  have hlv:(lV l).length=l.length:=List.length_map _
  refine Zcx (xs:=lV l) Pv ?_ ?_ ?_ ?_
  ·rw [hPv]
   exact ⟨Kp.new hD,Ze⟩
  ·intro i H' _ hw
   rw [hPv] at hw
   exact .inl (.inl (hw.1 _ _ hth (by simp)))
  ·intro i x H2 hi hw
   rw [hPv] at hw
   obtain ⟨k,hD2⟩:=hw
   obtain ⟨n,hn,rfl⟩:∃ n,l[i]?=some n∧V.int (n:Int)=x:=by
    unfold lV at hi
    rw [List.getElem?_map] at hi
    cases h:l[i]? with
    | none=>rw [h] at hi;cases hi
    | some n=>rw [h] at hi;exact ⟨n,rfl,by simpa using hi⟩
   refine ⟨rfl,?_⟩
   simp only [tYes]
   walk_at "rd"
   refine ⟨_,rfl,_,rfl,rw,rs,n,rfl,R.keep k,?_⟩
   have hil:=(List.getElem?_eq_some_iff.mp hn).1
   refine ⟨_,hD2,by unfold lV;rw [List.length_map,List.length_take];exact Nat.lt_of_le_of_lt (Nat.min_le_left _ _) (Nat.lt_of_lt_of_le (Nat.lt_of_lt_of_le hil hl) (by decide)),?_⟩
   rw [hPv]
   refine ⟨k.put2 (.inr hD),?_⟩
   rw [Ze]
   have:(l.map (VY rs)).take (i+1)=(l.map (VY rs)).take i++[VY rs n]:=Z3 (by rw [List.getElem?_map,hn];rfl)
   rw [this]
   unfold lV
   rw [List.map_append];rfl
  ·intro H2 hw
   rw [hPv] at hw
   obtain ⟨k,hD2⟩:=hw
   rw [hlv,List.take_of_length_le (by simp)] at hD2
   have e:∀ x:List Nat,((x.map fun n:Nat=>(n:Int)).sum)=(x.sum:Nat):=fun x=>by
    induction x with
    | nil=>rfl
    | cons y x ih=>rw [List.map_cons,List.sum_cons,List.sum_cons,ih];simp
   refine ⟨D,(l.map (VY rs)).map (fun (n:Nat)=>(n:Int)),rfl,.inl (.inl ?_),?_⟩
   ·rw [hD2];unfold lV;rw [List.map_map,List.map_map,List.map_map];rfl
   ·rw [e];exact q H2 k
end
section
variable {P:Program}{w:World}{K:PySem.W.Frag}{mg:Str→Option Value}{base:Heap}{a:Ad}
theorem Zjg {x:Str}{g:TG}{tt:TT}{te:TE}{vs:List Nat}{σ:L2.St}{H1:Hp}{D:Addr}{Qd:Hp→Prop} (Pv:Nat→Hp→Prop) (h0:Pv 0 (upd H1 D (.lst [])))
  (hs:∀ i c H,x.cps[i]?=some c→Pv i H→g (.str ⟨#[c]⟩) (wipe σ vs) H fun σ2 H2=>wipe σ2 vs=wipe σ vs∧tt σ2 H2 fun b H3 =>
   if b=true then te σ2 H3 fun y H4=>∃ acc,H4 D=some (.lst acc)∧acc.length<sizeLine∧Pv (i+1) (upd H4 D (.lst (acc++[y]))) else Pv (i+1) H3) (hd:∀ H,Pv x.cps.size H→Qd H) :
  ∃ W:Nat→Nat→Hp→Prop,(∃ m,W 0 m (upd H1 D (.lst [])))∧∀ i m H,W i m H →
   ((Its x).stop i H∧Qd H)∨((Its x).go i H∧∃ Nx:Hp→Prop,(∀ H',Nx H'→∃ m',m' < m∧W (i+1) m' H')∧∀ v H',(Its x).yld i H v H'→g v (wipe σ vs) H' fun σ2 H2=>wipe σ2 vs=wipe σ vs∧tt σ2 H2 fun b H3 =>
    if b=true then te σ2 H3 fun y H4=>∃ acc,H4 D=some (.lst acc)∧acc.length<sizeLine∧Nx (upd H4 D (.lst (acc++[y]))) else Nx H3):=by
 refine ⟨fun i m H=>m=x.cps.size-i∧i≤x.cps.size∧Pv i H,⟨x.cps.size,by simp,Nat.zero_le _,h0⟩,?_⟩
 rintro i m H ⟨rfl,hi,p⟩
 by_cases hlt:i<x.cps.size
 ·refine .inr ⟨hlt,Pv (i+1),fun H' p'=>⟨x.cps.size-(i+1),by lia,rfl,hlt,p'⟩,?_⟩
  rintro v H' ⟨e,c,hc,rfl⟩
  subst e
  exact hs i c _ hc p
 ·have e:i=x.cps.size:=by lia
  subst e
  exact .inl ⟨Nat.le_refl _,hd H p⟩
def YD (K:PySem.W.Frag) (a:Ad):Sp:=fun vs H Q _=>∃ (x:Str),vs=[.str x]∧x.cps.size≤1048576∧∀ H' p,H p=none→Kp [] H H'→H' p=some (.lst (lV x.cps.toList))→Q (.ref p) H'
abbrev Z1:Stmt:=top 9
theorem Vl:Zp ["text","sign"] ["text"] (Zc Z1):=⟨rfl,rfl,rfl,by decide +kernel,rfl,by decide +kernel,by decide +kernel⟩
theorem JA:JD ["text","sign"] (Zc Z1) (lcSc (ZaG (stI (Zk Z1) 0))) [("sign",1)]:=⟨rfl,by decide +kernel,by decide +kernel,by decide +kernel,by decide +kernel⟩
theorem Zam {f:Addr}{fd:FuncData} (F:Fun K "characters_of" "characters_of" Z1 f fd) (T:Txt K mg a):FnOk P w K mg base CX0 1 f fd ["text"] (YD K a):=by
 refine F.ok Vl (fun vs H Q E h=>?_) (fun cdv A outer s H vs Q E hr h=>?_)
 ·obtain ⟨x,rfl,hx,q⟩:=h
  rfl
 ·obtain ⟨x,rfl,hx,q⟩:=h
  have nd:=Vl.nd
  refine ⟨_,(Zf (Zs (Zf0 rfl nd (Zi6 (pv 0)) JA (fun _ _ _ _ _=>(Yl (i:=1) nd rfl (Or.inl rfl))) (fun _ _ _ _ _=>W6) (fun _ _ _ _ _=>(Zr Ze1 rfl T.ord boot_ord (Za (pv 1) Zd)))))),?_⟩
  refine ⟨_,rfl,x,rfl,fun D hD=>?_⟩
  obtain ⟨Pv,hPv⟩:∃ Pv:Nat→Hp→Prop,Pv=fun i H'=>Kp [] H H'∧H' D=some (.lst (lV (x.cps.toList.take i))):=⟨_,rfl⟩
  refine Zjg Pv ?_ ?_ ?_
  ·rw [hPv]
   exact ⟨Kp.new hD,Ze⟩
  ·intro i c H2 hi hw
   rw [hPv] at hw
   obtain ⟨k,hD2⟩:=hw
   refine ⟨rfl,?_⟩
   simp only [tYes]
   walk_at "rd"
   refine ⟨_,rfl,_,rfl,rfl,_,hD2,?_,?_⟩
   ·unfold lV;rw [List.length_map,List.length_take,Array.length_toList]
    exact Nat.lt_of_le_of_lt (Nat.le_trans (Nat.min_le_right _ _) hx) (by decide)
   ·rw [hPv]
    refine ⟨k.put2 (.inr hD),?_⟩
    rw [Ze,Z3 (x:=c) (by rw [Array.getElem?_toList];exact hi)]
    unfold lV
    rw [List.map_append];rfl
  ·intro H2 hw
   rw [hPv] at hw
   obtain ⟨k,hD2⟩:=hw
   rw [List.take_of_length_le (by simp)] at hD2
   exact q H2 D hD k hD2
theorem ZhU {l:List Nat}{i:Nat}{x:V} (hi:(lV l)[i]?=some x):∃ n:Nat,l[i]?=some n∧V.int (n:Int)=x:=by
 unfold lV at hi
 rw [List.getElem?_map] at hi
 cases h:l[i]? with
 | none=>rw [h] at hi;cases hi
 | some n=>rw [h] at hi;exact ⟨n,rfl,by simpa using hi⟩
end
section
variable {P:Program}{w:World}{K:PySem.W.Frag}{mg:Str→Option Value}{base:Heap}{a:Ad}
def Vu (K:PySem.W.Frag) (a:Ad):Sp:=fun vs H Q _=>∃ (t r:Nat) (b:Bool),vs=[.int (t:Int),.int (r:Int),.bl b]∧r≤1000000∧Q (.int (VhPage.lineCost r t b:Nat)) H
abbrev XB:Stmt:=top 12
theorem J5:Zp ["taken","room","is_last"] ["taken","room","is_last"] (Zc XB):=⟨rfl,rfl,rfl,by decide +kernel,rfl,by decide +kernel,by decide +kernel⟩
theorem Zda {f:Addr}{fd:FuncData} (F:Fun K "line_cost" "line_cost" XB f fd) (T:Txt K mg a):FnOk P w K mg base CX0 1 f fd ["taken","room","is_last"] (Vu K a):=by
 refine F.ok J5 (fun vs H Q E h=>?_) (fun cdv A outer s H vs Q E hr h=>?_)
 ·obtain ⟨t,r,b,rfl,hr0,q⟩:=h
  rfl
 ·obtain ⟨t,r,b,rfl,hr0,q⟩:=h
  have nd:=J5.nd
  refine ⟨_,(Zb (Ye (PW.pt (Zbj (V7 (pv 2) (fun _=>rfl)) (Ja (Zq Jf (pv 0) (pv 1) (Zu _))))) (Zf (Zs Zh)) Zx) (Zf (Zs (ZG ZhR (ZG Yj (pv 1) (pv 0)) Zh)))),?_⟩
  unfold VhPage.lineCost at q
  walk_at "rd"
  refine ⟨b,rfl,?_⟩
  cases b
  ·rw [if_neg (by decide)]
   split
   ·rename_i h
    rw [if_pos (.inr (by lia))] at q
    exact q
   ·rename_i h
    rw [if_neg (by simp;lia)] at q
    refine ⟨⟨by decide,by decide,by lia⟩,?_⟩
    have e:((r:Int)-(t:Int)) ^ Int.toNat 2=(((r-t) ^ 2:Nat):Int):=by
     have e1:((r:Int)-(t:Int))=((r-t:Nat):Int):=by lia
     rw [e1,Int.natCast_pow];rfl
    rw [e];exact q
  ·rw [if_pos rfl]
   rw [if_pos (.inl rfl)] at q
   exact q
def Zhz (r:Nat) (xs:List Nat) (e:Nat):Nat:=if e<xs.length then e+(bst r xs (tab r xs) e).2 else xs.length
def ZfM (r:Nat) (xs:List Nat) (e:Nat):List V:=[.int (Vn r xs e:Nat),.int (Zhz r xs e:Nat),.int (Vb r xs e:Nat)]
def ZhI (H:Hp) (r:Nat) (xs:List Nat) (e:Nat) (v:V):Prop:=∃ t,v=.ref t∧H t=some (.tup (ZfM r xs e))
def XM (K:PySem.W.Frag) (a:Ad):Sp:=fun vs H Q _=>∃ (tk tl:Addr) (us:List V) (xs:List Nat) (start room r:Nat),vs=[.ref tk,.ref tl,.int (start:Int),.int (room:Int)]∧H tk=some (.lst (lV xs))∧H tl=some (.lst us)∧start<xs.length∧room≤1000000 ∧
 (∀ e,start<e→e≤xs.length→∃ v,us[e]?=some v∧ZhI H r xs e v) ∧
 ∀ p,H p=none→Q (.ref p) (upd H p (.tup [.int ((bst room xs (tab r xs) start).1:Nat),.int (start+(bst room xs (tab r xs) start).2:Nat),.int (1+Vb r xs (start+(bst room xs (tab r xs) start).2):Nat)]))
abbrev XE:Stmt:=top 13
theorem J8:Zp ["takes","tails","start","room","end","taken","best_end","least","total"] ["takes","tails","start","room"] (Zc XE):=⟨rfl,rfl,rfl,by decide +kernel,rfl,by decide +kernel,by decide +kernel⟩
theorem Zdd {f:Addr}{fd:FuncData} (F:Fun K "best_from" "best_from" XE f fd) (T:Txt K mg a) (zzc4:FnC P w K mg base CX0 1 "line_cost" ["taken","room","is_last"] (Vu K a)):FnOk P w K mg base CX0 2 f fd ["takes","tails","start","room"] (XM K a):=by
 refine F.ok J8 (fun vs H Q E h=>?_) (fun cdv A outer s H vs Q E hr h=>?_)
 ·obtain ⟨tk,tl,us,xs,start,room,r,rfl,htk,htl,hs,hroom,hT,q⟩:=h
  rfl
 ·obtain ⟨tk,tl,us,xs,start,room,r,rfl,htk,htl,hs,hroom,hT,q⟩:=h
  have nd:=J8.nd
  refine ⟨_,(Zb (Zo (i:=4) nd rfl (Or.inl rfl) (ZG Ya (pv 2) Zh)) (Zb (Zo (i:=5) nd rfl (Or.inl rfl) (ZK ZC (pv 0) (pv 2) (fun _ _=>rfl))) (Zb (Zo (i:=6) nd rfl (Or.inl rfl) (pv 4)) (Zb (Zo (i:=7) nd rfl (Or.inl rfl) (ZG Ya (Zl zzc4 hr Zz (Za (pv 5) (Za (pv 3) (Za (Wk Va (pv 4) (Zr Zj rfl T.len PySem.boot_len (Za (pv 0) Zd)) (Zu _)) Zd)))) (ZK YF (ZK ZC (pv 1) (pv 4) (fun _ _=>rfl)) Zh (fun _ _=>rfl)))) (Zb (Yu PassesOwn.never (Zq Wm (pv 4) (Zr Zj rfl T.len PySem.boot_len (Za (pv 0) Zd)) (Zu _)) (Zb (Ur (i:=5) nd rfl (Or.inl rfl) (ZG Ya Zh (ZK ZC (pv 0) (pv 4) (fun _ _=>rfl))) Jq) (Zb (Ur (i:=4) nd rfl (Or.inl rfl) Zh Jq) (Zb (Ye (Zq Jf (pv 5) (pv 3) (Zu _)) (Zf ZeE) Zx) (Zb (Zo (i:=8) nd rfl (Or.inl rfl) (ZG Ya (Zl zzc4 hr Zz (Za (pv 5) (Za (pv 3) (Za (Wk Va (pv 4) (Zr Zj rfl T.len PySem.boot_len (Za (pv 0) Zd)) (Zu _)) Zd)))) (ZK YF (ZK ZC (pv 1) (pv 4) (fun _ _=>rfl)) Zh (fun _ _=>rfl)))) (Zf (Ye (Zq WI (pv 8) (pv 7) (Zu _)) (Zb (Zo (i:=7) nd rfl (Or.inl rfl) (pv 8)) (Zf (Zo (i:=6) nd rfl (Or.inl rfl) (pv 4)))) Zx))))))) (Zf (Zs (Wj (Za (pv 7) (Za (pv 6) (Za (ZG Ya Zh (ZK YF (ZK ZC (pv 1) (pv 6) (fun _ _=>rfl)) Zh (fun _ _=>rfl))) Zd))))))))))),?_⟩
  obtain ⟨x,hx⟩:∃ x,xs[start]?=some x:=⟨xs[start],List.getElem?_eq_getElem hs⟩
  have hlv:∀ {e y:Nat},xs[e]?=some y→(lV xs)[e]?=some (V.int (y:Int)):=fun h=>by unfold lV;rw [List.getElem?_map,h];rfl
  walk_at "rd"
  refine Y7 htk (hlv hx) ⟨_,.inl (.inl (.inl htk)),x,room,decide (start+1=xs.length),?_,hroom,?_⟩
  ·rw [Z6]
   have:decide ((start:Int)+1=(xs.length:Int))=decide (start+1=xs.length):=decide_eq_decide.mpr (by lia)
   rw [this]
  refine Zm fun G0 hG0=>?_
  obtain ⟨v1,hv1,t1,rfl,ht1⟩:=hT (start+1) (by lia) (by lia)
  refine hG0 ?_
  clear hG0
  have es:(start:Int)+1=((start+1:Nat):Int):=rfl
  rw [es]
  refine Y7 htl hv1 (Xt 0 ht1 rfl ⟨_,rfl,_,rfl,?_⟩)
  obtain ⟨W,hW⟩:∃ W:WT,W=fun m σ H'=>H'=H∧∃ (e taken be least:Nat) (o:Option V),σ=[some (.ref tk),some (.ref tl),some (.int (start:Int)),some (.int (room:Int)),some (.int (e:Int)),some (.int (taken:Int)),some (.int ((start+be:Nat):Int)),some (.int (least:Int)),o]∧m=xs.length-e∧start<e∧e≤xs.length∧1≤be∧start+be≤xs.length ∧
   bst room xs (tab r xs) start=VhPage.bestLine room (e-start) taken (xs.drop e) ((tab r xs).drop e) (least,be):=⟨_,rfl⟩
  refine ⟨W,⟨_,by rw [hW];exact ⟨rfl,start+1,x,1,VhPage.lineCost room x (decide (start+1=xs.length))+Vn r xs (start+1),none,rfl,rfl,by lia,by lia,by lia,by lia,by rw [Zfz room xs r start hx,Nat.add_sub_cancel_left]⟩⟩,fun m σ H2 hw=>?_⟩
  rw [hW] at hw
  refine Zm fun G0 hG0=>?_
  obtain ⟨rfl,e,taken,be,least,o,rfl,rfl,he1,he2,hb1,hb2,hB⟩:=hw
  refine hG0 ?_
  clear hG0
  have fin:∀ b:Nat×Nat,bst room xs (tab r xs) start=b→b.2=be→b.1=least→rIxL K (V.ref tl) (V.int ((start+be:Nat):Int)) H2 fun x H1=>rIxT K x (V.int 2) H1 fun y H2=>∃ j,y=V.int j∧(3≤sizeLine∧∀ p,H2 p=none→Q (V.ref p) (upd H2 p (HO.tup [V.int (least:Int),V.int ((start+be:Nat):Int),V.int (1+j)]))):=fun b hb h2 h1=>by
   refine Zm fun G0 hG0=>?_
   obtain ⟨v2,hv2,t2,rfl,ht2⟩:=hT (start+be) (by lia) (by lia)
   refine hG0 ?_
   clear hG0
   refine Y7 htl hv2 (Xt 2 ht2 rfl ⟨_,rfl,by decide,fun p hp=>?_⟩)
   have:=q p hp
   rw [hb,h2,h1] at this
   exact this
  walk_at "rd"
  refine ⟨_,.inl (.inl (.inl htk)),?_⟩
  rw [Z6]
  split
  ·rename_i h
   have he:e<xs.length:=by lia
   obtain ⟨y,hy⟩:∃ y,xs[e]?=some y:=⟨xs[e],List.getElem?_eq_getElem he⟩
   rw [ZgK room xs r start e taken _ he1 hy] at hB
   refine ⟨fun σ' H'=>∃ m',m' < xs.length-e∧W m' σ' H',fun _ _ z=>z,?_⟩
   refine Y7 htk (hlv hy) ⟨_,rfl,?_⟩
   split
   ·rename_i h1
    rw [if_pos (by lia)] at hB
    simp only [ZfP]
    walk_at "rd"
    exact fin _ hB rfl rfl
   ·rename_i h1
    rw [if_neg (by lia)] at hB
    refine ⟨_,.inl (.inl (.inl htk)),taken+1+y,room,decide (e+1=xs.length),?_,hroom,?_⟩
    ·rw [Z6]
     have:decide ((e:Int)+1=(xs.length:Int))=decide (e+1=xs.length):=decide_eq_decide.mpr (by lia)
     rw [this]
     have:(taken:Int)+(1+(y:Int))=((taken+1+y:Nat):Int):=by lia
     rw [this]
    refine Zm fun G0 hG0=>?_
    obtain ⟨v2,hv2,t2,rfl,ht2⟩:=hT (e+1) (by lia) (by lia)
    refine hG0 ?_
    clear hG0
    have ee:(e:Int)+1=((e+1:Nat):Int):=rfl
    have et:(taken:Int)+(1+(y:Int))=((taken+1+y:Nat):Int):=by lia
    rw [ee,et]
    refine Y7 htl hv2 (Xt 0 ht2 rfl ⟨_,rfl,_,rfl,?_⟩)
    have ec:((VhPage.lineCost room (taken+1+y) (decide (e+1=xs.length)):Nat):Int)+((Vn r xs (e+1):Nat):Int)=((VhPage.lineCost room (taken+1+y) (decide (e+1=xs.length))+Vn r xs (e+1):Nat):Int):=by lia
    rw [ec]
    generalize VhPage.lineCost room (taken+1+y) (decide (e+1=xs.length))+Vn r xs (e+1)=tot at *
    split
    ·rename_i h2
     rw [if_pos (by simp only [];lia)] at hB
     refine ⟨xs.length-(e+1),by lia,?_⟩
     rw [hW]
     have eb:start+(e+1-start)=e+1:=by lia
     exact ⟨rfl,e+1,taken+1+y,e+1-start,tot,_,by rw [eb],rfl,by lia,by lia,by lia,by lia,hB⟩
    ·rename_i h2
     rw [if_neg (by simp only [];lia)] at hB
     refine ⟨xs.length-(e+1),by lia,?_⟩
     rw [hW]
     exact ⟨rfl,e+1,taken+1+y,be,least,_,rfl,rfl,by lia,by lia,by lia,by lia,hB⟩
  ·rename_i h
   have he:e=xs.length:=by lia
   subst he
   rw [List.drop_eq_nil_of_le (Nat.le_refl _)] at hB
   exact fin _ hB rfl rfl
end
section
variable {P:Program}{w:World}{K:PySem.W.Frag}{mg:Str→Option Value}{base:Heap}{a:Ad}
theorem Zbt {X:Cx}{K:PySem.W.Frag} (h:X.K=K):ZdO X (.builtin "len") (fun xs H Q=>∃ p ys,xs=[.ref p]∧(SqL K H p ys∨SqT K H p ys)∧Q (.int ys.length) H):=by subst h;exact Zj
theorem Zdp {X:Cx}{K:PySem.W.Frag} (h:X.K=K):IxR X (rIxL K):=by subst h;exact ZC
def UU (H:Hp) (tl:Addr) (r:Nat) (xs:List Nat):Prop:=∃ us,H tl=some (.lst us)∧us.length=xs.length+1∧∀ e,1≤e→e≤xs.length→∃ v,us[e]?=some v∧ZhI H r xs e v
def WZ (K:PySem.W.Frag) (a:Ad):Sp:=fun vs H Q _=>∃ (tk:Addr) (xs:List Nat) (room:Nat),vs=[.ref tk,.int (room:Int)]∧H tk=some (.lst (lV xs))∧0<xs.length∧xs.length≤1048576∧room≤1000000 ∧
 ∀ H' p,H p=none→Kp [] H H'→UU H' p room xs→Q (.ref p) H'
abbrev Xg:Stmt:=top 14
theorem ZaJ:Zp ["takes","room","tails","k","start"] ["takes","room"] (Zc Xg):=⟨rfl,rfl,rfl,by decide +kernel,rfl,by decide +kernel,by decide +kernel⟩
theorem ZcB:JD ["takes","room","tails","k","start"] (Zc Xg) (lcSc (ZaG (stI (Zk Xg) 0))) [("k",3)]:=⟨rfl,by decide +kernel,by decide +kernel,by decide +kernel,by decide +kernel⟩
theorem Zd3 {f:Addr}{fd:FuncData} (F:Fun K "tails_of" "tails_of" Xg f fd) (T:Txt K mg a) (zzbd:FnC P w K mg base CX0 2 "best_from" ["takes","tails","start","room"] (XM K a)):FnOk P w K mg base CX0 3 f fd ["takes","room"] (WZ K a):=by
 refine F.ok ZaJ (fun vs H Q E h=>?_) (fun cdv A outer s H vs Q E hr h=>?_)
 ·obtain ⟨tk,xs,room,rfl,htk,hn0,hn,hroom,q⟩:=h
  rfl
 ·obtain ⟨tk,xs,room,rfl,htk,hn0,hn,hroom,q⟩:=h
  have nd:=ZaJ.nd
  refine ⟨_,(Zb (Jb (i:=2) rfl nd rfl rfl (ZaE rfl rfl rfl rfl) (ZaT rfl T.range (Za (ZG Ya (Zr Zj rfl T.len PySem.boot_len (Za (pv 0) Zd)) Zh) Zd)) ZcB (fun _ _ _ _ _=>(Yl (i:=3) nd rfl (Or.inl rfl))) (fun _ _ _ _ _=>W6) (fun _ _ _ _ _=>(Wj (Za Zh (Za (Zr (Zbt (K:=K) rfl) rfl T.len PySem.boot_len (Za (pv 0) Zd)) (Za Zh Zd)))))) (Zb (VF PassesOwn.never rfl (ZaS rfl T.range (Za (ZG Yj (Zr Zj rfl T.len PySem.boot_len (Za (pv 0) Zd)) Zh) (Za Zh (Za (Zc5 J1 Zh) Zd)))) (Yl (i:=4) nd rfl (Or.inl rfl)) (Zf (ZhO (Zl zzbd hr Zz (Za (pv 0) (Za (pv 2) (Za (pv 4) (Za (pv 1) Zd))))) (ZhP (pv 2) (pv 4) Zez)))) (Zf (Zs (pv 2))))),?_⟩
  have hlen:(lV xs).length=xs.length:=Z6 xs
  refine ⟨_,rfl,tk,_,rfl,.inl (.inl (.inl htk)),_,_,rfl,rfl,_,rfl,by rw [hlen];lia,by rw [hlen];lia,fun D hD=>?_⟩
  have nD:tk≠D:=Zg htk hD
  have ej:Int.toNat (((lV xs).length:Nat)+1:Int)=xs.length+1:=by rw [hlen];lia
  rw [ej]
  have t0:([.int (0:Int),.int (xs.length:Int),.int (0:Int)]:List V)=ZfM room xs xs.length:=by
   unfold ZfM Vn Zhz Vb
   simp only [Nat.lt_irrefl,if_false];rfl
  obtain ⟨Pv,hPv⟩:∃ Pv:Nat→Hp→Prop,Pv=fun i H'=>Kp [] H H'∧∃ us,us.length=i∧H' D=some (.lst us)∧∀ v∈us,ZhI H' room xs xs.length v:=⟨_,rfl⟩
  refine Jo Pv ?_ ?_ ?_
  ·rw [hPv]
   exact ⟨Kp.new hD,[],rfl,Ze,fun v hv=>by simp at hv⟩
  ·intro i H2 hi hw
   rw [hPv] at hw
   refine Zm fun G0 hG0=>?_
   obtain ⟨k,us,hul,hD2,hus⟩:=hw
   refine hG0 ?_
   clear hG0
   refine ⟨rfl,?_⟩
   simp only [tYes]
   walk_at "rd"
   refine ⟨_,rfl,_,rfl,_,.inl (.inl (.inl (k _ _ htk (by simp)))),by decide,fun t ht=>?_⟩
   have nDt:D≠t:=Zg hD2 ht
   refine ⟨us,by rw [Zi nDt];exact hD2,by rw [hul];exact Nat.lt_of_lt_of_le hi (Nat.le_trans (Nat.succ_le_succ hn) (by decide)),?_⟩
   rw [hPv]
   have kk:=k.trans (Kp.new (o:=HO.tup [V.int 0,V.int ↑(lV xs).length,V.int 0]) ht)
   refine ⟨kk.put2 (.inr hD),us++[.ref t],by simp [hul],Ze,fun v hv=>?_⟩
   rcases List.mem_append.mp hv with h | h
   ·refine Zm fun G0 hG0=>?_
    obtain ⟨t',e,h'⟩:=hus v h
    refine hG0 ?_
    clear hG0
    exact ⟨t',e,by rw [Zi (fun z=>by rw [z,hD2] at h';cases h'),Zi (Zg h' ht)];exact h'⟩
   ·have e:v=.ref t:=by simpa using h
    exact ⟨t,e,by rw [Zi (Ne.symm nDt),Ze,hlen,t0]⟩
  ·intro H2 hw
   rw [hPv] at hw
   refine Zm fun G0 hG0=>?_
   obtain ⟨k,us,hul,hD2,hus⟩:=hw
   refine hG0 ?_
   clear hG0
   clear hPv Pv
   have htk2:=k _ _ htk (by simp)
   walk_at "rd"
   obtain ⟨Pv,hPv⟩:∃ Pv:WT,Pv=fun i σ H'=>Kp [] H H'∧∃ (o:Option V) (us:List V),σ=[some (.ref tk),some (.int (room:Int)),some (.ref D),none,o]∧us.length=xs.length+1∧H' D=some (.lst us)∧∀ e,1≤e→xs.length≤e+i→e≤xs.length→∃ v,us[e]?=some v∧ZhI H' room xs e v:=⟨_,rfl⟩
   refine ⟨_,rfl,tk,rfl,_,.inl (.inl (.inl htk2)),_,_,rfl,rfl,_,rfl,_,_,_,_,rfl,RgC.neg (by lia) (by lia) (by lia) (by lia),JW Pv ?_ ?_ ?_⟩
   ·rw [hPv]
    refine ⟨k,none,us,rfl,hul,hD2,fun e h1 h2 h3=>?_⟩
    have e1:e=xs.length:=by lia
    subst e1
    exact ⟨us[xs.length],List.getElem?_eq_getElem (by lia),hus _ (List.getElem_mem _)⟩
   ·intro i σ H3 hi hw
    rw [hlen] at hi
    rw [hPv] at hw
    refine Zm fun G0 hG0=>?_
    obtain ⟨k3,o,us3,rfl,hul3,hD3,hT3⟩:=hw
    refine hG0 ?_
    clear hG0
    have hst:((lV xs).length:Int)-1+(i:Int) * -1=((xs.length-1-i:Nat):Int):=by rw [hlen];lia
    rw [hst]
    obtain ⟨st,hst'⟩:∃ st,st=xs.length-1-i:=⟨_,rfl⟩
    rw [← hst']
    walk_at "rd"
    refine ⟨tk,D,us3,xs,st,room,room,rfl,k3 _ _ htk (by simp),hD3,by lia,hroom,fun e h1 h2=>hT3 e (by lia) (by lia) h2,fun p hp=>?_⟩
    have nDp:D≠p:=Zg hD3 hp
    refine ⟨_,rfl,_,rfl,D,us3,(st:Int),st,rfl,rfl,by rw [Zi nDp];exact hD3,?_,?_⟩
    ·unfold ixN
     rw [if_pos (by lia),if_pos (by lia)];simp
    ·have c1:=YT (room:=room) (T:=tab room xs) (i:=st) (xs:=xs) (by lia)
     have ev:([.int ((bst room xs (tab room xs) st).1:Nat),.int (st+(bst room xs (tab room xs) st).2:Nat),.int (1+Vb room xs (st+(bst room xs (tab room xs) st).2):Nat)]:List V)=ZfM room xs st:=by
      unfold ZfM Vn Zhz
      rw [if_pos (by lia),if_pos (by lia),JT room xs (e:=st) (by lia),Zcz room xs (i:=st) (by lia) (by lia),JT room xs (by lia),List.length_cons,Nat.add_comm 1]
     rw [ev,hPv]
     refine ⟨(k3.trans (Kp.new hp)).put2 (.inr hD),_,us3.set st (.ref p),rfl,by rw [List.length_set];exact hul3,Ze,fun e h1 h2 h3=>?_⟩
     by_cases z:e=st
     ·subst z
      exact ⟨.ref p,by rw [List.getElem?_set_self (by lia)],p,rfl,by rw [Zi (Ne.symm nDp),Ze]⟩
     ·refine Zm fun G0 hG0=>?_
      obtain ⟨v,hv,t,rfl,ht⟩:=hT3 e h1 (by lia) h3
      refine hG0 ?_
      clear hG0
      exact ⟨_,by rw [List.getElem?_set_ne (Ne.symm z)];exact hv,t,rfl,by rw [Zi (fun z=>by rw [z,hD3] at ht;cases ht),Zi (Zg ht hp)];exact ht⟩
   ·intro σ H3 hw
    rw [hPv] at hw
    refine Zm fun G0 hG0=>?_
    obtain ⟨k3,o,us3,rfl,hul3,hD3,hT3⟩:=hw
    refine hG0 ?_
    clear hG0
    walk_at "rd"
    exact q H3 D hD k3 ⟨us3,hD3,hul3,fun e h1 h2=>hT3 e h1 (by rw [hlen];lia) h2⟩
def sums:Nat→List Nat→List Nat
 | _,[]=>[]
 | a,c::cs=>(a+c)::sums (a+c) cs
theorem UW:∀ (a:Nat) (l:List Nat),(sums a l).length=l.length
 | _,[]=>rfl
 | a,c::l=>by rw [sums,List.length_cons,List.length_cons,UW]
theorem ZhE (r:Nat) (xs:List Nat) (i:Nat):(cnts r xs i).length≤xs.length:=by
 have h:∀ (f:Nat) (t:List (Nat×Nat)),(VhPage.byTable f t).length≤f:=fun f=>by
  induction f with
  | zero=>intro t;exact Nat.le_refl _
  | succ f ih =>
   intro t
   cases t with
   | nil=>exact Nat.zero_le _
   | cons x t=>exact Nat.succ_le_succ (ih _)
 have:=h (tab r xs).length ((tab r xs).drop (i-1))
 unfold cnts
 refine Nat.le_trans this ?_
 unfold tab;rw [Wb,List.length_drop];lia
def JK (K:PySem.W.Frag) (a:Ad):Sp:=fun vs H Q _=>∃ (tk tl:Addr) (xs:List Nat) (fr r:Nat),vs=[.ref tk,.ref tl,.int (fr:Int)]∧H tk=some (.lst (lV xs))∧UU H tl r xs∧0<xs.length∧xs.length≤1048576∧fr≤1000000 ∧
 ∀ H' p,H p=none→Kp [] H H'→H' p=some (.lst (lV (sums 0 (VhPage.broken fr r xs))))→Q (.ref p) H'
abbrev WO:Stmt:=top 15
theorem ZbG:Zp ["takes","tails","first_room","end","ends"] ["takes","tails","first_room"] (Zc WO):=⟨rfl,rfl,rfl,by decide +kernel,rfl,by decide +kernel,by decide +kernel⟩
theorem Zfk {f:Addr}{fd:FuncData} (F:Fun K "ends_of" "ends_of" WO f fd) (T:Txt K mg a) (zzbd:FnC P w K mg base CX0 2 "best_from" ["takes","tails","start","room"] (XM K a)):FnOk P w K mg base CX0 3 f fd ["takes","tails","first_room"] (JK K a):=by
 refine F.ok ZbG (fun vs H Q E h=>?_) (fun cdv A outer s H vs Q E hr h=>?_)
 ·obtain ⟨tk,tl,xs,fr,r,rfl,htk,⟨us,htl,hul,hT⟩,hn0,hn,hfr,q⟩:=h
  rfl
 ·obtain ⟨tk,tl,xs,fr,r,rfl,htk,⟨us,htl,hul,hT⟩,hn0,hn,hfr,q⟩:=h
  have nd:=ZbG.nd
  refine ⟨_,(Zb (Zo (i:=3) nd rfl (Or.inl rfl) (ZK YF (Zl zzbd hr Zz (Za (pv 0) (Za (pv 1) (Za Zh (Za (pv 2) Zd))))) Zh (fun _ _=>rfl))) (Zb (Zo (i:=4) nd rfl (Or.inl rfl) (YR (Za (pv 3) Zd))) (Zb (Yu PassesOwn.never (Zq Wm (pv 3) (Zr Zj rfl T.len PySem.boot_len (Za (pv 0) Zd)) (Zu _)) (Zb (Zo (i:=3) nd rfl (Or.inl rfl) (ZK YF (ZK ZC (pv 1) (pv 3) (fun _ _=>rfl)) Zh (fun _ _=>rfl))) (Zf (Zy (X6 PySem.F.plainAttrs_list PySem.F.slot_list_append PySem.F.type_list_append Yq (pv 4) (Za (pv 3) Zd)))))) (Zf (Zs (pv 4)))))),?_⟩
  have hlen:(lV xs).length=xs.length:=Z6 xs
  have c1:=YT (room:=fr) (T:=tab r xs) (i:=0) hn0
  rw [Jz fr r xs hn0] at q
  rw [Nat.zero_add] at c1
  walk_at "rd"
  refine ⟨tk,tl,us,xs,0,fr,r,rfl,htk,htl,hn0,hfr,fun e h1 h2=>hT e h1 h2,fun p hp=>?_⟩
  rw [Nat.zero_add]
  generalize (bst fr xs (tab r xs) 0).2=e0 at *
  refine Xt 1 Ze rfl ?_
  walk_at "rd"
  refine ⟨by decide,fun D hD=>?_⟩
  have k1:Kp [] H (upd H p (HO.tup [V.int ((bst fr xs (tab r xs) 0).1:Nat),V.int (e0:Nat),V.int ((1+Vb r xs e0:Nat):Int)])):=Kp.new hp
  have hD0:H D=none:=k1.free (by simp) hD
  have k2:=k1.trans (Kp.new (o:=HO.lst [V.int (e0:Int)]) hD)
  generalize upd H p (HO.tup [V.int ((bst fr xs (tab r xs) 0).1:Nat),V.int (e0:Nat),V.int ((1+Vb r xs e0:Nat):Int)])=H1 at *
  obtain ⟨W,hW⟩:∃ W:WT,W=fun m σ H'=>Kp [] H H'∧∃ (e:Nat) (l:List Nat),σ=[some (.ref tk),some (.ref tl),some (.int (fr:Int)),some (.int (e:Int)),some (.ref D)]∧m=xs.length-e∧1≤e∧e≤xs.length∧H' D=some (.lst (lV l))∧l++sums e (cnts r xs e)=sums 0 (e0::cnts r xs e0):=⟨_,rfl⟩
  refine ⟨W,⟨_,by rw [hW];exact ⟨k2,e0,[e0],rfl,rfl,c1.1,c1.2,Ze,by rw [sums,Nat.zero_add];rfl⟩⟩,fun m σ H2 hw=>?_⟩
  rw [hW] at hw
  refine Zm fun G0 hG0=>?_
  obtain ⟨k,e,l,rfl,rfl,he1,he2,hD2,hl⟩:=hw
  refine hG0 ?_
  clear hG0
  walk_at "rd"
  refine ⟨_,.inl (.inl (.inl (k _ _ htk (by simp)))),?_⟩
  rw [hlen]
  split
  ·rename_i h
   have he:e<xs.length:=by lia
   refine ⟨fun σ' H'=>∃ m',m' < xs.length-e∧W m' σ' H',fun _ _ z=>z,?_⟩
   refine Zm fun G0 hG0=>?_
   obtain ⟨v,hv,t,rfl,ht⟩:=hT e he1 he2
   refine hG0 ?_
   clear hG0
   refine Y7 (k _ _ htl (by simp)) hv (Xt 1 (k _ _ ht (by simp)) rfl ?_)
   have ee:Zhz r xs e=e+(bst r xs (tab r xs) e).2:=if_pos he
   have c2:=YT (room:=r) (T:=tab r xs) (i:=e) he
   rw [Zcz r xs he1 he,sums] at hl
   rw [ee]
   have c3:e<e+(bst r xs (tab r xs) e).2:=by lia
   generalize e+(bst r xs (tab r xs) e).2=e' at *
   have hll:l.length≤xs.length:=by
    have:=congrArg List.length hl
    rw [List.length_append,List.length_cons,UW,sums,List.length_cons,UW] at this
    have:=ZhE r xs e0
    lia
   walk_at "rd"
   refine ⟨.inl ⟨rfl,_,.inl (.inl hD2)⟩,_,hD2,by rw [Z6];exact Nat.lt_of_le_of_lt (Nat.le_trans hll hn) (by decide),xs.length-e',by lia,?_⟩
   rw [hW]
   refine ⟨k.put2 (.inr hD0),e',l++[e'],rfl,rfl,by lia,by lia,?_,by rw [List.append_assoc];exact hl⟩
   rw [Ze]
   unfold lV
   rw [List.map_append];rfl
  ·rename_i h
   rw [Zau r xs he1 (by lia),sums,List.append_nil] at hl
   rw [hl] at hD2
   exact q H2 D hD0 k hD2
end
section
variable {P:Program}{w:World}{K:PySem.W.Frag}{mg:Str→Option Value}{base:Heap}{a:Ad}
theorem ZjS {X:Cx}{K:PySem.W.Frag} (h:X.K=K) (hu:X.A.units+64<cLine):OpR X (compareOp .Eq) (rEqD K):=by subst h;exact Zjc hu
def VU (x:List Nat):List PyData:=x.map fun (n:Nat)=>PyData.int (n:Int)
theorem Zgy (H:Hp):∀ x:List Nat,Zes K H (lV x) (VU x)
 | []=>.nil
 | n::x=>.cons (.int _) (Zgy H x)
theorem ZeW:∀ x:List Nat,PyData.canLayAll0 (VU x)=true
 | []=>rfl
 | n::x=>by
  show (PyData.canLay0 (.int n) && PyData.canLayAll0 (VU x))=true
  rw [ZeW x];rfl
theorem ZbX:∀ x:List Nat,PyData.depthAll (VU x)=0
 | []=>rfl
 | n::x=>by
  show max (PyData.depth (.int n)) (PyData.depthAll (VU x))=0
  rw [ZbX x];rfl
theorem Zba (x:List Nat):SeqAt.shaped (.list (VU x))=true:=by
 unfold SeqAt.shaped
 have h1:PyData.canLay0 (.list (VU x))=true:=ZeW x
 have h2:PyData.depth (.list (VU x))=1:=by
  show PyData.depthAll (VU x)+1=1
  rw [ZbX]
 rw [h1,h2];rfl
theorem ZeX:∀ x y:List Nat,PyData.eqvAll (VU x) (VU y)=(x==y)
 | [],[]=>rfl
 | [],_::_=>rfl
 | _::_,[]=>rfl
 | m::x,n::y=>by
  show (PyData.eqv (.int m) (.int n) && PyData.eqvAll (VU x) (VU y))=_
  rw [ZeX x y]
  show ((((m:Nat):Int)==((n:Nat):Int)) && (x==y))=(m==n && (x==y))
  congr 1
  by_cases z:m=n
  ·subst z;simp
  ·rw [beq_eq_false_iff_ne.mpr z,beq_eq_false_iff_ne];lia
theorem ZjE {H:Hp}{p q:Addr}{x y:List Nat}{Q:VK} (h1:H p=some (.lst (lV x))) (h2:H q=some (.lst (lV y))) (k:Q (.bl (x==y)) H):rEqD K (.ref p) (.ref q) H Q :=
 ⟨.list (VU x),.list (VU y),.lst (.inl (.inl h1)) (Zgy H x),.lst (.inl (.inl h2)) (Zgy H y),Zba x,Zba y,by
  have e:PyData.eqv (.list (VU x)) (.list (VU y))=(x==y):=ZeX x y
  rw [e];exact k⟩
theorem Za1 {n:Nat} (h:n<2 ^ 64):((n:Int).natAbs).log2<1920:=by
 rw [Int.natAbs_natCast]
 by_cases z:n=0
 ·subst z;decide
 ·exact Nat.lt_trans ((Nat.log2_lt z).mpr h) (by decide)
theorem Vq (x y:Str):(x++y).cps.toList=x.cps.toList++y.cps.toList:=by
 show (x.cps++y.cps).toList=_
 simp
theorem Zb8 (x:Str):x.length=x.cps.toList.length:=by
 show x.cps.size=_
 simp
theorem Zd9 (n:Nat):(Str.ofString (toString (n:Int))).length=(VhPage.num10 n).length:=by rw [Zb8,Jk]
theorem ZiJ (l:List Nat):(lV l).all VT=true:=by
 unfold lV;rw [List.all_map,List.all_eq_true];intro _ _;rfl
def YK (H:Hp) (wl:Addr) (wds:List (List Nat)):Prop:=∃ ws,H wl=some (.lst ws)∧Paired (LI H) wds ws
theorem YK.get {H:Hp}{wl:Addr}{wds:List (List Nat)} (h:YK H wl wds) {k:Nat} (hk:k<wds.length):∃ ws l,H wl=some (.lst ws)∧ws[k]?=some (.ref l)∧H l=some (.lst (lV (wds.getD k []))):=by
 obtain ⟨ws,h1,h2⟩:=h
 obtain ⟨y,hy,l,rfl,hl⟩:=Paired.get2 h2 (List.getElem?_eq_getElem hk)
 exact ⟨ws,l,h1,hy,by rw [List.getD_eq_getElem?_getD,List.getElem?_eq_getElem hk];exact hl⟩
theorem YK.keep {H H':Hp}{wl:Addr}{wds:List (List Nat)} (h:YK H wl wds) (k:Kp [] H H'):YK H' wl wds:=by
 obtain ⟨ws,h1,h2⟩:=h
 exact ⟨ws,k _ _ h1 (by simp),Paired.mono (fun x v ⟨t,e,ht⟩=>⟨t,e,k _ _ ht (by simp)⟩) h2⟩
def Zc1 (wds:List (List Nat)) (lf le f:Nat):List Nat:=((List.range (le-lf)).map fun d=>lf+d).filter fun d=>wds.getD d []==wds.getD f []
def Vj (wds:List (List Nat)) (lf le f:Nat):List Nat:=if (Zc1 wds lf le f).length≤1 then [] else 94::VhPage.num10 ((Zc1 wds lf le f).findIdx (fun d=>d==f)+1)
def Y8 (K:PySem.W.Frag) (a:Ad):Sp:=fun vs H Q _=>∃ (wl:Addr) (wds:List (List Nat)) (lf le f:Nat),vs=[.ref wl,.int (lf:Int),.int (le:Int),.int (f:Int)]∧YK H wl wds∧lf≤f∧f<le∧le≤wds.length∧wds.length≤8192 ∧
 ∀ H' (x:Str),Kp [] H H'→x.cps.toList=Vj wds lf le f→Q (.str x) H'
abbrev ZJ:Stmt:=top 17
theorem Wf:Zp ["words","line_first","line_end","f","like","k"] ["words","line_first","line_end","f"] (Zc ZJ):=⟨rfl,rfl,rfl,by decide +kernel,rfl,by decide +kernel,by decide +kernel⟩
theorem VZ:JD ["words","line_first","line_end","f","like","k"] (Zc ZJ) (lcSc (ZaG (stI (Zk ZJ) 0))) [("k",5)]:=⟨rfl,by decide +kernel,by decide +kernel,by decide +kernel,by decide +kernel⟩
theorem UD {f:Addr}{fd:FuncData} (F:Fun K "place_among_like" "place_among_like" ZJ f fd) (T:Txt K mg a):FnOk P w K mg base CX0 1 f fd ["words","line_first","line_end","f"] (Y8 K a):=by
 refine F.ok Wf (fun vs H Q E h=>?_) (fun cdv A outer s H vs Q E hr h=>?_)
 ·obtain ⟨wl,wds,lf,le,f,rfl,hw,h1,h2,h3,h4,q⟩:=h
  rfl
 ·obtain ⟨wl,wds,lf,le,f,rfl,hw,h1,h2,h3,h4,q⟩:=h
  have nd:=Wf.nd
  refine ⟨_,(Zb (Jb (i:=4) rfl nd rfl rfl (ZaE rfl rfl rfl rfl) (Jd rfl T.range (Za (pv 1) (Za (pv 2) Zd))) VZ (fun _ _ _ _ _=>(Yl (i:=5) nd rfl (Or.inl rfl))) (fun _ _ _ _ _=>(Zid (Zq (ZjS (K:=K) rfl hr.units) (ZK (Zdp (K:=K) rfl) (pv 0) (pv 5) (fun _ _=>rfl)) (ZK (Zdp (K:=K) rfl) (pv 0) (pv 3) (fun _ _=>rfl)) (Zu _)))) (fun _ _ _ _ _=>(pv 5))) (Zb (Ye (Zq Va (Zr Zj rfl T.len PySem.boot_len (Za (pv 4) Zd)) Zh (Zu _)) (Zf (Zs ZL)) Zx) (Zf (Zs (ZG Zfi ZL (Zf3 ZdE rfl T.str boot_str (Za (ZG Ya (X6 PySem.F.plainAttrs_list PySem.F.slot_list_index PySem.F.type_list_index Zhj (pv 4) (Za (pv 3) Zd)) Zh) Zd))))))),?_⟩
  refine ⟨_,rfl,_,rfl,_,_,rfl,⟨by lia,by lia,by lia,by lia⟩,fun D hD=>?_⟩
  have en:Int.toNat ((le:Int)-(lf:Int))=le-lf:=by lia
  rw [en]
  obtain ⟨Pv,hPv⟩:∃ Pv:Nat→Hp→Prop,Pv=fun i H'=>Kp [] H H'∧H' D=some (.lst (lV (((List.range i).map fun d=>lf+d).filter fun d=>wds.getD d []==wds.getD f []))):=⟨_,rfl⟩
  refine Jo Pv ?_ ?_ ?_
  ·rw [hPv]
   exact ⟨Kp.new hD,Ze⟩
  ·intro i H2 hi hw2
   rw [hPv] at hw2
   obtain ⟨k,hD2⟩:=hw2
   refine ⟨rfl,?_⟩
   obtain ⟨ws,l1,g1,g2,g3⟩:=(hw.keep k).get (k:=lf+i) (by lia)
   obtain ⟨ws',l2,g1',g2',g3'⟩:=(hw.keep k).get (k:=f) (by lia)
   have ei:(lf:Int)+(i:Int)=((lf+i:Nat):Int):=by lia
   rw [ei]
   refine ⟨_,rfl,_,rfl,Y7 g1 g2 ⟨_,rfl,_,rfl,Y7 g1' g2' (ZjE g3 g3' ⟨_,rfl,?_⟩)⟩⟩
   have es:(((List.range (i+1)).map fun d=>lf+d).filter fun d=>wds.getD d []==wds.getD f [])=(((List.range i).map fun d=>lf+d).filter fun d=>wds.getD d []==wds.getD f [])++if (wds.getD (lf+i) []==wds.getD f [])=true then [lf+i] else []:=by
    rw [List.range_succ,List.map_append,List.filter_append,List.map_cons,List.map_nil,List.filter_cons,List.filter_nil]
   have hlen:(((List.range i).map fun d=>lf+d).filter fun d=>wds.getD d []==wds.getD f []).length≤i:=by
    refine Nat.le_trans (List.length_filter_le _ _) ?_
    rw [List.length_map,List.length_range];exact Nat.le_refl _
   simp only []
   split
   ·rename_i h
    refine ⟨_,rfl,_,hD2,by rw [Z6];exact Nat.lt_of_le_of_lt hlen (Nat.lt_of_lt_of_le (by lia:i<8192+1) (by decide)),?_⟩
    rw [hPv]
    refine ⟨k.put2 (.inr hD),?_⟩
    rw [Ze,es,if_pos h]
    unfold lV
    rw [List.map_append];rfl
   ·rename_i h
    rw [hPv]
    refine ⟨k,?_⟩
    rw [es,if_neg h,List.append_nil]
    exact hD2
  ·intro H2 hw2
   rw [hPv] at hw2
   obtain ⟨k,hD2⟩:=hw2
   have q':=q H2
   unfold Vj Zc1 at q'
   have hf:f∈(((List.range (le-lf)).map fun d=>lf+d).filter fun d=>wds.getD d []==wds.getD f []):=by
    rw [List.mem_filter]
    refine ⟨List.mem_map.mpr ⟨f-lf,List.mem_range.mpr (by lia),by lia⟩,by simp⟩
   have hb:(((List.range (le-lf)).map fun d=>lf+d).filter fun d=>wds.getD d []==wds.getD f []).length≤8192:=by
    refine Nat.le_trans (List.length_filter_le _ _) ?_
    rw [List.length_map,List.length_range];lia
   generalize (((List.range (le-lf)).map fun d=>lf+d).filter fun d=>wds.getD d []==wds.getD f [])=L at *
   have hpos:0<L.length:=List.length_pos_of_mem hf
   walk_at "rd"
   refine ⟨_,.inl (.inl (.inl hD2)),?_⟩
   rw [Z6]
   split
   ·rename_i h
    refine q' _ k ?_
    rw [if_pos (by lia)]
    rfl
   ·rename_i h
    have hj:L.findIdx (fun d=>d==f)<L.length:=List.findIdx_lt_length_of_exists ⟨f,hf,by simp⟩
    have hjv:L[L.findIdx (fun d=>d==f)]?=some f:=by
     rw [List.getElem?_eq_getElem hj]
     have:=List.findIdx_getElem (w:=hj)
     simp at this
     rw [this]
    have hbef:∀ (m:Nat) (z':V),m<L.findIdx (fun d=>d==f)→(lV L)[m]?=some z'→eqV z' (.int (f:Int))=false:=fun m z' hm hz=>by
     obtain ⟨n,hn,rfl⟩:=ZhU hz
     have h5:=List.not_of_lt_findIdx hm
     obtain ⟨hm',en'⟩:=List.getElem?_eq_some_iff.mp hn
     rw [en'] at h5
     have h6:n≠f:=by simpa using h5
     show ((n:Int)==(f:Int))=false
     rw [beq_eq_false_iff_ne];lia
    have ej:((L.findIdx (fun d=>d==f):Nat):Int)+1=((L.findIdx (fun d=>d==f)+1:Nat):Int):=rfl
    refine ⟨.inl ⟨rfl,_,.inl (.inl hD2)⟩,D,lV L,_,L.findIdx (fun d=>d==f),_,rfl,rfl,.inl (.inl hD2),rfl,ZiJ L,by unfold lV;rw [List.getElem?_map,hjv];rfl,by show ((f:Int)==(f:Int))=true;simp,hbef,_,rfl,?_,?_,?_⟩
    ·rw [ej];exact Za1 (by lia)
    ·rw [ej,Zd9]
     have:=Wn (n:=L.findIdx (fun d=>d==f)+1) (k:=5) (by decide) (by lia)
     have e1:(Str.ofString "^").length=1:=by decide
     rw [e1]
     exact Nat.le_trans (Nat.add_le_add_left this 1) (by decide)
    ·refine q' _ k ?_
     rw [if_neg (by lia),Vq,ej,Jk]
     have e1:(Str.ofString "^").cps.toList=[94]:=by decide
     rw [e1];rfl
end
section
variable {P:Program}{w:World}{K:PySem.W.Frag}{mg:Str→Option Value}{base:Heap}{a:Ad}
def keyL (wds:List (List Nat)) (lf le f m:Nat):List Nat:=91::((if m=0 then [43] else [])++((if f<wds.length then wds.getD f []++Vj wds lf le f else [])++((if 2≤m then 126::(VhPage.num10 m++126::wds.getD (f+m-1) []) else [])++[93])))
theorem ZcK (wds:List (List Nat)) (lf le f:Nat) (h:le-lf≤8192):(Vj wds lf le f).length≤6:=by
 unfold Vj
 split
 ·exact Nat.zero_le _
 ·have h1:(Zc1 wds lf le f).length≤8192:=by
   unfold Zc1
   refine Nat.le_trans (List.length_filter_le _ _) ?_
   rw [List.length_map,List.length_range];exact h
  have h2:=List.findIdx_le_length (xs:=Zc1 wds lf le f) (p:=fun d=>d==f)
  have:=Wn (n:=(Zc1 wds lf le f).findIdx (fun d=>d==f)+1) (k:=5) (by decide) (by lia)
  rw [List.length_cons];lia
theorem Zdo (x y:List Nat):lV x++lV y=lV (x++y):=by unfold lV;rw [List.map_append]
theorem ZcN {wds:List (List Nat)} (h5:∀ x∈wds,x.length≤64) (k:Nat):(wds.getD k []).length≤64:=by
 rw [List.getD_eq_getElem?_getD]
 cases h:wds[k]? with
 | none=>simp
 | some x=>exact h5 x (List.mem_of_getElem? h)
def ZaH (K:PySem.W.Frag) (a:Ad):Sp:=fun vs H Q _=>∃ (wl:Addr) (wds:List (List Nat)) (lf le f m:Nat),vs=[.ref wl,.int (lf:Int),.int (le:Int),.int (f:Int),.int (m:Int)]∧YK H wl wds∧f+m≤wds.length∧(f<wds.length→lf≤f∧f<le)∧le≤wds.length∧wds.length≤8192∧(∀ x∈wds,x.length≤64) ∧
 ∀ H' p,H p=none→Kp [] H H'→H' p=some (.lst (lV (keyL wds lf le f m)))→Q (.ref p) H'
abbrev V4:Stmt:=top 18
theorem ZcZ:Zp ["words","line_first","line_end","f","m","key"] ["words","line_first","line_end","f","m"] (Zc V4):=⟨rfl,rfl,rfl,by decide +kernel,rfl,by decide +kernel,by decide +kernel⟩
theorem Zf8 {f:Addr}{fd:FuncData} (F:Fun K "key_of" "key_of" V4 f fd) (T:Txt K mg a) (zzaf:FnC P w K mg base CX0 1 "characters_of" ["text"] (YD K a)) (zzas:FnC P w K mg base CX0 1 "place_among_like" ["words","line_first","line_end","f"] (Y8 K a)):FnOk P w K mg base CX0 2 f fd ["words","line_first","line_end","f","m"] (ZaH K a):=by
 refine F.ok ZcZ (fun vs H Q E h=>?_) (fun cdv A outer s H vs Q E hr h=>?_)
 ·obtain ⟨wl,wds,lf,le,f,m,rfl,hw,h1,h2,h3,h4,h5,q⟩:=h
  rfl
 ·obtain ⟨wl,wds,lf,le,f,m,rfl,hw,h1,h2,h3,h4,h5,q⟩:=h
  have nd:=ZcZ.nd
  refine ⟨_,(Zb (Ye (Zq Va (pv 3) (Zr Zj rfl T.len PySem.boot_len (Za (pv 0) Zd)) (Zu _)) (Zf (Zs (Zl zzaf hr Zz (Za ZL Zd)))) Zx) (Zb (Zo (i:=5) nd rfl (Or.inl rfl) (Zl zzaf hr Zz (Za (Zg5 (Zq Va (pv 4) Zh (Zu _)) ZL ZL) Zd))) (Zb (Zy (X6 PySem.F.plainAttrs_list PySem.F.slot_list_extend PySem.F.type_list_extend Xr (pv 5) (Za (ZK ZC (pv 0) (pv 3) (fun _ _=>rfl)) Zd))) (Zb (Zy (X6 PySem.F.plainAttrs_list PySem.F.slot_list_extend PySem.F.type_list_extend Xr (pv 5) (Za (Zl zzaf hr Zz (Za (Zl zzas hr Zz (Za (pv 0) (Za (pv 1) (Za (pv 2) (Za (pv 3) Zd))))) Zd)) Zd))) (Zb (Ye (Zq Zf6 (pv 4) Zh (Zu _)) (Zb (Zy (X6 PySem.F.plainAttrs_list PySem.F.slot_list_extend PySem.F.type_list_extend Xr (pv 5) (Za (Zl zzaf hr Zz (Za (Zf2 (PEs.cons ZL (PEs.cons (Zi8 (pv 4)) (PEs.cons ZL PEs.nil)))) Zd)) Zd))) (Zf (Zy (X6 PySem.F.plainAttrs_list PySem.F.slot_list_extend PySem.F.type_list_extend Xr (pv 5) (Za (ZK ZC (pv 0) (ZG Yj (ZG Ya (pv 3) (pv 4)) Zh) (fun _ _=>rfl)) Zd))))) Zx) (Zb (Zy (X6 PySem.F.plainAttrs_list PySem.F.slot_list_extend PySem.F.type_list_extend Xr (pv 5) (Za (Zl zzaf hr Zz (Za ZL Zd)) Zd))) (Zf (Zs (pv 5))))))))),?_⟩
  have hw0:=hw
  refine Zm fun G0 hG0=>?_
  obtain ⟨ws,hwl,hP⟩:=hw
  refine hG0 ?_
  clear hG0
  have hlw:=Paired.length hP
  walk_at "rd"
  refine ⟨_,.inl (.inl (.inl hwl)),?_⟩
  split
  ·rename_i h
   have hf:f=wds.length:=by lia
   have hm:m=0:=by lia
   refine ⟨_,rfl,by decide,fun H' p hp k hl=>q H' p hp k ?_⟩
   rw [hl]
   have e1:(Str.ofString "[+]").cps.toList=[91,43,93]:=by decide
   rw [e1]
   unfold keyL
   rw [if_pos hm,if_neg (by lia),if_neg (by lia)];rfl
  ·rename_i h
   have hf:f<wds.length:=by lia
   obtain ⟨g1,g2⟩:=h2 hf
   have hz:sizeLine=16777216:=by decide
   have w1:=ZcN h5 f
   have w2:=ZcK wds lf le f (by lia)
   have w3:=ZcN h5 (f+m-1)
   have w4:=Wn (n:=m) (k:=5) (by decide) (by lia)
   have w5:(if m=0 then [43] else []:List Nat).length≤1:=by split <;> simp
   have b1:(Str.ofString "]").cps.toList=[93]:=by decide
   have b2:(Str.ofString "~").cps.toList=[126]:=by decide
   unfold keyL at q
   rw [if_pos hf] at q
   split <;> rename_i hm
   case' isTrue =>
    have e1:(Str.ofString "[+").cps.toList=[91,43]:=by decide
    refine ⟨_,rfl,by decide,fun H1 p hp k1 hl1=>?_⟩
    rw [e1] at hl1
    replace hl1:H1 p=some (.lst (lV (91::(if m=0 then [43] else [])))):=by rw [hl1,if_pos (by lia)]
   case' isFalse =>
    have e1:(Str.ofString "[").cps.toList=[91]:=by decide
    refine ⟨_,rfl,by decide,fun H1 p hp k1 hl1=>?_⟩
    rw [e1] at hl1
    replace hl1:H1 p=some (.lst (lV (91::(if m=0 then [43] else [])))):=by rw [hl1,if_neg (by lia)]
   all_goals
    generalize (if m=0 then [43] else []:List Nat)=hd at *
    refine Zm fun G0 hG0=>?_
    obtain ⟨ws1,l1,a1,a2,a3⟩:=(hw0.keep k1).get hf
    refine hG0 ?_
    clear hG0
    refine ⟨.inl ⟨rfl,_,.inl (.inl hl1)⟩,Y7 a1 a2 ⟨p,rfl,_,rfl,_,hl1,_,a3,by rw [Z6,Z6,List.length_cons];lia,.inl ⟨rfl,_,.inl (.inl Ze)⟩,?_⟩⟩
    rw [Zdo]
    have k2:Kp [] H (upd H1 p (.lst (lV (91::hd++wds.getD f [])))):=k1.put2 (.inr hp)
    generalize hG:upd H1 p (.lst (lV (91::hd++wds.getD f [])))=H2 at *
    have hl2:H2 p=some (.lst (lV (91::hd++wds.getD f []))):=by rw [← hG,Ze]
    refine ⟨wl,wds,lf,le,f,rfl,hw0.keep k2,g1,g2,h3,h4,fun H3 x k3 hx=>⟨x,rfl,?_,fun H4 p4 hp4 k4 hl4=>?_⟩⟩
    ·rw [← Array.length_toList,hx];lia
    rw [hx] at hl4
    have k5:=(k2.trans k3).trans k4
    have hl5:=k4 _ _ (k3 _ _ hl2 (by simp)) (by simp)
    refine ⟨p,rfl,p4,rfl,_,hl5,_,hl4,by rw [Z6,Z6,List.length_append,List.length_cons];lia,?_⟩
    rw [Zdo]
    have k6:Kp [] H (upd H4 p (.lst (lV (91::hd++wds.getD f []++Vj wds lf le f)))):=k5.put2 (.inr hp)
    generalize hG6:upd H4 p (.lst (lV (91::hd++wds.getD f []++Vj wds lf le f)))=H6 at *
    have hl6:H6 p=some (.lst (lV (91::hd++wds.getD f []++Vj wds lf le f))):=by rw [← hG6,Ze]
    have b0:(Str.empty).cps.toList=[]:=by decide
    have fin:∀ (H6:Hp) (l:List Nat),Kp [] H H6→H6 p=some (.lst (lV l))→l.length≤1000→l++[93]=91::(hd++(wds.getD f []++Vj wds lf le f++((if 2≤m then 126::(VhPage.num10 m++126::wds.getD (f+m-1) []) else [])++[93])))→YD K a [V.str (Str.ofString "]")] H6 (fun x H1=>∃ l,V.ref p=V.ref l∧∃ x_1,x=V.ref x_1∧∃ x,H1 l=some (HO.lst x)∧∃ x_2,H1 x_1=some (HO.lst x_2)∧x.length+x_2.length≤sizeLine∧Q (V.ref p) (upd H1 l (HO.lst (x++x_2)))) E0:=fun H6 l k6 hl6 hll he=>by
     refine ⟨_,rfl,by decide,fun H7 p7 hp7 k7 hl7=>⟨p,rfl,p7,rfl,_,k7 _ _ hl6 (by simp),_,hl7,?_,q _ p hp ((k6.trans k7).put2 (.inr hp)) ?_⟩⟩
     ·rw [b1,Z6,Z6];simp only [List.length_append,List.length_cons,List.length_nil];lia
     ·rw [Ze,b1,Zdo,he]
    by_cases hm2:2≤m
    ·rw [if_pos (by lia)]
     rw [if_pos hm2] at fin
     have j3:(Str.empty++Str.ofString "~"++Str.ofString (toString (m:Int))++Str.ofString "~").cps.toList=126::(VhPage.num10 m++[126]):=by
      rw [Vq,Vq,Vq,b0,b2,Jk];simp
     have jl:(Str.empty++Str.ofString "~"++Str.ofString (toString (m:Int))++Str.ofString "~").length≤sizeLine:=by
      rw [Zb8,j3];simp only [List.length_append,List.length_cons,List.length_nil];lia
     refine ⟨.inl ⟨rfl,_,.inl (.inl hl6)⟩,_,rfl,by decide,_,rfl,_,rfl,Za1 (by lia),_,rfl,?_,_,rfl,jl,jl,_,rfl,?_,fun H7 p7 hp7 k7 hl7=>?_⟩
     ·rw [Zb8,Vq,Vq,b0,b2,Jk];simp only [List.length_append,List.length_cons,List.length_nil];lia
     ·rw [← Array.length_toList,j3];simp only [List.length_append,List.length_cons,List.length_nil];lia
     rw [j3] at hl7
     have hl8:=k7 _ _ hl6 (by simp)
     refine ⟨p,rfl,p7,rfl,_,hl8,_,hl7,by rw [Z6,Z6];simp only [List.length_append,List.length_cons,List.length_nil];lia,.inl ⟨rfl,_,.inl (.inl Ze)⟩,?_⟩
     rw [Zdo]
     have k9:Kp [] H (upd H7 p (.lst (lV (91::hd++wds.getD f []++Vj wds lf le f++126::(VhPage.num10 m++[126]))))):=(k6.trans k7).put2 (.inr hp)
     obtain ⟨ws9,l9,c1,c2,c3⟩:=(hw0.keep k9).get (k:=f+m-1) (by lia)
     have ef:(f:Int)+(m:Int)-1=((f+m-1:Nat):Int):=by lia
     rw [ef]
     refine Y7 c1 c2 ⟨p,rfl,_,rfl,_,Ze,_,c3,by rw [Z6,Z6];simp only [List.length_append,List.length_cons,List.length_nil];lia,.inl ⟨rfl,_,.inl (.inl Ze)⟩,?_⟩
     rw [Zdo]
     refine fin _ _ (k9.put2 (.inr hp)) Ze (by simp only [List.length_append,List.length_cons,List.length_nil];lia) (by simp)
    ·rw [if_neg (by lia)]
     rw [if_neg hm2] at fin
     exact ⟨.inl ⟨rfl,_,.inl (.inl hl6)⟩,fin _ _ k6 hl6 (by simp only [List.length_append,List.length_cons,List.length_nil];lia) (by simp)⟩
end
section
variable {P:Program}{w:World}{K:PySem.W.Frag}{mg:Str→Option Value}{base:Heap}{a:Ad}
theorem Zhp {X:Cx}{K:PySem.W.Frag}{e:Expr}{f:Str}{pos:Pos}{ta:TE} (h:X.K=K) (he:PE X e ta) (hb:attributeBase e f X.env (eval e X.env)=eval e X.env):PE X (.Attribute e f pos) (tFld K ta f):=by subst h;exact Zv he hb
def We (K:PySem.W.Frag) (a:Ad):Sp:=fun vs H Q _=>∃ (n:Nat),vs=[.int (n:Int)]∧n<100000∧∀ H' p,H p=none→Kp [] H H'→H' p=some (.lst (lV (35::VhPage.num10 n)))→Q (.ref p) H'
abbrev YI:Stmt:=top 20
theorem VB:Zp ["number"] ["number"] (Zc YI):=⟨rfl,rfl,rfl,by decide +kernel,rfl,by decide +kernel,by decide +kernel⟩
theorem ZaY {f:Addr}{fd:FuncData} (F:Fun K "number_thing" "number_thing" YI f fd) (T:Txt K mg a) (zzaf:FnC P w K mg base CX0 1 "characters_of" ["text"] (YD K a)):FnOk P w K mg base CX0 2 f fd ["number"] (We K a):=by
 refine F.ok VB (fun vs H Q E h=>?_) (fun cdv A outer s H vs Q E hr h=>?_)
 ·obtain ⟨n,rfl,hn,q⟩:=h
  rfl
 ·obtain ⟨n,rfl,hn,q⟩:=h
  have nd:=VB.nd
  refine ⟨_,(Zf (Zs (Zl zzaf hr Zz (Za (Zf2 (PEs.cons ZL (PEs.cons (Zi8 (pv 0)) PEs.nil))) Zd)))),?_⟩
  have b0:(Str.empty).cps.toList=[]:=by decide
  have b2:(Str.ofString "#").cps.toList=[35]:=by decide
  have w4:=Wn (n:=n) (k:=5) (by decide) (by lia)
  have hz:sizeLine=16777216:=by decide
  have j3:(Str.empty++Str.ofString "#"++Str.ofString (toString (n:Int))).cps.toList=35::VhPage.num10 n:=by
   rw [Vq,Vq,b0,b2,Jk];simp
  have jl:(Str.empty++Str.ofString "#"++Str.ofString (toString (n:Int))).length≤sizeLine:=by
   rw [Zb8,j3,List.length_cons];lia
  walk_at "rd"
  refine ⟨_,rfl,by decide,_,rfl,_,rfl,Za1 (by lia),_,rfl,jl,jl,_,rfl,?_,fun H7 p7 hp7 k7 hl7=>?_⟩
  ·rw [← Array.length_toList,j3,List.length_cons];lia
  ·rw [j3] at hl7
   exact q H7 p7 hp7 k7 hl7
def isWk (o:HO):Prop:=∀ C d f,o=.ins C d f→∃ s r h p w g e,f=wf s r h p w g e
theorem isWk.lst (xs:List V):isWk (.lst xs):=fun C d f z=>by cases z
theorem isWk.tup (xs:List V):isWk (.tup xs):=fun C d f z=>by cases z
theorem isWk.wk (C d:Addr) (s:VhPage.Settings) (r h p w g e:Addr):isWk (.ins C d (wf s r h p w g e)):=fun C d f z=>by cases z;exact ⟨_,_,_,_,_,_,_,rfl⟩
def KW (H H':Hp):Prop:=∀ b o,H b=some o→isWk o→H' b=some o
theorem KW.trans {H1 H2 H3:Hp} (k:KW H1 H2) (k':KW H2 H3):KW H1 H3:=fun b o h i=>k' b o (k b o h i) i
theorem _root_.L2.Kp.kw {H H':Hp} (k:Kp [] H H'):KW H H':=fun b o h _=>k b o h (by simp)
theorem _root_.L2.Kp.kwX {H H':Hp}{x:Addr}{o:HO} (k:Kp [x] H H') (hx:H x=some o) (n:¬ isWk o):KW H H':=fun b o' h i=>k b o' h (by
 simp only [List.mem_cons,List.not_mem_nil,or_false]
 intro z
 rw [z,hx] at h
 cases h
 exact n i)
theorem LI.keepW {H H':Hp} (k:KW H H') {x:List Nat}{v:V} (h:LI H x v):LI H' x v:=by
 obtain ⟨l,e,hl⟩:=h
 exact ⟨l,e,k _ _ hl (isWk.lst _)⟩
theorem Uu.keepW {H H':Hp}{rw:Addr}{rs:List (Nat×Nat×Nat)} (h:Uu H rw rs) (k:KW H H'):Uu H' rw rs:=by
 obtain ⟨us,h1,h2,h3⟩:=h
 exact ⟨us,k _ _ h1 (isWk.lst _),Paired.mono (fun x v ⟨t,e,ht⟩=>⟨t,e,k _ _ ht (isWk.tup _)⟩) h2,h3⟩
theorem YK.keepW {H H':Hp}{wl:Addr}{wds:List (List Nat)} (h:YK H wl wds) (k:KW H H'):YK H' wl wds:=by
 obtain ⟨ws,h1,h2⟩:=h
 exact ⟨ws,k _ _ h1 (isWk.lst _),Paired.mono (fun x v z=>z.keepW k) h2⟩
theorem UU.keepW {H H':Hp}{tl:Addr}{r:Nat}{xs:List Nat} (h:UU H tl r xs) (k:KW H H'):UU H' tl r xs:=by
 obtain ⟨us,h1,h2,h3⟩:=h
 refine ⟨us,k _ _ h1 (isWk.lst _),h2,fun e a1 a2=>?_⟩
 obtain ⟨v,hv,t,e1,ht⟩:=h3 e a1 a2
 exact ⟨v,hv,t,e1,k _ _ ht (isWk.tup _)⟩
theorem WRep.keepW {H H':Hp}{wk:Addr}{wo:VhPage.Work}{hb:List UInt8} (h:WRep a H wk wo hb) (k:KW H H'):WRep a H' wk wo hb:=by
 obtain ⟨dw,aR,aH,aP,aW,aS,aE,rs,ps,ws,gs,es,h1,h2,h3,h4,h5,h6,h7,h8,h9,h10,h11,h12,h13⟩:=h
 have kl:∀ {b xs},H b=some (.lst xs)→H' b=some (.lst xs):=fun h=>k _ _ h (isWk.lst _)
 have kt:∀ {b xs},H b=some (.tup xs)→H' b=some (.tup xs):=fun h=>k _ _ h (isWk.tup _)
 refine ⟨dw,aR,aH,aP,aW,aS,aE,rs,ps,ws,gs,es,k _ _ h1 (isWk.wk _ _ _ _ _ _ _ _ _),kl h2,Paired.mono (fun x v ⟨t,e,ht⟩=>⟨t,e,kt ht⟩) h3,kl h4,kl h5,Paired.mono (fun x v ⟨t,e,ht⟩=>⟨t,e,kt ht⟩) h6,kl h7,Paired.mono (fun x v z=>z.keepW k) h8,kl h9,h10,?_,kl h12,?_⟩
 ·intro i g hg
  obtain ⟨ts,t1,t2⟩:=h11 i g hg
  exact ⟨ts,kl t1,Paired.mono (fun x v z=>z.keepW k) t2⟩
 ·exact Paired.mono (fun x v ⟨t,l,us,e,t1,t2,t3⟩=>⟨t,l,us,e,kt t1,kl t2,Paired.mono (fun x v z=>z.keepW k) t3⟩) h13
def WkR (a:Ad) (H:Hp) (wk:Addr) (wo:VhPage.Work) (hb:List UInt8):Prop:=WRep a H wk wo hb∧ZdM wo.widths∧wo.widths.length≤64
theorem WkR.keepW {H H':Hp}{wk:Addr}{wo:VhPage.Work}{hb:List UInt8} (h:WkR a H wk wo hb) (k:KW H H'):WkR a H' wk wo hb:=⟨h.1.keepW k,h.2⟩
theorem WkR.keep {H H':Hp}{wk:Addr}{wo:VhPage.Work}{hb:List UInt8} (h:WkR a H wk wo hb) (k:Kp [] H H'):WkR a H' wk wo hb:=h.keepW k.kw
def W3 (K:PySem.W.Frag) (a:Ad):Sp:=fun vs H Q _=>∃ (wk:Addr) (wo:VhPage.Work) (hb:List UInt8) (n:Nat),vs=[.ref wk,.int (n:Int)]∧WkR a H wk wo hb∧n<100000∧Xw wo.widths (35::VhPage.num10 n)≤wo.set.width ∧
 ∀ H',Kp [] H H'→Q (.int (wo.set.width-Xw wo.widths (35::VhPage.num10 n):Nat)) H'
abbrev Xj:Stmt:=top 21
theorem U6:Zp ["work","number"] ["work","number"] (Zc Xj):=⟨rfl,rfl,rfl,by decide +kernel,rfl,by decide +kernel,by decide +kernel⟩
theorem Zcu {f:Addr}{fd:FuncData} (F:Fun K "first_room" "first_room" Xj f fd) (T:Txt K mg a) (zzak:FnC P w K mg base CX0 2 "cells_of_thing" ["rows","thing"] (Yv K a)) (zzb5:FnC P w K mg base CX0 2 "number_thing" ["number"] (We K a)):FnOk P w K mg base CX0 3 f fd ["work","number"] (W3 K a):=by
 refine F.ok U6 (fun vs H Q E h=>?_) (fun cdv A outer s H vs Q E hr h=>?_)
 ·obtain ⟨wk,wo,hb,n,rfl,hw,hn,ht,q⟩:=h
  rfl
 ·obtain ⟨wk,wo,hb,n,rfl,hw,hn,ht,q⟩:=h
  have nd:=U6.nd
  refine ⟨_,(Zf (Zs (ZG Yj (Zv (pv 0) rfl) (Zl zzak hr Zz (Za (Zv (pv 0) rfl) (Za (Zl zzb5 hr Zz (Za (pv 1) Zd)) Zd)))))),?_⟩
  have hw0:=hw
  refine Zm fun G0 hG0=>?_
  obtain ⟨⟨dw,aR,aH,aP,aW,aS,aE,rs,ps,ws,gs,es,hWk,h2,h3,_⟩,ok,hl⟩:=hw
  refine hG0 ?_
  clear hG0
  have hWk2:=hWk
  have hR:=hWk
  have hR2:=hWk
  walk_at "wk"
  refine ⟨_,rfl,n,rfl,hn,fun H1 p hp k1 hl1=>⟨aR,p,wo.widths,_,rfl,Uu.keep ⟨rs,h2,h3,ok,hl⟩ k1,hl1,?_,fun H2 k2=>⟨_,rfl,_,rfl,?_⟩⟩⟩
  ·have w4:=Wn (n:=n) (k:=5) (by decide) (by lia)
   rw [List.length_cons];lia
  ·rw [show ((wo.set.width:Int)-(Xw wo.widths (35::VhPage.num10 n):Nat))=((wo.set.width-Xw wo.widths (35::VhPage.num10 n):Nat):Int) by lia]
   exact q H2 (k1.trans k2)
def nf (aT aK aL:Addr):List (Str×V):=putF "tails" (.ref aL) (putF "takes" (.ref aK) (putF "things" (.ref aT) []))
theorem Zhg (t k l:Addr):(nf t k l).lookup ("takes":Str)=some (V.ref k):=by rfl
theorem Zhh (t k l:Addr):(nf t k l).lookup ("tails":Str)=some (V.ref l):=by rfl
def Wo (wo:VhPage.Work) (ts:List (List Nat)):List Nat:=0::ts.map (Xw wo.widths)
def JC (a:Ad) (H:Hp) (x:Addr) (wo:VhPage.Work) (ts:List (List Nat)):Prop:=∃ dx aT aK aL,H x=some (.ins a.CN dx (nf aT aK aL))∧YK H aT ts∧H aK=some (.lst (lV (Wo wo ts)))∧UU H aL wo.set.width (Wo wo ts)∧ts.length≤100000
def Vx (K:PySem.W.Frag) (a:Ad):Sp:=fun vs H Q _=>∃ (x dx wk th:Addr) (wo:VhPage.Work) (hb:List UInt8) (ts:List (List Nat)),vs=[.ref x,.ref wk,.ref th]∧H x=some (.ins a.CN dx [])∧WkR a H wk wo hb∧wo.set.width≤240∧YK H th ts∧ts.length≤100000∧(∀ t∈ts,t.length≤1048576) ∧
 ∀ H',Kp [x] H H'→JC a H' x wo ts→Q .non H'
abbrev YQ:Stmt:=YS (top 19) 0
theorem Zab:Zp ["self","work","things","thing"] ["self","work","things"] (Zc YQ):=⟨rfl,rfl,rfl,by decide +kernel,rfl,by decide +kernel,by decide +kernel⟩
theorem Zbu:JD ["self","work","things","thing"] (Zc YQ) (lcSc (exR (ZaG (stI (Zk YQ) 1)))) [("thing",3)]:=⟨rfl,by decide +kernel,by decide +kernel,by decide +kernel,by decide +kernel⟩
theorem Zdg {f:Addr}{fd:FuncData} (F:Fun K "__init__" "Note.__init__" YQ f fd) (T:Txt K mg a) (zzc3:FnC P w K mg base CX0 3 "tails_of" ["takes","room"] (WZ K a)) (zzak:FnC P w K mg base CX0 2 "cells_of_thing" ["rows","thing"] (Yv K a)):FnOk P w K mg base CX0 4 f fd ["self","work","things"] (Vx K a):=by
 refine F.ok Zab (fun vs H Q E h=>?_) (fun cdv A outer s H vs Q E hr h=>?_)
 ·obtain ⟨x,dx,wk,th,wo,hb,ts,rfl,hR,hw,hW,hth,hts,htl,q⟩:=h
  rfl
 ·obtain ⟨x,dx,wk,th,wo,hb,ts,rfl,hR,hw,hW,hth,hts,htl,q⟩:=h
  have nd:=Zab.nd
  refine ⟨_,(Zb (ZN (pv 0) (pv 2) rfl) (Zb (ZN (pv 0) (ZG Zjd (YR (Za Zh Zd)) (Zf0 rfl nd (VI (pv 2)) Zbu (fun _ _ _ _ _=>(Yl (i:=3) nd rfl (Or.inl rfl))) (fun _ _ _ _ _=>W6) (fun _ _ _ _ _=>(Zl zzak hr Zz (Za (Zhp (K:=K) rfl (pv 1) rfl) (Za (pv 3) Zd)))))) rfl) (Zf (ZN (pv 0) (Zl zzc3 hr Zz (Za (Zv (pv 0) rfl) (Za (Zv (pv 1) rfl) Zd))) rfl)))),?_⟩
  have hw0:=hw
  refine Zm fun G0 hG0=>?_
  obtain ⟨⟨dw,aR,aH,aP,aW,aS,aE,rs,ps,ws,gs,es,hWk,h2,h3,_⟩,ok,hl⟩:=hw
  refine hG0 ?_
  clear hG0
  have hWk2:=hWk
  have hR2:=hR
  have hrow:Uu H aR wo.widths:=⟨rs,h2,h3,ok,hl⟩
  have nx:¬ isWk (.ins a.CN dx []):=fun z=>by obtain ⟨s,r,h,p,w,g,e,z⟩:=z _ _ _ rfl;cases z
  have xwk:wk≠x:=WR hWk hR (by intro z;injection z with _ _ z;cases z)
  refine Zm fun G0 hG0=>?_
  obtain ⟨tv,hth1,hth2⟩:=hth
  refine hG0 ?_
  clear hG0
  have thx:th≠x:=WR hth1 hR (by intro z;cases z)
  have htv:=Paired.length hth2
  walk_at "wk"
  refine ⟨T.clNote,T.nN_things,by decide,by decide,fun p hp=>?_⟩
  have px:p≠x:=fun z=>by rw [z,Ze] at hp;cases hp
  have hp0:H p=none:=by rw [Zi px] at hp;exact hp
  have k0:Kp [x] H (upd H x (HO.ins a.CN dx (putF "things" (V.ref th) []))):=Kp.put (by simp)
  have k1:Kp [x] H (upd (upd H x (HO.ins a.CN dx (putF "things" (V.ref th) []))) p (HO.lst [V.int 0])):=k0.trans (Kp.new hp)
  have hx1:upd (upd H x (HO.ins a.CN dx (putF "things" (V.ref th) []))) p (HO.lst [V.int 0]) x=some (HO.ins a.CN dx (putF "things" (V.ref th) [])):=by rw [Zi (Ne.symm px),Ze]
  have hp1:upd (upd H x (HO.ins a.CN dx (putF "things" (V.ref th) []))) p (HO.lst [V.int 0]) p=some (HO.lst [V.int 0]):=Ze
  generalize upd (upd H x (HO.ins a.CN dx (putF "things" (V.ref th) []))) p (HO.lst [V.int 0])=H1 at *
  have kw1:=k1.kwX hR nx
  have hth':=kw1 _ _ hth1 (isWk.lst _)
  refine ⟨_,rfl,th,rfl,⟨_,.inl (.inl hth')⟩,fun D hD=>?_⟩
  have Dx:x≠D:=Zg hx1 hD
  have Dp:p≠D:=Zg hp1 hD
  have hD0:H D=none:=k1.free (by simp [Ne.symm Dx]) hD
  obtain ⟨Pv,hPv⟩:∃ Pv:Nat→Hp→Prop,Pv=fun i H'=>Kp [] H1 H'∧H' D=some (.lst (lV ((ts.map (Xw wo.widths)).take i))):=⟨_,rfl⟩
  refine Zcx (xs:=tv) Pv ?_ ?_ ?_ ?_
  ·rw [hPv]
   exact ⟨Kp.new hD,Ze⟩
  ·intro i H' _ hw'
   rw [hPv] at hw'
   exact .inl (.inl (hw'.1 _ _ hth' (by simp)))
  ·intro i v H2 hi hw'
   rw [hPv] at hw'
   obtain ⟨k2,hD2⟩:=hw'
   have kw2:=kw1.trans k2.kw
   refine Zm fun G0 hG0=>?_
   obtain ⟨t,ht,l,rfl,hlt⟩:=Paired.get hth2 hi
   refine hG0 ?_
   clear hG0
   have hWk':=kw2 _ _ hWk (isWk.wk _ _ _ _ _ _ _ _ _)
   refine ⟨rfl,?_⟩
   simp only [tYes]
   refine ⟨_,rfl,wk,a.CW,dw,_,_,rfl,hWk',T.clWork,T.n_rows,Zb5 wo.set aR aH aP aW aS aE,_,rfl,aR,l,wo.widths,t,rfl,hrow.keepW kw2,kw2 _ _ hlt (isWk.lst _),htl t (List.mem_of_getElem? ht),fun H3 k3=>?_⟩
   have hil:i<ts.length:=(List.getElem?_eq_some_iff.mp ht).1
   refine ⟨_,k3 _ _ hD2 (by simp),by rw [Z6,List.length_take];exact Nat.lt_of_le_of_lt (Nat.min_le_left _ _) (Nat.lt_of_lt_of_le (Nat.lt_of_lt_of_le hil hts) (by decide)),?_⟩
   rw [hPv]
   refine ⟨(k2.trans k3).put2 (.inr hD),?_⟩
   rw [Ze,Z3 (x:=Xw wo.widths t) (by rw [List.getElem?_map,ht];rfl)]
   unfold lV
   rw [List.map_append];rfl
  ·intro H2 hw'
   rw [hPv] at hw'
   obtain ⟨k2,hD2⟩:=hw'
   rw [← htv,List.take_of_length_le (by simp)] at hD2
   have hp2:=k2 _ _ hp1 (by simp)
   have hx2:=k2 _ _ hx1 (by simp)
   have hlt:(ts.map (Xw wo.widths)).length≤100000:=by rw [List.length_map];exact hts
   have hz:sizeLine=16777216:=by decide
   refine ⟨p,D,_,_,rfl,rfl,hp2,hD2,by rw [Z6];simp only [List.length_cons,List.length_nil];lia,fun E0' hE=>?_⟩
   have eK:[V.int 0]++lV (ts.map (Xw wo.widths))=lV (Wo wo ts):=rfl
   rw [eK]
   have Ex:x≠E0':=Zg hx2 hE
   have k12:=(k1.trans (k2.mono (by simp))).trans (Kp.new (o:=HO.lst (lV (Wo wo ts))) hE)
   have k3:Kp [x] H (upd (upd H2 E0' (HO.lst (lV (Wo wo ts)))) x (HO.ins a.CN dx (putF "takes" (V.ref E0') (putF "things" (V.ref th) [])))):=k12.put2 (.inl (by simp))
   have kw3:=k3.kwX hR nx
   have hWk3:=kw3 _ _ hWk (isWk.wk _ _ _ _ _ _ _ _ _)
   have hE3:upd (upd H2 E0' (HO.lst (lV (Wo wo ts)))) x (HO.ins a.CN dx (putF "takes" (V.ref E0') (putF "things" (V.ref th) []))) E0'=some (.lst (lV (Wo wo ts))):=by rw [Zi (Ne.symm Ex),Ze]
   refine ⟨a.CN,dx,putF "things" (V.ref th) [],by rw [Zi Ex];exact hx2,T.clNote,T.nN_takes,(show (1:Nat)<1000 by decide),T.clNote,T.nN_takes,_,rfl,_,_,_,hWk3,T.clWork,T.n_width,_,rfl,E0',Wo wo ts,wo.set.width,rfl,hE3,?_,?_,by lia,fun H4 p4 hp4 k4 hT4=>?_⟩
   ·unfold Wo;simp
   ·unfold Wo;rw [List.length_cons];lia
   have hx4:=k4 _ _ (Ze:upd (upd H2 E0' (HO.lst (lV (Wo wo ts)))) x (HO.ins a.CN dx (putF "takes" (V.ref E0') (putF "things" (V.ref th) []))) x=_) (by simp)
   have hE4:=k4 _ _ hE3 (by simp)
   have k5:=k3.trans (k4.mono (by simp))
   have k6:Kp [x] H (upd H4 x (HO.ins a.CN dx (putF "tails" (V.ref p4) (putF "takes" (V.ref E0') (putF "things" (V.ref th) []))))):=k5.put2 (.inl (by simp))
   have nx4:¬ isWk (HO.ins a.CN dx (putF "takes" (V.ref E0') (putF "things" (V.ref th) []))):=fun z=>by
    refine Zm fun G0 hG0=>?_
    obtain ⟨s,r,h,p,w,g,e,z⟩:=z _ _ _ rfl
    refine hG0 ?_
    clear hG0
    have:=congrArg List.length z
    cases this
   have kw46:KW H4 (upd H4 x (HO.ins a.CN dx (putF "tails" (V.ref p4) (putF "takes" (V.ref E0') (putF "things" (V.ref th) []))))):=(Kp.put (S:=[x]) (by simp)).kwX hx4 nx4
   refine ⟨_,_,_,hx4,T.clNote,T.nN_tails,(show (2:Nat)<1000 by decide),q _ k6 ⟨dx,th,E0',p4,Ze,YK.keepW ⟨tv,hth1,hth2⟩ (k6.kwX hR nx),kw46 _ _ hE4 (isWk.lst _),hT4.keepW kw46,hts⟩⟩
theorem JC.keepW {H H':Hp}{x:Addr}{wo:VhPage.Work}{ts:List (List Nat)} (h:JC a H x wo ts) (k:KW H H') (hx:H' x=H x):JC a H' x wo ts:=by
 obtain ⟨dx,aT,aK,aL,h1,h2,h3,h4,h5⟩:=h
 exact ⟨dx,aT,aK,aL,by rw [hx];exact h1,h2.keepW k,k _ _ h3 (isWk.lst _),h4.keepW k,h5⟩
theorem JC.keep {H H':Hp}{x:Addr}{wo:VhPage.Work}{ts:List (List Nat)} (h:JC a H x wo ts) (k:Kp [] H H'):JC a H' x wo ts:=by
 have h0:=h
 obtain ⟨dx,aT,aK,aL,h1,_⟩:=h0
 exact h.keepW k.kw (by rw [h1];exact k _ _ h1 (by simp))
def ZiH (wo:VhPage.Work) (ts:List (List Nat)) (n:Nat):List Nat:=VhPage.broken wo.set.width wo.set.width (((35::VhPage.num10 n)::ts).map (Xw wo.widths))
def Y9 (K:PySem.W.Frag) (a:Ad):Sp:=fun vs H Q _=>∃ (wk nt:Addr) (wo:VhPage.Work) (hb:List UInt8) (ts:List (List Nat)) (n:Nat),vs=[.ref wk,.ref nt,.int (n:Int)]∧WkR a H wk wo hb∧wo.set.width≤240∧JC a H nt wo ts∧n<100000∧Xw wo.widths (35::VhPage.num10 n)≤wo.set.width ∧
 ∀ H',Kp [] H H'→Q (.int ((ZiH wo ts n).length:Nat)) H'
abbrev Z4:Stmt:=top 22
theorem Wg:Zp ["work","note","number"] ["work","note","number"] (Zc Z4):=⟨rfl,rfl,rfl,by decide +kernel,rfl,by decide +kernel,by decide +kernel⟩
theorem UE {f:Addr}{fd:FuncData} (F:Fun K "count_foot_lines" "count_foot_lines" Z4 f fd) (T:Txt K mg a) (zzbd:FnC P w K mg base CX0 2 "best_from" ["takes","tails","start","room"] (XM K a)) (zzdk:FnC P w K mg base CX0 3 "first_room" ["work","number"] (W3 K a)):FnOk P w K mg base CX0 4 f fd ["work","note","number"] (Y9 K a):=by
 refine F.ok Wg (fun vs H Q E h=>?_) (fun cdv A outer s H vs Q E hr h=>?_)
 ·obtain ⟨wk,nt,wo,hb,ts,n,rfl,hw,hW,hN,hn,ht,q⟩:=h
  rfl
 ·obtain ⟨wk,nt,wo,hb,ts,n,rfl,hw,hW,hN,hn,ht,q⟩:=h
  have nd:=Wg.nd
  refine ⟨_,(Zf (Zs (ZK YF (Zl zzbd hr Zz (Za (Zv (pv 1) rfl) (Za (Zv (pv 1) rfl) (Za Zh (Za (Zl zzdk hr Zz (Za (pv 0) (Za (pv 2) Zd))) Zd))))) Zh (fun _ _=>rfl)))),?_⟩
  have hN0:=hN
  refine Zm fun G0 hG0=>?_
  obtain ⟨dx,aT,aK,aL,hR,hT1,hK,hL,hl⟩:=hN
  refine hG0 ?_
  clear hG0
  have hR2:=hR
  have hWk:=hR
  have hWk2:=hR
  have hlen:0<(Wo wo ts).length:=by unfold Wo;simp
  walk_at "wk"
  refine ⟨T.clNote,T.nN_takes,_,Zhg aT aK aL,T.clNote,T.nN_tails,_,Zhh aT aK aL,?_⟩
  refine ⟨wk,wo,hb,n,rfl,hw,hn,ht,fun H1 k1=>?_⟩
  refine Zm fun G0 hG0=>?_
  obtain ⟨us,htl,hul,hT⟩:=hL.keepW k1.kw
  refine hG0 ?_
  clear hG0
  refine ⟨aK,aL,us,Wo wo ts,0,_,wo.set.width,rfl,k1 _ _ hK (by simp),htl,hlen,by lia,fun e h1 h2=>hT e h1 h2,fun p hp=>⟨p,rfl,_,.inl (.inl Ze),_,rfl,?_⟩⟩
  rw [Nat.zero_add,← Zfy _ _ _ hlen]
  have e:VhPage.broken (wo.set.width-Xw wo.widths (35::VhPage.num10 n)) wo.set.width (Wo wo ts)=ZiH wo ts n:=Zep ht _
  rw [e]
  exact q _ (k1.trans (Kp.new hp))
end
section
variable {P:Program}{w:World}{K:PySem.W.Frag}{mg:Str→Option Value}{base:Heap}{a:Ad}
theorem ZiM (us:List V) {x y:Nat} (h:y≤us.length) (h':x≤y):cutV us (some (x:Int)) (some (y:Int))=(us.drop x).take (y-x):=by
 unfold cutV
 rw [HT.sIx_nat,HT.sIx_nat,Nat.min_eq_left h,Nat.min_eq_left (Nat.le_trans h' h)]
def upTo (br:List Nat) (i:Nat):Nat:=(br.take i).sum
theorem Zex:∀ (br:List Nat) (s i:Nat),i<br.length→(sums s br)[i]?=some (s+upTo br (i+1))
 | [],_,_,h=>by simp at h
 | c::br,s,0,_=>by simp [sums,upTo]
 | c::br,s,i+1,h=>by
  rw [sums,List.getElem?_cons_succ,Zex br (s+c) i (by simpa using h)]
  simp [upTo,List.take_succ_cons];lia
theorem ZaB (br:List Nat) {i c:Nat} (h:br[i]?=some c):upTo br (i+1)=upTo br i+c:=by
 unfold upTo;rw [Z3 h];simp
theorem ZdS (br:List Nat) (i:Nat):upTo br i≤br.sum:=by
 unfold upTo
 have:=List.take_append_drop i br
 have h2:((br.take i)++(br.drop i)).sum=br.sum:=by rw [this]
 rw [List.sum_append] at h2;lia
end
section
variable {P:Program}{w:World}{K:PySem.W.Frag}{mg:Str→Option Value}{base:Heap}{a:Ad}
def lnf (f e:Nat) (o c:Bool) (t:Nat) (n:V):List (Str×V):=[("first",.int (f:Int)),("end",.int (e:Int)),("opens",.bl o),("closes",.bl c),("taken",.int (t:Int)),("note",n)]
theorem Za2 (f e:Nat) (o c:Bool) (t:Nat) (n:V):(lnf f e o c t n).lookup ("first":Str)=some (.int (f:Int)):=by rfl
theorem Zef (f e:Nat) (o c:Bool) (t:Nat) (n:V):(lnf f e o c t n).lookup ("end":Str)=some (.int (e:Int)):=by rfl
theorem Zdk (f e:Nat) (o c:Bool) (t:Nat) (n:V):(lnf f e o c t n).lookup ("opens":Str)=some (.bl o):=by rfl
theorem ZbL (f e:Nat) (o c:Bool) (t:Nat) (n:V):(lnf f e o c t n).lookup ("closes":Str)=some (.bl c):=by rfl
theorem Zge (f e:Nat) (o c:Bool) (t:Nat) (n:V):(lnf f e o c t n).lookup ("taken":Str)=some (.int (t:Int)):=by rfl
theorem ZeQ (f e:Nat) (o c:Bool) (t:Nat) (n:V):(lnf f e o c t n).lookup ("note":Str)=some n:=by rfl
theorem Ziw (f e:Nat) (o c:Bool) (t:Nat) (n n':V):putF "note" n' (lnf f e o c t n)=lnf f e o c t n':=by rfl
def Vy (K:PySem.W.Frag) (a:Ad):Sp:=fun vs H Q _=>∃ (x dx:Addr) (f e:Nat) (o c:Bool) (t:Nat),vs=[.ref x,.int (f:Int),.int (e:Int),.bl o,.bl c,.int (t:Int)]∧H x=some (.ins a.CL dx [])∧Q .non (upd H x (.ins a.CL dx (lnf f e o c t .non)))
abbrev XH:Stmt:=YS (top 24) 0
theorem Zac:Zp ["self","first","end","opens","closes","taken"] ["self","first","end","opens","closes","taken"] (Zc XH):=⟨rfl,rfl,rfl,by decide +kernel,rfl,by decide +kernel,by decide +kernel⟩
theorem Zdh {f:Addr}{fd:FuncData} (F:Fun K "__init__" "Line.__init__" XH f fd) (T:Txt K mg a):FnOk P w K mg base CX0 1 f fd ["self","first","end","opens","closes","taken"] (Vy K a):=by
 refine F.ok Zac (fun vs H Q E h=>?_) (fun cdv A outer s H vs Q E hr h=>?_)
 ·obtain ⟨x,dx,f,e,o,c,t,rfl,hR,q⟩:=h
  rfl
 ·obtain ⟨x,dx,f,e,o,c,t,rfl,hR,q⟩:=h
  have nd:=Zac.nd
  refine ⟨_,(Zb (ZN (pv 0) (pv 1) rfl) (Zb (ZN (pv 0) (pv 2) rfl) (Zb (ZN (pv 0) (pv 3) rfl) (Zb (ZN (pv 0) (pv 4) rfl) (Zb (ZN (pv 0) (pv 5) rfl) (Zf (ZN (pv 0) ZbJ rfl))))))),?_⟩
  have hR2:=hR
  have hWk:=hR
  have hWk2:=hR
  walk_at "wk"
  refine ⟨T.clLine,T.nL_first,(show (0:Nat)<1000 by decide),T.clLine,T.nL_end,(show (1:Nat)<1000 by decide),T.clLine,T.nL_opens,(show (2:Nat)<1000 by decide),T.clLine,T.nL_closes,(show (3:Nat)<1000 by decide),T.clLine,T.nL_taken,(show (4:Nat)<1000 by decide),T.clLine,T.nL_note,(show (5:Nat)<1000 by decide),?_⟩
  simp only [WW]
  exact q
abbrev wtk (wo:VhPage.Work) (k:Nat):Nat:=wtkS wo k
def WX (K:PySem.W.Frag) (a:Ad):Sp:=fun vs H Q _=>∃ (wk:Addr) (wo:VhPage.Work) (hb:List UInt8) (k:Nat),vs=[.ref wk,.int (k:Int)]∧WkR a H wk wo hb∧k<wo.paras.flatten.length∧(∀ x∈wo.paras.flatten,x.length≤64) ∧
 ∀ H',Kp [] H H'→Q (.int (wtk wo k:Nat)) H'
abbrev Xe:Stmt:=top 25
theorem U0:Zp ["work","k"] ["work","k"] (Zc Xe):=⟨rfl,rfl,rfl,by decide +kernel,rfl,by decide +kernel,by decide +kernel⟩
theorem Zco {f:Addr}{fd:FuncData} (F:Fun K "word_takes" "word_takes" Xe f fd) (T:Txt K mg a) (zzak:FnC P w K mg base CX0 2 "cells_of_thing" ["rows","thing"] (Yv K a)):FnOk P w K mg base CX0 3 f fd ["work","k"] (WX K a):=by
 refine F.ok U0 (fun vs H Q E h=>?_) (fun cdv A outer s H vs Q E hr h=>?_)
 ·obtain ⟨wk,wo,hb,k,rfl,hw,hk,h5,q⟩:=h
  rfl
 ·obtain ⟨wk,wo,hb,k,rfl,hw,hk,h5,q⟩:=h
  have nd:=U0.nd
  refine ⟨_,(Zf (Zs (ZG Ya (Zl zzak hr Zz (Za (Zv (pv 0) rfl) (Za (ZK ZC (Zv (pv 0) rfl) (pv 1) (fun _ _=>rfl)) Zd))) (Zr Zj rfl T.len PySem.boot_len (Za (ZK ZC (Zv (pv 0) rfl) (pv 1) (fun _ _=>rfl)) Zd))))),?_⟩
  have hw0:=hw
  refine Zm fun G0 hG0=>?_
  obtain ⟨⟨dw,aR,aH,aP,aW,aS,aE,rs,ps,ws,gs,es,hWk,h2,h3,h4,h6,h7,h8,h9,h10,h11,h12,_⟩,ok,hl⟩:=hw
  refine hG0 ?_
  clear hG0
  have hWk2:=hWk
  have hR:=hWk
  have hR2:=hWk
  walk_at "wk"
  refine Zm fun G0 hG0=>?_
  obtain ⟨ws',l,g1,g2,g3⟩:=YK.get ⟨ws,h8,h9⟩ hk
  refine hG0 ?_
  clear hG0
  have hkg:k<gs.length:=by lia
  obtain ⟨g,hg⟩:∃ g,gs[k]?=some g:=⟨gs[k],List.getElem?_eq_getElem hkg⟩
  refine Zm fun G0 hG0=>?_
  obtain ⟨tv,t1,t2⟩:=h12 k g hg
  refine hG0 ?_
  clear hG0
  have htl:=Paired.length t2
  refine ⟨_,.inl (.inl g1),_,V0 g2,aR,l,wo.widths,_,rfl,⟨rs,h2,h3,ok,hl⟩,g3,Nat.le_trans (ZcN h5 k) (by decide),fun H1 k1=>?_⟩
  refine ⟨_,_,_,k1 _ _ hWk (by simp),T.clWork,T.n_signs,_,Zaq wo.set aR aH aP aW aS aE,aS,rfl,_,.inl (.inl (k1 _ _ h10 (by simp))),_,V0 (v:=V.ref g) (by rw [List.getElem?_map,hg];rfl),g,rfl,_,.inl (.inl (.inl (k1 _ _ t1 (by simp)))),_,rfl,?_⟩
  rw [← htl,List.length_map]
  exact q H1 k1
def Zi1 (wo:VhPage.Work) (o:Bool):Nat:=if o=true then wo.set.width-wo.set.indent else wo.set.width
def JJ (K:PySem.W.Frag) (a:Ad):Sp:=fun vs H Q _=>∃ (wk:Addr) (wo:VhPage.Work) (hb:List UInt8) (o:Bool),vs=[.ref wk,.bl o]∧WkR a H wk wo hb∧wo.set.indent≤wo.set.width∧Q (.int (Zi1 wo o:Nat)) H
abbrev WN:Stmt:=top 26
theorem ZbF:Zp ["work","opens"] ["work","opens"] (Zc WN):=⟨rfl,rfl,rfl,by decide +kernel,rfl,by decide +kernel,by decide +kernel⟩
theorem Zfj {f:Addr}{fd:FuncData} (F:Fun K "room_of" "room_of" WN f fd) (T:Txt K mg a):FnOk P w K mg base CX0 1 f fd ["work","opens"] (JJ K a):=by
 refine F.ok ZbF (fun vs H Q E h=>?_) (fun cdv A outer s H vs Q E hr h=>?_)
 ·obtain ⟨wk,wo,hb,o,rfl,hw,hI,q⟩:=h
  rfl
 ·obtain ⟨wk,wo,hb,o,rfl,hw,hI,q⟩:=h
  have nd:=ZbF.nd
  refine ⟨_,(Zb (Ye (V7 (pv 1) (fun _=>rfl)) (Zf (Zs (ZG Yj (Zv (pv 0) rfl) (Zv (pv 0) rfl)))) Zx) (Zf (Zs (Zv (pv 0) rfl)))),?_⟩
  refine Zm fun G0 hG0=>?_
  obtain ⟨⟨dw,aR,aH,aP,aW,aS,aE,rs,ps,ws,gs,es,hWk,_⟩,_⟩:=hw
  refine hG0 ?_
  clear hG0
  have hWk2:=hWk
  have hR:=hWk
  have hR2:=hWk
  unfold Zi1 at q
  walk_at "wk"
  refine ⟨o,rfl,?_⟩
  cases o
  ·rw [if_neg (by decide)] at *
   walk_at "wk"
   refine ⟨_,rfl,?_⟩
   exact q
  ·rw [if_pos rfl] at *
   walk_at "wk"
   refine ⟨_,rfl,_,rfl,_,rfl,_,rfl,?_⟩
   have ew:(wo.set.width:Int)-(wo.set.indent:Int)=((wo.set.width-wo.set.indent:Nat):Int):=by lia
   rw [ew]
   exact q
def ZgQ (a:Ad) (H:Hp) (wo:VhPage.Work) (x:VhPage.Line) (v:V):Prop:=∃ l d,v=.ref l∧H l=some (.ins a.CL d (lnf x.first (x.first+x.count) x.begins x.ends (WS wo x) .non))
def YE (wo:VhPage.Work) (f e:Nat):List Nat:=(List.range (e-f)).map fun d=>wtk wo (f+d)
theorem VD:∀ (a:Nat) (b:Bool) (l:List Nat),(VhPage.rowLines a b l).length=l.length
 | _,_,[]=>rfl
 | a,b,c::l=>by rw [VhPage.rowLines,List.length_cons,List.length_cons,VD]
theorem Zad:∀ (br:List Nat) (a:Nat) (b:Bool) (i c:Nat),br[i]?=some c→(VhPage.rowLines a b br)[i]?=some ⟨a+upTo br i,c,(if i=0 then b else false),decide (i+1=br.length)⟩
 | [],_,_,_,_,h=>by simp at h
 | d::br,a,b,0,c,h=>by
  simp at h;subst h
  rw [VhPage.rowLines,List.getElem?_cons_zero]
  have e:br.isEmpty=decide (0+1=(d::br).length):=by cases br <;> simp
  rw [e];simp [upTo]
 | d::br,a,b,i+1,c,h=>by
  rw [VhPage.rowLines,List.getElem?_cons_succ,Zad br (a+d) false i c (by simpa using h)]
  have e1:a+d+upTo br i=a+upTo (d::br) (i+1):=by unfold upTo;rw [List.take_succ_cons,List.sum_cons];lia
  have e2:decide (i+1=br.length)=decide (i+1+1=(d::br).length):=decide_eq_decide.mpr (by rw [List.length_cons];lia)
  rw [e1,e2];simp
theorem ZfF {br:List Nat} (h:∀ c∈br,1≤c) {i:Nat} (hi:i≤br.length):i≤upTo br i:=by
 induction i with
 | zero=>exact Nat.zero_le _
 | succ i ih =>
  have hc:br[i]?=some br[i]:=List.getElem?_eq_getElem (by lia)
  have:=h _ (List.getElem_mem (l:=br) (n:=i) (by lia))
  have:=ih (by lia)
  rw [ZaB br hc];lia
theorem ZfE {br:List Nat} (h:∀ c∈br,1≤c) {i:Nat} (hi:i≤br.length):upTo br i=br.sum↔i=br.length:=by
 constructor
 ·intro e
  by_cases z:i=br.length
  ·exact z
  ·have hc:br[i]?=some br[i]:=List.getElem?_eq_getElem (by lia)
   have h1:=h _ (List.getElem_mem (l:=br) (n:=i) (by lia))
   have h2:=ZaB br hc
   have h3:=ZdS br (i+1)
   lia
 ·intro e
  subst e
  unfold upTo;rw [List.take_of_length_le (Nat.le_refl _)]
theorem Zfa (wo:VhPage.Work) (f0 e0 up c:Nat) (b e:Bool) (h:up+c≤e0-f0):(VhPage.Line.spots ⟨f0+up,c,b,e⟩).map (wtkS wo)=((YE wo f0 e0).drop up).take c:=by
 apply List.ext_getElem?
 intro k
 unfold VhPage.Line.spots YE
 rw [List.map_map]
 by_cases hk:k<c
 ·rw [List.getElem?_take_of_lt hk,List.getElem?_map,List.getElem?_range hk,List.getElem?_drop,List.getElem?_map,List.getElem?_range (by lia)]
  show some (wtkS wo (f0+up+k))=some (wtkS wo (f0+(up+k)))
  rw [Nat.add_assoc]
 ·rw [List.getElem?_eq_none (by rw [List.length_map,List.length_range];exact Nat.le_of_not_lt hk),List.getElem?_eq_none (by rw [List.length_take];lia)]
theorem Zb7:∀ l:List Nat,(l.map fun (n:Nat)=>(n:Int)).sum=((l.sum:Nat):Int)
 | []=>rfl
 | x::l=>by rw [List.map_cons,List.sum_cons,List.sum_cons,Zb7 l];lia
def YO (K:PySem.W.Frag) (a:Ad):Sp:=fun vs H Q _=>∃ (wk:Addr) (wo:VhPage.Work) (hb:List UInt8) (f e:Nat),vs=[.ref wk,.int (f:Int),.int (e:Int)]∧WkR a H wk wo hb∧f<e∧e≤wo.paras.flatten.length∧wo.paras.flatten.length≤8192∧(∀ x∈wo.paras.flatten,x.length≤64)∧wo.set.width≤240∧wo.set.indent≤wo.set.width ∧
 ∀ H' p us,H p=none→Kp [] H H'→H' p=some (.lst us)→Paired (fun x v=>ZgQ a H' wo x v∧∀ l,v=.ref l→H l=none) (VhPage.rowLines f true (VhPage.broken (wo.set.width-wo.set.indent) wo.set.width (YE wo f e))) us→(us.Nodup)→Q (.ref p) H'
abbrev ZE:Stmt:=top 27
theorem XQ:Zp ["work","first","end","takes","k","tails","lines","start","line_end","taken"] ["work","first","end"] (Zc ZE):=⟨rfl,rfl,rfl,by decide +kernel,rfl,by decide +kernel,by decide +kernel⟩
theorem Vg:JD ["work","first","end","takes","k","tails","lines","start","line_end","taken"] (Zc ZE) (lcSc (ZaG (stI (Zk ZE) 0))) [("k",4)]:=⟨rfl,by decide +kernel,by decide +kernel,by decide +kernel,by decide +kernel⟩
theorem VL {f:Addr}{fd:FuncData} (F:Fun K "lines_of_paragraph" "lines_of_paragraph" ZE f fd) (T:Txt K mg a) (zzc3:FnC P w K mg base CX0 3 "tails_of" ["takes","room"] (WZ K a)) (zzgn:FnC P w K mg base CX0 3 "ends_of" ["takes","tails","first_room"] (JK K a)) (zzdf:FnC P w K mg base CX0 3 "word_takes" ["work","k"] (WX K a)) (zzfa:FnC P w K mg base CX0 1 "room_of" ["work","opens"] (JJ K a)) (zzeo:J0 P w K mg base CX0 1 a.CL "Line" ["self","first","end","opens","closes","taken"] (Vy K a)):FnOk P w K mg base CX0 4 f fd ["work","first","end"] (YO K a):=by
 refine F.ok XQ (fun vs H Q E h=>?_) (fun cdv A outer s H vs Q E hr h=>?_)
 ·obtain ⟨wk,wo,hb,f0,e0,rfl,hw,hfe,he,hn,h5,hW,hI,q⟩:=h
  rfl
 ·obtain ⟨wk,wo,hb,f0,e0,rfl,hw,hfe,he,hn,h5,hW,hI,q⟩:=h
  have nd:=XQ.nd
  refine ⟨_,(Zb (Jb (i:=3) rfl nd rfl rfl (ZaE rfl rfl rfl rfl) (Jd rfl T.range (Za (pv 1) (Za (pv 2) Zd))) Vg (fun _ _ _ _ _=>(Yl (i:=4) nd rfl (Or.inl rfl))) (fun _ _ _ _ _=>W6) (fun _ _ _ _ _=>(Zl zzdf hr Zz (Za (pv 0) (Za (pv 4) Zd))))) (Zb (Zo (i:=5) nd rfl (Or.inl rfl) (Zl zzc3 hr Zz (Za (pv 3) (Za (Zl zzfa hr Zz (Za (pv 0) (Za Zfg Zd))) Zd)))) (Zb (Zo (i:=6) nd rfl (Or.inl rfl) (YR Zd)) (Zb (Zo (i:=7) nd rfl (Or.inl rfl) Zh) (Zb (VF PassesOwn.never rfl (VI (Zl zzgn hr Zz (Za (pv 3) (Za (pv 5) (Za (Zl zzfa hr Zz (Za (pv 0) (Za Zfg Zd))) Zd))))) (Yl (i:=8) nd rfl (Or.inl rfl)) (Zb (Zo (i:=9) nd rfl (Or.inl rfl) (ZG Yj (ZG Yj (ZG Ya (Zr (ZgE rfl) rfl T.sum boot_sum (Za (ZeL ZfU (pv 3) (ZdZ (pv 7)) (ZdZ (pv 8))) Zd)) (pv 8)) (pv 7)) Zh)) (Zb (Zy (X6 PySem.F.plainAttrs_list PySem.F.slot_list_append PySem.F.type_list_append Yq (pv 6) (Za (W9 zzeo hr Zz (Za (ZG Ya (pv 1) (pv 7)) (Za (ZG Ya (pv 1) (pv 8)) (Za (Wk Va (pv 7) Zh (Zu _)) (Za (Wk Va (ZG Ya (pv 1) (pv 8)) (pv 2) (Zu _)) (Za (pv 9) Zd)))))) Zd))) (Zf (Zo (i:=7) nd rfl (Or.inl rfl) (pv 8)))))) (Zf (Zs (pv 6)))))))),?_⟩
  have hw0:=hw
  refine Zm fun G0 hG0=>?_
  obtain ⟨⟨dw,aR,aH,aP,aW,aS,aE,rs,ps,ws,gs,es,hWk0,_⟩,ok,hl⟩:=hw
  refine hG0 ?_
  clear hG0
  have hz:sizeLine=16777216:=by decide
  refine ⟨_,rfl,_,rfl,_,_,rfl,⟨by lia,by lia,by lia,by lia⟩,fun D hD=>?_⟩
  have en:Int.toNat ((e0:Int)-(f0:Int))=e0-f0:=by lia
  rw [en]
  obtain ⟨Pv,hPv⟩:∃ Pv:Nat→Hp→Prop,Pv=fun i H'=>Kp [] H H'∧H' D=some (.lst (lV ((List.range i).map fun d=>wtk wo (f0+d)))):=⟨_,rfl⟩
  refine Jo Pv ?_ ?_ ?_
  ·rw [hPv]
   exact ⟨Kp.new hD,Ze⟩
  ·intro i H2 hi hw2
   rw [hPv] at hw2
   obtain ⟨k,hD2⟩:=hw2
   refine ⟨rfl,?_⟩
   have ei:(f0:Int)+(i:Int)=((f0+i:Nat):Int):=by lia
   rw [ei]
   simp only [tYes]
   refine ⟨_,rfl,_,rfl,wk,wo,hb,f0+i,rfl,hw0.keep k,by lia,h5,fun H3 k3=>?_⟩
   refine ⟨_,k3 _ _ hD2 (by simp),by rw [Z6,List.length_map,List.length_range];lia,?_⟩
   rw [hPv]
   refine ⟨(k.trans k3).put2 (.inr hD),?_⟩
   rw [Ze,List.range_succ,List.map_append]
   unfold lV
   rw [List.map_append];rfl
  ·intro H2 hw2
   rw [hPv] at hw2
   obtain ⟨k,hD2⟩:=hw2
   clear hPv Pv
   have hD2:H2 D=some (.lst (lV (YE wo f0 e0))):=hD2
   have hpl:(YE wo f0 e0).length=e0-f0:=by unfold YE;simp
   walk_at "rd"
   refine ⟨wk,wo,hb,false,rfl,hw0.keep k,hI,D,YE wo f0 e0,wo.set.width,rfl,hD2,by lia,by lia,by lia,fun H3 p3 hp3 k3 hT3=>?_⟩
   walk_at "rd"
   refine ⟨by decide,fun p4 hp4=>?_⟩
   have k23:Kp [] H H3:=k.trans k3
   have k4:Kp [] H (upd H3 p4 (HO.lst [])):=k23.trans (Kp.new hp4)
   have hp0:H p4=none:=k23.free (by simp) hp4
   have hD4:upd H3 p4 (HO.lst []) D=some (.lst (lV (YE wo f0 e0))):=(Kp.new (S:=[]) hp4) _ _ (k3 _ _ hD2 (by simp)) (by simp)
   have hT4:UU (upd H3 p4 (HO.lst [])) p3 wo.set.width (YE wo f0 e0):=hT3.keepW (Kp.new (S:=[]) hp4).kw
   refine ⟨_,rfl,_,rfl,_,rfl,wk,wo,hb,true,rfl,hw0.keep k4,hI,D,p3,YE wo f0 e0,wo.set.width-wo.set.indent,wo.set.width,rfl,hD4,hT4,by lia,by lia,by lia,fun H5 p5 hp5 k5 hl5=>?_⟩
   have hsum:=JX (wo.set.width-wo.set.indent) wo.set.width (YE wo f0 e0) (by lia)
   have hpos:=JY (wo.set.width-wo.set.indent) wo.set.width (YE wo f0 e0) (by lia)
   rw [hpl] at hsum
   have k45:=k4.trans k5
   have hp45:H5 p4=some (.lst []):=k5 _ _ Ze (by simp)
   have hD5:H5 D=some (.lst (lV (YE wo f0 e0))):=k5 _ _ hD4 (by simp)
   have p45:p5≠p4:=fun z=>by rw [z,Ze] at hp5;cases hp5
   have p4D:D≠p4:=fun z=>by rw [← z,k3 _ _ hD2 (by simp)] at hp4;cases hp4
   generalize VhPage.broken (wo.set.width-wo.set.indent) wo.set.width (YE wo f0 e0)=br at *
   obtain ⟨Pv,hPv⟩:∃ Pv:WT,Pv=fun i σ H'=>∃ o o2:Option V,σ=[some (.ref wk),some (.int (f0:Int)),some (.int (e0:Int)),some (.ref D),none,some (.ref p3),some (.ref p4),some (.int (upTo br i:Nat)),o,o2]∧Kp [] H H'∧Kp [p4] H5 H'∧∃ us,H' p4=some (.lst us)∧Paired (fun x v=>ZgQ a H' wo x v∧∀ l,v=.ref l→H l=none) ((VhPage.rowLines f0 true br).take i) us∧us.Nodup:=⟨_,rfl⟩
   refine ⟨p5,rfl,⟨_,.inl (.inl hl5)⟩,Zas (xs:=lV (sums 0 br)) Pv ?_ ?_ ?_ ?_⟩
   ·rw [hPv]
    exact ⟨none,none,rfl,k45,Kp.refl,[],hp45,.nil,List.nodup_nil⟩
   ·intro i σ H' _ hw'
    rw [hPv] at hw'
    refine Zm fun G0 hG0=>?_
    obtain ⟨o,o2,rfl,k,k',_⟩:=hw'
    refine hG0 ?_
    clear hG0
    exact .inl (.inl (k' _ _ hl5 (by simp [p45])))
   ·intro i v σ H7 hi hw'
    rw [hPv] at hw'
    refine Zm fun G0 hG0=>?_
    obtain ⟨o,o2,rfl,k7,k7',us,hus,hP,hnd⟩:=hw'
    refine hG0 ?_
    clear hG0
    refine Zm fun G0 hG0=>?_
    obtain ⟨e,he',rfl⟩:=ZhU hi
    refine hG0 ?_
    clear hG0
    have hib:i<br.length:=by
     have:=(List.getElem?_eq_some_iff.mp he').1
     rw [UW] at this;exact this
    obtain ⟨c,hc⟩:∃ c,br[i]?=some c:=⟨br[i],List.getElem?_eq_getElem hib⟩
    rw [Zex br 0 i hib,Nat.zero_add] at he'
    have he2:upTo br (i+1)=e:=by simpa using he'
    have hsu:=ZaB br hc
    have hul:=ZdS br (i+1)
    have hcp:=hpos c (List.mem_of_getElem? hc)
    have hD7:H7 D=some (.lst (lV (YE wo f0 e0))):=k7' _ _ hD5 (by simp [p4D])
    have hul2:upTo br i≤upTo br (i+1):=by lia
    have hge:=ZfF hpos (i:=i) (by lia)
    have hga:=ZfE hpos (i:=i+1) (by lia)
    have h9:=ZfF hpos (i:=br.length) (Nat.le_refl _)
    have h10:=ZdS br br.length
    walk_at "rd"
    refine ⟨_,.inl (.inl hD7),fun p8 hp8=>?_⟩
    rw [ZiM (lV (YE wo f0 e0)) (x:=upTo br i) (y:=e) (by rw [Z6];lia) (by lia)]
    have el:((lV (YE wo f0 e0)).drop (upTo br i)).take (e-upTo br i)=((((YE wo f0 e0).drop (upTo br i)).take c).map fun (n:Nat)=>(n:Int)).map V.int:=by
     unfold lV
     rw [← List.map_drop,← List.map_take,List.map_map,show e-upTo br i=c by lia];rfl
    rw [el]
    have k8:Kp [] H7 (upd H7 p8 (HO.lst (((((YE wo f0 e0).drop (upTo br i)).take c).map fun (n:Nat)=>(n:Int)).map V.int))):=Kp.new hp8
    refine ⟨p8,_,rfl,.inl (.inl Ze),?_⟩
    generalize upd H7 p8 (HO.lst (((((YE wo f0 e0).drop (upTo br i)).take c).map fun (n:Nat)=>(n:Int)).map V.int))=H8 at *
    have hus8:H8 p4=some (.lst us):=k8 _ _ hus (by simp)
    refine ⟨_,rfl,.inl ⟨rfl,_,.inl (.inl hus8)⟩,fun x dx hx hdx hxd=>?_⟩
    have ef:(f0:Int)+(e:Int)=((f0+e:Nat):Int):=by lia
    have ef2:(f0:Int)+(upTo br i:Nat)=((f0+upTo br i:Nat):Int):=by lia
    have d1:decide (((upTo br i:Nat):Int)=0)=(if i=0 then true else false):=by
     by_cases z:i=0
     ·subst z;simp [upTo]
     ·rw [if_neg z];exact decide_eq_false (by lia)
    have d2:decide (((f0+e:Nat):Int)=(e0:Int))=decide (i+1=br.length):=decide_eq_decide.mpr (by
     rw [← hga];lia)
    have htk:WS wo ⟨f0+upTo br i,c,(if i=0 then true else false),decide (i+1=br.length)⟩=(((YE wo f0 e0).drop (upTo br i)).take c).sum+(c-1):=by
     unfold WS VhPage.takes
     rw [Zfa wo f0 e0 (upTo br i) c _ _ (by lia),List.length_take,List.length_drop,hpl,show min c (e0-f0-upTo br i)=c by lia]
    rw [ef,ef2,Zb7,d1,d2]
    have et:(((((YE wo f0 e0).drop (upTo br i)).take c).sum:Nat):Int)+(e:Int)-(upTo br i:Nat)-1=((WS wo ⟨f0+upTo br i,c,(if i=0 then true else false),decide (i+1=br.length)⟩:Nat):Int):=by
     rw [htk];lia
    rw [et]
    have x4:p4≠x:=Zg hus8 hx
    have dx4:p4≠dx:=Zg hus8 hdx
    have k78:=k7.trans k8
    have hx0:H x=none:=k78.free (by simp) hx
    refine ⟨x,dx,f0+upTo br i,f0+e,_,_,_,rfl,Ze,rfl,us,?_,?_,?_⟩
    ·rw [WW,Zi x4,Zi dx4];exact hus8
    ·have:=Paired.length hP
     rw [List.length_take,VD] at this
     have hz:sizeLine=16777216:=by decide
     lia
    ·rw [WW]
     generalize hN:HO.ins a.CL dx (lnf (f0+upTo br i) (f0+e) (if i=0 then true else false) (decide (i+1=br.length)) (WS wo ⟨f0+upTo br i,c,(if i=0 then true else false),decide (i+1=br.length)⟩) .non)=N
     have hk:Kp [] H8 (upd (upd H8 dx (HO.own x)) x N):=fun b o hb' _=>by
      rw [Zi (Zg hb' hx),Zi (Zg hb' hdx)];exact hb'
     have hxl:upd (upd H8 dx (HO.own x)) x N x=some N:=Ze
     generalize upd (upd H8 dx (HO.own x)) x N=H9 at *
     rw [hPv]
     refine ⟨_,_,by rw [he2],(k78.trans hk).put2 (.inr hp0),(k7'.trans ((k8.trans hk).mono (by simp))).put2 (.inl (by simp)),us++[V.ref x],Ze,?_,?_⟩
     ·rw [Z3 (Zad br f0 true i c hc)]
      refine Paired.snoc (Paired.mono (fun y v z=>?_) hP) ⟨⟨x,dx,rfl,?_⟩,fun l z=>by cases z;exact hx0⟩
      ·refine Zm fun G0 hG0=>?_
       obtain ⟨⟨l,d,e1,e2⟩,nl⟩:=z
       refine hG0 ?_
       clear hG0
       exact ⟨⟨l,d,e1,by rw [Zi (fun z=>by rw [z,hus] at e2;cases e2)];exact hk _ _ (k8 _ _ e2 (by simp)) (by simp)⟩,nl⟩
      ·rw [Zi (Ne.symm x4),hxl,← hN]
       have e3:f0+upTo br i+c=f0+e:=by lia
       simp only [e3]
     ·rw [List.nodup_append]
      refine ⟨hnd,by simp,fun b hb' y hy=>?_⟩
      have ey:y=V.ref x:=by simpa using hy
      subst ey
      intro z
      subst z
      obtain ⟨j,hj⟩:=List.mem_iff_getElem?.mp hb'
      refine Zm fun G0 hG0=>?_
      obtain ⟨y,_,⟨l,d,e1,e2⟩,_⟩:=Paired.get hP hj
      refine hG0 ?_
      clear hG0
      cases e1
      rw [k8 _ _ e2 (by simp)] at hx;cases hx
   ·intro σ H7 hw'
    rw [hPv] at hw'
    refine Zm fun G0 hG0=>?_
    obtain ⟨o,o2,rfl,k7,k7',us,hus,hP,hnd⟩:=hw'
    refine hG0 ?_
    clear hG0
    rw [Z6,UW,List.take_of_length_le (by rw [VD];exact Nat.le_refl _)] at hP
    walk_at "rd"
    exact q H7 p4 us hp0 k7 hus hP hnd
end
section
variable {P:Program}{w:World}{K:PySem.W.Frag}{mg:Str→Option Value}{base:Heap}{a:Ad}
def YL (wo:VhPage.Work) (es:List VhPage.Entry) (k:Nat):List (List Nat):=(es.filter fun e=>VhPage.lineOf (lnl wo) e.first==k).flatMap fun e=>keyL wo.paras.flatten ((VhPage.laid wo).line k).first (((VhPage.laid wo).line k).first+((VhPage.laid wo).line k).count) e.first e.count::e.toks
def Yi (wo:VhPage.Work) (k:Nat):List (List Nat):=YL wo wo.entries k
theorem ZdW (wo:VhPage.Work) (es:List VhPage.Entry) {k:Nat} (e:VhPage.Entry) (h:VhPage.lineOf (lnl wo) e.first=k):YL wo (es++[e]) k=YL wo es k++(keyL wo.paras.flatten ((VhPage.laid wo).line k).first (((VhPage.laid wo).line k).first+((VhPage.laid wo).line k).count) e.first e.count::e.toks):=by
 unfold YL
 rw [List.filter_append,List.flatMap_append]
 simp [h]
theorem ZfK (wo:VhPage.Work) (es:List VhPage.Entry) {k:Nat} (e:VhPage.Entry) (h:VhPage.lineOf (lnl wo) e.first≠k):YL wo (es++[e]) k=YL wo es k:=by
 unfold YL
 rw [List.filter_append,List.flatMap_append]
 simp [h]
theorem Zho (wo:VhPage.Work) (k:Nat) (e:VhPage.Entry):(VhPage.laid wo).key k e=keyL wo.paras.flatten ((VhPage.laid wo).line k).first (((VhPage.laid wo).line k).first+((VhPage.laid wo).line k).count) e.first e.count:=by
 have hs:(VhPage.laid wo).words.size=wo.paras.flatten.length:=by rw [ZbO];simp
 unfold VhPage.Laid.key keyL VhPage.Laid.which Vj Zc1 VhPage.Line.spots
 simp only [hs,Zgh,Nat.add_sub_cancel_left]
theorem Zbz (wo:VhPage.Work) (k:Nat):Yi wo k=[]↔(wo.entries.filter fun e=>VhPage.lineOf (lnl wo) e.first==k)=[]:=by
 unfold Yi YL
 constructor
 ·intro h
  cases z:(wo.entries.filter fun e=>VhPage.lineOf (lnl wo) e.first==k) with
  | nil=>rfl
  | cons e es=>rw [z] at h;simp at h
 ·intro h;rw [h];rfl
theorem Zgb (wo:VhPage.Work) {k:Nat} (hk:k<(lnl wo).length) (n:Nat):(VhPage.laid wo).note k n=if Yi wo k=[] then [] else (35::VhPage.num10 n)::Yi wo k:=by
 unfold VhPage.Laid.note
 simp only []
 rw [Zai wo hk]
 by_cases h:Yi wo k=[]
 ·rw [if_pos h,(Zbz wo k).mp h];rfl
 ·rw [if_neg h,if_neg (by rw [List.isEmpty_iff];exact fun z=>h ((Zbz wo k).mpr z))]
  congr 1
  unfold Yi YL
  congr 1
  funext e
  rw [Zho]
theorem Zg8 (wo:VhPage.Work) {k:Nat} (hk:k<(lnl wo).length) (i:Nat):ownN (VhPage.laid wo) i k=if Yi wo k=[] then 0 else (ZiH wo (Yi wo k) ((VhPage.laid wo).numberOf i k)).length:=by
 unfold ownN VhPage.Laid.footOf
 simp only []
 rw [ZgD,Zgb wo hk,Wr]
 split
 ·rfl
 ·rfl
theorem JF (wo:VhPage.Work):∀ (es:List VhPage.Entry) (k:Nat),(YL wo es k).length≤(es.map fun e=>e.toks.length+2).sum
 | [],k=>Nat.le_refl _
 | e::es,k=>by
  have ih:=JF wo es k
  unfold YL at *
  rw [List.filter_cons,List.map_cons,List.sum_cons]
  split
  ·rw [List.flatMap_cons,List.length_append,List.length_cons];lia
  ·lia
theorem ZiA (wds:List (List Nat)) (h5:∀ x∈wds,x.length≤64) (lf le f m:Nat) (h:le-lf≤8192) (hm:m≤8192):(keyL wds lf le f m).length≤1000:=by
 have w1:=ZcN h5 f
 have w2:=ZcK wds lf le f h
 have w3:=ZcN h5 (f+m-1)
 have w4:=Wn (n:=m) (k:=5) (by decide) (by lia)
 unfold keyL
 have h1:(if m=0 then [43] else []:List Nat).length≤1:=by split <;> simp
 have h2:(if f<wds.length then wds.getD f []++Vj wds lf le f else []).length≤70:=by
  split
  ·rw [List.length_append];lia
  ·simp
 have h3:(if 2≤m then 126::(VhPage.num10 m++126::wds.getD (f+m-1) []) else []).length≤100:=by
  split
  ·simp only [List.length_append,List.length_cons];lia
  ·simp
 simp only [List.length_append,List.length_cons,List.length_nil]
 lia
theorem Za3 {wo:VhPage.Work} (ok:WOk wo) {k:Nat}{x:VhPage.Line} (h:(lnl wo)[k]?=some x):1≤x.count∧x.first+x.count≤wo.paras.flatten.length:=by
 have:=VW (Xu ok) h
 lia
theorem ZcO {wo:VhPage.Work} (ok:WOk wo) {k:Nat} (hk:k<(lnl wo).length):∀ t∈Yi wo k,t.length≤1048576:=by
 intro t ht
 unfold Yi YL at ht
 obtain ⟨e,he,ht⟩:=List.mem_flatMap.mp ht
 have he:=(List.mem_filter.mp he).1
 have:=ok.ent e he
 have hz:=ok.size
 have hx:(lnl wo)[k]?=some (lnl wo)[k]:=List.getElem?_eq_getElem hk
 have hb:=Za3 ok hx
 rcases List.mem_cons.mp ht with rfl | ht
 ·rw [Jp wo hx]
  refine Nat.le_trans (ZiA _ (fun x hx=>?_) _ _ _ _ (by lia) (by lia)) (by decide)
  obtain ⟨q,hq,hx⟩:=List.mem_flatten.mp hx
  exact ((ok.para q hq).2 x hx).2.1
 ·exact Nat.le_trans (this.2.2.2 t ht).2.1 (by decide)
theorem Zaw {wo:VhPage.Work} (ok:WOk wo):∀ x∈wo.paras.flatten,x.length≤64:=fun x hx=>by
 obtain ⟨q,hq,hx⟩:=List.mem_flatten.mp hx
 exact ((ok.para q hq).2 x hx).2.1
theorem Zhy {wo:VhPage.Work} (ok:WOk wo) (he:wo.entries≠[]):0<(lnl wo).length:=by
 obtain ⟨e,es,h⟩:∃ e es,wo.entries=e::es:=by
  cases z:wo.entries with
  | nil=>exact absurd z he
  | cons e es=>exact ⟨e,es,rfl⟩
 have:=(ok.ent e (by rw [h];simp)).2.1
 have hc:=Xu ok
 cases z:lnl wo with
 | nil=>rw [z] at hc;have:0=wo.paras.flatten.length:=hc;lia
 | cons x l=>simp
theorem ZdX {t:TT}{σ:L2.St}{H:Hp}{Q:Bool→Hp→Prop} (b:Bool) (h:∀ Q:Bool→Hp→Prop,Q b H→t σ H Q) (q:Q b H):t σ H Q:=h Q q
theorem WB {p q:Nat}{f:Str}{σ:L2.St}{H:Hp}{Q:VK}{ll l C d:Addr}{us:List V}{fs:List (Str×V)}{j:Nat}{v:V} (h1:σ[p]?=some (some (.ref ll))) (h2:σ[q]?=some (some (.int (j:Int)))) (h3:H ll=some (.lst us)) (h4:us[j]?=some (.ref l)) (h5:H l=some (.ins C d fs)) (c:Cls K C) (n:ZF K C f) (h6:fs.lookup f=some v) (hq:Q v H):tFld K (tOp (rIxL K) (tVar p) (tVar q)) f σ H Q :=
 ⟨_,h1,_,h2,Y7 h3 h4 ⟨l,C,d,fs,v,rfl,h5,c,n,h6,hq⟩⟩
def ThAt (H H':Hp) (gs:List Addr) (wo:VhPage.Work) (es:List VhPage.Entry):Prop:=∀ k g,gs[k]?=some g→∃ ts,H' g=some (.lst ts)∧Paired (fun y v=>LI H' y v∧∀ g'∈gs,v≠.ref g') (YL wo es k) ts
def ZhY (a:Ad) (H:Hp) (wo:VhPage.Work) (ll:Addr) (us:List V):Prop:=H ll=some (.lst us)∧Paired (ZgQ a H wo) (lnl wo) us
def Xo (K:PySem.W.Frag) (a:Ad):Sp:=fun vs H Q _=>∃ (wk ll:Addr) (wo:VhPage.Work) (hb:List UInt8) (us:List V),vs=[.ref wk,.ref ll]∧WkR a H wk wo hb∧WOk wo∧ZhY a H wo ll us ∧
 ∀ H' p (gs:List Addr),H p=none→Kp [] H H'→H' p=some (.lst (gs.map V.ref))→gs.length=(lnl wo).length→(∀ k g,gs[k]?=some g→YK H' g (Yi wo k))→Q (.ref p) H'
abbrev ZM:Stmt:=top 28
theorem Wv:Zp ["work","lines","things","line","at","entry"] ["work","lines"] (Zc ZM):=⟨rfl,rfl,rfl,by decide +kernel,rfl,by decide +kernel,by decide +kernel⟩
theorem Ud:JD ["work","lines","things","line","at","entry"] (Zc ZM) (lcSc (ZaG (stI (Zk ZM) 0))) [("line",3)]:=⟨rfl,by decide +kernel,by decide +kernel,by decide +kernel,by decide +kernel⟩
theorem Jg {f:Addr}{fd:FuncData} (F:Fun K "things_of_notes" "things_of_notes" ZM f fd) (T:Txt K mg a) (zzie:FnC P w K mg base CX0 2 "key_of" ["words","line_first","line_end","f","m"] (ZaH K a)):FnOk P w K mg base CX0 3 f fd ["work","lines"] (Xo K a):=by
 refine F.ok Wv (fun vs H Q E h=>?_) (fun cdv A outer s H vs Q E hr h=>?_)
 ·obtain ⟨wk,ll,wo,hb,us,rfl,hw,ok,hL,q⟩:=h
  rfl
 ·obtain ⟨wk,ll,wo,hb,us,rfl,hw,ok,hL,q⟩:=h
  have nd:=Wv.nd
  refine ⟨_,(Zb (Jb (i:=2) rfl nd rfl rfl (ZaE rfl rfl rfl rfl) (VI (pv 1)) Ud (fun _ _ _ _ _=>(Yl (i:=3) nd rfl (Or.inl rfl))) (fun _ _ _ _ _=>W6) (fun _ _ _ _ _=>(YR Zd))) (Zb (Zo (i:=4) nd rfl (Or.inl rfl) Zh) (Zb (VF PassesOwn.never rfl (VI (Zv (pv 0) rfl)) (Yl (i:=5) nd rfl (Or.inl rfl)) (Zb (Yu PassesOwn.never (PW.pt (Xm (Zq Wm (pv 4) (ZG Yj (Zr Zj rfl T.len PySem.boot_len (Za (pv 1) Zd)) Zh) (Zu _)) (Xc (Zq Zf6 (ZK YF (pv 5) Zh (fun _ _=>rfl)) (Zv (ZK ZC (pv 1) (pv 4) (fun _ _=>rfl)) rfl) (Zu _))))) (Zf (Ur (i:=4) nd rfl (Or.inl rfl) Zh Jq))) (Zb (Zy (X6 PySem.F.plainAttrs_list PySem.F.slot_list_append PySem.F.type_list_append Yq (ZK ZC (pv 2) (pv 4) (fun _ _=>rfl)) (Za (Zl zzie hr Zz (Za (Zv (pv 0) rfl) (Za (Zv (ZK ZC (pv 1) (pv 4) (fun _ _=>rfl)) rfl) (Za (Zv (ZK ZC (pv 1) (pv 4) (fun _ _=>rfl)) rfl) (Za (ZK YF (pv 5) Zh (fun _ _=>rfl)) (Za (ZK YF (pv 5) Zh (fun _ _=>rfl)) Zd)))))) Zd))) (Zf (Zy (X6 PySem.F.plainAttrs_list PySem.F.slot_list_extend PySem.F.type_list_extend Xr (ZK ZC (pv 2) (pv 4) (fun _ _=>rfl)) (Za (ZK YF (pv 5) Zh (fun _ _=>rfl)) Zd))))))) (Zf (Zs (pv 2)))))),?_⟩
  have hw0:=hw
  refine Zm fun G0 hG0=>?_
  obtain ⟨⟨dw,aR,aH,aP,aW,aS,aE,rs,ps,ws,gs0,es,hWk0,h2,h3,h4,h5,h6,h7,h8,h9,h10,h11,h12,h13⟩,rok,hl⟩:=hw
  refine hG0 ?_
  clear hG0
  have hlu:=Paired.length hL.2
  have hn8:=ok.size
  have hll:=UI ok
  have hz:sizeLine=16777216:=by decide
  refine ⟨_,rfl,ll,rfl,⟨_,.inl (.inl hL.1)⟩,fun D hD=>?_⟩
  obtain ⟨Pv,hPv⟩:∃ Pv:Nat→Hp→Prop,Pv=fun i H'=>∃ gs:List Addr,gs.length=i∧H' D=some (.lst (gs.map V.ref))∧Kp [] H H'∧(∀ g∈gs,H g=none∧H' g=some (.lst [])∧g≠D)∧gs.Nodup:=⟨_,rfl⟩
  refine Zcx (xs:=us) Pv ?_ ?_ ?_ ?_
  ·rw [hPv]
   exact ⟨[],rfl,Ze,Kp.new hD,fun g hg=>absurd hg (by simp),List.nodup_nil⟩
  ·intro i H' _ hw
   rw [hPv] at hw
   refine Zm fun G0 hG0=>?_
   obtain ⟨gs,_,_,k,_⟩:=hw
   refine hG0 ?_
   clear hG0
   exact .inl (.inl (k _ _ hL.1 (by simp)))
  ·intro i x H2 hi hw
   rw [hPv] at hw
   refine Zm fun G0 hG0=>?_
   obtain ⟨gs,hg1,hg2,k,hg3,hg4⟩:=hw
   refine hG0 ?_
   clear hG0
   refine ⟨rfl,?_⟩
   simp only [tYes]
   walk_at "rd"
   refine ⟨Nat.zero_le _,fun g hg=>?_⟩
   have gD:D≠g:=Zg hg2 hg
   refine ⟨gs.map V.ref,by rw [Zi gD];exact hg2,?_,?_⟩
   ·have:=(List.getElem?_eq_some_iff.mp hi).1
    rw [List.length_map];lia
   rw [hPv]
   have hg0:H g=none:=k.free (by simp) hg
   refine ⟨gs++[g],by simp [hg1],by rw [Ze];simp,(k.trans (Kp.new hg)).put2 (.inr hD),fun c hc=>?_,?_⟩
   ·rcases List.mem_append.mp hc with h | h
    ·refine Zm fun G0 hG0=>?_
     obtain ⟨h1,h2,h3⟩:=hg3 c h
     refine hG0 ?_
     clear hG0
     exact ⟨h1,by rw [Zi h3,Zi (Zg h2 hg)];exact h2,h3⟩
    ·have e:c=g:=by simpa using h
     subst e
     exact ⟨hg0,by rw [Zi (Ne.symm gD),Ze],Ne.symm gD⟩
   ·rw [List.nodup_append]
    refine ⟨hg4,by simp,fun b hb c hc=>?_⟩
    have e:c=g:=by simpa using hc
    subst e
    exact Zg (hg3 b hb).2.1 hg
  ·intro H2 hw
   rw [hPv] at hw
   refine Zm fun G0 hG0=>?_
   obtain ⟨gs,hg1,hg2,k2,hg3,hg4⟩:=hw
   refine hG0 ?_
   clear hG0
   clear hPv Pv
   have hWk:=k2 _ _ hWk0 (by simp)
   have hWk2:=hWk
   have hR:=hWk
   have hR2:=hWk
   have hE2:=k2 _ _ h12 (by simp)
   walk_at "wk"
   obtain ⟨Pv,hPv⟩:∃ Pv:WT,Pv=fun i σ H'=>∃ (A:Nat) (o:Option V),σ=[some (.ref wk),some (.ref ll),some (.ref D),none,some (.int (A:Int)),o]∧Kp [] H H'∧H' D=some (.lst (gs.map V.ref))∧ThAt H H' gs wo (wo.entries.take i)∧(A=0∨A<(lnl wo).length)∧∀ t x,t<A→(lnl wo)[t]?=some x→∀ e∈wo.entries.drop i,x.first+x.count≤e.first:=⟨_,rfl⟩
   refine ⟨_,rfl,wk,a.CW,dw,_,_,rfl,hWk,T.clWork,T.n_entries,V1 wo.set aR aH aP aW aS aE,aE,rfl,⟨_,.inl (.inl hE2)⟩,Zas (xs:=es) Pv ?_ ?_ ?_ ?_⟩
   ·rw [hPv]
    exact ⟨0,none,rfl,k2,hg2,fun j g hg=>⟨[],(hg3 g (List.mem_of_getElem? hg)).2.1,.nil⟩,.inl rfl,fun t x ht=>by lia⟩
   ·intro i σ H' _ hw'
    rw [hPv] at hw'
    refine Zm fun G0 hG0=>?_
    obtain ⟨A,o,rfl,k,_⟩:=hw'
    refine hG0 ?_
    clear hG0
    exact .inl (.inl (k _ _ h12 (by simp)))
   ·intro i v σ H3 hi hw'
    rw [hPv] at hw'
    refine Zm fun G0 hG0=>?_
    obtain ⟨A,o,rfl,k3,hD3,hT3,hA,hB⟩:=hw'
    refine hG0 ?_
    clear hG0
    refine Zm fun G0 hG0=>?_
    obtain ⟨en,hen,t,tl,tv,rfl,ht,htl,htv⟩:=Paired.get h13 hi
    refine hG0 ?_
    clear hG0
    have hmem:en∈wo.entries:=List.mem_of_getElem? hen
    have hne:0<(lnl wo).length:=Zhy ok (fun z=>by rw [z] at hmem;simp at hmem)
    have hdr:wo.entries.drop i=en::wo.entries.drop (i+1):=by
     obtain ⟨hx,ex⟩:=List.getElem?_eq_some_iff.mp hen
     rw [List.drop_eq_getElem_cons hx,ex]
    walk_at "rd"
    have hB0:∀ t x,t<A→(lnl wo)[t]?=some x→x.first+x.count≤en.first:=fun t x h1 h2=>hB t x h1 h2 en (by rw [hdr];simp)
    obtain ⟨W,hW⟩:∃ W:WT,W=fun m σ H'=>H'=H3∧∃ (A':Nat),σ=[some (.ref wk),some (.ref ll),some (.ref D),none,some (.int (A':Int)),some (.ref t)]∧m=(lnl wo).length-A'∧A' < (lnl wo).length∧∀ t x,t<A'→(lnl wo)[t]?=some x→x.first+x.count≤en.first:=⟨_,rfl⟩
    refine ⟨W,⟨_,by rw [hW];exact ⟨rfl,A,rfl,rfl,by lia,hB0⟩⟩,fun m σ H4 hw4=>?_⟩
    rw [hW] at hw4
    refine Zm fun G0 hG0=>?_
    obtain ⟨rfl,A',rfl,rfl,hA',hB'⟩:=hw4
    refine hG0 ?_
    clear hG0
    obtain ⟨x,hx⟩:∃ x,(lnl wo)[A']?=some x:=⟨_,List.getElem?_eq_getElem hA'⟩
    refine Zm fun G0 hG0=>?_
    obtain ⟨v,hv,l,d,rfl,hl0⟩:=Paired.get2 hL.2 hx
    refine hG0 ?_
    clear hG0
    have hl4:=k3 _ _ hl0 (by simp)
    have hL4:=k3 _ _ hL.1 (by simp)
    have ht4:=k3 _ _ ht (by simp)
    refine ZdX (t:=tAnd _ _) (decide (A'+1<(lnl wo).length∧x.first+x.count≤en.first)) (fun Q0 hQ=>?_) ?_
    ·walk_at "rd"
     refine ⟨_,.inl (.inl (.inl hL4)),?_⟩
     rw [← hlu]
     by_cases hn1:A'+1<(lnl wo).length
     ·rw [if_pos (by lia)]
      refine Xt 0 ht4 rfl (WB rfl rfl hL4 hv hl4 T.clLine T.nL_end (Zef _ _ _ _ _ _) ⟨_,rfl,_,rfl,?_⟩)
      have e1:decide (((x.first+x.count:Nat):Int)≤(en.first:Int))=decide (A'+1<(lnl wo).length∧x.first+x.count≤en.first):=decide_eq_decide.mpr (by lia)
      rw [e1];exact hQ
     ·rw [if_neg (by lia)]
      have e1:decide (A'+1<(lnl wo).length∧x.first+x.count≤en.first)=false:=decide_eq_false (by lia)
      rw [e1] at hQ;exact hQ
    ·by_cases hd:A'+1<(lnl wo).length∧x.first+x.count≤en.first
     ·rw [if_pos (by simpa using hd)]
      refine ⟨fun σ' H'=>∃ m',m' < (lnl wo).length-A'∧W m' σ' H',fun _ _ z=>z,?_⟩
      walk_at "rd"
      refine ⟨(lnl wo).length-(A'+1),by lia,?_⟩
      rw [hW]
      refine ⟨rfl,A'+1,rfl,rfl,by lia,fun t y ht hy=>?_⟩
      by_cases z:t=A'
      ·subst z
       rw [hx] at hy
       cases hy
       exact hd.2
      ·exact hB' t y (by lia) hy
     ·rw [if_neg (by simpa using hd)]
      have hlo:VhPage.lineOf (lnl wo) en.first=A':=Zdm (lnl wo) 0 _ A' (Xu ok) (Nat.zero_le _) hA' hB' (by
       by_cases z:A'+1=(lnl wo).length
       ·exact .inl z
       ·exact .inr ⟨x,hx,by lia⟩)
      have hxb:=Za3 ok hx
      have hxl:=Jp wo hx
      have hoe:=ok.ent en hmem
      have hcg:=VW (Xu ok) hx
      obtain ⟨g,hg⟩:∃ g,gs[A']?=some g:=⟨_,List.getElem?_eq_getElem (by lia)⟩
      have hgm:g∈gs:=List.mem_of_getElem? hg
      refine Zm fun G0 hG0=>?_
      obtain ⟨ts,hts,hPts⟩:=hT3 A' g hg
      refine hG0 ?_
      clear hG0
      have hW4:=k3 _ _ h7 (by simp)
      have hwk4:=k3 _ _ hWk0 (by simp)
      have hxf:x.first≤en.first:=by
       cases A' with
       | zero=>rw [ZbY (Xu ok) hx];lia
       | succ B' =>
        have hy:(lnl wo)[B']?=some (lnl wo)[B']:=List.getElem?_eq_getElem (by lia)
        rw [Zb0 (Xu ok) hy hx]
        exact hB' B' _ (by lia) hy
      have hxe:en.first<wo.paras.flatten.length→en.first<x.first+x.count:=fun hf=>by
       by_cases z:A'+1=(lnl wo).length
       ·rw [Zb1 (Xu ok) hx z];exact hf
       ·lia
      have htl2:ts.length≤73728:=by
       rw [← Paired.length hPts]
       refine Nat.le_trans (JF wo _ _) (Nat.le_trans ?_ (ZdU ok))
       have:=List.take_append_drop i wo.entries
       have e2:((wo.entries.take i++wo.entries.drop i).map fun e=>e.toks.length+2).sum=(wo.entries.map fun e=>e.toks.length+2).sum:=by rw [this]
       rw [List.map_append,List.sum_append] at e2
       lia
      refine Zm fun G0 hG0=>?_
      obtain ⟨hgn,_,hgD⟩:=hg3 g hgm
      refine hG0 ?_
      clear hG0
      walk_at "rd"
      refine Y7 (v:=V.ref g) hD3 (j:=A') (by rw [List.getElem?_map,hg];rfl) ⟨.inl ⟨rfl,_,.inl (.inl hts)⟩,?_⟩
      refine ⟨_,rfl,wk,a.CW,dw,_,_,rfl,hwk4,T.clWork,T.n_words,UV wo.set aR aH aP aW aS aE,?_⟩
      refine WB rfl rfl hL4 hv hl4 T.clLine T.nL_first (Za2 _ _ _ _ _ _) ?_
      refine WB rfl rfl hL4 hv hl4 T.clLine T.nL_end (Zef _ _ _ _ _ _) ?_
      refine Xt 0 ht4 rfl (Xt 1 ht4 rfl ?_)
      refine ⟨aW,wo.paras.flatten,x.first,x.first+x.count,en.first,en.count,rfl,YK.keep ⟨ws,h7,h8⟩ k3,hoe.1,fun hf=>⟨hxf,hxe hf⟩,hxb.2,hn8,Zaw ok,fun H5 p5 hp5 k5 hl5=>?_⟩
      have k35:=k3.trans k5
      have hts5:=k5 _ _ hts (by simp)
      have p5g:p5≠g:=fun z=>by rw [z,hts] at hp5;cases hp5
      refine ⟨g,rfl,ts,hts5,by lia,?_⟩
      have tg:t≠g:=Zg ht hgn
      have tlg:tl≠g:=Zg htl hgn
      have htvl:=Paired.length htv
      refine Y7 (v:=V.ref g) (p:=D) (xs:=gs.map V.ref) (j:=A') (by rw [Zi (Ne.symm hgD)];exact k5 _ _ hD3 (by simp)) (by rw [List.getElem?_map,hg];rfl) ⟨.inl ⟨rfl,_,.inl (.inl Ze)⟩,?_⟩
      refine Xt 2 (by rw [Zi tg];exact k35 _ _ ht (by simp)) rfl ⟨g,rfl,tl,rfl,_,Ze,tv,by rw [Zi tlg];exact k35 _ _ htl (by simp),by simp only [List.length_append,List.length_cons,List.length_nil];lia,?_⟩
      rw [WW,hPv]
      have kF:Kp [] H (upd H5 g (HO.lst (ts++[V.ref p5]++tv))):=k35.put2 (.inr hgn)
      have up:∀ b o,H5 b=some o→b≠g→upd H5 g (HO.lst (ts++[V.ref p5]++tv)) b=some o:=fun b o e n1=>by rw [Zi n1];exact e
      have keepL:∀ (y:List Nat) (v:V),(LI H4 y v∧∀ g'∈gs,v≠.ref g')→LI (upd H5 g (HO.lst (ts++[V.ref p5]++tv))) y v∧∀ g'∈gs,v≠.ref g':=by
       rintro y v ⟨⟨b,rfl,hb⟩,nb⟩
       exact ⟨⟨b,rfl,up _ _ (k5 _ _ hb (by simp)) (fun z=>nb g hgm (by rw [z]))⟩,nb⟩
      refine ⟨A',_,rfl,kF,up _ _ (k5 _ _ hD3 (by simp)) (Ne.symm hgD),?_,.inr hA',?_⟩
      ·intro k' g' hg'
       have hgm':g'∈gs:=List.mem_of_getElem? hg'
       refine Zm fun G0 hG0=>?_
       obtain ⟨ts',hts',hP'⟩:=hT3 k' g' hg'
       refine hG0 ?_
       clear hG0
       rw [Z3 hen]
       by_cases hk:k'=A'
       ·subst hk
        have e:g'=g:=Option.some.inj (hg'.symm.trans hg)
        subst e
        refine ⟨ts++[.ref p5]++tv,Ze,?_⟩
        rw [ZdW wo _ en hlo,hxl,List.append_cons (YL wo (wo.entries.take i) k')]
        refine Paired.app (Paired.snoc (Paired.mono keepL hPts) ⟨⟨p5,rfl,up _ _ hl5 p5g⟩,fun g2 hg2 z=>?_⟩) (Paired.mono (fun y v z=>?_) htv)
        ·obtain ⟨i2,hi2⟩:=List.getElem?_of_mem hg2
         refine Zm fun G0 hG0=>?_
         obtain ⟨t2,ht2,_⟩:=hT3 i2 g2 hi2
         refine hG0 ?_
         clear hG0
         have z:p5=g2:=V.ref.inj z
         rw [z,ht2] at hp5
         cases hp5
        ·refine Zm fun G0 hG0=>?_
         obtain ⟨b,rfl,hb⟩:=z
         refine hG0 ?_
         clear hG0
         refine ⟨⟨b,rfl,up _ _ (k35 _ _ hb (by simp)) (Zg hb hgn)⟩,fun g2 hg2 z=>?_⟩
         have z:b=g2:=V.ref.inj z
         rw [z,(hg3 g2 hg2).1] at hb
         cases hb
       ·have ne:g'≠g:=fun z=>hk (Ziq hg4 hg' (by rw [z];exact hg))
        refine ⟨ts',up _ _ (k5 _ _ hts' (by simp)) ne,?_⟩
        rw [ZfK wo _ en (by rw [hlo];exact Ne.symm hk)]
        exact Paired.mono keepL hP'
      ·intro t' y ht' hy e he
       have h1:=hB' t' y ht' hy
       have h2:(wo.entries.drop i).Pairwise (fun x y=>x.first≤y.first):=List.Pairwise.sublist (List.drop_sublist i _) ok.rise
       rw [hdr,List.pairwise_cons] at h2
       have:=h2.1 e he
       lia
   ·intro σ H3 hw'
    rw [hPv] at hw'
    refine Zm fun G0 hG0=>?_
    obtain ⟨A,o,rfl,k3,hD3,hT3,hA,hB⟩:=hw'
    refine hG0 ?_
    clear hG0
    walk_at "rd"
    refine q H3 D gs hD k3 hD3 (by lia) fun j g hg=>?_
    refine Zm fun G0 hG0=>?_
    obtain ⟨ts,t1,t2⟩:=hT3 j g hg
    refine hG0 ?_
    clear hG0
    rw [List.take_of_length_le (by rw [Paired.length h13];exact Nat.le_refl _)] at t2
    exact ⟨ts,t1,Paired.mono (fun x v z=>z.1) t2⟩
end
section
variable {P:Program}{w:World}{K:PySem.W.Frag}{mg:Str→Option Value}{base:Heap}{a:Ad}
def ZfC (a:Ad) (H:Hp) (wo:VhPage.Work) (k:Nat) (v:V):Prop:=(Yi wo k=[]∧v=.non)∨(Yi wo k≠[]∧∃ nt,v=.ref nt∧JC a H nt wo (Yi wo k))
def ZgP (a:Ad) (H:Hp) (ll:Addr) (wo:VhPage.Work):Prop:=∃ us,H ll=some (.lst us)∧us.length=(lnl wo).length∧∀ k x,(lnl wo)[k]?=some x→∃ l d nv,us[k]?=some (V.ref l)∧H l=some (.ins a.CL d (lnf x.first (x.first+x.count) x.begins x.ends (WS wo x) nv))∧ZfC a H wo k nv
theorem ZfC.keep {H H':Hp}{wo:VhPage.Work}{k:Nat}{v:V} (h:ZfC a H wo k v) (kp:Kp [] H H'):ZfC a H' wo k v:=by
 rcases h with h | ⟨h1,nt,e,h2⟩
 ·exact .inl h
 ·exact .inr ⟨h1,nt,e,h2.keep kp⟩
theorem Ut (s:VhPage.Settings) (q:List Vh.Letters):∀ (ps:List (List Vh.Letters)) (b:Nat) (t:List Nat),VhPage.linesFrom s b t (ps++[q])=VhPage.linesFrom s b t ps++VhPage.rowLines (b+ps.flatten.length) true (VhPage.broken (s.width-s.indent) s.width ((t.drop ps.flatten.length).take q.length))
 | [],b,t=>by simp [VhPage.linesFrom]
 | p::ps,b,t=>by
  rw [List.cons_append,VhPage.linesFrom,Ut s q ps,VhPage.linesFrom,List.append_assoc,List.drop_drop,List.flatten_cons,List.length_append,Nat.add_assoc]
theorem ZcU:∀ (ps:List (List Vh.Letters)) (b i:Nat) (q:List Vh.Letters),ps[i]?=some q→(UY b ps)[i]?=some (b+(ps.take i).flatten.length,b+(ps.take i).flatten.length+q.length)
 | [],b,i,q,h=>by simp at h
 | p::ps,b,0,q,h=>by simp at h;subst h;simp [UY]
 | p::ps,b,i+1,q,h=>by
  rw [UY,List.getElem?_cons_succ,ZcU ps (b+p.length) i q (by simpa using h),List.take_succ_cons,List.flatten_cons,List.length_append,Nat.add_assoc]
theorem Zf4 (wo:VhPage.Work) {f e:Nat} (h:e≤wo.paras.flatten.length):YE wo f e=((tkl wo).drop f).take (e-f):=by
 apply List.ext_getElem?
 intro k
 unfold YE
 by_cases hk:k<e-f
 ·rw [List.getElem?_take_of_lt hk,List.getElem?_map,List.getElem?_range hk,List.getElem?_drop,ZfJ wo (by lia)];rfl
 ·rw [List.getElem?_eq_none (by rw [List.length_map,List.length_range];lia),List.getElem?_eq_none (by rw [List.length_take];lia)]
theorem ZfL (ps:List (List Vh.Letters)) {i:Nat}{q:List Vh.Letters} (h:ps[i]?=some q):(ps.take i).flatten.length+q.length≤ps.flatten.length:=by
 have e:ps=ps.take i++q::ps.drop (i+1):=by
  obtain ⟨hx,ex⟩:=List.getElem?_eq_some_iff.mp h
  have:=List.take_append_drop i ps
  rw [List.drop_eq_getElem_cons hx,ex] at this
  exact this.symm
 conv=>rhs;rw [e]
 simp only [List.flatten_append,List.flatten_cons,List.length_append]
 lia
theorem ZhS {C d:Addr} (f e:Nat) (o c:Bool) (t:Nat) (n:V):¬ isWk (.ins C d (lnf f e o c t n)):=fun z=>by
 obtain ⟨s,r,h,p,w,g,e',z⟩:=z _ _ _ rfl
 have:=congrArg List.length z
 rw [Zaz] at this
 cases this
theorem Zhi {C d C' d':Addr} (x y z:Addr) (f e:Nat) (o c:Bool) (t:Nat) (n:V):(HO.ins C d (nf x y z))≠.ins C' d' (lnf f e o c t n):=fun q=>by
 injection q with _ _ q
 have:=congrArg List.length q
 cases this
def Ux (K:PySem.W.Frag) (a:Ad):Sp:=fun vs H Q _=>∃ (wk:Addr) (wo:VhPage.Work) (hb:List UInt8),vs=[.ref wk]∧WkR a H wk wo hb∧WOk wo ∧
 ∀ H' p,H p=none→Kp [] H H'→ZgP a H' p wo→Q (.ref p) H'
abbrev X8:Stmt:=top 29
theorem ZaL:Zp ["work","lines","paragraph","things","k","line"] ["work"] (Zc X8):=⟨rfl,rfl,rfl,by decide +kernel,rfl,by decide +kernel,by decide +kernel⟩
theorem Zd5 {f:Addr}{fd:FuncData} (F:Fun K "lines_of" "lines_of" X8 f fd) (T:Txt K mg a) (zza3:FnC P w K mg base CX0 3 "things_of_notes" ["work","lines"] (Xo K a)) (zzap:FnC P w K mg base CX0 4 "lines_of_paragraph" ["work","first","end"] (YO K a)) (zzen:J0 P w K mg base CX0 4 a.CN "Note" ["self","work","things"] (Vx K a)):FnOk P w K mg base CX0 6 f fd ["work"] (Ux K a):=by
 refine F.ok ZaL (fun vs H Q E h=>?_) (fun cdv A outer s H vs Q E hr h=>?_)
 ·obtain ⟨wk,wo,hb,rfl,hw,ok,q⟩:=h
  rfl
 ·obtain ⟨wk,wo,hb,rfl,hw,ok,q⟩:=h
  have nd:=ZaL.nd
  refine ⟨_,(Zb (Zo (i:=1) nd rfl (Or.inl rfl) (YR Zd)) (Zb (VF PassesOwn.never rfl (VI (Zv (pv 0) rfl)) (Yl (i:=2) nd rfl (Or.inl rfl)) (Zf (Zy (X6 PySem.F.plainAttrs_list PySem.F.slot_list_extend PySem.F.type_list_extend Xr (pv 1) (Za (Zl zzap hr Zz (Za (pv 0) (Za (ZK YF (pv 2) Zh (fun _ _=>rfl)) (Za (ZK YF (pv 2) Zh (fun _ _=>rfl)) Zd)))) Zd))))) (Zb (Zo (i:=3) nd rfl (Or.inl rfl) (Zl zza3 hr Zz (Za (pv 0) (Za (pv 1) Zd)))) (Zb (VF PassesOwn.never rfl (ZaT rfl T.range (Za (Zr Zj rfl T.len PySem.boot_len (Za (pv 1) Zd)) Zd)) (Yl (i:=4) nd rfl (Or.inl rfl)) (Zf (Ye (Zq Jf (Zr Zj rfl T.len PySem.boot_len (Za (ZK ZC (pv 3) (pv 4) (fun _ _=>rfl)) Zd)) Zh (Zu _)) (Zb (Zo (i:=5) nd rfl (Or.inl rfl) (ZK ZC (pv 1) (pv 4) (fun _ _=>rfl))) (Zf (ZN (pv 5) (W9 zzen hr Zz (Za (pv 0) (Za (ZK ZC (pv 3) (pv 4) (fun _ _=>rfl)) Zd))) rfl))) Zx))) (Zf (Zs (pv 1))))))),?_⟩
  have hw0:=hw
  refine Zm fun G0 hG0=>?_
  obtain ⟨⟨dw,aR,aH,aP,aW,aS,aE,rs,ps,ws,gs0,es,hWk0,h2,h3,h4,h5,h6,h7,h8,h9,h10,h11,h12,h13⟩,rok,hl⟩:=hw
  refine hG0 ?_
  clear hG0
  have hz:sizeLine=16777216:=by decide
  have hn8:=ok.size
  have hll:=UI ok
  have hsb:=Xy ok.set
  walk_at "rd"
  refine ⟨by decide,fun p hp=>?_⟩
  have kp:Kp [] H (upd H p (HO.lst [])):=Kp.new hp
  obtain ⟨Pv,hPv⟩:∃ Pv:WT,Pv=fun i σ H'=>∃ o:Option V,σ=[some (.ref wk),some (.ref p),o,none,none,none]∧Kp [] H H'∧∃ us,H' p=some (.lst us)∧Paired (fun x v=>ZgQ a H' wo x v∧∀ l,v=.ref l→H l=none) (VhPage.linesFrom wo.set 0 (tkl wo) (wo.paras.take i)) us∧us.Nodup:=⟨_,rfl⟩
  refine ⟨_,rfl,wk,a.CW,dw,_,_,rfl,kp _ _ hWk0 (by simp),T.clWork,T.n_paragraphs,X2 wo.set aR aH aP aW aS aE,aP,rfl,⟨_,.inl (.inl (kp _ _ h5 (by simp)))⟩,Zas (xs:=ps) Pv ?_ ?_ ?_ ?_⟩
  ·rw [hPv]
   exact ⟨none,rfl,kp,[],Ze,.nil,List.nodup_nil⟩
  ·intro i σ H' _ hw'
   rw [hPv] at hw'
   refine Zm fun G0 hG0=>?_
   obtain ⟨o,rfl,k,_⟩:=hw'
   refine hG0 ?_
   clear hG0
   exact .inl (.inl (k _ _ h5 (by simp)))
  ·intro i v σ H3 hi hw'
   rw [hPv] at hw'
   refine Zm fun G0 hG0=>?_
   obtain ⟨o,rfl,k3,us,hus,hP3,hnd⟩:=hw'
   refine hG0 ?_
   clear hG0
   refine Zm fun G0 hG0=>?_
   obtain ⟨sp,hsp,t,rfl,ht⟩:=Paired.get h6 hi
   refine hG0 ?_
   clear hG0
   have hil:i<wo.paras.length:=by
    have:=(List.getElem?_eq_some_iff.mp hsp).1
    rw [UX] at this;exact this
   obtain ⟨pq,hpq⟩:∃ pq,wo.paras[i]?=some pq:=⟨_,List.getElem?_eq_getElem hil⟩
   rw [ZcU _ 0 i pq hpq,Nat.zero_add] at hsp
   cases hsp
   have hpn:0<pq.length:=List.length_pos_iff.mpr (ok.para pq (List.mem_of_getElem? hpq)).1
   have htf:=ZfL wo.paras hpq
   have ht3:=k3 _ _ ht (by simp)
   walk_at "rd"
   refine ⟨.inl ⟨rfl,_,.inl (.inl hus)⟩,Xt 0 ht3 rfl (Xt 1 ht3 rfl ?_)⟩
   refine ⟨wk,wo,hb,_,_,rfl,hw0.keep k3,by lia,htf,hn8,Zaw ok,by lia,by lia,fun H4 p4 us4 hp4 k4 hl4 hP4 hn4=>?_⟩
   have p4p:p4≠p:=fun z=>by rw [z,hus] at hp4;cases hp4
   have e1:YE wo (wo.paras.take i).flatten.length ((wo.paras.take i).flatten.length+pq.length)=((tkl wo).drop (wo.paras.take i).flatten.length).take pq.length:=by
    rw [Zf4 wo htf,Nat.add_sub_cancel_left]
   rw [e1] at hP4
   have e2:=Ut wo.set pq (wo.paras.take i) 0 (tkl wo)
   rw [Nat.zero_add,← Z3 hpq] at e2
   have hus4:=k4 _ _ hus (by simp)
   refine ⟨p4,rfl,us,hus4,us4,hl4,?_,?_⟩
   ·have h1:=Paired.length hP3
    have h2:=Paired.length hP4
    have h3:(VhPage.linesFrom wo.set 0 (tkl wo) (wo.paras.take (i+1))).length=us.length+us4.length:=by rw [e2,List.length_append,h1,h2]
    have h4:=ZdB (UR wo.set (wo.paras.take (i+1)) 0 (tkl wo) (fun q hq=>(ok.para q (List.mem_of_mem_take hq)).1) (by
     rw [ZfI,Z3 hpq,List.flatten_append,List.length_append];simpa using htf))
    rw [Z3 hpq,List.flatten_append,List.length_append] at h4
    rw [Z3 hpq] at h3
    have h5:[pq].flatten.length=pq.length:=by simp
    lia
   ·rw [hPv]
    refine ⟨_,rfl,(k3.trans k4).put2 (.inr hp),us++us4,Ze,?_,?_⟩
    ·rw [e2]
     refine Paired.app (Paired.mono (fun x v z=>?_) hP3) (Paired.mono (fun x v z=>?_) hP4)
     ·refine Zm fun G0 hG0=>?_
      obtain ⟨⟨l,d,e,h⟩,f⟩:=z
      refine hG0 ?_
      clear hG0
      exact ⟨⟨l,d,e,by rw [Zi (fun z=>by rw [z,hus] at h;cases h)];exact k4 _ _ h (by simp)⟩,f⟩
     ·refine Zm fun G0 hG0=>?_
      obtain ⟨⟨l,d,e,h⟩,f⟩:=z
      refine hG0 ?_
      clear hG0
      refine ⟨⟨l,d,e,by rw [Zi (fun z=>by rw [z,hus4] at h;cases h)];exact h⟩,fun l' e'=>?_⟩
      exact k3.free (by simp) (f l' e')
    ·rw [List.nodup_append]
     refine ⟨hnd,hn4,fun b hb y hy z=>?_⟩
     subst z
     obtain ⟨j,hj⟩:=List.mem_iff_getElem?.mp hb
     obtain ⟨j',hj'⟩:=List.mem_iff_getElem?.mp hy
     refine Zm fun G0 hG0=>?_
     obtain ⟨x,_,⟨l,d,e,h⟩,_⟩:=Paired.get hP3 hj
     refine hG0 ?_
     clear hG0
     refine Zm fun G0 hG0=>?_
     obtain ⟨x',_,_,f⟩:=Paired.get hP4 hj'
     refine hG0 ?_
     clear hG0
     rw [f l e] at h;cases h
  ·intro σ H3 hw'
   rw [hPv] at hw'
   refine Zm fun G0 hG0=>?_
   obtain ⟨o,rfl,k3,us,hus,hP3,hnd⟩:=hw'
   refine hG0 ?_
   clear hG0
   have hpl:ps.length=wo.paras.length:=by rw [← Paired.length h6,UX]
   rw [hpl,List.take_of_length_le (Nat.le_refl _)] at hP3
   have hP3:Paired (fun x v=>ZgQ a H3 wo x v∧∀ l,v=.ref l→H l=none) (lnl wo) us:=hP3
   clear hPv Pv
   have hLI:ZhY a H3 wo p us:=⟨hus,Paired.mono (fun x v z=>z.1) hP3⟩
   have hul:=Paired.length hP3
   walk_at "rd"
   refine ⟨wk,p,wo,hb,us,rfl,hw0.keep k3,ok,hLI,fun H4 tp gs htp k4 htg hgl hgw=>?_⟩
   have k34:=k3.trans k4
   have tpp:tp≠p:=fun z=>by rw [z,hus] at htp;cases htp
   obtain ⟨Pv,hPv⟩:∃ Pv:WT,Pv=fun i σ H'=>∃ o1 o2:Option V,σ=[some (.ref wk),some (.ref p),o,some (.ref tp),o1,o2]∧Kp [] H H'∧H' p=some (.lst us)∧H' tp=some (.lst (gs.map V.ref))∧(∀ k g,gs[k]?=some g→YK H' g (Yi wo k))∧∀ k x,(lnl wo)[k]?=some x→∃ l d nv,us[k]?=some (V.ref l)∧H' l=some (.ins a.CL d (lnf x.first (x.first+x.count) x.begins x.ends (WS wo x) nv))∧H l=none∧(k<i→ZfC a H' wo k nv)∧(i≤k→nv=.non):=⟨_,rfl⟩
   refine ⟨_,rfl,p,rfl,us,.inl (.inl (.inl (k4 _ _ hus (by simp)))),_,rfl,?_,?_,Zdt (n:=us.length) Pv ?_ ?_ ?_⟩
   ·lia
   ·lia
   ·rw [hPv]
    refine ⟨none,none,rfl,k34,k4 _ _ hus (by simp),htg,hgw,fun k x hx=>?_⟩
    refine Zm fun G0 hG0=>?_
    obtain ⟨v,hv,⟨l,d,rfl,hl⟩,hf⟩:=Paired.get2 hP3 hx
    refine hG0 ?_
    clear hG0
    exact ⟨l,d,_,hv,k4 _ _ hl (by simp),hf l rfl,fun z=>by lia,fun _=>rfl⟩
   ·intro i σ H5 hi hw'
    rw [hPv] at hw'
    refine Zm fun G0 hG0=>?_
    obtain ⟨o1,o2,rfl,k5,hus5,htg5,hgw5,hLn⟩:=hw'
    refine hG0 ?_
    clear hG0
    have ei:(0:Int)+(i:Int)=((i:Nat):Int):=by lia
    rw [ei]
    obtain ⟨x,hx⟩:∃ x,(lnl wo)[i]?=some x:=⟨_,List.getElem?_eq_getElem (by lia)⟩
    refine Zm fun G0 hG0=>?_
    obtain ⟨l,d,nv,hv,hl5,hl0,_,hnv⟩:=hLn i x hx
    refine hG0 ?_
    clear hG0
    have hnv:=hnv (Nat.le_refl _)
    subst hnv
    obtain ⟨g,hg⟩:∃ g,gs[i]?=some g:=⟨_,List.getElem?_eq_getElem (by lia)⟩
    refine Zm fun G0 hG0=>?_
    obtain ⟨tv,htv,hPt⟩:=hgw5 i g hg
    refine hG0 ?_
    clear hG0
    have htl:=Paired.length hPt
    have hwi:=Kp.trans (S:=[]) k5 Kp.refl
    walk_at "rd"
    refine Y7 htg5 (v:=V.ref g) (by rw [List.getElem?_map,hg];rfl) ⟨g,rfl,_,.inl (.inl (.inl htv)),?_⟩
    by_cases hts:Yi wo i=[]
    ·rw [if_neg (by rw [← htl,hts];simp),hPv]
     refine ⟨_,_,rfl,k5,hus5,htg5,hgw5,fun k y hy=>?_⟩
     refine Zm fun G0 hG0=>?_
     obtain ⟨l',d',nv',a1,a2,a3,a4,a5⟩:=hLn k y hy
     refine hG0 ?_
     clear hG0
     refine ⟨l',d',nv',a1,a2,a3,fun h=>?_,fun h=>a5 (by lia)⟩
     by_cases z:k=i
     ·subst z;exact .inl ⟨hts,a5 (Nat.le_refl _)⟩
     ·exact a4 (by lia)
    ·have hpos:=List.length_pos_iff.mpr hts
     rw [if_pos (by lia)]
     refine Y7 hus5 hv ?_
     refine ⟨_,rfl,_,rfl,_,rfl,Y7 htg5 (v:=V.ref g) (by rw [List.getElem?_map,hg];rfl) ?_⟩
     intro nx ndx hnx hndx hnn
     have k6:Kp [] H5 (upd (upd H5 ndx (HO.own nx)) nx (HO.ins a.CN ndx [])):=fun c o e _=>by
      rw [Zi (Zg e hnx),Zi (Zg e hndx)];exact e
     have hx6:upd (upd H5 ndx (HO.own nx)) nx (HO.ins a.CN ndx []) nx=some (HO.ins a.CN ndx []):=Ze
     generalize upd (upd H5 ndx (HO.own nx)) nx (HO.ins a.CN ndx [])=H6 at *
     have tl1:=JF wo wo.entries i
     have tl2:=ZdU ok
     refine ⟨nx,ndx,wk,g,wo,hb,Yi wo i,rfl,hx6,(hw0.keep k5).keep k6,by lia,YK.keep ⟨tv,htv,hPt⟩ k6,Nat.le_trans tl1 (by lia),ZcO ok (by lia),fun H7 k7 hN7=>⟨rfl,?_⟩⟩
     have k57:Kp [] H5 H7:=fun b o e _=>k7 _ _ (k6 _ _ e (by simp)) (by simp [Zg e hnx])
     have hl7:=k57 _ _ hl5 (by simp)
     have lnx:nx≠l:=fun z=>by rw [z,hl5] at hnx;cases hnx
     have pl:p≠l:=WR hus5 hl5 (by intro z;cases z)
     have tpl:tp≠l:=WR htg5 hl5 (by intro z;cases z)
     refine ⟨_,rfl,l,a.CL,d,_,rfl,hl7,T.clLine,T.nL_note,(show (6:Nat)<1000 by decide),?_⟩
     rw [Ziw,hPv]
     have kwF:KW H5 (upd H7 l (HO.ins a.CL d (lnf x.first (x.first+x.count) x.begins x.ends (WS wo x) (.ref nx)))):=fun b o e i'=>by
      have bl:b≠l:=fun z=>by
       rw [z,hl5] at e
       cases e
       exact ZhS _ _ _ _ _ _ i'
      rw [Zi bl]
      exact k57 _ _ e (by simp)
     have kw7:KW H7 (upd H7 l (HO.ins a.CL d (lnf x.first (x.first+x.count) x.begins x.ends (WS wo x) (.ref nx)))):=fun b o e i'=>by
      have bl:b≠l:=fun z=>by
       rw [z,hl7] at e
       cases e
       exact ZhS _ _ _ _ _ _ i'
      rw [Zi bl]
      exact e
     refine ⟨_,_,rfl,(k5.trans k57).put2 (.inr hl0),by rw [Zi pl];exact k57 _ _ hus5 (by simp),by rw [Zi tpl];exact k57 _ _ htg5 (by simp),fun k g' hg'=>(hgw5 k g' hg').keepW kwF,fun k y hy=>?_⟩
     refine Zm fun G0 hG0=>?_
     obtain ⟨l',d',nv',a1,a2,a3,a4,a5⟩:=hLn k y hy
     refine hG0 ?_
     clear hG0
     by_cases z:k=i
     ·subst z
      rw [hx] at hy
      cases hy
      refine ⟨l,d,.ref nx,hv,Ze,hl0,fun _=>.inr ⟨hts,nx,rfl,hN7.keepW kw7 (by rw [Zi lnx])⟩,fun h=>by lia⟩
     ·have ll':l'≠l:=fun e=>z (Ziq hnd a1 (by rw [e];exact hv))
      refine ⟨l',d',nv',a1,by rw [Zi ll'];exact k57 _ _ a2 (by simp),a3,fun h=>?_,fun h=>a5 (by lia)⟩
      rcases a4 (by lia) with b1 | ⟨b1,nt,b2,b3⟩
      ·exact .inl b1
      ·refine .inr ⟨b1,nt,b2,?_⟩
       refine Zm fun G0 hG0=>?_
       obtain ⟨dn,x1,x2,x3,b4,_⟩:=id b3
       refine hG0 ?_
       clear hG0
       have ntl:nt≠l:=WR b4 hl5 (Zhi _ _ _ _ _ _ _ _ _)
       exact b3.keepW kwF (by rw [Zi ntl,k57 _ _ b4 (by simp),b4])
   ·intro σ H5 hw'
    rw [hPv] at hw'
    refine Zm fun G0 hG0=>?_
    obtain ⟨o1,o2,rfl,k5,hus5,htg5,hgw5,hLn⟩:=hw'
    refine hG0 ?_
    clear hG0
    walk_at "rd"
    refine q H5 p hp k5 ⟨us,hus5,hul.symm,fun k x hx=>?_⟩
    refine Zm fun G0 hG0=>?_
    obtain ⟨l,d,nv,hv,hl5,hl0,hN,_⟩:=hLn k x hx
    refine hG0 ?_
    clear hG0
    exact ⟨l,d,nv,hv,hl5,hN (by have:=(List.getElem?_eq_some_iff.mp hx).1;lia)⟩
end
section
variable {P:Program}{w:World}{K:PySem.W.Frag}{mg:Str→Option Value}{base:Heap}{a:Ad}
def pgf (k f e c o r t:Nat):List (Str×V):=[("kind",.int (k:Int)),("first",.int (f:Int)),("end",.int (e:Int)),("came",.int (c:Int)),("own",.int (o:Int)),("rest",.int (r:Int)),("cost",.int (t:Int))]
theorem ZfZ (k f e c o r t:Nat):(pgf k f e c o r t).lookup ("first":Str)=some (.int (f:Int)):=by rfl
theorem Zcm (k f e c o r t:Nat):(pgf k f e c o r t).lookup ("end":Str)=some (.int (e:Int)):=by rfl
theorem ZeJ (k f e c o r t:Nat):(pgf k f e c o r t).lookup ("came":Str)=some (.int (c:Int)):=by rfl
theorem ZfY (k f e c o r t:Nat):(pgf k f e c o r t).lookup ("own":Str)=some (.int (o:Int)):=by rfl
theorem Zcl (k f e c o r t:Nat):(pgf k f e c o r t).lookup ("rest":Str)=some (.int (r:Int)):=by rfl
theorem UB (k f e c o r t n:Nat):putF "came" (.int (n:Int)) (pgf k f e c o r t)=pgf k f e n o r t:=by rfl
theorem ZbI (k f e c o r t n:Nat):putF "own" (.int (n:Int)) (pgf k f e c o r t)=pgf k f e c n r t:=by rfl
theorem ZaU (k f e c o r t n:Nat):putF "rest" (.int (n:Int)) (pgf k f e c o r t)=pgf k f e c o n t:=by rfl
theorem Zd0 (k f e c o r t n:Nat):putF "cost" (.int (n:Int)) (pgf k f e c o r t)=pgf k f e c o r n:=by rfl
theorem Xn (k f e c o r t:Nat):(pgf k f e c o r t).length<1000:=by show (7:Nat)<1000;decide
def ZdN (a:Ad) (H:Hp) (x:Addr) (p:VhPage.Page) (t:Nat):Prop:=∃ d,H x=some (.ins a.CP d (pgf (VhG.kindOf p) p.first (p.first+p.lines) p.before p.own p.on.length t))
def XN (K:PySem.W.Frag) (a:Ad):Sp:=fun vs H Q _=>∃ (x dx:Addr) (k f e:Nat),vs=[.ref x,.int (k:Int),.int (f:Int),.int (e:Int)]∧H x=some (.ins a.CP dx [])∧Q .non (upd H x (.ins a.CP dx (pgf k f e 0 0 0 0)))
abbrev XG:Stmt:=YS (top 34) 0
theorem Zaa:Zp ["self","kind","first","end"] ["self","kind","first","end"] (Zc XG):=⟨rfl,rfl,rfl,by decide +kernel,rfl,by decide +kernel,by decide +kernel⟩
theorem Zdf {f:Addr}{fd:FuncData} (F:Fun K "__init__" "Page.__init__" XG f fd) (T:Txt K mg a):FnOk P w K mg base CX0 1 f fd ["self","kind","first","end"] (XN K a):=by
 refine F.ok Zaa (fun vs H Q E h=>?_) (fun cdv A outer s H vs Q E hr h=>?_)
 ·obtain ⟨x,dx,k,f,e,rfl,hR,q⟩:=h
  rfl
 ·obtain ⟨x,dx,k,f,e,rfl,hR,q⟩:=h
  have nd:=Zaa.nd
  refine ⟨_,(Zb (ZN (pv 0) (pv 1) rfl) (Zb (ZN (pv 0) (pv 2) rfl) (Zb (ZN (pv 0) (pv 3) rfl) (Zb (ZN (pv 0) Zh rfl) (Zb (ZN (pv 0) Zh rfl) (Zb (ZN (pv 0) Zh rfl) (Zf (ZN (pv 0) Zh rfl)))))))),?_⟩
  have hR2:=hR
  have hWk:=hR
  have hWk2:=hR
  walk_at "wk"
  refine ⟨T.clPage,T.nP_kind,(show (0:Nat)<1000 by decide),T.clPage,T.nP_first,(show (1:Nat)<1000 by decide),T.clPage,T.nP_end,(show (2:Nat)<1000 by decide),T.clPage,T.nP_came,(show (3:Nat)<1000 by decide),T.clPage,T.nP_own,(show (4:Nat)<1000 by decide),T.clPage,T.nP_rest,(show (5:Nat)<1000 by decide),T.clPage,T.nP_cost,(show (6:Nat)<1000 by decide),?_⟩
  simp only [WW]
  exact q
def PgR (a:Ad) (H:Hp) (wk ll:Addr) (wo:VhPage.Work):Prop:=(∃ hb,WkR a H wk wo hb)∧WOk wo∧ZgP a H ll wo
theorem PgR.keep {H H':Hp}{wk ll:Addr}{wo:VhPage.Work} (h:PgR a H wk ll wo) (k:Kp [] H H'):PgR a H' wk ll wo:=by
 obtain ⟨⟨hb,h1⟩,h2,us,h3,h4,h5⟩:=h
 refine ⟨⟨hb,h1.keep k⟩,h2,us,k _ _ h3 (by simp),h4,fun j x hx=>?_⟩
 obtain ⟨l,d,nv,a1,a2,a3⟩:=h5 j x hx
 exact ⟨l,d,nv,a1,k _ _ a2 (by simp),a3.keep k⟩
theorem PgR.get {H:Hp}{wk ll:Addr}{wo:VhPage.Work} (h:PgR a H wk ll wo) {k:Nat} (hk:k<(lnl wo).length):∃ us l d nv x,H ll=some (.lst us)∧us.length=(lnl wo).length∧us[k]?=some (V.ref l)∧(lnl wo)[k]?=some x∧(VhPage.laid wo).line k=x∧H l=some (.ins a.CL d (lnf x.first (x.first+x.count) x.begins x.ends (WS wo x) nv))∧ZfC a H wo k nv:=by
 obtain ⟨_,_,us,h3,h4,h5⟩:=h
 have hx:(lnl wo)[k]?=some (lnl wo)[k]:=List.getElem?_eq_getElem hk
 obtain ⟨l,d,nv,a1,a2,a3⟩:=h5 k _ hx
 exact ⟨us,l,d,nv,_,h3,h4,a1,hx,Jp wo hx,a2,a3⟩
theorem PgR.len {H:Hp}{wk ll:Addr}{wo:VhPage.Work} (h:PgR a H wk ll wo):∃ us,H ll=some (.lst us)∧us.length=(lnl wo).length:=by
 obtain ⟨_,_,us,h3,h4,_⟩:=h
 exact ⟨us,h3,h4⟩
theorem ZgG {wo:VhPage.Work} (ok:WOk wo) (c:Nat):VY wo.widths c≤2:=by
 unfold VY
 split
 ·lia
 ·split
  ·rename_i x hx
   exact (ok.row x (List.mem_of_find?_eq_some hx)).2.2.2
  ·lia
theorem ZcP {wo:VhPage.Work} (ok:WOk wo):∀ l:List Nat,Xw wo.widths l≤2 * l.length
 | []=>Nat.le_refl _
 | c::l=>by
  have h1:=ZcP ok l
  have h2:=ZgG ok c
  unfold Xw at *
  rw [List.map_cons,List.sum_cons,List.length_cons];lia
theorem Zhc {wo:VhPage.Work} (ok:WOk wo) {n:Nat} (h:n<100000):Xw wo.widths (35::VhPage.num10 n)≤wo.set.width:=by
 have h1:=ZcP ok (35::VhPage.num10 n)
 have w4:=Wn (n:=n) (k:=5) (by decide) (by lia)
 have:=Xy ok.set
 rw [List.length_cons] at h1
 lia
def YU (K:PySem.W.Frag) (a:Ad):Sp:=fun vs H Q _=>∃ (wk:Addr) (wo:VhPage.Work) (hb:List UInt8) (k i:Nat),vs=[.ref wk,.int (k:Int),.int (i:Int)]∧WkR a H wk wo hb∧i≤k∧wo.set.anew≤1∧Q (.int ((VhPage.laid wo).numberOf i k:Nat)) H
abbrev Yn:Stmt:=top 35
theorem WL:Zp ["work","k","page_first"] ["work","k","page_first"] (Zc Yn):=⟨rfl,rfl,rfl,by decide +kernel,rfl,by decide +kernel,by decide +kernel⟩
theorem JP {f:Addr}{fd:FuncData} (F:Fun K "number_of_line" "number_of_line" Yn f fd) (T:Txt K mg a):FnOk P w K mg base CX0 1 f fd ["work","k","page_first"] (YU K a):=by
 refine F.ok WL (fun vs H Q E h=>?_) (fun cdv A outer s H vs Q E hr h=>?_)
 ·obtain ⟨wk,wo,hb,k,i,rfl,hw,hik,hA,q⟩:=h
  rfl
 ·obtain ⟨wk,wo,hb,k,i,rfl,hw,hik,hA,q⟩:=h
  have nd:=WL.nd
  refine ⟨_,(Zb (Ye (Zq Va (Zv (pv 0) rfl) Zh (Zu _)) (Zf (Zs (ZG Yj (ZG Ya (pv 1) Zh) (pv 2)))) Zx) (Zf (Zs (ZG Ya (pv 1) Zh)))),?_⟩
  obtain ⟨⟨dw,aR,aH,aP,aW,aS,aE,rs,ps,ws,gs,es,hWk,_⟩,_⟩:=hw
  have hWk2:=hWk
  have hR:=hWk
  have hR2:=hWk
  have e0:(VhPage.laid wo).numberOf i k=if wo.set.anew=0 then k+1 else k-i+1:=rfl
  rw [e0] at q
  walk_at "wk"
  refine ⟨_,rfl,rfl,?_⟩
  have ea:(V.int (wo.set.anew:Int)=V.int 1)↔wo.set.anew=1:=⟨fun z=>by injection z with z;lia,fun z=>by rw [z];rfl⟩
  by_cases h:wo.set.anew=1
  ·rw [if_pos (ea.mpr h)]
   rw [if_neg (by lia)] at q
   have e1:(k:Int)+1-(i:Int)=((k-i+1:Nat):Int):=by lia
   rw [e1];exact q
  ·rw [if_neg (fun z=>h (ea.mp z))]
   rw [if_pos (by lia)] at q
   exact q
theorem Zdi {wo:VhPage.Work} (ok:WOk wo) {i k:Nat} (hk:k<(lnl wo).length):(VhPage.laid wo).numberOf i k<100000:=by
 have e0:(VhPage.laid wo).numberOf i k=if wo.set.anew=0 then k+1 else k-i+1:=rfl
 have:=UI ok
 have:=ok.size
 rw [e0];split <;> lia
def ZT (K:PySem.W.Frag) (a:Ad):Sp:=fun vs H Q _=>∃ (wk ll:Addr) (wo:VhPage.Work) (k i:Nat),vs=[.ref wk,.ref ll,.int (k:Int),.int (i:Int)]∧PgR a H wk ll wo∧i≤k∧k<(lnl wo).length∧∀ H',Kp [] H H'→Q (.int (ownN (VhPage.laid wo) i k:Nat)) H'
abbrev Ym:Stmt:=top 36
theorem WK:Zp ["work","lines","k","page_first"] ["work","lines","k","page_first"] (Zc Ym):=⟨rfl,rfl,rfl,by decide +kernel,rfl,by decide +kernel,by decide +kernel⟩
theorem JO {f:Addr}{fd:FuncData} (F:Fun K "own_foot_lines" "own_foot_lines" Ym f fd) (T:Txt K mg a) (zzat:FnC P w K mg base CX0 4 "count_foot_lines" ["work","note","number"] (Y9 K a)) (zzan:FnC P w K mg base CX0 1 "number_of_line" ["work","k","page_first"] (YU K a)):FnOk P w K mg base CX0 5 f fd ["work","lines","k","page_first"] (ZT K a):=by
 refine F.ok WK (fun vs H Q E h=>?_) (fun cdv A outer s H vs Q E hr h=>?_)
 ·obtain ⟨wk,ll,wo,k,i,rfl,hP,hik,hk,q⟩:=h
  rfl
 ·obtain ⟨wk,ll,wo,k,i,rfl,hP,hik,hk,q⟩:=h
  have nd:=WK.nd
  refine ⟨_,(Zb (Ye (Zq Zf5 (Zv (ZK ZC (pv 1) (pv 2) (fun _ _=>rfl)) rfl) ZbJ (Zu _)) (Zf (Zs Zh)) Zx) (Zf (Zs (Zl zzat hr Zz (Za (pv 0) (Za (Zv (ZK ZC (pv 1) (pv 2) (fun _ _=>rfl)) rfl) (Za (Zl zzan hr Zz (Za (pv 0) (Za (pv 2) (Za (pv 3) Zd)))) Zd))))))),?_⟩
  obtain ⟨us,l,d,nv,x,h1,h2,h3,h4,h5,hR,h7⟩:=hP.get hk
  obtain ⟨⟨hb,hw⟩,ok,_⟩:=hP
  rw [Zg8 wo hk] at q
  have hR2:=hR
  have hWk:=hR
  have hWk2:=hR
  have hA:=Xy ok.set
  walk_at "rd"
  have hns:=Zdi ok (i:=i) hk
  have hnr:=Zhc ok hns
  refine WB rfl rfl h1 h3 hR T.clLine T.nL_note (ZeQ _ _ _ _ _ _) ?_
  rcases h7 with ⟨h7,rfl⟩ | ⟨h7,nt,rfl,hN⟩
  ·rw [if_pos h7] at q
   rw [if_pos rfl]
   exact q H Kp.refl
  ·rw [if_neg h7] at q
   rw [if_neg (by intro z;cases z)]
   refine WB rfl rfl h1 h3 hR T.clLine T.nL_note (ZeQ _ _ _ _ _ _) ?_
   refine ⟨wk,wo,hb,k,i,rfl,hw,hik,by lia,wk,nt,wo,hb,Yi wo k,_,rfl,hw,by lia,hN,hns,hnr,fun H' k'=>?_⟩
   exact q H' k'
def Vr (K:PySem.W.Frag) (a:Ad):Sp:=fun vs H Q _=>∃ (c f:Nat),vs=[.int (c:Int),.int (f:Int)]∧Q (.int (VhPage.wantsOf c f:Nat)) H
abbrev V3:Stmt:=top 37
theorem ZcY:Zp ["count","foot_count"] ["count","foot_count"] (Zc V3):=⟨rfl,rfl,rfl,by decide +kernel,rfl,by decide +kernel,by decide +kernel⟩
theorem Zf7 {f:Addr}{fd:FuncData} (F:Fun K "wanted" "wanted" V3 f fd) (T:Txt K mg a):FnOk P w K mg base CX0 1 f fd ["count","foot_count"] (Vr K a):=by
 refine F.ok ZcY (fun vs H Q E h=>?_) (fun cdv A outer s H vs Q E hr h=>?_)
 ·obtain ⟨c,f,rfl,q⟩:=h
  rfl
 ·obtain ⟨c,f,rfl,q⟩:=h
  have nd:=ZcY.nd
  refine ⟨_,(Zb (Ye (Zq Jf (pv 1) Zh (Zu _)) (Zf (Zs (ZG Ya (ZG Ya (pv 0) (pv 1)) Zh))) Zx) (Zf (Zs (pv 0)))),?_⟩
  unfold VhPage.wantsOf at q
  walk_at "rd"
  split
  ·rename_i h
   rw [if_neg (by lia)] at q
   have e:(c:Int)+(f:Int)+1=((c+f+1:Nat):Int):=by lia
   rw [e];exact q
  ·rename_i h
   have hf:f=0:=by lia
   subst hf
   exact q
end
section
variable {P:Program}{w:World}{K:PySem.W.Frag}{mg:Str→Option Value}{base:Heap}{a:Ad}
theorem Zdw {p:Nat}{ti:TE}{f:Str}{σ:L2.St}{H:Hp}{Q:VK}{ll l C d:Addr}{us:List V}{fs:List (Str×V)}{j:Nat}{v:V} (h1:σ[p]?=some (some (.ref ll))) (h2:∀ Q:VK,Q (.int (j:Int)) H→ti σ H Q) (h3:H ll=some (.lst us)) (h4:us[j]?=some (.ref l)) (h5:H l=some (.ins C d fs)) (c:Cls K C) (n:ZF K C f) (h6:fs.lookup f=some v) (hq:Q v H):tFld K (tOp (rIxL K) (tVar p) ti) f σ H Q :=
 ⟨_,h1,h2 _ (Y7 h3 h4 ⟨l,C,d,fs,v,rfl,h5,c,n,h6,hq⟩)⟩
theorem ZeR {Q:VK}{i j:Int}{H:Hp} (e:j=i) (q:Q (.int i) H):Q (.int j) H:=by rw [e];exact q
def WhI (H:Hp) (i:Nat) (p:VhPage.Page) (v:V):Prop:=∃ t,v=.ref t∧H t=some (.tup [.int (i+p.lines:Nat),.int (p.wants:Nat)])
def WD (K:PySem.W.Frag) (a:Ad):Sp:=fun vs H Q _=>∃ (wk ll:Addr) (wo:VhPage.Work) (i:Nat) (c:List (List Vh.Letters)),vs=[.ref wk,.ref ll,.int (i:Int),.int (c.length:Nat)]∧PgR a H wk ll wo∧i≤(lnl wo).length ∧
 ∀ H' p us,H p=none→Kp [] H H'→H' p=some (.lst us)→Paired (WhI H' i) (wl (VhPage.laid wo) i c) us→Q (.ref p) H'
abbrev YV:Stmt:=top 38
theorem Uf:Zp ["work","lines","first","carried","found","foot_count","k","wants"] ["work","lines","first","carried"] (Zc YV):=⟨rfl,rfl,rfl,by decide +kernel,rfl,by decide +kernel,by decide +kernel⟩
theorem Zbk {f:Addr}{fd:FuncData} (F:Fun K "whole_pages" "whole_pages" YV f fd) (T:Txt K mg a) (zzad:FnC P w K mg base CX0 5 "own_foot_lines" ["work","lines","k","page_first"] (ZT K a)) (zzec:FnC P w K mg base CX0 1 "wanted" ["count","foot_count"] (Vr K a)):FnOk P w K mg base CX0 6 f fd ["work","lines","first","carried"] (WD K a):=by
 refine F.ok Uf (fun vs H Q E h=>?_) (fun cdv A outer s H vs Q E hr h=>?_)
 ·obtain ⟨wk,ll,wo,i,c,rfl,hP,hi,q⟩:=h
  rfl
 ·obtain ⟨wk,ll,wo,i,c,rfl,hP,hi,q⟩:=h
  have nd:=Uf.nd
  refine ⟨_,(Zb (Zo (i:=4) nd rfl (Or.inl rfl) (YR Zd)) (Zb (Zo (i:=5) nd rfl (Or.inl rfl) (pv 3)) (Zb (VF PassesOwn.never rfl (Jd rfl T.range (Za (pv 2) (Za (Zr Zj rfl T.len PySem.boot_len (Za (pv 1) Zd)) Zd))) (Yl (i:=6) nd rfl (Or.inl rfl)) (Zb (Ur (i:=5) nd rfl (Or.inl rfl) (Zl zzad hr Zz (Za (pv 0) (Za (pv 1) (Za (pv 6) (Za (pv 2) Zd))))) Jq) (Zb (Zo (i:=7) nd rfl (Or.inl rfl) (Zl zzec hr Zz (Za (ZG Yj (ZG Ya (pv 6) Zh) (pv 2)) (Za (pv 5) Zd)))) (Zb (Ye (Zq Jf (pv 7) (Zv (pv 0) rfl) (Zu _)) (Zf ZeE) Zx) (Zf (Zy (X6 PySem.F.plainAttrs_list PySem.F.slot_list_append PySem.F.type_list_append Yq (pv 4) (Za (Wj (Za (ZG Ya (pv 6) Zh) (Za (pv 7) Zd))) Zd)))))))) (Zf (Zs (pv 4)))))),?_⟩
  refine Zm fun G0 hG0=>?_
  obtain ⟨us,h1,h2⟩:=hP.len
  refine hG0 ?_
  clear hG0
  have hP0:=hP
  refine Zm fun G0 hG0=>?_
  obtain ⟨⟨hb,hw⟩,ok,_⟩:=hP
  refine hG0 ?_
  clear hG0
  have hz:sizeLine=16777216:=by decide
  have hn:=UI ok
  have hn8:=ok.size
  have hsz:=Yg wo
  walk_at "rd"
  refine ⟨by decide,fun p hp=>?_⟩
  have kp:Kp [] H (upd H p (HO.lst [])):=Kp.new hp
  have hsb:=Xy ok.set
  have hfin:∀ (d:Nat) (H':Hp) (fs:List V),Kp [] H H'→H' p=some (.lst fs)→Paired (WhI H' i) ((List.range d).map fun e=>whole (VhPage.laid wo) i c (i+e)) fs→i+d≤(lnl wo).length→(∀ e,e<d→Yr (VhPage.laid wo) i c.length (i+e)≤wo.set.height)→((lnl wo).length≤i+d∨wo.set.height<Yr (VhPage.laid wo) i c.length (i+d))→Q (.ref p) H':=fun d H' fs k1 h1 h2 h3 h4 h5=>by
   refine q H' p fs hp k1 h1 ?_
   rw [Zh3 (VhPage.laid wo) i c d (by lia) h4 (by rw [hsz];exact h5)]
   exact h2
  obtain ⟨Pv,hPv⟩:∃ Pv:WT,Pv=fun d σ H'=>∃ o1 o2:Option V,σ=[some (.ref wk),some (.ref ll),some (.int (i:Int)),some (.int (c.length:Nat)),some (.ref p),some (.int (c.length+ownS (VhPage.laid wo) i (i+d):Nat)),o1,o2]∧Kp [] H H'∧∃ fs,H' p=some (.lst fs)∧Paired (WhI H' i) ((List.range d).map fun e=>whole (VhPage.laid wo) i c (i+e)) fs∧∀ e,e<d→Yr (VhPage.laid wo) i c.length (i+e)≤wo.set.height:=⟨_,rfl⟩
  have en:Int.toNat ((us.length:Int)-(i:Int))=(lnl wo).length-i:=by lia
  refine ⟨_,rfl,_,rfl,ll,rfl,us,.inl (.inl (.inl (kp _ _ h1 (by simp)))),_,_,rfl,⟨by lia,by lia,by lia,by lia⟩,?_⟩
  rw [en]
  refine Zdt Pv ?_ ?_ ?_
  ·rw [hPv]
   exact ⟨none,none,by rw [Nat.add_zero,ZeM];rfl,kp,[],Ze,.nil,fun e he=>by lia⟩
  ·intro d σ H3 hd hw'
   rw [hPv] at hw'
   refine Zm fun G0 hG0=>?_
   obtain ⟨o1,o2,rfl,k3,fs,hfs,hPf,hwk⟩:=hw'
   refine hG0 ?_
   clear hG0
   have ei:(i:Int)+(d:Int)=((i+d:Nat):Int):=by lia
   rw [ei]
   walk_at "rd"
   refine ⟨wk,ll,wo,i+d,i,rfl,hP0.keep k3,by lia,by lia,fun H4 k4=>?_⟩
   have k34:=k3.trans k4
   refine Zm fun G0 hG0=>?_
   obtain ⟨⟨dw,aR,aH,aP,aW,aS,aE,rs,ps,ws,gs,es,hWk0,_⟩,_⟩:=hw.keep k34
   refine hG0 ?_
   clear hG0
   have eo:((c.length+ownS (VhPage.laid wo) i (i+d):Nat):Int)+(ownN (VhPage.laid wo) i (i+d):Nat)=((c.length+ownS (VhPage.laid wo) i (i+(d+1)):Nat):Int):=by
    have:=Zc6 (VhPage.laid wo) (i:=i) (k:=i+d) (by lia)
    rw [← Nat.add_assoc,this];lia
   have ek:((i+d:Nat):Int)+1-(i:Int)=((d+1:Nat):Int):=by lia
   have ew:VhPage.wantsOf (d+1) (c.length+ownS (VhPage.laid wo) i (i+(d+1)))=Yr (VhPage.laid wo) i c.length (i+d):=by
    unfold Yr
    rw [show i+d+1-i=d+1 by lia,Nat.add_assoc]
   refine ⟨_,rfl,?_⟩
   rw [eo,ek]
   refine ⟨d+1,_,rfl,?_⟩
   rw [ew]
   refine ⟨_,rfl,wk,a.CW,dw,_,_,rfl,hWk0,T.clWork,T.n_height,rfl,_,rfl,_,rfl,?_⟩
   have hfs4:=k4 _ _ hfs (by simp)
   have hPf4:Paired (WhI H4 i) ((List.range d).map fun e=>whole (VhPage.laid wo) i c (i+e)) fs:=Paired.mono (fun x v ⟨t,e,ht⟩=>⟨t,e,k4 _ _ ht (by simp)⟩) hPf
   have hfl:=Paired.length hPf
   rw [List.length_map,List.length_range] at hfl
   by_cases hbig:wo.set.height<Yr (VhPage.laid wo) i c.length (i+d)
   ·rw [if_pos (by lia)]
    simp only [ZfP]
    walk_at "rd"
    exact hfin d H4 fs k34 hfs4 hPf4 (by lia) hwk (.inr hbig)
   ·rw [if_neg (by lia)]
    refine ⟨.inl ⟨rfl,_,.inl (.inl hfs4)⟩,by decide,fun t ht=>?_⟩
    have pt:p≠t:=Zg hfs4 ht
    have kt:Kp [] H4 (upd H4 t (HO.tup [V.int (((i+d:Nat):Int)+1),V.int (Yr (VhPage.laid wo) i c.length (i+d):Nat)])):=Kp.new ht
    have ht5:upd H4 t (HO.tup [V.int (((i+d:Nat):Int)+1),V.int (Yr (VhPage.laid wo) i c.length (i+d):Nat)]) t=some (HO.tup [V.int (((i+d:Nat):Int)+1),V.int (Yr (VhPage.laid wo) i c.length (i+d):Nat)]):=Ze
    generalize upd H4 t (HO.tup [V.int (((i+d:Nat):Int)+1),V.int (Yr (VhPage.laid wo) i c.length (i+d):Nat)])=H5 at *
    have hfs5:=kt _ _ hfs4 (by simp)
    refine ⟨fs,hfs5,by lia,?_⟩
    rw [hPv]
    refine ⟨_,_,rfl,(k34.trans kt).put2 (.inr hp),fs++[.ref t],Ze,?_,fun e he=>?_⟩
    ·rw [List.range_succ,List.map_append]
     have up:∀ b xs,H5 b=some (.tup xs)→upd H5 p (HO.lst (fs++[V.ref t])) b=some (.tup xs):=fun b xs h=>by rw [Zi (WR h hfs5 (by intro z;cases z))];exact h
     refine Paired.snoc (Paired.mono (fun x v ⟨t',e,ht'⟩=>⟨t',e,up _ _ (kt _ _ ht' (by simp))⟩) hPf4) ⟨t,rfl,up _ _ ?_⟩
     rw [ht5,Xx]
     have e5:i+(whole (VhPage.laid wo) i c (i+d)).lines=i+d+1:=by show i+(i+d+1-i)=_;lia
     rw [e5];rfl
    ·by_cases z:e=d
     ·subst z;lia
     ·exact hwk e (by lia)
  ·intro σ H3 hw'
   rw [hPv] at hw'
   refine Zm fun G0 hG0=>?_
   obtain ⟨o1,o2,rfl,k3,fs,hfs,hPf,hwk⟩:=hw'
   refine hG0 ?_
   clear hG0
   walk_at "rd"
   exact hfin _ H3 fs k3 hfs hPf (by lia) hwk (.inl (by lia))
def YN (K:PySem.W.Frag) (a:Ad):Sp:=fun vs H Q _=>∃ (wk ll:Addr) (wo:VhPage.Work) (i:Nat) (c:List (List Vh.Letters)),vs=[.ref wk,.ref ll,.int (i:Int),.int (c.length:Nat)]∧PgR a H wk ll wo∧i≤(lnl wo).length∧∀ H',Kp [] H H'→Q (.bl (!(wl (VhPage.laid wo) i c).isEmpty)) H'
abbrev YJ:Stmt:=top 39
theorem VC:Zp ["work","lines","first","carried"] ["work","lines","first","carried"] (Zc YJ):=⟨rfl,rfl,rfl,by decide +kernel,rfl,by decide +kernel,by decide +kernel⟩
theorem ZaZ {f:Addr}{fd:FuncData} (F:Fun K "may_be_whole" "may_be_whole" YJ f fd) (T:Txt K mg a) (zzec:FnC P w K mg base CX0 1 "wanted" ["count","foot_count"] (Vr K a)) (zzad:FnC P w K mg base CX0 5 "own_foot_lines" ["work","lines","k","page_first"] (ZT K a)):FnOk P w K mg base CX0 6 f fd ["work","lines","first","carried"] (YN K a):=by
 refine F.ok VC (fun vs H Q E h=>?_) (fun cdv A outer s H vs Q E hr h=>?_)
 ·obtain ⟨wk,ll,wo,i,c,rfl,hP,hi,q⟩:=h
  rfl
 ·obtain ⟨wk,ll,wo,i,c,rfl,hP,hi,q⟩:=h
  have nd:=VC.nd
  refine ⟨_,(Zb (Ye (Zq Va (pv 2) (Zr Zj rfl T.len PySem.boot_len (Za (pv 1) Zd)) (Zu _)) (Zf (Zs Zfg)) Zx) (Zf (Zs (Wk WI (Zl zzec hr Zz (Za Zh (Za (ZG Ya (pv 3) (Zl zzad hr Zz (Za (pv 0) (Za (pv 1) (Za (pv 2) (Za (pv 2) Zd)))))) Zd))) (Zv (pv 0) rfl) (Zu _))))),?_⟩
  refine Zm fun G0 hG0=>?_
  obtain ⟨us,h1,h2⟩:=hP.len
  refine hG0 ?_
  clear hG0
  have hP0:=hP
  refine Zm fun G0 hG0=>?_
  obtain ⟨⟨hb,hw⟩,ok,_⟩:=hP
  refine hG0 ?_
  clear hG0
  have hsz:=Yg wo
  have hw':wl (VhPage.laid wo) i c=[]↔((lnl wo).length≤i∨wo.set.height<Yr (VhPage.laid wo) i c.length i):=by
   have:=Zbw (VhPage.laid wo) i c (by lia)
   rw [hsz] at this
   exact this
  have heq:(!(wl (VhPage.laid wo) i c).isEmpty)=decide (¬ ((lnl wo).length≤i∨wo.set.height<Yr (VhPage.laid wo) i c.length i)):=by
   by_cases z:wl (VhPage.laid wo) i c=[]
   ·rw [decide_eq_false (fun y=>y (hw'.mp z)),z];rfl
   ·rw [decide_eq_true (p:=¬ ((lnl wo).length≤i∨wo.set.height<Yr (VhPage.laid wo) i c.length i)) (fun y=>z (hw'.mpr y))]
    cases y:wl (VhPage.laid wo) i c with
    | nil=>exact absurd y z
    | cons p l=>rfl
  rw [heq] at q
  walk_at "rd"
  refine ⟨_,.inl (.inl (.inl h1)),?_⟩
  by_cases hin:i=us.length
  ·rw [if_pos (by lia)]
   rw [decide_eq_false (fun y=>y (.inl (by lia)))] at q
   exact q H Kp.refl
  ·rw [if_neg (by lia)]
   refine ⟨wk,ll,wo,i,i,rfl,hP0,Nat.le_refl _,by lia,fun H2 k2=>⟨_,rfl,1,c.length+ownN (VhPage.laid wo) i i,?_,?_⟩⟩
   ·have e1:(c.length:Int)+(ownN (VhPage.laid wo) i i:Nat)=((c.length+ownN (VhPage.laid wo) i i:Nat):Int):=by lia
    rw [e1];rfl
   ·refine Zm fun G0 hG0=>?_
    obtain ⟨⟨dw,aR,aH,aP,aW,aS,aE,rs,ps,ws,gs,es,hWk0,_⟩,_⟩:=hw.keep k2
    refine hG0 ?_
    clear hG0
    refine ⟨_,rfl,wk,a.CW,dw,_,_,rfl,hWk0,T.clWork,T.n_height,rfl,_,rfl,_,rfl,?_⟩
    have e2:VhPage.wantsOf 1 (c.length+ownN (VhPage.laid wo) i i)=Yr (VhPage.laid wo) i c.length i:=by
     unfold Yr
     rw [show i+1-i=1 by lia,Zcn]
    have e3:decide (((VhPage.wantsOf 1 (c.length+ownN (VhPage.laid wo) i i):Nat):Int)≤(wo.set.height:Int))=decide (¬ ((lnl wo).length≤i∨wo.set.height<Yr (VhPage.laid wo) i c.length i)):=decide_eq_decide.mpr (by
     rw [e2];lia)
    rw [e3]
    exact q H2 k2
def W1 (K:PySem.W.Frag) (a:Ad):Sp:=fun vs H Q _=>∃ (wk ll:Addr) (wo:VhPage.Work) (i e:Nat),vs=[.ref wk,.ref ll,.int (i:Int),.int (e:Int)]∧PgR a H wk ll wo∧i<e∧e≤(lnl wo).length∧Q (.int (ZeP (VhPage.laid wo) i e:Nat)) H
abbrev Xh:Stmt:=top 40
theorem U4:Zp ["work","lines","first","end","cost"] ["work","lines","first","end"] (Zc Xh):=⟨rfl,rfl,rfl,by decide +kernel,rfl,by decide +kernel,by decide +kernel⟩
theorem Zcs {f:Addr}{fd:FuncData} (F:Fun K "loose_cost" "loose_cost" Xh f fd) (T:Txt K mg a):FnOk P w K mg base CX0 1 f fd ["work","lines","first","end"] (W1 K a):=by
 refine F.ok U4 (fun vs H Q E h=>?_) (fun cdv A outer s H vs Q E hr h=>?_)
 ·obtain ⟨wk,ll,wo,i,e,rfl,hP,hie,he,q⟩:=h
  rfl
 ·obtain ⟨wk,ll,wo,i,e,rfl,hP,hie,he,q⟩:=h
  have nd:=U4.nd
  refine ⟨_,(Zb (Zo (i:=4) nd rfl (Or.inl rfl) Zh) (Zb (Ye (PW.pt (Xm (V7 (Zv (ZK ZC (pv 1) (ZG Yj (pv 3) Zh) (fun _ _=>rfl)) rfl) (fun _=>rfl)) (Xc (Uq (V7 (Zv (ZK ZC (pv 1) (ZG Yj (pv 3) Zh) (fun _ _=>rfl)) rfl) (fun _=>rfl)))))) (Zf (Ur (i:=4) nd rfl (Or.inl rfl) (Zv (pv 0) rfl) Jq)) Zx) (Zb (Ye (PW.pt (Xm (V7 (Zv (ZK ZC (pv 1) (pv 2) (fun _ _=>rfl)) rfl) (fun _=>rfl)) (Xc (Uq (V7 (Zv (ZK ZC (pv 1) (pv 2) (fun _ _=>rfl)) rfl) (fun _=>rfl)))))) (Zf (Ur (i:=4) nd rfl (Or.inl rfl) (Zv (pv 0) rfl) Jq)) Zx) (Zf (Zs (pv 4)))))),?_⟩
  obtain ⟨us,l,d,nv,x,h1,h2,h3,h4,h5,h6,h7⟩:=hP.get (k:=e-1) (by lia)
  obtain ⟨us',l',d',nv',x',g1,g2,g3,g4,g5,g6,g7⟩:=hP.get (k:=i) (by lia)
  refine Zm fun G0 hG0=>?_
  obtain ⟨⟨hb,hw⟩,ok,_⟩:=hP
  refine hG0 ?_
  clear hG0
  refine Zm fun G0 hG0=>?_
  obtain ⟨⟨dw,aR,aH,aP,aW,aS,aE,rs,ps,ws,gs,es,hWk0,_⟩,_⟩:=hw
  refine hG0 ?_
  clear hG0
  have hix:∀ (σ:L2.St),σ[3]?=some (some (.int (e:Int)))→∀ Q:VK,Q (.int ((e-1:Nat):Int)) H→tOp (rI0 fun i j=>V.int (i-j)) (tVar 3) (tC (V.int 1)) σ H Q:=fun σ hσ Q hQ=>by
   refine ⟨_,hσ,_,_,rfl,rfl,?_⟩
   show Q (.int ((e:Int)-1)) H
   rw [show (e:Int)-1=((e-1:Nat):Int) by lia];exact hQ
  unfold ZeP at q
  rw [h5,g5,Wr] at q
  walk_at "rd"
  refine Zdw rfl (hix _ rfl) h1 h3 h6 T.clLine T.nL_opens (Zdk _ _ _ _ _ _) ⟨x.begins,rfl,?_⟩
  by_cases hA:x.begins=true
  case' neg =>
   rw [if_neg hA]
   rw [if_neg (fun z=>hA z.1)] at q
  case' pos =>
   rw [if_pos hA]
   refine Zdw rfl (hix _ rfl) h1 h3 h6 T.clLine T.nL_closes (ZbL _ _ _ _ _ _) ⟨x.ends,rfl,?_⟩
   by_cases hB:x.ends=false
   case' pos =>
    rw [if_pos hB]
    refine ⟨_,rfl,wk,a.CW,dw,_,_,rfl,hWk0,T.clWork,T.n_loose,rfl,_,rfl,?_⟩
    rw [if_pos ⟨hA,hB⟩] at q
   case' neg =>
    rw [if_neg hB]
    rw [if_neg (fun z=>hB z.2)] at q
  all_goals
   refine WB rfl rfl g1 g3 g6 T.clLine T.nL_closes (ZbL _ _ _ _ _ _) ⟨x'.ends,rfl,?_⟩
   by_cases hC:x'.ends=true
   ·rw [if_pos hC]
    refine WB rfl rfl g1 g3 g6 T.clLine T.nL_opens (Zdk _ _ _ _ _ _) ⟨x'.begins,rfl,?_⟩
    by_cases hD:x'.begins=false
    ·rw [if_pos hD]
     refine ⟨_,rfl,wk,a.CW,dw,_,_,rfl,hWk0,T.clWork,T.n_loose,rfl,_,rfl,?_⟩
     rw [if_pos ⟨hC,hD⟩] at q
     exact ZeR (by lia) q
    ·rw [if_neg hD]
     rw [if_neg (fun z=>hD z.2)] at q
     exact ZeR (by lia) q
   ·rw [if_neg hC]
    rw [if_neg (fun z=>hC z.1)] at q
    exact ZeR (by lia) q
def X3 (K:PySem.W.Frag) (a:Ad):Sp:=fun vs H Q _=>∃ (wk ll:Addr) (wo:VhPage.Work) (i e n:Nat),vs=[.ref wk,.ref ll,.int (i:Int),.int (e:Int),.int (n:Int)]∧PgR a H wk ll wo∧i<e∧e≤(lnl wo).length∧n≤wo.set.height∧Q (.int (ZaA (VhPage.laid wo) i e n:Nat)) H
abbrev Xf:Stmt:=top 41
theorem U2:Zp ["work","lines","first","end","wants","cost"] ["work","lines","first","end","wants"] (Zc Xf):=⟨rfl,rfl,rfl,by decide +kernel,rfl,by decide +kernel,by decide +kernel⟩
theorem Zcq {f:Addr}{fd:FuncData} (F:Fun K "whole_cost" "whole_cost" Xf f fd) (T:Txt K mg a) (zzdi:FnC P w K mg base CX0 1 "loose_cost" ["work","lines","first","end"] (W1 K a)):FnOk P w K mg base CX0 2 f fd ["work","lines","first","end","wants"] (X3 K a):=by
 refine F.ok U2 (fun vs H Q E h=>?_) (fun cdv A outer s H vs Q E hr h=>?_)
 ·obtain ⟨wk,ll,wo,i,e,n,rfl,hP,hie,he,hn,q⟩:=h
  rfl
 ·obtain ⟨wk,ll,wo,i,e,n,rfl,hP,hie,he,hn,q⟩:=h
  have nd:=U2.nd
  refine ⟨_,(Zb (Zo (i:=5) nd rfl (Or.inl rfl) (Zl zzdi hr Zz (Za (pv 0) (Za (pv 1) (Za (pv 2) (Za (pv 3) Zd)))))) (Zb (Ye (Zq Wm (pv 3) (Zr Zj rfl T.len PySem.boot_len (Za (pv 1) Zd)) (Zu _)) (Zf (Ur (i:=5) nd rfl (Or.inl rfl) (ZG ZhR (ZG Yj (Zv (pv 0) rfl) (pv 4)) Zh) Jq)) Zx) (Zf (Zs (pv 5))))),?_⟩
  refine Zm fun G0 hG0=>?_
  obtain ⟨us,h1,h2⟩:=hP.len
  refine hG0 ?_
  clear hG0
  have hP0:=hP
  refine Zm fun G0 hG0=>?_
  obtain ⟨⟨hb,hw⟩,ok,_⟩:=hP
  refine hG0 ?_
  clear hG0
  refine Zm fun G0 hG0=>?_
  obtain ⟨⟨dw,aR,aH,aP,aW,aS,aE,rs,ps,ws,gs,es,hWk0,_⟩,_⟩:=hw
  refine hG0 ?_
  clear hG0
  have hsb:=Xy ok.set
  unfold ZaA at q
  rw [Yg,Wr] at q
  walk_at "rd"
  refine ⟨wk,ll,wo,i,e,rfl,hP0,hie,he,_,.inl (.inl (.inl h1)),?_⟩
  by_cases hen:e<(lnl wo).length
  ·rw [if_pos (by lia)]
   rw [if_pos hen] at q
   refine ⟨_,rfl,wk,a.CW,dw,_,_,rfl,hWk0,T.clWork,T.n_height,rfl,_,rfl,⟨by decide,by decide,by lia⟩,_,rfl,?_⟩
   have e1:((wo.set.height:Int)-(n:Int)) ^ Int.toNat 2=(((wo.set.height-n) ^ 2:Nat):Int):=by
    have e1:((wo.set.height:Int)-(n:Int))=((wo.set.height-n:Nat):Int):=by lia
    rw [e1,Int.natCast_pow];rfl
   rw [e1]
   exact ZeR (by lia) q
  ·rw [if_neg (by lia)]
   rw [if_neg hen] at q
   exact q
end
section
variable {P:Program}{w:World}{K:PySem.W.Frag}{mg:Str→Option Value}{base:Heap}{a:Ad}
abbrev bst1 (wo:VhPage.Work) (j:Nat):Nat:=(best (VhPage.laid wo) (Y3 wo) j []).1
def Zbh (us:List V) (wo:VhPage.Work) (i:Nat):Prop:=us.length=(lnl wo).length+1∧∀ j,i<j→j≤(lnl wo).length→us[j]?=some (.int (bst1 wo j:Nat))
def X4 (K:PySem.W.Frag) (a:Ad):Sp:=fun vs H Q _=>∃ (wk ll cs:Addr) (wo:VhPage.Work) (i:Nat) (c:List (List Vh.Letters)) (us:List V),vs=[.ref wk,.ref ll,.ref cs,.int (i:Int),.int (c.length:Nat)]∧PgR a H wk ll wo∧i≤(lnl wo).length∧H cs=some (.lst us)∧Zbh us wo i∧wl (VhPage.laid wo) i c≠[] ∧
 ∀ H' t p,Kp [] H H'→Zbv (VhPage.laid wo) (Y3 wo) i (wl (VhPage.laid wo) i c)=some (cst (VhPage.laid wo) (Y3 wo) i p,p)→H' t=some (.tup [.int (cst (VhPage.laid wo) (Y3 wo) i p:Nat),.int (i+p.lines:Nat)])→Q (.ref t) H'
abbrev Xl:Stmt:=top 42
theorem U7:Zp ["work","lines","costs","first","carried","best","found","end","cost"] ["work","lines","costs","first","carried"] (Zc Xl):=⟨rfl,rfl,rfl,by decide +kernel,rfl,by decide +kernel,by decide +kernel⟩
theorem Zcv {f:Addr}{fd:FuncData} (F:Fun K "best_whole" "best_whole" Xl f fd) (T:Txt K mg a) (zzcq:FnC P w K mg base CX0 6 "whole_pages" ["work","lines","first","carried"] (WD K a)) (zzbl:FnC P w K mg base CX0 2 "whole_cost" ["work","lines","first","end","wants"] (X3 K a)):FnOk P w K mg base CX0 7 f fd ["work","lines","costs","first","carried"] (X4 K a):=by
 refine F.ok U7 (fun vs H Q E h=>?_) (fun cdv A outer s H vs Q E hr h=>?_)
 ·obtain ⟨wk,ll,cs,wo,i,c,us,rfl,hP,hi,hcs,hC,hne,q⟩:=h
  rfl
 ·obtain ⟨wk,ll,cs,wo,i,c,us,rfl,hP,hi,hcs,hC,hne,q⟩:=h
  have nd:=U7.nd
  refine ⟨_,(Zb (Zo (i:=5) nd rfl (Or.inl rfl) ZbJ) (Zb (VF PassesOwn.never rfl (VI (Zl zzcq hr Zz (Za (pv 0) (Za (pv 1) (Za (pv 3) (Za (pv 4) Zd)))))) (Yl (i:=6) nd rfl (Or.inl rfl)) (Zb (Zo (i:=7) nd rfl (Or.inl rfl) (ZK YF (pv 6) Zh (fun _ _=>rfl))) (Zb (Zo (i:=8) nd rfl (Or.inl rfl) (ZG Ya (Zl zzbl hr Zz (Za (pv 0) (Za (pv 1) (Za (pv 3) (Za (pv 7) (Za (ZK YF (pv 6) Zh (fun _ _=>rfl)) Zd)))))) (ZK ZC (pv 2) (pv 7) (fun _ _=>rfl)))) (Zf (Ye (PW.pt (Zbj (Zq Zf5 (pv 5) ZbJ (Zu _)) (Ja (Zq WI (pv 8) (ZK YF (pv 5) Zh (fun _ _=>rfl)) (Zu _))))) (Zf (Zo (i:=5) nd rfl (Or.inl rfl) (Wj (Za (pv 8) (Za (pv 7) Zd))))) Zx))))) (Zf (Zs (pv 5))))),?_⟩
  have hsz:=Yg wo
  refine Zm fun G0 hG0=>?_
  obtain ⟨_,ok,_⟩:=id hP
  refine hG0 ?_
  clear hG0
  walk_at "rd"
  obtain ⟨Wl,hWl⟩:∃ Wl,Wl=wl (VhPage.laid wo) i c:=⟨_,rfl⟩
  obtain ⟨bv,hbv⟩:∃ bv:Hp→Option (Nat×VhPage.Page)→V→Prop,bv=fun H' b v=>match b with
   | none=>v=.non
   | some y=>∃ t,v=.ref t∧H' t=some (.tup [.int (y.1:Nat),.int (i+y.2.lines:Nat)]):=⟨_,rfl⟩
  refine ⟨_,rfl,_,rfl,_,rfl,_,rfl,wk,ll,wo,i,c,rfl,hP,hi,fun H1 p1 us1 hp1 k1 hl1 hW1=>?_⟩
  rw [← hWl] at hW1 hne q
  obtain ⟨Pv,hPv⟩:∃ Pv:WT,Pv=fun d σ H'=>∃ (v:V) (o1 o2 o3:Option V),σ=[some (.ref wk),some (.ref ll),some (.ref cs),some (.int (i:Int)),some (.int (c.length:Nat)),some v,o1,o2,o3]∧Kp [] H1 H'∧bv H' (Zbv (VhPage.laid wo) (Y3 wo) i (Wl.take d)) v:=⟨_,rfl⟩
  refine ⟨p1,rfl,⟨_,.inl (.inl hl1)⟩,Zas (xs:=us1) Pv ?_ ?_ ?_ ?_⟩
  ·rw [hPv]
   refine ⟨.non,none,none,none,rfl,Kp.refl,?_⟩
   rw [hbv];rfl
  ·intro d σ H' _ hw'
   rw [hPv] at hw'
   refine Zm fun G0 hG0=>?_
   obtain ⟨v,o1,o2,o3,rfl,k,_⟩:=hw'
   refine hG0 ?_
   clear hG0
   exact .inl (.inl (k _ _ hl1 (by simp)))
  ·intro d v σ H3 hd hw'
   rw [hPv] at hw'
   refine Zm fun G0 hG0=>?_
   obtain ⟨bvv,o1,o2,o3,rfl,k3,hbest⟩:=hw'
   refine hG0 ?_
   clear hG0
   refine Zm fun G0 hG0=>?_
   obtain ⟨pg,hpg,t,rfl,ht⟩:=Paired.get hW1 hd
   refine hG0 ?_
   clear hG0
   have hmem:pg∈wl (VhPage.laid wo) i c:=by rw [← hWl];exact List.mem_of_getElem? hpg
   refine Zm fun G0 hG0=>?_
   obtain ⟨k,hik,hkn,hpk,hwk⟩:=Zet (VhPage.laid wo) i c (by lia) hmem
   refine hG0 ?_
   clear hG0
   have hlines:i+pg.lines=k+1:=by rw [hpk];show i+(k+1-i)=k+1;lia
   have hwants:pg.wants≤wo.set.height:=by rw [hpk,Xx];exact hwk
   have ht3:=k3 _ _ ht (by simp)
   rw [hlines] at ht3
   have hcs3:=k3 _ _ (k1 _ _ hcs (by simp)) (by simp)
   have hcst:cst (VhPage.laid wo) (Y3 wo) i pg=ZaA (VhPage.laid wo) i (k+1) pg.wants+bst1 wo (k+1):=by
    unfold cst;rw [hlines]
   walk_at "rd"
   refine Xt 0 ht3 rfl (Xt 1 ht3 rfl ⟨wk,ll,wo,i,k+1,pg.wants,rfl,(hP.keep k1).keep k3,by lia,by lia,hwants,?_⟩)
   refine Y7 hcs3 (hC.2 (k+1) (by lia) (by lia)) ⟨_,rfl,_,rfl,?_⟩
   have ec:((ZaA (VhPage.laid wo) i (k+1) pg.wants:Nat):Int)+(bst1 wo (k+1):Nat)=((cst (VhPage.laid wo) (Y3 wo) i pg:Nat):Int):=by rw [hcst];lia
   rw [ec]
   have hsn:=ZfB (VhPage.laid wo) (Y3 wo) i (Wl.take d) pg
   rw [← Z3 hpg] at hsn
   rw [hbv] at hbest
   have new:Zbv (VhPage.laid wo) (Y3 wo) i (Wl.take (d+1))=some (cst (VhPage.laid wo) (Y3 wo) i pg,pg)→∀ p,H3 p=none→Pv (d+1) [some (V.ref wk),some (V.ref ll),some (V.ref cs),some (V.int (i:Int)),some (V.int (c.length:Nat)),some (V.ref p),some (V.ref t),some (V.int (k+1:Nat)),some (V.int (cst (VhPage.laid wo) (Y3 wo) i pg:Nat))] (upd H3 p (HO.tup [V.int (cst (VhPage.laid wo) (Y3 wo) i pg:Nat),V.int (k+1:Nat)])):=fun hn p hp=>by
    rw [hPv]
    refine ⟨.ref p,_,_,_,rfl,k3.trans (Kp.new hp),?_⟩
    rw [hn,hbv]
    exact ⟨p,rfl,by rw [Ze,hlines]⟩
   cases hbp:Zbv (VhPage.laid wo) (Y3 wo) i (Wl.take d) with
   | none =>
    rw [hbp] at hsn hbest
    have hbest:bvv=.non:=hbest
    rw [if_pos hbest]
    exact ⟨by decide,new hsn⟩
   | some y =>
    rw [hbp] at hsn hbest
    refine Zm fun G0 hG0=>?_
    obtain ⟨t',rfl,ht'⟩:=hbest
    refine hG0 ?_
    clear hG0
    rw [if_neg (by intro z;cases z)]
    refine Xt 0 ht' rfl ⟨_,rfl,?_⟩
    by_cases hle:cst (VhPage.laid wo) (Y3 wo) i pg≤y.1
    ·rw [if_pos (by lia)]
     simp only [] at hsn
     rw [if_pos hle] at hsn
     exact ⟨by decide,new hsn⟩
    ·rw [if_neg (by lia),hPv]
     simp only [] at hsn
     rw [if_neg hle] at hsn
     refine ⟨.ref t',_,_,_,rfl,k3,?_⟩
     rw [hsn,hbv]
     exact ⟨t',rfl,ht'⟩
  ·intro σ H3 hw'
   rw [hPv] at hw'
   refine Zm fun G0 hG0=>?_
   obtain ⟨bvv,o1,o2,o3,rfl,k3,hbest⟩:=hw'
   refine hG0 ?_
   clear hG0
   rw [← Paired.length hW1,List.take_of_length_le (Nat.le_refl _)] at hbest
   refine Zm fun G0 hG0=>?_
   obtain ⟨pg,hpg,hb⟩:=Zb4 (VhPage.laid wo) (Y3 wo) i Wl hne
   refine hG0 ?_
   clear hG0
   rw [hbv,hb] at hbest
   refine Zm fun G0 hG0=>?_
   obtain ⟨t,rfl,ht⟩:=hbest
   refine hG0 ?_
   clear hG0
   walk_at "rd"
   exact q H3 t pg (k1.trans k3) hb ht
theorem Zg9 (L:VhPage.Laid) (i k:Nat):((List.range (k-i)).map fun e=>ownN L i (i+e)).sum=ownS L i k:=by
 unfold ownS VhPage.Laid.ownFoot ownN
 rw [List.length_flatMap]
theorem Ziz (l:List Nat):lV l=(l.map fun (n:Nat)=>(n:Int)).map V.int:=by
 unfold lV
 rw [List.map_map];rfl
def WY (K:PySem.W.Frag) (a:Ad):Sp:=fun vs H Q _=>∃ (wk ll:Addr) (wo:VhPage.Work) (i k:Nat) (c:List (List Vh.Letters)),vs=[.ref wk,.ref ll,.int (i:Int),.int (k+1:Nat),.int (c.length:Nat)]∧PgR a H wk ll wo∧i≤k∧k<(lnl wo).length∧Yr (VhPage.laid wo) i c.length k≤wo.set.height ∧
 ∀ H' x,H x=none→Kp [] H H'→ZdN a H' x (whole (VhPage.laid wo) i c k) (ZaA (VhPage.laid wo) i (k+1) (Yr (VhPage.laid wo) i c.length k))→Q (.ref x) H'
abbrev YA:Stmt:=top 43
theorem U1:Zp ["work","lines","first","end","carried","page","k"] ["work","lines","first","end","carried"] (Zc YA):=⟨rfl,rfl,rfl,by decide +kernel,rfl,by decide +kernel,by decide +kernel⟩
theorem Zbe:JD ["work","lines","first","end","carried","page","k"] (Zc YA) (lcSc (ZiL (ZaG (stI (Zk YA) 2)) 0)) [("k",6)]:=⟨rfl,by decide +kernel,by decide +kernel,by decide +kernel,by decide +kernel⟩
theorem Zcp {f:Addr}{fd:FuncData} (F:Fun K "whole_page" "whole_page" YA f fd) (T:Txt K mg a) (zzbe:J0 P w K mg base CX0 1 a.CP "Page" ["self","kind","first","end"] (XN K a)) (zzbl:FnC P w K mg base CX0 2 "whole_cost" ["work","lines","first","end","wants"] (X3 K a)) (zzec:FnC P w K mg base CX0 1 "wanted" ["count","foot_count"] (Vr K a)) (zzad:FnC P w K mg base CX0 5 "own_foot_lines" ["work","lines","k","page_first"] (ZT K a)):FnOk P w K mg base CX0 6 f fd ["work","lines","first","end","carried"] (WY K a):=by
 refine F.ok U1 (fun vs H Q E h=>?_) (fun cdv A outer s H vs Q E hr h=>?_)
 ·obtain ⟨wk,ll,wo,i,k,c,rfl,hP,hik,hk,hw,q⟩:=h
  rfl
 ·obtain ⟨wk,ll,wo,i,k,c,rfl,hP,hik,hk,hw,q⟩:=h
  have nd:=U1.nd
  refine ⟨_,(Zb (Zo (i:=5) nd rfl (Or.inl rfl) (W9 zzbe hr Zz (Za (Z8 T.cWHOLE) (Za (pv 2) (Za (pv 3) Zd))))) (Zb (ZN (pv 5) (pv 4) rfl) (Zb (ZN (pv 5) (Zr (ZgE rfl) rfl T.sum boot_sum (Za (Zf0 rfl nd (Jd rfl T.range (Za (pv 2) (Za (pv 3) Zd))) Zbe (fun _ _ _ _ _=>(Yl (i:=6) nd rfl (Or.inl rfl))) (fun _ _ _ _ _=>W6) (fun _ _ _ _ _=>(Zl zzad hr Zz (Za (pv 0) (Za (pv 1) (Za (pv 6) (Za (pv 2) Zd))))))) Zd)) rfl) (Zb (ZN (pv 5) (Zl zzbl hr Zz (Za (pv 0) (Za (pv 1) (Za (pv 2) (Za (pv 3) (Za (Zl zzec hr Zz (Za (ZG Yj (pv 3) (pv 2)) (Za (ZG Ya (Zv (pv 5) rfl) (Zv (pv 5) rfl)) Zd))) Zd)))))) rfl) (Zf (Zs (pv 5))))))),?_⟩
  have ok:=hP.2.1
  have hll:=UI ok
  have hn8:=ok.size
  have hz:sizeLine=16777216:=by decide
  walk_at "rd"
  intro x dx hx hdx hxd
  refine ⟨x,dx,0,i,k+1,rfl,Ze,rfl,?_⟩
  rw [WW]
  have k1:Kp [] H (upd (upd H dx (HO.own x)) x (HO.ins a.CP dx (pgf 0 i (k+1) 0 0 0 0))):=fun b o e _=>by
   rw [Zi (Zg e hx),Zi (Zg e hdx)];exact e
  have hx1:upd (upd H dx (HO.own x)) x (HO.ins a.CP dx (pgf 0 i (k+1) 0 0 0 0)) x=some (HO.ins a.CP dx (pgf 0 i (k+1) 0 0 0 0)):=Ze
  generalize upd (upd H dx (HO.own x)) x (HO.ins a.CP dx (pgf 0 i (k+1) 0 0 0 0))=H1 at *
  refine ⟨_,rfl,_,rfl,x,a.CP,dx,_,rfl,hx1,T.clPage,T.nP_came,Xn _ _ _ _ _ _ _,?_⟩
  rw [UB]
  have k2:Kp [] H (upd H1 x (HO.ins a.CP dx (pgf 0 i (k+1) c.length 0 0 0))):=k1.put2 (.inr hx)
  have hx2:upd H1 x (HO.ins a.CP dx (pgf 0 i (k+1) c.length 0 0 0)) x=some (HO.ins a.CP dx (pgf 0 i (k+1) c.length 0 0 0)):=Ze
  generalize upd H1 x (HO.ins a.CP dx (pgf 0 i (k+1) c.length 0 0 0))=H2 at *
  have en:Int.toNat (((k+1:Nat):Int)-(i:Int))=k+1-i:=by lia
  refine ⟨_,rfl,_,rfl,_,_,rfl,⟨by lia,by lia,by lia,by lia⟩,fun D hD=>?_⟩
  rw [en]
  have xD:x≠D:=Zg hx2 hD
  obtain ⟨Pv,hPv⟩:∃ Pv:Nat→Hp→Prop,Pv=fun d H'=>Kp [] H2 H'∧H' D=some (.lst (lV ((List.range d).map fun e=>ownN (VhPage.laid wo) i (i+e)))):=⟨_,rfl⟩
  refine Jo Pv ?_ ?_ ?_
  ·rw [hPv]
   exact ⟨Kp.new hD,Ze⟩
  ·intro d H3 hd hw'
   rw [hPv] at hw'
   obtain ⟨k3,hD3⟩:=hw'
   refine ⟨rfl,?_⟩
   have ei:(i:Int)+(d:Int)=((i+d:Nat):Int):=by lia
   rw [ei]
   simp only [tYes]
   refine ⟨_,rfl,_,rfl,_,rfl,_,rfl,wk,ll,wo,i+d,i,rfl,hP.keep (k2.trans k3),by lia,by lia,fun H4 k4=>?_⟩
   refine ⟨_,k4 _ _ hD3 (by simp),by rw [Z6,List.length_map,List.length_range];lia,?_⟩
   rw [hPv]
   refine ⟨(k3.trans k4).put2 (.inr hD),?_⟩
   rw [Ze,List.range_succ,List.map_append]
   unfold lV
   rw [List.map_append];rfl
  ·intro H3 hw'
   rw [hPv] at hw'
   obtain ⟨k3,hD3⟩:=hw'
   clear hPv Pv
   have hx3:=k3 _ _ hx2 (by simp)
   rw [Ziz] at hD3
   refine ⟨D,_,rfl,.inl (.inl hD3),_,rfl,x,a.CP,dx,_,rfl,hx3,T.clPage,T.nP_own,Xn _ _ _ _ _ _ _,?_⟩
   rw [Zb7,Zg9,ZbI]
   have k4:Kp [] H (upd H3 x (HO.ins a.CP dx (pgf 0 i (k+1) c.length (ownS (VhPage.laid wo) i (k+1)) 0 0))):=(k2.trans k3).put2 (.inr hx)
   have hx4:upd H3 x (HO.ins a.CP dx (pgf 0 i (k+1) c.length (ownS (VhPage.laid wo) i (k+1)) 0 0)) x=some (HO.ins a.CP dx (pgf 0 i (k+1) c.length (ownS (VhPage.laid wo) i (k+1)) 0 0)):=Ze
   generalize upd H3 x (HO.ins a.CP dx (pgf 0 i (k+1) c.length (ownS (VhPage.laid wo) i (k+1)) 0 0))=H4 at *
   refine ⟨_,rfl,_,rfl,_,rfl,_,rfl,_,rfl,_,rfl,_,_,rfl,rfl,_,rfl,x,a.CP,dx,_,_,rfl,hx4,T.clPage,T.nP_came,ZeJ _ _ _ _ _ _ _,_,rfl,x,a.CP,dx,_,_,rfl,hx4,T.clPage,T.nP_own,ZfY _ _ _ _ _ _ _,_,_,rfl,rfl,?_⟩
   refine ⟨k+1-i,c.length+ownS (VhPage.laid wo) i (k+1),?_,?_⟩
   ·have e1:((k+1:Nat):Int)-(i:Int)=((k+1-i:Nat):Int):=by lia
    have e2:(c.length:Int)+(ownS (VhPage.laid wo) i (k+1):Nat)=((c.length+ownS (VhPage.laid wo) i (k+1):Nat):Int):=by lia
    show [V.int (((k+1:Nat):Int)-(i:Int)),V.int ((c.length:Int)+(ownS (VhPage.laid wo) i (k+1):Nat))]=_
    rw [e1,e2]
   ·refine ⟨wk,ll,wo,i,k+1,Yr (VhPage.laid wo) i c.length k,rfl,hP.keep k4,by lia,by lia,hw,?_⟩
    refine ⟨_,rfl,x,a.CP,dx,_,rfl,hx4,T.clPage,T.nP_cost,Xn _ _ _ _ _ _ _,?_⟩
    rw [Zd0]
    refine ⟨_,rfl,q _ x hx (k4.put2 (.inr hx)) ⟨dx,?_⟩⟩
    rw [Ze]
    have e3:(whole (VhPage.laid wo) i c k).first+(whole (VhPage.laid wo) i c k).lines=k+1:=by show i+(k+1-i)=k+1;lia
    rw [e3];rfl
def Uy (K:PySem.W.Frag) (a:Ad):Sp:=fun vs H Q _=>∃ (wk ll:Addr) (wo:VhPage.Work) (i:Nat) (c:List (List Vh.Letters)),vs=[.ref wk,.ref ll,.int (i:Int),.int (c.length:Nat)]∧PgR a H wk ll wo∧i<(lnl wo).length∧c.length+3≤wo.set.height∧wl (VhPage.laid wo) i c=[] ∧
 ∀ H' x,H x=none→Kp [] H H'→ZdN a H' x ((VhPage.laid wo).cutPage i c) 0→Q (.ref x) H'
abbrev X9:Stmt:=top 44
theorem ZaM:Zp ["work","lines","first","carried","page"] ["work","lines","first","carried"] (Zc X9):=⟨rfl,rfl,rfl,by decide +kernel,rfl,by decide +kernel,by decide +kernel⟩
theorem Zd6 {f:Addr}{fd:FuncData} (F:Fun K "cut_page" "cut_page" X9 f fd) (T:Txt K mg a) (zzbe:J0 P w K mg base CX0 1 a.CP "Page" ["self","kind","first","end"] (XN K a)) (zzad:FnC P w K mg base CX0 5 "own_foot_lines" ["work","lines","k","page_first"] (ZT K a)):FnOk P w K mg base CX0 6 f fd ["work","lines","first","carried"] (Uy K a):=by
 refine F.ok ZaM (fun vs H Q E h=>?_) (fun cdv A outer s H vs Q E hr h=>?_)
 ·obtain ⟨wk,ll,wo,i,c,rfl,hP,hi,hc,hw,q⟩:=h
  rfl
 ·obtain ⟨wk,ll,wo,i,c,rfl,hP,hi,hc,hw,q⟩:=h
  have nd:=ZaM.nd
  refine ⟨_,(Zb (Zo (i:=4) nd rfl (Or.inl rfl) (W9 zzbe hr Zz (Za (Z8 T.cCUT) (Za (pv 2) (Za (ZG Ya (pv 2) Zh) Zd))))) (Zb (ZN (pv 4) (pv 3) rfl) (Zb (ZN (pv 4) (ZG Yj (ZG Yj (Zv (pv 0) rfl) Zh) (pv 3)) rfl) (Zb (ZN (pv 4) (ZG Yj (Zl zzad hr Zz (Za (pv 0) (Za (pv 1) (Za (pv 2) (Za (pv 2) Zd))))) (Zv (pv 4) rfl)) rfl) (Zf (Zs (pv 4))))))),?_⟩
  have ok:=hP.2.1
  obtain ⟨hb,hwk⟩:=hP.1
  have hbig:wo.set.height<Yr (VhPage.laid wo) i c.length i:=by
   have:=(Zbw (VhPage.laid wo) i c (by rw [Yg];lia)).mp hw
   rw [Yg,Wr] at this
   lia
  unfold Yr at hbig
  rw [Zcn,show i+1-i=1 by lia] at hbig
  unfold VhPage.wantsOf at hbig
  have hbig2:wo.set.height-2<c.length+ownN (VhPage.laid wo) i i:=by
   split at hbig <;> lia
  walk_at "rd"
  intro x dx hx hdx hxd
  have ei1:(i:Int)+1=((i+1:Nat):Int):=by lia
  rw [ei1]
  refine ⟨x,dx,1,i,i+1,rfl,Ze,rfl,?_⟩
  rw [WW]
  have k1:Kp [] H (upd (upd H dx (HO.own x)) x (HO.ins a.CP dx (pgf 1 i (i+1) 0 0 0 0))):=fun b o e _=>by
   rw [Zi (Zg e hx),Zi (Zg e hdx)];exact e
  have hx1:upd (upd H dx (HO.own x)) x (HO.ins a.CP dx (pgf 1 i (i+1) 0 0 0 0)) x=some (HO.ins a.CP dx (pgf 1 i (i+1) 0 0 0 0)):=Ze
  generalize upd (upd H dx (HO.own x)) x (HO.ins a.CP dx (pgf 1 i (i+1) 0 0 0 0))=H1 at *
  refine ⟨_,rfl,_,rfl,x,a.CP,dx,_,rfl,hx1,T.clPage,T.nP_came,Xn _ _ _ _ _ _ _,?_⟩
  rw [UB]
  have k2:Kp [] H (upd H1 x (HO.ins a.CP dx (pgf 1 i (i+1) c.length 0 0 0))):=k1.put2 (.inr hx)
  have hx2:upd H1 x (HO.ins a.CP dx (pgf 1 i (i+1) c.length 0 0 0)) x=some (HO.ins a.CP dx (pgf 1 i (i+1) c.length 0 0 0)):=Ze
  generalize upd H1 x (HO.ins a.CP dx (pgf 1 i (i+1) c.length 0 0 0))=H2 at *
  refine Zm fun G0 hG0=>?_
  obtain ⟨⟨dw,aR,aH,aP,aW,aS,aE,rs,ps,ws,gs,es,hWk2,_⟩,_⟩:=hwk.keep k2
  refine hG0 ?_
  clear hG0
  refine ⟨_,rfl,wk,a.CW,dw,_,_,rfl,hWk2,T.clWork,T.n_height,rfl,_,_,rfl,rfl,_,rfl,_,_,rfl,rfl,_,rfl,x,a.CP,dx,_,rfl,hx2,T.clPage,T.nP_own,Xn _ _ _ _ _ _ _,?_⟩
  have eo:(wo.set.height:Int)-2-(c.length:Nat)=((wo.set.height-2-c.length:Nat):Int):=by lia
  simp only []
  rw [eo,ZbI]
  have k3:Kp [] H (upd H2 x (HO.ins a.CP dx (pgf 1 i (i+1) c.length (wo.set.height-2-c.length) 0 0))):=k2.put2 (.inr hx)
  have hx3:upd H2 x (HO.ins a.CP dx (pgf 1 i (i+1) c.length (wo.set.height-2-c.length) 0 0)) x=some (HO.ins a.CP dx (pgf 1 i (i+1) c.length (wo.set.height-2-c.length) 0 0)):=Ze
  generalize upd H2 x (HO.ins a.CP dx (pgf 1 i (i+1) c.length (wo.set.height-2-c.length) 0 0))=H3 at *
  refine ⟨_,rfl,_,rfl,_,rfl,_,rfl,wk,ll,wo,i,i,rfl,hP.keep k3,Nat.le_refl _,hi,fun H4 k4=>?_⟩
  have hx4:=k4 _ _ hx3 (by simp)
  refine ⟨_,rfl,x,a.CP,dx,_,_,rfl,hx4,T.clPage,T.nP_own,ZfY _ _ _ _ _ _ _,_,_,rfl,rfl,_,rfl,x,a.CP,dx,_,rfl,hx4,T.clPage,T.nP_rest,Xn _ _ _ _ _ _ _,?_⟩
  have er:((ownN (VhPage.laid wo) i i:Nat):Int)-(wo.set.height-2-c.length:Nat)=((c.length+ownN (VhPage.laid wo) i i-(wo.set.height-2):Nat):Int):=by lia
  simp only []
  rw [er,ZaU]
  refine ⟨_,rfl,q _ x hx ((k3.trans k4).put2 (.inr hx)) ⟨dx,?_⟩⟩
  rw [Ze]
  have e1:((VhPage.laid wo).cutPage i c).on.length=c.length+ownN (VhPage.laid wo) i i-(wo.set.height-2):=by
   have:((VhPage.laid wo).cutPage i c).on=(c++(VhPage.laid wo).ownFoot i (i+1)).drop (wo.set.height-2):=rfl
   rw [this,List.length_drop,List.length_append,← Zcn];rfl
  rw [e1];rfl
def W2 (K:PySem.W.Frag) (a:Ad):Sp:=fun vs H Q _=>∃ (wk:Addr) (wo:VhPage.Work) (hb:List UInt8) (i:Nat) (c:List (List Vh.Letters)),vs=[.ref wk,.int (i:Int),.int (c.length:Nat)]∧WkR a H wk wo hb∧6≤wo.set.height ∧
 ∀ H' x,H x=none→Kp [] H H'→ZdN a H' x ((VhPage.laid wo).alonePage i c) 0→Q (.ref x) H'
abbrev Xi:Stmt:=top 45
theorem U5:Zp ["work","first","carried","page"] ["work","first","carried"] (Zc Xi):=⟨rfl,rfl,rfl,by decide +kernel,rfl,by decide +kernel,by decide +kernel⟩
theorem Zct {f:Addr}{fd:FuncData} (F:Fun K "foot_alone" "foot_alone" Xi f fd) (T:Txt K mg a) (zzbe:J0 P w K mg base CX0 1 a.CP "Page" ["self","kind","first","end"] (XN K a)):FnOk P w K mg base CX0 3 f fd ["work","first","carried"] (W2 K a):=by
 refine F.ok U5 (fun vs H Q E h=>?_) (fun cdv A outer s H vs Q E hr h=>?_)
 ·obtain ⟨wk,wo,hb,i,c,rfl,hw,hh,q⟩:=h
  rfl
 ·obtain ⟨wk,wo,hb,i,c,rfl,hw,hh,q⟩:=h
  have nd:=U5.nd
  refine ⟨_,(Zb (Zo (i:=3) nd rfl (Or.inl rfl) (W9 zzbe hr Zz (Za (Z8 T.cFOOT_ALONE) (Za (pv 1) (Za (pv 1) Zd))))) (Zb (ZN (pv 3) (Zr (ZdF rfl) rfl T.min boot_min (Za (pv 2) (Za (ZG Yj (Zv (pv 0) rfl) Zh) Zd))) rfl) (Zb (ZN (pv 3) (ZG Yj (pv 2) (Zv (pv 3) rfl)) rfl) (Zf (Zs (pv 3)))))),?_⟩
  walk_at "rd"
  intro x dx hx hdx hxd
  refine ⟨x,dx,2,i,i,rfl,Ze,rfl,?_⟩
  rw [WW]
  have k1:Kp [] H (upd (upd H dx (HO.own x)) x (HO.ins a.CP dx (pgf 2 i i 0 0 0 0))):=fun b o e _=>by
   rw [Zi (Zg e hx),Zi (Zg e hdx)];exact e
  have hx1:upd (upd H dx (HO.own x)) x (HO.ins a.CP dx (pgf 2 i i 0 0 0 0)) x=some (HO.ins a.CP dx (pgf 2 i i 0 0 0 0)):=Ze
  generalize upd (upd H dx (HO.own x)) x (HO.ins a.CP dx (pgf 2 i i 0 0 0 0))=H1 at *
  refine Zm fun G0 hG0=>?_
  obtain ⟨⟨dw,aR,aH,aP,aW,aS,aE,rs,ps,ws,gs,es,hWk1,_⟩,_⟩:=hw.keep k1
  refine hG0 ?_
  clear hG0
  refine ⟨_,rfl,_,rfl,wk,a.CW,dw,_,_,rfl,hWk1,T.clWork,T.n_height,rfl,_,_,rfl,rfl,_,_,rfl,_,rfl,x,a.CP,dx,_,rfl,hx1,T.clPage,T.nP_came,Xn _ _ _ _ _ _ _,?_⟩
  have eo:(if (wo.set.height:Int)-1<(c.length:Nat) then (wo.set.height:Int)-1 else (c.length:Nat))=((min c.length (wo.set.height-1):Nat):Int):=by
   split <;> lia
  rw [eo,UB]
  have k2:Kp [] H (upd H1 x (HO.ins a.CP dx (pgf 2 i i (min c.length (wo.set.height-1)) 0 0 0))):=k1.put2 (.inr hx)
  have hx2:upd H1 x (HO.ins a.CP dx (pgf 2 i i (min c.length (wo.set.height-1)) 0 0 0)) x=some (HO.ins a.CP dx (pgf 2 i i (min c.length (wo.set.height-1)) 0 0 0)):=Ze
  generalize upd H1 x (HO.ins a.CP dx (pgf 2 i i (min c.length (wo.set.height-1)) 0 0 0))=H2 at *
  refine ⟨_,rfl,_,rfl,x,a.CP,dx,_,_,rfl,hx2,T.clPage,T.nP_came,ZeJ _ _ _ _ _ _ _,_,_,rfl,rfl,_,rfl,x,a.CP,dx,_,rfl,hx2,T.clPage,T.nP_rest,Xn _ _ _ _ _ _ _,?_⟩
  have er:((c.length:Nat):Int)-(min c.length (wo.set.height-1):Nat)=((c.length-(wo.set.height-1):Nat):Int):=by lia
  simp only []
  rw [er,ZaU]
  refine ⟨_,rfl,q _ x hx (k2.put2 (.inr hx)) ⟨dx,?_⟩⟩
  rw [Ze]
  have e1:((VhPage.laid wo).alonePage i c).on.length=c.length-(wo.set.height-1):=by
   have:((VhPage.laid wo).alonePage i c).on=c.drop (wo.set.height-1):=rfl
   rw [this,List.length_drop]
  rw [e1];rfl
def XL (K:PySem.W.Frag) (a:Ad):Sp:=fun vs H Q _=>∃ (wk ll:Addr) (wo:VhPage.Work) (i:Nat) (c:List (List Vh.Letters)),vs=[.ref wk,.ref ll,.int (i:Int),.int (c.length:Nat)]∧PgR a H wk ll wo∧i≤(lnl wo).length∧wl (VhPage.laid wo) i c=[] ∧
 ∀ H' x,H x=none→Kp [] H H'→ZdN a H' x (Z2 (VhPage.laid wo) i c) 0→Q (.ref x) H'
abbrev YX:Stmt:=top 46
theorem Uh:Zp ["work","lines","first","carried"] ["work","lines","first","carried"] (Zc YX):=⟨rfl,rfl,rfl,by decide +kernel,rfl,by decide +kernel,by decide +kernel⟩
theorem Zbm {f:Addr}{fd:FuncData} (F:Fun K "forced_page" "forced_page" YX f fd) (T:Txt K mg a) (zzdj:FnC P w K mg base CX0 3 "foot_alone" ["work","first","carried"] (W2 K a)) (zzfd:FnC P w K mg base CX0 6 "cut_page" ["work","lines","first","carried"] (Uy K a)):FnOk P w K mg base CX0 7 f fd ["work","lines","first","carried"] (XL K a):=by
 refine F.ok Uh (fun vs H Q E h=>?_) (fun cdv A outer s H vs Q E hr h=>?_)
 ·obtain ⟨wk,ll,wo,i,c,rfl,hP,hi,hw,q⟩:=h
  rfl
 ·obtain ⟨wk,ll,wo,i,c,rfl,hP,hi,hw,q⟩:=h
  have nd:=Uh.nd
  refine ⟨_,(Zb (Ye (PW.pt (Xm (Zq Wm (pv 2) (Zr Zj rfl T.len PySem.boot_len (Za (pv 1) Zd)) (Zu _)) (Xc (Zq WI (pv 3) (ZG Yj (Zv (pv 0) rfl) Zh) (Zu _))))) (Zf (Zs (Zl zzfd hr Zz (Za (pv 0) (Za (pv 1) (Za (pv 2) (Za (pv 3) Zd))))))) Zx) (Zf (Zs (Zl zzdj hr Zz (Za (pv 0) (Za (pv 2) (Za (pv 3) Zd))))))),?_⟩
  refine Zm fun G0 hG0=>?_
  obtain ⟨us,h1,h2⟩:=hP.len
  refine hG0 ?_
  clear hG0
  have hP0:=hP
  refine Zm fun G0 hG0=>?_
  obtain ⟨⟨hb,hwk⟩,ok,_⟩:=hP
  refine hG0 ?_
  clear hG0
  have hwk0:=hwk
  refine Zm fun G0 hG0=>?_
  obtain ⟨⟨dw,aR,aH,aP,aW,aS,aE,rs,ps,ws,gs,es,hWk0,_⟩,_⟩:=hwk
  refine hG0 ?_
  clear hG0
  have hsb:=Xy ok.set
  unfold Z2 at q
  rw [Yg,Wr] at q
  walk_at "rd"
  refine ⟨_,.inl (.inl (.inl h1)),?_⟩
  by_cases hin:i<(lnl wo).length
  ·rw [if_pos (by lia)]
   refine ⟨_,rfl,wk,a.CW,dw,_,_,rfl,hWk0,T.clWork,T.n_height,rfl,_,rfl,?_⟩
   by_cases hc:c.length+3≤wo.set.height
   ·rw [if_pos (by lia)]
    rw [if_pos ⟨hin,hc⟩] at q
    exact ⟨wk,ll,wo,i,c,rfl,hP0,hin,hc,hw,q⟩
   ·rw [if_neg (by lia)]
    rw [if_neg (fun z=>hc z.2)] at q
    exact ⟨wk,wo,hb,i,c,rfl,hwk0,by lia,q⟩
  ·rw [if_neg (by lia)]
   rw [if_neg (fun z=>hin z.1)] at q
   exact ⟨wk,wo,hb,i,c,rfl,hwk0,by lia,q⟩
end
section
variable {P:Program}{w:World}{K:PySem.W.Frag}{mg:Str→Option Value}{base:Heap}{a:Ad}
theorem ZgV {t:TT}{σ:L2.St}{H:Hp}{Q:Bool→Hp→Prop} (b:Bool) (h:∀ Q:Bool→Hp→Prop,(∀ H',Kp [] H H'→Q b H')→t σ H Q) (q:∀ H',Kp [] H H'→Q b H'):t σ H Q:=h Q q
theorem Zbh.mono {us:List V}{wo:VhPage.Work}{i j:Nat} (h:Zbh us wo i) (hij:i≤j):Zbh us wo j:=⟨h.1,fun e h1 h2=>h.2 e (by lia) h2⟩
def Vv (K:PySem.W.Frag) (a:Ad):Sp:=fun vs H Q _=>∃ (wk ll cs:Addr) (wo:VhPage.Work) (i:Nat) (us:List V),vs=[.ref wk,.ref ll,.ref cs,.int (i:Int)]∧PgR a H wk ll wo∧i<(lnl wo).length∧H cs=some (.lst us)∧Zbh us wo i∧∀ H',Kp [] H H'→Q (.int (bst1 wo i:Nat)) H'
abbrev XD:Stmt:=top 47
theorem J7:Zp ["work","lines","costs","first","carried","page"] ["work","lines","costs","first"] (Zc XD):=⟨rfl,rfl,rfl,by decide +kernel,rfl,by decide +kernel,by decide +kernel⟩
theorem Zdc {f:Addr}{fd:FuncData} (F:Fun K "cost_from" "cost_from" XD f fd) (T:Txt K mg a) (zzbc:FnC P w K mg base CX0 7 "forced_page" ["work","lines","first","carried"] (XL K a)) (zzbo:FnC P w K mg base CX0 7 "best_whole" ["work","lines","costs","first","carried"] (X4 K a)) (zzax:FnC P w K mg base CX0 6 "may_be_whole" ["work","lines","first","carried"] (YN K a)):FnOk P w K mg base CX0 8 f fd ["work","lines","costs","first"] (Vv K a):=by
 refine F.ok J7 (fun vs H Q E h=>?_) (fun cdv A outer s H vs Q E hr h=>?_)
 ·obtain ⟨wk,ll,cs,wo,i0,us,rfl,hP,hi,hcs,hC,q⟩:=h
  rfl
 ·obtain ⟨wk,ll,cs,wo,i0,us,rfl,hP,hi,hcs,hC,q⟩:=h
  have nd:=J7.nd
  refine ⟨_,(Zb (Zo (i:=4) nd rfl (Or.inl rfl) Zh) (Zb (Yu PassesOwn.never (PW.pt (Xm (PW.pt (Zbj (Zq Wm (pv 3) (Zr Zj rfl T.len PySem.boot_len (Za (pv 1) Zd)) (Zu _)) (Ja (Zq Jf (pv 4) Zh (Zu _))))) (Xc (Uq (Wi (Zl zzax hr Zz (Za (pv 0) (Za (pv 1) (Za (pv 3) (Za (pv 4) Zd)))))))))) (Zb (Zo (i:=5) nd rfl (Or.inl rfl) (Zl zzbc hr Zz (Za (pv 0) (Za (pv 1) (Za (pv 3) (Za (pv 4) Zd)))))) (Zb (Zo (i:=3) nd rfl (Or.inl rfl) (Zv (pv 5) rfl)) (Zf (Zo (i:=4) nd rfl (Or.inl rfl) (Zv (pv 5) rfl)))))) (Zb (Ye (Zq Va (pv 3) (Zr Zj rfl T.len PySem.boot_len (Za (pv 1) Zd)) (Zu _)) (Zf (Zs Zh)) Zx) (Zf (Zs (ZK YF (Zl zzbo hr Zz (Za (pv 0) (Za (pv 1) (Za (pv 2) (Za (pv 3) (Za (pv 4) Zd)))))) Zh (fun _ _=>rfl))))))),?_⟩
  refine Zm fun G0 hG0=>?_
  obtain ⟨_,ok,_⟩:=id hP
  refine hG0 ?_
  clear hG0
  have hF:=Jv ok
  have hsz:=Yg wo
  walk_at "rd"
  obtain ⟨W,hW⟩:∃ W:WT,W=fun m σ H'=>Kp [] H H'∧∃ (i:Nat) (c:List (List Vh.Letters)) (o:Option V),σ=[some (.ref wk),some (.ref ll),some (.ref cs),some (.int (i:Int)),some (.int (c.length:Nat)),o]∧m=meas (VhPage.laid wo) (Y3 wo) i c∧i0≤i∧i≤(lnl wo).length∧(best (VhPage.laid wo) (Y3 wo) i c).1=bst1 wo i0:=⟨_,rfl⟩
  refine ⟨W,⟨_,by rw [hW];exact ⟨Kp.refl,i0,[],none,rfl,rfl,Nat.le_refl _,by lia,rfl⟩⟩,fun m σ H2 hw2=>?_⟩
  rw [hW] at hw2
  refine Zm fun G0 hG0=>?_
  obtain ⟨k2,i,c,o,rfl,rfl,hi0,hin,hbest⟩:=hw2
  refine hG0 ?_
  clear hG0
  refine Zm fun G0 hG0=>?_
  obtain ⟨lv,hl1,hl2⟩:=(hP.keep k2).len
  refine hG0 ?_
  clear hG0
  refine ZgV (t:=tAnd _ _) (decide (i<(lnl wo).length∨0<c.length) && (wl (VhPage.laid wo) i c).isEmpty) (fun Q0 hQ=>?_) (fun H3 k3=>?_)
  ·walk_at "rd"
   refine ⟨_,.inl (.inl (.inl hl1)),?_⟩
   rw [hl2]
   have hmay:(i<(lnl wo).length∨0<c.length)→YN K a [V.ref wk,V.ref ll,V.int (i:Int),V.int (c.length:Nat)] H2 (fun x H1=>∃ c,x=V.bl c∧Q0 (!c) H1) E0:=fun hh=>by
    refine ⟨wk,ll,wo,i,c,rfl,hP.keep k2,hin,fun H3 k3=>⟨_,rfl,?_⟩⟩
    have:=hQ H3 k3
    rw [decide_eq_true hh,Bool.true_and] at this
    rw [Bool.not_not];exact this
   by_cases h1:i<(lnl wo).length
   ·rw [if_pos (by lia)]
    exact hmay (.inl h1)
   ·rw [if_neg (by lia)]
    by_cases h2:0<c.length
    ·rw [if_pos (by lia)]
     exact hmay (.inr h2)
    ·rw [if_neg (by lia)]
     have:=hQ H2 Kp.refl
     rw [decide_eq_false (by lia),Bool.false_and] at this
     exact this
  ·have k23:=k2.trans k3
   refine Zm fun G0 hG0=>?_
   obtain ⟨lv3,hl3,hl4⟩:=(hP.keep k23).len
   refine hG0 ?_
   clear hG0
   by_cases hh:i<(lnl wo).length∨0<c.length
   ·by_cases hwl:wl (VhPage.laid wo) i c=[]
    ·have hc':i<(VhPage.laid wo).lines.size∨c≠[]:=by
      rcases hh with h | h
      ·exact .inl (by lia)
      ·exact .inr (List.length_pos_iff.mp h)
     rw [if_pos (by rw [decide_eq_true hh,hwl];rfl)]
     refine ⟨fun σ' H'=>∃ m',m' < meas (VhPage.laid wo) (Y3 wo) i c∧W m' σ' H',fun _ _ z=>z,?_⟩
     walk_at "rd"
     refine ⟨wk,ll,wo,i,c,rfl,hP.keep k23,hin,hwl,fun H4 x hx k4 hpg=>?_⟩
     obtain ⟨d,hpg⟩:=hpg
     refine ⟨_,rfl,x,a.CP,d,_,_,rfl,hpg,T.clPage,T.nP_end,Zcm _ _ _ _ _ _ _,?_⟩
     refine ⟨_,rfl,x,a.CP,d,_,_,rfl,hpg,T.clPage,T.nP_rest,Zcl _ _ _ _ _ _ _,?_⟩
     have hm:=UL hF (by lia) hwl hc'
     refine ⟨_,hm,?_⟩
     rw [hW]
     have hfl:=VR (L:=VhPage.laid wo) (c:=c) (i:=i) (by lia)
     refine ⟨k23.trans k4,i+(Z2 (VhPage.laid wo) i c).lines,(Z2 (VhPage.laid wo) i c).on,_,by rw [VS],rfl,by lia,by lia,?_⟩
     rw [← hbest]
     conv=>rhs;rw [UT hF hwl hc']
    ·have hin':i<(lnl wo).length:=by
      have:¬ (VhPage.laid wo).lines.size≤i:=fun z=>hwl ((Zbw (VhPage.laid wo) i c (by lia)).mpr (.inl z))
      lia
     rw [if_neg (by
      cases z:wl (VhPage.laid wo) i c with
      | nil=>exact absurd z hwl
      | cons p l=>simp)]
     walk_at "rd"
     refine ⟨_,.inl (.inl (.inl hl3)),?_⟩
     rw [hl4,if_neg (by intro z;injection z with z;lia)]
     refine ⟨wk,ll,cs,wo,i,c,us,rfl,hP.keep k23,hin,k23 _ _ hcs (by simp),hC.mono hi0,hwl,fun H4 t p k4 hbp ht=>?_⟩
     refine Zm fun G0 hG0=>?_
     obtain ⟨p',_,hb1,hb2⟩:=JZ hF (by lia) hwl
     refine hG0 ?_
     clear hG0
     rw [hb1] at hbp
     have hpp:p'=p:=by
      have:=Option.some.inj hbp
      exact (Prod.mk.inj this).2
     subst hpp
     refine Xt 0 ht rfl ?_
     have e1:cst (VhPage.laid wo) (Y3 wo) i p'=bst1 wo i0:=by rw [← hbest,hb2]
     rw [e1]
     exact q H4 (k23.trans k4)
   ·have hc0:c=[]:=List.length_eq_zero_iff.mp (by lia)
    have hin':i=(lnl wo).length:=by lia
    rw [if_neg (by rw [decide_eq_false hh];simp)]
    walk_at "rd"
    refine ⟨_,.inl (.inl (.inl hl3)),?_⟩
    rw [hl4,if_pos (by rw [hin'])]
    subst hc0
    rw [V9 (VhPage.laid wo) (Y3 wo) (by lia)] at hbest
    have:=q H3 k23
    rw [← hbest] at this
    exact this
def Uz (K:PySem.W.Frag) (a:Ad):Sp:=fun vs H Q _=>∃ (wk ll:Addr) (wo:VhPage.Work),vs=[.ref wk,.ref ll]∧PgR a H wk ll wo ∧
 ∀ H' p us,H p=none→Kp [] H H'→H' p=some (.lst us)→us.length=(lnl wo).length+1→(∀ j,j≤(lnl wo).length→us[j]?=some (.int (bst1 wo j:Nat)))→Q (.ref p) H'
abbrev Xk:Stmt:=top 48
theorem ZaN:Zp ["work","lines","costs","k","first"] ["work","lines"] (Zc Xk):=⟨rfl,rfl,rfl,by decide +kernel,rfl,by decide +kernel,by decide +kernel⟩
theorem ZcC:JD ["work","lines","costs","k","first"] (Zc Xk) (lcSc (ZaG (stI (Zk Xk) 0))) [("k",3)]:=⟨rfl,by decide +kernel,by decide +kernel,by decide +kernel,by decide +kernel⟩
theorem Zd7 {f:Addr}{fd:FuncData} (F:Fun K "costs_of" "costs_of" Xk f fd) (T:Txt K mg a) (zzel:FnC P w K mg base CX0 8 "cost_from" ["work","lines","costs","first"] (Vv K a)):FnOk P w K mg base CX0 9 f fd ["work","lines"] (Uz K a):=by
 refine F.ok ZaN (fun vs H Q E h=>?_) (fun cdv A outer s H vs Q E hr h=>?_)
 ·obtain ⟨wk,ll,wo,rfl,hP,q⟩:=h
  rfl
 ·obtain ⟨wk,ll,wo,rfl,hP,q⟩:=h
  have nd:=ZaN.nd
  refine ⟨_,(Zb (Jb (i:=2) rfl nd rfl rfl (ZaE rfl rfl rfl rfl) (ZaT rfl T.range (Za (ZG Ya (Zr Zj rfl T.len PySem.boot_len (Za (pv 1) Zd)) Zh) Zd)) ZcC (fun _ _ _ _ _=>(Yl (i:=3) nd rfl (Or.inl rfl))) (fun _ _ _ _ _=>W6) (fun _ _ _ _ _=>Zh)) (Zb (VF PassesOwn.never rfl (ZaS rfl T.range (Za (ZG Yj (Zr Zj rfl T.len PySem.boot_len (Za (pv 1) Zd)) Zh) (Za (Zc5 J1 Zh) (Za (Zc5 J1 Zh) Zd)))) (Yl (i:=4) nd rfl (Or.inl rfl)) (Zf (ZhO (Zl zzel hr Zz (Za (pv 0) (Za (pv 1) (Za (pv 2) (Za (pv 4) Zd))))) (ZhP (pv 2) (pv 4) Zez)))) (Zf (Zs (pv 2))))),?_⟩
  refine Zm fun G0 hG0=>?_
  obtain ⟨lv,hl1,hl2⟩:=hP.len
  refine hG0 ?_
  clear hG0
  refine Zm fun G0 hG0=>?_
  obtain ⟨_,ok,_⟩:=id hP
  refine hG0 ?_
  clear hG0
  have hll:=UI ok
  have hn8:=ok.size
  have hz:sizeLine=16777216:=by decide
  have hsz:=Yg wo
  refine ⟨_,rfl,ll,_,rfl,.inl (.inl (.inl hl1)),_,_,rfl,rfl,_,rfl,by lia,by lia,fun D hD=>?_⟩
  have en:Int.toNat ((lv.length:Int)+1)=(lnl wo).length+1:=by lia
  rw [en]
  obtain ⟨Pv,hPv⟩:∃ Pv:Nat→Hp→Prop,Pv=fun i H'=>Kp [] H H'∧H' D=some (.lst (List.replicate i (V.int 0))):=⟨_,rfl⟩
  refine Jo Pv ?_ ?_ ?_
  ·rw [hPv]
   exact ⟨Kp.new hD,Ze⟩
  ·intro i H2 hi hw
   rw [hPv] at hw
   obtain ⟨k,hD2⟩:=hw
   refine ⟨rfl,?_⟩
   simp only [tYes]
   walk_at "rd"
   refine ⟨_,hD2,by rw [List.length_replicate];lia,?_⟩
   rw [hPv]
   refine ⟨k.put2 (.inr hD),?_⟩
   rw [Ze,← List.replicate_succ']
  ·intro H2 hw
   rw [hPv] at hw
   obtain ⟨k2,hD2⟩:=hw
   clear hPv Pv
   have hl1':=k2 _ _ hl1 (by simp)
   walk_at "rd"
   obtain ⟨Pv,hPv⟩:∃ Pv:WT,Pv=fun i σ H'=>Kp [] H H'∧∃ (o:Option V) (us:List V),σ=[some (.ref wk),some (.ref ll),some (.ref D),none,o]∧us.length=(lnl wo).length+1∧H' D=some (.lst us)∧∀ j,(lnl wo).length≤j+i→j≤(lnl wo).length→us[j]?=some (.int (bst1 wo j:Nat)):=⟨_,rfl⟩
   refine ⟨_,rfl,ll,rfl,_,.inl (.inl (.inl hl1')),_,_,rfl,rfl,_,rfl,_,rfl,_,_,_,_,rfl,RgC.neg (by lia) (by lia) (by lia) (by lia),JW Pv ?_ ?_ ?_⟩
   ·rw [hPv]
    refine ⟨k2,none,_,rfl,List.length_replicate ..,hD2,fun j h1 h2=>?_⟩
    have:j=(lnl wo).length:=by lia
    subst this
    have e0:bst1 wo (lnl wo).length=0:=by
     unfold bst1
     rw [V9 (VhPage.laid wo) (Y3 wo) (by lia)]
    rw [List.getElem?_replicate,if_pos (by lia),e0];rfl
   ·intro i σ H3 hi hw
    rw [hPv] at hw
    refine Zm fun G0 hG0=>?_
    obtain ⟨k3,o,us,rfl,hul,hD3,hT3⟩:=hw
    refine hG0 ?_
    clear hG0
    have hst:(lv.length:Int)-1+(i:Int) * -1=(((lnl wo).length-1-i:Nat):Int):=by lia
    rw [hst]
    obtain ⟨st,hst'⟩:∃ st,st=(lnl wo).length-1-i:=⟨_,rfl⟩
    rw [← hst']
    walk_at "rd"
    refine ⟨wk,ll,D,wo,st,us,rfl,hP.keep k3,by lia,hD3,⟨hul,fun j h1 h2=>hT3 j (by lia) h2⟩,fun H4 k4=>?_⟩
    have hD4:=k4 _ _ hD3 (by simp)
    refine ⟨_,rfl,_,rfl,D,us,(st:Int),st,rfl,rfl,hD4,?_,?_⟩
    ·unfold ixN
     rw [if_pos (by lia),if_pos (by lia)];simp
    ·rw [hPv]
     refine ⟨(k3.trans k4).put2 (.inr hD),_,us.set st (.int (bst1 wo st:Nat)),rfl,by rw [List.length_set];exact hul,Ze,fun j h1 h2=>?_⟩
     by_cases z:j=st
     ·subst z
      rw [List.getElem?_set_self (by lia)]
     ·rw [List.getElem?_set_ne (Ne.symm z)]
      exact hT3 j (by lia) h2
   ·intro σ H3 hw
    rw [hPv] at hw
    refine Zm fun G0 hG0=>?_
    obtain ⟨k3,o,us,rfl,hul,hD3,hT3⟩:=hw
    refine hG0 ?_
    clear hG0
    walk_at "rd"
    exact q H3 D us hD k3 hD3 hul (fun j hj=>hT3 j (by lia) hj)
def ZgO (a:Ad) (H:Hp) (x:VhPage.Page×Nat) (v:V):Prop:=∃ l,v=.ref l∧ZdN a H l x.1 x.2
def Uw (K:PySem.W.Frag) (a:Ad):Sp:=fun vs H Q _=>∃ (wk ll:Addr) (wo:VhPage.Work),vs=[.ref wk,.ref ll]∧PgR a H wk ll wo ∧
 ∀ H' p us,H p=none→Kp [] H H'→H' p=some (.lst us)→Paired (ZgO a H') (Vo (VhPage.laid wo) (VhPage.laid wo).pages) us→Q (.ref p) H'
abbrev X7:Stmt:=top 49
theorem ZaK:Zp ["work","lines","costs","pages","first","carried","page"] ["work","lines"] (Zc X7):=⟨rfl,rfl,rfl,by decide +kernel,rfl,by decide +kernel,by decide +kernel⟩
theorem Zd4 {f:Addr}{fd:FuncData} (F:Fun K "pages_of" "pages_of" X7 f fd) (T:Txt K mg a) (zzfe:FnC P w K mg base CX0 9 "costs_of" ["work","lines"] (Uz K a)) (zzax:FnC P w K mg base CX0 6 "may_be_whole" ["work","lines","first","carried"] (YN K a)) (zzdg:FnC P w K mg base CX0 6 "whole_page" ["work","lines","first","end","carried"] (WY K a)) (zzbc:FnC P w K mg base CX0 7 "forced_page" ["work","lines","first","carried"] (XL K a)) (zzbo:FnC P w K mg base CX0 7 "best_whole" ["work","lines","costs","first","carried"] (X4 K a)):FnOk P w K mg base CX0 10 f fd ["work","lines"] (Uw K a):=by
 refine F.ok ZaK (fun vs H Q E h=>?_) (fun cdv A outer s H vs Q E hr h=>?_)
 ·obtain ⟨wk,ll,wo,rfl,hP,q⟩:=h
  rfl
 ·obtain ⟨wk,ll,wo,rfl,hP,q⟩:=h
  have nd:=ZaK.nd
  refine ⟨_,(Zb (Zo (i:=2) nd rfl (Or.inl rfl) (Zl zzfe hr Zz (Za (pv 0) (Za (pv 1) Zd)))) (Zb (Zo (i:=3) nd rfl (Or.inl rfl) (YR Zd)) (Zb (Zo (i:=4) nd rfl (Or.inl rfl) Zh) (Zb (Zo (i:=5) nd rfl (Or.inl rfl) Zh) (Zb (Yu PassesOwn.never (PW.pt (Zbj (Zq Wm (pv 4) (Zr Zj rfl T.len PySem.boot_len (Za (pv 1) Zd)) (Zu _)) (Ja (Zq Jf (pv 5) Zh (Zu _))))) (Zb (Ye (Wi (Zl zzax hr Zz (Za (pv 0) (Za (pv 1) (Za (pv 4) (Za (pv 5) Zd)))))) (Zf (Zo (i:=6) nd rfl (Or.inl rfl) (Zl zzdg hr Zz (Za (pv 0) (Za (pv 1) (Za (pv 4) (Za (ZK YF (Zl zzbo hr Zz (Za (pv 0) (Za (pv 1) (Za (pv 2) (Za (pv 4) (Za (pv 5) Zd)))))) Zh (fun _ _=>rfl)) (Za (pv 5) Zd)))))))) (Zf (Zo (i:=6) nd rfl (Or.inl rfl) (Zl zzbc hr Zz (Za (pv 0) (Za (pv 1) (Za (pv 4) (Za (pv 5) Zd)))))))) (Zb (Zy (X6 PySem.F.plainAttrs_list PySem.F.slot_list_append PySem.F.type_list_append Yq (pv 3) (Za (pv 6) Zd))) (Zb (Zo (i:=4) nd rfl (Or.inl rfl) (Zv (pv 6) rfl)) (Zf (Zo (i:=5) nd rfl (Or.inl rfl) (Zv (pv 6) rfl))))))) (Zf (Zs (pv 3)))))))),?_⟩
  refine Zm fun G0 hG0=>?_
  obtain ⟨_,ok,_⟩:=id hP
  refine hG0 ?_
  clear hG0
  have hF:=Jv ok
  have hsz:=Yg wo
  have hms:=Zfm ok
  have hz:sizeLine=16777216:=by decide
  walk_at "rd"
  refine ⟨wk,ll,wo,rfl,hP,fun H1 cs cu hcs0 k1 hcs hcl hcu=>⟨by decide,fun p hp=>?_⟩⟩
  have hpH:H p=none:=k1.free (by simp) hp
  have kp:Kp [] H1 (upd H1 p (HO.lst [])):=Kp.new hp
  obtain ⟨W,hW⟩:∃ W:WT,W=fun m σ H'=>Kp [] H1 H'∧∃ (i:Nat) (c:List (List Vh.Letters)) (o:Option V) (us:List V) (dn:List (VhPage.Page×Nat)),σ=[some (.ref wk),some (.ref ll),some (.ref cs),some (.ref p),some (.int (i:Int)),some (.int (c.length:Nat)),o]∧m=meas (VhPage.laid wo) (Y3 wo) i c∧i≤(lnl wo).length∧H' p=some (.lst us)∧Paired (ZgO a H') dn us∧Vo (VhPage.laid wo) (VhPage.laid wo).pages=dn++Vo (VhPage.laid wo) (best (VhPage.laid wo) (Y3 wo) i c).2∧us.length+meas (VhPage.laid wo) (Y3 wo) i c≤meas (VhPage.laid wo) (Y3 wo) 0 []:=⟨_,rfl⟩
  refine ⟨W,⟨_,by
   rw [hW]
   exact ⟨kp,0,[],none,[],[],rfl,rfl,Nat.zero_le _,Ze,.nil,by rw [← ZbK hF];rfl,by simp⟩⟩,fun m σ H2 hw2=>?_⟩
  rw [hW] at hw2
  refine Zm fun G0 hG0=>?_
  obtain ⟨k2,i,c,o,us,dn,rfl,rfl,hin,hus,hPg,hall,hmeas⟩:=hw2
  refine hG0 ?_
  clear hG0
  have k12:=k1.trans k2
  have hPk:=hP.keep k12
  refine Zm fun G0 hG0=>?_
  obtain ⟨lv,hl1,hl2⟩:=hPk.len
  refine hG0 ?_
  clear hG0
  refine ZdX (t:=tOr _ _) (decide (i<(lnl wo).length∨0<c.length)) (fun Q0 hQ=>?_) ?_
  ·walk_at "rd"
   refine ⟨_,.inl (.inl (.inl hl1)),?_⟩
   rw [hl2]
   by_cases h1:i<(lnl wo).length
   ·rw [if_pos (by lia)]
    rw [decide_eq_true (.inl h1)] at hQ
    exact hQ
   ·rw [if_neg (by lia)]
    have e1:decide ((0:Int)<(c.length:Nat))=decide (i<(lnl wo).length∨0<c.length):=decide_eq_decide.mpr (by lia)
    rw [e1];exact hQ
  ·by_cases hh:i<(lnl wo).length∨0<c.length
   ·rw [if_pos (by simpa using hh)]
    refine ⟨fun σ' H'=>∃ m',m' < meas (VhPage.laid wo) (Y3 wo) i c∧W m' σ' H',fun _ _ z=>z,?_⟩
    have hc':i<(VhPage.laid wo).lines.size∨c≠[]:=by
     rcases hh with h | h
     ·exact .inl (by lia)
     ·exact .inr (List.length_pos_iff.mp h)
    walk_at "rd"
    refine ⟨wk,ll,wo,i,c,rfl,hPk,hin,fun H3 k3=>⟨_,rfl,?_⟩⟩
    have hPk3:=hPk.keep k3
    have k23:=k2.trans k3
    have hpl:=Paired.length hPg
    by_cases hwl:wl (VhPage.laid wo) i c=[]
    ·rw [if_neg (by rw [hwl];simp)]
     refine ⟨wk,ll,wo,i,c,rfl,hPk3,hin,hwl,fun H5 x hx k5 hpg=>?_⟩
     have hm:=UL hF (by lia) hwl hc'
     have hfl:=VR (L:=VhPage.laid wo) (c:=c) (i:=i) (by lia)
     have hwc:=ZcI hF hwl hc'
     have k25:=k23.trans k5
     have hpg0:=hpg
     obtain ⟨d,hpg⟩:=hpg
     have hus5:=k5 _ _ (k3 _ _ hus (by simp)) (by simp)
     have xp:x≠p:=fun z=>by rw [z,hus5] at hpg;cases hpg
     refine ⟨.inl ⟨rfl,_,.inl (.inl hus5)⟩,us,hus5,by lia,?_⟩
     have hpg6:upd H5 p (HO.lst (us++[V.ref x])) x=some (HO.ins a.CP d (pgf (VhG.kindOf (Z2 (VhPage.laid wo) i c)) (Z2 (VhPage.laid wo) i c).first ((Z2 (VhPage.laid wo) i c).first+(Z2 (VhPage.laid wo) i c).lines) (Z2 (VhPage.laid wo) i c).before (Z2 (VhPage.laid wo) i c).own (Z2 (VhPage.laid wo) i c).on.length 0)):=by rw [Zi xp];exact hpg
     refine ⟨_,rfl,x,a.CP,d,_,_,rfl,hpg6,T.clPage,T.nP_end,Zcm _ _ _ _ _ _ _,?_⟩
     refine ⟨_,rfl,x,a.CP,d,_,_,rfl,hpg6,T.clPage,T.nP_rest,Zcl _ _ _ _ _ _ _,?_⟩
     refine ⟨_,hm,?_⟩
     rw [hW]
     refine ⟨k25.put2 (.inr hp),i+(Z2 (VhPage.laid wo) i c).lines,(Z2 (VhPage.laid wo) i c).on,_,us++[.ref x],dn++[(Z2 (VhPage.laid wo) i c,0)],by rw [VS],rfl,by lia,Ze,?_,?_,?_⟩
     ·refine Paired.snoc (Paired.mono (fun y v z=>?_) hPg) ⟨x,rfl,d,hpg6⟩
      refine Zm fun G0 hG0=>?_
      obtain ⟨l,e,d',h⟩:=z
      refine hG0 ?_
      clear hG0
      exact ⟨l,e,d',by rw [Zi (WR h hus (by intro z;cases z))];exact k5 _ _ (k3 _ _ h (by simp)) (by simp)⟩
     ·rw [hall,hwc,List.append_assoc];rfl
     ·rw [List.length_append];simp only [List.length_cons,List.length_nil];lia
    ·have hin':i<(lnl wo).length:=by
      have:¬ (VhPage.laid wo).lines.size≤i:=fun z=>hwl ((Zbw (VhPage.laid wo) i c (by lia)).mpr (.inl z))
      lia
     rw [if_pos (by
      cases z:wl (VhPage.laid wo) i c with
      | nil=>exact absurd z hwl
      | cons p l=>simp)]
     refine ⟨wk,ll,cs,wo,i,c,cu,rfl,hPk3,hin,k23 _ _ hcs (by simp),⟨hcl,fun j _ hj=>hcu j hj⟩,hwl,fun H4 t pg k4 hbp ht=>?_⟩
     refine Zm fun G0 hG0=>?_
     obtain ⟨p',hmem,hb1,hb2⟩:=JZ hF (by lia) hwl
     refine hG0 ?_
     clear hG0
     rw [hb1] at hbp
     have hpp:p'=pg:=by
      have:=Option.some.inj hbp
      exact (Prod.mk.inj this).2
     subst hpp
     refine Zm fun G0 hG0=>?_
     obtain ⟨k,hik,hkn,rfl,hwk⟩:=Zet (VhPage.laid wo) i c (by lia) hmem
     refine hG0 ?_
     clear hG0
     have e4:i+(whole (VhPage.laid wo) i c k).lines=k+1:=by show i+(k+1-i)=k+1;lia
     rw [e4] at ht
     have k24:=k23.trans k4
     refine Xt 1 ht rfl ⟨wk,ll,wo,i,k,c,rfl,hPk3.keep k4,hik,by lia,hwk,fun H5 x hx k5 hpg=>?_⟩
     have hm:=Ze2 (L:=VhPage.laid wo) (B:=Y3 wo) (c:=c) hik hkn
     have hwc:=ZdP hF (by lia) hik hb2
     have k25:=k24.trans k5
     obtain ⟨d,hpg⟩:=hpg
     have hus5:=k5 _ _ (k4 _ _ (k3 _ _ hus (by simp)) (by simp)) (by simp)
     have xp:x≠p:=fun z=>by rw [z,hus5] at hpg;cases hpg
     refine ⟨.inl ⟨rfl,_,.inl (.inl hus5)⟩,us,hus5,by lia,?_⟩
     have hpg6:upd H5 p (HO.lst (us++[V.ref x])) x=some (HO.ins a.CP d (pgf (VhG.kindOf (whole (VhPage.laid wo) i c k)) (whole (VhPage.laid wo) i c k).first ((whole (VhPage.laid wo) i c k).first+(whole (VhPage.laid wo) i c k).lines) (whole (VhPage.laid wo) i c k).before (whole (VhPage.laid wo) i c k).own (whole (VhPage.laid wo) i c k).on.length (ZaA (VhPage.laid wo) i (k+1) (Yr (VhPage.laid wo) i c.length k)))):=by rw [Zi xp];exact hpg
     refine ⟨_,rfl,x,a.CP,d,_,_,rfl,hpg6,T.clPage,T.nP_end,Zcm _ _ _ _ _ _ _,?_⟩
     refine ⟨_,rfl,x,a.CP,d,_,_,rfl,hpg6,T.clPage,T.nP_rest,Zcl _ _ _ _ _ _ _,?_⟩
     refine ⟨_,hm,?_⟩
     rw [hW]
     refine ⟨k25.put2 (.inr hp),k+1,[],some (.ref x),us++[.ref x],dn++[(whole (VhPage.laid wo) i c k,ZaA (VhPage.laid wo) i (k+1) (Yr (VhPage.laid wo) i c.length k))],?_,rfl,by lia,Ze,?_,?_,?_⟩
     ·have e5:(whole (VhPage.laid wo) i c k).first+(whole (VhPage.laid wo) i c k).lines=k+1:=e4
      rw [e5];rfl
     ·refine Paired.snoc (Paired.mono (fun y v z=>?_) hPg) ⟨x,rfl,d,hpg6⟩
      refine Zm fun G0 hG0=>?_
      obtain ⟨l,e,d',h⟩:=z
      refine hG0 ?_
      clear hG0
      exact ⟨l,e,d',by rw [Zi (WR h hus (by intro z;cases z))];exact k5 _ _ (k4 _ _ (k3 _ _ h (by simp)) (by simp)) (by simp)⟩
     ·rw [hall,hwc,List.append_assoc];rfl
     ·rw [List.length_append];simp only [List.length_cons,List.length_nil];lia
   ·rw [if_neg (by simpa using hh)]
    walk_at "rd"
    have hc0:c=[]:=List.length_eq_zero_iff.mp (by lia)
    subst hc0
    rw [V9 (VhPage.laid wo) (Y3 wo) (by lia)] at hall
    refine q H2 p us hpH k12 hus ?_
    rw [hall]
    have:dn++Vo (VhPage.laid wo) (((0,[]):Nat×List VhPage.Page).2)=dn:=List.append_nil dn
    rw [this];exact hPg
end
section
variable {P:Program}{w:World}{K:PySem.W.Frag}{mg:Str→Option Value}{base:Heap}{a:Ad}
def Zix:Expr→Scope
 | .Lambda _ _ sc _=>sc
 | _=>{ kind:=.function,names:=[],isGenerator:=false,isCoroutine:=false }
def Ziy:Expr→Expr
 | .Lambda _ b _ _=>b
 | e=>e
def spL (K:PySem.W.Frag) (a:Ad) (AV:Nat→VhPage.Work→List V) (kv:V):Sp:=fun vs H Q _=>∃ (kn:Nat) (wk:Addr) (wo:VhPage.Work) (hb:List UInt8),kv=.int (kn:Int)∧vs=[.ref wk]∧WkR a H wk wo hb∧WOk wo∧∀ H' p,H' p=some (.lst (AV kn wo))→Q (.ref p) H'
def ansK (AV:Nat→VhPage.Work→List V) (kn:Nat) (bs:List UInt8):List V:=match VhPage.readWork bs with
 | .ok wo=>AV kn wo
 | .error _=>[.int (-6)]
def spA (K:PySem.W.Frag) (a:Ad) (AV:Nat→VhPage.Work→List V) (fL:Addr) (kv:V):Sp:=fun vs H Q _=>∃ (kn:Nat) (ta:Addr) (bs:List UInt8),kv=.int (kn:Int)∧vs=[.ref ta,.ref a.F_read_work,.ref fL]∧SqL K H ta (bsV bs)∧bs.length≤8191∧∀ H' p,H' p=some (.lst (ansK AV kn bs))→Q (.ref p) H'
def Yo (K:PySem.W.Frag) (a:Ad):Sp:=fun vs H Q _=>∃ v,vs=[v]∧((v=.non∧∀ H' p,H' p=some (.lst [.int (-4)])→Q (.ref p) H')∨(∃ p,v=.ref p∧Q (.ref p) H))
abbrev ZP:Stmt:=top 83
theorem XO:Zp ["numbers"] ["numbers"] (Zc ZP):=⟨rfl,rfl,rfl,by decide +kernel,rfl,by decide +kernel,by decide +kernel⟩
theorem VJ {f:Addr}{fd:FuncData} (F:Fun K "numbers_or_refusal" "numbers_or_refusal" ZP f fd) (T:Txt K mg a):FnOk P w K mg base CX0 1 f fd ["numbers"] (Yo K a):=by
 refine F.ok XO (fun vs H Q E h=>?_) (fun cdv A outer s H vs Q E hr h=>?_)
 ·obtain ⟨v,rfl,h⟩:=h
  rfl
 ·obtain ⟨v,rfl,h⟩:=h
  have nd:=XO.nd
  refine ⟨_,(Zb (Ye (Zq Zf5 (pv 0) ZbJ (Zu _)) (Zf (Zs (YR (Za (Zc5 J1 Zh) Zd)))) Zx) (Zf (Zs (pv 0)))),?_⟩
  walk_at "rd"
  rcases h with ⟨rfl,q⟩ | ⟨p,rfl,q⟩
  ·rw [if_pos rfl]
   refine ⟨by decide,fun p hp=>q _ p Ze⟩
  ·rw [if_neg (by intro z;cases z)]
   exact q
end
section
variable {P:Program}{w:World}{K:PySem.W.Frag}{mg:Str→Option Value}{base:Heap}{a:Ad}
def lineV (kn:Nat) (wo:VhPage.Work):List V:=if kn<(VhPage.laid wo).lines.size then (VhG.lineNums (VhPage.laid wo) kn).map (fun (n:Nat)=>V.int (n:Int)) else [.int (-4)]
def XW (K:PySem.W.Frag) (a:Ad):Sp:=fun vs H Q _=>∃ (pl:Addr) (wo:VhPage.Work) (us:List V) (k:Nat),vs=[.ref pl,.int (k:Int)]∧WOk wo∧H pl=some (.lst us)∧Paired (ZgO a H) (Vo (VhPage.laid wo) (VhPage.laid wo).pages) us∧k<(lnl wo).length ∧
 ∀ (j:Nat) (pg:VhPage.Page),(VhPage.laid wo).pages[j]?=some pg→VhG.pageOf (VhPage.laid wo).pages k=j→pg.first≤k→Q (.int (j:Int)) H
abbrev Yx:Stmt:=top 51
theorem Vk:Zp ["pages","k","place"] ["pages","k"] (Zc Yx):=⟨rfl,rfl,rfl,by decide +kernel,rfl,by decide +kernel,by decide +kernel⟩
theorem Zal {f:Addr}{fd:FuncData} (F:Fun K "place_of_page" "place_of_page" Yx f fd) (T:Txt K mg a):FnOk P w K mg base CX0 1 f fd ["pages","k"] (XW K a):=by
 refine F.ok Vk (fun vs H Q E h=>?_) (fun cdv A outer s H vs Q E hr h=>?_)
 ·obtain ⟨pl,wo,us,k,rfl,ok,hl,hPg,hk,q⟩:=h
  rfl
 ·obtain ⟨pl,wo,us,k,rfl,ok,hl,hPg,hk,q⟩:=h
  have nd:=Vk.nd
  refine ⟨_,(Zb (Zo (i:=2) nd rfl (Or.inl rfl) Zh) (Zb (Yu PassesOwn.never (Zq Zf6 (pv 1) (Zv (ZK ZC (pv 0) (pv 2) (fun _ _=>rfl)) rfl) (Zu _)) (Zf (Ur (i:=2) nd rfl (Or.inl rfl) Zh Jq))) (Zf (Zs (pv 2))))),?_⟩
  have hF:=Jv ok
  have hch:=Zd1 hF
  have hsz:=Yg wo
  have hpl:=Paired.length hPg
  rw [ZcH] at hpl
  obtain ⟨J,pJ,hJ,hJk⟩:=ZeF _ 0 _ k hch (by lia) (Nat.zero_le _)
  have hJl:=(List.getElem?_eq_some_iff.mp hJ).1
  walk_at "rd"
  obtain ⟨W,hW⟩:∃ W:WT,W=fun m σ H'=>H'=H∧∃ j:Nat,σ=[some (.ref pl),some (.int (k:Int)),some (.int (j:Int))]∧m=(VhPage.laid wo).pages.length-j∧∀ (i:Nat) (p:VhPage.Page),i<j→(VhPage.laid wo).pages[i]?=some p→p.first+p.lines≤k:=⟨_,rfl⟩
  refine ⟨W,⟨_,by rw [hW];exact ⟨rfl,0,rfl,rfl,fun i p hi=>by lia⟩⟩,fun m σ H2 hw2=>?_⟩
  rw [hW] at hw2
  obtain ⟨rfl,j,rfl,rfl,hbef⟩:=hw2
  have hjJ:j≤J:=Classical.byContradiction fun z=>by
   have:=hbef J pJ (by lia) hJ
   lia
  obtain ⟨pg,hpg⟩:∃ pg,(VhPage.laid wo).pages[j]?=some pg:=⟨_,List.getElem?_eq_getElem (by lia)⟩
  obtain ⟨v,hv,l,rfl,d,hl2⟩:=Paired.get2 hPg (Zax (VhPage.laid wo) _ _ _ hpg)
  refine ZdX (t:=ZcR _) (decide (pg.first+pg.lines≤k)) (fun Q0 hQ=>?_) ?_
  ·walk_at "rd"
   refine WB rfl rfl hl hv hl2 T.clPage T.nP_end (Zcm _ _ _ _ _ _ _) ⟨_,rfl,?_⟩
   have e1:decide (((pg.first+pg.lines:Nat):Int)≤(k:Int))=decide (pg.first+pg.lines≤k):=decide_eq_decide.mpr (by lia)
   rw [e1];exact hQ
  ·by_cases hle:pg.first+pg.lines≤k
   ·rw [if_pos (by simpa using hle)]
    refine ⟨fun σ' H'=>∃ m',m' < (VhPage.laid wo).pages.length-j∧W m' σ' H',fun _ _ z=>z,?_⟩
    walk_at "rd"
    refine ⟨(VhPage.laid wo).pages.length-(j+1),by lia,?_⟩
    rw [hW]
    refine ⟨rfl,j+1,rfl,rfl,fun i p hi hp=>?_⟩
    by_cases z:i=j
    ·subst z
     rw [hpg] at hp
     cases hp
     exact hle
    ·exact hbef i p (by lia) hp
   ·rw [if_neg (by simpa using hle)]
    walk_at "rd"
    obtain ⟨h1,h2⟩:=ZeG _ 0 _ k j pg hch (Nat.zero_le _) hpg (by lia) hbef
    exact q j pg hpg h1 h2
def YM (K:PySem.W.Frag) (a:Ad):Sp:=fun vs H Q _=>∃ (wk:Addr) (wo:VhPage.Work) (hb:List UInt8) (kn:Nat),vs=[.ref wk,.int (kn:Int)]∧WkR a H wk wo hb∧WOk wo∧(kn<(VhPage.laid wo).lines.size→∀ H' p,H' p=some (.lst ((VhG.lineNums (VhPage.laid wo) kn).map (fun (n:Nat)=>V.int (n:Int))))→Q (.ref p) H')∧(¬ kn<(VhPage.laid wo).lines.size→∀ H',Q .non H')
abbrev Yc:Stmt:=top 52
theorem Wx:Zp ["work","k","lines","line","pages","place","page_first","number","foot_count"] ["work","k"] (Zc Yc):=⟨rfl,rfl,rfl,by decide +kernel,rfl,by decide +kernel,by decide +kernel⟩
theorem Ji {f:Addr}{fd:FuncData} (F:Fun K "numbers_of_line" "numbers_of_line" Yc f fd) (T:Txt K mg a) (zzfc:FnC P w K mg base CX0 6 "lines_of" ["work"] (Ux K a)) (zzfb:FnC P w K mg base CX0 10 "pages_of" ["work","lines"] (Uw K a)) (zzbm:FnC P w K mg base CX0 1 "place_of_page" ["pages","k"] (XW K a)) (zzan:FnC P w K mg base CX0 1 "number_of_line" ["work","k","page_first"] (YU K a)) (zzad:FnC P w K mg base CX0 5 "own_foot_lines" ["work","lines","k","page_first"] (ZT K a)):FnOk P w K mg base CX0 11 f fd ["work","k"] (YM K a):=by
 refine F.ok Wx (fun vs H Q E h=>?_) (fun cdv A outer s H vs Q E hr h=>?_)
 ·obtain ⟨wk,wo,hb,k,rfl,hw,ok,q1,q2⟩:=h
  rfl
 ·obtain ⟨wk,wo,hb,k,rfl,hw,ok,q1,q2⟩:=h
  have nd:=Wx.nd
  refine ⟨_,(Zb (Zo (i:=2) nd rfl (Or.inl rfl) (Zl zzfc hr Zz (Za (pv 0) Zd))) (Zb (Ye (Zq Zf6 (pv 1) (Zr Zj rfl T.len PySem.boot_len (Za (pv 2) Zd)) (Zu _)) (Zf (Zs ZbJ)) Zx) (Zb (Zo (i:=3) nd rfl (Or.inl rfl) (ZK ZC (pv 2) (pv 1) (fun _ _=>rfl))) (Zb (Zo (i:=4) nd rfl (Or.inl rfl) (Zl zzfb hr Zz (Za (pv 0) (Za (pv 2) Zd)))) (Zb (Zo (i:=5) nd rfl (Or.inl rfl) (Zl zzbm hr Zz (Za (pv 4) (Za (pv 1) Zd)))) (Zb (Zo (i:=6) nd rfl (Or.inl rfl) (Zv (ZK ZC (pv 4) (pv 5) (fun _ _=>rfl)) rfl)) (Zb (Zo (i:=7) nd rfl (Or.inl rfl) (Zl zzan hr Zz (Za (pv 0) (Za (pv 1) (Za (pv 6) Zd))))) (Zb (Zo (i:=8) nd rfl (Or.inl rfl) (Zl zzad hr Zz (Za (pv 0) (Za (pv 2) (Za (pv 1) (Za (pv 6) Zd)))))) (Zf (Zs (YR (Za (ZG Ya (pv 5) Zh) (Za (pv 7) (Za (Zv (pv 3) rfl) (Za (ZG Yj (Zv (pv 3) rfl) (Zv (pv 3) rfl)) (Za (Zv (pv 3) rfl) (Za (pv 8) Zd))))))))))))))))),?_⟩
  walk_at "gs"
  have hsz:=Yg wo
  walk_at "gr"
  refine ⟨wk,wo,hb,rfl,hw,ok,fun H1 p1 hp1 k1 hL1=>?_⟩
  have hP1:PgR a H1 wk p1 wo:=⟨⟨hb,hw.keep k1⟩,ok,hL1⟩
  obtain ⟨lv,hl1,hl2⟩:=hP1.len
  walk_at "gr"
  refine ⟨_,.inl (.inl (.inl hl1)),?_⟩
  walk_at "gr"
  by_cases hk:k<(lnl wo).length
  ·rw [if_neg (by lia)]
   obtain ⟨us,l,d,nv,x,g1,g2,g3,g4,g5,g6,g7⟩:=hP1.get hk
   walk_at "gr"
   refine ⟨_,.inl (.inl g1),_,V0 g3,?_⟩
   walk_at "gr"
   refine ⟨wk,p1,wo,rfl,hP1,fun H2 p2 us2 hp2 k2 hu2 hPg=>?_⟩
   walk_at "gr"
   refine ⟨p2,wo,us2,k,rfl,ok,hu2,hPg,hk,fun j pg hpg hpo hle=>?_⟩
   obtain ⟨v,hv,l2,rfl,d2,hp⟩:=Paired.get2 hPg (Zax (VhPage.laid wo) _ _ _ hpg)
   walk_at "gr"
   refine ⟨_,.inl (.inl hu2),_,V0 hv,?_⟩
   walk_at "gr"
   refine Js hp T.clPage T.nP_first (ZfZ _ _ _ _ _ _ _) ?_
   walk_at "gr"
   have hsb:=Xy ok.set
   refine ⟨wk,wo,hb,k,pg.first,rfl,(hw.keep k1).keep k2,hle,by lia,?_⟩
   walk_at "gr"
   refine hM _ _ _ ?_
   dsimp only [List.set]
   walk_at "gr"
   refine ⟨wk,p1,wo,k,pg.first,rfl,hP1.keep k2,hle,hk,fun H3 k3=>?_⟩
   show M { nx:=fun x H'=>Q V.non H',rt:=Q } _ H3
   refine hM _ _ _ ?_
   dsimp only [List.set]
   have g8:=k3 _ _ (k2 _ _ g6 (by simp)) (by simp)
   walk_at "gr"
   refine ⟨_,rfl,?_⟩
   walk_at "gr"
   refine Js g8 T.clLine T.nL_first (Za2 _ _ _ _ _ _) ?_
   walk_at "gr"
   refine Js g8 T.clLine T.nL_end (Zef _ _ _ _ _ _) ?_
   walk_at "gr"
   refine Js g8 T.clLine T.nL_first (Za2 _ _ _ _ _ _) ?_
   walk_at "gr"
   refine Js g8 T.clLine T.nL_taken (Zge _ _ _ _ _ _) ?_
   walk_at "gr"
   refine ⟨_,rfl,?_⟩
   walk_at "gr"
   refine ⟨(show 6≤sizeLine by decide),fun p hp=>?_⟩
   walk_at "gr"
   refine q1 (by lia) _ p ?_
   have e1:((x.first+x.count:Nat):Int)-(x.first:Int)=((x.count:Nat):Int):=by lia
   have e2:(j:Int)+1=((j+1:Nat):Int):=by lia
   rw [Ze,e1,e2]
   have e3:VhG.lineNums (VhPage.laid wo) k=[j+1,(VhPage.laid wo).numberOf pg.first k,x.first,x.count,WS wo x,ownN (VhPage.laid wo) pg.first k]:=by
    unfold VhG.lineNums
    simp only []
    have e4:((VhPage.laid wo).pages.getD j VhG.noPage)=pg:=by rw [List.getD_eq_getElem?_getD,hpg];rfl
    rw [hpo,e4,g5,Zdl ok g4]
    rfl
   rw [e3]
   rfl
  ·rw [if_pos (by lia)]
   exact q2 (by lia) _
abbrev Wa:Stmt:=top 82
theorem ZaO:Zp ["t","read","answer","found"] ["t","read","answer"] (Zc Wa):=⟨rfl,rfl,rfl,by decide +kernel,rfl,by decide +kernel,by decide +kernel⟩
theorem Zd8 {AV:Nat→VhPage.Work→List V}{kvL:V}{fL:Addr}{fdL:FuncData}{f:Addr}{fd:FuncData} (F:Fun K "answered" "answered" Wa f fd) (T:Txt K mg a) (hat:PySem.W.FnAt fL base) (FA:FnOk P w K mg base CX0 12 fL fdL ["work"] (spL K a AV kvL)) (hbA:∀ (s:Shared) (us:List Value),us.length=["work"].length→BindsTo s fdL ⟨us,[]⟩ ((["work"]:List Str).zip us)) (zzej:FnC P w K mg base (CX1 P w a.CE) 7 "read_work" ["reader"] (Vs K a)) (zzct:J0 P w K mg base CX0 1 a.CR "Reader" ["self","t"] (WH K a)):FnOk P w K mg base CX0 13 f fd ["t","read","answer"] (spA K a AV fL kvL):=by
 refine F.ok ZaO (fun vs H Q E h=>?_) (fun cdv A outer s H vs Q E hr h=>?_)
 ·obtain ⟨kn,ta,bs,_,rfl,h⟩:=h
  rfl
 ·obtain ⟨kn,ta,bs,hkv,rfl,hS,hlen,q⟩:=h
  have nd:=ZaO.nd
  refine ⟨_,(Zb (Ye (Zq Jf (Zr Zj rfl T.len PySem.boot_len (Za (pv 0) Zd)) (Z8 T.cMOST_TEXT_BYTES) (Zu _)) (Zf (Zs (YR (Za (Zc5 J1 Zh) Zd)))) Zx) (Zb (by refine' Zi4 (C:=a.CE) ?eT ?eg ?eb ?es;(case eT=>exact T.exc);(case eg=>exact rfl);(case eb=>exact (Zic (i:=3) nd rfl (Or.inl rfl) (Zg3 1 zzej T.f_read_work hr (Za (W9 zzct hr Zz (Za (pv 0) Zd)) Zd))));(case es=>exact fun _=>(Zf (Zs (YR (Za (Zc5 J1 Zh) Zd)))))) (Zf (Zs (Zg6 2 hat FA hbA hr Zz (Za (pv 3) Zd)))))),?_⟩
  obtain ⟨ot,hta⟩:=SqL.is T hS
  walk_at "rd"
  refine ⟨_,.inl hS,?_⟩
  rw [Zeo,if_neg (by lia)]
  simp only [ZfN,ZfO]
  walk_at "rd"
  intro x dx nx ndx nex
  have tax:ta≠x:=Zg hta nx
  have tadx:ta≠dx:=Zg hta ndx
  have k0:Kp [] H (upd (upd H dx (HO.own x)) x (HO.ins a.CR dx [])):=fun c o e _=>by
   rw [Zi (Zg e nx),Zi (Zg e ndx)];exact e
  refine ⟨x,dx,ta,bs,rfl,Ze,k0.seq (by simp) hS,tax,fun H2 k2 R2=>⟨rfl,?_⟩⟩
  refine ⟨x,ta,bs,rfl,R2,fun wo hb wk H3 e3 _ _ k3 hw=>?_,fun p3 H3 e3 R3=>?_⟩
  ·simp only [ZhM]
   walk_at "rd"
   have ok:=Zh2 e3
   refine ⟨kn,wk,wo,hb,hkv,rfl,⟨hw,Zib ok,ok.rows⟩,ok,fun H' p hp=>q H' p ?_⟩
   rw [hp]
   unfold ansK
   rw [e3]
  ·intro ea
   walk_at "rd"
   refine ⟨by decide,fun l hl=>q _ l ?_⟩
   rw [Ze]
   unfold ansK
   rw [e3]
abbrev lam0:Expr:=ZiL (ZaG (stI (Zk (top 84)) 0)) 2
theorem Ziv:ZcG "work" "k" (Zix lam0):=⟨rfl,rfl,rfl,rfl,rfl,by decide +kernel,by decide +kernel⟩
def sp_line (K:PySem.W.Frag) (PT:Addr):Sp:=fun vs H Q _=>∃ (kn:Nat) (ta:Addr) (bs:List UInt8),vs=[.int (kn:Int),.ref ta]∧SqL K H ta (bsV bs)∧H PT=some (.tbl #[])∧bs.length≤8190∧∀ H' p,H' p=some (.lst (ansK lineV kn bs))→Q (.ref p) H'
abbrev Wz:Stmt:=top 84
theorem Zia:Zp ["k","t"] ["k","t"] (Zc Wz):=⟨rfl,rfl,rfl,by decide +kernel,rfl,by decide +kernel,by decide +kernel⟩
theorem Zhn {ql:Str}{f c' kc:Addr}{kv:V}{A:Around}{outer:List Env}{s:Shared}{H:Hp}{v:V}{Q:VK}{E:XK} (zzao:FnC P w K mg base CX0 1 "numbers_or_refusal" ["numbers"] (Yo K a)) (zza5:FnC P w K mg base CX0 11 "numbers_of_line" ["work","k"] (YM K a))
  (hr:Room 11 (A.deeper (PySem.W.envX ql (Zix lam0) s.heap.objs.size f (.ref c') [("k",kc)]))) (h:spL K a lineV kv [v] H Q E) :
  ∃ t,PE (Zem P w K mg base ["work","k"] ql (Zix lam0) f (.ref c') [("k",kc)] A outer s H E) (Ziy lam0) t∧t [some v,some kv] H Q:=by
 refine ⟨_,(Zl zzao hr Zz (Za (Zl zza5 hr Zz (Za (pv 0) (Za (pv 1) Zd))) Zd)),?_⟩
 obtain ⟨kn,wk,wo,hb,rfl,hv,hw,ok,q⟩:=h
 cases hv
 walk_at "rd"
 refine ⟨wk,wo,hb,kn,rfl,hw,ok,fun hk H' p hp=>⟨_,rfl,.inr ⟨p,rfl,q H' p ?_⟩⟩,fun hk H'=>⟨_,rfl,.inl ⟨rfl,fun H2 p hp=>q H2 p ?_⟩⟩⟩
 ·rw [hp];unfold lineV;rw [if_pos hk]
 ·rw [hp];unfold lineV;rw [if_neg hk]
theorem Zin {f c gf:Addr}{oc kV doc pm ct:Value}{od an:Option Addr}{osl:Array (Option Value)} (lk:K.lookup f=some ⟨oc,od,.func (PySem.W.fnOf "line" "line" (Zn Wz) (Zk Wz) (Zc Wz) .none kV doc pm an (.ref c) ct),osl⟩) (hcd:PySem.W.codeIn K (.ref c) "line"=true) (T:Txt K mg a)
  (hC:∀ h,K.In h→PySem.W.CodeHd h c a.PT) (hB:base.BuiltinsAt mg a.PT) (hgP:mainGlobals≠a.PT) (hm:mg "answered"=some (.ref gf)) (hk:PySem.W.keepIn K (.ref gf)=true)
  (hA:∀ (base':Heap) (fL:Addr) (fdL:FuncData) (kv:V),PySem.W.FnAt fL base'→(∀ (s:Shared) (us:List Value),us.length=["work"].length→BindsTo s fdL ⟨us,[]⟩ ((["work"]:List Str).zip us))→FnOk P w K mg base' CX0 12 fL fdL ["work"] (spL K a lineV kv)→FnC P w K mg base' CX0 13 "answered" ["t","read","answer"] (spA K a lineV fL kv))
  (hN:∀ base',FnC P w K mg base' CX0 11 "numbers_of_line" ["work","k"] (YM K a)) (hR:∀ base',FnC P w K mg base' CX0 1 "numbers_or_refusal" ["numbers"] (Yo K a)) :
  FnOk P w K mg base CX0 14 f (PySem.W.fnOf "line" "line" (Zn Wz) (Zk Wz) (Zc Wz) .none kV doc pm an (.ref c) ct) ["k","t"] (sp_line K a.PT):=by
 refine ZiI lk hcd Zia (fun vs H Q E h=>?_) (fun A outer s H vs Q E hr h=>?_)
 ·obtain ⟨kn,ta,bs,rfl,h⟩:=h
  rfl
 ·obtain ⟨kn,ta,bs,rfl,hS,hPT,hlen,q⟩:=h
  refine ⟨_,Zf (Zs (Zff (i:=1) (j:=0) (t:="t") (fx:="k") (x:="work") (c:=c) (fr:=a.F_read_work) (rn:="read_work") (PT:=a.PT) (gf:=gf) (k:=13) (jl:=11) (spL:=spL K a lineV) (spA:=spA K a lineV) (ps2:=["t","read","answer"]) (E:=E) Ziv rfl hC hB rfl rfl rfl rfl (Or.inl rfl) (fun kc hkc=>by cases hkc;rfl) rfl rfl rfl T.f_read_work rfl hm hk hr
   (fun kv vs H Q E h=>by obtain ⟨_,_,_,_,_,rfl,_⟩:=h;rfl) (fun base' f fd kv hM h1 h2 h3=>hA base' f fd kv h1 h2 h3) (fun f c' kc pm ctv s us hu=>match us,hu with | [_],_=>.of_eq rfl)
   (fun base' f c' kc kv A outer s H v Q E hr h=>Zhn (hR base') (hN base') hr h) Zz hgP)),?_⟩
  refine ⟨.ref ta,.int (kn:Int),#[],rfl,rfl,hPT,trivial,rfl,fun fL ps' hfL=>⟨kn,ta,bs,rfl,rfl,?_,by lia,q⟩⟩
  rcases hS with (h | ⟨o,h⟩) | h
  ·exact .inl (.inl (by rw [Zi (fun z=>by rw [z,hPT] at h;cases h)];exact h))
  ·exact .inl (.inr ⟨o,by rw [Zi (fun z=>by rw [z,hPT] at h;cases h)];exact h⟩)
  ·exact .inr h
end
end Vp
end
section
set_option maxRecDepth 100000
set_option maxHeartbeats 4000000
namespace Vp
open PySem PySem.Spec PyProof.Rows L2
open PySem.W (Codec)
theorem Ue {K:PySem.W.Frag}{a:Addr}{d:Option Addr}{its:Array Value}{n:Nat}{sl:Array (Option Value)}{xs:List V} (l:K.lookup a=some ⟨.type "tuple",d,.seq its n,sl⟩) (hz:its.size≤1000) (v:Vals xs its.toList) (H:Hp):SqT K H a xs :=
 .inr ⟨_,its,n,l,rfl,rfl,Nat.le_trans hz (by decide),v⟩
theorem ZhT {b:Addr}{o:Obj}:∀ {K:PySem.W.Frag},K.lookup b=some o→(b,o)∈K
 | [],h=>by cases h
 | (c,u)::r,h=>by
  rw [List.lookup_cons] at h
  cases e:b==c with
  | true =>
   rw [e] at h
   have h':u=o:=Option.some.inj h
   rw [← h',eq_of_beq e]
   exact List.mem_cons_self
  | false =>
   rw [e] at h
   exact List.mem_cons_of_mem _ (ZhT h)
theorem lcs {us:List Value}{n:Nat} (h:us.length=n+1):∃ a r,us=a::r∧r.length=n:=match us,h with | a::r,h=>⟨a,r,rfl,Nat.succ.inj h⟩
theorem fb1 {K:PySem.W.Frag}{x qual:Str}{st:Stmt}{f:Addr}{fd:FuncData}{p0:Str} (F:Fun K x qual st f fd) (h:∀ (kV doc pm:Value) (an:Option Addr) (cdv ct a0:Value),bindArgs (PySem.W.fnOf x qual (Zn st) (Zk st) (Zc st) .none kV doc pm an cdv ct) ⟨[a0],[]⟩=pure ([p0].zip [a0])):ZB K fd [p0] []:=F.binds fun kV doc pm an cdv ct us hl=>by
 obtain ⟨a0,r0,rfl,h0⟩:=lcs (n:=0) hl
 obtain rfl:=List.eq_nil_of_length_eq_zero h0
 exact h kV doc pm an cdv ct a0
theorem fb2 {K:PySem.W.Frag}{x qual:Str}{st:Stmt}{f:Addr}{fd:FuncData}{p0 p1:Str} (F:Fun K x qual st f fd) (h:∀ (kV doc pm:Value) (an:Option Addr) (cdv ct a0 a1:Value),bindArgs (PySem.W.fnOf x qual (Zn st) (Zk st) (Zc st) .none kV doc pm an cdv ct) ⟨[a0,a1],[]⟩=pure ([p0,p1].zip [a0,a1])):ZB K fd [p0,p1] []:=F.binds fun kV doc pm an cdv ct us hl=>by
 obtain ⟨a0,r0,rfl,h0⟩:=lcs (n:=1) hl
 obtain ⟨a1,r1,rfl,h1⟩:=lcs (n:=0) h0
 obtain rfl:=List.eq_nil_of_length_eq_zero h1
 exact h kV doc pm an cdv ct a0 a1
theorem fb3 {K:PySem.W.Frag}{x qual:Str}{st:Stmt}{f:Addr}{fd:FuncData}{p0 p1 p2:Str} (F:Fun K x qual st f fd) (h:∀ (kV doc pm:Value) (an:Option Addr) (cdv ct a0 a1 a2:Value),bindArgs (PySem.W.fnOf x qual (Zn st) (Zk st) (Zc st) .none kV doc pm an cdv ct) ⟨[a0,a1,a2],[]⟩=pure ([p0,p1,p2].zip [a0,a1,a2])):ZB K fd [p0,p1,p2] []:=F.binds fun kV doc pm an cdv ct us hl=>by
 obtain ⟨a0,r0,rfl,h0⟩:=lcs (n:=2) hl
 obtain ⟨a1,r1,rfl,h1⟩:=lcs (n:=1) h0
 obtain ⟨a2,r2,rfl,h2⟩:=lcs (n:=0) h1
 obtain rfl:=List.eq_nil_of_length_eq_zero h2
 exact h kV doc pm an cdv ct a0 a1 a2
theorem fb4 {K:PySem.W.Frag}{x qual:Str}{st:Stmt}{f:Addr}{fd:FuncData}{p0 p1 p2 p3:Str} (F:Fun K x qual st f fd) (h:∀ (kV doc pm:Value) (an:Option Addr) (cdv ct a0 a1 a2 a3:Value),bindArgs (PySem.W.fnOf x qual (Zn st) (Zk st) (Zc st) .none kV doc pm an cdv ct) ⟨[a0,a1,a2,a3],[]⟩=pure ([p0,p1,p2,p3].zip [a0,a1,a2,a3])):ZB K fd [p0,p1,p2,p3] []:=F.binds fun kV doc pm an cdv ct us hl=>by
 obtain ⟨a0,r0,rfl,h0⟩:=lcs (n:=3) hl
 obtain ⟨a1,r1,rfl,h1⟩:=lcs (n:=2) h0
 obtain ⟨a2,r2,rfl,h2⟩:=lcs (n:=1) h1
 obtain ⟨a3,r3,rfl,h3⟩:=lcs (n:=0) h2
 obtain rfl:=List.eq_nil_of_length_eq_zero h3
 exact h kV doc pm an cdv ct a0 a1 a2 a3
theorem fb5 {K:PySem.W.Frag}{x qual:Str}{st:Stmt}{f:Addr}{fd:FuncData}{p0 p1 p2 p3 p4:Str} (F:Fun K x qual st f fd) (h:∀ (kV doc pm:Value) (an:Option Addr) (cdv ct a0 a1 a2 a3 a4:Value),bindArgs (PySem.W.fnOf x qual (Zn st) (Zk st) (Zc st) .none kV doc pm an cdv ct) ⟨[a0,a1,a2,a3,a4],[]⟩=pure ([p0,p1,p2,p3,p4].zip [a0,a1,a2,a3,a4])):ZB K fd [p0,p1,p2,p3,p4] []:=F.binds fun kV doc pm an cdv ct us hl=>by
 obtain ⟨a0,r0,rfl,h0⟩:=lcs (n:=4) hl
 obtain ⟨a1,r1,rfl,h1⟩:=lcs (n:=3) h0
 obtain ⟨a2,r2,rfl,h2⟩:=lcs (n:=2) h1
 obtain ⟨a3,r3,rfl,h3⟩:=lcs (n:=1) h2
 obtain ⟨a4,r4,rfl,h4⟩:=lcs (n:=0) h3
 obtain rfl:=List.eq_nil_of_length_eq_zero h4
 exact h kV doc pm an cdv ct a0 a1 a2 a3 a4
theorem fb6 {K:PySem.W.Frag}{x qual:Str}{st:Stmt}{f:Addr}{fd:FuncData}{p0 p1 p2 p3 p4 p5:Str} (F:Fun K x qual st f fd) (h:∀ (kV doc pm:Value) (an:Option Addr) (cdv ct a0 a1 a2 a3 a4 a5:Value),bindArgs (PySem.W.fnOf x qual (Zn st) (Zk st) (Zc st) .none kV doc pm an cdv ct) ⟨[a0,a1,a2,a3,a4,a5],[]⟩=pure ([p0,p1,p2,p3,p4,p5].zip [a0,a1,a2,a3,a4,a5])):ZB K fd [p0,p1,p2,p3,p4,p5] []:=F.binds fun kV doc pm an cdv ct us hl=>by
 obtain ⟨a0,r0,rfl,h0⟩:=lcs (n:=5) hl
 obtain ⟨a1,r1,rfl,h1⟩:=lcs (n:=4) h0
 obtain ⟨a2,r2,rfl,h2⟩:=lcs (n:=3) h1
 obtain ⟨a3,r3,rfl,h3⟩:=lcs (n:=2) h2
 obtain ⟨a4,r4,rfl,h4⟩:=lcs (n:=1) h3
 obtain ⟨a5,r5,rfl,h5⟩:=lcs (n:=0) h4
 obtain rfl:=List.eq_nil_of_length_eq_zero h5
 exact h kV doc pm an cdv ct a0 a1 a2 a3 a4 a5
theorem all_mk {P:Program}{w:World}{K:PySem.W.Frag}{h:Heap}{mg:Str→Option Value}{fa c0 PT:Addr}{CE CR CW CL CN CP f0 f1 f2 f3 f4 f5 f6 f7 f8 f9 f10 f11 f12 f13 f14 f15 f16 f17 f18 f19 f20 f21 f22 f23 f24 f25 f26 f27 f28 f29 f30 f31 f32 f33 f34 f35 f36 f37 f38 f39 f40 f41 f42 f43 f44 f45 f46 f47 f48 f49 f50 f51 f52 f53 f54 f55 f56 f57 f58 f59 f60 f61 f62 f63 f64 aMARKS aENDS aSETTING_BOUNDS aCARET zzd1 zzd0 zzdz zzdy zzdx zzdw:Addr}{zzk2 zzib zzgd zzh9 zzk1 tCUT zzji zzkf zzjt zzgc zzjg zzjh zzia zziu zzdd zze8 zzde zzgb zzlc zzlb zzla zzk9 zzk8 zzk7 zzk6 zzk5 zzk4 zzk3 zzk0 zzkz zzky zzkx zzkw zzkv zzlf zzle zzh8 zzh7 zzh6 zzh5 zzh4 zzh3 zzh2 zzh1 zzh0 zzhz zzhy zzhx zzld:Tok}{od0 od1 od2 od3 od4 od5 od6 od7 od8 od9 od10 od11 od12 od13 od14 od15 od16 od17 od18 od19 od20 od21 od22 od23 od24 od25 od26 od27 od28 od29 od30 od31 od32 od33 od34 od35 od36 od37 od38 od39 od40 od41 od42 od43 od44 od45 od46 od47 od48 od49 od50 od51 od52 od53 od54 od55 od56 od57 od58 od59 od60 od61 od62 od63 od64 an0 an1 an2 an3 an4 an5 an6 an7 an8 an9 an10 an11 an12 an13 an14 an15 an16 an17 an18 an19 an20 an21 an22 an23 an24 an25 an26 an27 an28 an29 an30 an31 an32 an33 an34 an35 an36 an37 an38 an39 an40 an41 an42 an43 an44 an45 an46 an47 an48 an49 an50 an51 an52 an53 an54 an55 an56 an57 an58 an59 an60 an61 an62 an63 an64 zzlk dENDS zzjp zzjc zzjb zzja zzi9 zzi8 zzi7 zzll:Option Addr}{sl0 sl1 sl2 sl3 sl4 sl5 sl6 sl7 sl8 sl9 sl10 sl11 sl12 sl13 sl14 sl15 sl16 sl17 sl18 sl19 sl20 sl21 sl22 sl23 sl24 sl25 sl26 sl27 sl28 sl29 sl30 sl31 sl32 sl33 sl34 sl35 sl36 sl37 sl38 sl39 sl40 sl41 sl42 sl43 sl44 sl45 sl46 sl47 sl48 sl49 sl50 sl51 sl52 sl53 sl54 sl55 sl56 sl57 sl58 sl59 sl60 sl61 sl62 sl63 sl64 zzlg sENDS zzjj zzi0 zziz zziy zzix zziw zziv zzlh:Array (Option Value)}{zzli nENDS zzjm zzi6 zzi5 zzi4 zzi3 zzi2 zzi1 zzlj:Nat}{oc0 kV0 dc0 pm0 cd0 ct0 oc1 kV1 dc1 pm1 cd1 ct1 oc2 kV2 dc2 pm2 cd2 ct2 oc3 kV3 dc3 pm3 cd3 ct3 oc4 kV4 dc4 pm4 cd4 ct4 oc5 kV5 dc5 pm5 cd5 ct5 oc6 kV6 dc6 pm6 cd6 ct6 oc7 kV7 dc7 pm7 cd7 ct7 oc8 kV8 dc8 pm8 cd8 ct8 oc9 kV9 dc9 pm9 cd9 ct9 oc10 kV10 dc10 pm10 cd10 ct10 oc11 kV11 dc11 pm11 cd11 ct11 oc12 kV12 dc12 pm12 cd12 ct12 oc13 kV13 dc13 pm13 cd13 ct13 oc14 kV14 dc14 pm14 cd14 ct14 oc15 kV15 dc15 pm15 cd15 ct15 oc16 kV16 dc16 pm16 cd16 ct16 oc17 kV17 dc17 pm17 cd17 ct17 oc18 kV18 dc18 pm18 cd18 ct18 oc19 kV19 dc19 pm19 cd19 ct19 oc20 kV20 dc20 pm20 cd20 ct20 oc21 kV21 dc21 pm21 cd21 ct21 oc22 kV22 dc22 pm22 cd22 ct22 oc23 kV23 dc23 pm23 cd23 ct23 oc24 kV24 dc24 pm24 cd24 ct24 oc25 kV25 dc25 pm25 cd25 ct25 oc26 kV26 dc26 pm26 cd26 ct26 oc27 kV27 dc27 pm27 cd27 ct27 oc28 kV28 dc28 pm28 cd28 ct28 oc29 kV29 dc29 pm29 cd29 ct29 oc30 kV30 dc30 pm30 cd30 ct30 oc31 kV31 dc31 pm31 cd31 ct31 oc32 kV32 dc32 pm32 cd32 ct32 oc33 kV33 dc33 pm33 cd33 ct33 oc34 kV34 dc34 pm34 cd34 ct34 oc35 kV35 dc35 pm35 cd35 ct35 oc36 kV36 dc36 pm36 cd36 ct36 oc37 kV37 dc37 pm37 cd37 ct37 oc38 kV38 dc38 pm38 cd38 ct38 oc39 kV39 dc39 pm39 cd39 ct39 oc40 kV40 dc40 pm40 cd40 ct40 oc41 kV41 dc41 pm41 cd41 ct41 oc42 kV42 dc42 pm42 cd42 ct42 oc43 kV43 dc43 pm43 cd43 ct43 oc44 kV44 dc44 pm44 cd44 ct44 oc45 kV45 dc45 pm45 cd45 ct45 oc46 kV46 dc46 pm46 cd46 ct46 oc47 kV47 dc47 pm47 cd47 ct47 oc48 kV48 dc48 pm48 cd48 ct48 oc49 kV49 dc49 pm49 cd49 ct49 oc50 kV50 dc50 pm50 cd50 ct50 oc51 kV51 dc51 pm51 cd51 ct51 oc52 kV52 dc52 pm52 cd52 ct52 oc53 kV53 dc53 pm53 cd53 ct53 oc54 kV54 dc54 pm54 cd54 ct54 oc55 kV55 dc55 pm55 cd55 ct55 oc56 kV56 dc56 pm56 cd56 ct56 oc57 kV57 dc57 pm57 cd57 ct57 oc58 kV58 dc58 pm58 cd58 ct58 oc59 kV59 dc59 pm59 cd59 ct59 oc60 kV60 dc60 pm60 cd60 ct60 oc61 kV61 dc61 pm61 cd61 ct61 oc62 kV62 dc62 pm62 cd62 ct62 oc63 kV63 dc63 pm63 cd63 ct63 oc64 kV64 dc64 pm64 cd64 ct64:Value} (X:K.In h) (G:h.Ns mainGlobals mg) (hfa:mg "line"=some (.ref fa)) (htab:PySem.W.tabIn K "line"=some (c0,PT)) (hC:∀ h2,K.In h2→PySem.W.CodeHd h2 c0 PT) (hgP:mainGlobals≠PT) (qCE:PySem.W.excIn K CE [.type "ValueError",.type "Exception",.type "BaseException",.type "object"] "ValueError.__new__"=true) (nl:(K.all fun p=>!(p.2.cls==.type "list"))=true)
  (aCR:PySem.W.nsIn K mainGlobals "Reader"=some (some (.ref CR)))
  (pgR:PySem.W.plainGet K CR Str.empty=true)
  (hdR:PySem.W.hasDictIn K CR=true)
  (poR:PySem.W.plainOver K CR=true)
  (saR:PySem.W.findIn K (.ref CR) "__setattr__"=some (some (.builtin "object.__setattr__")))
  (mkR:PySem.W.makesIn K CR=true)
  (kcR:PySem.W.keepIn K (.ref CR)=true)
  (nR_t:PySem.W.findIn K (.ref CR) "t"=some none)
  (nR_at:PySem.W.findIn K (.ref CR) "at"=some none)
  (aCW:PySem.W.nsIn K mainGlobals "Work"=some (some (.ref CW)))
  (pgW:PySem.W.plainGet K CW Str.empty=true)
  (hdW:PySem.W.hasDictIn K CW=true)
  (poW:PySem.W.plainOver K CW=true)
  (saW:PySem.W.findIn K (.ref CW) "__setattr__"=some (some (.builtin "object.__setattr__")))
  (mkW:PySem.W.makesIn K CW=true)
  (kcW:PySem.W.keepIn K (.ref CW)=true)
  (zzjv:PySem.W.findIn K (.ref CW) "width"=some none)
  (zzjl:PySem.W.findIn K (.ref CW) "height"=some none)
  (zzjk:PySem.W.findIn K (.ref CW) "indent"=some none)
  (zzjy:PySem.W.findIn K (.ref CW) "every"=some none)
  (zzkb:PySem.W.findIn K (.ref CW) "anew"=some none)
  (zzjx:PySem.W.findIn K (.ref CW) "loose"=some none)
  (zzj9:PySem.W.findIn K (.ref CW) "rows"=some none)
  (zzka:PySem.W.findIn K (.ref CW) "head"=some none)
  (zzff:PySem.W.findIn K (.ref CW) "paragraphs"=some none)
  (zzju:PySem.W.findIn K (.ref CW) "words"=some none)
  (zzjw:PySem.W.findIn K (.ref CW) "signs"=some none)
  (zzig:PySem.W.findIn K (.ref CW) "entries"=some none)
  (aCL:PySem.W.nsIn K mainGlobals "Line"=some (some (.ref CL)))
  (pgL:PySem.W.plainGet K CL Str.empty=true)
  (hdL:PySem.W.hasDictIn K CL=true)
  (poL:PySem.W.plainOver K CL=true)
  (saL:PySem.W.findIn K (.ref CL) "__setattr__"=some (some (.builtin "object.__setattr__")))
  (mkL:PySem.W.makesIn K CL=true)
  (kcL:PySem.W.keepIn K (.ref CL)=true)
  (nL_first:PySem.W.findIn K (.ref CL) "first"=some none)
  (nL_end:PySem.W.findIn K (.ref CL) "end"=some none)
  (nL_opens:PySem.W.findIn K (.ref CL) "opens"=some none)
  (nL_closes:PySem.W.findIn K (.ref CL) "closes"=some none)
  (nL_taken:PySem.W.findIn K (.ref CL) "taken"=some none)
  (nL_note:PySem.W.findIn K (.ref CL) "note"=some none)
  (aCN:PySem.W.nsIn K mainGlobals "Note"=some (some (.ref CN)))
  (pgN:PySem.W.plainGet K CN Str.empty=true)
  (hdN:PySem.W.hasDictIn K CN=true)
  (poN:PySem.W.plainOver K CN=true)
  (saN:PySem.W.findIn K (.ref CN) "__setattr__"=some (some (.builtin "object.__setattr__")))
  (mkN:PySem.W.makesIn K CN=true)
  (kcN:PySem.W.keepIn K (.ref CN)=true)
  (nN_things:PySem.W.findIn K (.ref CN) "things"=some none)
  (nN_takes:PySem.W.findIn K (.ref CN) "takes"=some none)
  (nN_tails:PySem.W.findIn K (.ref CN) "tails"=some none)
  (aCP:PySem.W.nsIn K mainGlobals "Page"=some (some (.ref CP)))
  (pgP:PySem.W.plainGet K CP Str.empty=true)
  (hdP:PySem.W.hasDictIn K CP=true)
  (poP:PySem.W.plainOver K CP=true)
  (saP:PySem.W.findIn K (.ref CP) "__setattr__"=some (some (.builtin "object.__setattr__")))
  (mkP:PySem.W.makesIn K CP=true)
  (kcP:PySem.W.keepIn K (.ref CP)=true)
  (nP_kind:PySem.W.findIn K (.ref CP) "kind"=some none)
  (nP_first:PySem.W.findIn K (.ref CP) "first"=some none)
  (nP_end:PySem.W.findIn K (.ref CP) "end"=some none)
  (nP_came:PySem.W.findIn K (.ref CP) "came"=some none)
  (nP_own:PySem.W.findIn K (.ref CP) "own"=some none)
  (nP_rest:PySem.W.findIn K (.ref CP) "rest"=some none)
  (nP_cost:PySem.W.findIn K (.ref CP) "cost"=some none)
  (aCE:PySem.W.nsIn K mainGlobals "NoText"=some (some (.ref CE)))
  (zzkm:PySem.W.nsIn K mainGlobals "BLANK"=some (some (.int 32 zzk2)))
  (zzf1:PySem.W.nsIn K mainGlobals "FIRST_LETTER"=some (some (.int 33 zzib)))
  (zzeh:PySem.W.nsIn K mainGlobals "LAST_CHARACTER"=some (some (.int 1114111 zzgd)))
  (zzfz:PySem.W.nsIn K mainGlobals "MOST_LETTERS"=some (some (.int 64 zzh9)))
  (zzkl:PySem.W.nsIn K mainGlobals "WHOLE"=some (some (.int 0 zzk1)))
  (iCUT:PySem.W.nsIn K mainGlobals "CUT"=some (some (.int 1 tCUT)))
  (zzhn:PySem.W.nsIn K mainGlobals "FOOT_ALONE"=some (some (.int 2 zzji)))
  (zzj3:PySem.W.nsIn K mainGlobals "NO_BYTE"=some (some (.int 256 zzkf)))
  (zzin:PySem.W.nsIn K mainGlobals "MOST_ROWS"=some (some (.int 64 zzjt)))
  (zzdv:PySem.W.nsIn K mainGlobals "MOST_PARAGRAPHS"=some (some (.int 4096 zzgc)))
  (zzhl:PySem.W.nsIn K mainGlobals "MOST_WORDS"=some (some (.int 8192 zzjg)))
  (zzhm:PySem.W.nsIn K mainGlobals "MOST_SIGNS"=some (some (.int 4096 zzjh)))
  (zzf0:PySem.W.nsIn K mainGlobals "MOST_ENTRIES"=some (some (.int 4096 zzia)))
  (zzgm:PySem.W.nsIn K mainGlobals "MOST_TOKENS"=some (some (.int 65536 zziu)))
  (zzbj:PySem.W.nsIn K mainGlobals "MOST_TOKENS_OF_ENTRY"=some (some (.int 1024 zzdd)))
  (zzc2:PySem.W.nsIn K mainGlobals "MOST_SIGN_THINGS"=some (some (.int 4 zze8)))
  (zzbk:PySem.W.nsIn K mainGlobals "MOST_SIGN_CHARACTERS"=some (some (.int 16 zzde)))
  (zzdu:PySem.W.nsIn K mainGlobals "MOST_TEXT_BYTES"=some (some (.int 1048576 zzgb)))
  (zzkn:PySem.W.nsIn K mainGlobals "MARKS"=some (some (.ref aMARKS)))
  (zzki:K.lookup aMARKS=some ⟨.type "tuple",zzlk,.seq #[.int 124 zzlc,.int 47 zzlb,.int 40 zzla,.int 41 zzk9,.int 91 zzk8,.int 93 zzk7,.int 60 zzk6,.int 62 zzk5,.int 123 zzk4,.int 125 zzk3,.int 61 zzk0,.int 43 zzkz,.int 126 zzky,.int 94 zzkx,.int 35 zzkw,.int 34 zzkv] zzli,zzlg⟩)
  (gENDS:PySem.W.nsIn K mainGlobals "ENDS"=some (some (.ref aENDS)))
  (lENDS:K.lookup aENDS=some ⟨.type "tuple",dENDS,.seq #[.int 32 zzlf,.int 10 zzle] nENDS,sENDS⟩)
  (zzei:PySem.W.nsIn K mainGlobals "SETTING_BOUNDS"=some (some (.ref aSETTING_BOUNDS)))
  (zzeg:K.lookup aSETTING_BOUNDS=some ⟨.type "tuple",zzjp,.seq #[.ref zzd1,.ref zzd0,.ref zzdz,.ref zzdy,.ref zzdx,.ref zzdw] zzjm,zzjj⟩)
  (zzdt:K.lookup zzd1=some ⟨.type "tuple",zzjc,.seq #[.int 20 zzh8,.int 240 zzh7] zzi6,zzi0⟩)
  (zzds:K.lookup zzd0=some ⟨.type "tuple",zzjb,.seq #[.int 6 zzh6,.int 240 zzh5] zzi5,zziz⟩)
  (zzdr:K.lookup zzdz=some ⟨.type "tuple",zzja,.seq #[.int 1 zzh4,.int 16 zzh3] zzi4,zziy⟩)
  (zzdq:K.lookup zzdy=some ⟨.type "tuple",zzi9,.seq #[.int 1 zzh2,.int 100 zzh1] zzi3,zzix⟩)
  (zzdp:K.lookup zzdx=some ⟨.type "tuple",zzi8,.seq #[.int 0 zzh0,.int 1 zzhz] zzi2,zziw⟩)
  (zzdo:K.lookup zzdw=some ⟨.type "tuple",zzi7,.seq #[.int 0 zzhy,.int 10000 zzhx] zzi1,zziv⟩)
  (zzko:PySem.W.nsIn K mainGlobals "CARET"=some (some (.ref aCARET)))
  (zzkj:K.lookup aCARET=some ⟨.type "tuple",zzll,.seq #[.int 94 zzld] zzlj,zzlh⟩)
  (zzku:PySem.W.nsIn K mainGlobals "len"=some none)
  (zzkr:PySem.W.nsIn K mainGlobals "ord"=some none)
  (zzks:PySem.W.nsIn K mainGlobals "min"=some none)
  (zzkt:PySem.W.nsIn K mainGlobals "max"=some none)
  (zzj4:PySem.W.nsIn K mainGlobals "range"=some none)
  (zzgo:PySem.W.nsIn K mainGlobals "enumerate"=some none)
  (zzkq:PySem.W.nsIn K mainGlobals "str"=some none)
  (zzkd:PySem.W.nsIn K mainGlobals "list"=some none)
  (zzkp:PySem.W.nsIn K mainGlobals "sum"=some none)
  (zzhq:PySem.W.nsIn K mainGlobals "is_letter"=some (some (.ref f0)))
  (zzg6:K.lookup f0=some ⟨oc0,od0,.func (PySem.W.fnOf "is_letter" "is_letter" (Zn XC) (Zk XC) (Zc XC) .none kV0 dc0 pm0 an0 cd0 ct0),sl0⟩)
  (zzcf:PySem.W.codeIn K cd0 "is_letter"=true)
  (zzfr:PySem.W.keepIn K (.ref f0)=true)
  (zzf6:PySem.W.nsIn K mainGlobals "begins_some"=some (some (.ref f1)))
  (zzfj:K.lookup f1=some ⟨oc1,od1,.func (PySem.W.fnOf "begins_some" "begins_some" (Zn YY) (Zk YY) (Zc YY) .none kV1 dc1 pm1 an1 cd1 ct1),sl1⟩)
  (zzcs:PySem.W.codeIn K cd1 "begins_some"=true)
  (zzd8:PySem.W.keepIn K (.ref f1)=true)
  (zze4:PySem.W.nsIn K mainGlobals "size_by_lead"=some (some (.ref f2)))
  (zze0:K.lookup f2=some ⟨oc2,od2,.func (PySem.W.fnOf "size_by_lead" "size_by_lead" (Zn YG) (Zk YG) (Zc YG) .none kV2 dc2 pm2 an2 cd2 ct2),sl2⟩)
  (zzb3:PySem.W.codeIn K cd2 "size_by_lead"=true)
  (zzc9:PySem.W.keepIn K (.ref f2)=true)
  (zzer:PySem.W.nsIn K mainGlobals "bounds_behind"=some (some (.ref f3)))
  (zzef:K.lookup f3=some ⟨oc3,od3,.func (PySem.W.fnOf "bounds_behind" "bounds_behind" (Zn Yy) (Zk Yy) (Zc Yy) .none kV3 dc3 pm3 an3 cd3 ct3),sl3⟩)
  (zzbn:PySem.W.codeIn K cd3 "bounds_behind"=true)
  (zzco:PySem.W.keepIn K (.ref f3)=true)
  (zzga:PySem.W.findIn K (.ref CR) "__init__"=some (some (.ref f4)))
  (zzfy:PySem.W.isFn K (.ref f4)=true)
  (zzfn:K.lookup f4=some ⟨oc4,od4,.func (PySem.W.fnOf "__init__" "Reader.__init__" (Zn Y2) (Zk Y2) (Zc Y2) .none kV4 dc4 pm4 an4 cd4 ct4),sl4⟩)
  (zzct:PySem.W.codeIn K cd4 "Reader.__init__"=true)
  (zzfu:PySem.W.keepIn K (.ref f4)=true)
  (zzf9:PySem.W.findIn K (.ref CR) "peek"=some (some (.ref f5)))
  (zzfx:PySem.W.isFn K (.ref f5)=true)
  (zzfm:K.lookup f5=some ⟨oc5,od5,.func (PySem.W.fnOf "peek" "Reader.peek" (Zn Y1) (Zk Y1) (Zc Y1) .none kV5 dc5 pm5 an5 cd5 ct5),sl5⟩)
  (zzae:PySem.W.codeIn K cd5 "Reader.peek"=true)
  (zzeb:PySem.W.keepIn K (.ref f5)=true)
  (zzf8:PySem.W.findIn K (.ref CR) "sees"=some (some (.ref f6)))
  (zzfw:PySem.W.isFn K (.ref f6)=true)
  (zzfl:K.lookup f6=some ⟨oc6,od6,.func (PySem.W.fnOf "sees" "Reader.sees" (Zn Y0) (Zk Y0) (Zc Y0) .none kV6 dc6 pm6 an6 cd6 ct6),sl6⟩)
  (zzac:PySem.W.codeIn K cd6 "Reader.sees"=true)
  (zzea:PySem.W.keepIn K (.ref f6)=true)
  (zzf7:PySem.W.findIn K (.ref CR) "take"=some (some (.ref f7)))
  (zzfv:PySem.W.isFn K (.ref f7)=true)
  (zzfk:K.lookup f7=some ⟨oc7,od7,.func (PySem.W.fnOf "take" "Reader.take" (Zn YZ) (Zk YZ) (Zc YZ) .none kV7 dc7 pm7 an7 cd7 ct7),sl7⟩)
  (zzaa:PySem.W.codeIn K cd7 "Reader.take"=true)
  (zzd9:PySem.W.keepIn K (.ref f7)=true)
  (zzc8:PySem.W.findIn K (.ref CR) "take_end"=some (some (.ref f8)))
  (zzc1:PySem.W.isFn K (.ref f8)=true)
  (zzc0:K.lookup f8=some ⟨oc8,od8,.func (PySem.W.fnOf "take_end" "Reader.take_end" (Zn Yd) (Zk Yd) (Zc Yd) .none kV8 dc8 pm8 an8 cd8 ct8),sl8⟩)
  (zza6:PySem.W.codeIn K cd8 "Reader.take_end"=true)
  (zzbs:PySem.W.keepIn K (.ref f8)=true)
  (zzch:PySem.W.findIn K (.ref CR) "take_digit"=some (some (.ref f9)))
  (zzcd:PySem.W.isFn K (.ref f9)=true)
  (zzca:K.lookup f9=some ⟨oc9,od9,.func (PySem.W.fnOf "take_digit" "Reader.take_digit" (Zn ZV) (Zk ZV) (Zc ZV) .none kV9 dc9 pm9 an9 cd9 ct9),sl9⟩)
  (zzal:PySem.W.codeIn K cd9 "Reader.take_digit"=true)
  (zza9:PySem.W.keepIn K (.ref f9)=true)
  (zzb2:PySem.W.findIn K (.ref CR) "take_number"=some (some (.ref f10)))
  (zzby:PySem.W.isFn K (.ref f10)=true)
  (zzbw:K.lookup f10=some ⟨oc10,od10,.func (PySem.W.fnOf "take_number" "Reader.take_number" (Zn ZR) (Zk ZR) (Zc ZR) .none kV10 dc10 pm10 an10 cd10 ct10),sl10⟩)
  (zzab:PySem.W.codeIn K cd10 "Reader.take_number"=true)
  (zza2:PySem.W.keepIn K (.ref f10)=true)
  (zzay:PySem.W.findIn K (.ref CR) "take_long_letter"=some (some (.ref f11)))
  (zzaw:PySem.W.isFn K (.ref f11)=true)
  (zzav:K.lookup f11=some ⟨oc11,od11,.func (PySem.W.fnOf "take_long_letter" "Reader.take_long_letter" (Zn ZD) (Zk ZD) (Zc ZD) .none kV11 dc11 pm11 an11 cd11 ct11),sl11⟩)
  (zzaj:PySem.W.codeIn K cd11 "Reader.take_long_letter"=true)
  (zzam:PySem.W.keepIn K (.ref f11)=true)
  (zzbf:PySem.W.findIn K (.ref CR) "take_character"=some (some (.ref f12)))
  (zzbb:PySem.W.isFn K (.ref f12)=true)
  (zza7:K.lookup f12=some ⟨oc12,od12,.func (PySem.W.fnOf "take_character" "Reader.take_character" (Zn ZI) (Zk ZI) (Zc ZI) .none kV12 dc12 pm12 an12 cd12 ct12),sl12⟩)
  (zzah:PySem.W.codeIn K cd12 "Reader.take_character"=true)
  (zzaq:PySem.W.keepIn K (.ref f12)=true)
  (zzci:PySem.W.findIn K (.ref CR) "ends_thing"=some (some (.ref f13)))
  (zzce:PySem.W.isFn K (.ref f13)=true)
  (zzcb:K.lookup f13=some ⟨oc13,od13,.func (PySem.W.fnOf "ends_thing" "Reader.ends_thing" (Zn ZW) (Zk ZW) (Zc ZW) .none kV13 dc13 pm13 an13 cd13 ct13),sl13⟩)
  (zzar:PySem.W.codeIn K cd13 "Reader.ends_thing"=true)
  (zzba:PySem.W.keepIn K (.ref f13)=true)
  (zzcg:PySem.W.findIn K (.ref CR) "take_thing"=some (some (.ref f14)))
  (zzcc:PySem.W.isFn K (.ref f14)=true)
  (zzb9:K.lookup f14=some ⟨oc14,od14,.func (PySem.W.fnOf "take_thing" "Reader.take_thing" (Zn ZU) (Zk ZU) (Zc ZU) .none kV14 dc14 pm14 an14 cd14 ct14),sl14⟩)
  (zzag:PySem.W.codeIn K cd14 "Reader.take_thing"=true)
  (zza8:PySem.W.keepIn K (.ref f14)=true)
  (zzb1:PySem.W.findIn K (.ref CR) "take_things"=some (some (.ref f15)))
  (zzbx:PySem.W.isFn K (.ref f15)=true)
  (zzbv:K.lookup f15=some ⟨oc15,od15,.func (PySem.W.fnOf "take_things" "Reader.take_things" (Zn ZQ) (Zk ZQ) (Zc ZQ) .none kV15 dc15 pm15 an15 cd15 ct15),sl15⟩)
  (zzai:PySem.W.codeIn K cd15 "Reader.take_things"=true)
  (zza1:PySem.W.keepIn K (.ref f15)=true)
  (zzcw:PySem.W.findIn K (.ref CR) "take_head"=some (some (.ref f16)))
  (zzcp:PySem.W.isFn K (.ref f16)=true)
  (zzcl:K.lookup f16=some ⟨oc16,od16,.func (PySem.W.fnOf "take_head" "Reader.take_head" (Zn Z5) (Zk Z5) (Zc Z5) .none kV16 dc16 pm16 an16 cd16 ct16),sl16⟩)
  (zzau:PySem.W.codeIn K cd16 "Reader.take_head"=true)
  (zzbi:PySem.W.keepIn K (.ref f16)=true)
  (zzj7:PySem.W.nsIn K mainGlobals "joined"=some (some (.ref f17)))
  (zzj1:K.lookup f17=some ⟨oc17,od17,.func (PySem.W.fnOf "joined" "joined" (Zn V5) (Zk V5) (Zc V5) .none kV17 dc17 pm17 an17 cd17 ct17),sl17⟩)
  (zzif:PySem.W.codeIn K cd17 "joined"=true)
  (zzjf:PySem.W.keepIn K (.ref f17)=true)
  (zzht:PySem.W.findIn K (.ref CW) "__init__"=some (some (.ref f18)))
  (zzhh:PySem.W.isFn K (.ref f18)=true)
  (zzg9:K.lookup f18=some ⟨oc18,od18,.func (PySem.W.fnOf "__init__" "Work.__init__" (Zn XF) (Zk XF) (Zc XF) .none kV18 dc18 pm18 an18 cd18 ct18),sl18⟩)
  (zzem:PySem.W.codeIn K cd18 "Work.__init__"=true)
  (zzhd:PySem.W.keepIn K (.ref f18)=true)
  (zzho:PySem.W.nsIn K mainGlobals "read_rows"=some (some (.ref f19)))
  (zzg4:K.lookup f19=some ⟨oc19,od19,.func (PySem.W.fnOf "read_rows" "read_rows" (Zn XA) (Zk XA) (Zc XA) .none kV19 dc19 pm19 an19 cd19 ct19),sl19⟩)
  (zzek:PySem.W.codeIn K cd19 "read_rows"=true)
  (zzfp:PySem.W.keepIn K (.ref f19)=true)
  (zzc6:PySem.W.nsIn K mainGlobals "read_paragraphs"=some (some (.ref f20)))
  (zzcy:K.lookup f20=some ⟨oc20,od20,.func (PySem.W.fnOf "read_paragraphs" "read_paragraphs" (Zn Yb) (Zk Yb) (Zc Yb) .none kV20 dc20 pm20 an20 cd20 ct20),sl20⟩)
  (zza4:PySem.W.codeIn K cd20 "read_paragraphs"=true)
  (zzbq:PySem.W.keepIn K (.ref f20)=true)
  (zzf4:PySem.W.nsIn K mainGlobals "read_tokens"=some (some (.ref f21)))
  (zzfh:K.lookup f21=some ⟨oc21,od21,.func (PySem.W.fnOf "read_tokens" "read_tokens" (Zn YW) (Zk YW) (Zc YW) .none kV21 dc21 pm21 an21 cd21 ct21),sl21⟩)
  (zzcr:PySem.W.codeIn K cd21 "read_tokens"=true)
  (zzd6:PySem.W.keepIn K (.ref f21)=true)
  (zze5:PySem.W.nsIn K mainGlobals "read_entries"=some (some (.ref f22)))
  (zze1:K.lookup f22=some ⟨oc22,od22,.func (PySem.W.fnOf "read_entries" "read_entries" (Zn YH) (Zk YH) (Zc YH) .none kV22 dc22 pm22 an22 cd22 ct22),sl22⟩)
  (zzb4:PySem.W.codeIn K cd22 "read_entries"=true)
  (zzda:PySem.W.keepIn K (.ref f22)=true)
  (zzgs:PySem.W.nsIn K mainGlobals "read_signs"=some (some (.ref f23)))
  (zzgh:K.lookup f23=some ⟨oc23,od23,.func (PySem.W.fnOf "read_signs" "read_signs" (Zn YB) (Zk YB) (Zc YB) .none kV23 dc23 pm23 an23 cd23 ct23),sl23⟩)
  (zzdh:PySem.W.codeIn K cd23 "read_signs"=true)
  (zzev:PySem.W.keepIn K (.ref f23)=true)
  (zzf3:PySem.W.nsIn K mainGlobals "read_work"=some (some (.ref f24)))
  (zzg3:K.lookup f24=some ⟨oc24,od24,.func (PySem.W.fnOf "read_work" "read_work" (Zn Xz) (Zk Xz) (Zc Xz) .none kV24 dc24 pm24 an24 cd24 ct24),sl24⟩)
  (zzej:PySem.W.codeIn K cd24 "read_work"=true)
  (zzfo:PySem.W.keepIn K (.ref f24)=true)
  (zzke:PySem.W.nsIn K mainGlobals "cells"=some (some (.ref f25)))
  (zzkc:K.lookup f25=some ⟨oc25,od25,.func (PySem.W.fnOf "cells" "cells" (Zn JL) (Zk JL) (Zc JL) .none kV25 dc25 pm25 an25 cd25 ct25),sl25⟩)
  (zzjq:PySem.W.codeIn K cd25 "cells"=true)
  (zzj2:PySem.W.keepIn K (.ref f25)=true)
  (zzd4:PySem.W.nsIn K mainGlobals "cells_of_thing"=some (some (.ref f26)))
  (zzdn:K.lookup f26=some ⟨oc26,od26,.func (PySem.W.fnOf "cells_of_thing" "cells_of_thing" (Zn ZS) (Zk ZS) (Zc ZS) .none kV26 dc26 pm26 an26 cd26 ct26),sl26⟩)
  (zzak:PySem.W.codeIn K cd26 "cells_of_thing"=true)
  (zzb8:PySem.W.keepIn K (.ref f26)=true)
  (zzeq:PySem.W.nsIn K mainGlobals "characters_of"=some (some (.ref f27)))
  (zzee:K.lookup f27=some ⟨oc27,od27,.func (PySem.W.fnOf "characters_of" "characters_of" (Zn Z1) (Zk Z1) (Zc Z1) .none kV27 dc27 pm27 an27 cd27 ct27),sl27⟩)
  (zzaf:PySem.W.codeIn K cd27 "characters_of"=true)
  (zzcn:PySem.W.keepIn K (.ref f27)=true)
  (zzhp:PySem.W.nsIn K mainGlobals "line_cost"=some (some (.ref f28)))
  (zzg5:K.lookup f28=some ⟨oc28,od28,.func (PySem.W.fnOf "line_cost" "line_cost" (Zn XB) (Zk XB) (Zc XB) .none kV28 dc28 pm28 an28 cd28 ct28),sl28⟩)
  (zzc4:PySem.W.codeIn K cd28 "line_cost"=true)
  (zzfq:PySem.W.keepIn K (.ref f28)=true)
  (zzhs:PySem.W.nsIn K mainGlobals "best_from"=some (some (.ref f29)))
  (zzg8:K.lookup f29=some ⟨oc29,od29,.func (PySem.W.fnOf "best_from" "best_from" (Zn XE) (Zk XE) (Zc XE) .none kV29 dc29 pm29 an29 cd29 ct29),sl29⟩)
  (zzbd:PySem.W.codeIn K cd29 "best_from"=true)
  (zzft:PySem.W.keepIn K (.ref f29)=true)
  (zzip:PySem.W.nsIn K mainGlobals "tails_of"=some (some (.ref f30)))
  (zzih:K.lookup f30=some ⟨oc30,od30,.func (PySem.W.fnOf "tails_of" "tails_of" (Zn Xg) (Zk Xg) (Zc Xg) .none kV30 dc30 pm30 an30 cd30 ct30),sl30⟩)
  (zzc3:PySem.W.codeIn K cd30 "tails_of"=true)
  (zzgx:PySem.W.keepIn K (.ref f30)=true)
  (zzjs:PySem.W.nsIn K mainGlobals "ends_of"=some (some (.ref f31)))
  (zzjo:K.lookup f31=some ⟨oc31,od31,.func (PySem.W.fnOf "ends_of" "ends_of" (Zn WO) (Zk WO) (Zc WO) .none kV31 dc31 pm31 an31 cd31 ct31),sl31⟩)
  (zzgn:PySem.W.codeIn K cd31 "ends_of"=true)
  (zzid:PySem.W.keepIn K (.ref f31)=true)
  (zzcu:PySem.W.nsIn K mainGlobals "place_among_like"=some (some (.ref f32)))
  (zzcj:K.lookup f32=some ⟨oc32,od32,.func (PySem.W.fnOf "place_among_like" "place_among_like" (Zn ZJ) (Zk ZJ) (Zc ZJ) .none kV32 dc32 pm32 an32 cd32 ct32),sl32⟩)
  (zzas:PySem.W.codeIn K cd32 "place_among_like"=true)
  (zzbg:PySem.W.keepIn K (.ref f32)=true)
  (zzj6:PySem.W.nsIn K mainGlobals "key_of"=some (some (.ref f33)))
  (zzj0:K.lookup f33=some ⟨oc33,od33,.func (PySem.W.fnOf "key_of" "key_of" (Zn V4) (Zk V4) (Zc V4) .none kV33 dc33 pm33 an33 cd33 ct33),sl33⟩)
  (zzie:PySem.W.codeIn K cd33 "key_of"=true)
  (zzje:PySem.W.keepIn K (.ref f33)=true)
  (zze6:PySem.W.nsIn K mainGlobals "number_thing"=some (some (.ref f34)))
  (zze2:K.lookup f34=some ⟨oc34,od34,.func (PySem.W.fnOf "number_thing" "number_thing" (Zn YI) (Zk YI) (Zc YI) .none kV34 dc34 pm34 an34 cd34 ct34),sl34⟩)
  (zzb5:PySem.W.codeIn K cd34 "number_thing"=true)
  (zzdb:PySem.W.keepIn K (.ref f34)=true)
  (zzgv:PySem.W.nsIn K mainGlobals "first_room"=some (some (.ref f35)))
  (zzgk:K.lookup f35=some ⟨oc35,od35,.func (PySem.W.fnOf "first_room" "first_room" (Zn Xj) (Zk Xj) (Zc Xj) .none kV35 dc35 pm35 an35 cd35 ct35),sl35⟩)
  (zzdk:PySem.W.codeIn K cd35 "first_room"=true)
  (zzey:PySem.W.keepIn K (.ref f35)=true)
  (zzhv:PySem.W.findIn K (.ref CN) "__init__"=some (some (.ref f36)))
  (zzhj:PySem.W.isFn K (.ref f36)=true)
  (zzhb:K.lookup f36=some ⟨oc36,od36,.func (PySem.W.fnOf "__init__" "Note.__init__" (Zn YQ) (Zk YQ) (Zc YQ) .none kV36 dc36 pm36 an36 cd36 ct36),sl36⟩)
  (zzen:PySem.W.codeIn K cd36 "Note.__init__"=true)
  (zzhf:PySem.W.keepIn K (.ref f36)=true)
  (zzcv:PySem.W.nsIn K mainGlobals "count_foot_lines"=some (some (.ref f37)))
  (zzck:K.lookup f37=some ⟨oc37,od37,.func (PySem.W.fnOf "count_foot_lines" "count_foot_lines" (Zn Z4) (Zk Z4) (Zc Z4) .none kV37 dc37 pm37 an37 cd37 ct37),sl37⟩)
  (zzat:PySem.W.codeIn K cd37 "count_foot_lines"=true)
  (zzbh:PySem.W.keepIn K (.ref f37)=true)
  (zzhw:PySem.W.findIn K (.ref CL) "__init__"=some (some (.ref f38)))
  (zzhk:PySem.W.isFn K (.ref f38)=true)
  (zzhc:K.lookup f38=some ⟨oc38,od38,.func (PySem.W.fnOf "__init__" "Line.__init__" (Zn XH) (Zk XH) (Zc XH) .none kV38 dc38 pm38 an38 cd38 ct38),sl38⟩)
  (zzeo:PySem.W.codeIn K cd38 "Line.__init__"=true)
  (zzhg:PySem.W.keepIn K (.ref f38)=true)
  (zzgp:PySem.W.nsIn K mainGlobals "word_takes"=some (some (.ref f39)))
  (zzge:K.lookup f39=some ⟨oc39,od39,.func (PySem.W.fnOf "word_takes" "word_takes" (Zn Xe) (Zk Xe) (Zc Xe) .none kV39 dc39 pm39 an39 cd39 ct39),sl39⟩)
  (zzdf:PySem.W.codeIn K cd39 "word_takes"=true)
  (zzes:PySem.W.keepIn K (.ref f39)=true)
  (zzjr:PySem.W.nsIn K mainGlobals "room_of"=some (some (.ref f40)))
  (zzjn:K.lookup f40=some ⟨oc40,od40,.func (PySem.W.fnOf "room_of" "room_of" (Zn WN) (Zk WN) (Zc WN) .none kV40 dc40 pm40 an40 cd40 ct40),sl40⟩)
  (zzfa:PySem.W.codeIn K cd40 "room_of"=true)
  (zzic:PySem.W.keepIn K (.ref f40)=true)
  (zzb0:PySem.W.nsIn K mainGlobals "lines_of_paragraph"=some (some (.ref f41)))
  (zzbu:K.lookup f41=some ⟨oc41,od41,.func (PySem.W.fnOf "lines_of_paragraph" "lines_of_paragraph" (Zn ZE) (Zk ZE) (Zc ZE) .none kV41 dc41 pm41 an41 cd41 ct41),sl41⟩)
  (zzap:PySem.W.codeIn K cd41 "lines_of_paragraph"=true)
  (zza0:PySem.W.keepIn K (.ref f41)=true)
  (zzc5:PySem.W.nsIn K mainGlobals "things_of_notes"=some (some (.ref f42)))
  (zzcx:K.lookup f42=some ⟨oc42,od42,.func (PySem.W.fnOf "things_of_notes" "things_of_notes" (Zn ZM) (Zk ZM) (Zc ZM) .none kV42 dc42 pm42 an42 cd42 ct42),sl42⟩)
  (zza3:PySem.W.codeIn K cd42 "things_of_notes"=true)
  (zzbp:PySem.W.keepIn K (.ref f42)=true)
  (zzir:PySem.W.nsIn K mainGlobals "lines_of"=some (some (.ref f43)))
  (zzij:K.lookup f43=some ⟨oc43,od43,.func (PySem.W.fnOf "lines_of" "lines_of" (Zn X8) (Zk X8) (Zc X8) .none kV43 dc43 pm43 an43 cd43 ct43),sl43⟩)
  (zzfc:PySem.W.codeIn K cd43 "lines_of"=true)
  (zzgz:PySem.W.keepIn K (.ref f43)=true)
  (zzhu:PySem.W.findIn K (.ref CP) "__init__"=some (some (.ref f44)))
  (zzhi:PySem.W.isFn K (.ref f44)=true)
  (zzha:K.lookup f44=some ⟨oc44,od44,.func (PySem.W.fnOf "__init__" "Page.__init__" (Zn XG) (Zk XG) (Zc XG) .none kV44 dc44 pm44 an44 cd44 ct44),sl44⟩)
  (zzbe:PySem.W.codeIn K cd44 "Page.__init__"=true)
  (zzhe:PySem.W.keepIn K (.ref f44)=true)
  (zzd3:PySem.W.nsIn K mainGlobals "number_of_line"=some (some (.ref f45)))
  (zzdm:K.lookup f45=some ⟨oc45,od45,.func (PySem.W.fnOf "number_of_line" "number_of_line" (Zn Yn) (Zk Yn) (Zc Yn) .none kV45 dc45 pm45 an45 cd45 ct45),sl45⟩)
  (zzan:PySem.W.codeIn K cd45 "number_of_line"=true)
  (zzb7:PySem.W.keepIn K (.ref f45)=true)
  (zzd2:PySem.W.nsIn K mainGlobals "own_foot_lines"=some (some (.ref f46)))
  (zzdl:K.lookup f46=some ⟨oc46,od46,.func (PySem.W.fnOf "own_foot_lines" "own_foot_lines" (Zn Ym) (Zk Ym) (Zc Ym) .none kV46 dc46 pm46 an46 cd46 ct46),sl46⟩)
  (zzad:PySem.W.codeIn K cd46 "own_foot_lines"=true)
  (zzb6:PySem.W.keepIn K (.ref f46)=true)
  (zzj5:PySem.W.nsIn K mainGlobals "wanted"=some (some (.ref f47)))
  (zzjz:K.lookup f47=some ⟨oc47,od47,.func (PySem.W.fnOf "wanted" "wanted" (Zn V3) (Zk V3) (Zc V3) .none kV47 dc47 pm47 an47 cd47 ct47),sl47⟩)
  (zzec:PySem.W.codeIn K cd47 "wanted"=true)
  (zzjd:PySem.W.keepIn K (.ref f47)=true)
  (zzf2:PySem.W.nsIn K mainGlobals "whole_pages"=some (some (.ref f48)))
  (zzfg:K.lookup f48=some ⟨oc48,od48,.func (PySem.W.fnOf "whole_pages" "whole_pages" (Zn YV) (Zk YV) (Zc YV) .none kV48 dc48 pm48 an48 cd48 ct48),sl48⟩)
  (zzcq:PySem.W.codeIn K cd48 "whole_pages"=true)
  (zzd5:PySem.W.keepIn K (.ref f48)=true)
  (zze7:PySem.W.nsIn K mainGlobals "may_be_whole"=some (some (.ref f49)))
  (zze3:K.lookup f49=some ⟨oc49,od49,.func (PySem.W.fnOf "may_be_whole" "may_be_whole" (Zn YJ) (Zk YJ) (Zc YJ) .none kV49 dc49 pm49 an49 cd49 ct49),sl49⟩)
  (zzax:PySem.W.codeIn K cd49 "may_be_whole"=true)
  (zzdc:PySem.W.keepIn K (.ref f49)=true)
  (zzgt:PySem.W.nsIn K mainGlobals "loose_cost"=some (some (.ref f50)))
  (zzgi:K.lookup f50=some ⟨oc50,od50,.func (PySem.W.fnOf "loose_cost" "loose_cost" (Zn Xh) (Zk Xh) (Zc Xh) .none kV50 dc50 pm50 an50 cd50 ct50),sl50⟩)
  (zzdi:PySem.W.codeIn K cd50 "loose_cost"=true)
  (zzew:PySem.W.keepIn K (.ref f50)=true)
  (zzgr:PySem.W.nsIn K mainGlobals "whole_cost"=some (some (.ref f51)))
  (zzgg:K.lookup f51=some ⟨oc51,od51,.func (PySem.W.fnOf "whole_cost" "whole_cost" (Zn Xf) (Zk Xf) (Zc Xf) .none kV51 dc51 pm51 an51 cd51 ct51),sl51⟩)
  (zzbl:PySem.W.codeIn K cd51 "whole_cost"=true)
  (zzeu:PySem.W.keepIn K (.ref f51)=true)
  (zzgw:PySem.W.nsIn K mainGlobals "best_whole"=some (some (.ref f52)))
  (zzgl:K.lookup f52=some ⟨oc52,od52,.func (PySem.W.fnOf "best_whole" "best_whole" (Zn Xl) (Zk Xl) (Zc Xl) .none kV52 dc52 pm52 an52 cd52 ct52),sl52⟩)
  (zzbo:PySem.W.codeIn K cd52 "best_whole"=true)
  (zzez:PySem.W.keepIn K (.ref f52)=true)
  (zzgq:PySem.W.nsIn K mainGlobals "whole_page"=some (some (.ref f53)))
  (zzgf:K.lookup f53=some ⟨oc53,od53,.func (PySem.W.fnOf "whole_page" "whole_page" (Zn YA) (Zk YA) (Zc YA) .none kV53 dc53 pm53 an53 cd53 ct53),sl53⟩)
  (zzdg:PySem.W.codeIn K cd53 "whole_page"=true)
  (zzet:PySem.W.keepIn K (.ref f53)=true)
  (zzis:PySem.W.nsIn K mainGlobals "cut_page"=some (some (.ref f54)))
  (zzik:K.lookup f54=some ⟨oc54,od54,.func (PySem.W.fnOf "cut_page" "cut_page" (Zn X9) (Zk X9) (Zc X9) .none kV54 dc54 pm54 an54 cd54 ct54),sl54⟩)
  (zzfd:PySem.W.codeIn K cd54 "cut_page"=true)
  (zzg0:PySem.W.keepIn K (.ref f54)=true)
  (zzgu:PySem.W.nsIn K mainGlobals "foot_alone"=some (some (.ref f55)))
  (zzgj:K.lookup f55=some ⟨oc55,od55,.func (PySem.W.fnOf "foot_alone" "foot_alone" (Zn Xi) (Zk Xi) (Zc Xi) .none kV55 dc55 pm55 an55 cd55 ct55),sl55⟩)
  (zzdj:PySem.W.codeIn K cd55 "foot_alone"=true)
  (zzex:PySem.W.keepIn K (.ref f55)=true)
  (zzf5:PySem.W.nsIn K mainGlobals "forced_page"=some (some (.ref f56)))
  (zzfi:K.lookup f56=some ⟨oc56,od56,.func (PySem.W.fnOf "forced_page" "forced_page" (Zn YX) (Zk YX) (Zc YX) .none kV56 dc56 pm56 an56 cd56 ct56),sl56⟩)
  (zzbc:PySem.W.codeIn K cd56 "forced_page"=true)
  (zzd7:PySem.W.keepIn K (.ref f56)=true)
  (zzhr:PySem.W.nsIn K mainGlobals "cost_from"=some (some (.ref f57)))
  (zzg7:K.lookup f57=some ⟨oc57,od57,.func (PySem.W.fnOf "cost_from" "cost_from" (Zn XD) (Zk XD) (Zc XD) .none kV57 dc57 pm57 an57 cd57 ct57),sl57⟩)
  (zzel:PySem.W.codeIn K cd57 "cost_from"=true)
  (zzfs:PySem.W.keepIn K (.ref f57)=true)
  (zzit:PySem.W.nsIn K mainGlobals "costs_of"=some (some (.ref f58)))
  (zzil:K.lookup f58=some ⟨oc58,od58,.func (PySem.W.fnOf "costs_of" "costs_of" (Zn Xk) (Zk Xk) (Zc Xk) .none kV58 dc58 pm58 an58 cd58 ct58),sl58⟩)
  (zzfe:PySem.W.codeIn K cd58 "costs_of"=true)
  (zzg1:PySem.W.keepIn K (.ref f58)=true)
  (zziq:PySem.W.nsIn K mainGlobals "pages_of"=some (some (.ref f59)))
  (zzii:K.lookup f59=some ⟨oc59,od59,.func (PySem.W.fnOf "pages_of" "pages_of" (Zn X7) (Zk X7) (Zc X7) .none kV59 dc59 pm59 an59 cd59 ct59),sl59⟩)
  (zzfb:PySem.W.codeIn K cd59 "pages_of"=true)
  (zzgy:PySem.W.keepIn K (.ref f59)=true)
  (zzbz:PySem.W.nsIn K mainGlobals "numbers_or_refusal"=some (some (.ref f60)))
  (zzbt:K.lookup f60=some ⟨oc60,od60,.func (PySem.W.fnOf "numbers_or_refusal" "numbers_or_refusal" (Zn ZP) (Zk ZP) (Zc ZP) .none kV60 dc60 pm60 an60 cd60 ct60),sl60⟩)
  (zzao:PySem.W.codeIn K cd60 "numbers_or_refusal"=true)
  (zzaz:PySem.W.keepIn K (.ref f60)=true)
  (zzep:PySem.W.nsIn K mainGlobals "place_of_page"=some (some (.ref f61)))
  (zzed:K.lookup f61=some ⟨oc61,od61,.func (PySem.W.fnOf "place_of_page" "place_of_page" (Zn Yx) (Zk Yx) (Zc Yx) .none kV61 dc61 pm61 an61 cd61 ct61),sl61⟩)
  (zzbm:PySem.W.codeIn K cd61 "place_of_page"=true)
  (zzcm:PySem.W.keepIn K (.ref f61)=true)
  (zzc7:PySem.W.nsIn K mainGlobals "numbers_of_line"=some (some (.ref f62)))
  (zzcz:K.lookup f62=some ⟨oc62,od62,.func (PySem.W.fnOf "numbers_of_line" "numbers_of_line" (Zn Yc) (Zk Yc) (Zc Yc) .none kV62 dc62 pm62 an62 cd62 ct62),sl62⟩)
  (zza5:PySem.W.codeIn K cd62 "numbers_of_line"=true)
  (zzbr:PySem.W.keepIn K (.ref f62)=true)
  (zzg2:PySem.W.nsIn K mainGlobals "answered"=some (some (.ref f63)))
  (zzim:K.lookup f63=some ⟨oc63,od63,.func (PySem.W.fnOf "answered" "answered" (Zn Wa) (Zk Wa) (Zc Wa) .none kV63 dc63 pm63 an63 cd63 ct63),sl63⟩)
  (zzio:PySem.W.codeIn K cd63 "answered"=true)
  (zze9:PySem.W.keepIn K (.ref f63)=true)
  (zzkh:PySem.W.nsIn K mainGlobals "line"=some (some (.ref f64)))
  (zzj8:K.lookup f64=some ⟨oc64,od64,.func (PySem.W.fnOf "line" "line" (Zn Wz) (Zk Wz) (Zc Wz) .none kV64 dc64 pm64 an64 cd64 ct64),sl64⟩)
  (zzkg:PySem.W.codeIn K cd64 "line"=true)
  (zzkk:PySem.W.keepIn K (.ref f64)=true) :
  ∃ fd:FuncData,(∀ (s:Shared) (us:List Value),us.length=(["k","t"]:List Str).length→BindsTo s fd ⟨us,[]⟩ ((["k","t"]:List Str).zip us))∧∀ base:Heap,K.In base→base.Ns mainGlobals mg→base.BuiltinsAt mg PT→FnOk P w K mg base CX0 14 fa fd ["k","t"] (sp_line K PT):=by
 have e:=hfa.symm.trans (PySem.W.mg_of X G zzkh)
 cases e
 have hc0:cd64=.ref c0:=by
  unfold PySem.W.tabIn at htab
  rw [zzkh] at htab
  dsimp only at htab
  rw [zzj8] at htab
  dsimp only at htab
  split at htab
  ·rename_i c1 hc1
   split at htab
   ·split at htab
    ·injection htab with htab
     injection htab with h1 h2
     first | (rw [← h1];exact hc1) | rw [← h1]
    ·cases htab
   ·cases htab
  ·cases htab
 subst hc0
 have nl':∀ b o,K.lookup b=some o→o.cls≠.type "list":=fun b o hb z=>by
  have q:=List.all_eq_true.mp nl _ (ZhT hb)
  rw [z] at q
  exact absurd q (by decide)
 have T:Txt K mg ⟨CE,CR,CW,CL,CN,CP,aMARKS,aENDS,aSETTING_BOUNDS,aCARET,f24,PT⟩:={
  exc:=⟨PySem.W.mg_of X G aCE,qCE⟩
  clReader:=⟨pgR,hdR,poR,saR⟩
  clWork:=⟨pgW,hdW,poW,saW⟩
  clLine:=⟨pgL,hdL,poL,saL⟩
  clNote:=⟨pgN,hdN,poN,saN⟩
  clPage:=⟨pgP,hdP,poP,saP⟩
  n_t:=nR_t
  n_at:=nR_at
  n_width:=zzjv
  n_height:=zzjl
  n_indent:=zzjk
  n_every:=zzjy
  n_anew:=zzkb
  n_loose:=zzjx
  n_rows:=zzj9
  n_head:=zzka
  n_paragraphs:=zzff
  n_words:=zzju
  n_signs:=zzjw
  n_entries:=zzig
  nL_first:=nL_first
  nL_end:=nL_end
  nL_opens:=nL_opens
  nL_closes:=nL_closes
  nL_taken:=nL_taken
  nL_note:=nL_note
  nN_things:=nN_things
  nN_takes:=nN_takes
  nN_tails:=nN_tails
  nP_kind:=nP_kind
  nP_first:=nP_first
  nP_end:=nP_end
  nP_came:=nP_came
  nP_own:=nP_own
  nP_rest:=nP_rest
  nP_cost:=nP_cost
  nl:=nl'
  len:=PySem.W.ns_none_of X G zzku
  ord:=PySem.W.ns_none_of X G zzkr
  min:=PySem.W.ns_none_of X G zzks
  max:=PySem.W.ns_none_of X G zzkt
  range:=PySem.W.ns_none_of X G zzj4
  enumerate:=PySem.W.ns_none_of X G zzgo
  str:=PySem.W.ns_none_of X G zzkq
  list:=PySem.W.ns_none_of X G zzkd
  sum:=PySem.W.ns_none_of X G zzkp
  cBLANK:=⟨zzk2,PySem.W.mg_of X G zzkm⟩
  cFIRST_LETTER:=⟨zzib,PySem.W.mg_of X G zzf1⟩
  cLAST_CHARACTER:=⟨zzgd,PySem.W.mg_of X G zzeh⟩
  cMOST_LETTERS:=⟨zzh9,PySem.W.mg_of X G zzfz⟩
  cWHOLE:=⟨zzk1,PySem.W.mg_of X G zzkl⟩
  cCUT:=⟨tCUT,PySem.W.mg_of X G iCUT⟩
  cFOOT_ALONE:=⟨zzji,PySem.W.mg_of X G zzhn⟩
  cNO_BYTE:=⟨zzkf,PySem.W.mg_of X G zzj3⟩
  cMOST_ROWS:=⟨zzjt,PySem.W.mg_of X G zzin⟩
  cMOST_PARAGRAPHS:=⟨zzgc,PySem.W.mg_of X G zzdv⟩
  cMOST_WORDS:=⟨zzjg,PySem.W.mg_of X G zzhl⟩
  cMOST_SIGNS:=⟨zzjh,PySem.W.mg_of X G zzhm⟩
  cMOST_ENTRIES:=⟨zzia,PySem.W.mg_of X G zzf0⟩
  cMOST_TOKENS:=⟨zziu,PySem.W.mg_of X G zzgm⟩
  cMOST_TOKENS_OF_ENTRY:=⟨zzdd,PySem.W.mg_of X G zzbj⟩
  cMOST_SIGN_THINGS:=⟨zze8,PySem.W.mg_of X G zzc2⟩
  cMOST_SIGN_CHARACTERS:=⟨zzde,PySem.W.mg_of X G zzbk⟩
  cMOST_TEXT_BYTES:=⟨zzgb,PySem.W.mg_of X G zzdu⟩
  f_read_work:=PySem.W.mg_of X G zzf3
  cMARKS:=PySem.W.mg_of X G zzkn
  tMARKS:=Ue zzki (by simp) (by first | exact .nil | (repeat (first | exact .nil | refine .cons ⟨_,rfl⟩ ?_ | refine .cons rfl ?_)))
  cENDS:=PySem.W.mg_of X G gENDS
  tENDS:=Ue lENDS (by simp) (by first | exact .nil | (repeat (first | exact .nil | refine .cons ⟨_,rfl⟩ ?_ | refine .cons rfl ?_)))
  cSETTING_BOUNDS:=PySem.W.mg_of X G zzei
  tSETTING_BOUNDS:=⟨_,Ue (xs:=[V.ref zzd1,V.ref zzd0,V.ref zzdz,V.ref zzdy,V.ref zzdx,V.ref zzdw]) zzeg (by simp) (by first | exact .nil | (repeat (first | exact .nil | refine .cons ⟨_,rfl⟩ ?_ | refine .cons rfl ?_))),(.cons ⟨_,rfl,Ue zzdt (by simp) (by first | exact .nil | (repeat (first | exact .nil | refine .cons ⟨_,rfl⟩ ?_ | refine .cons rfl ?_))),by decide⟩ (.cons ⟨_,rfl,Ue zzds (by simp) (by first | exact .nil | (repeat (first | exact .nil | refine .cons ⟨_,rfl⟩ ?_ | refine .cons rfl ?_))),by decide⟩ (.cons ⟨_,rfl,Ue zzdr (by simp) (by first | exact .nil | (repeat (first | exact .nil | refine .cons ⟨_,rfl⟩ ?_ | refine .cons rfl ?_))),by decide⟩ (.cons ⟨_,rfl,Ue zzdq (by simp) (by first | exact .nil | (repeat (first | exact .nil | refine .cons ⟨_,rfl⟩ ?_ | refine .cons rfl ?_))),by decide⟩ (.cons ⟨_,rfl,Ue zzdp (by simp) (by first | exact .nil | (repeat (first | exact .nil | refine .cons ⟨_,rfl⟩ ?_ | refine .cons rfl ?_))),by decide⟩ (.cons ⟨_,rfl,Ue zzdo (by simp) (by first | exact .nil | (repeat (first | exact .nil | refine .cons ⟨_,rfl⟩ ?_ | refine .cons rfl ?_))),by decide⟩ .nil))))))⟩
  cCARET:=PySem.W.mg_of X G zzko
  tCARET:=Ue zzkj (by simp) (by first | exact .nil | (repeat (first | exact .nil | refine .cons ⟨_,rfl⟩ ?_ | refine .cons rfl ?_))) }
 have F0:=Zw (st:=XC) zzg6 zzcf zzfr
 have b0:ZB K _ ["character"] []:=fb1 F0 fun _ _ _ _ _ _ _=>rfl
 have F1:=Zw (st:=YY) zzfj zzcs zzd8
 have b1:ZB K _ ["value","low","high"] []:=fb3 F1 fun _ _ _ _ _ _ _ _ _=>rfl
 have F2:=Zw (st:=YG) zze0 zzb3 zzc9
 have b2:ZB K _ ["lead"] []:=fb1 F2 fun _ _ _ _ _ _ _=>rfl
 have F3:=Zw (st:=Yy) zzef zzbn zzco
 have b3:ZB K _ ["lead"] []:=fb1 F3 fun _ _ _ _ _ _ _=>rfl
 have F4:=Zw (st:=Y2) zzfn zzct zzfu
 have b4:ZB K _ ["self","t"] []:=fb2 F4 fun _ _ _ _ _ _ _ _=>rfl
 have F5:=Zw (st:=Y1) zzfm zzae zzeb
 have b5:ZB K _ ["self"] []:=fb1 F5 fun _ _ _ _ _ _ _=>rfl
 have F6:=Zw (st:=Y0) zzfl zzac zzea
 have b6:ZB K _ ["self","sign"] []:=fb2 F6 fun _ _ _ _ _ _ _ _=>rfl
 have F7:=Zw (st:=YZ) zzfk zzaa zzd9
 have b7:ZB K _ ["self","sign"] []:=fb2 F7 fun _ _ _ _ _ _ _ _=>rfl
 have F8:=Zw (st:=Yd) zzc0 zza6 zzbs
 have b8:ZB K _ ["self"] []:=fb1 F8 fun _ _ _ _ _ _ _=>rfl
 have F9:=Zw (st:=ZV) zzca zzal zza9
 have b9:ZB K _ ["self","value","low","high"] []:=fb4 F9 fun _ _ _ _ _ _ _ _ _ _=>rfl
 have F10:=Zw (st:=ZR) zzbw zzab zza2
 have b10:ZB K _ ["self","low","high"] []:=fb3 F10 fun _ _ _ _ _ _ _ _ _=>rfl
 have F11:=Zw (st:=ZD) zzav zzaj zzam
 have b11:ZB K _ ["self","lead","size"] []:=fb3 F11 fun _ _ _ _ _ _ _ _ _=>rfl
 have F12:=Zw (st:=ZI) zza7 zzah zzaq
 have b12:ZB K _ ["self","marks"] []:=fb2 F12 fun _ _ _ _ _ _ _ _=>rfl
 have F13:=Zw (st:=ZW) zzcb zzar zzba
 have b13:ZB K _ ["self","marks"] []:=fb2 F13 fun _ _ _ _ _ _ _ _=>rfl
 have F14:=Zw (st:=ZU) zzb9 zzag zza8
 have b14:ZB K _ ["self","most","marks"] []:=fb3 F14 fun _ _ _ _ _ _ _ _ _=>rfl
 have F15:=Zw (st:=ZQ) zzbv zzai zza1
 have b15:ZB K _ ["self","most_things","most","marks"] []:=fb4 F15 fun _ _ _ _ _ _ _ _ _ _=>rfl
 have F16:=Zw (st:=Z5) zzcl zzau zzbi
 have b16:ZB K _ ["self","all_bounds"] []:=fb2 F16 fun _ _ _ _ _ _ _ _=>rfl
 have F17:=Zw (st:=V5) zzj1 zzif zzjf
 have b17:ZB K _ ["things","between"] []:=fb2 F17 fun _ _ _ _ _ _ _ _=>rfl
 have F18:=Zw (st:=XF) zzg9 zzem zzhd
 have b18:ZB K _ ["self","settings"] []:=fb2 F18 fun _ _ _ _ _ _ _ _=>rfl
 have F19:=Zw (st:=XA) zzg4 zzek zzfp
 have b19:ZB K _ ["reader","work"] []:=fb2 F19 fun _ _ _ _ _ _ _ _=>rfl
 have F20:=Zw (st:=Yb) zzcy zza4 zzbq
 have b20:ZB K _ ["reader","work"] []:=fb2 F20 fun _ _ _ _ _ _ _ _=>rfl
 have F21:=Zw (st:=YW) zzfh zzcr zzd6
 have b21:ZB K _ ["reader","most"] []:=fb2 F21 fun _ _ _ _ _ _ _ _=>rfl
 have F22:=Zw (st:=YH) zze1 zzb4 zzda
 have b22:ZB K _ ["reader","work"] []:=fb2 F22 fun _ _ _ _ _ _ _ _=>rfl
 have F23:=Zw (st:=YB) zzgh zzdh zzev
 have b23:ZB K _ ["reader","work"] []:=fb2 F23 fun _ _ _ _ _ _ _ _=>rfl
 have F24:=Zw (st:=Xz) zzg3 zzej zzfo
 have b24:ZB K _ ["reader"] []:=fb1 F24 fun _ _ _ _ _ _ _=>rfl
 have F25:=Zw (st:=JL) zzkc zzjq zzj2
 have b25:ZB K _ ["rows","character"] []:=fb2 F25 fun _ _ _ _ _ _ _ _=>rfl
 have F26:=Zw (st:=ZS) zzdn zzak zzb8
 have b26:ZB K _ ["rows","thing"] []:=fb2 F26 fun _ _ _ _ _ _ _ _=>rfl
 have F27:=Zw (st:=Z1) zzee zzaf zzcn
 have b27:ZB K _ ["text"] []:=fb1 F27 fun _ _ _ _ _ _ _=>rfl
 have F28:=Zw (st:=XB) zzg5 zzc4 zzfq
 have b28:ZB K _ ["taken","room","is_last"] []:=fb3 F28 fun _ _ _ _ _ _ _ _ _=>rfl
 have F29:=Zw (st:=XE) zzg8 zzbd zzft
 have b29:ZB K _ ["takes","tails","start","room"] []:=fb4 F29 fun _ _ _ _ _ _ _ _ _ _=>rfl
 have F30:=Zw (st:=Xg) zzih zzc3 zzgx
 have b30:ZB K _ ["takes","room"] []:=fb2 F30 fun _ _ _ _ _ _ _ _=>rfl
 have F31:=Zw (st:=WO) zzjo zzgn zzid
 have b31:ZB K _ ["takes","tails","first_room"] []:=fb3 F31 fun _ _ _ _ _ _ _ _ _=>rfl
 have F32:=Zw (st:=ZJ) zzcj zzas zzbg
 have b32:ZB K _ ["words","line_first","line_end","f"] []:=fb4 F32 fun _ _ _ _ _ _ _ _ _ _=>rfl
 have F33:=Zw (st:=V4) zzj0 zzie zzje
 have b33:ZB K _ ["words","line_first","line_end","f","m"] []:=fb5 F33 fun _ _ _ _ _ _ _ _ _ _ _=>rfl
 have F34:=Zw (st:=YI) zze2 zzb5 zzdb
 have b34:ZB K _ ["number"] []:=fb1 F34 fun _ _ _ _ _ _ _=>rfl
 have F35:=Zw (st:=Xj) zzgk zzdk zzey
 have b35:ZB K _ ["work","number"] []:=fb2 F35 fun _ _ _ _ _ _ _ _=>rfl
 have F36:=Zw (st:=YQ) zzhb zzen zzhf
 have b36:ZB K _ ["self","work","things"] []:=fb3 F36 fun _ _ _ _ _ _ _ _ _=>rfl
 have F37:=Zw (st:=Z4) zzck zzat zzbh
 have b37:ZB K _ ["work","note","number"] []:=fb3 F37 fun _ _ _ _ _ _ _ _ _=>rfl
 have F38:=Zw (st:=XH) zzhc zzeo zzhg
 have b38:ZB K _ ["self","first","end","opens","closes","taken"] []:=fb6 F38 fun _ _ _ _ _ _ _ _ _ _ _ _=>rfl
 have F39:=Zw (st:=Xe) zzge zzdf zzes
 have b39:ZB K _ ["work","k"] []:=fb2 F39 fun _ _ _ _ _ _ _ _=>rfl
 have F40:=Zw (st:=WN) zzjn zzfa zzic
 have b40:ZB K _ ["work","opens"] []:=fb2 F40 fun _ _ _ _ _ _ _ _=>rfl
 have F41:=Zw (st:=ZE) zzbu zzap zza0
 have b41:ZB K _ ["work","first","end"] []:=fb3 F41 fun _ _ _ _ _ _ _ _ _=>rfl
 have F42:=Zw (st:=ZM) zzcx zza3 zzbp
 have b42:ZB K _ ["work","lines"] []:=fb2 F42 fun _ _ _ _ _ _ _ _=>rfl
 have F43:=Zw (st:=X8) zzij zzfc zzgz
 have b43:ZB K _ ["work"] []:=fb1 F43 fun _ _ _ _ _ _ _=>rfl
 have F44:=Zw (st:=XG) zzha zzbe zzhe
 have b44:ZB K _ ["self","kind","first","end"] []:=fb4 F44 fun _ _ _ _ _ _ _ _ _ _=>rfl
 have F45:=Zw (st:=Yn) zzdm zzan zzb7
 have b45:ZB K _ ["work","k","page_first"] []:=fb3 F45 fun _ _ _ _ _ _ _ _ _=>rfl
 have F46:=Zw (st:=Ym) zzdl zzad zzb6
 have b46:ZB K _ ["work","lines","k","page_first"] []:=fb4 F46 fun _ _ _ _ _ _ _ _ _ _=>rfl
 have F47:=Zw (st:=V3) zzjz zzec zzjd
 have b47:ZB K _ ["count","foot_count"] []:=fb2 F47 fun _ _ _ _ _ _ _ _=>rfl
 have F48:=Zw (st:=YV) zzfg zzcq zzd5
 have b48:ZB K _ ["work","lines","first","carried"] []:=fb4 F48 fun _ _ _ _ _ _ _ _ _ _=>rfl
 have F49:=Zw (st:=YJ) zze3 zzax zzdc
 have b49:ZB K _ ["work","lines","first","carried"] []:=fb4 F49 fun _ _ _ _ _ _ _ _ _ _=>rfl
 have F50:=Zw (st:=Xh) zzgi zzdi zzew
 have b50:ZB K _ ["work","lines","first","end"] []:=fb4 F50 fun _ _ _ _ _ _ _ _ _ _=>rfl
 have F51:=Zw (st:=Xf) zzgg zzbl zzeu
 have b51:ZB K _ ["work","lines","first","end","wants"] []:=fb5 F51 fun _ _ _ _ _ _ _ _ _ _ _=>rfl
 have F52:=Zw (st:=Xl) zzgl zzbo zzez
 have b52:ZB K _ ["work","lines","costs","first","carried"] []:=fb5 F52 fun _ _ _ _ _ _ _ _ _ _ _=>rfl
 have F53:=Zw (st:=YA) zzgf zzdg zzet
 have b53:ZB K _ ["work","lines","first","end","carried"] []:=fb5 F53 fun _ _ _ _ _ _ _ _ _ _ _=>rfl
 have F54:=Zw (st:=X9) zzik zzfd zzg0
 have b54:ZB K _ ["work","lines","first","carried"] []:=fb4 F54 fun _ _ _ _ _ _ _ _ _ _=>rfl
 have F55:=Zw (st:=Xi) zzgj zzdj zzex
 have b55:ZB K _ ["work","first","carried"] []:=fb3 F55 fun _ _ _ _ _ _ _ _ _=>rfl
 have F56:=Zw (st:=YX) zzfi zzbc zzd7
 have b56:ZB K _ ["work","lines","first","carried"] []:=fb4 F56 fun _ _ _ _ _ _ _ _ _ _=>rfl
 have F57:=Zw (st:=XD) zzg7 zzel zzfs
 have b57:ZB K _ ["work","lines","costs","first"] []:=fb4 F57 fun _ _ _ _ _ _ _ _ _ _=>rfl
 have F58:=Zw (st:=Xk) zzil zzfe zzg1
 have b58:ZB K _ ["work","lines"] []:=fb2 F58 fun _ _ _ _ _ _ _ _=>rfl
 have F59:=Zw (st:=X7) zzii zzfb zzgy
 have b59:ZB K _ ["work","lines"] []:=fb2 F59 fun _ _ _ _ _ _ _ _=>rfl
 have F60:=Zw (st:=ZP) zzbt zzao zzaz
 have b60:ZB K _ ["numbers"] []:=fb1 F60 fun _ _ _ _ _ _ _=>rfl
 have F61:=Zw (st:=Yx) zzed zzbm zzcm
 have b61:ZB K _ ["pages","k"] []:=fb2 F61 fun _ _ _ _ _ _ _ _=>rfl
 have F62:=Zw (st:=Yc) zzcz zza5 zzbr
 have b62:ZB K _ ["work","k"] []:=fb2 F62 fun _ _ _ _ _ _ _ _=>rfl
 have F63:=Zw (st:=Wa) zzim zzio zze9
 have b63:ZB K _ ["t","read","answer"] []:=fb3 F63 fun _ _ _ _ _ _ _ _ _=>rfl
 have F64:=Zw (st:=Wz) zzj8 zzkg zzkk
 have b64:ZB K _ ["k","t"] []:=fb2 F64 fun _ _ _ _ _ _ _ _=>rfl
 refine ⟨PySem.W.fnOf "line" "line" (Zn Wz) (Zk Wz) (Zc Wz) .none kV64 dc64 pm64 an64 (.ref c0) ct64,fun s us hu=>match us,hu with | [_,_],_=>.of_eq rfl,fun base _ _ hB=>?_⟩
 have C_is_letter:∀ base:Heap,FnC P w K mg base CX0 1 "is_letter" ["character"] (Wu K ⟨CE,CR,CW,CL,CN,CP,aMARKS,aENDS,aSETTING_BOUNDS,aCARET,f24,PT⟩):=fun base=>⟨⟨f0,_,PySem.W.mg_of X G zzhq,zzfr,b0,(Zdb F0 T)⟩⟩
 have C_begins_some:∀ base:Heap,FnC P w K mg base CX0 1 "begins_some" ["value","low","high"] (WG K ⟨CE,CR,CW,CL,CN,CP,aMARKS,aENDS,aSETTING_BOUNDS,aCARET,f24,PT⟩):=fun base=>⟨⟨f1,_,PySem.W.mg_of X G zzf6,zzd8,b1,(Zbn F1 T)⟩⟩
 have C_size_by_lead:∀ base:Heap,FnC P w K mg base CX0 1 "size_by_lead" ["lead"] (Wc K ⟨CE,CR,CW,CL,CN,CP,aMARKS,aENDS,aSETTING_BOUNDS,aCARET,f24,PT⟩):=fun base=>⟨⟨f2,_,PySem.W.mg_of X G zze4,zzc9,b2,(ZaW F2 T)⟩⟩
 have C_bounds_behind:∀ base:Heap,FnC P w K mg base CX0 1 "bounds_behind" ["lead"] (XX K ⟨CE,CR,CW,CL,CN,CP,aMARKS,aENDS,aSETTING_BOUNDS,aCARET,f24,PT⟩):=fun base=>⟨⟨f3,_,PySem.W.mg_of X G zzer,zzco,b3,(Zan F3 T)⟩⟩
 have C_Reader_init:∀ base:Heap,J0 P w K mg base CX0 1 CR "Reader" ["self","t"] (WH K ⟨CE,CR,CW,CL,CN,CP,aMARKS,aENDS,aSETTING_BOUNDS,aCARET,f24,PT⟩):=fun base=>⟨⟨f4,_,PySem.W.mg_of X G aCR,⟨mkR,zzga,zzfy,kcR⟩,b4,(Zbr F4 T)⟩⟩
 have C_Reader_peek:∀ base:Heap,Z9 P w K mg base CX0 1 CR "peek" ["self"] (Z0 K ⟨CE,CR,CW,CL,CN,CP,aMARKS,aENDS,aSETTING_BOUNDS,aCARET,f24,PT⟩):=fun base=>⟨⟨f5,_,⟨zzf9,zzfx,zzeb⟩,b5,(Zbq F5 T)⟩⟩
 have C_Reader_sees:∀ base:Heap,Z9 P w K mg base CX0 2 CR "sees" ["self","sign"] (ZZ K ⟨CE,CR,CW,CL,CN,CP,aMARKS,aENDS,aSETTING_BOUNDS,aCARET,f24,PT⟩):=fun base=>⟨⟨f6,_,⟨zzf8,zzfw,zzea⟩,b6,(Zbp F6 T (C_Reader_peek base))⟩⟩
 have C_Reader_take:∀ base:Heap,Z9 P w K mg base (CX1 P w CE) 3 CR "take" ["self","sign"] (ZY K ⟨CE,CR,CW,CL,CN,CP,aMARKS,aENDS,aSETTING_BOUNDS,aCARET,f24,PT⟩):=fun base=>⟨⟨f7,_,⟨zzf7,zzfv,zzd9⟩,b7,(Zbo F7 T (C_Reader_sees base))⟩⟩
 have C_Reader_take_end:∀ base:Heap,Z9 P w K mg base (CX1 P w CE) 2 CR "take_end" ["self"] (Xq K ⟨CE,CR,CW,CL,CN,CP,aMARKS,aENDS,aSETTING_BOUNDS,aCARET,f24,PT⟩):=fun base=>⟨⟨f8,_,⟨zzc8,zzc1,zzbs⟩,b8,(Jj F8 T (C_Reader_peek base))⟩⟩
 have C_Reader_take_digit:∀ base:Heap,Z9 P w K mg base (CX1 P w CE) 2 CR "take_digit" ["self","value","low","high"] (Y5 K ⟨CE,CR,CW,CL,CN,CP,aMARKS,aENDS,aSETTING_BOUNDS,aCARET,f24,PT⟩):=fun base=>⟨⟨f9,_,⟨zzch,zzcd,zza9⟩,b9,(Ub F9 T (C_Reader_peek base) (C_begins_some base))⟩⟩
 have C_Reader_take_number:∀ base:Heap,Z9 P w K mg base (CX1 P w CE) 3 CR "take_number" ["self","low","high"] (ZH K ⟨CE,CR,CW,CL,CN,CP,aMARKS,aENDS,aSETTING_BOUNDS,aCARET,f24,PT⟩):=fun base=>⟨⟨f10,_,⟨zzb2,zzby,zza2⟩,b10,(VN F10 T (C_Reader_take_digit base) (C_Reader_peek base))⟩⟩
 have C_Reader_take_long_letter:∀ base:Heap,Z9 P w K mg base (CX1 P w CE) 2 CR "take_long_letter" ["self","lead","size"] (Yk K ⟨CE,CR,CW,CL,CN,CP,aMARKS,aENDS,aSETTING_BOUNDS,aCARET,f24,PT⟩):=fun base=>⟨⟨f11,_,⟨zzay,zzaw,zzam⟩,b11,(Wt F11 T (C_bounds_behind base) (C_Reader_peek base) (C_is_letter base))⟩⟩
 have C_Reader_take_character:∀ base:Heap,Z9 P w K mg base (CX1 P w CE) 3 CR "take_character" ["self","marks"] (Yw K ⟨CE,CR,CW,CL,CN,CP,aMARKS,aENDS,aSETTING_BOUNDS,aCARET,f24,PT⟩):=fun base=>⟨⟨f12,_,⟨zzbf,zzbb,zzaq⟩,b12,(WQ F12 T (C_Reader_peek base) (C_size_by_lead base) (C_Reader_take_long_letter base) (C_is_letter base))⟩⟩
 have C_Reader_ends_thing:∀ base:Heap,Z9 P w K mg base CX0 2 CR "ends_thing" ["self","marks"] (Y6 K ⟨CE,CR,CW,CL,CN,CP,aMARKS,aENDS,aSETTING_BOUNDS,aCARET,f24,PT⟩):=fun base=>⟨⟨f13,_,⟨zzci,zzce,zzba⟩,b13,(Uc F13 T (C_Reader_peek base))⟩⟩
 have C_Reader_take_thing:∀ base:Heap,Z9 P w K mg base (CX1 P w CE) 4 CR "take_thing" ["self","most","marks"] (Yt K ⟨CE,CR,CW,CL,CN,CP,aMARKS,aENDS,aSETTING_BOUNDS,aCARET,f24,PT⟩):=fun base=>⟨⟨f14,_,⟨zzcg,zzcc,zza8⟩,b14,(Ua F14 T (C_Reader_take_character base) (C_Reader_ends_thing base))⟩⟩
 have C_Reader_take_things:∀ base:Heap,Z9 P w K mg base (CX1 P w CE) 5 CR "take_things" ["self","most_things","most","marks"] (Yp K ⟨CE,CR,CW,CL,CN,CP,aMARKS,aENDS,aSETTING_BOUNDS,aCARET,f24,PT⟩):=fun base=>⟨⟨f15,_,⟨zzb1,zzbx,zza1⟩,b15,(VM F15 T (C_Reader_take_thing base) (C_Reader_sees base) (C_Reader_take base))⟩⟩
 have C_Reader_take_head:∀ base:Heap,Z9 P w K mg base (CX1 P w CE) 4 CR "take_head" ["self","all_bounds"] (Xa K ⟨CE,CR,CW,CL,CN,CP,aMARKS,aENDS,aSETTING_BOUNDS,aCARET,f24,PT⟩):=fun base=>⟨⟨f16,_,⟨zzcw,zzcp,zzbi⟩,b16,(UF F16 T (C_Reader_take base) (C_Reader_take_number base))⟩⟩
 have C_joined:∀ base:Heap,FnC P w K mg base CX0 1 "joined" ["things","between"] (ZaI K ⟨CE,CR,CW,CL,CN,CP,aMARKS,aENDS,aSETTING_BOUNDS,aCARET,f24,PT⟩):=fun base=>⟨⟨f17,_,PySem.W.mg_of X G zzj7,zzjf,b17,(Zf9 F17 T)⟩⟩
 have C_Work_init:∀ base:Heap,J0 P w K mg base CX0 1 CW "Work" ["self","settings"] (Vw K ⟨CE,CR,CW,CL,CN,CP,aMARKS,aENDS,aSETTING_BOUNDS,aCARET,f24,PT⟩):=fun base=>⟨⟨f18,_,PySem.W.mg_of X G aCW,⟨mkW,zzht,zzhh,kcW⟩,b18,(Zde F18 T)⟩⟩
 have C_read_rows:∀ base:Heap,FnC P w K mg base (CX1 P w CE) 4 "read_rows" ["reader","work"] (Vt K ⟨CE,CR,CW,CL,CN,CP,aMARKS,aENDS,aSETTING_BOUNDS,aCARET,f24,PT⟩):=fun base=>⟨⟨f19,_,PySem.W.mg_of X G zzho,zzfp,b19,(Zc9 F19 T (C_Reader_sees base) (C_Reader_take base) (C_Reader_take_number base))⟩⟩
 have C_read_paragraphs:∀ base:Heap,FnC P w K mg base (CX1 P w CE) 6 "read_paragraphs" ["reader","work"] (Xp K ⟨CE,CR,CW,CL,CN,CP,aMARKS,aENDS,aSETTING_BOUNDS,aCARET,f24,PT⟩):=fun base=>⟨⟨f20,_,PySem.W.mg_of X G zzc6,zzbq,b20,(Jh F20 T (C_Reader_sees base) (C_Reader_take base) (C_Reader_take_things base))⟩⟩
 have C_read_tokens:∀ base:Heap,FnC P w K mg base (CX1 P w CE) 5 "read_tokens" ["reader","most"] (WF K ⟨CE,CR,CW,CL,CN,CP,aMARKS,aENDS,aSETTING_BOUNDS,aCARET,f24,PT⟩):=fun base=>⟨⟨f21,_,PySem.W.mg_of X G zzf4,zzd6,b21,(Zbl F21 T (C_Reader_sees base) (C_Reader_take base) (C_Reader_take_thing base))⟩⟩
 have C_read_entries:∀ base:Heap,FnC P w K mg base (CX1 P w CE) 6 "read_entries" ["reader","work"] (Wd K ⟨CE,CR,CW,CL,CN,CP,aMARKS,aENDS,aSETTING_BOUNDS,aCARET,f24,PT⟩):=fun base=>⟨⟨f22,_,PySem.W.mg_of X G zze5,zzda,b22,(ZaX F22 T (C_Reader_sees base) (C_Reader_take base) (C_Reader_take_number base) (C_read_tokens base))⟩⟩
 have C_read_signs:∀ base:Heap,FnC P w K mg base (CX1 P w CE) 6 "read_signs" ["reader","work"] (W0 K ⟨CE,CR,CW,CL,CN,CP,aMARKS,aENDS,aSETTING_BOUNDS,aCARET,f24,PT⟩):=fun base=>⟨⟨f23,_,PySem.W.mg_of X G zzgs,zzev,b23,(Zcr F23 T (C_Reader_sees base) (C_Reader_take base) (C_Reader_take_number base) (C_Reader_take_things base) (C_joined base))⟩⟩
 have C_read_work:∀ base:Heap,FnC P w K mg base (CX1 P w CE) 7 "read_work" ["reader"] (Vs K ⟨CE,CR,CW,CL,CN,CP,aMARKS,aENDS,aSETTING_BOUNDS,aCARET,f24,PT⟩):=fun base=>⟨⟨f24,_,PySem.W.mg_of X G zzf3,zzfo,b24,(Zc8 F24 T (C_Work_init base) (C_read_rows base) (C_read_paragraphs base) (C_read_signs base) (C_read_entries base) (C_Reader_take_end base) (C_Reader_take_head base))⟩⟩
 have C_cells:∀ base:Heap,FnC P w K mg base CX0 1 "cells" ["rows","character"] (Zb9 K ⟨CE,CR,CW,CL,CN,CP,aMARKS,aENDS,aSETTING_BOUNDS,aCARET,f24,PT⟩):=fun base=>⟨⟨f25,_,PySem.W.mg_of X G zzke,zzj2,b25,(Zha F25 T)⟩⟩
 have C_cells_of_thing:∀ base:Heap,FnC P w K mg base CX0 2 "cells_of_thing" ["rows","thing"] (Yv K ⟨CE,CR,CW,CL,CN,CP,aMARKS,aENDS,aSETTING_BOUNDS,aCARET,f24,PT⟩):=fun base=>⟨⟨f26,_,PySem.W.mg_of X G zzd4,zzb8,b26,(JQ F26 T (C_cells base))⟩⟩
 have C_characters_of:∀ base:Heap,FnC P w K mg base CX0 1 "characters_of" ["text"] (YD K ⟨CE,CR,CW,CL,CN,CP,aMARKS,aENDS,aSETTING_BOUNDS,aCARET,f24,PT⟩):=fun base=>⟨⟨f27,_,PySem.W.mg_of X G zzeq,zzcn,b27,(Zam F27 T)⟩⟩
 have C_line_cost:∀ base:Heap,FnC P w K mg base CX0 1 "line_cost" ["taken","room","is_last"] (Vu K ⟨CE,CR,CW,CL,CN,CP,aMARKS,aENDS,aSETTING_BOUNDS,aCARET,f24,PT⟩):=fun base=>⟨⟨f28,_,PySem.W.mg_of X G zzhp,zzfq,b28,(Zda F28 T)⟩⟩
 have C_best_from:∀ base:Heap,FnC P w K mg base CX0 2 "best_from" ["takes","tails","start","room"] (XM K ⟨CE,CR,CW,CL,CN,CP,aMARKS,aENDS,aSETTING_BOUNDS,aCARET,f24,PT⟩):=fun base=>⟨⟨f29,_,PySem.W.mg_of X G zzhs,zzft,b29,(Zdd F29 T (C_line_cost base))⟩⟩
 have C_tails_of:∀ base:Heap,FnC P w K mg base CX0 3 "tails_of" ["takes","room"] (WZ K ⟨CE,CR,CW,CL,CN,CP,aMARKS,aENDS,aSETTING_BOUNDS,aCARET,f24,PT⟩):=fun base=>⟨⟨f30,_,PySem.W.mg_of X G zzip,zzgx,b30,(Zd3 F30 T (C_best_from base))⟩⟩
 have C_ends_of:∀ base:Heap,FnC P w K mg base CX0 3 "ends_of" ["takes","tails","first_room"] (JK K ⟨CE,CR,CW,CL,CN,CP,aMARKS,aENDS,aSETTING_BOUNDS,aCARET,f24,PT⟩):=fun base=>⟨⟨f31,_,PySem.W.mg_of X G zzjs,zzid,b31,(Zfk F31 T (C_best_from base))⟩⟩
 have C_place_among_like:∀ base:Heap,FnC P w K mg base CX0 1 "place_among_like" ["words","line_first","line_end","f"] (Y8 K ⟨CE,CR,CW,CL,CN,CP,aMARKS,aENDS,aSETTING_BOUNDS,aCARET,f24,PT⟩):=fun base=>⟨⟨f32,_,PySem.W.mg_of X G zzcu,zzbg,b32,(UD F32 T)⟩⟩
 have C_key_of:∀ base:Heap,FnC P w K mg base CX0 2 "key_of" ["words","line_first","line_end","f","m"] (ZaH K ⟨CE,CR,CW,CL,CN,CP,aMARKS,aENDS,aSETTING_BOUNDS,aCARET,f24,PT⟩):=fun base=>⟨⟨f33,_,PySem.W.mg_of X G zzj6,zzje,b33,(Zf8 F33 T (C_characters_of base) (C_place_among_like base))⟩⟩
 have C_number_thing:∀ base:Heap,FnC P w K mg base CX0 2 "number_thing" ["number"] (We K ⟨CE,CR,CW,CL,CN,CP,aMARKS,aENDS,aSETTING_BOUNDS,aCARET,f24,PT⟩):=fun base=>⟨⟨f34,_,PySem.W.mg_of X G zze6,zzdb,b34,(ZaY F34 T (C_characters_of base))⟩⟩
 have C_first_room:∀ base:Heap,FnC P w K mg base CX0 3 "first_room" ["work","number"] (W3 K ⟨CE,CR,CW,CL,CN,CP,aMARKS,aENDS,aSETTING_BOUNDS,aCARET,f24,PT⟩):=fun base=>⟨⟨f35,_,PySem.W.mg_of X G zzgv,zzey,b35,(Zcu F35 T (C_cells_of_thing base) (C_number_thing base))⟩⟩
 have C_Note_init:∀ base:Heap,J0 P w K mg base CX0 4 CN "Note" ["self","work","things"] (Vx K ⟨CE,CR,CW,CL,CN,CP,aMARKS,aENDS,aSETTING_BOUNDS,aCARET,f24,PT⟩):=fun base=>⟨⟨f36,_,PySem.W.mg_of X G aCN,⟨mkN,zzhv,zzhj,kcN⟩,b36,(Zdg F36 T (C_tails_of base) (C_cells_of_thing base))⟩⟩
 have C_count_foot_lines:∀ base:Heap,FnC P w K mg base CX0 4 "count_foot_lines" ["work","note","number"] (Y9 K ⟨CE,CR,CW,CL,CN,CP,aMARKS,aENDS,aSETTING_BOUNDS,aCARET,f24,PT⟩):=fun base=>⟨⟨f37,_,PySem.W.mg_of X G zzcv,zzbh,b37,(UE F37 T (C_best_from base) (C_first_room base))⟩⟩
 have C_Line_init:∀ base:Heap,J0 P w K mg base CX0 1 CL "Line" ["self","first","end","opens","closes","taken"] (Vy K ⟨CE,CR,CW,CL,CN,CP,aMARKS,aENDS,aSETTING_BOUNDS,aCARET,f24,PT⟩):=fun base=>⟨⟨f38,_,PySem.W.mg_of X G aCL,⟨mkL,zzhw,zzhk,kcL⟩,b38,(Zdh F38 T)⟩⟩
 have C_word_takes:∀ base:Heap,FnC P w K mg base CX0 3 "word_takes" ["work","k"] (WX K ⟨CE,CR,CW,CL,CN,CP,aMARKS,aENDS,aSETTING_BOUNDS,aCARET,f24,PT⟩):=fun base=>⟨⟨f39,_,PySem.W.mg_of X G zzgp,zzes,b39,(Zco F39 T (C_cells_of_thing base))⟩⟩
 have C_room_of:∀ base:Heap,FnC P w K mg base CX0 1 "room_of" ["work","opens"] (JJ K ⟨CE,CR,CW,CL,CN,CP,aMARKS,aENDS,aSETTING_BOUNDS,aCARET,f24,PT⟩):=fun base=>⟨⟨f40,_,PySem.W.mg_of X G zzjr,zzic,b40,(Zfj F40 T)⟩⟩
 have C_lines_of_paragraph:∀ base:Heap,FnC P w K mg base CX0 4 "lines_of_paragraph" ["work","first","end"] (YO K ⟨CE,CR,CW,CL,CN,CP,aMARKS,aENDS,aSETTING_BOUNDS,aCARET,f24,PT⟩):=fun base=>⟨⟨f41,_,PySem.W.mg_of X G zzb0,zza0,b41,(VL F41 T (C_tails_of base) (C_ends_of base) (C_word_takes base) (C_room_of base) (C_Line_init base))⟩⟩
 have C_things_of_notes:∀ base:Heap,FnC P w K mg base CX0 3 "things_of_notes" ["work","lines"] (Xo K ⟨CE,CR,CW,CL,CN,CP,aMARKS,aENDS,aSETTING_BOUNDS,aCARET,f24,PT⟩):=fun base=>⟨⟨f42,_,PySem.W.mg_of X G zzc5,zzbp,b42,(Jg F42 T (C_key_of base))⟩⟩
 have C_lines_of:∀ base:Heap,FnC P w K mg base CX0 6 "lines_of" ["work"] (Ux K ⟨CE,CR,CW,CL,CN,CP,aMARKS,aENDS,aSETTING_BOUNDS,aCARET,f24,PT⟩):=fun base=>⟨⟨f43,_,PySem.W.mg_of X G zzir,zzgz,b43,(Zd5 F43 T (C_things_of_notes base) (C_lines_of_paragraph base) (C_Note_init base))⟩⟩
 have C_Page_init:∀ base:Heap,J0 P w K mg base CX0 1 CP "Page" ["self","kind","first","end"] (XN K ⟨CE,CR,CW,CL,CN,CP,aMARKS,aENDS,aSETTING_BOUNDS,aCARET,f24,PT⟩):=fun base=>⟨⟨f44,_,PySem.W.mg_of X G aCP,⟨mkP,zzhu,zzhi,kcP⟩,b44,(Zdf F44 T)⟩⟩
 have C_number_of_line:∀ base:Heap,FnC P w K mg base CX0 1 "number_of_line" ["work","k","page_first"] (YU K ⟨CE,CR,CW,CL,CN,CP,aMARKS,aENDS,aSETTING_BOUNDS,aCARET,f24,PT⟩):=fun base=>⟨⟨f45,_,PySem.W.mg_of X G zzd3,zzb7,b45,(JP F45 T)⟩⟩
 have C_own_foot_lines:∀ base:Heap,FnC P w K mg base CX0 5 "own_foot_lines" ["work","lines","k","page_first"] (ZT K ⟨CE,CR,CW,CL,CN,CP,aMARKS,aENDS,aSETTING_BOUNDS,aCARET,f24,PT⟩):=fun base=>⟨⟨f46,_,PySem.W.mg_of X G zzd2,zzb6,b46,(JO F46 T (C_count_foot_lines base) (C_number_of_line base))⟩⟩
 have C_wanted:∀ base:Heap,FnC P w K mg base CX0 1 "wanted" ["count","foot_count"] (Vr K ⟨CE,CR,CW,CL,CN,CP,aMARKS,aENDS,aSETTING_BOUNDS,aCARET,f24,PT⟩):=fun base=>⟨⟨f47,_,PySem.W.mg_of X G zzj5,zzjd,b47,(Zf7 F47 T)⟩⟩
 have C_whole_pages:∀ base:Heap,FnC P w K mg base CX0 6 "whole_pages" ["work","lines","first","carried"] (WD K ⟨CE,CR,CW,CL,CN,CP,aMARKS,aENDS,aSETTING_BOUNDS,aCARET,f24,PT⟩):=fun base=>⟨⟨f48,_,PySem.W.mg_of X G zzf2,zzd5,b48,(Zbk F48 T (C_own_foot_lines base) (C_wanted base))⟩⟩
 have C_may_be_whole:∀ base:Heap,FnC P w K mg base CX0 6 "may_be_whole" ["work","lines","first","carried"] (YN K ⟨CE,CR,CW,CL,CN,CP,aMARKS,aENDS,aSETTING_BOUNDS,aCARET,f24,PT⟩):=fun base=>⟨⟨f49,_,PySem.W.mg_of X G zze7,zzdc,b49,(ZaZ F49 T (C_wanted base) (C_own_foot_lines base))⟩⟩
 have C_loose_cost:∀ base:Heap,FnC P w K mg base CX0 1 "loose_cost" ["work","lines","first","end"] (W1 K ⟨CE,CR,CW,CL,CN,CP,aMARKS,aENDS,aSETTING_BOUNDS,aCARET,f24,PT⟩):=fun base=>⟨⟨f50,_,PySem.W.mg_of X G zzgt,zzew,b50,(Zcs F50 T)⟩⟩
 have C_whole_cost:∀ base:Heap,FnC P w K mg base CX0 2 "whole_cost" ["work","lines","first","end","wants"] (X3 K ⟨CE,CR,CW,CL,CN,CP,aMARKS,aENDS,aSETTING_BOUNDS,aCARET,f24,PT⟩):=fun base=>⟨⟨f51,_,PySem.W.mg_of X G zzgr,zzeu,b51,(Zcq F51 T (C_loose_cost base))⟩⟩
 have C_best_whole:∀ base:Heap,FnC P w K mg base CX0 7 "best_whole" ["work","lines","costs","first","carried"] (X4 K ⟨CE,CR,CW,CL,CN,CP,aMARKS,aENDS,aSETTING_BOUNDS,aCARET,f24,PT⟩):=fun base=>⟨⟨f52,_,PySem.W.mg_of X G zzgw,zzez,b52,(Zcv F52 T (C_whole_pages base) (C_whole_cost base))⟩⟩
 have C_whole_page:∀ base:Heap,FnC P w K mg base CX0 6 "whole_page" ["work","lines","first","end","carried"] (WY K ⟨CE,CR,CW,CL,CN,CP,aMARKS,aENDS,aSETTING_BOUNDS,aCARET,f24,PT⟩):=fun base=>⟨⟨f53,_,PySem.W.mg_of X G zzgq,zzet,b53,(Zcp F53 T (C_Page_init base) (C_whole_cost base) (C_wanted base) (C_own_foot_lines base))⟩⟩
 have C_cut_page:∀ base:Heap,FnC P w K mg base CX0 6 "cut_page" ["work","lines","first","carried"] (Uy K ⟨CE,CR,CW,CL,CN,CP,aMARKS,aENDS,aSETTING_BOUNDS,aCARET,f24,PT⟩):=fun base=>⟨⟨f54,_,PySem.W.mg_of X G zzis,zzg0,b54,(Zd6 F54 T (C_Page_init base) (C_own_foot_lines base))⟩⟩
 have C_foot_alone:∀ base:Heap,FnC P w K mg base CX0 3 "foot_alone" ["work","first","carried"] (W2 K ⟨CE,CR,CW,CL,CN,CP,aMARKS,aENDS,aSETTING_BOUNDS,aCARET,f24,PT⟩):=fun base=>⟨⟨f55,_,PySem.W.mg_of X G zzgu,zzex,b55,(Zct F55 T (C_Page_init base))⟩⟩
 have C_forced_page:∀ base:Heap,FnC P w K mg base CX0 7 "forced_page" ["work","lines","first","carried"] (XL K ⟨CE,CR,CW,CL,CN,CP,aMARKS,aENDS,aSETTING_BOUNDS,aCARET,f24,PT⟩):=fun base=>⟨⟨f56,_,PySem.W.mg_of X G zzf5,zzd7,b56,(Zbm F56 T (C_foot_alone base) (C_cut_page base))⟩⟩
 have C_cost_from:∀ base:Heap,FnC P w K mg base CX0 8 "cost_from" ["work","lines","costs","first"] (Vv K ⟨CE,CR,CW,CL,CN,CP,aMARKS,aENDS,aSETTING_BOUNDS,aCARET,f24,PT⟩):=fun base=>⟨⟨f57,_,PySem.W.mg_of X G zzhr,zzfs,b57,(Zdc F57 T (C_forced_page base) (C_best_whole base) (C_may_be_whole base))⟩⟩
 have C_costs_of:∀ base:Heap,FnC P w K mg base CX0 9 "costs_of" ["work","lines"] (Uz K ⟨CE,CR,CW,CL,CN,CP,aMARKS,aENDS,aSETTING_BOUNDS,aCARET,f24,PT⟩):=fun base=>⟨⟨f58,_,PySem.W.mg_of X G zzit,zzg1,b58,(Zd7 F58 T (C_cost_from base))⟩⟩
 have C_pages_of:∀ base:Heap,FnC P w K mg base CX0 10 "pages_of" ["work","lines"] (Uw K ⟨CE,CR,CW,CL,CN,CP,aMARKS,aENDS,aSETTING_BOUNDS,aCARET,f24,PT⟩):=fun base=>⟨⟨f59,_,PySem.W.mg_of X G zziq,zzgy,b59,(Zd4 F59 T (C_costs_of base) (C_may_be_whole base) (C_whole_page base) (C_forced_page base) (C_best_whole base))⟩⟩
 have C_numbers_or_refusal:∀ base:Heap,FnC P w K mg base CX0 1 "numbers_or_refusal" ["numbers"] (Yo K ⟨CE,CR,CW,CL,CN,CP,aMARKS,aENDS,aSETTING_BOUNDS,aCARET,f24,PT⟩):=fun base=>⟨⟨f60,_,PySem.W.mg_of X G zzbz,zzaz,b60,(VJ F60 T)⟩⟩
 have C_place_of_page:∀ base:Heap,FnC P w K mg base CX0 1 "place_of_page" ["pages","k"] (XW K ⟨CE,CR,CW,CL,CN,CP,aMARKS,aENDS,aSETTING_BOUNDS,aCARET,f24,PT⟩):=fun base=>⟨⟨f61,_,PySem.W.mg_of X G zzep,zzcm,b61,(Zal F61 T)⟩⟩
 have C_numbers_of_line:∀ base:Heap,FnC P w K mg base CX0 11 "numbers_of_line" ["work","k"] (YM K ⟨CE,CR,CW,CL,CN,CP,aMARKS,aENDS,aSETTING_BOUNDS,aCARET,f24,PT⟩):=fun base=>⟨⟨f62,_,PySem.W.mg_of X G zzc7,zzbr,b62,(Ji F62 T (C_lines_of base) (C_pages_of base) (C_place_of_page base) (C_number_of_line base) (C_own_foot_lines base))⟩⟩
 have C_answered:∀ (base:Heap) (fL:Addr) (fdL:FuncData) (kv:V),PySem.W.FnAt fL base→(∀ (s:Shared) (us:List Value),us.length=["work"].length→BindsTo s fdL ⟨us,[]⟩ ((["work"]:List Str).zip us))→FnOk P w K mg base CX0 12 fL fdL ["work"] (spL K ⟨CE,CR,CW,CL,CN,CP,aMARKS,aENDS,aSETTING_BOUNDS,aCARET,f24,PT⟩ lineV kv)→FnC P w K mg base CX0 13 "answered" ["t","read","answer"] (spA K ⟨CE,CR,CW,CL,CN,CP,aMARKS,aENDS,aSETTING_BOUNDS,aCARET,f24,PT⟩ lineV fL kv):=fun base fL fdL kv h1 h2 h3=>⟨⟨f63,_,PySem.W.mg_of X G zzg2,zze9,b63,Zd8 F63 T h1 h3 h2 (C_read_work base) (C_Reader_init base)⟩⟩
 have fin:=Zin (P:=P) (w:=w) (base:=base) (a:=⟨CE,CR,CW,CL,CN,CP,aMARKS,aENDS,aSETTING_BOUNDS,aCARET,f24,PT⟩) zzj8 zzkg T hC hB hgP (PySem.W.mg_of X G zzg2) zze9 C_answered C_numbers_of_line C_numbers_or_refusal
 exact fin
end Vp
theorem Vp.ans_line (k:Int) (l:List Int) (h:(PageNeutral.text l).length≤8190):(PyWqasbc.line k l).map L2.V.int=Vp.ansK Vp.lineV k.toNat (PageNeutral.text l):=by
 have e:PyWqasbc.line k l=PageNeutral.shown (VhG.answer (.line (PageNeutral.text l) k.toNat)):=rfl
 rw [e]
 unfold VhG.answer VhG.ofWork Vp.ansK
 dsimp only
 rw [if_neg (show ¬ VhPage.MOST<(PageNeutral.text l).length by unfold VhPage.MOST;lia)]
 cases VhPage.readWork (PageNeutral.text l) with
 | error i=>rfl
 | ok w =>
  show (PageNeutral.shown (if k.toNat<(VhPage.laid w).lines.size then .nums (VhG.lineNums (VhPage.laid w) k.toNat) else VhG.no 4)).map L2.V.int=Vp.lineV k.toNat w
  unfold Vp.lineV
  split
  ·show (List.map _ _).map _=_
   rw [List.map_map];rfl
  ·rfl
theorem Vp.u8_map (l:List Int) (h:∀ x∈l,0≤x∧x≤255):l.map L2.V.int=Vp.bsV (PageNeutral.text l):=by
 unfold Vp.bsV PageNeutral.text
 rw [List.map_map]
 refine List.map_congr_left fun x hx=>?_
 have b:=h x hx
 show L2.V.int x=L2.V.int ((UInt8.ofNat x.toNat).toNat:Int)
 rw [UInt8.toNat_ofNat',Nat.mod_eq_of_lt (by lia),Int.toNat_of_nonneg b.1]
namespace PySem.W.Fast
end PySem.W.Fast
namespace PySem.W.Fast
theorem tw10015442059781330894:True:=⟨⟩
theorem tw10027179072591868954:True:=⟨⟩
theorem tw10108911359874657649:True:=⟨⟩
theorem tw10170389372074165004:True:=⟨⟩
theorem tw10194982551775265260:True:=⟨⟩
theorem tw10215037942260949217:True:=⟨⟩
theorem tw10228359177692868149:True:=⟨⟩
theorem tw10241812835167152383:True:=⟨⟩
theorem tw10358764033273143514:True:=⟨⟩
theorem tw10420910697603563883:True:=⟨⟩
theorem tw10556374516665402255:True:=⟨⟩
theorem tw10562621991053994288:True:=⟨⟩
theorem tw10642464264705476373:True:=⟨⟩
theorem tw10674270095206742422:True:=⟨⟩
theorem tw10679022011045069551:True:=⟨⟩
theorem tw10680379625410812138:True:=⟨⟩
theorem tw10776981123845117010:True:=⟨⟩
theorem tw10832305968827133761:True:=⟨⟩
theorem tw10851561762067485405:True:=⟨⟩
theorem tw10862431546047901324:True:=⟨⟩
theorem tw10866859758859155639:True:=⟨⟩
theorem tw10907902417278620927:True:=⟨⟩
theorem tw10923768620707844283:True:=⟨⟩
theorem tw10947106852958269372:True:=⟨⟩
theorem tw1096718337383497150:True:=⟨⟩
theorem tw10971692434206547045:True:=⟨⟩
theorem tw10996676981176483155:True:=⟨⟩
theorem tw11027539734545601377:True:=⟨⟩
theorem tw1108142335299361764:True:=⟨⟩
theorem tw11085993442425041919:True:=⟨⟩
theorem tw11106467383348742049:True:=⟨⟩
theorem tw11107405255574479807:True:=⟨⟩
theorem tw11123203193659794580:True:=⟨⟩
theorem tw11188587725713727378:True:=⟨⟩
theorem tw11247667330636090007:True:=⟨⟩
theorem tw11347386584252628039:True:=⟨⟩
theorem tw11380725814768750361:True:=⟨⟩
theorem tw1139930063916332799:True:=⟨⟩
theorem tw11410612163444944425:True:=⟨⟩
theorem tw11423758583077987119:True:=⟨⟩
theorem tw11445402256822158578:True:=⟨⟩
theorem tw11464772383149822462:True:=⟨⟩
theorem tw11470642837964473496:True:=⟨⟩
theorem tw11495181337532492369:True:=⟨⟩
theorem tw11502345558548107368:True:=⟨⟩
theorem tw11504275201640668555:True:=⟨⟩
theorem tw11591680576443892073:True:=⟨⟩
theorem tw11645717584557266687:True:=⟨⟩
theorem tw11663021034638720858:True:=⟨⟩
theorem tw11801109129586009752:True:=⟨⟩
theorem tw11827688304528199394:True:=⟨⟩
theorem tw11841852928250197116:True:=⟨⟩
theorem tw11856106056465409587:True:=⟨⟩
theorem tw11860003585593390101:True:=⟨⟩
theorem tw11864294941674286515:True:=⟨⟩
theorem tw11867997741953487171:True:=⟨⟩
theorem tw11910107446111944591:True:=⟨⟩
theorem tw11960642617498833916:True:=⟨⟩
theorem tw11992585525780772532:True:=⟨⟩
theorem tw11994590757919299630:True:=⟨⟩
theorem tw1203284951250680814:True:=⟨⟩
theorem tw12057749024314875755:True:=⟨⟩
theorem tw12141370740078496830:True:=⟨⟩
theorem tw12151805383698222723:True:=⟨⟩
theorem tw1216321668960162655:True:=⟨⟩
theorem tw12177487845518127881:True:=⟨⟩
theorem tw12180571584632714106:True:=⟨⟩
theorem tw12198407450874275331:True:=⟨⟩
theorem tw12199171726818546802:True:=⟨⟩
theorem tw12207216009593839795:True:=⟨⟩
theorem tw12219947379893234826:True:=⟨⟩
theorem tw12264363811837591263:True:=⟨⟩
theorem tw12316673981052818899:True:=⟨⟩
theorem tw12350739536197385654:True:=⟨⟩
theorem tw12364781368940651449:True:=⟨⟩
theorem tw12365990783197355128:True:=⟨⟩
theorem tw12371221645675920254:True:=⟨⟩
theorem tw12397819650644550924:True:=⟨⟩
theorem tw12463028656362949078:True:=⟨⟩
theorem tw12513714538447673166:True:=⟨⟩
theorem tw12524080045358324573:True:=⟨⟩
theorem tw12532357258540655853:True:=⟨⟩
theorem tw12588667578599489106:True:=⟨⟩
theorem tw12636752318711245474:True:=⟨⟩
theorem tw12643202733499544878:True:=⟨⟩
theorem tw12697852570109902538:True:=⟨⟩
theorem tw12698179605964536496:True:=⟨⟩
theorem tw12702895146521754078:True:=⟨⟩
theorem tw12731051299944539738:True:=⟨⟩
theorem tw12735305341099600363:True:=⟨⟩
theorem tw12758358732510921010:True:=⟨⟩
theorem tw12764824924453419782:True:=⟨⟩
theorem tw12786792181008871621:True:=⟨⟩
theorem tw12828701139954648849:True:=⟨⟩
theorem tw12856005807921818047:True:=⟨⟩
theorem tw12895112970463303076:True:=⟨⟩
theorem tw12897602575722240803:True:=⟨⟩
theorem tw12913773485065449496:True:=⟨⟩
theorem tw12916983500212568434:True:=⟨⟩
theorem tw12924841090870960648:True:=⟨⟩
theorem tw12935178614817044933:True:=⟨⟩
theorem tw12941340101789135928:True:=⟨⟩
theorem tw12982873679661873347:True:=⟨⟩
theorem tw12985288706638100767:True:=⟨⟩
theorem tw1299950986971172815:True:=⟨⟩
theorem tw13146037038247578370:True:=⟨⟩
theorem tw13174010248132734430:True:=⟨⟩
theorem tw13194289621555142147:True:=⟨⟩
theorem tw13207442498185633290:True:=⟨⟩
theorem tw13225455536620890073:True:=⟨⟩
theorem tw13250672074647313846:True:=⟨⟩
theorem tw13253704433484259735:True:=⟨⟩
theorem tw13283788626110168157:True:=⟨⟩
theorem tw13355980095056933107:True:=⟨⟩
theorem tw13399035399312052674:True:=⟨⟩
theorem tw13407309288219101588:True:=⟨⟩
theorem tw134196640713227321:True:=⟨⟩
theorem tw13452288229009836387:True:=⟨⟩
theorem tw13473406345529596714:True:=⟨⟩
theorem tw1349692379084429185:True:=⟨⟩
theorem tw13545665506653690787:True:=⟨⟩
theorem tw13573478006316189484:True:=⟨⟩
theorem tw13574506026232203905:True:=⟨⟩
theorem tw13626933511158231530:True:=⟨⟩
theorem tw13675437556738540641:True:=⟨⟩
theorem tw13699261253660176740:True:=⟨⟩
theorem tw13700343901679258345:True:=⟨⟩
theorem tw13729733707907487692:True:=⟨⟩
theorem tw13846805517436996305:True:=⟨⟩
theorem tw13865782616722090048:True:=⟨⟩
theorem tw13889404561088483114:True:=⟨⟩
theorem tw13939292323532517720:True:=⟨⟩
theorem tw14059457749880711462:True:=⟨⟩
theorem tw14084342109390926045:True:=⟨⟩
theorem tw14086943637236703396:True:=⟨⟩
theorem tw14119762583126463127:True:=⟨⟩
theorem tw14124034044899431621:True:=⟨⟩
theorem tw14128336869243718131:True:=⟨⟩
theorem tw14136534231152385146:True:=⟨⟩
theorem tw14156044494549247677:True:=⟨⟩
theorem tw14248295602682727242:True:=⟨⟩
theorem tw14300584106514130445:True:=⟨⟩
theorem tw14305583710123003353:True:=⟨⟩
theorem tw14337577143104573471:True:=⟨⟩
theorem tw14350049157457048825:True:=⟨⟩
theorem tw14352846836652737242:True:=⟨⟩
theorem tw14354302477066286702:True:=⟨⟩
theorem tw1436500512349859700:True:=⟨⟩
theorem tw14373258739238617350:True:=⟨⟩
theorem tw1437754180330901264:True:=⟨⟩
theorem tw14432622274026075880:True:=⟨⟩
theorem tw14437135006202927435:True:=⟨⟩
theorem tw14443698163893560800:True:=⟨⟩
theorem tw14478443315813382239:True:=⟨⟩
theorem tw14489522761794563615:True:=⟨⟩
theorem tw14495821988985576541:True:=⟨⟩
theorem tw1449776369700840935:True:=⟨⟩
theorem tw14568114659975843722:True:=⟨⟩
theorem tw14649723269833124473:True:=⟨⟩
theorem tw14665322614130542573:True:=⟨⟩
theorem tw14685652015799867128:True:=⟨⟩
theorem tw1479108600204627218:True:=⟨⟩
theorem tw14797639813765749949:True:=⟨⟩
theorem tw14820669012431627851:True:=⟨⟩
theorem tw14841710455196963341:True:=⟨⟩
theorem tw14853214475983992086:True:=⟨⟩
theorem tw14886893068847936199:True:=⟨⟩
theorem tw14893475716753965027:True:=⟨⟩
theorem tw14924912541277650882:True:=⟨⟩
theorem tw14957374681885177288:True:=⟨⟩
theorem tw14975512196546897593:True:=⟨⟩
theorem tw15001392087917113584:True:=⟨⟩
theorem tw15010641541582742061:True:=⟨⟩
theorem tw15038181739452165554:True:=⟨⟩
theorem tw15041519098598708123:True:=⟨⟩
theorem tw15060488855337212095:True:=⟨⟩
theorem tw15074832933706068946:True:=⟨⟩
theorem tw15087247973077885944:True:=⟨⟩
theorem tw15113792677326191455:True:=⟨⟩
theorem tw15155852506147639747:True:=⟨⟩
theorem tw151880774910937336:True:=⟨⟩
theorem tw15228615140672427568:True:=⟨⟩
theorem tw15244455674828066154:True:=⟨⟩
theorem tw15250336416984188096:True:=⟨⟩
theorem tw15294440515192195699:True:=⟨⟩
theorem tw15339498072726880037:True:=⟨⟩
theorem tw15489763221670912767:True:=⟨⟩
theorem tw1555194228840568687:True:=⟨⟩
theorem tw15577043954099885191:True:=⟨⟩
theorem tw1562459958674384362:True:=⟨⟩
theorem tw1563246618630839756:True:=⟨⟩
theorem tw15648091490474092642:True:=⟨⟩
theorem tw15659473979532589241:True:=⟨⟩
theorem tw15688168792663999892:True:=⟨⟩
theorem tw15736588698542465975:True:=⟨⟩
theorem tw1578074099357421119:True:=⟨⟩
theorem tw15788845122655512718:True:=⟨⟩
theorem tw15847297515342826290:True:=⟨⟩
theorem tw15879078528936396682:True:=⟨⟩
theorem tw15901343764017843757:True:=⟨⟩
theorem tw15945929292678125132:True:=⟨⟩
theorem tw15981798644650825797:True:=⟨⟩
theorem tw16036661645376478544:True:=⟨⟩
theorem tw16080285833510991805:True:=⟨⟩
theorem tw16092483771579531620:True:=⟨⟩
theorem tw16150701447357270301:True:=⟨⟩
theorem tw1615326413062112489:True:=⟨⟩
theorem tw16155914392207078359:True:=⟨⟩
theorem tw16167348987391394164:True:=⟨⟩
theorem tw16203925751107612177:True:=⟨⟩
theorem tw16247105110113892773:True:=⟨⟩
theorem tw16256664897363726139:True:=⟨⟩
theorem tw16324599924320260774:True:=⟨⟩
theorem tw16347286451378928557:True:=⟨⟩
theorem tw16372858390982607945:True:=⟨⟩
theorem tw16382578435116392151:True:=⟨⟩
theorem tw16383930999435504104:True:=⟨⟩
theorem tw16402884944338700737:True:=⟨⟩
theorem tw16405419598842994532:True:=⟨⟩
theorem tw16437249568435288980:True:=⟨⟩
theorem tw16438875298019996902:True:=⟨⟩
theorem tw16460152682943047553:True:=⟨⟩
theorem tw16512696053526434844:True:=⟨⟩
theorem tw16578292637539422129:True:=⟨⟩
theorem tw16580247239323210097:True:=⟨⟩
theorem tw16618373343176597597:True:=⟨⟩
theorem tw16628998084375070844:True:=⟨⟩
theorem tw16656425720075035975:True:=⟨⟩
theorem tw16754980692540337698:True:=⟨⟩
theorem tw16788862696567538843:True:=⟨⟩
theorem tw16832107717395201005:True:=⟨⟩
theorem tw16866390778382418793:True:=⟨⟩
theorem tw16883017860362161446:True:=⟨⟩
theorem tw16901113347655209858:True:=⟨⟩
theorem tw1691355782442725367:True:=⟨⟩
theorem tw16977318517054086385:True:=⟨⟩
theorem tw16984874933326864789:True:=⟨⟩
theorem tw1698604429570325275:True:=⟨⟩
theorem tw16991970940086726205:True:=⟨⟩
theorem tw17025609372910904192:True:=⟨⟩
theorem tw17036829753106170704:True:=⟨⟩
theorem tw17118078533711937003:True:=⟨⟩
theorem tw17120102709689234715:True:=⟨⟩
theorem tw1716767494764616095:True:=⟨⟩
theorem tw17217191423409209979:True:=⟨⟩
theorem tw17255567007487824227:True:=⟨⟩
theorem tw17264148060105735796:True:=⟨⟩
theorem tw17305176741156485664:True:=⟨⟩
theorem tw1732349569734443987:True:=⟨⟩
theorem tw17324462034462222401:True:=⟨⟩
theorem tw17351761167394790324:True:=⟨⟩
theorem tw17354611824885723173:True:=⟨⟩
theorem tw17362285167034183514:True:=⟨⟩
theorem tw17363014781666006375:True:=⟨⟩
theorem tw17420010599660549290:True:=⟨⟩
theorem tw17446419562747247713:True:=⟨⟩
theorem tw17492530715073489697:True:=⟨⟩
theorem tw174994529305640409:True:=⟨⟩
theorem tw17514203818986734259:True:=⟨⟩
theorem tw1759357135812998374:True:=⟨⟩
theorem tw1759972752973602702:True:=⟨⟩
theorem tw17662496470721404836:True:=⟨⟩
theorem tw17693753685047576118:True:=⟨⟩
theorem tw17735244860978375907:True:=⟨⟩
theorem tw17767700326768237020:True:=⟨⟩
theorem tw17767769359957842360:True:=⟨⟩
theorem tw17813852217433240099:True:=⟨⟩
theorem tw17821553300153962223:True:=⟨⟩
theorem tw17883050721945843557:True:=⟨⟩
theorem tw17942495697572433613:True:=⟨⟩
theorem tw17976343112693326950:True:=⟨⟩
theorem tw18011786637883210789:True:=⟨⟩
theorem tw18021488894893820798:True:=⟨⟩
theorem tw18043161084070657459:True:=⟨⟩
theorem tw18073363061884760378:True:=⟨⟩
theorem tw18101823037725974523:True:=⟨⟩
theorem tw18146530679088973538:True:=⟨⟩
theorem tw18164133498144123757:True:=⟨⟩
theorem tw18195245921806393018:True:=⟨⟩
theorem tw18207938761657424211:True:=⟨⟩
theorem tw18242352366900726712:True:=⟨⟩
theorem tw18249367058151115594:True:=⟨⟩
theorem tw18295833924855566985:True:=⟨⟩
theorem tw18317522598725107650:True:=⟨⟩
theorem tw18320173568277171297:True:=⟨⟩
theorem tw18369457377321839320:True:=⟨⟩
theorem tw18375241501580957078:True:=⟨⟩
theorem tw18386191107184895124:True:=⟨⟩
theorem tw18406295266494285069:True:=⟨⟩
theorem tw18407568133491798819:True:=⟨⟩
theorem tw18429756740469323076:True:=⟨⟩
theorem tw18431835933621352514:True:=⟨⟩
theorem tw18446614400948212853:True:=⟨⟩
theorem tw1864549762704252143:True:=⟨⟩
theorem tw1872941121550329132:True:=⟨⟩
theorem tw1878445600884174320:True:=⟨⟩
theorem tw1890099966587512159:True:=⟨⟩
theorem tw1901138200378484606:True:=⟨⟩
theorem tw1929877161776408265:True:=⟨⟩
theorem tw194861934846061989:True:=⟨⟩
theorem tw2038971636166178639:True:=⟨⟩
theorem tw2099574913993654140:True:=⟨⟩
theorem tw2105553333713059732:True:=⟨⟩
theorem tw2119404245060696959:True:=⟨⟩
theorem tw2135717567743600530:True:=⟨⟩
theorem tw2192023570410592050:True:=⟨⟩
theorem tw2201134732183850922:True:=⟨⟩
theorem tw221871834699705493:True:=⟨⟩
theorem tw2225492335254226166:True:=⟨⟩
theorem tw2260480706896799268:True:=⟨⟩
theorem tw2267098444301657263:True:=⟨⟩
theorem tw2269370012477544170:True:=⟨⟩
theorem tw2333443233109189510:True:=⟨⟩
theorem tw2375593061745875474:True:=⟨⟩
theorem tw2430372422565215983:True:=⟨⟩
theorem tw2513038901737921580:True:=⟨⟩
theorem tw2520590052590146822:True:=⟨⟩
theorem tw2539067898225706112:True:=⟨⟩
theorem tw2578180624883445841:True:=⟨⟩
theorem tw2610938340373091814:True:=⟨⟩
theorem tw2617141789500829172:True:=⟨⟩
theorem tw2650236994847953197:True:=⟨⟩
theorem tw2696418643090353817:True:=⟨⟩
theorem tw2768473222909829690:True:=⟨⟩
theorem tw2827344759368947416:True:=⟨⟩
theorem tw2829871001176111914:True:=⟨⟩
theorem tw2846877522294935963:True:=⟨⟩
theorem tw2847459448220844879:True:=⟨⟩
theorem tw2879668754084118321:True:=⟨⟩
theorem tw2883778349679555400:True:=⟨⟩
theorem tw2884074314815693082:True:=⟨⟩
theorem tw2927154592597626649:True:=⟨⟩
theorem tw2937715266870861843:True:=⟨⟩
theorem tw308661926209026855:True:=⟨⟩
theorem tw3136206636145383541:True:=⟨⟩
theorem tw3148279694526763482:True:=⟨⟩
theorem tw3193058124803023066:True:=⟨⟩
theorem tw3305355614150086845:True:=⟨⟩
theorem tw332967677165119028:True:=⟨⟩
theorem tw3352538141075076384:True:=⟨⟩
theorem tw3362429503228432601:True:=⟨⟩
theorem tw3410958145419888333:True:=⟨⟩
theorem tw3414046494364422244:True:=⟨⟩
theorem tw3435377205525970520:True:=⟨⟩
theorem tw3460055139297837066:True:=⟨⟩
theorem tw350096371080785135:True:=⟨⟩
theorem tw3574558513151887634:True:=⟨⟩
theorem tw3628026107045533024:True:=⟨⟩
theorem tw3674697867245203998:True:=⟨⟩
theorem tw3697608295487032949:True:=⟨⟩
theorem tw3700701904026957097:True:=⟨⟩
theorem tw3732262327103441357:True:=⟨⟩
theorem tw3800299110862518635:True:=⟨⟩
theorem tw3831319767031426078:True:=⟨⟩
theorem tw3844176468496804608:True:=⟨⟩
theorem tw3929706805804365208:True:=⟨⟩
theorem tw3935408771317008708:True:=⟨⟩
theorem tw3949950441354072484:True:=⟨⟩
theorem tw3952281391844638115:True:=⟨⟩
theorem tw4028588197817945030:True:=⟨⟩
theorem tw4079703887970400995:True:=⟨⟩
theorem tw4096344807289763464:True:=⟨⟩
theorem tw4102794878141726538:True:=⟨⟩
theorem tw4123910390239595620:True:=⟨⟩
theorem tw4168584559382668961:True:=⟨⟩
theorem tw4184545087745908223:True:=⟨⟩
theorem tw427424751950241771:True:=⟨⟩
theorem tw4295599737122148972:True:=⟨⟩
theorem tw4333983401841227916:True:=⟨⟩
theorem tw4339386875297128541:True:=⟨⟩
theorem tw4346570758458733504:True:=⟨⟩
theorem tw4365172585315010775:True:=⟨⟩
theorem tw4376328128559785159:True:=⟨⟩
theorem tw4392838189384856161:True:=⟨⟩
theorem tw4428307188761152510:True:=⟨⟩
theorem tw4454173526887482103:True:=⟨⟩
theorem tw4465145712514371241:True:=⟨⟩
theorem tw4486787919002703416:True:=⟨⟩
theorem tw4488248426026827150:True:=⟨⟩
theorem tw450916590089996798:True:=⟨⟩
theorem tw452266813755386063:True:=⟨⟩
theorem tw4535045929938997505:True:=⟨⟩
theorem tw4563974032396324202:True:=⟨⟩
theorem tw4593032765084970730:True:=⟨⟩
theorem tw4606266292315209565:True:=⟨⟩
theorem tw4626879880216149880:True:=⟨⟩
theorem tw4646661033588255751:True:=⟨⟩
theorem tw4662455059710291064:True:=⟨⟩
theorem tw4743714920790136045:True:=⟨⟩
theorem tw4763789291821575773:True:=⟨⟩
theorem tw4772756603229346212:True:=⟨⟩
theorem tw4778154238680638806:True:=⟨⟩
theorem tw4821261546966673346:True:=⟨⟩
theorem tw483592363068771498:True:=⟨⟩
theorem tw4849398051558441496:True:=⟨⟩
theorem tw489676418395445831:True:=⟨⟩
theorem tw4973327207312759143:True:=⟨⟩
theorem tw4988922262629640355:True:=⟨⟩
theorem tw4996840010839422539:True:=⟨⟩
theorem tw4998546203665810923:True:=⟨⟩
theorem tw5008023859221426872:True:=⟨⟩
theorem tw5055633046205725118:True:=⟨⟩
theorem tw5065927806707789266:True:=⟨⟩
theorem tw517648930380196787:True:=⟨⟩
theorem tw5180646875312245405:True:=⟨⟩
theorem tw5197259062613482575:True:=⟨⟩
theorem tw522224953052056840:True:=⟨⟩
theorem tw5251120293646539656:True:=⟨⟩
theorem tw5260409796279377406:True:=⟨⟩
theorem tw5266034578673142210:True:=⟨⟩
theorem tw5294445567870395662:True:=⟨⟩
theorem tw5309433017620073124:True:=⟨⟩
theorem tw5326756923468086153:True:=⟨⟩
theorem tw5347280325141530284:True:=⟨⟩
theorem tw5402963773820284743:True:=⟨⟩
theorem tw5509032058390712647:True:=⟨⟩
theorem tw5578354122223171805:True:=⟨⟩
theorem tw5614719389090787174:True:=⟨⟩
theorem tw5660872998511684676:True:=⟨⟩
theorem tw5685695529159907615:True:=⟨⟩
theorem tw5714125949856031082:True:=⟨⟩
theorem tw5732422392511000169:True:=⟨⟩
theorem tw575025259882955716:True:=⟨⟩
theorem tw5754587849134534603:True:=⟨⟩
theorem tw5835786246360008606:True:=⟨⟩
theorem tw5943269415797788790:True:=⟨⟩
theorem tw5989415519236452340:True:=⟨⟩
theorem tw5990590593740837732:True:=⟨⟩
theorem tw5992964702860161167:True:=⟨⟩
theorem tw6031345433753657646:True:=⟨⟩
theorem tw6037763175405343365:True:=⟨⟩
theorem tw6063842866739920118:True:=⟨⟩
theorem tw6088243778830276458:True:=⟨⟩
theorem tw6098026139460611176:True:=⟨⟩
theorem tw6130265382952961602:True:=⟨⟩
theorem tw6228817926998673925:True:=⟨⟩
theorem tw6245645226309925537:True:=⟨⟩
theorem tw6265409474382662996:True:=⟨⟩
theorem tw6301716894995174033:True:=⟨⟩
theorem tw630322112176381237:True:=⟨⟩
theorem tw6322803369568311882:True:=⟨⟩
theorem tw6324550854426917532:True:=⟨⟩
theorem tw6382155569805690193:True:=⟨⟩
theorem tw6523989188235170925:True:=⟨⟩
theorem tw6568965694107089629:True:=⟨⟩
theorem tw6575728369889509545:True:=⟨⟩
theorem tw659450469831801227:True:=⟨⟩
theorem tw6615564978285281383:True:=⟨⟩
theorem tw6644586969762913979:True:=⟨⟩
theorem tw665357817514162516:True:=⟨⟩
theorem tw6661335504634810224:True:=⟨⟩
theorem tw667296136011768075:True:=⟨⟩
theorem tw6711499309386120101:True:=⟨⟩
theorem tw675701347504259269:True:=⟨⟩
theorem tw683465949794861520:True:=⟨⟩
theorem tw6852641701811267563:True:=⟨⟩
theorem tw6877154568736426021:True:=⟨⟩
theorem tw6886327828035334517:True:=⟨⟩
theorem tw689165289879933883:True:=⟨⟩
theorem tw693248781159339288:True:=⟨⟩
theorem tw6966405377474896563:True:=⟨⟩
theorem tw6993402529923080581:True:=⟨⟩
theorem tw7068828225594299078:True:=⟨⟩
theorem tw707723059438665199:True:=⟨⟩
theorem tw7155784914308821733:True:=⟨⟩
theorem tw7178333149702543657:True:=⟨⟩
theorem tw7224696579965755611:True:=⟨⟩
theorem tw7229400119772735814:True:=⟨⟩
theorem tw7238727139282249197:True:=⟨⟩
theorem tw7266647958057738762:True:=⟨⟩
theorem tw7275348984485532301:True:=⟨⟩
theorem tw7298831145094571435:True:=⟨⟩
theorem tw7306515960387695284:True:=⟨⟩
theorem tw7315439715847324027:True:=⟨⟩
theorem tw7322431322120057351:True:=⟨⟩
theorem tw7348351843474614530:True:=⟨⟩
theorem tw7363586625004781291:True:=⟨⟩
theorem tw7409565583087853887:True:=⟨⟩
theorem tw7431446869789169243:True:=⟨⟩
theorem tw7450375751041532931:True:=⟨⟩
theorem tw7465303708332641418:True:=⟨⟩
theorem tw7497935701527234383:True:=⟨⟩
theorem tw7502122670625074166:True:=⟨⟩
theorem tw7571414501708434436:True:=⟨⟩
theorem tw7574326542128943469:True:=⟨⟩
theorem tw7595335186905199386:True:=⟨⟩
theorem tw7610387188984492679:True:=⟨⟩
theorem tw763769252362097887:True:=⟨⟩
theorem tw7653095842715249375:True:=⟨⟩
theorem tw7693321641772745449:True:=⟨⟩
theorem tw7698632736746331356:True:=⟨⟩
theorem tw7789995546449149394:True:=⟨⟩
theorem tw7821993066980566237:True:=⟨⟩
theorem tw7832450454991107604:True:=⟨⟩
theorem tw7968380981515460582:True:=⟨⟩
theorem tw7985588646842194786:True:=⟨⟩
theorem tw7989890197396627347:True:=⟨⟩
theorem tw7998677146553539189:True:=⟨⟩
theorem tw8043042706366157054:True:=⟨⟩
theorem tw805393472337716361:True:=⟨⟩
theorem tw809612349533523902:True:=⟨⟩
theorem tw8112813131447592734:True:=⟨⟩
theorem tw811904214228380293:True:=⟨⟩
theorem tw81646222119319704:True:=⟨⟩
theorem tw8210102154588776354:True:=⟨⟩
theorem tw8239238182851044552:True:=⟨⟩
theorem tw8263899371244235460:True:=⟨⟩
theorem tw8332473680275289730:True:=⟨⟩
theorem tw8335942019416468478:True:=⟨⟩
theorem tw8353537657908486909:True:=⟨⟩
theorem tw8370450241491001448:True:=⟨⟩
theorem tw837259710868584762:True:=⟨⟩
theorem tw8386133977526043038:True:=⟨⟩
theorem tw8473199624339824736:True:=⟨⟩
theorem tw8473747304694555978:True:=⟨⟩
theorem tw8476871172852651527:True:=⟨⟩
theorem tw8477285331536297601:True:=⟨⟩
theorem tw850668177552510086:True:=⟨⟩
theorem tw8510239908489489760:True:=⟨⟩
theorem tw8510676414430711997:True:=⟨⟩
theorem tw8545131692593074136:True:=⟨⟩
theorem tw859726074199319872:True:=⟨⟩
theorem tw8609057221264608488:True:=⟨⟩
theorem tw8611878834428915206:True:=⟨⟩
theorem tw8615424806386620559:True:=⟨⟩
theorem tw8622252794470644127:True:=⟨⟩
theorem tw8635575611003187818:True:=⟨⟩
theorem tw8677246710040719649:True:=⟨⟩
theorem tw8684569726014419426:True:=⟨⟩
theorem tw8692944799301092750:True:=⟨⟩
theorem tw8843022701878621267:True:=⟨⟩
theorem tw8981976765441733643:True:=⟨⟩
theorem tw9024729334038869147:True:=⟨⟩
theorem tw9113463899885068762:True:=⟨⟩
theorem tw914933723159316953:True:=⟨⟩
theorem tw9189780243665439012:True:=⟨⟩
theorem tw9229643553496391667:True:=⟨⟩
theorem tw9230660184113181237:True:=⟨⟩
theorem tw9234446912152580539:True:=⟨⟩
theorem tw9237830361596987003:True:=⟨⟩
theorem tw9264587095056295443:True:=⟨⟩
theorem tw9301936858711686522:True:=⟨⟩
theorem tw9314846808404297647:True:=⟨⟩
theorem tw9372262098686420892:True:=⟨⟩
theorem tw9389875857005477833:True:=⟨⟩
theorem tw939493078496404271:True:=⟨⟩
theorem tw9436964150828106633:True:=⟨⟩
theorem tw9440698006827495390:True:=⟨⟩
theorem tw9460506375494795890:True:=⟨⟩
theorem tw9513933072225013881:True:=⟨⟩
theorem tw9561413229743339868:True:=⟨⟩
theorem tw9572531659120156518:True:=⟨⟩
theorem tw9595616606634319333:True:=⟨⟩
theorem tw9603496883907534875:True:=⟨⟩
theorem tw9614496164371913927:True:=⟨⟩
theorem tw9631530322208366862:True:=⟨⟩
theorem tw9705859018259069311:True:=⟨⟩
theorem tw9710320026771968288:True:=⟨⟩
theorem tw9773313229608178024:True:=⟨⟩
theorem tw9828439933955290563:True:=⟨⟩
theorem tw9886500134144940311:True:=⟨⟩
theorem tw9904277311850240313:True:=⟨⟩
theorem tw9914167042814287351:True:=⟨⟩
theorem tw9934727266218488540:True:=⟨⟩
theorem tw9937822704317604839:True:=⟨⟩
theorem tw9942501627466319060:True:=⟨⟩
theorem tw9989181822263646309:True:=⟨⟩
theorem tw9999415108175601857:True:=⟨⟩
end PySem.W.Fast
open PySem PySem.W PyProof.Rows
set_option maxRecDepth 100000 in
set_option maxHeartbeats 0 in
theorem PySem.Challenge.cw_vellumpages_s03_line_holds : PySem.Challenge.rw_vellumpages_s03_line.Holds := by
 w_on;k_headS;(case hw=>exact ⟨[.int 0,.list []],by decide +kernel,by decide +kernel⟩)
 k_fillS
 refine L2.walk_specT (r:=PySem.Challenge.rw_vellumpages_s03_line) (k:=14) (ps:=["k","t"]) (sp:=fun K PT=>Vp.sp_line K PT) (by decide +kernel) rfl rfl ⟨rfl,by decide,by decide⟩ (fun w h Y=>PySem.W.kIn_of Y) rfl ?hnt ?htab ?F ?S
 case hnt =>
  intro w
  kernel_rfl
 case htab =>
  intro w
  kernel_rfl
 case F =>
  intro w mg fa c0 PT h Y KX G hmg htb hC hgP
  refine' Vp.all_mk KX G hmg htb hC hgP ?qCE ?nl ?aCR ?pgR ?hdR ?poR ?saR ?mkR ?kcR ?nR_t ?nR_at ?aCW ?pgW ?hdW ?poW ?saW ?mkW ?kcW ?zzjv ?zzjl ?zzjk ?zzjy ?zzkb ?zzjx ?zzj9 ?zzka ?zzff ?zzju ?zzjw ?zzig ?aCL ?pgL ?hdL ?poL ?saL ?mkL ?kcL ?nL_first ?nL_end ?nL_opens ?nL_closes ?nL_taken ?nL_note ?aCN ?pgN ?hdN ?poN ?saN ?mkN ?kcN ?nN_things ?nN_takes ?nN_tails ?aCP ?pgP ?hdP ?poP ?saP ?mkP ?kcP ?nP_kind ?nP_first ?nP_end ?nP_came ?nP_own ?nP_rest ?nP_cost ?aCE ?zzkm ?zzf1 ?zzeh ?zzfz ?zzkl ?iCUT ?zzhn ?zzj3 ?zzin ?zzdv ?zzhl ?zzhm ?zzf0 ?zzgm ?zzbj ?zzc2 ?zzbk ?zzdu ?zzkn ?zzki ?gENDS ?lENDS ?zzei ?zzeg ?zzdt ?zzds ?zzdr ?zzdq ?zzdp ?zzdo ?zzko ?zzkj ?zzku ?zzkr ?zzks ?zzkt ?zzj4 ?zzgo ?zzkq ?zzkd ?zzkp ?zzhq ?zzg6 ?zzcf ?zzfr ?zzf6 ?zzfj ?zzcs ?zzd8 ?zze4 ?zze0 ?zzb3 ?zzc9 ?zzer ?zzef ?zzbn ?zzco ?zzga ?zzfy ?zzfn ?zzct ?zzfu ?zzf9 ?zzfx ?zzfm ?zzae ?zzeb ?zzf8 ?zzfw ?zzfl ?zzac ?zzea ?zzf7 ?zzfv ?zzfk ?zzaa ?zzd9 ?zzc8 ?zzc1 ?zzc0 ?zza6 ?zzbs ?zzch ?zzcd ?zzca ?zzal ?zza9 ?zzb2 ?zzby ?zzbw ?zzab ?zza2 ?zzay ?zzaw ?zzav ?zzaj ?zzam ?zzbf ?zzbb ?zza7 ?zzah ?zzaq ?zzci ?zzce ?zzcb ?zzar ?zzba ?zzcg ?zzcc ?zzb9 ?zzag ?zza8 ?zzb1 ?zzbx ?zzbv ?zzai ?zza1 ?zzcw ?zzcp ?zzcl ?zzau ?zzbi ?zzj7 ?zzj1 ?zzif ?zzjf ?zzht ?zzhh ?zzg9 ?zzem ?zzhd ?zzho ?zzg4 ?zzek ?zzfp ?zzc6 ?zzcy ?zza4 ?zzbq ?zzf4 ?zzfh ?zzcr ?zzd6 ?zze5 ?zze1 ?zzb4 ?zzda ?zzgs ?zzgh ?zzdh ?zzev ?zzf3 ?zzg3 ?zzej ?zzfo ?zzke ?zzkc ?zzjq ?zzj2 ?zzd4 ?zzdn ?zzak ?zzb8 ?zzeq ?zzee ?zzaf ?zzcn ?zzhp ?zzg5 ?zzc4 ?zzfq ?zzhs ?zzg8 ?zzbd ?zzft ?zzip ?zzih ?zzc3 ?zzgx ?zzjs ?zzjo ?zzgn ?zzid ?zzcu ?zzcj ?zzas ?zzbg ?zzj6 ?zzj0 ?zzie ?zzje ?zze6 ?zze2 ?zzb5 ?zzdb ?zzgv ?zzgk ?zzdk ?zzey ?zzhv ?zzhj ?zzhb ?zzen ?zzhf ?zzcv ?zzck ?zzat ?zzbh ?zzhw ?zzhk ?zzhc ?zzeo ?zzhg ?zzgp ?zzge ?zzdf ?zzes ?zzjr ?zzjn ?zzfa ?zzic ?zzb0 ?zzbu ?zzap ?zza0 ?zzc5 ?zzcx ?zza3 ?zzbp ?zzir ?zzij ?zzfc ?zzgz ?zzhu ?zzhi ?zzha ?zzbe ?zzhe ?zzd3 ?zzdm ?zzan ?zzb7 ?zzd2 ?zzdl ?zzad ?zzb6 ?zzj5 ?zzjz ?zzec ?zzjd ?zzf2 ?zzfg ?zzcq ?zzd5 ?zze7 ?zze3 ?zzax ?zzdc ?zzgt ?zzgi ?zzdi ?zzew ?zzgr ?zzgg ?zzbl ?zzeu ?zzgw ?zzgl ?zzbo ?zzez ?zzgq ?zzgf ?zzdg ?zzet ?zzis ?zzik ?zzfd ?zzg0 ?zzgu ?zzgj ?zzdj ?zzex ?zzf5 ?zzfi ?zzbc ?zzd7 ?zzhr ?zzg7 ?zzel ?zzfs ?zzit ?zzil ?zzfe ?zzg1 ?zziq ?zzii ?zzfb ?zzgy ?zzbz ?zzbt ?zzao ?zzaz ?zzep ?zzed ?zzbm ?zzcm ?zzc7 ?zzcz ?zza5 ?zzbr ?zzg2 ?zzim ?zzio ?zze9 ?zzkh ?zzj8 ?zzkg ?zzkk
  (case aCR=>k_is)
  (case pgR=>k_is)
  (case hdR=>k_is)
  (case poR=>k_is)
  (case saR=>k_is)
  (case mkR=>k_is)
  (case kcR=>k_is)
  (case nR_t=>k_is)
  (case nR_at=>k_is)
  (case aCW=>k_is)
  (case pgW=>k_is)
  (case hdW=>k_is)
  (case poW=>k_is)
  (case saW=>k_is)
  (case mkW=>k_is)
  (case kcW=>k_is)
  (case zzjv=>k_is)
  (case zzjl=>k_is)
  (case zzjk=>k_is)
  (case zzjy=>k_is)
  (case zzkb=>k_is)
  (case zzjx=>k_is)
  (case zzj9=>k_is)
  (case zzka=>k_is)
  (case zzff=>k_is)
  (case zzju=>k_is)
  (case zzjw=>k_is)
  (case zzig=>k_is)
  (case aCL=>k_is)
  (case pgL=>k_is)
  (case hdL=>k_is)
  (case poL=>k_is)
  (case saL=>k_is)
  (case mkL=>k_is)
  (case kcL=>k_is)
  (case nL_first=>k_is)
  (case nL_end=>k_is)
  (case nL_opens=>k_is)
  (case nL_closes=>k_is)
  (case nL_taken=>k_is)
  (case nL_note=>k_is)
  (case aCN=>k_is)
  (case pgN=>k_is)
  (case hdN=>k_is)
  (case poN=>k_is)
  (case saN=>k_is)
  (case mkN=>k_is)
  (case kcN=>k_is)
  (case nN_things=>k_is)
  (case nN_takes=>k_is)
  (case nN_tails=>k_is)
  (case aCP=>k_is)
  (case pgP=>k_is)
  (case hdP=>k_is)
  (case poP=>k_is)
  (case saP=>k_is)
  (case mkP=>k_is)
  (case kcP=>k_is)
  (case nP_kind=>k_is)
  (case nP_first=>k_is)
  (case nP_end=>k_is)
  (case nP_came=>k_is)
  (case nP_own=>k_is)
  (case nP_rest=>k_is)
  (case nP_cost=>k_is)
  (case aCE=>k_is)
  (case zzkm=>k_is)
  (case zzf1=>k_is)
  (case zzeh=>k_is)
  (case zzfz=>k_is)
  (case zzkl=>k_is)
  (case iCUT=>k_is)
  (case zzhn=>k_is)
  (case zzj3=>k_is)
  (case zzin=>k_is)
  (case zzdv=>k_is)
  (case zzhl=>k_is)
  (case zzhm=>k_is)
  (case zzf0=>k_is)
  (case zzgm=>k_is)
  (case zzbj=>k_is)
  (case zzc2=>k_is)
  (case zzbk=>k_is)
  (case zzdu=>k_is)
  (case zzkn=>k_is)
  (case zzki=>k_is)
  (case gENDS=>k_is)
  (case lENDS=>k_is)
  (case zzei=>k_is)
  (case zzeg=>k_is)
  (case zzdt=>k_is)
  (case zzds=>k_is)
  (case zzdr=>k_is)
  (case zzdq=>k_is)
  (case zzdp=>k_is)
  (case zzdo=>k_is)
  (case zzko=>k_is)
  (case zzkj=>k_is)
  (case zzku=>k_is)
  (case zzkr=>k_is)
  (case zzks=>k_is)
  (case zzkt=>k_is)
  (case zzj4=>k_is)
  (case zzgo=>k_is)
  (case zzkq=>k_is)
  (case zzkd=>k_is)
  (case zzkp=>k_is)
  (case zzhq=>k_is)
  (case zzg6=>k_is)
  (case zzcf=>k_is)
  (case zzfr=>k_is)
  (case zzf6=>k_is)
  (case zzfj=>k_is)
  (case zzcs=>k_is)
  (case zzd8=>k_is)
  (case zze4=>k_is)
  (case zze0=>k_is)
  (case zzb3=>k_is)
  (case zzc9=>k_is)
  (case zzer=>k_is)
  (case zzef=>k_is)
  (case zzbn=>k_is)
  (case zzco=>k_is)
  (case zzga=>k_is)
  (case zzfy=>k_is)
  (case zzfn=>k_is)
  (case zzct=>k_is)
  (case zzfu=>k_is)
  (case zzf9=>k_is)
  (case zzfx=>k_is)
  (case zzfm=>k_is)
  (case zzae=>k_is)
  (case zzeb=>k_is)
  (case zzf8=>k_is)
  (case zzfw=>k_is)
  (case zzfl=>k_is)
  (case zzac=>k_is)
  (case zzea=>k_is)
  (case zzf7=>k_is)
  (case zzfv=>k_is)
  (case zzfk=>k_is)
  (case zzaa=>k_is)
  (case zzd9=>k_is)
  (case zzc8=>k_is)
  (case zzc1=>k_is)
  (case zzc0=>k_is)
  (case zza6=>k_is)
  (case zzbs=>k_is)
  (case zzch=>k_is)
  (case zzcd=>k_is)
  (case zzca=>k_is)
  (case zzal=>k_is)
  (case zza9=>k_is)
  (case zzb2=>k_is)
  (case zzby=>k_is)
  (case zzbw=>k_is)
  (case zzab=>k_is)
  (case zza2=>k_is)
  (case zzay=>k_is)
  (case zzaw=>k_is)
  (case zzav=>k_is)
  (case zzaj=>k_is)
  (case zzam=>k_is)
  (case zzbf=>k_is)
  (case zzbb=>k_is)
  (case zza7=>k_is)
  (case zzah=>k_is)
  (case zzaq=>k_is)
  (case zzci=>k_is)
  (case zzce=>k_is)
  (case zzcb=>k_is)
  (case zzar=>k_is)
  (case zzba=>k_is)
  (case zzcg=>k_is)
  (case zzcc=>k_is)
  (case zzb9=>k_is)
  (case zzag=>k_is)
  (case zza8=>k_is)
  (case zzb1=>k_is)
  (case zzbx=>k_is)
  (case zzbv=>k_is)
  (case zzai=>k_is)
  (case zza1=>k_is)
  (case zzcw=>k_is)
  (case zzcp=>k_is)
  (case zzcl=>k_is)
  (case zzau=>k_is)
  (case zzbi=>k_is)
  (case zzj7=>k_is)
  (case zzj1=>k_is)
  (case zzif=>k_is)
  (case zzjf=>k_is)
  (case zzht=>k_is)
  (case zzhh=>k_is)
  (case zzg9=>k_is)
  (case zzem=>k_is)
  (case zzhd=>k_is)
  (case zzho=>k_is)
  (case zzg4=>k_is)
  (case zzek=>k_is)
  (case zzfp=>k_is)
  (case zzc6=>k_is)
  (case zzcy=>k_is)
  (case zza4=>k_is)
  (case zzbq=>k_is)
  (case zzf4=>k_is)
  (case zzfh=>k_is)
  (case zzcr=>k_is)
  (case zzd6=>k_is)
  (case zze5=>k_is)
  (case zze1=>k_is)
  (case zzb4=>k_is)
  (case zzda=>k_is)
  (case zzgs=>k_is)
  (case zzgh=>k_is)
  (case zzdh=>k_is)
  (case zzev=>k_is)
  (case zzf3=>k_is)
  (case zzg3=>k_is)
  (case zzej=>k_is)
  (case zzfo=>k_is)
  (case zzke=>k_is)
  (case zzkc=>k_is)
  (case zzjq=>k_is)
  (case zzj2=>k_is)
  (case zzd4=>k_is)
  (case zzdn=>k_is)
  (case zzak=>k_is)
  (case zzb8=>k_is)
  (case zzeq=>k_is)
  (case zzee=>k_is)
  (case zzaf=>k_is)
  (case zzcn=>k_is)
  (case zzhp=>k_is)
  (case zzg5=>k_is)
  (case zzc4=>k_is)
  (case zzfq=>k_is)
  (case zzhs=>k_is)
  (case zzg8=>k_is)
  (case zzbd=>k_is)
  (case zzft=>k_is)
  (case zzip=>k_is)
  (case zzih=>k_is)
  (case zzc3=>k_is)
  (case zzgx=>k_is)
  (case zzjs=>k_is)
  (case zzjo=>k_is)
  (case zzgn=>k_is)
  (case zzid=>k_is)
  (case zzcu=>k_is)
  (case zzcj=>k_is)
  (case zzas=>k_is)
  (case zzbg=>k_is)
  (case zzj6=>k_is)
  (case zzj0=>k_is)
  (case zzie=>k_is)
  (case zzje=>k_is)
  (case zze6=>k_is)
  (case zze2=>k_is)
  (case zzb5=>k_is)
  (case zzdb=>k_is)
  (case zzgv=>k_is)
  (case zzgk=>k_is)
  (case zzdk=>k_is)
  (case zzey=>k_is)
  (case zzhv=>k_is)
  (case zzhj=>k_is)
  (case zzhb=>k_is)
  (case zzen=>k_is)
  (case zzhf=>k_is)
  (case zzcv=>k_is)
  (case zzck=>k_is)
  (case zzat=>k_is)
  (case zzbh=>k_is)
  (case zzhw=>k_is)
  (case zzhk=>k_is)
  (case zzhc=>k_is)
  (case zzeo=>k_is)
  (case zzhg=>k_is)
  (case zzgp=>k_is)
  (case zzge=>k_is)
  (case zzdf=>k_is)
  (case zzes=>k_is)
  (case zzjr=>k_is)
  (case zzjn=>k_is)
  (case zzfa=>k_is)
  (case zzic=>k_is)
  (case zzb0=>k_is)
  (case zzbu=>k_is)
  (case zzap=>k_is)
  (case zza0=>k_is)
  (case zzc5=>k_is)
  (case zzcx=>k_is)
  (case zza3=>k_is)
  (case zzbp=>k_is)
  (case zzir=>k_is)
  (case zzij=>k_is)
  (case zzfc=>k_is)
  (case zzgz=>k_is)
  (case zzhu=>k_is)
  (case zzhi=>k_is)
  (case zzha=>k_is)
  (case zzbe=>k_is)
  (case zzhe=>k_is)
  (case zzd3=>k_is)
  (case zzdm=>k_is)
  (case zzan=>k_is)
  (case zzb7=>k_is)
  (case zzd2=>k_is)
  (case zzdl=>k_is)
  (case zzad=>k_is)
  (case zzb6=>k_is)
  (case zzj5=>k_is)
  (case zzjz=>k_is)
  (case zzec=>k_is)
  (case zzjd=>k_is)
  (case zzf2=>k_is)
  (case zzfg=>k_is)
  (case zzcq=>k_is)
  (case zzd5=>k_is)
  (case zze7=>k_is)
  (case zze3=>k_is)
  (case zzax=>k_is)
  (case zzdc=>k_is)
  (case zzgt=>k_is)
  (case zzgi=>k_is)
  (case zzdi=>k_is)
  (case zzew=>k_is)
  (case zzgr=>k_is)
  (case zzgg=>k_is)
  (case zzbl=>k_is)
  (case zzeu=>k_is)
  (case zzgw=>k_is)
  (case zzgl=>k_is)
  (case zzbo=>k_is)
  (case zzez=>k_is)
  (case zzgq=>k_is)
  (case zzgf=>k_is)
  (case zzdg=>k_is)
  (case zzet=>k_is)
  (case zzis=>k_is)
  (case zzik=>k_is)
  (case zzfd=>k_is)
  (case zzg0=>k_is)
  (case zzgu=>k_is)
  (case zzgj=>k_is)
  (case zzdj=>k_is)
  (case zzex=>k_is)
  (case zzf5=>k_is)
  (case zzfi=>k_is)
  (case zzbc=>k_is)
  (case zzd7=>k_is)
  (case zzhr=>k_is)
  (case zzg7=>k_is)
  (case zzel=>k_is)
  (case zzfs=>k_is)
  (case zzit=>k_is)
  (case zzil=>k_is)
  (case zzfe=>k_is)
  (case zzg1=>k_is)
  (case zziq=>k_is)
  (case zzii=>k_is)
  (case zzfb=>k_is)
  (case zzgy=>k_is)
  (case zzbz=>k_is)
  (case zzbt=>k_is)
  (case zzao=>k_is)
  (case zzaz=>k_is)
  (case zzep=>k_is)
  (case zzed=>k_is)
  (case zzbm=>k_is)
  (case zzcm=>k_is)
  (case zzc7=>k_is)
  (case zzcz=>k_is)
  (case zza5=>k_is)
  (case zzbr=>k_is)
  (case zzg2=>k_is)
  (case zzim=>k_is)
  (case zzio=>k_is)
  (case zze9=>k_is)
  (case zzkh=>k_is)
  (case zzj8=>k_is)
  (case zzkg=>k_is)
  (case zzkk=>k_is)
  (case qCE=>kernel_rfl)
  (case nl=>kernel_rfl)
 case S =>
  intro K PT H xs a hPT hwi hask hx
  cases hx with
  | cons h1 h2 =>
   cases h2 with
   | cons h2 h3 =>
    cases h3
    cases h1
    cases h2 with
    | lst hs ha =>
     have e:=L2.ints_dw a.2.1 _ ha
     subst e
     have q:(Codec.inInt 0 18446744073709551615 a.1 && ((Codec.inLen 0 8190 a.2.1 && a.2.1.all (Codec.inInt 0 255)) && true))=true:=hwi
     rw [Bool.and_eq_true,Bool.and_eq_true,Bool.and_eq_true] at q
     have hin:∀ x∈a.2.1,0≤x∧x≤255:=fun x hx=>Codec.inInt_iff.mp (List.all_eq_true.mp q.2.1.2 x hx)
     have hk:=(Codec.inInt_iff.mp q.1).1
     have hl:(PageNeutral.text a.2.1).length≤8190:=by
      unfold PageNeutral.text
      rw [List.length_map]
      exact (Codec.inNat_iff.mp q.2.1.1).2
     rw [Vp.u8_map _ hin] at hs
     refine ⟨a.1.toNat,_,PageNeutral.text a.2.1,by rw [Int.toNat_of_nonneg hk],hs,hPT,hl,fun H' p hp=>.lst (L2.SqL.of hp) ?_⟩
     have ee:=Vp.ans_line a.1 a.2.1 hl
     rw [← ee]
     exact L2.dw_ints _
end
