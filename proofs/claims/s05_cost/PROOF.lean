import PyProof.Rows.All
import Wide.All
import OpenK.AllK
import Wide.FinOn
import PyProof.EqAt
import PyProof.EqKinds
import PyProof.TupleCall
import KE.BitLaws
import Open.SpecLaws
import KE.OsHead
import KE.OsGo
import PyProof.Rows.FStr
import PyProof.Rows.StrIntSpec
import PyProof.Rows.StrPadWhole
import PyProof.StrCalls
import PyProof.StrOps2
import PySem.Challenge.RW_vellumpages_s05_cost
set_option Elab.async false
set_option linter.all false
section
set_option Elab.async false
set_option linter.all false
set_option maxRecDepth 100000
namespace L2
open PySem PySem.Spec PyProof.Rows
abbrev Key:=Sum Int Str
def keyIs:Key→Value→Bool
 | .inl k,v=>Value.isInt k v
 | .inr x,v=>Value.isStrOf x v
def keyH (w:World):Key→Int
 | .inl k=>hashInt k
 | .inr x=>hashStr w x
theorem keyIs_shape:∀ {k:Key} {v:Value},keyIs k v=true→(∃ i t,k=Sum.inl i∧v=Value.int i t)∨(∃ x t,k=Sum.inr x∧v=Value.str x t)
 | .inl i,v,h=>by
  obtain ⟨t,e⟩:=Value.isInt_shape (k:=i) (v:=v) h
  exact .inl ⟨i,t,rfl,e⟩
 | .inr x,v,h=>by
  obtain ⟨t,e⟩:=Value.isStrOf_shape (x:=x) (v:=v) h
  exact .inr ⟨x,t,rfl,e⟩
theorem keyIs_int (i:Int) (t:Tok):keyIs (.inl i) (.int i t)=true:=by simp [keyIs,Value.isInt]
theorem keyIs_str (x:Str) (t:Tok):keyIs (.inr x) (.str x t)=true:=by simp [keyIs,Value.isStrOf]
theorem key_ll (a b:Int):decide ((Sum.inl a:Key)=Sum.inl b)=(a == b):=by
 by_cases e:a=b
 ·subst e; simp
 ·have h:¬ (Sum.inl a:Key)=Sum.inl b:=fun q=>e (Sum.inl.inj q)
  rw [decide_eq_false h]
  exact (beq_eq_false_iff_ne.mpr e).symm
theorem key_rr (a b:Str):decide ((Sum.inr a:Key)=Sum.inr b)=decide (a=b):=by
 by_cases e:a=b
 ·subst e; simp
 ·have h:¬ (Sum.inr a:Key)=Sum.inr b:=fun q=>e (Sum.inr.inj q)
  rw [decide_eq_false h,decide_eq_false e]
theorem key_lr (a:Int) (b:Str):decide ((Sum.inl a:Key)=Sum.inr b)=false:=decide_eq_false (fun q=>nomatch q)
theorem key_rl (a:Str) (b:Int):decide ((Sum.inr a:Key)=Sum.inl b)=false:=decide_eq_false (fun q=>nomatch q)
def mixKind (prog:Program) (w:World):PySem.KeyKind prog w Key where
 is:=keyIs
 hash:=keyH w
 inj:=fun v a b ha hb=>by
  rcases keyIs_shape ha with ⟨i,t,rfl,rfl⟩ | ⟨x,t,rfl,rfl⟩
  ·rcases keyIs_shape hb with ⟨j,u,rfl,e⟩ | ⟨y,u,rfl,e⟩
   ·injection e with e1 _; rw [e1]
   ·exact nomatch e
  ·rcases keyIs_shape hb with ⟨j,u,rfl,e⟩ | ⟨y,u,rfl,e⟩
   ·exact nomatch e
   ·injection e with e1 _; rw [e1]
 byValue:=fun k v h=>by
  rcases keyIs_shape h with ⟨i,t,rfl,rfl⟩ | ⟨x,t,rfl,rfl⟩ <;> rfl
 pyHash:=fun hv h=>by
  rcases keyIs_shape hv with ⟨i,t,rfl,rfl⟩ | ⟨x,t,rfl,rfl⟩
  ·exact wpAny_pyHash_int h
  ·exact wpAny_pyHash_str h
 eqBool:=fun hu hv h=>by
  rcases keyIs_shape hu with ⟨i,t,rfl,rfl⟩ | ⟨x,t,rfl,rfl⟩
  ·rcases keyIs_shape hv with ⟨j,u,rfl,rfl⟩ | ⟨y,u,rfl,rfl⟩
   ·rw [key_ll] at h; exact wpAny_eqBool_int h
   ·rw [key_lr] at h; exact SeqAt.EqAt.int_str i t y u _ _ _ _ h
  ·rcases keyIs_shape hv with ⟨j,u,rfl,rfl⟩ | ⟨y,u,rfl,rfl⟩
   ·rw [key_rl] at h; exact SeqAt.EqAt.str_int x t j u _ _ _ _ h
   ·rw [key_rr] at h; exact wpAny_eqBool_str h
 «strs»:=fun k x t v h=>by
  rcases keyIs_shape h with ⟨i,u,rfl,e⟩ | ⟨y,u,rfl,e⟩
  ·exact nomatch e
  ·injection e with e1 _
   subst e1
   cases v <;> rfl
theorem mixKind_int (prog:Program) (w:World) (i:Int) (t:Tok):(mixKind prog w).is (.inl i) (.int i t)=true:=keyIs_int i t
theorem mixKind_str (prog:Program) (w:World) (x:Str) (t:Tok):(mixKind prog w).is (.inr x) (.str x t)=true:=keyIs_str x t
end L2
namespace L2
open PySem PySem.Spec PyProof.Rows
inductive V where
 | non | bl (b:Bool) | int (i:Int) | str (x:Str) | byt (b:Array UInt8) | flt (b:UInt64) | ref (a:Addr) | ty (n:String)
 deriving DecidableEq
def RelV:V→Value→Prop
 | .non,u=>u=Value.none
 | .bl b,u=>u=Value.bool b
 | .int i,u=>∃ t,u=Value.int i t
 | .str x,u=>∃ t,u=Value.str x t
 | .byt b,u=>∃ t,u=Value.bytes b t
 | .flt b,u=>∃ t,u=Value.float b t
 | .ref a,u=>u=Value.ref a
 | .ty n,u=>u=Value.type n
abbrev Vals:List V→List Value→Prop:=Paired RelV
theorem Vals.length {xs:List V} {us:List Value} (r:Vals xs us):xs.length=us.length:=Paired.length r
theorem Vals.get:∀ {xs:List V} {us:List Value} {i:Nat} {x:V},Vals xs us→xs[i]?=some x→∃ u,us[i]?=some u∧RelV x u
 | _,_,_,_,.nil,e=>by simp at e
 | _,_,0,_,.cons r _,e=>by simp at e; subst e; exact ⟨_,rfl,r⟩
 | _,_,i + 1,x,.cons _ t,e=>by
  obtain ⟨u,h1,h2⟩:=Vals.get (i:=i) (x:=x) t (by simpa using e)
  exact ⟨u,by simpa using h1,h2⟩
theorem Vals.set {x:V} {u:Value} (r:RelV x u):∀ {xs:List V} {us:List Value} (i:Nat),Vals xs us→Vals (xs.set i x) (us.set i u)
 | _,_,_,.nil=>.nil
 | _,_,0,.cons _ t=>.cons r t
 | _,_,i + 1,.cons q t=>.cons q (Vals.set r i t)
theorem Vals.append:∀ {xs ys:List V} {us ws:List Value},Vals xs us→Vals ys ws→Vals (xs ++ ys) (us ++ ws)
 | _,_,_,_,.nil,s=>s
 | _,_,_,_,.cons r t,s=>.cons r (Vals.append t s)
theorem Vals.take:∀ {xs:List V} {us:List Value} (n:Nat),Vals xs us→Vals (xs.take n) (us.take n)
 | _,_,0,_=>.nil
 | _,_,_ + 1,.nil=>.nil
 | _,_,n + 1,.cons r t=>.cons r (Vals.take n t)
theorem Vals.drop:∀ {xs:List V} {us:List Value} (n:Nat),Vals xs us→Vals (xs.drop n) (us.drop n)
 | _,_,0,r=>r
 | _,_,_ + 1,.nil=>.nil
 | _,_,n + 1,.cons _ t=>Vals.drop n t
def RelO:Option V→Option Value→Prop
 | some v,some u=>RelV v u
 | none,none=>True
 | _,_=>False
def KV {κ:Type}:List (κ × V)→List (κ × Value)→Prop:=Paired fun (p:κ × V) (q:κ × Value)=>p.1=q.1∧RelV p.2 q.2
def kV:Key→V
 | .inl i=>.int i
 | .inr x=>.str x
inductive HO where
 /-- a list -/
 | lst (xs:List V)
 /-- a tuple (never changes) -/
 | tup (xs:List V)
 /-- a dict whose keys are ints and texts; one whose keys are tuples of ints and texts (the empty one is both) -/
 | dK (kvs:List (Key × V)) | dT (kvs:List (List Key × V))
 /-- a set of ints: its members,its size -/
 | set (S:Int→Bool) (n:Nat)
 /-- an instance of the class at C,its dict at dx,its attributes -/
 | ins (C dx:Addr) (fs:List (Str × V))
 /-- the dict of the instance at x -/
 | own (x:Addr)
 /-- the dict of an exception -/
 | xd (fs:List (Str × V))
 /-- a bound method,f of x -/
 | met (f x:Addr)
 /-- a range object lo,lo + 1,.. below hi -/
 | rng (lo hi:Int)
 /-- a thing that is known to the object (the script; a dict while a loop walks it): read,never written while it is so -/
 | frz (o:Obj) (u:HO)
 /-- a code object's table -/
 | tbl (ps:Array Value)
 /-- any other thing,by what is true of its one object (a def of one's own: SetO a S n:=HO.ext fun h=>..) -/
 | ext (φ:Heap→Prop)
abbrev Hp:=Addr→Option HO
def upd (H:Hp) (a:Addr) (o:HO):Hp:=fun b=>if b=a then some o else H b
theorem upd_same {H:Hp} {a:Addr} {o:HO}:upd H a o a=some o:=by unfold upd; rw [if_pos rfl]
theorem upd_ne {H:Hp} {a b:Addr} {o:HO} (h:b≠a):upd H a o b=H b:=by unfold upd; rw [if_neg h]
theorem upd_upd {H:Hp} {a:Addr} {o u:HO}:upd (upd H a o) a u=upd H a u:=by
 funext b; unfold upd; split <;> rfl
theorem ne_of {H:Hp} {a b:Addr} {o u:HO} (h:H a=some o) (h':H b=some u) (d:o≠u):a≠b:=by
 intro e; subst e; rw [h] at h'; exact d (Option.some.inj h')
theorem ne_of_none {H:Hp} {a b:Addr} {o:HO} (h:H a=some o) (h':H b=none):a≠b:=by
 intro e; subst e; rw [h] at h'; cases h'
section
variable (P:Program) (w:World)
def ObjOk (H:Hp) (h:Heap) (a:Addr):HO→Prop
 | .lst xs=>xs.length≤sizeLine∧∃ (its:List Value) (n:Nat),Vals xs its∧h.get? a=some { cls:=.type "list",data:=.seq its.toArray n }
 | .tup xs=>xs.length≤sizeLine∧∃ its:List Value,Vals xs its∧IsTup h a its.toArray
 | .dK kvs=>kvs.length≤sizeLine∧(a == sysModules)=false∧∃ vs,KV kvs vs∧h.DictOf (mixKind P w) a vs
 | .dT kvs=>kvs.length≤sizeLine∧(a == sysModules)=false∧∃ xs:List (List Key × Addr × Value),
   Paired (fun (p:List Key × V) (q:List Key × Addr × Value)=>p.1=q.1∧H q.2.1=some (.tup (p.1.map kV))∧RelV p.2 q.2.2) kvs xs ∧
   ∃ o es ep,h.get? a=some o∧o.ExactDict∧o.data=.dict es ep∧es.toList=xs.map (entryOfKey (tupleKind (mixKind P w)))∧(xs.map (·.1)).Nodup
 | .set S n=>h.SetOf (intKind P w) a S n
 | .ins C dx fs=>H dx=some (.own a)∧fs.length≤1000∧dx≠a∧h.get? a=some (PySem.W.instObj C dx) ∧
   ∃ mA,h.Ns1 dx mA∧(∀ f,RelO (fs.lookup f) (mA f))∧PySem.Within mA (fs.map (·.1))
 | .own _=>∃ o,h.get? a=some o
 | .xd fs=>∃ mA,h.Ns1 a mA∧∀ f,RelO (fs.lookup f) (mA f)
 | .rng lo hi=>∃ t u v,h.get? a=some { cls:=.type "range",data:=.fields #[.int lo t,.int hi u,.int 1 v] }
 | .frz o u=>h.get? a=some o∧ObjOk H h a u
 | .tbl ps=>h.get? a=some { cls:=.none,data:=.fields ps }
 | .met f x=>h.get? a=some (PySem.W.methodObj (.ref f) (.ref x))
 | .ext φ=>φ h∧(∃ o,h.get? a=some o)∧∀ h1 h2:Heap,φ h1→(∀ o,h1.get? a=some o→h2.get? a=some o)→φ h2
def HOk (H:Hp) (h:Heap):Prop:=∀ a o,H a=some o→ObjOk P w H h a o
end
section
variable {P:Program} {w:World} {H H':Hp} {h h':Heap} {a:Addr} {o:HO}
theorem ObjOk.lt (x:ObjOk P w H h a o):a < h.objs.size:=by
 cases o with
 | lst xs=>obtain ⟨_,_,_,_,e⟩:=x; exact Heap.lt_size e
 | tup xs=>obtain ⟨_,_,_,p⟩:=x; exact p.lt
 | dK kvs=>obtain ⟨_,_,_,_,o,_,_,e,_⟩:=x; exact Heap.lt_size e
 | dT kvs=>obtain ⟨_,_,_,_,o,_,_,e,_⟩:=x; exact Heap.lt_size e
 | set S n=>obtain ⟨o,_,_,_,e,_⟩:=x; exact Heap.lt_size e
 | ins C dx fs=>obtain ⟨_,_,_,e,_⟩:=x; exact Heap.lt_size e
 | own y=>obtain ⟨_,e⟩:=x; exact Heap.lt_size e
 | xd fs=>obtain ⟨_,⟨_,_,_,e,_⟩,_⟩:=x; exact Heap.lt_size e
 | rng lo hi=>obtain ⟨_,_,_,e⟩:=x; exact Heap.lt_size e
 | frz ob u=>obtain ⟨e,_⟩:=x; exact Heap.lt_size e
 | tbl ps=>exact Heap.lt_size (show h.get? a=some _ from x)
 | met f y=>exact Heap.lt_size (show h.get? a=some _ from x)
 | ext φ=>obtain ⟨_,⟨_,e⟩,_⟩:=x; exact Heap.lt_size e
theorem Paired.mapP {α β:Type} {F G:α→β→Prop}:∀ {l₁:List α} {l₂:List β},Paired F l₁ l₂→(∀ a b,F a b→G a b)→Paired G l₁ l₂
 | _,_,.nil,_=>.nil
 | _,_,.cons r t,f=>.cons (f _ _ r) (Paired.mapP t f)
theorem ObjOk.stay (x:ObjOk P w H h a o) (k:∀ b u,(b=a∨H b=some (.own a))→h.get? b=some u→h'.get? b=some u)
  (ho:∀ b,H b=some (.own a)→H' b=some (.own a)) (ht:∀ b xs,H b=some (.tup xs)→H' b=some (.tup xs)):ObjOk P w H' h' a o:=by
 induction o with
 | lst xs=>obtain ⟨z,its,n,r,e⟩:=x; exact ⟨z,its,n,r,k _ _ (.inl rfl) e⟩
 | tup xs=>obtain ⟨z,its,r,ob,e,c⟩:=x; exact ⟨z,its,r,ob,k _ _ (.inl rfl) e,c⟩
 | dK kvs=>obtain ⟨z,y,vs,r,ob,es,ep,e,c⟩:=x; exact ⟨z,y,vs,r,ob,es,ep,k _ _ (.inl rfl) e,c⟩
 | dT kvs =>
  obtain ⟨z,y,xs,r,ob,es,ep,e,c⟩:=x
  exact ⟨z,y,xs,Paired.mapP r fun p q z=>⟨z.1,ht _ _ z.2.1,z.2.2⟩,ob,es,ep,k _ _ (.inl rfl) e,c⟩
 | set S n=>obtain ⟨ob,es,ep,t,e,c⟩:=x; exact ⟨ob,es,ep,t,k _ _ (.inl rfl) e,c⟩
 | ins C dx fs =>
  obtain ⟨d,z,ne,e,mA,⟨od,es,ep,e2,c⟩,r⟩:=x
  exact ⟨ho _ d,z,ne,k _ _ (.inl rfl) e,mA,⟨od,es,ep,k _ _ (.inr d) e2,c⟩,r⟩
 | own y=>obtain ⟨ob,e⟩:=x; exact ⟨ob,k _ _ (.inl rfl) e⟩
 | xd fs=>obtain ⟨mA,⟨od,es,ep,e,c⟩,r⟩:=x; exact ⟨mA,⟨od,es,ep,k _ _ (.inl rfl) e,c⟩,r⟩
 | rng lo hi=>obtain ⟨t,u,v,e⟩:=x; exact ⟨t,u,v,k _ _ (.inl rfl) e⟩
 | frz ob u ih=>obtain ⟨e,q⟩:=x; exact ⟨k _ _ (.inl rfl) e,ih q⟩
 | tbl ps =>
  have e:h.get? a=some { cls:=.none,data:=.fields ps }:=x
  show h'.get? a=some { cls:=.none,data:=.fields ps }
  exact k a _ (.inl rfl) e
 | met f y =>
  have e:h.get? a=some (PySem.W.methodObj (.ref f) (.ref y)):=x
  show h'.get? a=some (PySem.W.methodObj (.ref f) (.ref y))
  exact k a _ (.inl rfl) e
 | ext φ=>obtain ⟨p,⟨o,e⟩,st⟩:=x; exact ⟨st _ _ p fun o q=>k _ _ (.inl rfl) q,⟨o,k _ _ (.inl rfl) e⟩,st⟩
theorem HOk.lt (x:HOk P w H h) (e:H a=some o):a < h.objs.size:=(x a o e).lt
theorem HOk.fresh (x:HOk P w H h) (e:h.objs.size≤a):H a=none:=by
 cases q:H a with
 | none=>rfl
 | some u=>exact absurd (Nat.lt_of_lt_of_le (x.lt q) e) (Nat.lt_irrefl _)
theorem HOk.kept (x:HOk P w H h) (k:∀ b u,h.get? b=some u→h'.get? b=some u):HOk P w H h':=fun a o e =>
 (x a o e).stay (fun b u _ q=>k b u q) (fun _ q=>q) fun _ _ q=>q
theorem HOk.laid (x:HOk P w H h) (k:∀ b u,h.get? b=some u→h'.get? b=some u) (hp:h.objs.size≤a) (new:ObjOk P w (upd H a o) h' a o):HOk P w (upd H a o) h':=fun b u e=>by
 have hn:=x.fresh hp
 by_cases hb:b=a
 ·subst hb; rw [upd_same] at e; cases e; exact new
 ·rw [upd_ne hb] at e
  exact (x b u e).stay (fun c v _ q=>k c v q) (fun c q=>by rw [upd_ne (ne_of_none q hn)]; exact q) fun c xs q=>by rw [upd_ne (ne_of_none q hn)]; exact q
end
def Rd (H:Hp) (a:Addr) (u:HO):Prop:=H a=some u∨∃ o,H a=some (.frz o u)
theorem Rd.ok {P:Program} {w:World} {H:Hp} {h:Heap} {a:Addr} {u:HO} (r:Rd H a u) (x:HOk P w H h):ObjOk P w H h a u:=by
 rcases r with r | ⟨o,r⟩
 ·exact x a u r
 ·obtain ⟨_,q⟩:=x a _ r
  exact q
def Mut:Option HO→Prop
 | some (.lst _)=>True
 | some (.dK _)=>True
 | some (.dT _)=>True
 | some (.set _ _)=>True
 | some (.ins _ _ _)=>True
 | some (.ext _)=>True
 | _=>False
section
variable {P:Program} {w:World} {H:Hp} {h h':Heap} {x e:Addr} {o':HO}
theorem HOk.write (ok:HOk P w H h) (mu:Mut (H x)) (he:e=x∨H e=some (.own x)) (k:∀ b u,b≠e→h.get? b=some u→h'.get? b=some u) (heo:∃ u,h'.get? e=some u)
  (new:ObjOk P w (upd H x o') h' x o'):HOk P w (upd H x o') h':=fun b u q=>by
 have nown:∀ c y,H c=some (.own y)→c≠x:=fun c y r z=>by subst z; rw [r] at mu; exact mu
 have ntup:∀ c xs,H c=some (.tup xs)→c≠x:=fun c xs r z=>by subst z; rw [r] at mu; exact mu
 by_cases hb:b=x
 ·subst hb; rw [upd_same] at q; cases q; exact new
 ·rw [upd_ne hb] at q
  by_cases hbe:b=e
  ·have q':H b=some (.own x):=by
    rcases he with z | z
    ·exact absurd (hbe.trans z) hb
    ·rw [hbe]; exact z
   rw [q] at q'; cases q'
   obtain ⟨v,hv⟩:=heo
   exact ⟨v,by rw [hbe]; exact hv⟩
  ·refine (ok b u q).stay (fun c v hc r=>k c v ?_ r) (fun c r=>by rw [upd_ne (nown c b r)]; exact r) fun c xs r=>by rw [upd_ne (ntup c xs r)]; exact r
   rcases hc with rfl | hc
   ·exact hbe
   ·rintro rfl
    rcases he with z | z
    ·exact nown c b hc z
    ·rw [hc] at z; cases z; exact hb rfl
end
structure Un (fs ex:List Addr) (H H':Hp) (h h':Heap):Prop where
 keep:∀ b o,h.get? b=some o→H b=none→b ∉ fs→b ∉ ex→h'.get? b=some o
 slot:∀ b o,h.get? b=some o→H b=none→b ∈ fs→b ∉ ex→∃ sl,h'.get? b=some { o with slots:=sl }
 free:∀ b o,h.get? b=some o→H b=none→b ∉ ex→H' b=none
 there:∀ b o,h.get? b=some o→b ∉ ex→∃ o',h'.get? b=some o'
 tups:∀ b xs,H b=some (.tup xs)→H' b=some (.tup xs)
 frzs:∀ b o u,H b=some (.frz o u)→H' b=some (.frz o u)
 tbls:∀ b ps,H b=some (.tbl ps)→∃ more,H' b=some (.tbl (ps ++ more))
section
variable {fs fs' ex ex':List Addr} {H H1 H2:Hp} {h h1 h2 h':Heap} {a x e:Addr} {o:HO}
theorem Un.any (u:Un fs ex H H1 h h1) {b:Addr} {ob:Obj} (q:h.get? b=some ob) (n:H b=none) (hx:b ∉ ex):∃ sl,h1.get? b=some { ob with slots:=sl }:=by
 by_cases hb:b ∈ fs
 ·exact u.slot b ob q n hb hx
 ·exact ⟨ob.slots,u.keep b ob q n hb hx⟩
theorem Un.kept (k:∀ b u,h.get? b=some u→h'.get? b=some u):Un fs ex H H h h' :=
 ⟨fun b ob q _ _ _=>k b ob q,fun b ob q _ _ _=>⟨ob.slots,k b ob q⟩,fun _ _ _ n _=>n,fun b ob q _=>⟨ob,k b ob q⟩,fun _ _ q=>q,fun _ _ _ q=>q,fun _ ps q=>⟨#[],by rw [q]; simp⟩⟩
theorem Un.refl:Un fs ex H H h h:=Un.kept fun _ _ q=>q
theorem Un.laid (k:∀ b u,h.get? b=some u→h'.get? b=some u) (hp:h.objs.size≤a) (hn:H a=none):Un fs ex H (upd H a o) h h' where
 keep:=fun b u q _ _ _=>k b u q
 slot:=fun b u q _ _ _=>⟨u.slots,k b u q⟩
 free:=fun b u q n _=>by rw [upd_ne (Nat.ne_of_lt (Nat.lt_of_lt_of_le (Heap.lt_size q) hp))]; exact n
 there:=fun b u q _=>⟨u,k b u q⟩
 tups:=fun b xs q=>by rw [upd_ne (ne_of_none q hn)]; exact q
 frzs:=fun b u xs q=>by rw [upd_ne (ne_of_none q hn)]; exact q
 tbls:=fun b ps q=>⟨#[],by rw [upd_ne (ne_of_none q hn),q]; simp⟩
theorem Un.write (mu:Mut (H x)) (he:e=x∨H e=some (.own x)) (k:∀ b u,b≠e→h.get? b=some u→h'.get? b=some u) (heo:∃ u,h'.get? e=some u):Un fs ex H (upd H x o) h h':=by
 have hx:∀ b,H b=none→b≠x:=fun b n z=>by subst z; rw [n] at mu; exact mu
 have hb:∀ b,H b=none→b≠e:=fun b n z=>by
  subst z
  rcases he with r | r
  ·exact hx b n r
  ·rw [n] at r; cases r
 have hm:∀ b u,H b=some u→¬ Mut (some u)→b≠x:=fun b u q nm z=>by subst z; rw [q] at mu; exact nm mu
 refine ⟨fun b u q n _ _=>k b u (hb b n) q,fun b u q n _ _=>⟨u.slots,k b u (hb b n) q⟩,fun b u q n _=>by rw [upd_ne (hx b n)]; exact n,fun b u q _=>?_,
  fun b xs q=>by rw [upd_ne (hm b _ q fun z=>z)]; exact q,fun b u xs q=>by rw [upd_ne (hm b _ q fun z=>z)]; exact q,fun b ps q=>⟨#[],by rw [upd_ne (hm b _ q fun z=>z),q]; simp⟩⟩
 by_cases hbe:b=e
 ·subst hbe; exact heo
 ·exact ⟨u,k b u hbe q⟩
end
def trk (h:Heap) (H:Hp):List Addr:=(List.range h.objs.size).filter fun a=>(H a).isSome
def hidT (h:Heap) (H:Hp):Heap:=PySem.W.hideAll h (trk h H)
theorem hidT_size (h:Heap) (H:Hp):(hidT h H).objs.size=h.objs.size:=PySem.W.hideAll_size _ _
theorem hidT_get {h:Heap} {H:Hp} {b:Addr} {o:Obj} (e:h.get? b=some o) (n:H b=none):(hidT h H).get? b=some o :=
 PySem.W.hideAll_get _ e fun hm=>by
  have q:(H b).isSome=true:=(List.mem_filter.mp hm).2
  rw [n] at q; simp at q
theorem of_hidT {h:Heap} {H:Hp} {b:Addr} {o:Obj} (e:(hidT h H).get? b=some o):h.get? b=some o∧H b=none:=by
 have e':h.get? b=some o:=PySem.W.of_hideAll (trk h H) e
 refine ⟨e',?_⟩
 cases q:H b with
 | none=>rfl
 | some x =>
  have hm:b ∈ trk h H:=List.mem_filter.mpr ⟨List.mem_range.mpr (Heap.lt_size e'),by simp [q]⟩
  have z:(hidT h H).get? b=none:=PySem.W.hideAll_none (trk h H) hm
  rw [z] at e; cases e
def allNews (g h:Heap) (L:Addr):List (Addr × Obj):=(List.range h.objs.size).filterMap fun a=>if a=L∨(g.get? a).isSome=true then none else (h.get? a).map fun o=>(a,o)
def rest (g h:Heap) (L d:Addr):List (Addr × Obj):=(allNews g h L).filter fun p=>decide (p.1≠d)
end L2
namespace L2
open PySem PySem.Spec PyProof.Rows
structure Mod (K:PySem.W.Frag) (mg:Str→Option Value) (base:Heap):Prop where
 kin:K.In base
 glob:base.Ns mainGlobals mg
 blt:∃ mb,base.Ns builtinsNs mb∧∀ x:Str,x≠"__name__"→mb x=bootBuiltins x
 nolimit:base.NoLimit
structure Cx where
 prog:Program
 w:World
 K:PySem.W.Frag
 mg:Str→Option Value
 base:Heap
 A:Around
 N:List Str
 s_0:Shared
 H_0:Hp
 env:Env
 outer:List Env
 stack:List Env
 ex:List Addr
 fn:Str→Bool
 calm:Bool
 pn:List (Addr × Obj)
 xe:Value→Shared→Prop
def frs (l:List Env):List Addr:=l.filterMap (·.frame)
abbrev Cx.fs (X:Cx):List Addr:=frs X.outer
def Vis (sc:Scope) (x:Str):Prop:=sc.names.lookup x=some .local∨sc.names.lookup x=some .cell∨sc.names.lookup x=some .free
def Loc (sc:Scope) (x:Str):Prop:=sc.names.lookup x=some .local∨sc.names.lookup x=some .cell
def Look (env:Env) (h:Heap) (m:Str→Option Value) (x:Str) (u:Value):Prop :=
 (env.kindOf x=some .local∧m x=some u)∨((env.kindOf x=some .cell∨env.kindOf x=some .free)∧∃ c,env.cells.lookup x=some c∧h.IsCell c (some u))
structure Cx.Ok (X:Cx):Prop where
 mod:Mod X.K X.mg X.base
 kind:X.env.scope.kind=.function
 glob:X.env.globals=mainGlobals
 blt:X.env.builtins=builtinsNs
 above:X.s_0.heap.objs.size≤X.env.locals
 inj:∀ x y c,X.env.cells.lookup x=some c→X.env.cells.lookup y=some c→x=y
 has:∀ x,(X.env.kindOf x=some .cell∨X.env.kindOf x=some .free)→∃ c,X.env.cells.lookup x=some c
 cab:∀ x c,X.fn x=true→X.env.cells.lookup x=some c→X.s_0.heap.objs.size≤c
 hd:X.calm=true→X.A.handled=none
 frames:X.A.frames=some X.stack
 stk:X.stack=X.outer∨(X.stack=X.env :: X.outer∧X.env.frame=some X.env.locals)
 exf:∀ b ∈ X.ex,b≠X.env.locals∧∀ x c,X.env.cells.lookup x=some c→c≠b
 bs:∀ b o,X.base.get? b=some o→X.s_0.heap.get? b=some o∧X.H_0 b=none
 bsz:X.base.objs.size≤X.s_0.heap.objs.size
 noex:∀ b o,X.base.get? b=some o→b ∉ X.ex
 exfs:∀ b ∈ X.ex,b ∉ X.fs
 funs:X.s_0.heap.FunFrames X.base X.outer
 frf:∀ b ∈ X.fs,X.H_0 b=none
structure Inv (X:Cx) (pins:List (Addr × Obj)) (σ:List (Option V)) (H:Hp) (s:Shared):Prop where
 ok:X.Ok
 os:s.os=X.s_0.os
 bare:AllBare s.gens
 base:Un X.fs X.ex X.H_0 H X.s_0.heap s.heap
 loc:∃ m,s.heap.Ns X.env.locals m∧∀ (i:Nat) (x:Str) (v:V),X.N[i]?=some x→σ[i]?=some (some v)→Vis X.env.scope x→∃ u,RelV v u∧Look X.env s.heap m x u
 cell:∀ x c,X.env.cells.lookup x=some c→∃ v,s.heap.IsCell c v
 free:H X.env.locals=none
 freeC:∀ x c,X.env.cells.lookup x=some c→H c=none
 pin:∀ p ∈ X.pn ++ pins,s.heap.get? p.1=some p.2∧H p.1=none∧p.1≠X.env.locals∧p.1 ∉ X.fs∧∀ v,p.2.data≠.cell v
 hok:HOk X.prog X.w H s.heap
 len:σ.length=X.N.length
section
variable {X:Cx} {pins:List (Addr × Obj)} {σ:List (Option V)} {H H':Hp} {s:Shared} {h':Heap}
theorem Cx.Ok.nofr (ok:X.Ok) {b:Addr} {o:Obj} (e:X.base.get? b=some o):b ∉ X.fs:=fun hb=>by
 have:=(ok.funs.mem hb).1
 rw [e] at this; cases this
theorem Inv.bs (I:Inv X pins σ H s):∀ b o,X.base.get? b=some o→s.heap.get? b=some o∧H b=none:=fun b o e =>
 ⟨I.base.keep b o (I.ok.bs b o e).1 (I.ok.bs b o e).2 (I.ok.nofr e) (I.ok.noex b o e),I.base.free b o (I.ok.bs b o e).1 (I.ok.bs b o e).2 (I.ok.noex b o e)⟩
theorem Inv.bk (I:Inv X pins σ H s):∀ b o,X.base.get? b=some o→s.heap.get? b=some o:=fun b o e=>(I.bs b o e).1
theorem Inv.mod (I:Inv X pins σ H s):Mod X.K X.mg X.base:=I.ok.mod
theorem Inv.kIn (I:Inv X pins σ H s):X.K.In s.heap:=I.ok.mod.kin.keeps I.bk
theorem Inv.fr (I:Inv X pins σ H s):∃ m,Fr X.base X.env.locals s.heap m :=
 let ⟨m,hn,_⟩:=I.loc
 ⟨m,hn,I.bk,Nat.le_trans I.ok.bsz I.ok.above⟩
theorem Inv.lt (I:Inv X pins σ H s):X.env.locals < s.heap.objs.size:=let ⟨_,hn,_⟩:=I.loc; hn.lt
theorem Inv.sz (I:Inv X pins σ H s):X.s_0.heap.objs.size≤s.heap.objs.size:=Nat.le_trans I.ok.above (Nat.le_of_lt I.lt)
theorem Inv.nofs (I:Inv X pins σ H s) {a:Addr} (h:s.heap.objs.size≤a):a ∉ X.fs:=fun hb=>by
 obtain ⟨_,o,ho,_⟩:=I.ok.funs.mem hb
 exact absurd (Nat.lt_of_lt_of_le (Heap.lt_size ho) (Nat.le_trans I.sz h)) (Nat.lt_irrefl _)
theorem Inv.cne (I:Inv X pins σ H s):∀ x c,X.env.cells.lookup x=some c→c≠X.env.locals:=fun x c e z=>by
 obtain ⟨v,o,ho,hd⟩:=I.cell x c e
 obtain ⟨m,⟨o',es,ep,ho',hd',_⟩,_⟩:=I.loc
 rw [z,ho'] at ho; cases ho; rw [hd'] at hd; cases hd
theorem Inv.funs (I:Inv X pins σ H s):s.heap.FunFrames X.base X.outer:=by
 have all:∀ (l:List Env),(∀ b ∈ frs l,b ∈ X.fs)→X.s_0.heap.FunFrames X.base l→s.heap.FunFrames X.base l:=by
  intro l
  induction l with
  | nil=>intro _ _; trivial
  | cons env r ih =>
   intro hs hl
   obtain ⟨hk,⟨L,o,hf,hn,ho,hd⟩,hr⟩:=hl
   have hL:L ∈ X.fs:=hs L (by unfold frs; rw [List.filterMap_cons,hf]; exact List.mem_cons_self)
   obtain ⟨sl,e⟩:=I.base.slot L o ho (I.ok.frf L hL) hL fun z=>I.ok.exfs L z hL
   exact ⟨hk,⟨L,_,hf,hn,e,hd⟩,ih (fun b hb=>hs b (by unfold frs; rw [List.filterMap_cons,hf]; exact List.mem_cons_of_mem _ hb)) hr⟩
 exact all X.outer (fun _ hb=>hb) I.ok.funs
theorem Inv.stack (I:Inv X pins σ H s):s.heap.FunFrames X.base X.stack:=by
 rcases I.ok.stk with e | ⟨e,hf⟩
 ·rw [e]; exact I.funs
 ·rw [e]
  obtain ⟨m,hn,_⟩:=I.loc
  refine .cons (by rw [I.ok.kind]; decide) hf hn ?_ I.funs
  exact Heap.get?_none_of_le (Nat.le_trans I.ok.bsz I.ok.above)
theorem Inv.stkSub (I:Inv X pins σ H s):∀ b ∈ frs X.stack,b ∈ X.env.locals :: X.fs:=fun b hb=>by
 rcases I.ok.stk with e | ⟨e,hf⟩
 ·rw [e] at hb; exact List.mem_cons_of_mem _ hb
 ·rw [e] at hb
  unfold frs at hb
  rw [List.filterMap_cons,hf] at hb
  exact hb
theorem Inv.stkFree (I:Inv X pins σ H s):∀ b ∈ frs X.stack,H b=none:=fun b hb=>by
 rcases List.mem_cons.mp (I.stkSub b hb) with e | hb
 ·rw [e]; exact I.free
 ·obtain ⟨_,o,ho,_⟩:=I.ok.funs.mem hb
  exact I.base.free b o ho (I.ok.frf b hb) fun z=>I.ok.exfs b z hb
theorem Inv.step {g':Array GenState} {t':Nat} {d':Drawn} {ch:List Addr} (I:Inv X pins σ H s)
  (hch:∀ b ∈ ch,(b ∈ X.ex∨X.s_0.heap.objs.size≤b)∧b≠X.env.locals∧(∀ x c,X.env.cells.lookup x=some c→c≠b)∧∀ p ∈ X.pn ++ pins,p.1≠b)
  (keep:∀ b o,b≠X.env.locals→b ∉ X.fs→b ∉ ch→s.heap.get? b=some o→H b=none→h'.get? b=some o)
  (slot:∀ b o,b≠X.env.locals→b ∈ X.fs→b ∉ ch→s.heap.get? b=some o→H b=none→∃ sl,h'.get? b=some { o with slots:=sl }) (free:∀ b o,b ∉ ch→s.heap.get? b=some o→H b=none→H' b=none)
  (there:∀ b o,b ∉ ch→s.heap.get? b=some o→∃ o',h'.get? b=some o')
  (tups:∀ b xs,H b=some (.tup xs)→H' b=some (.tup xs)) (frzs:∀ b o u,H b=some (.frz o u)→H' b=some (.frz o u)) (tbls:∀ b ps,H b=some (.tbl ps)→∃ more,H' b=some (.tbl (ps ++ more)))
  (ns:∀ m,s.heap.Ns X.env.locals m→h'.Ns X.env.locals m) (hok:HOk X.prog X.w H' h') (hg:AllBare g') :
  Inv X pins σ H' { s with heap:=h',gens:=g',drawn:=d',toks:=t' }:=by
 have neL:∀ b o,X.s_0.heap.get? b=some o→b≠X.env.locals:=fun b o e=>Nat.ne_of_lt (Nat.lt_of_lt_of_le (Heap.lt_size e) I.ok.above)
 have neC:∀ b o,X.s_0.heap.get? b=some o→b ∉ X.ex→b ∉ ch:=fun b o e hx hb=>by
  rcases (hch b hb).1 with z | z
  ·exact hx z
  ·exact absurd (Nat.lt_of_lt_of_le (Heap.lt_size e) z) (Nat.lt_irrefl _)
 have cellK:∀ x c,X.env.cells.lookup x=some c→∀ v,s.heap.IsCell c v→h'.IsCell c v:=fun x c e v ⟨o,ho,hd⟩=>by
  have nch:c ∉ ch:=fun z=>(hch c z).2.2.1 x c e rfl
  by_cases hc:c ∈ X.fs
  ·obtain ⟨sl,q⟩:=slot c o (I.cne x c e) hc nch ho (I.freeC x c e)
   exact ⟨_,q,hd⟩
  ·exact ⟨o,keep c o (I.cne x c e) hc nch ho (I.freeC x c e),hd⟩
 refine ⟨I.ok,I.os,hg,⟨fun b o e n hb hx=>?_,fun b o e n hb hx=>?_,fun b o e n hx=>?_,fun b o e hx=>?_,fun b xs e=>tups b xs (I.base.tups b xs e),fun b o xs e=>frzs b o xs (I.base.frzs b o xs e),fun b ps e=>?_⟩,?_,fun x c e=>?_,?_,fun x c e=>?_,fun p hp=>?_,hok,I.len⟩
 ·exact keep b o (neL b o e) hb (neC b o e hx) (I.base.keep b o e n hb hx) (I.base.free b o e n hx)
 ·obtain ⟨sl,e1⟩:=I.base.slot b o e n hb hx
  obtain ⟨sl',e2⟩:=slot b _ (neL b o e) hb (neC b o e hx) e1 (I.base.free b o e n hx)
  exact ⟨sl',e2⟩
 ·obtain ⟨o',e1⟩:=I.base.there b o e hx
  exact free b o' (neC b o e hx) e1 (I.base.free b o e n hx)
 ·obtain ⟨o',e1⟩:=I.base.there b o e hx
  exact there b o' (neC b o e hx) e1
 ·obtain ⟨m1,e1⟩:=I.base.tbls b ps e
  obtain ⟨m2,e2⟩:=tbls b _ e1
  exact ⟨m1 ++ m2,by rw [e2,Array.append_assoc]⟩
 ·obtain ⟨m,hn,hl⟩:=I.loc
  refine ⟨m,ns m hn,fun i x v e1 e2 e3=>?_⟩
  obtain ⟨u,r,l⟩:=hl i x v e1 e2 e3
  refine ⟨u,r,?_⟩
  rcases l with l | ⟨k,c,e,z⟩
  ·exact .inl l
  ·exact .inr ⟨k,c,e,cellK x c e _ z⟩
 ·obtain ⟨v,z⟩:=I.cell x c e
  exact ⟨v,cellK x c e v z⟩
 ·obtain ⟨m,⟨o,_,_,ho,_⟩,_⟩:=I.loc
  exact free _ o (fun z=>(hch _ z).2.1 rfl) ho I.free
 ·obtain ⟨v,o,ho,hd⟩:=I.cell x c e
  exact free c o (fun z=>(hch c z).2.2.1 x c e rfl) ho (I.freeC x c e)
 ·obtain ⟨e,n,ne,nf,d⟩:=I.pin p hp
  have nch:p.1 ∉ ch:=fun z=>(hch p.1 z).2.2.2 p hp rfl
  exact ⟨keep p.1 p.2 ne nf nch e n,free p.1 p.2 nch e n,ne,nf,d⟩
theorem Inv.un {t':Nat} (I:Inv X pins σ H s) (u:Un X.fs [] H H' s.heap h') (hok:HOk X.prog X.w H' h'):Inv X pins σ H' { s with heap:=h',toks:=t' }:=by
 obtain ⟨m,⟨o,es,ep,ho,r⟩,_⟩:=id I.loc
 obtain ⟨sl,hL⟩:=u.any ho I.free (by simp)
 exact I.step (g':=s.gens) (d':=s.drawn) (ch:=[]) (fun _ z=>nomatch z) (fun b o _ hb _ e n=>u.keep b o e n hb (by simp)) (fun b o _ hb _ e n=>u.slot b o e n hb (by simp)) (fun b o _ e n=>u.free b o e n (by simp)) (fun b o _ e=>u.there b o e (by simp)) u.tups u.frzs u.tbls (fun m' hm=>by
  obtain ⟨o',es',ep',ho',r'⟩:=hm
  rw [ho] at ho'; cases ho'
  exact ⟨_,es',ep',hL,r'⟩) hok I.bare
theorem Inv.call {g':Array GenState} {t':Nat} {d':Drawn} {ch:List Addr} (I:Inv X pins σ H s) (u:Un (frs X.stack) ch H H' s.heap h') (hok:HOk X.prog X.w H' h') (hg:AllBare g')
  (hch:∀ b ∈ ch,(b ∈ X.ex∨X.s_0.heap.objs.size≤b)∧b≠X.env.locals∧(∀ x c,X.env.cells.lookup x=some c→c≠b)∧∀ p ∈ X.pn ++ pins,p.1≠b) :
  Inv X pins σ H' { s with heap:=h',gens:=g',drawn:=d',toks:=t' }:=by
 obtain ⟨m,⟨o,es,ep,ho,r⟩,_⟩:=id I.loc
 obtain ⟨sl,hL⟩:=u.any ho I.free fun z=>(hch _ z).2.1 rfl
 exact I.step (ch:=ch) hch (fun b o hL hb hc e n=>u.keep b o e n (fun z=>(List.mem_cons.mp (I.stkSub b z)).elim hL hb) hc) (fun b o _ _ hc e n=>u.any e n hc) (fun b o hc e n=>u.free b o e n hc) (fun b o hc e=>u.there b o e hc) u.tups u.frzs u.tbls (fun m' hm=>by
  obtain ⟨o',es',ep',ho',r'⟩:=hm
  rw [ho] at ho'; cases ho'
  exact ⟨_,es',ep',hL,r'⟩) hok hg
theorem Inv.turned {t':Nat} {it:Addr} (I:Inv X pins σ H s) (k:∀ b o,b≠it→s.heap.get? b=some o→h'.get? b=some o) (hn:H it=none) (hL:it≠X.env.locals)
  (h1:it ∈ X.ex∨X.s_0.heap.objs.size≤it) (h2:∀ x c,X.env.cells.lookup x=some c→c≠it) (h3:∀ p ∈ X.pn ++ pins,p.1≠it):Inv X pins σ H { s with heap:=h',toks:=t' }:=by
 have nit:∀ b u,H b=some u→b≠it:=fun b u e z=>by rw [z,hn] at e; cases e
 refine I.step (g':=s.gens) (d':=s.drawn) (ch:=[it]) (fun b hb=>?_) (fun b o _ _ hc e _=>k b o (fun z=>hc (by simp [z])) e) (fun b o _ _ hc e _=>⟨o.slots,k b o (fun z=>hc (by simp [z])) e⟩) (fun _ _ _ _ n=>n)
  (fun b o hc e=>⟨o,k b o (fun z=>hc (by simp [z])) e⟩) (fun _ _ e=>e) (fun _ _ _ e=>e) (fun b ps e=>⟨#[],by rw [e]; simp⟩) (fun m hm=>?_) (fun b u e=>?_) I.bare
 ·have e:b=it:=by simpa using hb
  subst e
  exact ⟨h1,hL,h2,h3⟩
 ·obtain ⟨o,es,ep,ho,r⟩:=hm
  exact ⟨o,es,ep,k _ o (Ne.symm hL) ho,r⟩
 ·refine (I.hok b u e).stay (fun c v hc q=>k c v ?_ q) (fun _ q=>q) fun _ _ q=>q
  rcases hc with z | z
  ·rw [z]; exact nit b u e
  ·exact nit c _ z
theorem Inv.tok (I:Inv X pins σ H s) (t:Nat):Inv X pins σ H { s with toks:=t }:=I.un (h':=s.heap) (t':=t) Un.refl I.hok
theorem Inv.kept {t':Nat} (I:Inv X pins σ H s) (k:∀ b u,s.heap.get? b=some u→h'.get? b=some u):Inv X pins σ H { s with heap:=h',toks:=t' }:=I.un (Un.kept k) (I.hok.kept k)
theorem Inv.laid {a:Addr} {o:HO} {t':Nat} (I:Inv X pins σ H s) (k:∀ b u,s.heap.get? b=some u→h'.get? b=some u) (hp:s.heap.objs.size≤a) (new:ObjOk X.prog X.w (upd H a o) h' a o) :
  Inv X pins σ (upd H a o) { s with heap:=h',toks:=t' }:=I.un (Un.laid k hp (I.hok.fresh hp)) (I.hok.laid k hp new)
theorem Inv.write {x e:Addr} {o:HO} {t':Nat} (I:Inv X pins σ H s) (mu:Mut (H x)) (he:e=x∨H e=some (.own x)) (k:∀ b u,b≠e→s.heap.get? b=some u→h'.get? b=some u) (heo:∃ u,h'.get? e=some u)
  (new:ObjOk X.prog X.w (upd H x o) h' x o):Inv X pins σ (upd H x o) { s with heap:=h',toks:=t' }:=I.un (Un.write mu he k heo) (I.hok.write mu he k heo new)
theorem Inv.weak {σ':List (Option V)} (I:Inv X pins σ H s) (hl:σ'.length=σ.length) (w:∀ (i:Nat) v,σ'[i]?=some (some v)→σ[i]?=some (some v)):Inv X pins σ' H s :=
 ⟨I.ok,I.os,I.bare,I.base,let ⟨m,hn,hl'⟩:=I.loc; ⟨m,hn,fun i x v e1 e2 e3=>hl' i x v e1 (w i v e2) e3⟩,I.cell,I.free,I.freeC,I.pin,I.hok,hl.trans I.len⟩
theorem Inv.pins_of {pins':List (Addr × Obj)} (I:Inv X pins σ H s) (h:∀ p ∈ pins',s.heap.get? p.1=some p.2∧H p.1=none∧p.1≠X.env.locals∧p.1 ∉ X.fs∧∀ v,p.2.data≠.cell v):Inv X pins' σ H s :=
 ⟨I.ok,I.os,I.bare,I.base,I.loc,I.cell,I.free,I.freeC,fun p hp=>(List.mem_append.mp hp).elim (fun z=>I.pin p (List.mem_append_left _ z)) (h p),I.hok,I.len⟩
theorem nodup_ix {N:List Str} (hN:N.Nodup) {i j:Nat} {x:Str} (a:N[i]?=some x) (b:N[j]?=some x):i=j:=by
 obtain ⟨h1,e1⟩:=List.getElem?_eq_some_iff.mp a
 obtain ⟨h2,e2⟩:=List.getElem?_eq_some_iff.mp b
 exact (List.getElem_inj hN).mp (e1.trans e2.symm)
theorem store_ok2 {M:Model} {A:Around} {E:Value→Shared→Prop} {i:Nat} {x:Str} {v:V} {u:Value} {Q:Unit→Shared→Prop} (I:Inv X pins σ H s) (hN:X.N.Nodup) (hi:X.N[i]?=some x) (hx:Loc X.env.scope x) (r:RelV v u)
  (h:∀ s',Inv X pins (σ.set i (some v)) H s'→(∃ a,Heap.SameBut a s.heap s'.heap∧(a=X.env.locals∨X.env.cells.lookup x=some a))→Q () s') (hf:X.fn x=true∨X.env.scope.names.lookup x=some .local:=by first | exact .inl rfl | exact .inr rfl | assumption):wpAny M A (storeName X.env x u) Q E s:=by
 obtain ⟨m,hn,hl⟩:=id I.loc
 have hcls:(X.env.scope.kind == .class || (X.env.scope.kind == .module && X.env.locals != X.env.globals))=false:=by rw [I.ok.kind]; rfl
 have hiσ:i < σ.length:=by rw [I.len]; exact (List.getElem?_eq_some_iff.mp hi).1
 have cne:=I.cne
 have tracked:∀ {a:Addr} {h':Heap},(∃ o,s.heap.get? a=some o∧H a=none)→Heap.SameBut a s.heap h'→HOk X.prog X.w H h':=fun {a h'} ha hs b ob e=>by
  obtain ⟨_,_,hfree⟩:=ha
  refine (I.hok b ob e).stay (fun c w' hc q=>(hs.2 c ?_).trans q) (fun _ q=>q) fun _ _ q=>q
  rintro rfl
  rcases hc with rfl | hc
  ·rw [hfree] at e; cases e
  ·rw [hfree] at hc; cases hc
 rcases hx with hk | hk
 ·refine wpAny_storeName_local hk hn (fun h' hn' hs=>?_) hcls
  obtain ⟨oL,_,_,hoL,_⟩:=id hn
  refine h _ ⟨I.ok,I.os,I.bare,⟨fun b o e n hb hx=>?_,fun b o e n hb hx=>?_,I.base.free,fun b o e hx=>?_,I.base.tups,I.base.frzs,I.base.tbls⟩,⟨_,hn',fun j y v' e1 e2 e3=>?_⟩,fun y c e=>?_,I.free,I.freeC,fun p hp=>?_,tracked ⟨oL,hoL,I.free⟩ hs,by simpa using I.len⟩ ⟨_,hs,.inl rfl⟩
  ·exact (hs.2 b (Nat.ne_of_lt (Nat.lt_of_lt_of_le (Heap.lt_size e) I.ok.above))).trans (I.base.keep b o e n hb hx)
  ·obtain ⟨sl,e1⟩:=I.base.slot b o e n hb hx
   exact ⟨sl,(hs.2 b (Nat.ne_of_lt (Nat.lt_of_lt_of_le (Heap.lt_size e) I.ok.above))).trans e1⟩
  ·obtain ⟨o',e1⟩:=I.base.there b o e hx
   exact ⟨o',(hs.2 b (Nat.ne_of_lt (Nat.lt_of_lt_of_le (Heap.lt_size e) I.ok.above))).trans e1⟩
  ·by_cases hj:j=i
   ·subst hj
    rw [hi] at e1; cases e1
    rw [List.getElem?_set_self hiσ] at e2
    cases e2
    exact ⟨u,r,.inl ⟨hk,by simp⟩⟩
   ·rw [List.getElem?_set_ne (Ne.symm hj)] at e2
    obtain ⟨u',r',q⟩:=hl j y v' e1 e2 e3
    refine ⟨u',r',?_⟩
    rcases q with ⟨k,e⟩ | ⟨k,c,e,z⟩
    ·refine .inl ⟨k,?_⟩
     have:y≠x:=fun e=>hj (nodup_ix hN e1 (e ▸ hi))
     simp [this,e]
    ·exact .inr ⟨k,c,e,z.sameBut hs (cne y c e)⟩
  ·obtain ⟨w',z⟩:=I.cell y c e
   exact ⟨w',z.sameBut hs (cne y c e)⟩
  ·obtain ⟨e,n,ne,nf,d⟩:=I.pin p hp
   exact ⟨(hs.2 p.1 ne).trans e,n,ne,nf,d⟩
 ·have hfn:X.fn x=true:=by
   rcases hf with z | z
   ·exact z
   ·rw [z] at hk; cases hk
  obtain ⟨c,hc⟩:=I.ok.has x (.inl hk)
  obtain ⟨w',z⟩:=I.cell x c hc
  refine wpAny_storeName_cell I.ok.kind hk hc z (fun h' hc' hs=>?_)
  obtain ⟨oc,hoc,hocd⟩:=id z
  refine h { s with heap:=h' } ⟨I.ok,I.os,I.bare,⟨fun b o e n hb hx=>?_,fun b o e n hb hx=>?_,I.base.free,fun b o e hx=>?_,I.base.tups,I.base.frzs,I.base.tbls⟩,⟨m,hn.sameBut hs (Ne.symm (cne x c hc)),fun j y v' e1 e2 e3=>?_⟩,fun y c' e=>?_,I.free,I.freeC,fun p hp=>?_,tracked ⟨oc,hoc,I.freeC x c hc⟩ hs,by simpa using I.len⟩ ⟨c,hs,.inr hc⟩
  ·exact (hs.2 b (Nat.ne_of_lt (Nat.lt_of_lt_of_le (Heap.lt_size e) (I.ok.cab x c hfn hc)))).trans (I.base.keep b o e n hb hx)
  ·obtain ⟨sl,e1⟩:=I.base.slot b o e n hb hx
   exact ⟨sl,(hs.2 b (Nat.ne_of_lt (Nat.lt_of_lt_of_le (Heap.lt_size e) (I.ok.cab x c hfn hc)))).trans e1⟩
  ·obtain ⟨o',e1⟩:=I.base.there b o e hx
   exact ⟨o',(hs.2 b (Nat.ne_of_lt (Nat.lt_of_lt_of_le (Heap.lt_size e) (I.ok.cab x c hfn hc)))).trans e1⟩
  ·by_cases hj:j=i
   ·subst hj
    rw [hi] at e1; cases e1
    rw [List.getElem?_set_self hiσ] at e2
    cases e2
    exact ⟨u,r,.inr ⟨.inl hk,c,hc,hc'⟩⟩
   ·rw [List.getElem?_set_ne (Ne.symm hj)] at e2
    obtain ⟨u',r',q⟩:=hl j y v' e1 e2 e3
    refine ⟨u',r',?_⟩
    rcases q with q | ⟨k,c',e,z'⟩
    ·exact .inl q
    ·refine .inr ⟨k,c',e,z'.sameBut hs ?_⟩
     rintro rfl
     exact hj (nodup_ix hN e1 (I.ok.inj _ _ _ e hc ▸ hi))
  ·by_cases hcc:c'=c
   ·subst hcc; exact ⟨_,hc'⟩
   ·obtain ⟨w2,z2⟩:=I.cell y c' e
    exact ⟨w2,z2.sameBut hs hcc⟩
  ·obtain ⟨e,n,ne,nf,d⟩:=I.pin p hp
   refine ⟨(hs.2 p.1 ?_).trans e,n,ne,nf,d⟩
   intro q
   rw [q,hoc] at e
   have q':oc=p.2:=Option.some.inj e
   exact d w' (by rw [← q']; exact hocd)
theorem store_ok {M:Model} {A:Around} {E:Value→Shared→Prop} {i:Nat} {x:Str} {v:V} {u:Value} {Q:Unit→Shared→Prop} (I:Inv X pins σ H s) (hN:X.N.Nodup) (hi:X.N[i]?=some x) (hx:Loc X.env.scope x) (r:RelV v u)
  (h:∀ s',Inv X pins (σ.set i (some v)) H s'→Q () s') (hf:X.fn x=true∨X.env.scope.names.lookup x=some .local:=by first | exact .inl rfl | exact .inr rfl | assumption):wpAny M A (storeName X.env x u) Q E s :=
 store_ok2 I hN hi hx r (fun s' I' _=>h s' I') hf
theorem Inv.call' {s':Shared} {ch:List Addr} (I:Inv X pins σ H s) (ho:s'.os=s.os) (u:Un (frs X.stack) ch H H' s.heap s'.heap) (hok:HOk X.prog X.w H' s'.heap) (hg:AllBare s'.gens)
  (hch:∀ b ∈ ch,(b ∈ X.ex∨X.s_0.heap.objs.size≤b)∧b≠X.env.locals∧(∀ x c,X.env.cells.lookup x=some c→c≠b)∧∀ p ∈ X.pn ++ pins,p.1≠b):Inv X pins σ H' s':=by
 obtain ⟨h',g',d',t',o'⟩:=s'
 have e:o'=s.os:=ho
 subst e
 exact I.call (g':=g') (t':=t') (d':=d') u hok hg hch
end
abbrev XK:=Value→Option Addr→Hp→Prop
abbrev St:=List (Option V)
abbrev VK:=V→Hp→Prop
abbrev TE:=St→Hp→VK→Prop
abbrev TT:=St→Hp→(Bool→Hp→Prop)→Prop
abbrev TA:=St→Hp→(List V→Hp→Prop)→Prop
structure Ends where
 nx:St→Hp→Prop
 rt:VK
 bk:St→Hp→Prop:=fun _ _=>False
 ct:St→Hp→Prop:=fun _ _=>False
abbrev TS:=Ends→St→Hp→Prop
def EP (X:Cx) (pins:List (Addr × Obj)) (σ:St) (Q:VK) (u:Value) (s':Shared):Prop:=∃ v H',Inv X pins σ H' s'∧RelV v u∧Q v H'
def TP (X:Cx) (pins:List (Addr × Obj)) (σ:St) (Q:Bool→Hp→Prop) (b:Bool) (s':Shared):Prop:=∃ H',Inv X pins σ H' s'∧Q b H'
def AP (X:Cx) (pins:List (Addr × Obj)) (σ:St) (Q:List V→Hp→Prop) (us:List Value) (s':Shared):Prop:=∃ vs H',Inv X pins σ H' s'∧Vals vs us∧Q vs H'
def SP (X:Cx) (pins:List (Addr × Obj)) (D:Ends) (f:Flow) (s':Shared):Prop :=
 match f with
 | .next=>∃ σ' H',Inv X pins σ' H' s'∧D.nx σ' H'
 | .brk=>∃ σ' H',Inv X pins σ' H' s'∧D.bk σ' H'
 | .cont=>∃ σ' H',Inv X pins σ' H' s'∧D.ct σ' H'
 | .ret u=>∃ v σ' H',Inv X pins σ' H' s'∧RelV v u∧D.rt v H'
def PE (X:Cx) (e:Expr) (t:TE):Prop :=
 ∀ (pins:List (Addr × Obj)) (s:Shared) (σ:St) (H:Hp) (Q:VK),Inv X pins σ H s→t σ H Q→wpAny (model X.prog X.w) X.A (eval e X.env) (EP X pins σ Q) X.xe s
def PT (X:Cx) (e:Expr) (t:TT):Prop :=
 ∀ (pins:List (Addr × Obj)) (s:Shared) (σ:St) (H:Hp) (Q:Bool→Hp→Prop),Inv X pins σ H s→t σ H Q→wpAny (model X.prog X.w) X.A (isTrue e X.env (eval e X.env)) (TP X pins σ Q) X.xe s
def PW (X:Cx) (e:Expr) (t:TT):Prop :=
 ∀ (whole:Sem Value) (pins:List (Addr × Obj)) (s:Shared) (σ:St) (H:Hp) (Q:Bool→Hp→Prop),Inv X pins σ H s→t σ H Q→wpAny (model X.prog X.w) X.A (isTrue e X.env whole) (TP X pins σ Q) X.xe s
theorem PW.pt {X:Cx} {e:Expr} {t:TT} (h:PW X e t):PT X e t:=h _
def PA (X:Cx) (es:List Expr) (t:TA):Prop :=
 ∀ (pos:Pos) (pins:List (Addr × Obj)) (s:Shared) (σ:St) (H:Hp) (Q:List V→Hp→Prop),Inv X pins σ H s→t σ H Q→wpAny (model X.prog X.w) X.A (spliced (backTo pos (starEach es X.env))) (AP X pins σ Q) X.xe s
def PS (X:Cx) (st:Stmt) (t:TS):Prop :=
 ∀ (pins:List (Addr × Obj)) (s:Shared) (σ:St) (H:Hp) (D:Ends),Inv X pins σ H s→t D σ H→wpAny (model X.prog X.w) X.A (exec st X.env) (SP X pins D) X.xe s
def PSs (X:Cx) (st:List Stmt) (t:TS):Prop :=
 ∀ (pins:List (Addr × Obj)) (s:Shared) (σ:St) (H:Hp) (D:Ends),Inv X pins σ H s→t D σ H→wpAny (model X.prog X.w) X.A (execs st X.env) (SP X pins D) X.xe s
theorem thn {α:Type} {t:Sem α} {Q Q':α→Shared→Prop} {M:Model} {A:Around} {E:Value→Shared→Prop} {s:Shared} (h:wpAny M A t Q E s) (hQ:∀ a s,Q a s→Q' a s):wpAny M A t Q' E s:=wpAny_mono h hQ fun _ _ x=>x
end L2
namespace L2
open PySem PySem.Spec PyProof.Rows
section
variable {X:Cx}
theorem bin {a b:Expr} {ta tb:TE} (ha:PE X a ta) (hb:PE X b tb) {pins:List (Addr × Obj)} {s:Shared} {σ:St} {H:Hp} {R:V→V→Hp→Prop} (I:Inv X pins σ H s) (h:ta σ H fun x H1=>tb σ H1 fun y H2=>R x y H2)
  {α:Type} {Q:α→Shared→Prop} {f:Value→Value→Sem α}
  (hf:∀ v u s2 x y H2,Inv X pins σ H2 s2→RelV x v→RelV y u→R x y H2→wpAny (model X.prog X.w) X.A (f v u) Q X.xe s2) :
  wpAny (model X.prog X.w) X.A (eval a X.env) (fun v s₁=>wpAny (model X.prog X.w) X.A (eval b X.env) (fun u s₂=>wpAny (model X.prog X.w) X.A (f v u) Q X.xe s₂) X.xe s₁) X.xe s:=by
 refine thn (ha pins s σ H _ I h) fun v s1 ⟨x,H1,I1,r1,q1⟩=>?_
 refine thn (hb pins s1 σ H1 _ I1 q1) fun u s2 ⟨y,H2,I2,r2,q2⟩=>?_
 exact hf v u s2 x y H2 I2 r1 r2 q2
def tVar (i:Nat):TE:=fun σ H Q=>∃ v,σ[i]?=some (some v)∧Q v H
def tC (v:V):TE:=fun _ H Q=>Q v H
theorem pe_var {i:Nat} {x:Str} {pos:Pos} (hN:X.N[i]?=some x) (hv:Vis X.env.scope x) (hd:(x == ("__debug__":Str))=false:=by decide) (hcd:(x == ("__classdict__":Str))=false:=by decide):PE X (.Name x pos) (tVar i):=by
 intro pins s σ H Q I h
 obtain ⟨v,e,h⟩:=h
 obtain ⟨m,hn,hl⟩:=I.loc
 obtain ⟨u,r,l⟩:=hl i x v hN e hv
 have fin:EP X pins σ Q u s:=⟨v,H,I,r,h⟩
 rcases l with ⟨hk,hm⟩ | ⟨hk,c,hc,hcell⟩
 ·exact wpAny_Name (wpAny_loadName_local I.ok.kind hk hn hm fin) hd
 ·rcases hk with hk | hk
  ·exact wpAny_Name (wpAny_loadName_cell I.ok.kind hk hc hcell fin) hd
  ·exact wpAny_Name (wpAny_loadName_free I.ok.kind hk hc hcell fin hcd) hd
theorem pe_int {i j pos}:PE X (.Constant (.int i) j pos) (tC (.int i)):=fun _ _ _ H _ I h=>wpAny_Constant_int ⟨.int i,H,I.tok _,⟨_,rfl⟩,h⟩
theorem pe_bl {b j pos}:PE X (.Constant (.bool b) j pos) (tC (.bl b)):=fun _ _ _ H _ I h=>Constant_bool ⟨.bl b,H,I,rfl,h⟩
theorem pe_non {j pos}:PE X (.Constant .none j pos) (tC .non):=fun _ _ _ H _ I h=>Constant_none ⟨.non,H,I,rfl,h⟩
theorem pe_str {x j pos}:PE X (.Constant (.str x) j pos) (tC (.str x)):=fun _ _ _ H _ I h=>Calls.Constant_str ⟨.str x,H,I.tok _,⟨_,rfl⟩,h⟩
def Gl (X:Cx) (x:Str):Prop:=X.env.kindOf x=some .globalImplicit
theorem ld_glob {E:Value→Shared→Prop} {pins:List (Addr × Obj)} {s:Shared} {σ:St} {H:Hp} {x:Str} {u:Value} {pos:Pos} {Q:Value→Shared→Prop} (I:Inv X pins σ H s) (hg:Gl X x) (hm:X.mg x=some u) (h:Q u s)
  (hd:(x == ("__debug__":Str))=false:=by decide):wpAny (model X.prog X.w) X.A (eval (.Name x pos) X.env) Q E s :=
 Calls.Name_function_global I.ok.kind hg (Calls.loadGlobal_global (by rw [I.ok.glob]; exact I.mod.glob.keeps I.bk) hm h) hd
theorem ld_blt {E:Value→Shared→Prop} {pins:List (Addr × Obj)} {s:Shared} {σ:St} {H:Hp} {x:Str} {u:Value} {pos:Pos} {Q:Value→Shared→Prop} (I:Inv X pins σ H s) (hg:Gl X x) (hm:X.mg x=none) (hv:bootBuiltins x=some u) (h:Q u s)
  (hn:x≠"__name__":=by decide) (hd:(x == ("__debug__":Str))=false:=by decide):wpAny (model X.prog X.w) X.A (eval (.Name x pos) X.env) Q E s:=by
 obtain ⟨mb,h1,h2⟩:=I.mod.blt
 exact Calls.Name_function_global I.ok.kind hg (Calls.loadGlobal_builtin (by rw [I.ok.glob]; exact I.mod.glob.keeps I.bk) hm (by rw [I.ok.blt]; exact h1.keeps I.bk) ((h2 x hn).trans hv) h) hd
theorem pe_glob {x:Str} {v:V} {u:Value} {pos:Pos} (hg:Gl X x) (hm:X.mg x=some u) (r:RelV v u) (hd:(x == ("__debug__":Str))=false:=by decide):PE X (.Name x pos) (tC v) :=
 fun _ _ _ H _ I h=>ld_glob I hg hm ⟨v,H,I,r,h⟩ hd
variable {a b:Expr} {ta tb:TE} {pos:Pos}
def PC (X:Cx) (op:CmpOp) (a b:Expr) (t:TE):Prop :=
 ∀ (pins:List (Addr × Obj)) (s:Shared) (σ:St) (H:Hp) (Q:VK),Inv X pins σ H s→t σ H Q →
  wpAny (model X.prog X.w) X.A (eval a X.env) (fun v s₁=>wpAny (model X.prog X.w) X.A (eval b X.env) (fun u s₂=>wpAny (model X.prog X.w) X.A (compareOp op v u) (EP X pins σ Q) X.xe s₂) X.xe s₁) X.xe s
theorem nobehind (b:Expr) {op:CmpOp} (h:op≠.In) (h2:op≠.NotIn):behindInMarks op b=false:=by
 have e1:(op == CmpOp.In)=false:=by cases op <;> first | rfl | exact absurd rfl h
 have e2:(op == CmpOp.NotIn)=false:=by cases op <;> first | rfl | exact absurd rfl h2
 cases b <;> simp [behindInMarks,e1,e2]
def tB (t:TE):TT:=fun σ H Q=>t σ H fun x H1=>∃ c,x=.bl c∧Q c H1
theorem pt_cmp {op:CmpOp} {t:TE} (h:PC X op a b t) (h1:behindInMarks op b=false:=by first | exact nobehind _ (by decide) (by decide) | rfl):PT X (.Compare a [op] [b] pos) (tB t):=by
 intro pins s σ H Q I hw
 refine wpAny_isTrue_Compare1 (thn (h pins s σ H _ I hw) fun v s1 h1=>thn h1 fun u s2 h2=>thn h2 fun c s3 ⟨x,H1,I1,r1,q1⟩=>?_) h1
 obtain ⟨d,rfl,q⟩:=q1
 cases r1
 exact wpAny_truthy_bool ⟨H1,I1,q⟩
theorem pt_val {e:Expr} {t:TE} (h:PE X e t) (he:∀ whole,isTrue e X.env whole=(do let v ← whole; standAt e.pos; holding [v] (truthy v)):=by intro _; rfl):PT X e (tB t):=by
 intro pins s σ H Q I hw
 refine isTrue_plain (thn (h pins s σ H _ I hw) fun v s1 ⟨x,H1,I1,r1,q1⟩=>?_) (he _)
 obtain ⟨d,rfl,q⟩:=q1
 cases r1
 exact wpAny_truthy_bool ⟨H1,I1,q⟩
variable {tA tB':TT} {rest:List Expr}
def tAnd (t u:TT):TT:=fun σ H Q=>t σ H fun c H1=>if c=true then u σ H1 Q else Q false H1
def tOr (t u:TT):TT:=fun σ H Q=>t σ H fun c H1=>if c=true then Q true H1 else u σ H1 Q
def tNot (t:TT):TT:=fun σ H Q=>t σ H fun c H1=>Q (!c) H1
theorem pw_and1 (ha:PT X a tA):PW X (.BoolOp .And [a] pos) tA:=by
 intro wh pins s σ H Q I h
 refine isTrue_and (thn (ha pins s σ H Q I h) fun c s1 e=>?_)
 cases c with
 | true=>exact isTrue_and_nil e
 | false=>exact e
theorem pw_or1 (ha:PT X a tA):PW X (.BoolOp .Or [a] pos) tA:=by
 intro wh pins s σ H Q I h
 refine isTrue_or (thn (ha pins s σ H Q I h) fun c s1 e=>?_)
 cases c with
 | false=>exact isTrue_or_nil e
 | true=>exact e
theorem pw_and (ha:PT X a tA) (hb:PW X (.BoolOp .And (b :: rest) pos) tB'):PW X (.BoolOp .And (a :: b :: rest) pos) (tAnd tA tB'):=by
 intro wh pins s σ H Q I h
 refine isTrue_and (thn (ha pins s σ H _ I h) fun c s1 ⟨H1,I1,q1⟩=>?_)
 cases c with
 | true=>exact hb wh pins s1 σ H1 Q I1 q1
 | false=>exact ⟨H1,I1,q1⟩
theorem pw_or (ha:PT X a tA) (hb:PW X (.BoolOp .Or (b :: rest) pos) tB'):PW X (.BoolOp .Or (a :: b :: rest) pos) (tOr tA tB'):=by
 intro wh pins s σ H Q I h
 refine isTrue_or (thn (ha pins s σ H _ I h) fun c s1 ⟨H1,I1,q1⟩=>?_)
 cases c with
 | true=>exact ⟨H1,I1,q1⟩
 | false=>exact hb wh pins s1 σ H1 Q I1 q1
theorem pt_not (ha:PT X a tA):PT X (.UnaryOp .Not a pos) (tNot tA):=by
 intro pins s σ H Q I h
 exact isTrue_not (ha pins s σ H (fun c H1=>Q (!c) H1) I h)
def tAndV (ta tb:TE):TE:=fun σ H Q=>ta σ H fun x H1=>∃ c,x=.bl c∧if c=true then tb σ H1 Q else Q (.bl false) H1
def tOrV (ta tb:TE):TE:=fun σ H Q=>ta σ H fun x H1=>∃ c,x=.bl c∧if c=true then Q (.bl true) H1 else tb σ H1 Q
def tNotV (ta:TE):TE:=fun σ H Q=>ta σ H fun x H1=>∃ c,x=.bl c∧Q (.bl (!c)) H1
def tIf (t:TT) (ta tb:TE):TE:=fun σ H Q=>t σ H fun c H1=>if c=true then ta σ H1 Q else tb σ H1 Q
theorem pe_ifExp {c:Expr} (hc:PT X c tA) (ha:PE X a ta) (hb:PE X b tb):PE X (.IfExp c a b pos) (tIf tA ta tb):=by
 intro pins s σ H Q I h
 refine wpAny_IfExp (thn (hc pins s σ H _ I h) fun d s1 ⟨H1,I1,q1⟩=>?_)
 cases d with
 | true=>exact ha pins s1 σ H1 Q I1 q1
 | false=>exact hb pins s1 σ H1 Q I1 q1
end
end L2
namespace L2
open PySem PySem.Spec PyProof.Rows
def SqL (K:PySem.W.Frag) (H:Hp) (a:Addr) (xs:List V):Prop :=
 Rd H a (.lst xs) ∨
  ∃ (o:Obj) (its:Array Value) (n:Nat),K.lookup a=some o∧o.cls=.type "list"∧o.dict=none∧o.data=.seq its n∧its.size≤sizeLine∧Vals xs its.toList
def SqT (K:PySem.W.Frag) (H:Hp) (a:Addr) (xs:List V):Prop :=
 Rd H a (.tup xs) ∨
  ∃ (o:Obj) (its:Array Value) (n:Nat),K.lookup a=some o∧o.cls=.type "tuple"∧o.data=.seq its n∧its.size≤sizeLine∧Vals xs its.toList
def absV:Value→Option V
 | .none=>some .non
 | .bool b=>some (.bl b)
 | .int i _=>some (.int i)
 | .str x _=>some (.str x)
 | .bytes b _=>some (.byt b)
 | .float b _=>some (.flt b)
 | .ref a=>some (.ref a)
 | .type n=>some (.ty n)
 | _=>none
theorem RelV.abs {x:V} {u:Value} (r:RelV x u):absV u=some x:=by
 cases x with
 | non=>cases r; rfl
 | bl _=>cases r; rfl
 | int _=>obtain ⟨t,rfl⟩:=r; rfl
 | str _=>obtain ⟨t,rfl⟩:=r; rfl
 | byt _=>obtain ⟨t,rfl⟩:=r; rfl
 | flt _=>obtain ⟨t,rfl⟩:=r; rfl
 | ref _=>cases r; rfl
 | ty _=>cases r; rfl
theorem RelV.inj {x y:V} {u:Value} (r:RelV x u) (q:RelV y u):x=y:=Option.some.inj (r.abs.symm.trans q.abs)
theorem Vals.inj:∀ {xs ys:List V} {us:List Value},Vals xs us→Vals ys us→xs=ys
 | _,_,_,.nil,.nil=>rfl
 | _,_,_,.cons r t,.cons r' t'=>by rw [r.inj r',Vals.inj t t']
section
variable {X:Cx} {pins:List (Addr × Obj)} {σ:St} {H:Hp} {s:Shared} {a:Addr} {xs ys:List V}
theorem SqL.of {K:PySem.W.Frag} (h:H a=some (.lst xs)):SqL K H a xs:=.inl (.inl h)
theorem Inv.list (I:Inv X pins σ H s) (h:SqL X.K H a xs):∃ its:List Value,Vals xs its∧PlainL s.heap a its.toArray∧xs.length≤sizeLine:=by
 rcases h with h | ⟨o,its,n,hk,hc,hd,hs,hz,r⟩
 ·obtain ⟨z,its,n,r,e⟩:=h.ok I.hok
  exact ⟨its,r,⟨_,n,e,rfl,rfl,rfl⟩,z⟩
 ·refine ⟨its.toList,r,⟨o,n,I.kIn a o hk,hc,hd,by simpa using hs⟩,?_⟩
  have e:=r.length
  simp only [Array.length_toList] at e
  omega
theorem Inv.tuple (I:Inv X pins σ H s) (h:SqT X.K H a xs):∃ its:List Value,Vals xs its∧IsTup s.heap a its.toArray∧xs.length≤sizeLine:=by
 rcases h with h | ⟨o,its,n,hk,hc,hs,hz,r⟩
 ·obtain ⟨z,its,r,p⟩:=h.ok I.hok
  exact ⟨its,r,p,z⟩
 ·refine ⟨its.toList,r,⟨o,I.kIn a o hk,hc,n,by simpa using hs⟩,?_⟩
  have e:=r.length
  simp only [Array.length_toList] at e
  omega
theorem Inv.list_inj (I:Inv X pins σ H s) (h:SqL X.K H a xs) (h':SqL X.K H a ys):xs=ys:=by
 obtain ⟨its,r,⟨o,n,e,_,_,d⟩,_⟩:=I.list h
 obtain ⟨its',r',⟨o',n',e',_,_,d'⟩,_⟩:=I.list h'
 rw [e] at e'; cases e'
 rw [d] at d'
 injection d' with d1 _
 have:its=its':=by simpa using congrArg Array.toList d1
 subst this
 exact r.inj r'
theorem Inv.tuple_inj (I:Inv X pins σ H s) (h:SqT X.K H a xs) (h':SqT X.K H a ys):xs=ys:=by
 obtain ⟨its,r,⟨o,e,_,n,d⟩,_⟩:=I.tuple h
 obtain ⟨its',r',⟨o',e',_,n',d'⟩,_⟩:=I.tuple h'
 rw [e] at e'; cases e'
 rw [d] at d'
 injection d' with d1 _
 have:its=its':=by simpa using congrArg Array.toList d1
 subst this
 exact r.inj r'
end
abbrev Cx.wish (X:Cx) (E:Value→Shared→Prop):Cx:={ X with xe:=E }
abbrev Cx.nox (X:Cx):Cx:=X.wish fun _ _=>False
theorem Cx.Ok.wish {X:Cx} (ok:X.Ok) (E:Value→Shared→Prop):(X.wish E).Ok :=
 ⟨ok.mod,ok.kind,ok.glob,ok.blt,ok.above,ok.inj,ok.has,ok.cab,ok.hd,ok.frames,ok.stk,ok.exf,ok.bs,ok.bsz,ok.noex,ok.exfs,ok.funs,ok.frf⟩
theorem Cx.Ok.unwish {X:Cx} {E:Value→Shared→Prop} (ok:(X.wish E).Ok):X.Ok :=
 ⟨ok.mod,ok.kind,ok.glob,ok.blt,ok.above,ok.inj,ok.has,ok.cab,ok.hd,ok.frames,ok.stk,ok.exf,ok.bs,ok.bsz,ok.noex,ok.exfs,ok.funs,ok.frf⟩
section
variable {X:Cx} {pins:List (Addr × Obj)} {σ:St} {H:Hp} {s:Shared} {E:Value→Shared→Prop}
theorem Inv.wish (I:Inv X pins σ H s) (E:Value→Shared→Prop):Inv (X.wish E) pins σ H s:=⟨I.ok.wish E,I.os,I.bare,I.base,I.loc,I.cell,I.free,I.freeC,I.pin,I.hok,I.len⟩
theorem Inv.unwish (I:Inv (X.wish E) pins σ H s):Inv X pins σ H s:=⟨I.ok.unwish,I.os,I.bare,I.base,I.loc,I.cell,I.free,I.freeC,I.pin,I.hok,I.len⟩
theorem SP.unwish {D:Ends} {f:Flow} {s':Shared} (h:SP (X.wish E) pins D f s'):SP X pins D f s':=by
 cases f with
 | next=>obtain ⟨σ',H',I,q⟩:=h; exact ⟨σ',H',I.unwish,q⟩
 | brk=>obtain ⟨σ',H',I,q⟩:=h; exact ⟨σ',H',I.unwish,q⟩
 | cont=>obtain ⟨σ',H',I,q⟩:=h; exact ⟨σ',H',I.unwish,q⟩
 | ret u=>obtain ⟨v,σ',H',I,r,q⟩:=h; exact ⟨v,σ',H',I.unwish,r,q⟩
theorem PSs.nox {st:List Stmt} {t:TS} (h:PSs X.nox st t):PSs X st t:=fun pins s σ H D I hw =>
 wpAny_mono (h pins s σ H D (I.wish _) hw) (fun _ _ q=>q.unwish) fun _ _ z=>False.elim z
end
section
variable {X:Cx} {st:Stmt} {rest:List Stmt} {t u:TS} {e:Expr} {te:TE} {pos:Pos}
def tNext:TS:=fun D σ H=>D.nx σ H
def tSeq (t u:TS):TS:=fun D σ H=>t { D with nx:=u D } σ H
theorem pss_nil:PSs X [] tNext:=fun _ _ σ H _ I h=>wpAny_execs_nil ⟨σ,H,I,h⟩
theorem pss_cons (h1:PS X st t) (h2:PSs X rest u):PSs X (st :: rest) (tSeq t u):=by
 intro pins s σ H D I h
 refine wpAny_execs_cons (thn (h1 pins s σ H { D with nx:=u D } I h) fun f s1 q=>?_)
 cases f with
 | next =>
  obtain ⟨σ',H',I',q⟩:=q
  exact h2 pins s1 σ' H' D I' q
 | ret v=>exact q
 | brk=>exact q
 | cont=>exact q
theorem pss_one (h1:PS X st t):PSs X [st] t:=by
 intro pins s σ H D I h
 refine wpAny_execs_cons (thn (h1 pins s σ H D I h) fun f s1 q=>?_)
 cases f with
 | next=>exact wpAny_execs_nil q
 | ret v=>exact q
 | brk=>exact q
 | cont=>exact q
def tBreak:TS:=fun D σ H=>D.bk σ H
theorem ps_break:PS X (.Break pos) tBreak:=fun _ _ σ H _ I h=>wpAny_Break ⟨σ,H,I,h⟩
theorem Inv.quiet {pins:List (Addr × Obj)} {σ:St} {H:Hp} {s:Shared} (I:Inv X pins σ H s):interactive X.env=false:=by simp [interactive,I.ok.kind]
def tDrop (te:TE):TS:=fun D σ H=>te σ H fun _ H1=>D.nx σ H1
theorem ps_expr (he:PE X e te) (hs:swapsWith e none pos.line X.env=pure false:=by rfl):PS X (.Expr e pos) (tDrop te):=by
 intro pins s σ H D I h
 exact wpAny_Expr_any (thn (he pins s σ H _ I h) fun v s1 ⟨x,H1,I1,r1,q1⟩=>⟨σ,H1,I1,q1⟩) I.quiet hs
def tRet (te:TE):TS:=fun D σ H=>te σ H D.rt
theorem ps_ret (he:PE X e te):PS X (.Return (some e) pos) (tRet te):=by
 intro pins s σ H D I h
 exact wpAny_Return_some (thn (he pins s σ H _ I h) fun v s1 ⟨x,H1,I1,r1,q1⟩=>⟨x,σ,H1,I1,r1,q1⟩)
def tRetN:TS:=fun D _ H=>D.rt .non H
def tIfS (c:TT) (t u:TS):TS:=fun D σ H=>c σ H fun b H1=>if b=true then t D σ H1 else u D σ H1
theorem ps_if {c:Expr} {a b:List Stmt} {tc:TT} (hc:PT X c tc) (ha:PSs X a t) (hb:PSs X b u):PS X (.If c a b pos) (tIfS tc t u):=by
 intro pins s σ H D I h
 refine wpAny_If (thn (hc pins s σ H _ I h) fun d s1 ⟨H1,I1,q1⟩=>?_)
 cases d with
 | true=>exact ha pins s1 σ H1 D I1 q1
 | false=>exact hb pins s1 σ H1 D I1 q1
end
abbrev TG:=V→St→Hp→(St→Hp→Prop)→Prop
abbrev TGs:=List V→St→Hp→(St→Hp→Prop)→Prop
def PG (X:Cx) (target:Expr) (t:TG):Prop :=
 ∀ (pins:List (Addr × Obj)) (s:Shared) (σ:St) (H:Hp) (v:V) (u:Value) (Q:St→Hp→Prop),Inv X pins σ H s→RelV v u→t v σ H Q →
  wpAny (model X.prog X.w) X.A (assign target X.env u) (fun _ s'=>∃ σ' H',Inv X pins σ' H' s'∧Q σ' H') X.xe s
def PGs (X:Cx) (ts:List Expr) (t:TGs):Prop :=
 ∀ (pins:List (Addr × Obj)) (s:Shared) (σ:St) (H:Hp) (vs:List V) (us:List Value) (Q:St→Hp→Prop),Inv X pins σ H s→Vals vs us→t vs σ H Q →
  wpAny (model X.prog X.w) X.A (assignInOrder ((assignEach ts X.env).map (·.2)) us) (fun _ s'=>∃ σ' H',Inv X pins σ' H' s'∧Q σ' H') X.xe s
abbrev TSet:=V→V→V→Hp→(Hp→Prop)→Prop
def PSet (X:Cx) (t:TSet):Prop :=
 ∀ (pins:List (Addr × Obj)) (s:Shared) (σ:St) (H:Hp) (o i v:V) (ov iv u:Value) (Q:Hp→Prop),Inv X pins σ H s→RelV o ov→RelV i iv→RelV v u→t o i v H Q →
  wpAny (model X.prog X.w) X.A (setItem ov iv u) (fun _ s'=>∃ H',Inv X pins σ H' s'∧Q H') X.xe s
abbrev TIp:=V→V→Hp→VK→Prop
def PIp (X:Cx) (op:Operator) (t:TIp):Prop :=
 ∀ (pins:List (Addr × Obj)) (s:Shared) (σ:St) (H:Hp) (x y:V) (v u:Value) (Q:VK),Inv X pins σ H s→RelV x v→RelV y u→t x y H Q →
  wpAny (model X.prog X.w) X.A (inplaceOp op v u) (EP X pins σ Q) X.xe s
section
variable {X:Cx} {pos:Pos}
def gName (i:Nat):TG:=fun v σ H Q=>Q (σ.set i (some v)) H
theorem pg_name {i:Nat} {x:Str} (hN:X.N.Nodup) (hi:X.N[i]?=some x) (hx:Loc X.env.scope x) (hf:X.fn x=true∨X.env.scope.names.lookup x=some .local:=by first | exact .inl rfl | exact .inr rfl | assumption):PG X (.Name x pos) (gName i):=by
 intro pins s σ H v u Q I r h
 exact wpAny_assign_Name (store_ok I hN hi hx r (fun s' I'=>⟨_,H,I',h⟩) hf)
def gNil:TGs:=fun vs σ H Q=>vs=[]∧Q σ H
def gCons (t:TG) (u:TGs):TGs:=fun vs σ H Q=>∃ v r,vs=v :: r∧t v σ H fun σ' H'=>u r σ' H' Q
theorem pgs_nil:PGs X [] gNil:=by
 intro pins s σ H vs us Q I r h
 obtain ⟨e,h⟩:=h
 subst e
 cases r
 exact assignInOrder_nil ⟨σ,H,I,h⟩
theorem pgs_cons {e:Expr} {es:List Expr} {t:TG} {u:TGs} (h1:PG X e t) (h2:PGs X es u)
  (hs:(assignEach (e :: es) X.env).map (·.2)=assign e X.env :: (assignEach es X.env).map (·.2):=by rfl):PGs X (e :: es) (gCons t u):=by
 intro pins s σ H vs us Q I r h
 obtain ⟨v,vr,e1,h⟩:=h
 subst e1
 cases r with
 | cons r rr =>
  rw [hs]
  refine assignInOrder_cons (thn (h1 pins s σ H _ _ _ I r h) fun _ s1 ⟨σ1,H1,I1,q1⟩=>?_)
  exact h2 pins s1 σ1 H1 _ _ Q I1 rr q1
def gTup (K:PySem.W.Frag) (n:Nat) (t:TGs):TG:=fun v σ H Q=>∃ a xs,v=.ref a∧SqT K H a xs∧xs.length=n∧t xs σ H Q
theorem pg_tup {es:List Expr} {k:Nat} {t:TGs} {n:Nat} (hc:X.calm=true) (h:PGs X es t)
  (hn:(assignEach es X.env).length=n:=by rfl) (hst:(assignEach es X.env).findIdx? (·.1)=none:=by rfl):PG X (.Tuple es k pos) (gTup X.K n t):=by
 intro pins s σ H v u Q I r hw
 obtain ⟨a,xs,e1,hq,hl,hw⟩:=hw
 subst e1
 cases r
 obtain ⟨its,rv,ht,hz⟩:=I.tuple hq
 refine assign_Tuple_tuple (I.ok.hd hc) ht (by simp [hn,← hl,rv.length]) hst fun h' hx=>?_
 have I1:Inv X pins σ H { s with heap:=h' }:=I.kept (t':=s.toks) fun b o e=>hx b o (Nat.ne_of_lt (Heap.lt_size e)) e
 exact h pins _ σ H xs _ Q I1 (by simpa using rv) hw
def gSub (to ti:TE) (t:TSet):TG:=fun v σ H Q=>to σ H fun o H1=>ti σ H1 fun i H2=>t o i v H2 fun H3=>Q σ H3
theorem pg_sub {o i:Expr} {to ti:TE} {t:TSet} (ho:PE X o to) (hi:PE X i ti) (hs:PSet X t)
  (ha:∀ v,assign (.Subscript o i pos) X.env v=(do
   let ov ← holding [v] (eval o X.env)
   let iv ← holding [v,ov] (eval i X.env)
   standAt pos
   holding [v,ov,iv] (setItem ov iv v)
   release [v,ov,iv] []):=by intro _; rfl):PG X (.Subscript o i pos) (gSub to ti t):=by
 intro pins s σ H v u Q I r h
 rw [ha]
 refine wpAny_bind (wpAny_holding (thn (ho pins s σ H _ I h) fun ov s1 ⟨x,H1,I1,r1,q1⟩=>?_))
 refine wpAny_bind (wpAny_holding (thn (hi pins s1 σ H1 _ I1 q1) fun iv s2 ⟨y,H2,I2,r2,q2⟩=>?_))
 refine wpAny_bind (wpAny_standAt (wpAny_bind (wpAny_holding (thn (hs pins s2 σ H2 x y v ov iv u _ I2 r1 r2 r q2) fun _ s3 ⟨H3,I3,q3⟩=>?_))))
 exact wpAny_release ⟨σ,H3,I3,q3⟩
def tAsg (te:TE) (g:TG):TS:=fun D σ H=>te σ H fun x H1=>g x σ H1 D.nx
theorem ps_asg {tg e:Expr} {te:TE} {g:TG} (he:PE X e te) (hg:PG X tg g) (hs:swapsWithSole [tg] e pos.line X.env=pure false:=by rfl) (hw:swappedStores [tg] e X.env=pure none:=by rfl)
  (h1:(assignEach [tg] X.env).map (·.2)=[assign tg X.env]:=by rfl):PS X (.Assign [tg] e pos) (tAsg te g):=by
 intro pins s σ H D I h
 refine wpAny_Assign_stores (thn (he pins s σ H _ I h) fun v s1 ⟨x,H1,I1,r1,q1⟩=>?_) hs hw
 rw [h1]
 exact thn (hg pins s1 σ H1 x v _ I1 r1 q1) fun _ s2 q=>q
theorem ps_set {i:Nat} {x:Str} {e:Expr} {te:TE} {pos':Pos} (hN:X.N.Nodup) (hi:X.N[i]?=some x) (hx:Loc X.env.scope x) (he:PE X e te) (hs:swapsWith e (some (.Name x pos')) pos.line X.env=pure false:=by rfl) (hf:X.fn x=true∨X.env.scope.names.lookup x=some .local:=by first | exact .inl rfl | exact .inr rfl | assumption) :
  PS X (.Assign [.Name x pos'] e pos) (tAsg te (gName i)):=by
 intro pins s σ H D I h
 refine wpAny_Assign_Name (thn (he pins s σ H _ I h) fun v s1 ⟨y,H1,I1,r1,q1⟩=>?_) hs
 exact store_ok I1 hN hi hx r1 (fun s2 I2=>⟨_,H1,I2,q1⟩) hf
def tAug (i:Nat) (te:TE) (ti:TIp):TS:=fun D σ H=>∃ x,σ[i]?=some (some x)∧te σ H fun y H1=>ti x y H1 fun z H2=>D.nx (σ.set i (some z)) H2
theorem ps_aug {i:Nat} {x:Str} {e:Expr} {te:TE} {op:Operator} {ti:TIp} {pos':Pos} (hN:X.N.Nodup) (hi:X.N[i]?=some x) (hx:Loc X.env.scope x) (he:PE X e te) (ho:PIp X op ti) (hf:X.fn x=true∨X.env.scope.names.lookup x=some .local:=by first | exact .inl rfl | exact .inr rfl | assumption) :
  PS X (.AugAssign (.Name x pos') op e pos) (tAug i te ti):=by
 intro pins s σ H D I h
 obtain ⟨v,e1,h⟩:=h
 obtain ⟨m,hn,hl⟩:=I.loc
 have vis:Vis X.env.scope x:=by rcases hx with k | k; exact .inl k; exact .inr (.inl k)
 obtain ⟨u,r,l⟩:=hl i x v hi e1 vis
 refine wpAny_AugAssign_Name ?_
 have go:wpAny (model X.prog X.w) X.A (eval e X.env) (fun w s₂=>wpAny (model X.prog X.w) X.A (inplaceOp op u w) (fun r s₃=>wpAny (model X.prog X.w) X.A (storeName X.env x r) (fun _=>SP X pins D .next) X.xe s₃) X.xe s₂) X.xe s:=by
  refine thn (he pins s σ H _ I h) fun w s1 ⟨y,H1,I1,r1,q1⟩=>?_
  refine thn (ho pins s1 σ H1 v y u w _ I1 r r1 q1) fun z s2 ⟨zv,H2,I2,r2,q2⟩=>?_
  exact store_ok I2 hN hi hx r2 (fun s3 I3=>⟨_,H2,I3,q2⟩) hf
 rcases l with ⟨hk,hm⟩ | ⟨hk,c,hc,hcell⟩
 ·exact wpAny_loadName_local I.ok.kind hk hn hm go
 ·rcases hk with hk | hk
  ·exact wpAny_loadName_cell I.ok.kind hk hc hcell go
  ·rcases hx with k | k
   ·have:X.env.scope.names.lookup x=some .free:=hk
    rw [k] at this; cases this
   ·have:X.env.scope.names.lookup x=some .free:=hk
    rw [k] at this; cases this
def ipI (f:Int→Int→Int):TIp:=fun x y H Q=>∃ i j,x=.int i∧y=.int j∧Q (.int (f i j)) H
theorem ip_add:PIp X .Add (ipI fun i j=>i + j):=by
 intro pins s σ H x y v u Q I r1 r2 h
 obtain ⟨i,j,e1,e2,q⟩:=h
 subst e1; subst e2
 obtain ⟨t,rfl⟩:=r1
 obtain ⟨t',rfl⟩:=r2
 exact iadd_int ⟨.int _,H,I.tok _,⟨_,rfl⟩,q⟩
theorem ip_sub:PIp X .Sub (ipI fun i j=>i - j):=by
 intro pins s σ H x y v u Q I r1 r2 h
 obtain ⟨i,j,e1,e2,q⟩:=h
 subst e1; subst e2
 obtain ⟨t,rfl⟩:=r1
 obtain ⟨t',rfl⟩:=r2
 exact isub_int ⟨.int _,H,I.tok _,⟨_,rfl⟩,q⟩
end
section
variable {X:Cx} {pos:Pos}
def tWhile (c:TT) (tb:TS):TS:=fun D σ H=>∃ W:Nat→St→Hp→Prop,(∃ m,W m σ H)∧∀ m σ H,W m σ H →
 c σ H fun b H1=>if b=true then ∃ N:St→Hp→Prop,(∀ σ' H',N σ' H'→∃ m',m' < m∧W m' σ' H')∧tb { D with nx:=N,ct:=N,bk:=D.nx } σ H1 else D.nx σ H1
theorem ps_while {c:Expr} {body:List Stmt} {tc:TT} {tb:TS} (hp:PassesOwn (model X.prog X.w) X.A X.env X.xe) (hc:PT X c tc) (hb:PSs X body tb):PS X (.While c body [] pos) (tWhile tc tb):=by
 intro pins s σ H D I h
 obtain ⟨W,⟨m0,w0⟩,turn⟩:=h
 refine wpAny_While (codeAny_whileLoop (fun n s'=>∃ σ' H',Inv X pins σ' H' s'∧W n σ' H') ?_ m0 ⟨σ,H,I,w0⟩)
 rintro n s1 ⟨σ1,H1,I1,w1⟩
 refine wpAny_passesOwn hp (thn (hc pins s1 σ1 H1 _ I1 (turn n σ1 H1 w1)) fun b s2 ⟨H2,I2,q2⟩=>?_)
 cases b with
 | true =>
  obtain ⟨N,hN,q2⟩:=q2
  rw [if_pos rfl]
  refine wpAny_passesOwn hp (thn (hb pins s2 σ1 H2 _ I2 q2) fun f s3 q3=>?_)
  cases f with
  | next =>
   obtain ⟨σ3,H3,I3,n3⟩:=q3
   obtain ⟨m',hm,w3⟩:=hN σ3 H3 n3
   exact ⟨m',hm,σ3,H3,I3,w3⟩
  | cont =>
   obtain ⟨σ3,H3,I3,n3⟩:=q3
   obtain ⟨m',hm,w3⟩:=hN σ3 H3 n3
   exact ⟨m',hm,σ3,H3,I3,w3⟩
  | brk=>exact q3
  | ret v=>exact q3
 | false =>
  rw [if_neg Bool.false_ne_true]
  exact wpAny_execs_nil ⟨σ1,H2,I2,q2⟩
end
structure It where
 go:Nat→Hp→Prop
 yld:Nat→Hp→V→Hp→Prop
 stop:Nat→Hp→Prop
def FpOk (X:Cx) (pins:List (Addr × Obj)) (H:Hp) (b:Addr):Prop :=
 H b=none∧b≠X.env.locals∧b ∉ X.fs∧(b ∈ X.ex∨X.s_0.heap.objs.size≤b)∧(∀ x c,X.env.cells.lookup x=some c→c≠b)∧∀ p ∈ X.pn ++ pins,p.1≠b
theorem Inv.fpOk {X:Cx} {pins:List (Addr × Obj)} {σ:St} {H H':Hp} {s:Shared} {b:Addr} (I:Inv X pins σ H s) (hb:s.heap.objs.size≤b) (hn:H' b=none):FpOk X pins H' b:=by
 refine ⟨hn,Nat.ne_of_gt (Nat.lt_of_lt_of_le I.lt hb),I.nofs hb,.inr (Nat.le_trans I.sz hb),fun x c e z=>?_,fun p hp z=>?_⟩
 ·obtain ⟨v,q⟩:=I.cell x c e
  exact absurd (Nat.lt_of_lt_of_le q.lt (by rw [z]; exact hb)) (Nat.lt_irrefl _)
 ·exact absurd (Nat.lt_of_lt_of_le (Heap.lt_size (I.pin p hp).1) (by rw [z]; exact hb)) (Nat.lt_irrefl _)
structure Turn (P:Program) (w:World) (K:PySem.W.Frag) (tg:Expr) (J:It) (fp:List Addr) (it:Addr) (tn:Nat→Heap→Prop):Prop where
 mem:it ∈ fp
 obj:∀ i h,tn i h→∀ b ∈ fp,∃ o,h.get? b=some o∧∀ v,o.data≠.cell v
 keep:∀ i h h',tn i h→(∀ b ∈ fp,∀ o,h.get? b=some o→h'.get? b=some o)→tn i h'
 item:∀ (X:Cx),X.prog=P→X.w=w→X.K=K→X.calm=true→∀ (i:Nat) (pins:List (Addr × Obj)) (s:Shared) (σ:St) (H:Hp) (E:Value→Shared→Prop),Inv X pins σ H s→(∀ b ∈ fp,FpOk X pins H b)→tn i s.heap→J.go i H →
  wpAny (model P w) X.A (pyNext (.ref it)) (fun r s1=>∃ u,r=some u ∧
   wpAny (model P w) X.A (letOwnedTupleGo tg (.ref it) u) (fun _ s2=>∃ x H',Inv X pins σ H' s2∧RelV x u∧J.yld i H x H'∧tn (i + 1) s2.heap∧∀ b ∈ fp,H' b=none) E s1) E s
 done:∀ (X:Cx),X.prog=P→X.w=w→X.K=K→X.calm=true→∀ (i:Nat) (pins:List (Addr × Obj)) (s:Shared) (σ:St) (H:Hp) (E:Value→Shared→Prop),Inv X pins σ H s→(∀ b ∈ fp,FpOk X pins H b)→tn i s.heap→J.stop i H →
  wpAny (model P w) X.A (pyNext (.ref it)) (fun r s1=>r=none∧Inv X pins σ H s1) E s
 self:∀ (A:Around) (i:Nat) (s:Shared) (Q:Value→Shared→Prop) (E:Value→Shared→Prop),tn i s.heap→Q (.ref it) s→wpAny (model P w) A (pyIter (.ref it)) Q E s
abbrev TI:=St→Hp→(It→Hp→Prop)→Prop
def PIE (X:Cx) (pins:List (Addr × Obj)) (σ:St) (tg:Expr) (R:It→Hp→Prop) (itv:Value) (s2:Shared):Prop :=
 ∃ (it:Addr) (fp:List Addr) (tn:Nat→Heap→Prop) (J:It) (H':Hp),itv=.ref it∧Inv X pins σ H' s2∧Turn X.prog X.w X.K tg J fp it tn∧tn 0 s2.heap∧(∀ b ∈ fp,FpOk X pins H' b)∧R J H'
def PI (X:Cx) (tg iter:Expr) (wi:TI):Prop :=
 ∀ (pins:List (Addr × Obj)) (s:Shared) (σ:St) (H:Hp) (R:It→Hp→Prop),Inv X pins σ H s→wi σ H R →
  wpAny (model X.prog X.w) X.A (eval iter X.env) (fun v s1=>wpAny (model X.prog X.w) X.A (pyIter v) (PIE X pins σ tg R) X.xe s1) X.xe s
theorem go_of {M:Model} {A:Around} {E:Value→Shared→Prop} {s:Shared} {tg:Expr} {it:Addr} {u:Value} {o:Obj} {n:String} {vs:Array Value} {Q:Unit→Shared→Prop} (ho:s.heap.get? it=some o) (hc:o.cls=.type n) (hd:o.data=.fields vs)
    (hn:["enumerate","zip","dict_itemiterator","dict_reverseitemiterator","odict_iterator","itertools.zip_longest","itertools.pairwise"].contains n=false) (hQ:Q () s):wpAny M A (letOwnedTupleGo tg (.ref it) u) Q E s:=by
  unfold letOwnedTupleGo
  cases tg <;> first
    | exact wpAny_pure hQ
    | (cases u <;> first
        | exact wpAny_pure hQ
        | (refine wpAny_bind (wpAny_load ho ?_)
           rw [hc,hd]
           show wpAny M A (if (["enumerate","zip","dict_itemiterator","dict_reverseitemiterator","odict_iterator","itertools.zip_longest","itertools.pairwise"].contains n && vs[0]? == some (rawInt _))=true then _ else _) Q E s
           rw [if_neg (by intro h; rw [hn,Bool.false_and] at h; cases h)]
           exact wpAny_pure hQ))
def Itl (K:PySem.W.Frag) (a:Addr):It :=
 ⟨fun i H=>∃ xs x,SqL K H a xs∧xs[i]?=some x,fun i H x H'=>H'=H∧∀ xs,SqL K H a xs→xs[i]?=some x,fun i H=>∃ xs,SqL K H a xs∧xs.length≤i⟩
def Itt (K:PySem.W.Frag) (a:Addr):It :=
 ⟨fun i H=>∃ xs x,SqT K H a xs∧xs[i]?=some x,fun i H x H'=>H'=H∧∀ xs,SqT K H a xs→xs[i]?=some x,fun i H=>∃ xs,SqT K H a xs∧xs.length≤i⟩
def Itr (lo:Int) (n:Nat):It:=⟨fun i _=>i < n,fun i H x H'=>H'=H∧x=.int (lo + i),fun i _=>n≤i⟩
theorem turn_list {P:Program} {w:World} {K:PySem.W.Frag} {tg:Expr} (a it:Addr):Turn P w K tg (Itl K a) [it] it (fun i h=>h.IsListIter it a i) where
 mem:=by simp
 obj:=fun i h st b hb=>by
  have e:b=it:=by simpa using hb
  subst e
  obtain ⟨o,e,c,d⟩:=st
  exact ⟨o,e,fun v z=>by rw [d] at z; cases z⟩
 keep:=fun i h h' st k=>st.at fun o e=>k it (by simp) o e
 item:=by
  intro X hP hw hK hc i pins s σ H E I hf st hg
  subst hP hw hK
  obtain ⟨xs,x,hq,hx⟩:=hg
  obtain ⟨its,rv,p,hz⟩:=I.list hq
  obtain ⟨u,hu,ru⟩:=rv.get hx
  obtain ⟨f0,f1,f2,f3,f4,f5⟩:=hf it (by simp)
  refine wpAny_pyNext_list_item st p.isList (x:=u) (by simpa using hu) fun h' st' sb=>?_
  have I1:Inv X pins σ H { s with heap:=h' }:=I.turned (t':=s.toks) (fun b o hb e=>(sb.2 b hb).trans e) f0 f1 f3 f4 f5
  obtain ⟨o,e,c,d⟩:=id st'
  exact ⟨u,rfl,go_of (s:={ s with heap:=h' }) e c d (by decide) ⟨x,H,I1,ru,⟨rfl,fun ys hy=>by rw [I.list_inj hy hq]; exact hx⟩,st',fun b hb=>(hf b hb).1⟩⟩
 done:=by
  intro X hP hw hK hc i pins s σ H E I hf st hg
  subst hP hw hK
  obtain ⟨xs,hq,hx⟩:=hg
  obtain ⟨its,rv,p,hz⟩:=I.list hq
  obtain ⟨f0,f1,f2,f3,f4,f5⟩:=hf it (by simp)
  have hl:=rv.length
  exact wpAny_pyNext_list_end (I.ok.hd hc) st p.isList (by simp; omega) fun h' eb=>⟨rfl,I.turned (t':=s.toks) (fun b o hb e=>eb b o hb e) f0 f1 f3 f4 f5⟩
 self:=fun _ _ _ _ _ st h=>wpAny_pyIter_listiter st h
theorem turn_tuple {P:Program} {w:World} {K:PySem.W.Frag} {tg:Expr} (a it:Addr):Turn P w K tg (Itt K a) [it] it (fun i h=>h.IsTupleIter it a i) where
 mem:=by simp
 obj:=fun i h st b hb=>by
  have e:b=it:=by simpa using hb
  subst e
  obtain ⟨o,e,c,d⟩:=st
  exact ⟨o,e,fun v z=>by rw [d] at z; cases z⟩
 keep:=fun i h h' st k=>st.at fun o e=>k it (by simp) o e
 item:=by
  intro X hP hw hK hc i pins s σ H E I hf st hg
  subst hP hw hK
  obtain ⟨xs,x,hq,hx⟩:=hg
  obtain ⟨its,rv,p,hz⟩:=I.tuple hq
  obtain ⟨u,hu,ru⟩:=rv.get hx
  obtain ⟨f0,f1,f2,f3,f4,f5⟩:=hf it (by simp)
  refine wpAny_pyNext_tuple_item st (show s.heap.IsTuple a its.toArray from p) (x:=u) (by simpa using hu) fun h' st' sb=>?_
  have I1:Inv X pins σ H { s with heap:=h' }:=I.turned (t':=s.toks) (fun b o hb e=>(sb.2 b hb).trans e) f0 f1 f3 f4 f5
  obtain ⟨o,e,c,d⟩:=id st'
  exact ⟨u,rfl,go_of (s:={ s with heap:=h' }) e c d (by decide) ⟨x,H,I1,ru,⟨rfl,fun ys hy=>by rw [I.tuple_inj hy hq]; exact hx⟩,st',fun b hb=>(hf b hb).1⟩⟩
 done:=by
  intro X hP hw hK hc i pins s σ H E I hf st hg
  subst hP hw hK
  obtain ⟨xs,hq,hx⟩:=hg
  obtain ⟨its,rv,p,hz⟩:=I.tuple hq
  obtain ⟨f0,f1,f2,f3,f4,f5⟩:=hf it (by simp)
  have hl:=rv.length
  exact wpAny_pyNext_tuple_end (I.ok.hd hc) st (show s.heap.IsTuple a its.toArray from p) (by simp; omega) fun h' eb=>⟨rfl,I.turned (t':=s.toks) (fun b o hb e=>eb b o hb e) f0 f1 f3 f4 f5⟩
 self:=fun _ _ _ _ _ st h=>wpAny_pyIter_tupleiter st h
theorem turn_range {P:Program} {w:World} {K:PySem.W.Frag} {tg:Expr} (it:Addr) (lo:Int) (n:Nat):Turn P w K tg (Itr lo n) [it] it (fun i h=>IsRangeIter h it (lo + (i:Nat) * 1) ((n:Int) - (i:Nat)) 1) where
 mem:=by simp
 obj:=fun i h st b hb=>by
  have e:b=it:=by simpa using hb
  subst e
  exact ⟨_,st,fun v z=>by
   have z':Data.fields _=Data.cell v:=z
   cases z'⟩
 keep:=fun i h h' st k=>k it (by simp) _ st
 item:=by
  intro X hP hw hK hc i pins s σ H E I hf st hg
  subst hP hw hK
  obtain ⟨f0,f1,f2,f3,f4,f5⟩:=hf it (by simp)
  have W:=Walks.range (prog:=X.prog) (w:=X.w) (I.ok.hd hc) it lo 1 n
  refine W.item i s _ _ hg st fun v h' tk hv st' kk=>?_
  obtain ⟨t,rfl⟩:=hv
  have I1:Inv X pins σ H { s with heap:=h',toks:=tk }:=I.turned (fun b o hb e=>kk b o (by simpa using hb) e) f0 f1 f3 f4 f5
  refine ⟨_,rfl,go_of (s:={ s with heap:=h',toks:=tk }) (n:="range_iterator") st' rfl rfl (by decide) ⟨.int (lo + i),H,I1,⟨t,?_⟩,⟨rfl,rfl⟩,st',fun b hb=>(hf b hb).1⟩⟩
  rw [Int.mul_one]
 done:=by
  intro X hP hw hK hc i pins s σ H E I hf st hg
  subst hP hw hK
  obtain ⟨f0,f1,f2,f3,f4,f5⟩:=hf it (by simp)
  exact wpAny_pyNext_range_end (I.ok.hd hc) st (by have:n≤i:=hg; omega) fun h' eb=>⟨rfl,I.turned (t':=s.toks) (fun b o hb e=>eb b o hb e) f0 f1 f3 f4 f5⟩
 self:=fun _ _ _ _ _ st h=>wpAny_pyIter_rangeiter st h
end L2
namespace L2
open PySem PySem.Spec PyProof.Rows
section
variable {X:Cx} {tg:Expr}
def iList (K:PySem.W.Frag) (tl:TE):TI:=fun σ H R=>tl σ H fun x H1=>∃ a,x=.ref a∧(∃ xs,SqL K H1 a xs)∧R (Itl K a) H1
def iTup (K:PySem.W.Frag) (tl:TE):TI:=fun σ H R=>tl σ H fun x H1=>∃ a,x=.ref a∧(∃ xs,SqT K H1 a xs)∧R (Itt K a) H1
theorem pi_list {l:Expr} {tl:TE} (hl:PE X l tl):PI X tg l (iList X.K tl):=by
 intro pins s σ H R I h
 refine thn (hl pins s σ H _ I h) fun v s1 ⟨x,H1,I1,r1,q1⟩=>?_
 obtain ⟨a,e,⟨xs,hq⟩,q⟩:=q1
 subst e
 cases r1
 obtain ⟨its,rv,p,hz⟩:=I1.list hq
 refine wpAny_pyIter_list p.isList ?_
 refine ⟨s1.heap.objs.size,[s1.heap.objs.size],_,_,H1,rfl,I1.kept (t':=s1.toks) fun b o e=>Heap.get?_push_of_some _ e,turn_list a _,⟨_,Heap.get?_push_size _ rfl,rfl,rfl⟩,fun b hb=>?_,q⟩
 have e:b=s1.heap.objs.size:=by simpa using hb
 subst e
 exact I1.fpOk (Nat.le_refl _) (I1.hok.fresh (Nat.le_refl _))
theorem pi_tup {l:Expr} {tl:TE} (hl:PE X l tl):PI X tg l (iTup X.K tl):=by
 intro pins s σ H R I h
 refine thn (hl pins s σ H _ I h) fun v s1 ⟨x,H1,I1,r1,q1⟩=>?_
 obtain ⟨a,e,⟨xs,hq⟩,q⟩:=q1
 subst e
 cases r1
 obtain ⟨its,rv,p,hz⟩:=I1.tuple hq
 refine wpAny_pyIter_tuple (show s1.heap.IsTuple a its.toArray from p) ?_
 refine ⟨s1.heap.objs.size,[s1.heap.objs.size],_,_,H1,rfl,I1.kept (t':=s1.toks) fun b o e=>Heap.get?_push_of_some _ e,turn_tuple a _,⟨_,Heap.get?_push_size _ rfl,rfl,rfl⟩,fun b hb=>?_,q⟩
 have e:b=s1.heap.objs.size:=by simpa using hb
 subst e
 exact I1.fpOk (Nat.le_refl _) (I1.hok.fresh (Nat.le_refl _))
theorem range_it {pins:List (Addr × Obj)} {σ:St} {H:Hp} {s:Shared} {R:It→Hp→Prop} {E:Value→Shared→Prop} {lo hi:Int} {t u v:Tok} {tk:Nat} (I:Inv X pins σ H s) (h1:-(2 ^ 62)≤lo) (h2:lo < 2 ^ 62) (h3:-(2 ^ 62)≤hi) (h4:hi < 2 ^ 62)
  (q:R (Itr lo (hi - lo).toNat) H):wpAny (model X.prog X.w) X.A (pyIter (.ref s.heap.objs.size)) (PIE X pins σ tg R) E { s with heap:=s.heap.push { cls:=.type "range",data:=.fields #[.int lo t,.int hi u,.int 1 v] },toks:=tk }:=by
 refine wpAny_pyIter_range (IsRange.new ..) (small_one h1 h2 h3 h4) ?_
 have I1:Inv X pins σ H { s with heap:=s.heap.push { cls:=.type "range",data:=.fields #[.int lo t,.int hi u,.int 1 v] },toks:=tk }:=I.kept fun b o e=>Heap.get?_push_of_some _ e
 refine ⟨(s.heap.push { cls:=.type "range",data:=.fields #[.int lo t,.int hi u,.int 1 v] }).objs.size,[(s.heap.push { cls:=.type "range",data:=.fields #[.int lo t,.int hi u,.int 1 v] }).objs.size],_,_,H,rfl,
  I1.kept (t':=tk) fun b o e=>Heap.get?_push_of_some _ e,turn_range _ lo (hi - lo).toNat,?_,fun b hb=>?_,q⟩
 ·have e1:lo + ((0:Nat):Int) * 1=lo:=by simp
  have e2:(((hi - lo).toNat:Nat):Int) - ((0:Nat):Int)=Builtin.Range.rangeSize lo hi 1:=by rw [rangeSize_one]; split <;> omega
  show IsRangeIter _ _ (lo + ((0:Nat):Int) * 1) ((((hi - lo).toNat:Nat):Int) - ((0:Nat):Int)) 1
  rw [e1,e2]
  exact Heap.get?_push_size _ rfl
 ·have e:b=(s.heap.push { cls:=.type "range",data:=.fields #[.int lo t,.int hi u,.int 1 v] }).objs.size:=by simpa using hb
  subst e
  exact I1.fpOk (Nat.le_refl _) (I1.hok.fresh (Nat.le_refl _))
def iRng1 (ta:TA):TI:=fun σ H R=>ta σ H fun vs H1=>∃ j:Int,vs=[.int j]∧-(2 ^ 62)≤j∧j < 2 ^ 62∧R (Itr 0 j.toNat) H1
def iRng2 (ta:TA):TI:=fun σ H R=>ta σ H fun vs H1=>∃ i j:Int,vs=[.int i,.int j]∧(-(2 ^ 62)≤i∧i < 2 ^ 62∧-(2 ^ 62)≤j∧j < 2 ^ 62)∧R (Itr i (j - i).toNat) H1
theorem pi_range1 {a:Expr} {ta:TA} {p pos:Pos} (hg:Gl X "range") (hm:X.mg "range"=none) (ha:PA X [a] ta) (hs:starEach [a] X.env=[(false,eval a X.env)]:=by rfl):PI X tg (.Call (.Name "range" p) [a] [] pos) (iRng1 ta):=by
 intro pins s σ H R I h
 refine Call_ (ld_blt I hg hm boot_range (PyProof.Rows.callWith_type1 (thn (ha pos pins s σ H _ I h) fun us s1 ⟨vs,H1,I1,r1,q1⟩=>?_) hs rfl))
 obtain ⟨j,e,q1,q2,q⟩:=q1
 subst e
 cases r1 with
 | cons r rr =>
  cases rr
  obtain ⟨t,rfl⟩:=r
  exact call_range_1 (range_it I1 (by omega) (by omega) q1 q2 (by simpa using q))
theorem pi_range2 {a b:Expr} {ta:TA} {p pos:Pos} (hg:Gl X "range") (hm:X.mg "range"=none) (ha:PA X [a,b] ta) (hs:starEach [a,b] X.env=[(false,eval a X.env),(false,eval b X.env)]:=by rfl) (hs2:starEach [b] X.env=[(false,eval b X.env)]:=by rfl) :
  PI X tg (.Call (.Name "range" p) [a,b] [] pos) (iRng2 ta):=by
 intro pins s σ H R I h
 refine Call_ (ld_blt I hg hm boot_range (PyProof.Rows.callWith_type1 (thn (ha pos pins s σ H _ I h) fun us s1 ⟨vs,H1,I1,r1,q1⟩=>?_) (by rw [hs,hs2]) (by rw [hs2]; rfl)))
 obtain ⟨i,j,e,⟨q1,q2,q3,q4⟩,q⟩:=q1
 subst e
 cases r1 with
 | cons r rr =>
  cases rr with
  | cons r' rr =>
   cases rr
   obtain ⟨t,rfl⟩:=r
   obtain ⟨t',rfl⟩:=r'
   exact call_range_2 (range_it I1 q1 q2 q3 q4 q)
def tFor (wi:TI) (g:TG) (tb:TS):TS:=fun D σ H=>wi σ H fun J H1=>∃ W:Nat→Nat→St→Hp→Prop,(∃ m,W 0 m σ H1)∧∀ i m σ H,W i m σ H →
 (J.stop i H∧D.nx σ H)∨(J.go i H∧∃ N:St→Hp→Prop,(∀ σ' H',N σ' H'→∃ m',m' < m∧W (i + 1) m' σ' H')∧∀ x H',J.yld i H x H'→g x σ H' fun σ2 H2=>tb { D with nx:=N,ct:=N,bk:=D.nx } σ2 H2)
def pinsAt (fp:List Addr) (h:Heap):List (Addr × Obj):=fp.filterMap fun b=>(h.get? b).map fun o=>(b,o)
theorem mem_pinsAt {fp:List Addr} {h:Heap} {b:Addr} {o:Obj} (hb:b ∈ fp) (e:h.get? b=some o):(b,o) ∈ pinsAt fp h:=List.mem_filterMap.mpr ⟨b,hb,by rw [e]; rfl⟩
theorem of_pinsAt {fp:List Addr} {h:Heap} {p:Addr × Obj} (hp:p ∈ pinsAt fp h):p.1 ∈ fp∧h.get? p.1=some p.2:=by
 obtain ⟨b,hb,e⟩:=List.mem_filterMap.mp hp
 cases q:h.get? b with
 | none=>rw [q] at e; cases e
 | some o =>
  rw [q] at e
  have e':(b,o)=p:=Option.some.inj e
  subst e'
  exact ⟨hb,q⟩
theorem Inv.pinned {pins:List (Addr × Obj)} {σ:St} {H:Hp} {s:Shared} {fp:List Addr} (I:Inv X pins σ H s) (hf:∀ b ∈ fp,FpOk X pins H b) (ho:∀ b ∈ fp,∃ o,s.heap.get? b=some o∧∀ v,o.data≠.cell v):Inv X (pins ++ pinsAt fp s.heap) σ H s :=
 I.pins_of fun p hp=>(List.mem_append.mp hp).elim (fun z=>I.pin p (List.mem_append_right _ z)) fun z=>by
  obtain ⟨hb,e⟩:=of_pinsAt z
  obtain ⟨f0,f1,f2,_⟩:=hf p.1 hb
  obtain ⟨o,e',d⟩:=ho p.1 hb
  rw [e] at e'; cases e'
  exact ⟨e,f0,f1,f2,d⟩
theorem Inv.unpinned {pins pl:List (Addr × Obj)} {σ:St} {H:Hp} {s:Shared} (I:Inv X (pins ++ pl) σ H s):Inv X pins σ H s:=I.pins_of fun p hp=>I.pin p (List.mem_append_right _ (List.mem_append_left _ hp))
theorem ps_for {iter:Expr} {body:List Stmt} {wi:TI} {g:TG} {tb:TS} {pos:Pos} (hp:PassesOwn (model X.prog X.w) X.A X.env X.xe) (hc:X.calm=true) (hi:PI X tg iter wi) (hg:PG X tg g) (hb:PSs X body tb)
  (hs:∀ x,foldedSetIterable iter X.env x=pure x:=by intro _; rfl):PS X (.For tg iter body [] pos) (tFor wi g tb):=by
 intro pins s σ H D I h
 refine wpAny_For (thn (hi pins s σ H _ I h) fun v s1 h1=>thn h1 fun itv s2 h2=>?_) hs
 obtain ⟨it,fp,tn,J,H2,e,I2,T,st2,f2,W,⟨m0,w0⟩,turn⟩:=h2
 subst e
 -- what stays true of the iterator's objects through the loop
 have stat:∀ {H':Hp},(∀ b ∈ fp,H' b=none)→∀ b ∈ fp,FpOk X pins H' b:=fun hn b hb=>⟨hn b hb,(f2 b hb).2⟩
 refine codeAny_forLoop_any (fun n s'=>∃ i σ' H',Inv X pins σ' H' s'∧tn i s'.heap∧(∀ b ∈ fp,H' b=none)∧W i n σ' H') ?_ m0 ⟨0,σ,H2,I2,st2,fun b hb=>(f2 b hb).1,w0⟩
 rintro n s3 ⟨i,σ3,H3,I3,st3,fr3,w3⟩
 rcases turn i n σ3 H3 w3 with ⟨stop,qn⟩ | ⟨go,N,hN,step⟩
 ·refine wpAny_passesOwn hp (thn (T.done X rfl rfl rfl hc i pins s3 σ3 H3 X.xe I3 (stat fr3) st3 stop) fun r s4 ⟨hr,I4⟩=>?_)
  subst hr
  exact wpAny_execs_nil ⟨σ3,H3,I4,qn⟩
 ·refine wpAny_passesOwn hp (thn (T.item X rfl rfl rfl hc i pins s3 σ3 H3 X.xe I3 (stat fr3) st3 go) fun r s4 ⟨u,hr,h4⟩=>?_)
  subst hr
  refine wpAny_passesOwn hp (thn h4 fun _ s5 ⟨x,H5,I5,r5,y5,st5,fr5⟩=>?_)
  have I5':=I5.pinned (stat fr5) (T.obj _ _ st5)
  refine wpAny_passesOwn hp (thn (hg _ s5 σ3 H5 x u _ I5' r5 (step x H5 y5)) fun _ s6 ⟨σ6,H6,I6,q6⟩=>?_)
  refine wpAny_passesOwn hp (thn (hb _ s6 σ6 H6 _ I6 q6) fun f s7 q7=>?_)
  have again:∀ {σ7:St} {H7:Hp},Inv X (pins ++ pinsAt fp s5.heap) σ7 H7 s7→N σ7 H7→∃ m,m < n∧∃ i σ' H',Inv X pins σ' H' s7∧tn i s7.heap∧(∀ b ∈ fp,H' b=none)∧W i m σ' H':=fun {σ7 H7} I7 n7=>by
   obtain ⟨m',hm,w7⟩:=hN σ7 H7 n7
   refine ⟨m',hm,i + 1,σ7,H7,I7.unpinned,T.keep _ _ _ st5 fun b hb o e=>(I7.pin (b,o) (List.mem_append_right _ (List.mem_append_right _ (mem_pinsAt hb e)))).1,fun b hb=>?_,w7⟩
   obtain ⟨o,e,d⟩:=T.obj _ _ st5 b hb
   exact (I7.pin (b,o) (List.mem_append_right _ (List.mem_append_right _ (mem_pinsAt hb e)))).2.1
  cases f with
  | next=>obtain ⟨σ7,H7,I7,n7⟩:=q7; exact again I7 n7
  | cont=>obtain ⟨σ7,H7,I7,n7⟩:=q7; exact again I7 n7
  | brk=>obtain ⟨σ7,H7,I7,q7⟩:=q7; exact ⟨σ7,H7,I7.unpinned,q7⟩
  | ret v=>obtain ⟨x7,σ7,H7,I7,r7,q7⟩:=q7; exact ⟨x7,σ7,H7,I7.unpinned,r7,q7⟩
end
theorem for_list {K:PySem.W.Frag} {a:Addr} {xs:List V} {g:TG} {tb:TS} {D:Ends} {σ:St} {H:Hp} (Pv:Nat→St→Hp→Prop) (h0:Pv 0 σ H) (hl:∀ i σ H,i≤xs.length→Pv i σ H→SqL K H a xs)
  (hs:∀ i x σ H,xs[i]?=some x→Pv i σ H→g x σ H fun σ2 H2=>tb { D with nx:=Pv (i + 1),ct:=Pv (i + 1),bk:=D.nx } σ2 H2) (hd:∀ σ H,Pv xs.length σ H→D.nx σ H) :
  ∃ W:Nat→Nat→St→Hp→Prop,(∃ m,W 0 m σ H)∧∀ i m σ H,W i m σ H →
   ((Itl K a).stop i H∧D.nx σ H)∨((Itl K a).go i H∧∃ N:St→Hp→Prop,(∀ σ' H',N σ' H'→∃ m',m' < m∧W (i + 1) m' σ' H')∧∀ x H',(Itl K a).yld i H x H'→g x σ H' fun σ2 H2=>tb { D with nx:=N,ct:=N,bk:=D.nx } σ2 H2):=by
 refine ⟨fun i m σ H=>m=xs.length - i∧i≤xs.length∧Pv i σ H,⟨xs.length,by simp,Nat.zero_le _,h0⟩,?_⟩
 rintro i m σ H ⟨rfl,hi,p⟩
 have q:=hl i σ H hi p
 by_cases hlt:i < xs.length
 ·refine .inr ⟨⟨xs,xs[i],q,by simp [hlt]⟩,Pv (i + 1),fun σ' H' p'=>⟨xs.length - (i + 1),by omega,rfl,hlt,p'⟩,fun x H' y=>?_⟩
  obtain ⟨e,y⟩:=y
  subst e
  exact hs i x σ _ (y xs q) p
 ·have e:i=xs.length:=by omega
  subst e
  exact .inl ⟨⟨xs,q,Nat.le_refl _⟩,hd σ H p⟩
theorem for_tup {K:PySem.W.Frag} {a:Addr} {xs:List V} {g:TG} {tb:TS} {D:Ends} {σ:St} {H:Hp} (Pv:Nat→St→Hp→Prop) (h0:Pv 0 σ H) (hl:∀ i σ H,i≤xs.length→Pv i σ H→SqT K H a xs)
  (hs:∀ i x σ H,xs[i]?=some x→Pv i σ H→g x σ H fun σ2 H2=>tb { D with nx:=Pv (i + 1),ct:=Pv (i + 1),bk:=D.nx } σ2 H2) (hd:∀ σ H,Pv xs.length σ H→D.nx σ H) :
  ∃ W:Nat→Nat→St→Hp→Prop,(∃ m,W 0 m σ H)∧∀ i m σ H,W i m σ H →
   ((Itt K a).stop i H∧D.nx σ H)∨((Itt K a).go i H∧∃ N:St→Hp→Prop,(∀ σ' H',N σ' H'→∃ m',m' < m∧W (i + 1) m' σ' H')∧∀ x H',(Itt K a).yld i H x H'→g x σ H' fun σ2 H2=>tb { D with nx:=N,ct:=N,bk:=D.nx } σ2 H2):=by
 refine ⟨fun i m σ H=>m=xs.length - i∧i≤xs.length∧Pv i σ H,⟨xs.length,by simp,Nat.zero_le _,h0⟩,?_⟩
 rintro i m σ H ⟨rfl,hi,p⟩
 have q:=hl i σ H hi p
 by_cases hlt:i < xs.length
 ·refine .inr ⟨⟨xs,xs[i],q,by simp [hlt]⟩,Pv (i + 1),fun σ' H' p'=>⟨xs.length - (i + 1),by omega,rfl,hlt,p'⟩,fun x H' y=>?_⟩
  obtain ⟨e,y⟩:=y
  subst e
  exact hs i x σ _ (y xs q) p
 ·have e:i=xs.length:=by omega
  subst e
  exact .inl ⟨⟨xs,q,Nat.le_refl _⟩,hd σ H p⟩
theorem for_range {lo:Int} {n:Nat} {g:TG} {tb:TS} {D:Ends} {σ:St} {H:Hp} (Pv:Nat→St→Hp→Prop) (h0:Pv 0 σ H)
  (hs:∀ i σ H,i < n→Pv i σ H→g (.int (lo + i)) σ H fun σ2 H2=>tb { D with nx:=Pv (i + 1),ct:=Pv (i + 1),bk:=D.nx } σ2 H2) (hd:∀ σ H,Pv n σ H→D.nx σ H) :
  ∃ W:Nat→Nat→St→Hp→Prop,(∃ m,W 0 m σ H)∧∀ i m σ H,W i m σ H →
   ((Itr lo n).stop i H∧D.nx σ H)∨((Itr lo n).go i H∧∃ N:St→Hp→Prop,(∀ σ' H',N σ' H'→∃ m',m' < m∧W (i + 1) m' σ' H')∧∀ x H',(Itr lo n).yld i H x H'→g x σ H' fun σ2 H2=>tb { D with nx:=N,ct:=N,bk:=D.nx } σ2 H2):=by
 refine ⟨fun i m σ H=>m=n - i∧i≤n∧Pv i σ H,⟨n,by simp,Nat.zero_le _,h0⟩,?_⟩
 rintro i m σ H ⟨rfl,hi,p⟩
 by_cases hlt:i < n
 ·refine .inr ⟨hlt,Pv (i + 1),fun σ' H' p'=>⟨n - (i + 1),by omega,rfl,hlt,p'⟩,fun x H' y=>?_⟩
  obtain ⟨e,y⟩:=y
  subst e y
  exact hs i σ _ hlt p
 ·have e:i=n:=by omega
  subst e
  exact .inl ⟨Nat.le_refl _,hd σ H p⟩
end L2
namespace L2
open PySem PySem.Spec PyProof.Rows
abbrev R2:=V→V→Hp→VK→Prop
def OpR (X:Cx) (f:Value→Value→Sem Value) (r:R2):Prop :=
 ∀ (pins:List (Addr × Obj)) (s:Shared) (σ:St) (H:Hp) (x y:V) (v u:Value) (Q:VK),Inv X pins σ H s→RelV x v→RelV y u→r x y H Q →
  wpAny (model X.prog X.w) X.A (f v u) (EP X pins σ Q) X.xe s
def UnR (X:Cx) (f:Value→Sem Value) (r:V→Hp→VK→Prop):Prop :=
 ∀ (pins:List (Addr × Obj)) (s:Shared) (σ:St) (H:Hp) (x:V) (v:Value) (Q:VK),Inv X pins σ H s→RelV x v→r x H Q →
  wpAny (model X.prog X.w) X.A (f v) (EP X pins σ Q) X.xe s
def CallR (X:Cx) (f:Value) (r:List V→Hp→VK→Prop):Prop :=
 ∀ (pins:List (Addr × Obj)) (s:Shared) (σ:St) (H:Hp) (xs:List V) (us:List Value) (Q:VK),Inv X pins σ H s→Vals xs us→r xs H Q →
  wpAny (model X.prog X.w) X.A (call f us) (EP X pins σ Q) X.xe s
def TruR (X:Cx) (r:V→Hp→(Bool→Hp→Prop)→Prop):Prop :=
 ∀ (pins:List (Addr × Obj)) (s:Shared) (σ:St) (H:Hp) (x:V) (v:Value) (Q:Bool→Hp→Prop),Inv X pins σ H s→RelV x v→r x H Q →
  wpAny (model X.prog X.w) X.A (truthy v) (TP X pins σ Q) X.xe s
def tOp (r:R2) (ta tb:TE):TE:=fun σ H Q=>ta σ H fun x H1=>tb σ H1 fun y H2=>r x y H2 Q
def tUn (r:V→Hp→VK→Prop) (ta:TE):TE:=fun σ H Q=>ta σ H fun x H1=>r x H1 Q
def rI (C:Int→Int→Prop) (g:Int→Int→V):R2:=fun x y H Q=>∃ i j,x=.int i∧y=.int j∧C i j∧Q (g i j) H
def rI0 (g:Int→Int→V):R2:=fun x y H Q=>∃ i j,x=.int i∧y=.int j∧Q (g i j) H
def rU (g:Int→V):V→Hp→VK→Prop:=fun x H Q=>∃ i,x=.int i∧Q (g i) H
section
variable {X:Cx} {a b c:Expr} {ta tb tc:TE} {pos:Pos}
theorem binT (ha:PE X a ta) (hb:PE X b tb) {pins:List (Addr × Obj)} {s:Shared} {σ:St} {H:Hp} {R:V→V→Hp→Prop} (I:Inv X pins σ H s)
  (h:ta σ H fun x H1=>tb σ H1 fun y H2=>R x y H2) {Q:Value→Shared→Prop} {f:Value→Value→Sem Value}
  (hf:∀ v u s2 x y H2,Inv X pins σ H2 s2→RelV x v→RelV y u→R x y H2→wpAny (model X.prog X.w) X.A (f v u) Q X.xe s2) :
  wpAny (model X.prog X.w) X.A (eval a X.env) (fun v s₁=>wpAny (model X.prog X.w) X.A (eval b X.env) (fun u s₂=>wpAny (model X.prog X.w) X.A (f v u) Q X.xe s₂) X.xe s₁) X.xe s:=by
 refine thn (ha pins s σ H _ I h) fun v s1 ⟨x,H1,I1,r1,q1⟩=>?_
 refine thn (hb pins s1 σ H1 _ I1 q1) fun u s2 ⟨y,H2,I2,r2,q2⟩=>?_
 exact hf v u s2 x y H2 I2 r1 r2 q2
theorem pe_op {op:Operator} {r:R2} (ho:OpR X (binaryOp op) r) (ha:PE X a ta) (hb:PE X b tb):PE X (.BinOp a op b pos) (tOp r ta tb):=by
 intro pins s σ H Q I h
 exact wpAny_BinOp (binT ha hb I h fun v u s2 x y H2 I2 rx ry q=>ho pins s2 σ H2 x y v u Q I2 rx ry q)
theorem pe_un {op:UnaryOp} {r:V→Hp→VK→Prop} (ho:UnR X (unaryOp op) r) (ha:PE X a ta):PE X (.UnaryOp op a pos) (tUn r ta):=by
 intro pins s σ H Q I h
 exact UnaryOp_ (thn (ha pins s σ H _ I h) fun v s1 ⟨x,H1,I1,r1,q1⟩=>ho pins s1 σ H1 x v Q I1 r1 q1)
theorem opI {f:Value→Value→Sem Value} {C:Int→Int→Prop} {g:Int→Int→Int}
  (rule:∀ (i j:Int) (t u:Tok) (s:Shared) (Q:Value→Shared→Prop) (E:Value→Shared→Prop),C i j→Q (.int (g i j) s.toks) { s with toks:=s.toks + 1 }→wpAny (model X.prog X.w) X.A (f (.int i t) (.int j u)) Q E s) :
  OpR X f (rI C fun i j=>.int (g i j)):=by
 intro pins s σ H x y v u Q I rx ry h
 obtain ⟨i,j,rfl,rfl,hc,q⟩:=h
 obtain ⟨t,rfl⟩:=rx
 obtain ⟨t',rfl⟩:=ry
 exact rule i j t t' s _ _ hc ⟨.int (g i j),H,I.tok _,⟨_,rfl⟩,q⟩
theorem opI0 {f:Value→Value→Sem Value} {g:Int→Int→Int}
  (rule:∀ (i j:Int) (t u:Tok) (s:Shared) (Q:Value→Shared→Prop) (E:Value→Shared→Prop),Q (.int (g i j) s.toks) { s with toks:=s.toks + 1 }→wpAny (model X.prog X.w) X.A (f (.int i t) (.int j u)) Q E s) :
  OpR X f (rI0 fun i j=>.int (g i j)):=by
 intro pins s σ H x y v u Q I rx ry h
 obtain ⟨i,j,rfl,rfl,q⟩:=h
 obtain ⟨t,rfl⟩:=rx
 obtain ⟨t',rfl⟩:=ry
 exact rule i j t t' s _ _ ⟨.int (g i j),H,I.tok _,⟨_,rfl⟩,q⟩
theorem opB0 {f:Value→Value→Sem Value} {g:Int→Int→Bool}
  (rule:∀ (i j:Int) (t u:Tok) (s:Shared) (Q:Value→Shared→Prop) (E:Value→Shared→Prop),Q (.bool (g i j)) s→wpAny (model X.prog X.w) X.A (f (.int i t) (.int j u)) Q E s) :
  OpR X f (rI0 fun i j=>.bl (g i j)):=by
 intro pins s σ H x y v u Q I rx ry h
 obtain ⟨i,j,rfl,rfl,q⟩:=h
 obtain ⟨t,rfl⟩:=rx
 obtain ⟨t',rfl⟩:=ry
 exact rule i j t t' s _ _ ⟨.bl (g i j),H,I,rfl,q⟩
def CDiv (i j:Int):Prop:=0 < j∧j < 1073741824
def CPow (i j:Int):Prop:=0≤j∧j≤1000000∧i.natAbs < 2 ^ 64
def CMul (i j:Int):Prop:=(-(2 ^ 64) < i∧i < 2 ^ 64)∨(-(2 ^ 64) < j∧j < 2 ^ 64)
theorem CMul.ok {i j:Int} (h:CMul i j):IntMulOk i j:=by
 rcases h with ⟨h1,h2⟩ | ⟨h1,h2⟩
 ·exact .of_left (intBits_le_64 h1 h2)
 ·exact .of_right (intBits_le_64 h1 h2)
theorem op_add:OpR X (binaryOp .Add) (rI0 fun i j=>.int (i + j)):=opI0 fun _ _ _ _ _ _ _ q=>add_int q
theorem op_sub:OpR X (binaryOp .Sub) (rI0 fun i j=>.int (i - j)):=opI0 fun _ _ _ _ _ _ _ q=>sub_int q
theorem op_mul:OpR X (binaryOp .Mult) (rI CMul fun i j=>.int (i * j)):=opI fun _ _ _ _ _ _ _ hc q=>mul_int q hc.ok
theorem op_fdiv:OpR X (binaryOp .FloorDiv) (rI CDiv fun i j=>.int (i / j)):=opI fun i j _ _ _ _ _ hc q=>by
 have h1:(0:Int) < j:=hc.1
 have h2:j < 1073741824:=hc.2
 exact floordiv_int (by omega) (by rw [Int.fdiv_eq_ediv_of_nonneg i (by omega)]; exact q) (.inl (PyProof.noPylong_small (by omega)))
theorem op_mod:OpR X (binaryOp .Mod) (rI (fun _ j=>0 < j) fun i j=>.int (i % j)):=opI fun i j _ _ _ _ _ hc q=>by
 have h1:(0:Int) < j:=hc
 exact mod_int' (by omega) (by rw [Int.fmod_eq_emod_of_nonneg i (by omega)]; exact q)
theorem op_pow:OpR X (binaryOp .Pow) (rI CPow fun i j=>.int (i ^ j.toNat)):=opI fun _ _ _ _ _ _ _ hc q=>pow_int_small hc.1 hc.2.1 hc.2.2 q
theorem unI {f:Value→Sem Value} {g:Int→Int}
  (rule:∀ (i:Int) (t:Tok) (s:Shared) (Q:Value→Shared→Prop) (E:Value→Shared→Prop),Q (.int (g i) s.toks) { s with toks:=s.toks + 1 }→wpAny (model X.prog X.w) X.A (f (.int i t)) Q E s) :
  UnR X f (rU fun i=>.int (g i)):=by
 intro pins s σ H x v Q I rx h
 obtain ⟨i,rfl,q⟩:=h
 obtain ⟨t,rfl⟩:=rx
 exact rule i t s _ _ ⟨.int (g i),H,I.tok _,⟨_,rfl⟩,q⟩
theorem un_neg:UnR X (unaryOp .USub) (rU fun i=>.int (-i)):=unI fun _ _ _ _ _ q=>neg_int q
end
def scal:V→V→Bool
 | .non,.non=>true | .non,.int _=>true | .int _,.non=>true | .non,.bl _=>true | .bl _,.non=>true | .non,.str _=>true | .str _,.non=>true
 | .int _,.int _=>true | .bl _,.bl _=>true | .str _,.str _=>true | .byt _,.byt _=>true
 | .int _,.str _=>true | .str _,.int _=>true | .bl _,.str _=>true | .str _,.bl _=>true
 | _,_=>false
def rEq:R2:=fun x y H Q=>scal x y=true∧Q (.bl (decide (x=y))) H
def rNe:R2:=fun x y H Q=>scal x y=true∧Q (.bl (!decide (x=y))) H
theorem dec_int {i j:Int}:decide (V.int i=V.int j)=(i == j):=by
 rw [Bool.eq_iff_iff]
 simp
theorem dec_bl {i j:Bool}:decide (V.bl i=V.bl j)=(i == j):=by
 rw [Bool.eq_iff_iff]
 simp
theorem dec_str {i j:Str}:decide (V.str i=V.str j)=(i == j):=by
 rw [Bool.eq_iff_iff]
 simp
theorem dec_byt {i j:Array UInt8}:decide (V.byt i=V.byt j)=(i.toList == j.toList):=by
 rw [Bool.eq_iff_iff]
 cases i
 cases j
 simp
section
variable {X:Cx} {a b c:Expr} {ta tb tc:TE} {pos:Pos}
theorem fin_bl {pins:List (Addr × Obj)} {σ:St} {H:Hp} {s:Shared} {Q:VK} {k k':Bool} (I:Inv X pins σ H s) (q:Q (.bl k) H) (e:k=k'):EP X pins σ Q (.bool k') s:=by
 subst e
 exact ⟨.bl k,H,I,rfl,q⟩
theorem op_eq:OpR X (compareOp .Eq) rEq:=by
 intro pins s σ H x y v u Q I rx ry h
 obtain ⟨hs,q⟩:=h
 cases x with
 | non =>
  cases rx
  cases y with
  | non=>cases ry; exact PySem.EqNone.eq_none_none (fin_bl I q (by simp))
  | bl j=>cases ry; exact PySem.EqNone.eq_none_bool (fin_bl I q (by simp))
  | int j=>obtain ⟨t',rfl⟩:=ry; exact PySem.EqNone.eq_none_int (fin_bl I q (by simp))
  | str j=>obtain ⟨t',rfl⟩:=ry; exact PySem.EqNone.eq_none_str (fin_bl I q (by simp))
  | _=>exact absurd (show false=true from hs) Bool.false_ne_true
 | bl i =>
  cases rx
  cases y with
  | non=>cases ry; exact PySem.EqNone.eq_bool_none (fin_bl I q (by simp))
  | bl j=>cases ry; exact eq_bool (fin_bl I q dec_bl)
  | str j=>obtain ⟨t',rfl⟩:=ry; exact PySem.EqMixed.eq_bool_str (fin_bl I q (by simp))
  | _=>exact absurd (show false=true from hs) Bool.false_ne_true
 | int i =>
  obtain ⟨t,rfl⟩:=rx
  cases y with
  | non=>cases ry; exact PySem.EqNone.eq_int_none (fin_bl I q (by simp))
  | int j=>obtain ⟨t',rfl⟩:=ry; exact eq_int (fin_bl I q dec_int)
  | str j=>obtain ⟨t',rfl⟩:=ry; exact PySem.EqMixed.eq_int_str (fin_bl I q (by simp))
  | _=>exact absurd (show false=true from hs) Bool.false_ne_true
 | str i =>
  obtain ⟨t,rfl⟩:=rx
  cases y with
  | non=>cases ry; exact PySem.EqNone.eq_str_none (fin_bl I q (by simp))
  | bl j=>cases ry; exact PySem.EqMixed.eq_str_bool (fin_bl I q (by simp))
  | int j=>obtain ⟨t',rfl⟩:=ry; exact PySem.EqMixed.eq_str_int (fin_bl I q (by simp))
  | str j=>obtain ⟨t',rfl⟩:=ry; exact eq_str (fin_bl I q dec_str)
  | _=>exact absurd (show false=true from hs) Bool.false_ne_true
 | byt i =>
  obtain ⟨t,rfl⟩:=rx
  cases y with
  | byt j=>obtain ⟨t',rfl⟩:=ry; exact PySem.W.eq_bytes (fin_bl I q dec_byt)
  | _=>exact absurd (show false=true from hs) Bool.false_ne_true
 | _=>cases y <;> exact absurd (show false=true from hs) Bool.false_ne_true
theorem op_ne:OpR X (compareOp .NotEq) rNe:=by
 intro pins s σ H x y v u Q I rx ry h
 obtain ⟨hs,q⟩:=h
 cases x with
 | non =>
  cases rx
  cases y with
  | non=>cases ry; exact PySem.EqNone.ne_none_none (fin_bl I q (by simp))
  | bl j=>cases ry; exact PySem.EqNone.ne_none_bool (fin_bl I q (by simp))
  | int j=>obtain ⟨t',rfl⟩:=ry; exact PySem.EqNone.ne_none_int (fin_bl I q (by simp))
  | str j=>obtain ⟨t',rfl⟩:=ry; exact PySem.EqNone.ne_none_str (fin_bl I q (by simp))
  | _=>exact absurd (show false=true from hs) Bool.false_ne_true
 | bl i =>
  cases rx
  cases y with
  | non=>cases ry; exact PySem.EqNone.ne_bool_none (fin_bl I q (by simp))
  | bl j=>cases ry; exact ne_bool (fin_bl I q (congrArg not dec_bl))
  | str j=>obtain ⟨t',rfl⟩:=ry; exact PySem.EqMixed.ne_bool_str (fin_bl I q (by simp))
  | _=>exact absurd (show false=true from hs) Bool.false_ne_true
 | int i =>
  obtain ⟨t,rfl⟩:=rx
  cases y with
  | non=>cases ry; exact PySem.EqNone.ne_int_none (fin_bl I q (by simp))
  | int j=>obtain ⟨t',rfl⟩:=ry; exact ne_int (fin_bl I q (congrArg not dec_int))
  | str j=>obtain ⟨t',rfl⟩:=ry; exact PySem.EqMixed.ne_int_str (fin_bl I q (by simp))
  | _=>exact absurd (show false=true from hs) Bool.false_ne_true
 | str i =>
  obtain ⟨t,rfl⟩:=rx
  cases y with
  | non=>cases ry; exact PySem.EqNone.ne_str_none (fin_bl I q (by simp))
  | bl j=>cases ry; exact PySem.EqMixed.ne_str_bool (fin_bl I q (by simp))
  | int j=>obtain ⟨t',rfl⟩:=ry; exact PySem.EqMixed.ne_str_int (fin_bl I q (by simp))
  | str j=>obtain ⟨t',rfl⟩:=ry; exact ne_str (fin_bl I q (congrArg not dec_str))
  | _=>exact absurd (show false=true from hs) Bool.false_ne_true
 | byt i =>
  obtain ⟨t,rfl⟩:=rx
  cases y with
  | byt j=>obtain ⟨t',rfl⟩:=ry; exact PySem.W.ne_bytes (fin_bl I q (congrArg not dec_byt))
  | _=>exact absurd (show false=true from hs) Bool.false_ne_true
 | _=>cases y <;> exact absurd (show false=true from hs) Bool.false_ne_true
theorem op_lt:OpR X (compareOp .Lt) (rI0 fun i j=>.bl (decide (i < j))):=opB0 fun _ _ _ _ _ _ _ q=>lt_int q
theorem op_le:OpR X (compareOp .LtE) (rI0 fun i j=>.bl (decide (i≤j))):=opB0 fun _ _ _ _ _ _ _ q=>le_int q
theorem op_gt:OpR X (compareOp .Gt) (rI0 fun i j=>.bl (decide (j < i))):=opB0 fun _ _ _ _ _ _ _ q=>gt_int q
theorem op_ge:OpR X (compareOp .GtE) (rI0 fun i j=>.bl (decide (j≤i))):=opB0 fun _ _ _ _ _ _ _ q=>ge_int q
theorem op_isN:OpR X (compareOp .Is) (fun x y H Q=>y=.non∧Q (.bl (decide (x=.non))) H):=by
 intro pins s σ H x y v u Q I rx ry h
 obtain ⟨rfl,q⟩:=h
 cases ry
 refine is_none_gen (fin_bl I q ?_)
 cases x <;> first
  | (cases rx; rfl)
  | (obtain ⟨t,rfl⟩:=rx; rfl)
theorem nomark (b:Expr) {op:CmpOp} (h:op≠.In:=by decide) (h2:op≠.NotIn:=by decide):behindInMarks op b=false:=by
 have e1:(op == CmpOp.In)=false:=by cases op <;> first | rfl | exact absurd rfl h
 have e2:(op == CmpOp.NotIn)=false:=by cases op <;> first | rfl | exact absurd rfl h2
 cases b <;> simp [behindInMarks,e1,e2]
theorem pe_cmpR {op:CmpOp} {r:R2} (ho:OpR X (compareOp op) r) (ha:PE X a ta) (hb:PE X b tb) (hm:behindInMarks op b=false):PE X (.Compare a [op] [b] pos) (tOp r ta tb):=by
 intro pins s σ H Q I h
 exact wpAny_Compare1 (binT ha hb I h fun v u s2 x y H2 I2 rx ry q=>ho pins s2 σ H2 x y v u Q I2 rx ry q) hm
def tTest (t:TE):TT:=fun σ H Q=>t σ H fun x H'=>∃ k,x=.bl k∧Q k H'
theorem pt_cmpR {op:CmpOp} {r:R2} (ho:OpR X (compareOp op) r) (ha:PE X a ta) (hb:PE X b tb) (hm:behindInMarks op b=false):PT X (.Compare a [op] [b] pos) (tTest (tOp r ta tb)):=by
 intro pins s σ H Q I h
 refine wpAny_isTrue_Compare1 (thn (ha pins s σ H _ I h) fun v s1 ⟨x,H1,I1,r1,q1⟩=>thn (hb pins s1 σ H1 _ I1 q1) fun u s2 ⟨y,H2,I2,r2,q2⟩ =>
  thn (ho pins s2 σ H2 x y v u _ I2 r1 r2 q2) fun c s3 ⟨z,H3,I3,r3,k,e,q3⟩=>?_) hm
 subst e
 cases r3
 exact wpAny_truthy_bool ⟨H3,I3,q3⟩
def tChain (r r':R2) (ta tb tc:TE):TE:=fun σ H Q=>ta σ H fun x H1=>tb σ H1 fun y H2=>r x y H2 fun z H3=>∃ k,z=.bl k ∧
 (if k=true then tc σ H3 fun w' H4=>r' y w' H4 Q else Q (.bl false) H3)
theorem pt_chain {op op':CmpOp} {r r':R2} (ho:OpR X (compareOp op) r) (ho':OpR X (compareOp op') r') (ha:PE X a ta) (hb:PE X b tb) (hc:PE X c tc)
  (hm:lastMarks [op,op'] [b,c]=false:=by with_unfolding_all rfl):PT X (.Compare a [op,op'] [b,c] pos) (tTest (tChain r r' ta tb tc)):=by
 intro pins s σ H Q I h
 refine isTrue_chain (thn (ha pins s σ H _ I h) fun v s1 ⟨x,H1,I1,r1,q1⟩=>test_link (thn (hb pins s1 σ H1 _ I1 q1) fun u s2 ⟨y,H2,I2,r2,q2⟩ =>
  thn (ho pins s2 σ H2 x y v u _ I2 r1 r2 q2) fun d s3 ⟨z,H3,I3,r3,k,e,q3⟩=>?_)) hm
 subst e
 cases r3
 refine wpAny_truthy_bool ?_
 cases k with
 | false =>
  obtain ⟨k',e',q'⟩:=q3
  cases e'
  exact ite_ff ⟨H3,I3,q'⟩
 | true =>
  refine ite_tt (test_last (thn (hc pins s3 σ H3 _ I3 q3) fun w' s4 ⟨z',H4,I4,r4,q4⟩=>thn (ho' pins s4 σ H4 y z' u w' _ I4 r2 r4 q4) fun d' s5 ⟨z2,H5,I5,r5,k2,e2,q5⟩=>?_))
  subst e2
  cases r5
  exact wpAny_truthy_bool ⟨H5,I5,q5⟩
def TruV (K:PySem.W.Frag) (x:V) (H:Hp) (k:Bool):Prop :=
 match x with
 | .non=>k=false
 | .bl b=>k=b
 | .int i=>k=(i != 0)
 | .str y=>y.length≤sizeLine∧k=((y.length:Int) != 0)
 | .byt y=>y.size≤sizeLine∧k=((y.size:Int) != 0)
 | .ref p=>(∃ xs,SqL K H p xs∧k=!xs.isEmpty)∨(∃ xs,SqT K H p xs∧k=!xs.isEmpty)∨∃ kvs,H p=some (.dK kvs)∧k=!kvs.isEmpty
 | _=>False
theorem isEmpty_kv {κ:Type} {kvs:List (κ × V)} {vs:List (κ × Value)} (r:KV kvs vs):(!vs.isEmpty)=!kvs.isEmpty:=by
 cases r <;> rfl
theorem isEmpty_of {xs:List V} {its:List Value} (r:Vals xs its):(!its.toArray.isEmpty)=!xs.isEmpty:=by
 cases r <;> simp
theorem line63:(sizeLine:Nat) < 2 ^ 63:=by rw [sizeLine_eq]; decide
theorem tru_ok:TruR X (fun x H Q=>∃ k,TruV X.K x H k∧Q k H):=by
 intro pins s σ H x v Q I rx h
 obtain ⟨k,e,q⟩:=h
 have hl:=line63
 have hs:sizeLine=16777216:=sizeLine_eq
 cases x with
 | non =>
  cases rx
  have e':k=false:=e
  subst e'
  exact truthy_none ⟨H,I,q⟩
 | bl b =>
  cases rx
  have e':k=b:=e
  subst e'
  exact wpAny_truthy_bool ⟨H,I,q⟩
 | int i =>
  obtain ⟨t,rfl⟩:=rx
  have e':k=(i != 0):=e
  subst e'
  exact PySem.P.truthy_int ⟨H,I,q⟩
 | str y =>
  obtain ⟨t,rfl⟩:=rx
  obtain ⟨hy,e'⟩:y.length≤sizeLine∧k=((y.length:Int) != 0):=e
  subst e'
  exact PySem.P.truthy_str (by omega) ⟨H,I.tok _,q⟩
 | byt y =>
  obtain ⟨t,rfl⟩:=rx
  obtain ⟨hy,e'⟩:y.size≤sizeLine∧k=((y.size:Int) != 0):=e
  subst e'
  exact PySem.W.truthy_bytes (by omega) ⟨H,I.tok _,q⟩
 | ref p =>
  cases rx
  have e':(∃ xs,SqL X.K H p xs∧k=!xs.isEmpty)∨(∃ xs,SqT X.K H p xs∧k=!xs.isEmpty)∨∃ kvs,H p=some (.dK kvs)∧k=!kvs.isEmpty:=e
  rcases e' with ⟨xs,hx,e'⟩ | ⟨xs,hx,e'⟩ | ⟨kvs,hx,e'⟩
  ·subst e'
   obtain ⟨its,r,pl,hz⟩:=I.list hx
   have hlen:=r.length
   exact wpAny_truthy_list pl.isList (by simp only [List.size_toArray]; omega) ⟨H,I.tok _,by rw [isEmpty_of r]; exact q⟩
  ·subst e'
   obtain ⟨its,r,pl,hz⟩:=I.tuple hx
   have hlen:=r.length
   exact truthy_tuple pl (by simp only [List.size_toArray]; omega) ⟨H,I.tok _,by rw [isEmpty_of r]; exact q⟩
  ·subst e'
   obtain ⟨hz,hS,vs,r,m⟩:kvs.length≤sizeLine∧(p == sysModules)=false∧∃ vs,KV kvs vs∧s.heap.DictOf (mixKind X.prog X.w) p vs:=I.hok p _ hx
   have hlen:kvs.length=vs.length:=Paired.length r
   exact wpAny_truthy_dict hS m (by omega) ⟨H,I.tok _,by rw [isEmpty_kv r]; exact q⟩
 | _=>exact (show False from e).elim
theorem pt_truth (ha:PE X a ta) (he:∀ whole,isTrue a X.env whole=(do let v ← whole; standAt a.pos; holding [v] (truthy v))) :
  PT X a (fun σ H Q=>ta σ H fun x H'=>∃ k,TruV X.K x H' k∧Q k H'):=by
 intro pins s σ H Q I h
 exact isTrue_plain (thn (ha pins s σ H _ I h) fun v s1 ⟨x,H1,I1,r1,q1⟩=>tru_ok pins s1 σ H1 x v Q I1 r1 q1) (he _)
theorem op_add_str:OpR X (binaryOp .Add) (fun x y H Q=>∃ i j,x=.str i∧y=.str j∧i.length + j.length≤sizeLine∧Q (.str (i ++ j)) H):=by
 intro pins s σ H x y v u Q I rx ry h
 obtain ⟨i,j,rfl,rfl,hz,q⟩:=h
 obtain ⟨t,rfl⟩:=rx
 obtain ⟨t',rfl⟩:=ry
 exact add_str (fun t' tk=>⟨.str (i ++ j),H,I.tok _,⟨_,rfl⟩,q⟩) hz
theorem vals1 {x:V} {us:List Value} (r:Vals [x] us):∃ u,us=[u]∧RelV x u:=by
 cases r with
 | cons r1 r2=>cases r2; exact ⟨_,rfl,r1⟩
theorem vals2 {x y:V} {us:List Value} (r:Vals [x,y] us):∃ u w',us=[u,w']∧RelV x u∧RelV y w':=by
 cases r with
 | cons r1 r2 =>
  cases r2 with
  | cons r3 r4=>cases r4; exact ⟨_,_,rfl,r1,r3⟩
theorem call_min2 (hc:X.calm=true):CallR X (.builtin "min") (fun xs H Q=>∃ i j,xs=[.int i,.int j]∧Q (.int (if j < i then j else i)) H):=by
 intro pins s σ H xs us Q I r h
 obtain ⟨i,j,rfl,q⟩:=h
 obtain ⟨u,w',rfl,⟨t,rfl⟩,⟨t',rfl⟩⟩:=vals2 r
 refine min_two_ints (I.ok.hd hc) fun h' tk k=>⟨_,H,I.kept k,?_,q⟩
 by_cases hj:j < i
 ·rw [if_pos hj,if_pos hj]; exact ⟨_,rfl⟩
 ·rw [if_neg hj,if_neg hj]; exact ⟨_,rfl⟩
theorem call_str_int:CallR X (.type "str") (fun xs H Q=>∃ i,xs=[.int i]∧i.natAbs.log2 < 1920∧Q (.str (toString i)) H):=by
 intro pins s σ H xs us Q I r h
 obtain ⟨i,rfl,hz,q⟩:=h
 obtain ⟨u,rfl,t,rfl⟩:=vals1 r
 exact PySem.P.str_of_int hz ⟨.str _,H,I.tok _,⟨_,rfl⟩,q⟩
theorem call_ord:CallR X (.builtin "ord") (fun xs H Q=>∃ x,xs=[.str x]∧x.length=1∧Q (.int (x.cps.getD 0 0:Nat)) H):=by
 intro pins s σ H xs us Q I r h
 obtain ⟨x,rfl,hz,q⟩:=h
 obtain ⟨u,rfl,t,rfl⟩:=vals1 r
 exact ord_of_one hz ⟨.int _,H,I.tok _,⟨_,rfl⟩,q⟩
end
end L2
namespace L2
open PySem PySem.Spec PyProof.Rows
structure ObjM (h:Heap) (x dx C:Addr) (mA:Str→Option Value):Prop where
 obj:h.get? x=some (PySem.W.instObj C dx)
 ns:h.Ns1 dx mA
 ne:dx≠x
theorem lookIn_ns {h:Heap} {dx:Addr} {mA:Str→Option Value} (n:h.Ns1 dx mA):∃ od,h.get? dx=some od∧∀ name,PySem.W.lookIn name od=some (mA name):=by
 obtain ⟨o,es,ep,ho,hd,hk,_,hm⟩:=n
 refine ⟨o,ho,fun name=>?_⟩
 have e:=hm name
 unfold nsFind findBy at e
 rw [← Array.find?_toList] at e
 unfold PySem.W.lookIn
 rw [hd]
 dsimp only
 split
 ·rename_i y q
  rw [q] at e
  exact congrArg some e
 ·rename_i q
  rw [q] at e
  have a:es.toList.any (·.refKey)=false:=by
   rw [List.any_eq_false]
   intro y hy
   obtain ⟨z,t,hkey⟩:=hk y (Array.mem_toList_iff.mp hy)
   simp [DictEntry.refKey,hkey]
  have a':¬ es.toList.any (·.refKey)=true:=by rw [a]; exact Bool.false_ne_true
  rw [if_neg a']
  exact congrArg some e
theorem ObjM.look {h:Heap} {x dx C:Addr} {mA:Str→Option Value} (I:ObjM h x dx C mA):∃ od,PySem.W.InstAt h x (PySem.W.instObj C dx) C (some od)∧∀ name,PySem.W.lookIn name od=some (mA name) :=
 let ⟨od,ho,hl⟩:=lookIn_ns I.ns
 ⟨od,⟨I.obj,rfl,rfl,ho⟩,hl⟩
section
variable {prog:Program} {w:World} {A:Around} {E:Value→Shared→Prop} {s:Shared} {K:PySem.W.Frag} {x dx C f:Addr} {mA:Str→Option Value} {name:Str} {v:Value}
theorem get_map {expr:Bool} {Q:Value→Shared→Prop} (X:K.In s.heap) (I:ObjM s.heap x dx C mA) (hg:PySem.W.plainGet K C name=true) (hh:PySem.W.hasDictIn K C=true)
  (ha:PySem.W.findIn K (.ref C) name=some none) (hv:mA name=some v) (hv':PySem.W.handedIn v=true) (h:Q v { s with toks:=s.toks + 1 }) :
  wpAny (model prog w) A (getAttr (.ref x) name expr) Q E s:=by
 obtain ⟨od,J,hl⟩:=I.look
 exact PySem.W.get_value X J (PySem.W.plainGet_of hg).1 (PySem.W.findObj_own hh ha rfl (by rw [hl,hv])) hv' h
theorem get_meth {pl:Sem Bool} {Q:Value × List Value→Shared→Prop} (X:K.In s.heap) (I:ObjM s.heap x dx C mA) (hg:PySem.W.plainGet K C name=true)
  (hf:PySem.W.findIn K (.ref C) name=some (some (.ref f))) (ht:PySem.W.isFn K (.ref f)=true) (hv:mA name=none) (h:Q (.ref f,[.ref x]) s) :
  wpAny (model prog w) A (getMethod (.ref x) name pl) Q E s:=by
 obtain ⟨od,J,hl⟩:=I.look
 exact PySem.W.method_fn X J (PySem.W.plainGet_of hg).1 (PySem.W.plainGet_of hg).2 hf (beq_iff_eq.mp ht) (by show (PySem.W.lookIn name od).map (·.isSome)=some false; rw [hl,hv]; rfl) h
theorem set_map {ns:List Str} {Q:Unit→Shared→Prop} (X:K.In s.heap) (I:ObjM s.heap x dx C mA)
  (hs:PySem.W.findIn K (.ref C) "__setattr__"=some (some (.builtin "object.__setattr__"))) (hp:PySem.W.plainOver K C=true) (ht:PySem.W.takerIn K C name=some none) (hh:PySem.W.hasDictIn K C=true)
  (hw:PySem.Within mA ns) (hsz:ns.length≤sizeLine)
  (h:∀ h',ObjM h' x dx C (fun y=>if y=name then some v else mA y)→Heap.SameBut dx s.heap h'→Q () { s with heap:=h',toks:=s.toks + 2 }) :
  wpAny (model prog w) A (setAttr (.ref x) name v) Q E s:=by
 obtain ⟨od,J,hl⟩:=I.look
 refine PySem.W.set_plain X J hs (PySem.W.osa_open (s:={ s with toks:=s.toks + 1 }) (r:=none) X J hp ht fun b=>?_)
 obtain ⟨cd,hc,hd'⟩:=PySem.W.any_some hh
 have hx:s.heap.get? x=some ⟨.ref C,some dx,.plain,#[]⟩:=I.obj
 refine wpAny_bind (wpAny_pure (wpAny_bind (wpAny_bind (wpAny_loadPart hx (wpAny_bind (PySem.W.Looks.here (s:={ s with toks:=s.toks + 1 }) (PySem.W.looks_clsIn X hc) ?_))))))
 rw [hd']
 refine wpAny_pure (a:=some dx) (wpAny_bind (wpAny_pure (wpAny_bind ?_)))
 refine wpAny_nsSet1 (s:={ s with toks:=s.toks + 1 }) I.ns fun h' hn2 hs2=>?_
 obtain ⟨oD,esD,epD,hoD,hdD,hcD⟩:=hn2.count (PySem.Within.cons name v hw)
 refine wpAny_bind (wpAny_lookBehind hoD (by rw [hdD]; exact pastItsLine_dict (Nat.le_trans hcD (by rw [List.length_cons]; omega))) ?_)
 exact wpAny_pure (h _ ⟨(hs2.2 _ (Ne.symm I.ne)).trans I.obj,hn2,I.ne⟩ hs2)
theorem make_map {R:Result→Shared→Prop} {vs:List Value} {kw:List (Str × Value)} (X:K.In s.heap) (hm:PySem.W.makesIn K C=true)
  (hi:PySem.W.findIn K (.ref C) "__init__"=some (some (.ref f))) (hf:PySem.W.typeIn K (.ref f)=some (.type "function"))
  (h:codeAny (model prog w) (A.under (.builtin "type.__call__" ⟨.ref C :: vs,kw⟩)) (.call (.ref f) ⟨.ref (s.heap.objs.size + 1) :: vs,kw⟩) (PySem.W.InitBack (s.heap.objs.size + 1) R)
   { s with heap:=(s.heap.push PySem.W.emptyDict).push (PySem.W.instObj C s.heap.objs.size) }) :
  codeAny (model prog w) A (.call (.ref C) ⟨vs,kw⟩) R s:=by
 obtain ⟨hh,g,d,t,os⟩:=s
 exact PySem.W.make_core (PySem.W.makes_of X hm) (PySem.W.looks_findIn X hi) (fun self=>PySem.W.bind_fn X self hf) (.inl rfl) h
end
def putF (f:Str) (v:V):List (Str × V)→List (Str × V)
 | []=>[(f,v)]
 | (g,x) :: r=>if g=f then (g,v) :: r else (g,x) :: putF f v r
theorem lookup_putF (f g:Str) (v:V):∀ fs:List (Str × V),(putF f v fs).lookup g=if g=f then some v else fs.lookup g
 | []=>by
  show List.lookup g [(f,v)]=_
  by_cases h:g=f
  ·have hb:(g == f)=true:=beq_iff_eq.mpr h
   simp only [List.lookup,hb,if_pos h]
  ·have hb:(g == f)=false:=beq_eq_false_iff_ne.mpr h
   simp only [List.lookup,hb,if_neg h]
 | (k,x) :: r=>by
  have ih:=lookup_putF f g v r
  rw [show putF f v ((k,x) :: r)=(if k=f then (k,v) :: r else (k,x) :: putF f v r) from rfl]
  by_cases hk:k=f
  ·rw [if_pos hk]
   by_cases h:g=k
   ·have hb:(g == k)=true:=beq_iff_eq.mpr h
    simp only [List.lookup,hb,if_pos (h.trans hk)]
   ·have hb:(g == k)=false:=beq_eq_false_iff_ne.mpr h
    simp only [List.lookup,hb,if_neg (fun e:g=f=>h (e.trans hk.symm))]
  ·rw [if_neg hk]
   by_cases h:g=k
   ·have hb:(g == k)=true:=beq_iff_eq.mpr h
    simp only [List.lookup,hb,if_neg (fun e:g=f=>hk (h.symm.trans e))]
   ·have hb:(g == k)=false:=beq_eq_false_iff_ne.mpr h
    simp only [List.lookup,hb]
    exact ih
theorem keys_putF (f:Str) (v:V):∀ fs:List (Str × V),f ∈ (putF f v fs).map (·.1)∧∀ g,g ∈ fs.map (·.1)→g ∈ (putF f v fs).map (·.1)
 | []=>⟨by simp [putF],fun g h=>by simp at h⟩
 | (k,x) :: r=>by
  obtain ⟨i1,i2⟩:=keys_putF f v r
  rw [show putF f v ((k,x) :: r)=(if k=f then (k,v) :: r else (k,x) :: putF f v r) from rfl]
  by_cases hk:k=f
  ·rw [if_pos hk]
   subst hk
   exact ⟨by simp,fun g h=>by simpa using h⟩
  ·rw [if_neg hk]
   refine ⟨?_,fun g h=>?_⟩
   ·rw [List.map_cons]
    exact List.mem_cons_of_mem _ i1
   ·rw [List.map_cons] at h ⊢
    rcases List.mem_cons.mp h with e | e
    ·exact List.mem_cons.mpr (.inl e)
    ·exact List.mem_cons_of_mem _ (i2 g e)
theorem length_putF (f:Str) (v:V):∀ fs:List (Str × V),(putF f v fs).length≤fs.length + 1
 | []=>by simp [putF]
 | (k,x) :: r=>by
  have ih:=length_putF f v r
  rw [show putF f v ((k,x) :: r)=(if k=f then (k,v) :: r else (k,x) :: putF f v r) from rfl]
  by_cases hk:k=f
  ·rw [if_pos hk,List.length_cons,List.length_cons]; omega
  ·rw [if_neg hk,List.length_cons,List.length_cons]; omega
theorem RelO.some_of {v:V} {o:Option Value} (r:RelO (some v) o):∃ u,o=some u∧RelV v u:=by
 cases o with
 | none=>exact (show False from r).elim
 | some u=>exact ⟨u,rfl,r⟩
theorem RelO.none_of {o:Option Value} (r:RelO none o):o=none:=by
 cases o with
 | none=>rfl
 | some u=>exact (show False from r).elim
theorem handed_of {v:V} {u:Value} (r:RelV v u):PySem.W.handedIn u=true:=by
 cases v with
 | non=>cases (show u=Value.none from r); rfl
 | bl b=>cases (show u=Value.bool b from r); rfl
 | int i=>obtain ⟨t,e⟩:=(show ∃ t,u=Value.int i t from r); cases e; rfl
 | str x=>obtain ⟨t,e⟩:=(show ∃ t,u=Value.str x t from r); cases e; rfl
 | byt b=>obtain ⟨t,e⟩:=(show ∃ t,u=Value.bytes b t from r); cases e; rfl
 | flt b=>obtain ⟨t,e⟩:=(show ∃ t,u=Value.float b t from r); cases e; rfl
 | ref a=>cases (show u=Value.ref a from r); rfl
 | ty n=>cases (show u=Value.type n from r); rfl
section
variable {P:Program} {w:World} {H H':Hp} {h h':Heap} {a C dx:Addr} {fs fs':List (Str × V)}
theorem ins_get (hok:HOk P w H h) (e:H a=some (.ins C dx fs)):∃ mA,ObjM h a dx C mA∧(∀ f,RelO (fs.lookup f) (mA f))∧PySem.Within mA (fs.map (·.1))∧fs.length≤1000∧H dx=some (.own a):=by
 obtain ⟨d,z,ne,ob,mA,n,r,q⟩:=(show ObjOk P w H h a (.ins C dx fs) from hok a _ e)
 exact ⟨mA,⟨ob,n,ne⟩,r,q,z,d⟩
end
structure Cls (K:PySem.W.Frag) (C:Addr):Prop where
 pg:PySem.W.plainGet K C Str.empty=true
 hd:PySem.W.hasDictIn K C=true
 po:PySem.W.plainOver K C=true
 sa:PySem.W.findIn K (.ref C) "__setattr__"=some (some (.builtin "object.__setattr__"))
theorem Cls.get {K:PySem.W.Frag} {C:Addr} (c:Cls K C) (f:Str):PySem.W.plainGet K C f=true:=c.pg
def NoAttr (K:PySem.W.Frag) (C:Addr) (f:Str):Prop:=PySem.W.findIn K (.ref C) f=some none
theorem NoAttr.taker {K:PySem.W.Frag} {C:Addr} {f:Str} (n:NoAttr K C f):PySem.W.takerIn K C f=some none:=by
 unfold PySem.W.takerIn
 rw [show PySem.W.findIn K (.ref C) f=some none from n]
 rfl
structure Meth (K:PySem.W.Frag) (C:Addr) (m:Str) (f:Addr):Prop where
 at_:PySem.W.findIn K (.ref C) m=some (some (.ref f))
 fn:PySem.W.isFn K (.ref f)=true
 kp:PySem.W.keepIn K (.ref f)=true
section
variable {X:Cx} {pins:List (Addr × Obj)} {σ:St} {H:Hp} {s:Shared} {a C dx:Addr} {fs:List (Str × V)} {f:Str} {v:V} {A:Around} {E:Value→Shared→Prop}
theorem getattr_ok {b:Bool} {Q:Value→Shared→Prop} (I:Inv X pins σ H s) (e:H a=some (.ins C dx fs)) (c:Cls X.K C) (n:NoAttr X.K C f) (l:fs.lookup f=some v)
  (h:∀ u s',Inv X pins σ H s'→RelV v u→Q u s'):wpAny (model X.prog X.w) A (getAttr (.ref a) f b) Q E s:=by
 obtain ⟨mA,O,r,_,_,_⟩:=ins_get I.hok e
 obtain ⟨u,hu,ru⟩:=RelO.some_of (v:=v) (o:=mA f) (by rw [← l]; exact r f)
 exact get_map I.kIn O (c.get f) c.hd n hu (handed_of ru) (h u _ (I.tok _) ru)
theorem getmeth_ok {m:Str} {g:Addr} {pl:Sem Bool} {Q:Value × List Value→Shared→Prop} (I:Inv X pins σ H s) (e:H a=some (.ins C dx fs)) (c:Cls X.K C) (k:Meth X.K C m g) (l:fs.lookup m=none)
  (h:Q (.ref g,[.ref a]) s):wpAny (model X.prog X.w) A (getMethod (.ref a) m pl) Q E s:=by
 obtain ⟨mA,O,r,_,_,_⟩:=ins_get I.hok e
 have hn:mA m=none:=RelO.none_of (by rw [← l]; exact r m)
 exact get_meth I.kIn O (c.get m) k.at_ k.fn hn h
theorem setattr_ok {y:V} {u:Value} {Q:Unit→Shared→Prop} (I:Inv X pins σ H s) (e:H a=some (.ins C dx fs)) (c:Cls X.K C) (n:NoAttr X.K C f) (hl:fs.length < 1000) (ry:RelV y u)
  (h:∀ s',Inv X pins σ (upd H a (.ins C dx (putF f y fs))) s'→Q () s'):wpAny (model X.prog X.w) A (setAttr (.ref a) f u) Q E s:=by
 obtain ⟨mA,O,r,wi,_,ho⟩:=ins_get I.hok e
 have hz:(fs.map (·.1)).length≤sizeLine:=by rw [List.length_map,sizeLine_eq]; omega
 refine set_map I.kIn O c.sa c.po n.taker c.hd wi hz fun h' O' sb=>h _ ?_
 have hd:∃ o,h'.get? dx=some o:=let ⟨o,_,_,e',_⟩:=O'.ns; ⟨o,e'⟩
 refine I.write (x:=a) (e:=dx) (by rw [e]; exact True.intro) (.inr ho) (fun b q hb z=>(sb.2 b hb).trans z) hd ?_
 refine ⟨by rw [upd_ne O.ne]; exact ho,?_,O.ne,O'.obj,_,O'.ns,fun g=>?_,fun g hg=>?_⟩
 ·have:=length_putF f y fs; omega
 ·show RelO ((putF f y fs).lookup g) (if g=f then some u else mA g)
  rw [lookup_putF]
  by_cases q:g=f
  ·rw [if_pos q,if_pos q]; exact ry
  ·rw [if_neg q,if_neg q]; exact r g
 ·by_cases q:g=f
  ·rw [q]; exact (keys_putF f y fs).1
  ·refine (keys_putF f y fs).2 g (wi g fun z=>hg ?_)
   show (if g=f then some u else mA g)=none
   rw [if_neg q]; exact z
theorem Inv.made (I:Inv X pins σ H s):Inv X pins σ (upd (upd H s.heap.objs.size (.own (s.heap.objs.size + 1))) (s.heap.objs.size + 1) (.ins C s.heap.objs.size []))
  { s with heap:=(s.heap.push PySem.W.emptyDict).push (PySem.W.instObj C s.heap.objs.size) }:=by
 have e1:(s.heap.push PySem.W.emptyDict).get? s.heap.objs.size=some PySem.W.emptyDict:=Heap.get?_push_size s.heap rfl
 have e2:((s.heap.push PySem.W.emptyDict).push (PySem.W.instObj C s.heap.objs.size)).get? (s.heap.objs.size + 1)=some (PySem.W.instObj C s.heap.objs.size):=by
  have:=Heap.get?_push_size (s.heap.push PySem.W.emptyDict) (o:=PySem.W.instObj C s.heap.objs.size) rfl
  rwa [Heap.size_push] at this
 have e3:(s.heap.push PySem.W.emptyDict).Ns s.heap.objs.size (fun _=>none):=⟨PySem.W.emptyDict,#[],_,e1,rfl,(fun e he=>absurd he (by simp)),fun _=>rfl⟩
 have I1:=I.laid (a:=s.heap.objs.size) (o:=.own (s.heap.objs.size + 1)) (h':=s.heap.push PySem.W.emptyDict) (t':=s.toks) (fun b u q=>Heap.get?_push_of_some _ q) (Nat.le_refl _) ⟨_,e1⟩
 refine I1.laid (a:=s.heap.objs.size + 1) (o:=.ins C s.heap.objs.size []) (t':=s.toks) (fun b u q=>Heap.get?_push_of_some _ q) (Nat.le_of_eq (Heap.size_push _ _)) ?_
 have ne:s.heap.objs.size≠s.heap.objs.size + 1:=Nat.ne_of_lt (Nat.lt_succ_self _)
 refine ⟨by rw [upd_ne ne,upd_same],Nat.zero_le _,ne,e2,fun _=>none,(Heap.Ns1.of_empty e3).at fun o q=>Heap.get?_push_of_some _ q,fun _=>True.intro,fun y hy=>absurd rfl hy⟩
theorem attr_of {prog:Program} {w:World} {env:Env} {e:Expr} {f:Str} {pos:Pos} {s:Shared} {Q:Value→Shared→Prop} (hb:attributeBase e f env (eval e env)=eval e env)
  (h:wpAny (model prog w) A (eval e env) (fun o s₁=>wpAny (model prog w) A (getAttr o f true) Q E s₁) E s):wpAny (model prog w) A (eval (.Attribute e f pos) env) Q E s :=
 Attribute_any_ h (by rw [arm_eval_Attribute,hb])
end
def tFld (K:PySem.W.Frag) (ta:TE) (f:Str):TE:=fun σ H Q=>ta σ H fun x H1=>∃ a C dx fs v,x=.ref a∧H1 a=some (.ins C dx fs)∧Cls K C∧NoAttr K C f∧fs.lookup f=some v∧Q v H1
def sFld (K:PySem.W.Frag) (ta tv:TE) (f:Str):TS:=fun D σ H=>tv σ H fun y H1=>ta σ H1 fun x H2=>∃ a C dx fs,x=.ref a∧H2 a=some (.ins C dx fs)∧Cls K C∧NoAttr K C f∧fs.length < 1000 ∧
 D.nx σ (upd H2 a (.ins C dx (putF f y fs)))
def InOp (X:Cx) (op:Operator) (rd:V→V→Hp→VK→Prop):Prop :=
 ∀ (pins:List (Addr × Obj)) (s:Shared) (σ:St) (H:Hp) (x y:V) (u v:Value) (Q:VK),Inv X pins σ H s→RelV x u→RelV y v→rd x y H Q→wpAny (model X.prog X.w) X.A (inplaceOp op u v) (EP X pins σ Q) X.xe s
def sFldAug (K:PySem.W.Frag) (ta tv:TE) (rd:V→V→Hp→VK→Prop) (f:Str):TS:=fun D σ H=>ta σ H fun x H1=>∃ a C dx fs v,x=.ref a∧H1 a=some (.ins C dx fs)∧Cls K C∧NoAttr K C f∧fs.lookup f=some v ∧
 tv σ H1 fun y H2=>rd v y H2 fun z H3=>∃ dx' fs',H3 a=some (.ins C dx' fs')∧fs'.length < 1000∧D.nx σ (upd H3 a (.ins C dx' (putF f z fs')))
section
variable {X:Cx} {o e value:Expr} {f:Str} {pos pos' tpos:Pos} {ta tv:TE}
theorem pe_fld (he:PE X e ta) (hb:attributeBase e f X.env (eval e X.env)=eval e X.env):PE X (.Attribute e f pos) (tFld X.K ta f):=by
 intro pins s σ H Q I h
 refine attr_of hb (thn (he pins s σ H _ I h) fun u s1 ⟨x,H1,I1,rx,a,C,dx,fs,v,ex,ea,c,n,l,q⟩=>?_)
 subst ex
 obtain rfl:u=Value.ref a:=rx
 exact getattr_ok I1 ea c n l fun u' s2 I2 ru=>⟨v,H1,I2,ru,q⟩
theorem ps_fld (ha:PE X o ta) (hv:PE X value tv) (hs:swapsWith value (some (.Attribute o f pos')) pos.line X.env=pure false):PS X (.Assign [.Attribute o f pos'] value pos) (sFld X.K ta tv f):=by
 intro pins s σ H D I h
 refine plainObj_wpAny_Assign_Attribute (thn (hv pins s σ H _ I h) fun u s1 ⟨y,H1,I1,ry,q⟩=>thn (ha pins s1 σ H1 _ I1 q) fun ov s2 ⟨x,H2,I2,rx,a,C,dx,fs,ex,ea,c,n,l,q2⟩=>?_) hs
 subst ex
 obtain rfl:ov=Value.ref a:=rx
 exact setattr_ok I2 ea c n l ry fun s3 I3=>⟨σ,_,I3,q2⟩
theorem ps_fldaug {op:Operator} {rd:V→V→Hp→VK→Prop} (ha:PE X o ta) (hv:PE X value tv) (hop:InOp X op rd):PS X (.AugAssign (.Attribute o f tpos) op value pos) (sFldAug X.K ta tv rd f):=by
 intro pins s σ H D I h
 refine wpAny_AugAssign_AttributeAny (thn (ha pins s σ H _ I h) fun ov s1 ⟨x,H1,I1,rx,a,C,dx,fs,v,ex,ea,c,n,l,q⟩=>?_)
 subst ex
 obtain rfl:ov=Value.ref a:=rx
 refine getattr_ok I1 ea c n l fun u s2 I2 ru=>thn (hv pins s2 σ H1 _ I2 q) fun w3 s3 ⟨y,H2,I3,ry,q3⟩=>thn (hop pins s3 σ H2 v y u w3 _ I3 ru ry q3) fun w4 s4 ⟨z,H3,I4,rz,dx',fs',ea',l',q4⟩=>?_
 exact setattr_ok I4 ea' c n l' rz fun s5 I5=>⟨σ,_,I5,q4⟩
def rAdd:V→V→Hp→VK→Prop:=fun x y H Q=>∃ i j,x=.int i∧y=.int j∧Q (.int (i + j)) H
theorem in_add:InOp X .Add rAdd:=by
 rintro pins s σ H x y u v Q I rx ry ⟨i,j,rfl,rfl,q⟩
 obtain ⟨t,rfl⟩:=(show ∃ t,u=Value.int i t from rx)
 obtain ⟨t',rfl⟩:=(show ∃ t',v=Value.int j t' from ry)
 exact PyProof.Rows.iadd_int ⟨.int (i + j),H,I.tok _,⟨_,rfl⟩,q⟩
theorem methcall_of {pl:Sem Bool} {m:Str} {apos:Pos} {args:List Expr} {pins:List (Addr × Obj)} {s:Shared} {σ:St} {H:Hp} {Q:Value→Shared→Prop} {te:TE} (he:PE X e te) (I:Inv X pins σ H s)
  (h:te σ H fun x H1=>∃ a C dx fs g,x=.ref a∧H1 a=some (.ins C dx fs)∧Cls X.K C∧Meth X.K C m g∧fs.lookup m=none ∧
   ∀ s1,Inv X pins σ H1 s1→wpAny (model X.prog X.w) X.A (callWith pos (.ref g) [.ref a] (backTo pos (starEach args X.env)) (backToKw pos (keywordEach [] X.env))) Q X.xe s1)
  (ht:eval (.Call (.Attribute e m apos) args [] pos) X.env=(do
   let ov ← eval e X.env
   standAt apos.atName
   let (f,first) ← holding [ov] (getMethod ov m pl)
   callWith pos f first (backTo pos (starEach args X.env)) (backToKw pos (keywordEach [] X.env)))) :
  wpAny (model X.prog X.w) X.A (eval (.Call (.Attribute e m apos) args [] pos) X.env) Q X.xe s:=by
 refine PySem.W.methodCall_KW (pl:=pl) (thn (he pins s σ H _ I h) fun u s1 ⟨x,H1,I1,rx,a,C,dx,fs,g,ex,ea,c,k,l,q⟩=>?_) ht
 subst ex
 obtain rfl:u=Value.ref a:=rx
 exact getmeth_ok I1 ea c k l (q s1 I1)
end
section
variable {X:Cx} {pins:List (Addr × Obj)} {σ:St} {H:Hp} {s:Shared} {A:Around} {E:Value→Shared→Prop} {Q:Value→Shared→Prop} {c:Value} {b:Bool}
end
end L2
namespace L2
open PySem PySem.Spec PyProof.Rows
structure Room (k:Nat) (A:Around):Prop where
 hd:A.handled=none
 dp:A.depth + 3 * k + 5 < recursionLimit
 un:A.units + 16 * k + 200 < cLine
theorem Room.mono {j k:Nat} {A:Around} (r:Room k A) (h:j≤k):Room j A:=⟨r.hd,by have:=r.dp; omega,by have:=r.un; omega⟩
theorem Room.deeper {k:Nat} {A:Around} (r:Room (k + 1) A) (env:Env):Room k (A.deeper env) :=
 ⟨r.hd,by have:=r.dp; show A.depth + 1 + 3 * k + 5 < _; omega,by have:=r.un; show A.units + 3 + 16 * k + 200 < _; omega⟩
theorem make_depth {A:Around} {C:Addr} {us:List Value} {kw:List (Str × Value)}:(A.under (.builtin "type.__call__" ⟨.ref C :: us,kw⟩)).depth=A.depth + 1:=by
 first | rfl | simp [Around.under,Code.weight,Code.isCreation,Code.isGuard,Code.isCaller,Code.frames,Code.isFrame,guardIds]
theorem make_units {A:Around} {C:Addr} {us:List Value} {kw:List (Str × Value)}:(A.under (.builtin "type.__call__" ⟨.ref C :: us,kw⟩)).units=A.units + 1:=by
 first | rfl | simp [Around.under,Code.cUnits,Code.frames,Code.isFrame]
theorem Room.make {k:Nat} {A:Around} (r:Room (k + 1) A) (C:Addr) (us:List Value) (kw:List (Str × Value)):Room k (A.under (.builtin "type.__call__" ⟨.ref C :: us,kw⟩)) :=
 ⟨r.hd,by have:=r.dp; rw [make_depth]; omega,by have:=r.un; rw [make_units]; omega⟩
theorem Room.depth {k:Nat} {A:Around} (r:Room k A):A.depth < recursionLimit:=by have:=r.dp; omega
theorem Room.units {k:Nat} {A:Around} (r:Room k A):A.units + 64 < cLine:=by have:=r.un; omega
def tNil:TA:=fun _ H Q=>Q [] H
def tCons (ta:TE) (tr:TA):TA:=fun σ H Q=>ta σ H fun x H1=>tr σ H1 fun xs H2=>Q (x :: xs) H2
section
variable {X:Cx} {e:Expr} {es:List Expr} {te:TE} {t:TA} {pos:Pos}
theorem pa_nil:PA X [] tNil:=fun _ _ _ _ H Q I h=>Calls.spliced_nil ⟨[],H,I,.nil,h⟩
theorem pa_cons (ha:PE X e te) (hr:PA X es t) (hs:starEach (e :: es) X.env=(false,eval e X.env) :: starEach es X.env:=by rfl):PA X (e :: es) (tCons te t):=by
 intro pos pins s σ H Q I h
 rw [hs]
 show wpAny _ _ (spliced ((false,eval e X.env) :: backTo pos (starEach es X.env))) _ _ s
 refine Calls.spliced_cons (thn (ha pins s σ H _ I h) fun u s1 ⟨x,H1,I1,r1,q1⟩=>?_)
 exact thn (hr pos pins s1 σ H1 _ I1 q1) fun us s2 ⟨xs,H2,I2,r2,q2⟩=>⟨x :: xs,H2,I2,.cons r1 r2,q2⟩
def tTup (t:TA):TE:=fun σ H Q=>t σ H fun xs H1=>xs.length≤sizeLine∧∀ p,H1 p=none→Q (.ref p) (upd H1 p (.tup xs))
def tLst (t:TA):TE:=fun σ H Q=>t σ H fun xs H1=>xs.length≤sizeLine∧∀ p,H1 p=none→Q (.ref p) (upd H1 p (.lst xs))
theorem pe_tup {x1} (h:PA X es t):PE X (.Tuple es x1 pos) (tTup t):=by
 intro pins s σ H Q I hq
 refine wpAny_Tuple_spliced (thn (h pos pins s σ H _ I hq) fun us s1 ⟨xs,H1,I1,r,z,q⟩=>⟨by rw [← r.length]; exact z,?_⟩)
 have hf:H1 s1.heap.objs.size=none:=I1.hok.fresh (Nat.le_refl _)
 refine ⟨.ref s1.heap.objs.size,upd H1 s1.heap.objs.size (.tup xs),I1.laid (t':=s1.toks) (fun b u e=>Heap.get?_push_of_some _ e) (Nat.le_refl _) ?_,rfl,q _ hf⟩
 exact ⟨z,us,r,⟨_,Heap.get?_push_size _ rfl,rfl,_,rfl⟩⟩
theorem pe_lst (h:PA X es t):PE X (.List es pos) (tLst t):=by
 intro pins s σ H Q I hq
 refine wpAny_List_spliced (thn (h pos pins s σ H _ I hq) fun us s1 ⟨xs,H1,I1,r,z,q⟩=>⟨by rw [← r.length]; exact z,?_⟩)
 have hf:H1 s1.heap.objs.size=none:=I1.hok.fresh (Nat.le_refl _)
 refine ⟨.ref s1.heap.objs.size,upd H1 s1.heap.objs.size (.lst xs),I1.laid (t':=s1.toks) (fun b u e=>Heap.get?_push_of_some _ e) (Nat.le_refl _) ?_,rfl,q _ hf⟩
 exact ⟨z,us,0,r,Heap.get?_push_size _ rfl⟩
end
abbrev Sp:=List V→Hp→VK→XK→Prop
abbrev CXT:=List Env→Hp→Shared→XK→Value→Shared→Prop
structure Env0 (P:Program) (w:World) (K:PySem.W.Frag) (mg:Str→Option Value) (base:Heap) (A:Around) (outer:List Env) (s:Shared) (H:Hp):Prop where
 frames:A.frames=some outer
 mod:Mod K mg base
 bs:∀ b o,base.get? b=some o→s.heap.get? b=some o∧H b=none
 bsz:base.objs.size≤s.heap.objs.size
 funs:s.heap.FunFrames base outer
 frf:∀ b ∈ frs outer,H b=none
 hok:HOk P w H s.heap
 bare:AllBare s.gens
def CE (outer:List Env) (P:Program) (w:World) (H:Hp) (s:Shared) (Q:VK) (u:Value) (s':Shared):Prop :=
 ∃ v H',s'.os=s.os∧AllBare s'.gens∧Un (frs outer) [] H H' s.heap s'.heap∧HOk P w H' s'.heap∧RelV v u∧Q v H'
def CR (CX:CXT) (outer:List Env) (P:Program) (w:World) (H:Hp) (s:Shared) (Q:VK) (E:XK) (r:Result) (s':Shared):Prop :=
 match r with
 | .ok (.ret u)=>CE outer P w H s Q u s'
 | .ok _=>False
 | .error e=>CX outer H s E e s'
structure FnOk (P:Program) (w:World) (K:PySem.W.Frag) (mg:Str→Option Value) (base:Heap) (CX:CXT) (k:Nat) (f:Addr) (fd:FuncData) (ps:List Str) (sp:Sp):Prop where
 len:∀ vs H Q E,sp vs H Q E→vs.length=ps.length
 run:∀ (A:Around) (outer:List Env) (s:Shared) (H:Hp) (args:Args) (us:List Value) (vs:List V) (Q:VK) (E:XK),Room k A→Env0 P w K mg base A outer s H→BindsTo s fd args (ps.zip us)→Vals vs us→sp vs H Q E →
  codeAny (model P w) A (.call (.ref f) args) (CR CX outer P w H s Q E) s
theorem Env0.make {P:Program} {w:World} {K:PySem.W.Frag} {mg:Str→Option Value} {base:Heap} {A:Around} {outer:List Env} {s:Shared} {H:Hp} (e:Env0 P w K mg base A outer s H) (C:Addr) (us:List Value) (kw:List (Str × Value)) :
  Env0 P w K mg base (A.under (.builtin "type.__call__" ⟨.ref C :: us,kw⟩)) outer s H:=⟨by first | exact e.frames | (simpa [Around.under,Code.envs,Code.isFrame,pushEnvs] using e.frames),e.mod,e.bs,e.bsz,e.funs,e.frf,e.hok,e.bare⟩
section
variable {X:Cx} {pins:List (Addr × Obj)} {σ:St} {H:Hp} {s s':Shared}
theorem Inv.env0 (I:Inv X pins σ H s):Env0 X.prog X.w X.K X.mg X.base X.A X.stack s H :=
 ⟨I.ok.frames,I.ok.mod,I.bs,Nat.le_trans I.ok.bsz I.sz,I.stack,I.stkFree,I.hok,I.bare⟩
theorem Inv.after {Q:VK} {u:Value} (I:Inv X pins σ H s) (h:CE X.stack X.prog X.w H s Q u s'):EP X pins σ Q u s':=by
 obtain ⟨v,H',os,bare,un,hok,r,q⟩:=h
 obtain ⟨hh,g,d,t,os'⟩:=s'
 obtain rfl:os'=s.os:=os
 exact ⟨v,H',I.call (h':=hh) (g':=g) (d':=d) (t':=t) (ch:=[]) un hok bare (fun b z=>absurd z (by simp)),r,q⟩
end
def tCall (sp:Sp) (dvs:List V) (E:XK) (t:TA):TE:=fun σ H Q=>t σ H fun vs H1=>sp (vs ++ dvs) H1 Q E
def tMeth (C:Addr) (m:Str) (sp:Sp) (dvs:List V) (E:XK) (ta:TE) (t:TA):TE:=fun σ H Q=>ta σ H fun x H1=>∃ a dx fs,x=.ref a∧H1 a=some (.ins C dx fs)∧fs.lookup m=none ∧
 t σ H1 fun vs H2=>sp (x :: (vs ++ dvs)) H2 Q E
def tMake (C:Addr) (sp:Sp) (dvs:List V) (E:XK) (t:TA):TE:=fun σ H Q=>t σ H fun vs H1=>∀ x dx,H1 x=none→H1 dx=none→dx≠x →
 sp (.ref x :: (vs ++ dvs)) (upd (upd H1 dx (.own x)) x (.ins C dx [])) (fun v H2=>v=.non∧Q (.ref x) H2) E
def Binds (K:PySem.W.Frag) (fd:FuncData) (ps:List Str) (ds:List Value):Prop :=
 ∀ (s:Shared) (us:List Value),K.In s.heap→(us ++ ds).length=ps.length→BindsTo s fd ⟨us,[]⟩ (ps.zip (us ++ ds))
theorem Binds.all {K:PySem.W.Frag} {fd:FuncData} {ps:List Str} (h:∀ us:List Value,us.length=ps.length→bindArgs fd ⟨us,[]⟩=pure (ps.zip us)):Binds K fd ps []:=fun s us _ hl=>by
 rw [List.append_nil] at hl ⊢
 exact .of_eq (h us hl)
def Passes (CX:CXT) (X:Cx) (E:XK):Prop:=∀ (pins:List (Addr × Obj)) (σ:St) (H:Hp) (s:Shared) (e:Value) (s':Shared),Inv X pins σ H s→CX X.stack H s E e s'→X.xe e s'
section
variable {X:Cx} {CX:CXT} {k:Nat} {f C:Addr} {fd:FuncData} {ps:List Str} {sp:Sp} {dvs:List V} {ds:List Value} {E:XK} {x m:Str} {p pos apos:Pos} {e o:Expr} {es:List Expr} {ta:TE} {t:TA}
theorem run_fn {pins:List (Addr × Obj)} {σ:St} {H:Hp} {s:Shared} {Q:VK} {us:List Value} {vs:List V} (F:FnOk X.prog X.w X.K X.mg X.base CX k f fd ps sp) (hr:Room k X.A) (hb:Binds X.K fd ps ds) (hd:Vals dvs ds) (hx:Passes CX X E)
  (I:Inv X pins σ H s) (r:Vals vs us) (h:sp (vs ++ dvs) H Q E):wpAny (model X.prog X.w) X.A (call (.ref f) us) (EP X pins σ Q) X.xe s:=by
 have r2:Vals (vs ++ dvs) (us ++ ds):=r.append hd
 have hl:(us ++ ds).length=ps.length:=by rw [← r2.length]; exact F.len _ _ _ _ h
 refine wpAny_call (codeAny_mono (F.run X.A X.stack s H ⟨us,[]⟩ (us ++ ds) (vs ++ dvs) Q E hr I.env0 (hb s us I.kIn hl) r2 h) fun r s' hq=>?_)
 cases r with
 | error e=>exact hx pins σ H s e s' I hq
 | ok fl =>
  cases fl with
  | ret u=>exact I.after hq
  | next=>exact False.elim hq
  | brk=>exact False.elim hq
  | cont=>exact False.elim hq
theorem pe_call (F:FnOk X.prog X.w X.K X.mg X.base CX k f fd ps sp) (hr:Room k X.A) (hg:Gl X x) (hm:X.mg x=some (.ref f)) (hk:PySem.W.keepIn X.K (.ref f)=true) (hb:Binds X.K fd ps ds) (hd:Vals dvs ds) (hx:Passes CX X E)
  (ha:PA X (e :: es) t) (hdb:(x == ("__debug__":Str))=false:=by decide) (he:starEach (e :: es) X.env=(false,eval e X.env) :: starEach es X.env:=by rfl) (hpl:(backTo pos (starEach es X.env)).any (·.1)=false:=by rfl) :
  PE X (.Call (.Name x p) (e :: es) [] pos) (tCall sp dvs E t):=by
 intro pins s σ H Q I h
 refine wpAny_Call_Name_kw (ld_glob I hg hm ?_ hdb)
 refine PySem.W.callWith_K (h₀:=X.base) I.ok.mod.kin hk (thn (ha pos pins s σ H _ I h) fun us s1 ⟨vs,H1,I1,r,q⟩=>⟨I1.kIn,?_⟩) he hpl
 exact run_fn F hr hb hd hx I1 r q
theorem pe_meth {pl:Sem Bool} (he:PE X o ta) (c:Cls X.K C) (hm:Meth X.K C m f) (F:FnOk X.prog X.w X.K X.mg X.base CX k f fd ps sp) (hr:Room k X.A) (hb:Binds X.K fd ps ds) (hd:Vals dvs ds) (hx:Passes CX X E) (ha:PA X (e :: es) t)
  (hst:starEach (e :: es) X.env=(false,eval e X.env) :: starEach es X.env:=by rfl) (hpl:(backTo pos (starEach es X.env)).any (·.1)=false:=by rfl)
  (ht:eval (.Call (.Attribute o m apos) (e :: es) [] pos) X.env=(do
   let ov ← eval o X.env
   standAt apos.atName
   let (f,first) ← holding [ov] (getMethod ov m pl)
   callWith pos f first (backTo pos (starEach (e :: es) X.env)) (backToKw pos (keywordEach [] X.env))):=by rfl) :
  PE X (.Call (.Attribute o m apos) (e :: es) [] pos) (tMeth C m sp dvs E ta t):=by
 intro pins s σ H Q I h
 refine PySem.W.methodCall_KW (pl:=pl) (thn (he pins s σ H _ I h) fun u s1 ⟨x,H1,I1,rx,a,dx,fs,ex,ea,l,q⟩=>?_) ht
 subst ex
 obtain rfl:u=Value.ref a:=rx
 refine getmeth_ok I1 ea c hm l ?_
 refine PySem.W.callWith_K (first:=[.ref a]) (h₀:=X.base) I.ok.mod.kin hm.kp (thn (ha pos pins s1 σ H1 _ I1 q) fun us s2 ⟨vs,H2,I2,r,q2⟩=>⟨I2.kIn,?_⟩) hst hpl
 exact run_fn (us:=.ref a :: us) (vs:=.ref a :: vs) F hr hb hd hx I2 (.cons rfl r) q2
theorem pe_meth0 {pl:Sem Bool} (he:PE X o ta) (c:Cls X.K C) (hm:Meth X.K C m f) (F:FnOk X.prog X.w X.K X.mg X.base CX k f fd ps sp) (hr:Room k X.A) (hb:Binds X.K fd ps ds) (hd:Vals dvs ds) (hx:Passes CX X E)
  (ht:eval (.Call (.Attribute o m apos) [] [] pos) X.env=(do
   let ov ← eval o X.env
   standAt apos.atName
   let (f,first) ← holding [ov] (getMethod ov m pl)
   callWith pos f first (backTo pos (starEach [] X.env)) (backToKw pos (keywordEach [] X.env))):=by rfl) :
  PE X (.Call (.Attribute o m apos) [] [] pos) (tMeth C m sp dvs E ta tNil):=by
 intro pins s σ H Q I h
 refine PySem.W.methodCall_KW (pl:=pl) (thn (he pins s σ H _ I h) fun u s1 ⟨x,H1,I1,rx,a,dx,fs,ex,ea,l,q⟩=>?_) ht
 subst ex
 obtain rfl:u=Value.ref a:=rx
 refine getmeth_ok I1 ea c hm l ?_
 exact PySem.W.callWith_K0 (first:=[.ref a]) I1.kIn hm.kp (run_fn (us:=[.ref a]) (vs:=[.ref a]) F hr hb hd hx I1 (.cons rfl .nil) q)
structure Mk (K:PySem.W.Frag) (C f:Addr):Prop where
 makes:PySem.W.makesIn K C=true
 init:PySem.W.findIn K (.ref C) "__init__"=some (some (.ref f))
 fn:PySem.W.isFn K (.ref f)=true
 kp:PySem.W.keepIn K (.ref C)=true
theorem run_make {pins:List (Addr × Obj)} {σ:St} {H:Hp} {s:Shared} {Q:VK} {us:List Value} {vs:List V} (M:Mk X.K C f) (F:FnOk X.prog X.w X.K X.mg X.base CX k f fd ps sp) (hr:Room (k + 1) X.A) (hb:Binds X.K fd ps ds) (hd:Vals dvs ds)
  (hx:Passes CX X E) (I:Inv X pins σ H s) (r:Vals vs us)
  (h:∀ x dx,H x=none→H dx=none→dx≠x→sp (.ref x :: (vs ++ dvs)) (upd (upd H dx (.own x)) x (.ins C dx [])) (fun v H2=>v=.non∧Q (.ref x) H2) E) :
  wpAny (model X.prog X.w) X.A (call (.ref C) us) (EP X pins σ Q) X.xe s:=by
 have hq:=h (s.heap.objs.size + 1) s.heap.objs.size (I.hok.fresh (Nat.le_succ _)) (I.hok.fresh (Nat.le_refl _)) (Nat.ne_of_lt (Nat.lt_succ_self _))
 have I2:=Inv.made (C:=C) I
 have r2:Vals (V.ref (s.heap.objs.size + 1) :: (vs ++ dvs)) (Value.ref (s.heap.objs.size + 1) :: (us ++ ds)):=.cons rfl (r.append hd)
 have hl:(Value.ref (s.heap.objs.size + 1) :: us ++ ds).length=ps.length:=by
  have e:=r2.length
  rw [F.len _ _ _ _ hq] at e
  exact e.symm
 refine wpAny_call (make_map (f:=f) I.kIn M.makes M.init (beq_iff_eq.mp M.fn) (codeAny_mono (F.run _ X.stack _ _ ⟨Value.ref (s.heap.objs.size + 1) :: us,[]⟩ (Value.ref (s.heap.objs.size + 1) :: (us ++ ds)) _ _ E (hr.make C us [])
  (I2.env0.make C us []) (hb _ (Value.ref (s.heap.objs.size + 1) :: us) I2.kIn hl) r2 hq) fun r s' hq'=>?_))
 cases r with
 | error e=>exact hx pins σ _ _ e s' I2 hq'
 | ok fl =>
  cases fl with
  | ret u =>
   obtain ⟨v,H',I3,rv,ev,q3⟩:=I2.after hq'
   subst ev
   exact ⟨rv,⟨V.ref (s.heap.objs.size + 1),H',I3,rfl,q3⟩⟩
  | next=>exact False.elim hq'
  | brk=>exact False.elim hq'
  | cont=>exact False.elim hq'
theorem pe_make (M:Mk X.K C f) (F:FnOk X.prog X.w X.K X.mg X.base CX k f fd ps sp) (hr:Room (k + 1) X.A) (hg:Gl X x) (hm:X.mg x=some (.ref C)) (hb:Binds X.K fd ps ds) (hd:Vals dvs ds) (hx:Passes CX X E)
  (ha:PA X (e :: es) t) (hdb:(x == ("__debug__":Str))=false:=by decide) (he:starEach (e :: es) X.env=(false,eval e X.env) :: starEach es X.env:=by rfl) (hpl:(backTo pos (starEach es X.env)).any (·.1)=false:=by rfl) :
  PE X (.Call (.Name x p) (e :: es) [] pos) (tMake C sp dvs E t):=by
 intro pins s σ H Q I h
 refine wpAny_Call_Name_kw (ld_glob I hg hm ?_ hdb)
 refine PySem.W.callWith_K (h₀:=X.base) I.ok.mod.kin M.kp (thn (ha pos pins s σ H _ I h) fun us s1 ⟨vs,H1,I1,r,q⟩=>⟨I1.kIn,?_⟩) he hpl
 exact run_make M F hr hb hd hx I1 r q
end
section
variable {X:Cx} {CX:CXT} {k:Nat} {f C:Addr} {fd:FuncData} {ps ks:List Str} {sp:Sp} {E:XK} {x m:Str} {p pos apos kpos:Pos} {e o:Expr} {es:List Expr} {kws:List Keyword} {te ta:TE} {t tk:TA} {nm:Option Str}
variable {g:List Value→List Value→List Value} {gV:List V→List V→List V}
end
structure FnScope (N P:List Str) (sc:Scope):Prop where
 kind:sc.kind=.function
 co:sc.isCoroutine=false
 gen:sc.isGenerator=false
 nd:N.Nodup
 pre:N.take P.length=P
 par:∀ x ∈ P,sc.names.lookup x=some .local∨sc.names.lookup x=some .cell
 nofree:∀ y ∈ sc.names,y.2≠.free
theorem bindL_out {kindOf:Str→Option NameKind} {x:Str}:∀ {binds:List (Str × Value)} {m:Str→Option Value},(∀ v,(x,v) ∉ binds)→bindL kindOf binds m x=m x
 | [],_,_=>rfl
 | (n,v) :: r,m,h=>by
  unfold bindL
  rw [bindL_out fun w hw=>h w (List.mem_cons_of_mem _ hw)]
  split
  ·have:x≠n:=by rintro rfl; exact h v List.mem_cons_self
   simp [this]
  ·rfl
theorem bindC_out {kindOf:Str→Option NameKind} {x:Str}:∀ {binds:List (Str × Value)} {m:Str→Option Value},(∀ v,(x,v) ∉ binds)→bindC kindOf binds m x=m x
 | [],_,_=>rfl
 | (n,v) :: r,m,h=>by
  unfold bindC
  rw [bindC_out fun w hw=>h w (List.mem_cons_of_mem _ hw)]
  split
  ·rfl
  ·have:x≠n:=by rintro rfl; exact h v List.mem_cons_self
   simp [this]
theorem bindL_get {kindOf:Str→Option NameKind} {x:Str} {v:Value}:∀ {P:List Str} {vs:List Value} {i:Nat} {m:Str→Option Value},P.Nodup→P[i]?=some x→vs[i]?=some v→kindOf x=some .local →
  bindL kindOf (P.zip vs) m x=some v
 | [],_,_,_,_,h,_,_=>by simp at h
 | _ :: _,[],_,_,_,_,h,_=>by simp at h
 | p :: P,w :: vs,0,m,nd,h1,h2,hk=>by
  simp at h1 h2; subst h1; subst h2
  show bindL kindOf ((p,w) :: P.zip vs) m p=_
  unfold bindL
  rw [bindL_out fun v hv=>(List.nodup_cons.mp nd).1 (List.of_mem_zip hv).1,if_pos hk]
  simp
 | p :: P,w :: vs,i + 1,m,nd,h1,h2,hk=>by
  show bindL kindOf ((p,w) :: P.zip vs) m x=_
  unfold bindL
  exact bindL_get (i:=i) (List.nodup_cons.mp nd).2 (by simpa using h1) (by simpa using h2) hk
theorem bindC_get {kindOf:Str→Option NameKind} {x:Str} {v:Value}:∀ {P:List Str} {vs:List Value} {i:Nat} {m:Str→Option Value},P.Nodup→P[i]?=some x→vs[i]?=some v→kindOf x≠some .local →
  bindC kindOf (P.zip vs) m x=some v
 | [],_,_,_,_,h,_,_=>by simp at h
 | _ :: _,[],_,_,_,_,h,_=>by simp at h
 | p :: P,w :: vs,0,m,nd,h1,h2,hk=>by
  simp at h1 h2; subst h1; subst h2
  show bindC kindOf ((p,w) :: P.zip vs) m p=_
  unfold bindC
  rw [bindC_out fun v hv=>(List.nodup_cons.mp nd).1 (List.of_mem_zip hv).1,if_neg hk]
  simp
 | p :: P,w :: vs,i + 1,m,nd,h1,h2,hk=>by
  show bindC kindOf ((p,w) :: P.zip vs) m x=_
  unfold bindC
  exact bindC_get (i:=i) (List.nodup_cons.mp nd).2 (by simpa using h1) (by simpa using h2) hk
def start (N:List Str) (vs:List V):St:=vs.map some ++ List.replicate (N.length - vs.length) none
def cxOf (CX:CXT) (P:Program) (w:World) (K:PySem.W.Frag) (mg:Str→Option Value) (base:Heap) (N:List Str) (qual:Str) (scope:Scope) (f:Addr) (cd:Value) (A:Around) (outer:List Env) (s:Shared) (H:Hp) (E:XK):Cx where
 prog:=P
 w:=w
 K:=K
 mg:=mg
 base:=base
 A:=A.deeper (envOfC qual scope s.heap.objs.size f cd)
 N:=N
 s_0:=s
 H_0:=H
 env:=envOfC qual scope s.heap.objs.size f cd
 outer:=outer
 stack:=envOfC qual scope s.heap.objs.size f cd :: outer
 ex:=[]
 calm:=true
 fn:=fun _=>true
 pn:=[]
 xe:=fun e s'=>wpAny (model P w) (A.deeper (envOfC qual scope s.heap.objs.size f cd)) (leaving (envOfC qual scope s.heap.objs.size f cd) e) (fun _ s''=>CX outer H s E e s'') (fun e' s''=>CX outer H s E e' s'') s'
theorem cell_has {sc:Scope} {n:Nat} {x:Str} (h:sc.names.lookup x=some .cell):∃ c,(cellsFrom n sc.names []).lookup x=some c:=by
 have q:=PySem.W.cellsFrom_some sc.names n [] (.inl h)
 exact Option.isSome_iff_exists.mp q
theorem inv_start {CX:CXT} {P:Program} {w:World} {K:PySem.W.Frag} {mg:Str→Option Value} {base:Heap} {N ps:List Str} {qual:Str} {scope:Scope} {f:Addr} {cd:Value} {A:Around} {outer:List Env} {s s1:Shared} {H:Hp} {E:XK} {us:List Value} {vs:List V}
  (S:FnScope N ps scope) (hd:A.handled=none) (e0:Env0 P w K mg base A outer s H) (hl:vs.length=ps.length) (r:Vals vs us)
  (x:InCallC s s.heap.objs.size (bindL (envOfC qual scope s.heap.objs.size f cd).kindOf (ps.zip us) fun _=>none) (cellsFrom (s.heap.objs.size + 1) scope.names []) (bindC (envOfC qual scope s.heap.objs.size f cd).kindOf (ps.zip us) fun _=>none) s1) :
  Inv (cxOf CX P w K mg base N qual scope f cd A outer s H E) [] (start N vs) H s1:=by
 have hpl:ps.length≤N.length:=by have:=congrArg List.length S.pre; rw [List.length_take] at this; omega
 obtain ⟨h1,tk,rfl,hk⟩:=x.done
 have noA:∀ b:Addr,b ∉ (cxOf CX P w K mg base N qual scope f cd A outer s H E).ex:=fun b z=>absurd (show b ∈ ([]:List Addr) from z) (by simp)
 refine ⟨⟨e0.mod,S.kind,rfl,rfl,Nat.le_refl _,fun y z c h1 h2=>?_,fun y hy=>?_,fun y c _ h=>?_,fun _=>hd,Around.frames_deeper e0.frames,.inr ⟨rfl,rfl⟩,fun b z=>absurd z (noA b),e0.bs,e0.bsz,fun b _ _=>noA b,fun b z=>absurd z (noA b),e0.funs,e0.frf⟩,
  rfl,e0.bare,Un.kept hk,⟨_,x.toInCall.ns,fun i y v h1 h2 h3=>?_⟩,fun y c h=>⟨_,x.cell y c h⟩,e0.hok.fresh (Nat.le_refl _),fun y c h=>?_,fun p hp=>absurd (show p ∈ ([]:List (Addr × Obj)) from hp) (by simp),e0.hok.kept hk,?_⟩
 ·exact name_of_addr x.apart (PySem.mem_of_lookup h1) (PySem.mem_of_lookup h2)
 ·have hy:scope.names.lookup y=some .cell∨scope.names.lookup y=some .free:=hy
  rcases hy with hy | hy
  ·exact cell_has hy
  ·exact absurd rfl (S.nofree _ (PySem.mem_of_lookup hy))
 ·exact Nat.le_of_lt (x.above y c (PySem.mem_of_lookup h))
 ·have hi:i < vs.length:=by
   unfold start at h2
   by_cases hi:i < vs.length
   ·exact hi
   ·rw [List.getElem?_append_right (by simpa using hi)] at h2
    rw [List.getElem?_replicate] at h2
    split at h2 <;> cases h2
  have ha:vs[i]?=some v:=by
   unfold start at h2
   rw [List.getElem?_append_left (by simpa using hi),List.getElem?_map] at h2
   cases e:vs[i]? with
   | none=>rw [e] at h2; cases h2
   | some a=>rw [e] at h2; cases h2; rfl
  obtain ⟨u,hu,rv⟩:=r.get ha
  have hp:ps[i]?=some y:=by
   rw [← S.pre,List.getElem?_take_of_lt (by omega)]; exact h1
  have ndP:ps.Nodup:=by rw [← S.pre]; exact S.nd.sublist (List.take_sublist _ _)
  refine ⟨u,rv,?_⟩
  rcases S.par y (List.mem_of_getElem? hp) with k | k
  ·exact .inl ⟨k,bindL_get ndP hp hu k⟩
  ·obtain ⟨c,e⟩:=cell_has (n:=s.heap.objs.size + 1) k
   refine .inr ⟨.inl k,c,e,?_⟩
   have q:=x.cell y c e
   rw [bindC_get ndP hp hu (by show scope.names.lookup y≠_; rw [k]; decide)] at q
   exact q
 ·exact e0.hok.fresh (Nat.le_of_lt (x.above y c (PySem.mem_of_lookup h)))
 ·unfold start
  show _=N.length
  rw [List.length_append,List.length_map,List.length_replicate]
  omega
theorem fn_of {CX:CXT} {P:Program} {w:World} {K:PySem.W.Frag} {mg:Str→Option Value} {base:Heap} {k:Nat} {f:Addr} {name qual:Str} {params:Arguments} {body:List Stmt} {scope:Scope} {dV kV doc pm cdv ct oc:Value} {an od:Option Addr}
  {osl:Array (Option Value)} {N ps:List Str} {sp:Sp} (lk:K.lookup f=some ⟨oc,od,.func (PySem.W.fnOf name qual params body scope dV kV doc pm an cdv ct),osl⟩) (hcd:PySem.W.codeIn K cdv qual=true) (S:FnScope N ps scope)
  (len:∀ vs H Q E,sp vs H Q E→vs.length=ps.length)
  (hbody:∀ (A:Around) (outer:List Env) (s:Shared) (H:Hp) (vs:List V) (Q:VK) (E:XK),Room k (A.deeper (envOfC qual scope s.heap.objs.size f cdv))→sp vs H Q E →
   ∃ t,PSs (cxOf CX P w K mg base N qual scope f cdv A outer s H E) body t∧t { nx:=fun _ H'=>Q .non H',rt:=Q } (start N vs) H) :
  FnOk P w K mg base CX (k + 1) f (PySem.W.fnOf name qual params body scope dV kV doc pm an cdv ct) ps sp:=by
 refine ⟨len,fun A outer s H args us vs Q E hr e0 hb r hsp=>?_⟩
 have hl:=len _ _ _ _ hsp
 have KX:K.In s.heap:=e0.mod.kin.keeps fun b o e=>(e0.bs b o e).1
 have lim:s.heap.NoLimit:=e0.mod.nolimit.keeps fun b o e=>(e0.bs b o e).1
 have hkind:∀ y ∈ ps.zip us,scope.names.lookup y.1=some .local∨(scope.names.lookup y.1=some .cell∧((cellsFrom (s.heap.objs.size + 1) scope.names []).lookup y.1).isSome=true):=fun ⟨n,v⟩ hy=>by
  rcases S.par n (List.of_mem_zip hy).1 with q | q
  ·exact .inl q
  ·exact .inr ⟨q,PySem.W.cellsFrom_some _ _ _ (.inl q)⟩
 refine codeAny_call_function hr.depth (KX _ _ lk) rfl S.co S.gen rfl (PySem.W.codeRec_of KX hcd) (hb _ _ _ _ ?_)
 refine wpAny_newFunctionEnv_cells S.kind hkind fun env he s1 x=>?_
 subst he
 refine ⟨lim.keeps x.toInCall.keep,codeAny_func ?_⟩
 obtain ⟨t,ht,hq⟩:=hbody A outer s H vs Q E (hr.deeper _) hsp
 have I:Inv (cxOf CX P w K mg base N qual scope f cdv A outer s H E) [] (start N vs) H s1:=inv_start S hr.hd e0 hl r x
 refine wpAny_mono (ht [] s1 (start N vs) H _ I hq) (fun fl s' hs=>?_) fun e s' hs=>hs
 have fin:∀ {σ':St} {H':Hp} {v:V} {u:Value},Inv (cxOf CX P w K mg base N qual scope f cdv A outer s H E) [] σ' H' s'→RelV v u→Q v H'→CE outer P w H s Q u s' :=
  fun {σ' H' v u} J rv q=>⟨v,H',J.os,J.bare,J.base,J.hok,rv,q⟩
 cases fl with
 | ret u =>
  obtain ⟨v,σ',H',J,rv,q⟩:=hs
  exact fin J rv q
 | next =>
  obtain ⟨σ',H',J,q⟩:=hs
  exact fin (v:=V.non) (u:=Value.none) J rfl q
 | brk =>
  obtain ⟨_,_,_,q⟩:=hs
  exact False.elim q
 | cont =>
  obtain ⟨_,_,_,q⟩:=hs
  exact False.elim q
end L2
namespace L2
open PySem PySem.Spec PyProof.Rows
section
variable {X:Cx} {x:Str} {p pos:Pos} {e:Expr} {es:List Expr} {t:TA} {id T:String} {r:List V→Hp→VK→Prop}
def tCB (r:List V→Hp→VK→Prop) (t:TA):TE:=fun σ H Q=>t σ H fun vs H1=>r vs H1 Q
theorem pe_callB (hc:CallR X (.builtin id) r) (hg:Gl X x) (hm:X.mg x=none) (hv:bootBuiltins x=some (.builtin id)) (ha:PA X (e :: es) t) (hn:x≠"__name__":=by decide) (hdb:(x == ("__debug__":Str))=false:=by decide)
  (he:starEach (e :: es) X.env=(false,eval e X.env) :: starEach es X.env:=by rfl) (hpl:(backTo pos (starEach es X.env)).any (·.1)=false:=by rfl):PE X (.Call (.Name x p) (e :: es) [] pos) (tCB r t):=by
 intro pins s σ H Q I h
 refine wpAny_Call_Name_kw (ld_blt I hg hm hv ?_ hn hdb)
 exact PyProof.Rows.callWith_builtin1 (thn (ha pos pins s σ H _ I h) fun us s1 ⟨vs,H1,I1,r1,q1⟩=>hc pins s1 σ H1 vs us Q I1 r1 q1) he hpl
theorem pe_callTy (hc:CallR X (.type T) r) (hg:Gl X x) (hm:X.mg x=none) (hv:bootBuiltins x=some (.type T)) (ha:PA X (e :: es) t) (hn:x≠"__name__":=by decide) (hdb:(x == ("__debug__":Str))=false:=by decide)
  (he:starEach (e :: es) X.env=(false,eval e X.env) :: starEach es X.env:=by rfl) (hpl:(backTo pos (starEach es X.env)).any (·.1)=false:=by rfl):PE X (.Call (.Name x p) (e :: es) [] pos) (tCB r t):=by
 intro pins s σ H Q I h
 refine wpAny_Call_Name_kw (ld_blt I hg hm hv ?_ hn hdb)
 exact PyProof.Rows.callWith_type1 (thn (ha pos pins s σ H _ I h) fun us s1 ⟨vs,H1,I1,r1,q1⟩=>hc pins s1 σ H1 vs us Q I1 r1 q1) he hpl
end
end L2
namespace HT
open PySem PyProof.Rows
section
open PySem.SeqAt
open PySem.AutoSeq1 (wpAny_loadPart')
open PySem.MeetsSeq PySem.MeetsSeq2 PySem.MeetsSeq3
end
section
variable {prog:Program} {w:World} {A:Around} {E:Value→Shared→Prop} {s:Shared}
def sIx (n d:Nat):Option Int→Nat
 | none=>d
 | some v=>if v < 0 then (v + (n:Int)).toNat else min v.toNat n
theorem sIx_none (n d:Nat):sIx n d none=d:=rfl
theorem sIx_nat (n d k:Nat):sIx n d (some (k:Int))=min k n:=by
 show (if (k:Int) < 0 then ((k:Int) + (n:Int)).toNat else min (k:Int).toNat n)=min k n
 rw [if_neg (by omega),Int.toNat_natCast]
end
end HT
namespace L2
open PySem PySem.Spec PyProof.Rows
abbrev TO:=St→Hp→(Option Int→Hp→Prop)→Prop
def PO (X:Cx) (e:Option Expr) (t:TO):Prop :=
 ∀ (pins:List (Addr × Obj)) (s:Shared) (σ:St) (H:Hp) (Q:Option Int→Hp→Prop),Inv X pins σ H s→t σ H Q →
  wpAny (model X.prog X.w) X.A (evalPart e X.env) (fun u s'=>∃ o H',Inv X pins σ H' s'∧IsPart u o∧Q o H') X.xe s
def tNoPart:TO:=fun _ H Q=>Q none H
def tPart (t:TE):TO:=fun σ H Q=>t σ H fun x H1=>∃ i,x=.int i∧Q (some i) H1
section
variable {X:Cx} {e:Expr} {te:TE} {lo hi:Option Expr} {tl th:TO} {pos p2:Pos}
theorem po_none:PO X none tNoPart:=by
 intro pins s σ H Q I h
 rw [evalPart_none]
 exact wpAny_pure ⟨none,H,I,.none,h⟩
theorem po_some (h:PE X e te):PO X (some e) (tPart te):=by
 intro pins s σ H Q I hw
 rw [evalPart_some]
 refine thn (h pins s σ H _ I hw) fun u s1 ⟨x,H1,I1,r1,q1⟩=>?_
 obtain ⟨i,rfl,q⟩:=q1
 obtain ⟨t,rfl⟩:=r1
 exact ⟨some i,H1,I1,.int i t,q⟩
def SlR (X:Cx) (r:V→Option Int→Option Int→Hp→VK→Prop):Prop :=
 ∀ (pins:List (Addr × Obj)) (s:Shared) (σ:St) (H:Hp) (x:V) (v vl vu:Value) (lo hi:Option Int) (sl:Addr) (Q:VK),Inv X pins σ H s→RelV x v→s.heap.IsSliceOf sl vl vu .none→IsPart vl lo→IsPart vu hi→r x lo hi H Q →
  ∃ T id,typeLookup (.type T) "__getitem__"=pure (some (.builtin id))∧s.TypeIs v T∧wpAny (model X.prog X.w) X.A (getItem v (.ref sl)) (EP X pins σ Q) X.xe s
def tSl (r:V→Option Int→Option Int→Hp→VK→Prop) (te:TE) (tl th:TO):TE:=fun σ H Q=>te σ H fun x H1=>tl σ H1 fun l H2=>th σ H2 fun u H3=>r x l u H3 Q
theorem pe_slice {r:V→Option Int→Option Int→Hp→VK→Prop} (hr:SlR X r) (he:PE X e te) (hl:PO X lo tl) (hu:PO X hi th):PE X (.Subscript e (.Slice lo hi none p2) pos) (tSl r te tl th):=by
 intro pins s σ H Q I h
 refine Subscript_ (thn (he pins s σ H _ I h) fun v s1 ⟨x,H1,I1,r1,q1⟩=>?_)
 refine wpAny_Slice (thn (hl pins s1 σ H1 _ I1 q1) fun vl s2 ⟨l,H2,I2,pl,q2⟩=>thn (hu pins s2 σ H2 _ I2 q2) fun vu s3 ⟨u,H3,I3,pu,q3⟩=>?_)
 rw [evalPart_none]
 refine wpAny_pure ?_
 have I4:Inv X pins σ H3 { s3 with heap:=s3.heap.push { cls:=.type "slice",data:=.fields #[vl,vu,.none] } }:=I3.kept (t':=s3.toks) fun b ob q=>Heap.get?_push_of_some _ q
 obtain ⟨T,id,hT,ht,hg⟩:=hr pins { s3 with heap:=s3.heap.push { cls:=.type "slice",data:=.fields #[vl,vu,.none] } } σ H3 x v vl vu l u s3.heap.objs.size Q I4 r1 (Heap.IsSliceOf.new ..) pl pu q3
 show wpAny (model X.prog X.w) X.A (subscriptTail e (.Slice lo hi none p2) v (.ref s3.heap.objs.size)) (EP X pins σ Q) X.xe { s3 with heap:=s3.heap.push { cls:=.type "slice",data:=.fields #[vl,vu,.none] } }
 exact tail_any (ops:=[.ref s3.heap.objs.size,v]) ht hT hg (by with_unfolding_all rfl)
def cutV (xs:List V) (lo hi:Option Int):List V:=(xs.drop (HT.sIx xs.length 0 lo)).take (HT.sIx xs.length xs.length hi - HT.sIx xs.length 0 lo)
theorem cutV_length (xs:List V) (lo hi:Option Int):(cutV xs lo hi).length≤xs.length:=by
 unfold cutV
 rw [List.length_take,List.length_drop]
 omega
end
end L2
namespace L2
open PySem PySem.Spec PyProof.Rows
def ixN (n:Nat) (i:Int):Option Nat:=if 0≤i then (if i < n then some i.toNat else none) else if -(n:Int)≤i then some (i + n).toNat else none
def atI {α:Type} (xs:List α) (i:Int):Option α:=(ixN xs.length i).bind fun j=>xs[j]?
theorem ixN_seq {n:Nat} {i:Int} {j:Nat} (h:ixN n i=some j):seqIndex? i n=some j∧j < n∧-(n:Int)≤i∧i < n:=by
 unfold ixN at h
 by_cases h0:0≤i
 ·rw [if_pos h0] at h
  by_cases h1:i < n
  ·rw [if_pos h1] at h
   have e:i.toNat=j:=Option.some.inj h
   exact ⟨by rw [seqIndex_of h0 h1,e],by omega,by omega,h1⟩
  ·rw [if_neg h1] at h; cases h
 ·rw [if_neg h0] at h
  by_cases h1:-(n:Int)≤i
  ·rw [if_pos h1] at h
   have e:(i + n).toNat=j:=Option.some.inj h
   exact ⟨by rw [seqIndex_neg (by omega) h1,e],by omega,h1,by omega⟩
  ·rw [if_neg h1] at h; cases h
theorem atI_get {α:Type} {xs:List α} {i:Int} {v:α} (h:atI xs i=some v):∃ j,seqIndex? i xs.length=some j∧xs[j]?=some v∧j < xs.length∧-(xs.length:Int)≤i∧i < xs.length:=by
 unfold atI at h
 cases e:ixN xs.length i with
 | none=>rw [e] at h; cases h
 | some j =>
  rw [e] at h
  obtain ⟨h1,h2,h3,h4⟩:=ixN_seq e
  exact ⟨j,h1,h,h2,h3,h4⟩
theorem atI_nat {α:Type} {xs:List α} {j:Nat} {v:α} (h:xs[j]?=some v):atI xs (j:Int)=some v:=by
 have hj:j < xs.length:=(List.getElem?_eq_some_iff.mp h).1
 have e:ixN xs.length (j:Int)=some j:=by
  unfold ixN
  rw [if_pos (by omega),if_pos (by omega)]; simp
 unfold atI; rw [e]; exact h
def PlainIx (b:Expr):Prop:=∀ o i,subscripted b false o i=operate [o,i] (getItem o i)
def IxR (X:Cx) (r:R2):Prop :=
 ∀ (value slice:Expr) (pins:List (Addr × Obj)) (s:Shared) (σ:St) (H:Hp) (x y:V) (v u:Value) (Q:VK),Inv X pins σ H s→RelV x v→RelV y u→r x y H Q →
  subscripted slice false v u=operate [v,u] (getItem v u)→wpAny (model X.prog X.w) X.A (subscriptTail value slice v u) (EP X pins σ Q) X.xe s
def MtR (X:Cx) (id:String) (r:V→List V→Hp→VK→Prop):Prop :=
 ∀ (pins:List (Addr × Obj)) (s:Shared) (σ:St) (H:Hp) (x:V) (xs:List V) (v:Value) (us:List Value) (Q:VK),Inv X pins σ H s→RelV x v→Vals xs us→r x xs H Q →
  wpAny (model X.prog X.w) X.A (call (.builtin id) (v :: us)) (EP X pins σ Q) X.xe s
section
variable {X:Cx} {a b:Expr} {ta tb:TE} {pos:Pos}
theorem pe_ix {r:R2} (hr:IxR X r) (ha:PE X a ta) (hb:PE X b tb) (hs:PlainIx b):PE X (.Subscript a b pos) (tOp r ta tb):=by
 intro pins s σ H Q I h
 exact Subscript_ (binT ha hb I h fun v u s2 x y H2 I2 rx ry q=>hr a b pins s2 σ H2 x y v u Q I2 rx ry q (hs _ _))
def rIxL (K:PySem.W.Frag):R2:=fun x y H Q=>∃ p xs i v,x=.ref p∧y=.int i∧SqL K H p xs∧atI xs i=some v∧Q v H
def rIxT (K:PySem.W.Frag):R2:=fun x y H Q=>∃ p xs i v,x=.ref p∧y=.int i∧SqT K H p xs∧atI xs i=some v∧Q v H
theorem ix_list:IxR X (rIxL X.K):=by
 intro value slice pins s σ H x y v u Q I rx ry h hs
 obtain ⟨p,xs,i,z,rfl,rfl,hq,he,q⟩:=h
 cases rx
 obtain ⟨t,rfl⟩:=ry
 obtain ⟨its,r,pl,hz⟩:=I.list hq
 obtain ⟨j,h1,h2,h3,h4,h5⟩:=atI_get he
 obtain ⟨w,ew,rw'⟩:=r.get h2
 have hl:=r.length
 have hn:=line63
 have fin:EP X pins σ Q w s:=⟨z,H,I,rw',q⟩
 by_cases h0:0≤i
 ·have hj:i.toNat=j:=by
   rw [seqIndex_of h0 h5] at h1
   exact Option.some.inj h1
  exact item_listR pl.isList h0 (by omega) (by rw [hj]; simpa using ew) fin hs
 ·have hj:(i + (its.toArray.size:Int)).toNat=j:=by
   rw [seqIndex_neg (by omega) h4] at h1
   rw [List.size_toArray,← hl]
   exact Option.some.inj h1
  exact subscriptTail_builtinR (x:=w) pl.isList.typeIs slot_list_getitem.lookup
   (wpAny_getItem_list_neg (Q:=fun r s'=>r=w∧EP X pins σ Q r s') pl.isList (by omega) (by rw [List.size_toArray] <;> omega) (by omega) (by rw [hj]; simpa using ew) ⟨rfl,fin⟩) hs
theorem ix_tup:IxR X (rIxT X.K):=by
 intro value slice pins s σ H x y v u Q I rx ry h hs
 obtain ⟨p,xs,i,z,rfl,rfl,hq,he,q⟩:=h
 cases rx
 obtain ⟨t,rfl⟩:=ry
 obtain ⟨its,r,pl,hz⟩:=I.tuple hq
 obtain ⟨j,h1,h2,h3,h4,h5⟩:=atI_get he
 obtain ⟨w,ew,rw'⟩:=r.get h2
 have hl:=r.length
 have hn:=line63
 have fin:EP X pins σ Q w s:=⟨z,H,I,rw',q⟩
 exact subscriptTail_builtinR (x:=w) pl.typeIs slot_tuple_getitem.lookup
  (getItem_tuple (j:=j) (Q:=fun r s'=>r=w∧EP X pins σ Q r s') pl (by omega) (by omega) (by rw [List.size_toArray,← hl]; exact h1) (by simpa using ew) ⟨rfl,fin⟩) hs
theorem mapSeq_set (its:List Value) (n j:Nat) (u:Value):Obj.mapSeq (·.setIfInBounds j u) { cls:=.type "list",data:=.seq its.toArray n }={ cls:=.type "list",data:=.seq (its.set j u).toArray n }:=by
 simp [Obj.mapSeq]
theorem Inv.lst {pins:List (Addr × Obj)} {σ:St} {H:Hp} {s:Shared} {p:Addr} {xs:List V} (I:Inv X pins σ H s) (h:H p=some (.lst xs)) :
  ∃ (its:List Value) (n:Nat),Vals xs its∧s.heap.get? p=some { cls:=.type "list",data:=.seq its.toArray n }∧xs.length≤sizeLine:=by
 obtain ⟨z,its,n,r,e⟩:=I.hok p _ h
 exact ⟨its,n,r,e,z⟩
theorem Inv.lstUpd {pins:List (Addr × Obj)} {σ:St} {H:Hp} {s:Shared} {p:Addr} {xs ys:List V} {its its':List Value} {n n':Nat} {f:Obj→Obj} (I:Inv X pins σ H s) (h:H p=some (.lst xs))
  (ho:s.heap.get? p=some { cls:=.type "list",data:=.seq its.toArray n }) (hf:f { cls:=.type "list",data:=.seq its.toArray n }={ cls:=.type "list",data:=.seq its'.toArray n' }) (r:Vals ys its') (hz:ys.length≤sizeLine) (t:Nat) :
  Inv X pins σ (upd H p (.lst ys)) { s with heap:=s.heap.update p f,toks:=t }:=by
 have e:(s.heap.update p f).get? p=some { cls:=.type "list",data:=.seq its'.toArray n' }:=by
  rw [Heap.get?_update_self f ho (by rw [hf] <;> rfl),hf]
 refine I.write (x:=p) (e:=p) (by rw [h]; trivial) (.inl rfl) (fun b u hb q=>(Heap.get?_update_other _ _ (Ne.symm hb)).trans q) ⟨_,e⟩ ?_
 exact ⟨hz,its',n',r,e⟩
def rSetL:V→V→V→Hp→(Hp→Prop)→Prop:=fun o i v H Q=>∃ p xs k j,o=.ref p∧i=.int k∧H p=some (.lst xs)∧ixN xs.length k=some j∧Q (upd H p (.lst (xs.set j v)))
theorem set_list:PSet X rSetL:=by
 intro pins s σ H o i v ov iv u Q I ro ri rv h
 obtain ⟨p,xs,k,j,rfl,rfl,hp,hj,q⟩:=h
 cases ro
 obtain ⟨t,rfl⟩:=ri
 obtain ⟨its,n,r,ho,hz⟩:=I.lst hp
 obtain ⟨h1,h2,h3,h4⟩:=ixN_seq hj
 have hl:=r.length
 have hn:=line63
 have I':Inv X pins σ (upd H p (.lst (xs.set j v))) { s with heap:=s.heap.update p (Obj.mapSeq (·.setIfInBounds j u)) } :=
  I.lstUpd hp ho (mapSeq_set its n j u) (r.set rv j) (by rw [List.length_set]; exact hz) s.toks
 by_cases h0:0≤k
 ·have hk:k.toNat=j:=by
   rw [seqIndex_of h0 h4] at h1
   exact Option.some.inj h1
  exact PySem.W.ki_setAt ho h0 (by omega) (by rw [List.size_toArray,← hl]; exact h4) (by rw [hk]; exact ⟨_,I',q⟩)
 ·have hk:(k + (its.toArray.size:Int)).toNat=j:=by
   rw [seqIndex_neg (by omega) h3] at h1
   rw [List.size_toArray,← hl]
   exact Option.some.inj h1
  exact PySem.W.ki_setBack ho (by omega) (by rw [List.size_toArray,← hl]; exact h3) (by omega) (by rw [hk]; exact ⟨_,I',q⟩)
theorem slice_bounds (lo hi:Option Int) (n:Nat):(sliceBounds lo hi none n).1=((HT.sIx n 0 lo:Nat):Int)∧(sliceBounds lo hi none n).2.1=((HT.sIx n n hi:Nat):Int)∧(sliceBounds lo hi none n).2.2=1:=by
 refine ⟨?_,?_,rfl⟩
 ·cases lo with
  | none=>simp [sliceBounds,HT.sIx]
  | some i =>
   simp only [sliceBounds,HT.sIx,Option.getD_none,show (1:Int) > 0 by decide,if_true]
   by_cases h:i < 0
   ·simp only [h,if_true] <;> omega
   ·simp only [h,if_false] <;> omega
 ·cases hi with
  | none=>simp [sliceBounds,HT.sIx]
  | some i =>
   simp only [sliceBounds,HT.sIx,Option.getD_none,show (1:Int) > 0 by decide,if_true]
   by_cases h:i < 0
   ·simp only [h,if_true] <;> omega
   ·simp only [h,if_false] <;> omega
theorem slicePick_cut (its:List Value) (lo hi:Option Int):slicePick its.toArray lo hi none=((its.drop (HT.sIx its.length 0 lo)).take (HT.sIx its.length its.length hi - HT.sIx its.length 0 lo)).toArray:=by
 obtain ⟨h1,h2,h3⟩:=slice_bounds lo hi its.toArray.size
 unfold slicePick
 rw [h1,h2,h3]
 simp only [sliceRange_one,pick_run,List.size_toArray] <;> rfl
def rSlL (K:PySem.W.Frag):V→Option Int→Option Int→Hp→VK→Prop:=fun x lo hi H Q=>∃ a xs,x=.ref a∧SqL K H a xs∧∀ p,H p=none→Q (.ref p) (upd H p (.lst (cutV xs lo hi)))
theorem sl_list:SlR X (rSlL X.K):=by
 intro pins s σ H x v vl vu lo hi sl Q I rx hs pl pu h
 obtain ⟨a,xs,rfl,hx,q⟩:=h
 cases rx
 obtain ⟨its,r,ht,hz⟩:=I.list hx
 have hlen:=r.length
 refine ⟨"list",_,slot_list_getitem.lookup,ht.isList.typeIs,?_⟩
 refine wpAny_getItem_list_slice ht.isList hs pl pu .none (by simp) ?_ (by rw [List.size_toArray] <;> omega)
 rw [slicePick_cut,← hlen]
 refine ⟨.ref s.heap.objs.size,_,I.laid (t':=s.toks) (o:=.lst (cutV xs lo hi)) (fun b ob q=>Heap.get?_push_of_some _ q) (Nat.le_refl _) ?_,rfl,q _ (I.hok.fresh (Nat.le_refl _))⟩
 exact ⟨Nat.le_trans (cutV_length xs lo hi) hz,_,0,(r.drop (HT.sIx xs.length 0 lo)).take (HT.sIx xs.length xs.length hi - HT.sIx xs.length 0 lo),Heap.get?_push_size _ rfl⟩
def flatV:V→Bool
 | .non=>true
 | .bl _=>true
 | .int _=>true
 | .str _=>true
 | _=>false
def eqV:V→V→Bool
 | .non,.non=>true
 | .bl a,.bl b=>a == b
 | .bl a,.int b=>(if a then 1 else 0) == b
 | .int a,.bl b=>a == (if b then 1 else 0)
 | .int a,.int b=>a == b
 | .str a,.str b=>a == b
 | _,_=>false
theorem eqAt_V {A:Around} {s:Shared} {y x:V} {u v:Value} (ry:RelV y u) (rx:RelV x v) (fy:flatV y=true) (fx:flatV x=true):SeqAt.EqAt A s u v (eqV y x):=by
 cases y with
 | non =>
  cases ry
  cases x with
  | non=>cases rx; exact SeqAt.EqAt.same _
  | bl b=>cases rx; exact SeqAt.EqAt.none_bool b
  | int b=>obtain ⟨t,rfl⟩:=rx; exact SeqAt.EqAt.none_int b t
  | str b=>obtain ⟨t,rfl⟩:=rx; exact SeqAt.EqAt.none_str b t
  | _=>exact absurd (show false=true from fx) Bool.false_ne_true
 | bl a =>
  cases ry
  cases x with
  | non=>cases rx; exact SeqAt.EqAt.bool_none a
  | bl b=>cases rx; exact SeqAt.EqAt.bool_bool a b
  | int b=>obtain ⟨t,rfl⟩:=rx; exact SeqAt.EqAt.bool_int a b t
  | str b=>obtain ⟨t,rfl⟩:=rx; exact SeqAt.EqAt.bool_str a b t
  | _=>exact absurd (show false=true from fx) Bool.false_ne_true
 | int a =>
  obtain ⟨t',rfl⟩:=ry
  cases x with
  | non=>cases rx; exact SeqAt.EqAt.int_none a t'
  | bl b=>cases rx; exact SeqAt.EqAt.int_bool a t' b
  | int b=>obtain ⟨t,rfl⟩:=rx; exact SeqAt.EqAt.int_int a t' b t
  | str b=>obtain ⟨t,rfl⟩:=rx; exact SeqAt.EqAt.int_str a t' b t
  | _=>exact absurd (show false=true from fx) Bool.false_ne_true
 | str a =>
  obtain ⟨t',rfl⟩:=ry
  cases x with
  | non=>cases rx; exact SeqAt.EqAt.str_none a t'
  | bl b=>cases rx; exact SeqAt.EqAt.str_bool a t' b
  | int b=>obtain ⟨t,rfl⟩:=rx; exact SeqAt.EqAt.str_int a t' b t
  | str b=>obtain ⟨t,rfl⟩:=rx; exact SeqAt.EqAt.str_str a t' b t
  | _=>exact absurd (show false=true from fx) Bool.false_ne_true
 | _=>exact absurd (show false=true from fy) Bool.false_ne_true
def eqU (x:V) (u:Value):Bool:=match u with
 | .none=>eqV .non x
 | .bool b=>eqV (.bl b) x
 | .int i _=>eqV (.int i) x
 | .str z _=>eqV (.str z) x
 | _=>false
theorem eqU_of {x y:V} {u:Value} (r:RelV y u) (f:flatV y=true):eqU x u=eqV y x:=by
 cases y with
 | non=>cases r; rfl
 | bl b=>cases r; rfl
 | int i=>obtain ⟨t,rfl⟩:=r; rfl
 | str z=>obtain ⟨t,rfl⟩:=r; rfl
 | _=>exact absurd (show false=true from f) Bool.false_ne_true
theorem any_eqU {x:V}:∀ {xs:List V} {us:List Value},Vals xs us→xs.all flatV=true→us.any (eqU x)=xs.any fun y=>eqV y x
 | _,_,.nil,_=>rfl
 | y :: xs,u :: us,.cons r t,f=>by
  rw [List.all_cons,Bool.and_eq_true] at f
  rw [List.any_cons,List.any_cons,eqU_of r f.1,any_eqU t f.2]
theorem mem_eqAt {A:Around} {s:Shared} {x:V} {v:Value} (rx:RelV x v) (fx:flatV x=true):∀ {xs:List V} {us:List Value},Vals xs us→xs.all flatV=true→∀ u ∈ us,SeqAt.EqAt A s u v (eqU x u)
 | _,_,.nil,_=>fun u hu=>by cases hu
 | y :: xs,u :: us,.cons r t,f=>fun u' hu=>by
  rw [List.all_cons,Bool.and_eq_true] at f
  rcases List.mem_cons.mp hu with rfl | hu
  ·rw [eqU_of r f.1]; exact eqAt_V r rx f.1 fx
  ·exact mem_eqAt rx fx t f.2 u' hu
def inV (x:V) (xs:List V):Bool:=xs.any fun y=>eqV y x
def rIn (K:PySem.W.Frag) (neg:Bool):R2:=fun x y H Q=>∃ p xs,y=.ref p∧(SqL K H p xs∨SqT K H p xs)∧flatV x=true∧xs.all flatV=true∧Q (.bl (if neg then !inV x xs else inV x xs)) H
theorem op_in_seq:OpR X (compareOp .In) (rIn X.K false):=by
 intro pins s σ H x y v u Q I rx ry h
 obtain ⟨p,xs,rfl,hq,fx,fs,q⟩:=h
 cases ry
 rcases hq with hq | hq
 ·obtain ⟨its,r,pl,hz⟩:=I.list hq
  refine SeqAt.in_listAt (eqU x) pl.isList (fun w hw=>mem_eqAt rx fx r fs w (by simpa using hw)) ⟨.bl _,H,I,rfl,?_⟩
  rw [show its.toArray.any (eqU x)=its.any (eqU x) by simp,any_eqU r fs]
  exact q
 ·obtain ⟨its,r,pl,hz⟩:=I.tuple hq
  refine SeqAt.in_tupleAt (eqU x) pl (fun w hw=>mem_eqAt rx fx r fs w (by simpa using hw)) ⟨.bl _,H,I,rfl,?_⟩
  rw [show its.toArray.any (eqU x)=its.any (eqU x) by simp,any_eqU r fs]
  exact q
theorem op_notIn_seq:OpR X (compareOp .NotIn) (rIn X.K true):=by
 intro pins s σ H x y v u Q I rx ry h
 obtain ⟨p,xs,rfl,hq,fx,fs,q⟩:=h
 cases ry
 rcases hq with hq | hq
 ·obtain ⟨its,r,pl,hz⟩:=I.list hq
  refine SeqAt.notIn_listAt (eqU x) pl.isList (fun w hw=>mem_eqAt rx fx r fs w (by simpa using hw)) ⟨.bl _,H,I,rfl,?_⟩
  rw [show its.toArray.any (eqU x)=its.any (eqU x) by simp,any_eqU r fs]
  exact q
 ·obtain ⟨its,r,pl,hz⟩:=I.tuple hq
  refine SeqAt.notIn_tupleAt (eqU x) pl (fun w hw=>mem_eqAt rx fx r fs w (by simpa using hw)) ⟨.bl _,H,I,rfl,?_⟩
  rw [show its.toArray.any (eqU x)=its.any (eqU x) by simp,any_eqU r fs]
  exact q
theorem call_len_seq:CallR X (.builtin "len") (fun xs H Q=>∃ p ys,xs=[.ref p]∧(SqL X.K H p ys∨SqT X.K H p ys)∧Q (.int ys.length) H):=by
 intro pins s σ H xs us Q I r h
 obtain ⟨p,ys,rfl,hq,q⟩:=h
 obtain ⟨u,rfl,rx⟩:=vals1 r
 cases rx
 have hn:=line63
 rcases hq with hq | hq
 ·obtain ⟨its,r',pl,hz⟩:=I.list hq
  have hlen:=r'.length
  exact Calls.call_len_list pl.isList (by simp only [List.size_toArray] <;> omega) ⟨.int ys.length,H,I.tok _,⟨s.toks + 1,by rw [List.size_toArray,hlen]⟩,q⟩
 ·obtain ⟨its,r',pl,hz⟩:=I.tuple hq
  have hlen:=r'.length
  exact len_tuple pl (by simp only [List.size_toArray] <;> omega) ⟨.int ys.length,H,I.tok _,⟨s.toks + 1,by rw [List.size_toArray,hlen]⟩,q⟩
def tyV (K:PySem.W.Frag) (T:String) (x:V) (H:Hp):Prop:=match x with
 | .str _=>T="str"
 | .int _=>T="int"
 | .ref p=>(T="list"∧∃ xs,SqL K H p xs)∨(T="tuple"∧∃ o,K.lookup p=some o∧o.cls=.type "tuple"∧o.dict=none) ∨
   (T="dict"∧((∃ kvs,H p=some (.dK kvs))∨∃ kvs,H p=some (.dT kvs)))∨(T="set"∧∃ S n,H p=some (.set S n))
 | _=>False
theorem tyV_is {pins:List (Addr × Obj)} {σ:St} {H:Hp} {s:Shared} {T:String} {x:V} {v:Value} (I:Inv X pins σ H s) (r:RelV x v) (ty:tyV X.K T x H) :
  s.TypeIs v T∧∀ a,v=.ref a→∃ ob,s.heap.get? a=some ob∧ob.dict=none:=by
 cases x with
 | str z =>
  obtain ⟨t,rfl⟩:=r
  cases (show T="str" from ty)
  exact ⟨typeIs_str s z t,fun _ e=>nomatch e⟩
 | int i =>
  obtain ⟨t,rfl⟩:=r
  cases (show T="int" from ty)
  exact ⟨typeIs_int s i t,fun _ e=>nomatch e⟩
 | ref p =>
  cases r
  rcases ty with ⟨rfl,xs,hq⟩ | ⟨rfl,o,hk,hc,hd⟩ | ⟨rfl,hk⟩ | ⟨rfl,S,n,hk⟩
  ·obtain ⟨its,_,pl,_⟩:=I.list hq
   refine ⟨pl.isList.typeIs,fun a e=>?_⟩
   cases e
   obtain ⟨o,n,e,c,hd,_⟩:=pl
   exact ⟨o,e,hd⟩
  ·refine ⟨⟨o,I.kIn p o hk,hc⟩,fun a e=>?_⟩
   cases e
   exact ⟨o,I.kIn _ o hk,hd⟩
  ·have z:∃ o,s.heap.get? p=some o∧o.ExactDict:=by
    rcases hk with ⟨kvs,hk⟩ | ⟨kvs,hk⟩
    ·obtain ⟨_,_,_,_,o,_,_,e,ex,_⟩:=I.hok p _ hk
     exact ⟨o,e,ex⟩
    ·obtain ⟨_,_,_,_,o,_,_,e,ex,_⟩:=I.hok p _ hk
     exact ⟨o,e,ex⟩
   obtain ⟨o,e,ex⟩:=z
   refine ⟨⟨o,e,ex.1⟩,fun a e2=>?_⟩
   cases e2
   exact ⟨o,e,ex.2.1⟩
  ·obtain ⟨o,_,_,_,e,ex,_⟩:=I.hok p _ hk
   refine ⟨⟨o,e,ex.1⟩,fun a e2=>?_⟩
   cases e2
   exact ⟨o,e,ex.2.1⟩
 | _=>exact False.elim ty
def tBM (K:PySem.W.Frag) (T:String) (r:V→List V→Hp→VK→Prop) (to:TE) (t:TA):TE:=fun σ H Q=>to σ H fun x H1=>tyV K T x H1∧t σ H1 fun xs H2=>r x xs H2 Q
variable {o e:Expr} {es:List Expr} {to:TE} {t:TA} {name:Str} {apos cpos:Pos} {T id:String} {r:V→List V→Hp→VK→Prop}
theorem pe_bm (pa:PlainAttrs T) (slot:Slot T name id) (hty:typeOf (.builtin id)=pure (.type "method_descriptor")) (hm:MtR X id r) (ho:PE X o to) (ha:PA X (e :: es) t)
  (hbase:attributeBase o name X.env (eval o X.env)=eval o X.env:=by rfl)
  (hfew:((backTo cpos (starEach (e :: es) X.env)).all (fun x=>!x.1) && (backToKw cpos (keywordEach [] X.env)).all (fun x=>x.1.isSome)
   && decide ((e :: es).length + ([]:List Keyword).length + (if ([]:List Keyword).isEmpty then 0 else 1) < 30))=true:=by rfl)
  (hline:(apos.endLine == cpos.line)=true:=by rfl) (hs:starEach (e :: es) X.env=(false,eval e X.env) :: starEach es X.env:=by rfl) (hplain:(backTo cpos (starEach es X.env)).any (·.1)=false:=by rfl) :
  PE X (.Call (.Attribute o name apos) (e :: es) [] cpos) (tBM X.K T r to t):=by
 intro pins s σ H Q I h
 refine wpAny_Call_method_late hbase hfew hline rfl (thn (ho pins s σ H _ I h) fun v s1 ⟨x,H1,I1,r1,ty,q1⟩=>?_)
 obtain ⟨h1,h2⟩:=tyV_is I1 r1 ty
 refine ⟨T,id,pa,slot,hty,h1,h2,?_⟩
 have hA:=ha cpos pins s1 σ H1 _ I1 q1
 rw [hs] at hA ⊢
 refine Calls.callWith_builtin (by show (false || (backTo cpos (starEach es X.env)).any (·.1))=false; rw [hplain] <;> rfl) (Calls.evalArgs_plain ?_)
 exact thn hA fun us s2 ⟨vs,H2,I2,r2,q2⟩=>hm pins s2 σ H2 x vs v us Q I2 r1 r2 q2
end
end L2
namespace L2
open PySem PySem.Spec PyProof.Rows
def MtM (X:Cx) (id:String) (r:V→List V→Hp→VK→Prop):Prop :=
 ∀ (pins:List (Addr × Obj)) (s:Shared) (σ:St) (H:Hp) (x:V) (xs:List V) (v:Value) (us:List Value) (Q:VK),Inv X pins σ H s→RelV x v→Vals xs us→r x xs H Q →
  wpAny (model X.prog X.w) X.A (call (.builtin id) (v :: us)) (EP X pins σ Q) X.xe s
theorem Vals.one:∀ {x:V} {us:List Value},Vals [x] us→∃ u,us=[u]∧RelV x u
 | _,_,.cons r .nil=>⟨_,rfl,r⟩
section
variable {X:Cx} {pins:List (Addr × Obj)} {σ:St} {H:Hp} {s:Shared} {l b:Addr} {xs ys zs:List V}
theorem Inv.lset {its its':List Value} {n:Nat} {f:Array Value→Array Value} {t':Nat} (I:Inv X pins σ H s) (hH:H l=some (.lst xs))
  (e:s.heap.get? l=some { cls:=.type "list",data:=.seq its.toArray n }) (hf:f its.toArray=its'.toArray) (hv:Vals ys its') (hz:ys.length≤sizeLine) :
  Inv X pins σ (upd H l (.lst ys)) { s with heap:=s.heap.update l (Obj.mapSeq f),toks:=t' }:=by
 have q:=PySem.IsL.update e f
 rw [hf] at q
 refine I.write (x:=l) (e:=l) (by rw [hH]; exact trivial) (.inl rfl) (fun b' u hb hu=>(Heap.get?_update_other s.heap (Obj.mapSeq f) (Ne.symm hb)).trans hu) ⟨_,q⟩ ?_
 exact ⟨hz,its',_,hv,q⟩
theorem Inv.lnew {its:List Value} {t':Nat} (I:Inv X pins σ H s) (hv:Vals ys its) (hz:ys.length≤sizeLine) :
  Inv X pins σ (upd H s.heap.objs.size (.lst ys)) { s with heap:=s.heap.push { cls:=.type "list",data:=.seq its.toArray },toks:=t' } :=
 I.laid (fun _ _ q=>Heap.get?_push_of_some _ q) (Nat.le_refl _) ⟨hz,its,0,hv,Heap.get?_push_size _ rfl⟩
theorem Inv.fresh (I:Inv X pins σ H s):H s.heap.objs.size=none:=I.hok.fresh (Nat.le_refl _)
theorem Inv.lstM (I:Inv X pins σ H s) (hH:H l=some (.lst xs)):xs.length≤sizeLine∧∃ (its:List Value) (n:Nat),Vals xs its∧xs.length=its.length∧s.heap.get? l=some { cls:=.type "list",data:=.seq its.toArray n }:=by
 obtain ⟨z,its,n,r,e⟩:=I.hok l _ hH
 exact ⟨z,its,n,r,r.length,e⟩
theorem notLongL {n:Nat} (h:n≤sizeLine):Builtin.List.listTooLong n=false:=by
 unfold Builtin.List.listTooLong
 exact decide_eq_false (by omega)
end
section
variable {X:Cx}
def rAppend:V→List V→Hp→VK→Prop:=fun x vs H Q=>∃ l xs y,x=.ref l∧vs=[y]∧H l=some (.lst xs)∧xs.length < sizeLine∧Q .non (upd H l (.lst (xs ++ [y])))
theorem mt_append:MtM X "list.append" rAppend:=by
 intro pins s σ H x vs v us Q I rx rv h
 obtain ⟨l,xs,y,rfl,rfl,hH,hz,q⟩:=h
 cases rx
 obtain ⟨u,rfl,ru⟩:=rv.one
 obtain ⟨z,its,n,r,hl,e⟩:=I.lstM hH
 refine call_meets F.slot_list_append ⟨_,e,rfl⟩ F.entry_list_append (F.args_list_append_2 _ _) (PySem.list_append l its.toArray n u (by rw [List.size_toArray]; omega)) ⟨e,?_⟩
 refine ⟨.non,_,I.lset (its':=its ++ [u]) hH e (by simp) (r.append (.cons ru .nil)) ?_,rfl,q⟩
 rw [List.length_append,List.length_singleton]
 omega
def rExtend:V→List V→Hp→VK→Prop:=fun x vs H Q=>∃ l b xs zs,x=.ref l∧vs=[.ref b]∧H l=some (.lst xs)∧H b=some (.lst zs)∧xs.length + zs.length≤sizeLine∧Q .non (upd H l (.lst (xs ++ zs)))
theorem mt_extend:MtM X "list.extend" rExtend:=by
 intro pins s σ H x vs v us Q I rx rv h
 obtain ⟨l,b,xs,zs,rfl,rfl,hH,hB,hz,q⟩:=h
 cases rx
 obtain ⟨u,rfl,ru⟩:=rv.one
 cases ru
 obtain ⟨z,its,n,r,hl,e⟩:=I.lstM hH
 obtain ⟨z2,its2,n2,r2,hl2,e2⟩:=I.lstM hB
 have hsz:its.toArray.size + its2.toArray.size≤sizeLine:=by rw [List.size_toArray,List.size_toArray]; omega
 have hlong:¬ (!its.toArray.isEmpty && Builtin.List.listTooLong (its.toArray.size + its2.toArray.size))=true:=by
  rw [notLongL hsz,Bool.and_false]
  exact Bool.false_ne_true
 refine call_meets F.slot_list_extend ⟨_,e,rfl⟩ F.entry_list_extend (F.args_list_extend_2 _ _)
  (AutoSeq1.list_extend_list_list_0 l its.toArray n b its2.toArray n2 hlong (by rw [List.size_toArray]; omega) (by omega)) ⟨e,e2,?_⟩
 refine ⟨.non,_,I.lset (its':=its ++ its2) hH e (by simp) (r.append r2) ?_,rfl,q⟩
 rw [List.length_append]
 omega
def rCat:R2:=fun x y H Q=>∃ l b xs zs,x=.ref l∧y=.ref b∧H l=some (.lst xs)∧H b=some (.lst zs)∧xs.length + zs.length≤sizeLine∧∀ p,H p=none→Q (.ref p) (upd H p (.lst (xs ++ zs)))
theorem op_cat:OpR X (binaryOp .Add) rCat:=by
 intro pins s σ H x y v u Q I rx ry h
 obtain ⟨l,b,xs,zs,rfl,rfl,hH,hB,hz,q⟩:=h
 cases rx
 cases ry
 obtain ⟨z,its,n,r,hl,e⟩:=I.lstM hH
 obtain ⟨z2,its2,n2,r2,hl2,e2⟩:=I.lstM hB
 refine PySem.P.add_list e e2 ?_ (by rw [List.size_toArray,List.size_toArray]; omega)
 have ea:its.toArray ++ its2.toArray=(its ++ its2).toArray:=by simp
 rw [ea]
 exact ⟨.ref _,_,I.lnew (t':=s.toks) (r.append r2) (by rw [List.length_append]; omega),rfl,q _ I.fresh⟩
end
section
variable {prog:Program} {w:World} {A:Around} {E:Value→Shared→Prop} {s:Shared}
end
section
variable {X:Cx}
end
end L2
namespace L2
open PySem PySem.Spec PyProof.Rows
theorem Vals.ints:∀ {ns:List Int} {us:List Value},Vals (ns.map V.int) us→IntsAre us ns
 | [],us,h=>by
  rw [List.map_nil] at h
  cases h
  exact IntsAre.nil
 | n :: ns,us,h=>by
  rw [List.map_cons] at h
  cases h with
  | cons r t =>
   obtain ⟨k,rfl⟩:=r
   exact IntsAre.cons n k (Vals.ints t)
theorem Vals.ref1 {a:Addr} {us:List Value} (r:Vals [V.ref a] us):us=[Value.ref a]:=by
 cases r with
 | cons r t =>
  cases t
  cases r
  rfl
section
variable {prog:Program} {w:World} {A:Around} {E:Value→Shared→Prop} {s:Shared} {l:Addr} {its:List Value} {ns:List Int} {Q:Value→Shared→Prop}
theorem sum_raw (hh:A.handled=none) (hl:s.heap.IsList l its.toArray) (hi:IntsAre its ns)
  (h:∀ h' tk t',(∀ b o,s.heap.get? b=some o→h'.get? b=some o)→Q (.int ns.sum t') { s with heap:=h',toks:=tk }):wpAny (model prog w) A (call (.builtin "sum") [.ref l]) Q E s:=by
 obtain ⟨xs,e⟩:=hi.allInts.items
 have hn:numsOf (intItems xs).toList=ns:=by rw [← e]; exact hi.numsOf
 rw [nums_intItems] at hn
 rw [e] at hl
 refine PySem.sum_intListG hh hl fun h' tk t' hk=>?_
 have:=h h' tk t' hk
 rw [preSum_eq,List.take_of_length_le (by simp),hn]; exact this
end
section
variable {X:Cx}
def rSum (K:PySem.W.Frag):List V→Hp→VK→Prop:=fun vs H Q=>∃ (a:Addr) (ns:List Int),vs=[V.ref a]∧SqL K H a (ns.map V.int)∧Q (.int ns.sum) H
theorem cr_sum (hc:X.calm=true):CallR X (.builtin "sum") (rSum X.K):=by
 intro pins s σ H vs us Q I r h
 obtain ⟨a,ns,rfl,hs,q⟩:=h
 obtain ⟨its,rv,hl,_⟩:=I.list hs
 rw [Vals.ref1 r]
 exact sum_raw (I.ok.hd hc) hl.isList rv.ints fun h' tk t' hk=>⟨.int _,H,I.kept hk,⟨_,rfl⟩,q⟩
end
section
variable {X:Cx}
def rIndex (K:PySem.W.Frag):V→List V→Hp→VK→Prop:=fun x xs H Q=>∃ (a:Addr) (ys:List V) (y:V) (j:Nat) (z:V),x=V.ref a∧xs=[y]∧SqL K H a ys∧flatV y=true∧ys.all flatV=true∧ys[j]?=some z∧eqV z y=true ∧
 (∀ (m:Nat) (z':V),m < j→ys[m]?=some z'→eqV z' y=false)∧Q (.int (j:Nat)) H
theorem flat_at {ys:List V} (f:ys.all flatV=true) {j:Nat} {z:V} (h:ys[j]?=some z):flatV z=true:=List.all_eq_true.mp f z (List.mem_of_getElem? h)
theorem mt_index:MtR X "list.index" (rIndex X.K):=by
 intro pins s σ H x xs v us Q I rx rxs h
 obtain ⟨a,ys,y,j,z,rfl,rfl,hs,fy,fys,hz,hzj,hno,q⟩:=h
 cases rx
 cases rxs with
 | cons ry rt =>
  rename_i uy ut
  cases rt
  obtain ⟨its,rv,⟨⟨cls,dd,data,sl⟩,n,ho,hc,hdn,hd⟩,hlen⟩:=I.list hs
  simp only at hc hd
  subst hc hd
  obtain ⟨u,hu,ru⟩:=rv.get hz
  obtain ⟨hjl,hje⟩:=List.getElem?_eq_some_iff.mp hu
  have hvl:=rv.length
  have hj:j < its.toArray.size:=by simpa using hjl
  have hsl:=sizeLine_eq
  refine call_meets PySem.F.slot_list_index ⟨_,ho,rfl⟩ PySem.F.entry_list_index (PySem.F.args_list_index_2 _ _)
   (SeqAt.list_indexAt a its.toArray n dd sl uy (eqU y) j hj (by omega) ?_ ?_) ⟨ho,fun u' hu'=>mem_eqAt ry fy rv fys u' (by simpa using hu'),?_⟩
  ·have e1:its.toArray[j]=u:=by simpa using hje
   rw [e1,eqU_of ru (flat_at fys hz)]
   exact hzj
  ·intro m hm hmj
   have hml:m < its.length:=by simpa using hm
   have hmy:m < ys.length:=by omega
   have hy':ys[m]?=some ys[m]:=List.getElem?_eq_getElem hmy
   obtain ⟨u2,hu2,ru2⟩:=rv.get hy'
   obtain ⟨_,hme⟩:=List.getElem?_eq_some_iff.mp hu2
   have e1:its.toArray[m]=u2:=by simpa using hme
   rw [e1,eqU_of ru2 (flat_at fys hy')]
   exact hno m _ hmj hy'
  ·exact ⟨.int (j:Nat),H,I.tok _,⟨_,rfl⟩,q⟩
end
section
variable {X:Cx}
end
section
variable {X:Cx}
end
mutual
inductive Dp (K:PySem.W.Frag) (H:Hp):V→PyData→Prop
 | non:Dp K H .non .none
 | bl (b:Bool):Dp K H (.bl b) (.bool b)
 | int (i:Int):Dp K H (.int i) (.int i)
 | str (x:Str):Dp K H (.str x) (.str x)
 | lst {a:Addr} {xs:List V} {ds:List PyData}:SqL K H a xs→DpAll K H xs ds→Dp K H (.ref a) (.list ds)
 | tup {a:Addr} {xs:List V} {ds:List PyData}:SqT K H a xs→DpAll K H xs ds→Dp K H (.ref a) (.tuple ds)
inductive DpAll (K:PySem.W.Frag) (H:Hp):List V→List PyData→Prop
 | nil:DpAll K H [] []
 | cons {v:V} {vs:List V} {d:PyData} {ds:List PyData}:Dp K H v d→DpAll K H vs ds→DpAll K H (v :: vs) (d :: ds)
end
section
variable {X:Cx} {pins:List (Addr × Obj)} {σ:St} {H:Hp} {s:Shared}
mutual
theorem Dp.reads (I:Inv X pins σ H s):∀ (d:PyData) (v:V) (u:Value),Dp X.K H v d→RelV v u→∃ as,Reads s.heap u d as
 | .none,_,_,h,r=>by
  cases h
  cases r
  exact ⟨_,Reads.none⟩
 | .bool b,_,_,h,r=>by
  cases h
  cases r
  exact ⟨_,Reads.bool b⟩
 | .int i,_,_,h,r=>by
  cases h
  obtain ⟨t,rfl⟩:=r
  exact ⟨_,Reads.int i t⟩
 | .str x,_,_,h,r=>by
  cases h
  obtain ⟨t,rfl⟩:=r
  exact ⟨_,Reads.str x t⟩
 | .list ds,_,_,h,r=>by
  cases h with
  | lst hs ha =>
   cases r
   obtain ⟨its,rv,⟨o,n,ho,hc,_,hd⟩,_⟩:=I.list hs
   obtain ⟨as,hr⟩:=Dp.readsAll I ds _ its ha rv
   exact ⟨_,Reads.list ho hc hd hr⟩
 | .tuple ds,_,_,h,r=>by
  cases h with
  | tup hs ha =>
   cases r
   obtain ⟨its,rv,⟨o,ho,hc,n,hd⟩,_⟩:=I.tuple hs
   obtain ⟨as,hr⟩:=Dp.readsAll I ds _ its ha rv
   exact ⟨_,Reads.tuple ho hc hd hr⟩
 | .dict _,_,_,h,_=>by cases h
theorem Dp.readsAll (I:Inv X pins σ H s):∀ (ds:List PyData) (vs:List V) (us:List Value),DpAll X.K H vs ds→Vals vs us→∃ as,ReadsAll s.heap us ds as
 | [],_,_,h,r=>by
  cases h
  cases r
  exact ⟨_,ReadsAll.nil⟩
 | d :: ds,_,_,h,r=>by
  cases h with
  | cons h1 h2 =>
   cases r with
   | cons r1 r2 =>
    obtain ⟨as,q1⟩:=Dp.reads I d _ _ h1 r1
    obtain ⟨bs,q2⟩:=Dp.readsAll I ds _ _ h2 r2
    exact ⟨_,ReadsAll.cons q1 q2⟩
end
end
section
variable {X:Cx}
def rEqD (K:PySem.W.Frag):R2:=fun x y H Q=>∃ d e,Dp K H x d∧Dp K H y e∧SeqAt.shaped d=true∧SeqAt.shaped e=true∧Q (.bl (PyData.eqv d e)) H
theorem op_eqD (hu:X.A.units + 64 < cLine):OpR X (compareOp .Eq) (rEqD X.K):=by
 intro pins s σ H x y v u Q I rx ry h
 obtain ⟨d,e,hd,he,sd,se,q⟩:=h
 obtain ⟨as,r1⟩:=Dp.reads I d x v hd rx
 obtain ⟨bs,r2⟩:=Dp.reads I e y u he ry
 exact SeqAt.compareEq_shaped r1 r2 sd se hu ⟨.bl _,H,I,rfl,q⟩
end
end L2
namespace L2
open PySem PySem.Spec PyProof.Rows
abbrev CellAt (h:Heap) (c:Addr) (v:Option Value):Prop:=h.IsCell c v
def relS (scope sc:Scope):Scope :=
 { scope with names:=scope.names.map fun (n,k)=>if (k == .free && sc.kind == .function && sc.names.lookup n == some .cell) then (n,.cell) else (n,k) }
def cloFrom (cells:List (Str × Addr)):List (Str × NameKind)→List (Str × Addr)→List (Str × Addr)
 | [],acc=>acc
 | (n,k) :: r,acc=>if k == .free then cloFrom cells r ((n,(cells.lookup n).getD 0) :: acc) else cloFrom cells r acc
theorem closure_loop (env:Env) (f:Str × NameKind→List (Str × Addr)→Sem (ForInStep (List (Str × Addr))))
  (hf:∀ n k c,f (n,k) c=if k == .free then (do let a ← cellOf env n; pure (.yield ((n,a) :: c))) else pure (.yield c)) :
  ∀ (names:List (Str × NameKind)) (acc:List (Str × Addr)),(∀ y ∈ names,y.2=.free→∃ c,env.cells.lookup y.1=some c)→forIn names acc f=pure (cloFrom env.cells names acc)
 | [],acc,_=>by rw [List.forIn_nil]; rfl
 | (n,k) :: r,acc,h=>by
  rw [List.forIn_cons,hf]
  have ih:=fun acc=>closure_loop env f hf r acc fun y hy=>h y (List.mem_cons_of_mem _ hy)
  unfold cloFrom
  by_cases hk:(k == NameKind.free)=true
  ·rw [if_pos hk,if_pos hk]
   obtain ⟨c,hc⟩:=h (n,k) List.mem_cons_self (by simpa using hk)
   have e:cellOf env n=pure c:=by unfold cellOf; rw [hc]
   rw [e]
   have e2:(env.cells.lookup n).getD 0=c:=by rw [hc]; rfl
   rw [e2]
   exact ih _
  ·rw [if_neg hk,if_neg hk]
   exact ih _
theorem closure_ok {scope:Scope} {env:Env} (h:∀ y ∈ scope.names,y.2=.free→∃ c,env.cells.lookup y.1=some c):closureFor scope env=pure (cloFrom env.cells scope.names []):=by
 simp only [closureFor]
 rw [closure_loop env _ (fun n k c=>rfl) scope.names [] h]
 rfl
theorem mem_lookup {α:Type}:∀ {l:List (Str × α)} {n:Str} {c:α},(n,c) ∈ l→∃ c',l.lookup n=some c'
 | (k,v) :: r,n,c,h=>by
  rw [List.lookup_cons]
  cases hb:n == k with
  | true=>exact ⟨_,rfl⟩
  | false =>
   rcases List.mem_cons.mp h with e | h
   ·cases e; simp at hb
   ·exact mem_lookup h
theorem cloFrom_mem {cells:List (Str × Addr)}:∀ {names:List (Str × NameKind)} {acc:List (Str × Addr)} {n:Str} {c:Addr},(n,c) ∈ cloFrom cells names acc→(n,c) ∈ acc∨((n,.free) ∈ names∧c=(cells.lookup n).getD 0)
 | [],_,_,_,h=>.inl h
 | (m,k) :: r,acc,n,c,h=>by
  unfold cloFrom at h
  split at h
  ·rename_i hk
   have hk:k=.free:=by simpa using hk
   rcases cloFrom_mem h with h | ⟨h1,h2⟩
   ·rcases List.mem_cons.mp h with e | h
    ·cases e; exact .inr ⟨hk ▸ List.mem_cons_self,rfl⟩
    ·exact .inl h
   ·exact .inr ⟨List.mem_cons_of_mem _ h1,h2⟩
  ·rcases cloFrom_mem h with h | ⟨h1,h2⟩
   ·exact .inl h
   ·exact .inr ⟨List.mem_cons_of_mem _ h1,h2⟩
theorem cloFrom_acc {cells:List (Str × Addr)}:∀ {names:List (Str × NameKind)} {acc:List (Str × Addr)} {p:Str × Addr},p ∈ acc→p ∈ cloFrom cells names acc
 | [],_,_,h=>h
 | (m,k) :: r,acc,p,h=>by
  unfold cloFrom
  split
  ·exact cloFrom_acc (List.mem_cons_of_mem _ h)
  ·exact cloFrom_acc h
theorem cloFrom_has {cells:List (Str × Addr)}:∀ {names:List (Str × NameKind)} {acc:List (Str × Addr)} {n:Str},(n,.free) ∈ names→(n,(cells.lookup n).getD 0) ∈ cloFrom cells names acc
 | (m,k) :: r,acc,n,h=>by
  unfold cloFrom
  rcases List.mem_cons.mp h with e | h
  ·cases e
   exact cloFrom_acc List.mem_cons_self
  ·split
   ·exact cloFrom_has h
   ·exact cloFrom_has h
theorem cells_mem:∀ {names:List (Str × NameKind)} {h:Heap} {acc:List (Str × Addr)} {x:Str} {c:Addr},(x,c) ∈ cellsFrom h.objs.size names acc →
  (x,c) ∈ acc∨((x,.cell) ∈ names∧h.objs.size≤c∧CellAt (pushCells h names) c none)
 | [],_,_,_,_,h=>.inl h
 | (n,k) :: r,h,acc,x,c,hm=>by
  unfold cellsFrom at hm
  unfold pushCells
  split at hm
  ·rename_i hk
   rw [if_pos hk]
   have hk:k=.cell:=by simpa using hk
   rw [← Heap.size_push h { cls:=.type "cell",data:=.cell none }] at hm
   rcases cells_mem hm with hm | ⟨h1,h2,h3⟩
   ·rcases List.mem_cons.mp hm with e | hm
    ·cases e
     exact .inr ⟨hk ▸ List.mem_cons_self,Nat.le_refl _,_,pushCells_keeps r _ _ _ (Heap.get?_push_size _ rfl),rfl⟩
    ·exact .inl hm
   ·rw [Heap.size_push] at h2
    exact .inr ⟨List.mem_cons_of_mem _ h1,Nat.le_of_succ_le h2,h3⟩
  ·rename_i hk
   rw [if_neg hk]
   rcases cells_mem hm with hm | ⟨h1,h2,h3⟩
   ·exact .inl hm
   ·exact .inr ⟨List.mem_cons_of_mem _ h1,h2,h3⟩
theorem cells_acc:∀ {names:List (Str × NameKind)} {n:Nat} {acc:List (Str × Addr)} {p:Str × Addr},p ∈ acc→p ∈ cellsFrom n names acc
 | [],_,_,_,h=>h
 | (m,k) :: r,n,acc,p,h=>by
  unfold cellsFrom
  split
  ·exact cells_acc (List.mem_cons_of_mem _ h)
  ·exact cells_acc h
theorem cells_has:∀ {names:List (Str × NameKind)} {n:Nat} {acc:List (Str × Addr)} {x:Str},(x,.cell) ∈ names→∃ c,(x,c) ∈ cellsFrom n names acc
 | (m,k) :: r,n,acc,x,h=>by
  unfold cellsFrom
  rcases List.mem_cons.mp h with e | h
  ·cases e
   exact ⟨n,cells_acc List.mem_cons_self⟩
  ·split
   ·exact cells_has h
   ·exact cells_has h
theorem cells_inj:∀ {names:List (Str × NameKind)} {h:Heap} {acc:List (Str × Addr)} {x y:Str} {c:Addr},(∀ p ∈ acc,p.2 < h.objs.size)→(∀ x y c,(x,c) ∈ acc→(y,c) ∈ acc→x=y) →
  (x,c) ∈ cellsFrom h.objs.size names acc→(y,c) ∈ cellsFrom h.objs.size names acc→x=y
 | [],_,_,_,_,_,_,hi,h1,h2=>hi _ _ _ h1 h2
 | (n,k) :: r,h,acc,x,y,c,hl,hi,h1,h2=>by
  unfold cellsFrom at h1 h2
  split at h1
  ·rename_i hk
   rw [if_pos hk] at h2
   rw [← Heap.size_push h { cls:=.type "cell",data:=.cell none }] at h1 h2
   refine cells_inj (h:=h.push _) (fun p hp=>?_) (fun x y c a b=>?_) h1 h2
   ·rw [Heap.size_push]
    rcases List.mem_cons.mp hp with rfl | hp
    ·exact Nat.lt_succ_self _
    ·exact Nat.lt_succ_of_lt (hl p hp)
   ·rcases List.mem_cons.mp a with e | a <;> rcases List.mem_cons.mp b with e' | b
    ·cases e; cases e'; rfl
    ·cases e; exact absurd (hl _ b) (Nat.lt_irrefl _)
    ·cases e'; exact absurd (hl _ a) (Nat.lt_irrefl _)
    ·exact hi _ _ _ a b
  ·rename_i hk
   rw [if_neg hk] at h2
   exact cells_inj hl hi h1 h2
theorem newEnv_comp {M:Model} {A:Around} {E:Value→Shared→Prop} {s:Shared} {scope:Scope} {globals:Addr} {closure:List (Str × Addr)} {qual:Str} {func:Option Addr} {code:Value} {around:Env} {builtins:Addr} {Q:Env→Shared→Prop}
  (h:Q (newEnv scope s.heap.objs.size globals (cellsFrom (s.heap.objs.size + 1) scope.names closure) qual func code (some around) builtins)
   { s with heap:=pushCells (s.heap.push { cls:=.type "dict",data:=.dict #[] }) scope.names }) :
  wpAny M A (newFunctionEnv scope globals closure [] qual func code (some around) builtins) Q E s:=by
 simp only [newFunctionEnv,Option.isSome_some,if_true]
 refine wpAny_bind (wpAny_alloc ?_)
 refine wpAny_bind (wpAny_layCells _ (fun n k c=>rfl) scope.names closure _ _ ?_)
 rw [show ({ s with heap:=s.heap.push { cls:=.type "dict",data:=.dict #[] } }:Shared).heap.objs.size=s.heap.objs.size + 1 from Heap.size_push ..]
 rw [List.forIn_nil]
 exact wpAny_bind (wpAny_pure (wpAny_pure h))
theorem lookup_relS {sc:Scope}:∀ {names:List (Str × NameKind)} {x:Str} {k:NameKind},
  (names.map fun (n,k)=>if (k == NameKind.free && sc.kind == .function && sc.names.lookup n == some .cell) then (n,NameKind.cell) else (n,k)).lookup x=some k →
  ∃ k',names.lookup x=some k'∧(k=k'∨(k'=.free∧k=.cell))
 | [],_,_,h=>by simp at h
 | (n,k₀) :: r,x,k,h=>by
  have ih:=@lookup_relS sc r x k
  have h':List.lookup x ((if (k₀ == NameKind.free && sc.kind == .function && sc.names.lookup n == some .cell)=true then (n,NameKind.cell) else (n,k₀)) :: (r.map _))=some k:=h
  cases hx:x == n with
  | true =>
   simp only [List.lookup_cons,hx]
   by_cases hc:(k₀ == NameKind.free && sc.kind == .function && sc.names.lookup n == some .cell)=true
   ·rw [if_pos hc] at h'
    simp only [List.lookup_cons,hx] at h'
    cases h'
    simp only [Bool.and_eq_true,beq_iff_eq] at hc
    exact ⟨k₀,rfl,.inr ⟨hc.1.1,rfl⟩⟩
   ·rw [if_neg hc] at h'
    simp only [List.lookup_cons,hx] at h'
    cases h'
    exact ⟨_,rfl,.inl rfl⟩
  | false =>
   simp only [List.lookup_cons,hx]
   by_cases hc:(k₀ == NameKind.free && sc.kind == .function && sc.names.lookup n == some .cell)=true
   ·rw [if_pos hc] at h'
    simp only [List.lookup_cons,hx] at h'
    exact ih h'
   ·rw [if_neg hc] at h'
    simp only [List.lookup_cons,hx] at h'
    exact ih h'
structure BlkOk (N:List Str) (sc scope:Scope) (own:List (Str × Nat)):Prop where
 kind:scope.kind=.function
 uniq:∀ y ∈ scope.names,scope.names.lookup y.1=some y.2
 ix:∀ p ∈ own,N[p.2]?=some p.1
 free:∀ y ∈ scope.names,y.2=.free→sc.names.lookup y.1=some .cell∨sc.names.lookup y.1=some .free
 own:∀ y ∈ scope.names,y.2=.local∨y.2=.cell→y.1 ∈ own.map (·.1)∨y.1 ∉ N
def wipe (σ:St):List Nat→St
 | []=>σ
 | v :: vs=>(wipe σ vs).set v none
theorem wipe_length (σ:St):∀ vs:List Nat,(wipe σ vs).length=σ.length
 | []=>rfl
 | v :: vs=>by unfold wipe; rw [List.length_set,wipe_length σ vs]
theorem wipe_some {σ:St} {i:Nat} {x:V}:∀ {vs:List Nat},(wipe σ vs)[i]?=some (some x)→σ[i]?=some (some x)∧i ∉ vs
 | [],h=>⟨h,by simp⟩
 | v :: vs,h=>by
  unfold wipe at h
  by_cases hi:v=i
  ·subst hi
   by_cases hv:v < (wipe σ vs).length
   ·rw [List.getElem?_set_self hv] at h; cases h
   ·rw [List.getElem?_eq_none (by simpa using hv)] at h; cases h
  ·rw [List.getElem?_set_ne hi] at h
   obtain ⟨h1,h2⟩:=wipe_some h
   exact ⟨h1,by simp only [List.mem_cons,not_or]; exact ⟨fun e=>hi e.symm,h2⟩⟩
abbrev Cx.blk (X:Cx) (s:Shared) (H:Hp) (scope:Scope) (cenv:Env) (fp:List Addr):Cx:={ X with s_0:=s,H_0:=H,env:=cenv,outer:=X.stack,ex:=fp,fn:=fun x=>scope.names.lookup x == some .cell,pn:=[],xe:=fun _ _=>False }
section
variable {X:Cx} {pins:List (Addr × Obj)} {σ:St} {H:Hp} {s:Shared}
theorem block_start {scope:Scope} {own:List (Str × Nat)} {fp:List Addr} (I:Inv X pins σ H s) (ok:BlkOk X.N X.env.scope scope own) (hN:X.N.Nodup) (hfp:∀ b ∈ fp,FpOk X pins H b∧b < s.heap.objs.size) :
  Inv (X.blk s H scope (compEnvC scope (cellsFrom (s.heap.objs.size + 1) scope.names (cloFrom X.env.cells scope.names [])) s.heap.objs.size X.env) fp) [] (wipe σ (own.map (·.2))) H { s with heap:=pushCells (s.heap.push { cls:=.type "dict",data:=.dict #[] }) scope.names }:=by
 have hfree:∀ y ∈ scope.names,y.2=.free→∃ c,X.env.cells.lookup y.1=some c:=fun y hy e=>by
  rcases ok.free y hy e with k | k
  ·exact I.ok.has _ (.inl k)
  ·exact I.ok.has _ (.inr k)
 generalize hcenv:compEnvC scope (cellsFrom (s.heap.objs.size + 1) scope.names (cloFrom X.env.cells scope.names [])) s.heap.objs.size X.env=cenv
 have kp:∀ b o,s.heap.get? b=some o→(pushCells (s.heap.push { cls:=.type "dict",data:=.dict #[] }) scope.names).get? b=some o:=fun b o e=>pushCells_keeps _ _ _ _ (Heap.get?_push_of_some _ e)
 have hL:cenv.locals=s.heap.objs.size:=by rw [← hcenv]; rfl
 have hcl:cenv.cells=cellsFrom (s.heap.objs.size + 1) scope.names (cloFrom X.env.cells scope.names []):=by rw [← hcenv]; rfl
 have hsc:cenv.scope=relS scope X.env.scope:=by rw [← hcenv]; rfl
 rw [← Heap.size_push s.heap { cls:=.type "dict",data:=.dict #[] }] at hcl
 have cm:∀ {y c},(y,c) ∈ cloFrom X.env.cells scope.names []→X.env.cells.lookup y=some c∧c < s.heap.objs.size:=fun {y c} hm=>by
  rcases cloFrom_mem hm with hm | ⟨h1,rfl⟩
  ·cases hm
  ·obtain ⟨c,hc⟩:=hfree _ h1 rfl
   rw [hc]
   obtain ⟨w,z⟩:=I.cell _ _ hc
   exact ⟨rfl,z.lt⟩
 have mem:∀ {y c},cenv.cells.lookup y=some c→(X.env.cells.lookup y=some c∧c < s.heap.objs.size)∨(s.heap.objs.size + 1≤c∧CellAt (pushCells (s.heap.push { cls:=.type "dict",data:=.dict #[] }) scope.names) c none):=fun {y c} e=>by
  rw [hcl] at e
  rcases cells_mem (PySem.mem_of_lookup e) with hm | ⟨_,h2,h3⟩
  ·exact .inl (cm hm)
  ·rw [Heap.size_push] at h2; exact .inr ⟨h2,h3⟩
 have look:∀ {y},scope.names.lookup y=some .free→∃ c,cenv.cells.lookup y=some c∧X.env.cells.lookup y=some c:=fun {y} hl=>by
  have hy:(y,NameKind.free) ∈ scope.names:=PySem.mem_of_lookup hl
  obtain ⟨c',e'⟩:=mem_lookup (cells_acc (names:=scope.names) (n:=(s.heap.push { cls:=.type "dict",data:=.dict #[] }).objs.size) (cloFrom_has (cells:=X.env.cells) (acc:=[]) hy))
  rw [← hcl] at e'
  refine ⟨c',e',?_⟩
  rw [hcl] at e'
  rcases cells_mem (PySem.mem_of_lookup e') with hm | ⟨h1,_,_⟩
  ·exact (cm hm).1
  ·have:=ok.uniq _ h1
   rw [hl] at this; cases this
 have okB:(X.blk s H scope cenv fp).Ok:=by
  refine ⟨I.ok.mod,by show cenv.scope.kind=_; rw [hsc]; exact ok.kind,by show cenv.globals=_; rw [← hcenv]; exact I.ok.glob,by show cenv.builtins=_; rw [← hcenv]; exact I.ok.blt,by show s.heap.objs.size≤cenv.locals; rw [hL]; exact Nat.le_refl _,
   fun y z c e1 e2=>?_,fun y hy=>?_,fun y c z e=>?_,I.ok.hd,I.ok.frames,.inl rfl,fun b hb=>⟨?_,fun y c e z=>?_⟩,I.bs,Nat.le_trans I.ok.bsz I.sz,fun b o e hb=>?_,fun b hb z=>?_,I.stack,I.stkFree⟩
  ·have e1:cenv.cells.lookup y=some c:=e1
   have e2:cenv.cells.lookup z=some c:=e2
   rw [hcl] at e1 e2
   refine cells_inj (fun p hp=>?_) (fun y z c a b=>I.ok.inj y z c (cm a).1 (cm b).1) (PySem.mem_of_lookup e1) (PySem.mem_of_lookup e2)
   rw [Heap.size_push]
   exact Nat.lt_succ_of_lt (cm (y:=p.1) (c:=p.2) hp).2
  ·show ∃ c,cenv.cells.lookup y=some c
   have key:∀ k,cenv.kindOf y=some k→(k=.cell∨k=.free)→∃ c,cenv.cells.lookup y=some c:=fun k hk hk'=>by
    unfold Env.kindOf at hk
    rw [hsc] at hk
    obtain ⟨k',e,r⟩:=lookup_relS hk
    have:k'=.cell∨k'=.free:=by
     rcases r with rfl | ⟨rfl,_⟩
     ·exact hk'
     ·exact .inr rfl
    rcases this with rfl | rfl
    ·obtain ⟨c,hm⟩:=cells_has (n:=(s.heap.push { cls:=.type "dict",data:=.dict #[] }).objs.size) (acc:=cloFrom X.env.cells scope.names []) (PySem.mem_of_lookup e)
     obtain ⟨c',e'⟩:=mem_lookup hm
     exact ⟨c',by rw [hcl]; exact e'⟩
    ·obtain ⟨c,h1,_⟩:=look e
     exact ⟨c,h1⟩
   rcases hy with hy | hy
   ·exact key _ hy (.inl rfl)
   ·exact key _ hy (.inr rfl)
  ·have z:(scope.names.lookup y == some NameKind.cell)=true:=z
   have z:scope.names.lookup y=some .cell:=by simpa using z
   have e:cenv.cells.lookup y=some c:=e
   rw [hcl] at e
   rcases cells_mem (PySem.mem_of_lookup e) with hm | ⟨_,h2,_⟩
   ·rcases cloFrom_mem hm with hm | ⟨h1,_⟩
    ·cases hm
    ·have q:=ok.uniq _ h1
     rw [z] at q; cases q
   ·rw [Heap.size_push] at h2
    exact Nat.le_of_succ_le h2
  ·show b≠cenv.locals
   rw [hL]; exact Nat.ne_of_lt (hfp b hb).2
  ·have e:cenv.cells.lookup y=some c:=e
   rcases mem e with ⟨h1,_⟩ | ⟨h1,_⟩
   ·exact (hfp b hb).1.2.2.2.2.1 y c h1 z
   ·have h2:s.heap.objs.size + 1≤b:=by rw [← z]; exact h1
    exact absurd (Nat.lt_of_lt_of_le (hfp b hb).2 (Nat.le_of_succ_le h2)) (Nat.lt_irrefl _)
  ·rcases (hfp b hb).1.2.2.2.1 with z | z
   ·exact I.ok.noex b o e z
   ·exact absurd (Nat.lt_of_lt_of_le (Heap.lt_size e) (Nat.le_trans I.ok.bsz z)) (Nat.lt_irrefl _)
  ·rcases List.mem_cons.mp (I.stkSub b z) with z | z
   ·exact (hfp b hb).1.2.1 z
   ·exact (hfp b hb).1.2.2.1 z
 refine ⟨okB,rfl,I.bare,Un.kept kp,⟨fun _=>none,?_,fun i y av e1 e2 e3=>?_⟩,fun y c e=>?_,?_,fun y c e=>?_,fun p hp=>?_,I.hok.kept kp,by rw [wipe_length]; exact I.len⟩
 ·show Heap.Ns _ cenv.locals _
  rw [hL]
  exact Heap.Ns.keeps (Heap.Ns.new ..) fun b o e=>pushCells_keeps _ _ _ _ e
 ·obtain ⟨e2,hne⟩:=wipe_some e2
  have hfr:scope.names.lookup y=some .free∧(cenv.kindOf y=some .cell∨cenv.kindOf y=some .free):=by
   have key:∀ k,cenv.scope.names.lookup y=some k→k=.local∨k=.cell∨k=.free→scope.names.lookup y=some .free∧(cenv.kindOf y=some .cell∨cenv.kindOf y=some .free):=fun k hk hk'=>by
    have hk0:=hk
    rw [hsc] at hk
    obtain ⟨k',e,r⟩:=lookup_relS hk
    have no:¬ (k'=.local∨k'=.cell):=fun hh=>by
     rcases ok.own _ (PySem.mem_of_lookup e) hh with e' | e'
     ·obtain ⟨p,hp,hpy⟩:=List.mem_map.mp e'
      have e3:=ok.ix p hp
      have:p.1=y:=hpy
      rw [this] at e3
      exact hne (List.mem_map.mpr ⟨p,hp,nodup_ix hN e3 e1⟩)
     ·exact e' (List.mem_of_getElem? e1)
    rcases r with rfl | ⟨rfl,rfl⟩
    ·rcases hk' with rfl | rfl | rfl
     ·exact absurd (.inl rfl) no
     ·exact absurd (.inr rfl) no
     ·exact ⟨e,.inr hk0⟩
    ·exact ⟨e,.inl hk0⟩
   have e3:Vis cenv.scope y:=e3
   rcases e3 with e3 | e3 | e3
   ·exact key _ e3 (.inl rfl)
   ·exact key _ e3 (.inr (.inl rfl))
   ·exact key _ e3 (.inr (.inr rfl))
  obtain ⟨m,hn,hl⟩:=I.loc
  have hvis:Vis X.env.scope y:=(ok.free _ (PySem.mem_of_lookup hfr.1) rfl).elim (fun k=>.inr (.inl k)) (fun k=>.inr (.inr k))
  obtain ⟨w,r,q⟩:=hl i y av e1 e2 hvis
  refine ⟨w,r,.inr ⟨hfr.2,?_⟩⟩
  obtain ⟨c,h1,h2⟩:=look hfr.1
  rcases q with ⟨k,_⟩ | ⟨_,c',e',z⟩
  ·have k:X.env.scope.names.lookup y=some .local:=k
   rcases ok.free _ (PySem.mem_of_lookup hfr.1) rfl with k' | k' <;> rw [show X.env.scope.names.lookup y=_ from k'] at k <;> cases k
  ·rw [h2] at e'; cases e'
   exact ⟨c,h1,z.keeps kp⟩
 ·have e:cenv.cells.lookup y=some c:=e
  rcases mem e with ⟨h1,_⟩ | ⟨_,z⟩
  ·obtain ⟨w,z⟩:=I.cell y c h1
   exact ⟨w,z.keeps kp⟩
  ·exact ⟨_,z⟩
 ·show H cenv.locals=none
  rw [hL]; exact I.hok.fresh (Nat.le_refl _)
 ·have e:cenv.cells.lookup y=some c:=e
  rcases mem e with ⟨h1,_⟩ | ⟨h1,_⟩
  ·exact I.freeC y c h1
  ·exact I.hok.fresh (Nat.le_of_succ_le h1)
 ·exact absurd (show p ∈ ([]:List (Addr × Obj)) ++ [] from hp) (by simp)
theorem app_ok {E:Value→Shared→Prop} {D:Addr} {xs:List V} {y:V} {v:Value} {Q:Value→Shared→Prop} (I:Inv X pins σ H s) (hD:H D=some (.lst xs)) (hz:xs.length < sizeLine) (r:RelV y v)
  (h:∀ s',Inv X pins σ (upd H D (.lst (xs ++ [y]))) s'→Q .none s'):wpAny (model X.prog X.w) X.A (call (.builtin "list.append") [.ref D,v]) Q E s:=by
 obtain ⟨hz',its,n,ri,e⟩:=I.hok D _ hD
 have hl:=ri.length
 refine append_at (hsz:=by rw [List.size_toArray]; omega) e fun h' sb ho'=>?_
 refine h { s with heap:=h' } (I.write (t':=s.toks) (by rw [hD]; trivial) (.inl rfl) (fun b u hb q=>(sb.2 b hb).trans q) ⟨_,ho'⟩ ⟨by rw [List.length_append]; exact hz,its ++ [v],n + 1,ri.append (.cons r .nil),?_⟩)
 rw [ho']
 simp
def PTs (X:Cx) (ifs:List Expr) (t:TT):Prop :=
 ∀ (pins:List (Addr × Obj)) (s:Shared) (σ:St) (H:Hp) (Q:Bool→Hp→Prop),Inv X pins σ H s→t σ H Q →
  wpAny (model X.prog X.w) X.A (forIn ifs true fun c r=>if r=true then do let ok ← isTrue c X.env (eval c X.env); pure (ForInStep.yield ok) else pure (ForInStep.yield r)) (TP X pins σ Q) X.xe s
def tYes:TT:=fun _ H Q=>Q true H
theorem pts_nil:PTs X [] tYes:=fun _ _ _ H _ I h=>wpAny_tests_nil ⟨H,I,h⟩
theorem pts_one {c:Expr} {t:TT} (h:PT X c t):PTs X [c] t:=fun pins s σ H Q I hw=>wpAny_tests_one (h pins s σ H Q I hw)
end
theorem thnF {α:Type} {t:Sem α} {Q Q':α→Shared→Prop} {M:Model} {A:Around} {E:Value→Shared→Prop} {s:Shared} (h:wpAny M A t Q (fun _ _=>False) s) (hQ:∀ a s,Q a s→Q' a s):wpAny M A t Q' E s:=wpAny_mono h hQ fun _ _ z=>False.elim z
theorem compLoop_any {prog:Program} {w:World} {A:Around} {R:Result→Shared→Prop} {s:Shared} {elt target iter:Expr} {ifs:List Expr} {scope:Scope} {pos:Pos} {it acc:Value} {env:Env} (I:Nat→Shared→Prop)
  (turn:∀ n s,I n s→wpAny (model prog w) A (pyNext it) (fun r s₁=>match r with
   | none=>R (.ok .next) s₁
   | some v=>wpAny (model prog w) A (letOwnedTupleGo target it v) (fun _ s₁'=>wpAny (model prog w) A (assign target env v) (fun _ s₂ =>
     wpAny (model prog w) A (forIn ifs true fun c r=>if r=true then do let ok ← isTrue c env (eval c env); pure (ForInStep.yield ok) else pure (ForInStep.yield r)) (fun ok s₃ =>
      if ok=true then wpAny (model prog w) A (eval elt env) (fun x s₄ =>
       wpAny (model prog w) A (call (.builtin "list.append") [acc,x]) (fun _ s₅=>∃ m,m < n∧I m s₅) (notedBy (model prog w) A env fun e s'=>R (.error e) s') s₄) (notedBy (model prog w) A env fun e s'=>R (.error e) s') s₃
      else ∃ m,m < n∧I m s₃) (notedBy (model prog w) A env fun e s'=>R (.error e) s') s₂) (notedBy (model prog w) A env fun e s'=>R (.error e) s') s₁') (notedBy (model prog w) A env fun e s'=>R (.error e) s') s₁) (notedBy (model prog w) A env fun e s'=>R (.error e) s') s)
  (n:Nat) (h:I n s) :
  codeAny (model prog w) A (.compLoop (.ListComp elt [⟨target,iter,ifs,0⟩] scope pos) 0 it acc env) R s:=by
 refine codeAny_loop rfl I (fun n s hI=>?_) n h
 show wpAny _ A ((compTurn (.ListComp elt [⟨target,iter,ifs,0⟩] scope pos) 0 it acc env).onRaise (fun x=>do noteFrame x env; theTreesLotGoes x)) _ _ s
 refine wpAny_noted ?_
 rw [compTurn_list]
 refine wpAny_bind (wpAny_standAt (wpAny_bind (wpAny_mono (turn n s hI) (fun r s₁ h₁=>?_) fun _ _ h'=>h')))
 cases r with
 | none=>exact wpAny_pure h₁
 | some v =>
  refine wpAny_bind (wpAny_mono h₁ (fun _ s₁' h₁'=>?_) fun _ _ h'=>h')
  refine wpAny_bind (wpAny_mono h₁' (fun _ s₂ h₂=>wpAny_bind (wpAny_mono h₂ (fun ok s₃ h₃=>?_) fun _ _ h'=>h')) fun _ _ h'=>h')
  cases ok with
  | false=>exact wpAny_pure ⟨rfl,h₃⟩
  | true =>
   exact wpAny_bind (wpAny_bind (wpAny_mono h₃ (fun x s₄ h₄=>wpAny_bind (wpAny_mono h₄ (fun _ s₅ h₅=>wpAny_pure (wpAny_pure ⟨rfl,h₅⟩)) fun _ _ h'=>h')) fun _ _ h'=>h'))
section
variable {X:Cx}
def tLc (wi:TI) (g:TG) (tt:TT) (te:TE) (vs:List Nat):TE:=fun σ H Q=>wi σ H fun J H1=>∀ D,H1 D=none→∃ W:Nat→Nat→Hp→Prop,(∃ m,W 0 m (upd H1 D (.lst [])))∧∀ i m H,W i m H →
 (J.stop i H∧Q (.ref D) H)∨(J.go i H∧∃ Nx:Hp→Prop,(∀ H',Nx H'→∃ m',m' < m∧W (i + 1) m' H')∧∀ x H',J.yld i H x H'→g x (wipe σ vs) H' fun σ2 H2=>wipe σ2 vs=wipe σ vs∧tt σ2 H2 fun b H3 =>
  if b=true then te σ2 H3 fun y H4=>∃ acc,H4 D=some (.lst acc)∧acc.length < sizeLine∧Nx (upd H4 D (.lst (acc ++ [y]))) else Nx H3)
theorem lc_core {pins:List (Addr × Obj)} {s:Shared} {σ:St} {H:Hp} {Q:VK} {elt tg iter:Expr} {ifs:List Expr} {scope:Scope} {own:List (Str × Nat)} {pos pos':Pos} {wi:TI} {g:TG} {tt:TT} {te:TE} {use:Option (Value→Sem Unit)} {Qf:Value→Shared→Prop}
  (hc:X.calm=true) (hN:X.N.Nodup) (I:Inv X pins σ H s) (hi:PI X tg iter wi) (ok:BlkOk X.N X.env.scope scope own)
  (hg:∀ (s:Shared) (H:Hp) (C:Addr) (cl:List (Str × Addr)) (fp:List Addr),PG (X.blk s H scope (compEnvC scope cl C X.env) fp) tg g) (ht:∀ (s:Shared) (H:Hp) (C:Addr) (cl:List (Str × Addr)) (fp:List Addr),PTs (X.blk s H scope (compEnvC scope cl C X.env) fp) ifs tt)
  (he:∀ (s:Shared) (H:Hp) (C:Addr) (cl:List (Str × Addr)) (fp:List Addr),PE (X.blk s H scope (compEnvC scope cl C X.env) fp) elt te) (hs:∀ x,foldedSetIterable iter X.env x=pure x)
  (h:tLc wi g tt te (own.map (·.2)) σ H Q)
  (hRR:∀ D C s' m H',Inv X pins σ H' s'→Q (.ref D) H'→s'.heap.Ns C m→FpOk X pins H' C→compPost (model X.prog X.w) X.A X.xe use Qf (.ref D) C (.ok .next) s') :
  wpAny (model X.prog X.w) X.A (comprehension (.ListComp elt [⟨tg,iter,ifs,0⟩] scope pos) scope X.env pos' (newList []) false (eval iter X.env) use) Qf X.xe s:=by
 have hfree:∀ y ∈ scope.names,y.2=.free→∃ c,X.env.cells.lookup y.1=some c:=fun y hy e=>by
  rcases ok.free y hy e with k | k
  ·exact I.ok.has _ (.inl k)
  ·exact I.ok.has _ (.inr k)
 refine wpAny_comprehension_free (use:=use) rfl hs (closure_ok hfree) ok.kind (fun y hy e=>by rw [ok.uniq y hy,e])
  (thn (hi pins s σ H _ I h) fun xv s1 hx=>thn hx fun itv s2 h2=>?_)
 obtain ⟨it,fp,tn,J,H2,e,I2,T,st2,f2,q⟩:=h2
 subst e
 refine wpAny_newObj_type (newEnv_comp ?_) (by show 0≤sizeLine; decide)
 generalize hD:s2.heap.objs.size=D
 have hDn:H2 D=none:=I2.hok.fresh (Nat.le_of_eq hD)
 obtain ⟨W,⟨m0,w0⟩,turn⟩:=q D hDn
 -- the new list
 generalize hs3:({ s2 with heap:=s2.heap.push { cls:=.type "list",data:=.seq ([]:List Value).toArray } }:Shared)=s3
 have I3:Inv X pins σ (upd H2 D (.lst [])) s3:=by
  rw [← hs3]
  refine I2.laid (t':=s2.toks) (fun b o e=>Heap.get?_push_of_some _ e) (Nat.le_of_eq hD) ⟨Nat.zero_le _,[],0,.nil,?_⟩
  rw [← hD]
  exact Heap.get?_push_size _ rfl
 have h3:s3.heap=s2.heap.push { cls:=.type "list",data:=.seq ([]:List Value).toArray }:=by rw [← hs3]
 have sz:∀ b ∈ fp,b < s2.heap.objs.size:=fun b hb=>by
  obtain ⟨o,e,_⟩:=T.obj _ _ st2 b hb
  exact Heap.lt_size e
 have f3:∀ b ∈ fp,FpOk X pins (upd H2 D (.lst [])) b∧b < s3.heap.objs.size:=fun b hb=>by
  have hlt:=sz b hb
  refine ⟨⟨?_,(f2 b hb).2⟩,by rw [h3,Heap.size_push]; exact Nat.lt_succ_of_lt hlt⟩
  rw [upd_ne (by rw [← hD]; exact Nat.ne_of_lt hlt)]
  exact (f2 b hb).1
 have st3:tn 0 s3.heap:=T.keep _ _ _ st2 fun b _ o e=>by rw [h3]; exact Heap.get?_push_of_some _ e
 have I4:=block_start I3 ok hN f3
 have pg:=hg s3 (upd H2 D (.lst [])) s3.heap.objs.size (cellsFrom (s3.heap.objs.size + 1) scope.names (cloFrom X.env.cells scope.names [])) fp
 have pt:=ht s3 (upd H2 D (.lst [])) s3.heap.objs.size (cellsFrom (s3.heap.objs.size + 1) scope.names (cloFrom X.env.cells scope.names [])) fp
 have pe:=he s3 (upd H2 D (.lst [])) s3.heap.objs.size (cellsFrom (s3.heap.objs.size + 1) scope.names (cloFrom X.env.cells scope.names [])) fp
 show codeAny _ _ (.compStart (.ListComp elt [⟨tg,iter,ifs,0⟩] scope pos) 0 (.ref it) (.ref D) (compEnvC scope (cellsFrom (s3.heap.objs.size + 1) scope.names (cloFrom X.env.cells scope.names [])) s3.heap.objs.size X.env)) (compPost (model X.prog X.w) X.A X.xe use Qf (.ref D) s3.heap.objs.size) { s3 with heap:=pushCells (s3.heap.push { cls:=.type "dict",data:=.dict #[] }) scope.names }
 have nfp:∀ b ∈ fp,(upd H2 D (.lst [])) b=none:=fun b hb=>(f3 b hb).1.1
 generalize hce:compEnvC scope (cellsFrom (s3.heap.objs.size + 1) scope.names (cloFrom X.env.cells scope.names [])) s3.heap.objs.size X.env=ce at I4 pg pt pe ⊢
 have cL:ce.locals=s3.heap.objs.size:=by subst hce; rfl
 generalize hH3:upd H2 D (.lst [])=H3 at I3 I4 pg pt pe w0 nfp f3
 generalize hs4:({ s3 with heap:=pushCells (s3.heap.push { cls:=.type "dict",data:=.dict #[] }) scope.names }:Shared)=s4 at I4 ⊢
 have st4:tn 0 s4.heap:=T.keep _ _ _ st3 fun b _ o e=>by rw [← hs4]; exact pushCells_keeps _ _ _ _ (Heap.get?_push_of_some _ e)
 have stat:∀ {σ':St} {H':Hp} {s':Shared},Inv (X.blk s3 H3 scope ce fp) [] σ' H' s'→(∀ b ∈ fp,H' b=none)→∀ b ∈ fp,FpOk (X.blk s3 H3 scope ce fp) [] H' b:=fun {σ' H' s'} I' hn b hb =>
  ⟨hn b hb,(I'.ok.exf b hb).1,I'.ok.exfs b hb,.inl hb,fun x c e=>(I'.ok.exf b hb).2 x c e,fun p hp=>absurd (show p ∈ ([]:List (Addr × Obj)) ++ [] from hp) (by simp)⟩
 have loop:codeAny (model X.prog X.w) X.A (.compLoop (.ListComp elt [⟨tg,iter,ifs,0⟩] scope pos) 0 (.ref it) (.ref D) ce) (compPost (model X.prog X.w) X.A X.xe use Qf (.ref D) s3.heap.objs.size) s4:=by
  refine compLoop_any (fun n s'=>∃ i H',Inv (X.blk s3 H3 scope ce fp) [] (wipe σ (own.map (·.2))) H' s'∧tn i s'.heap∧(∀ b ∈ fp,H' b=none)∧W i n H') ?_ m0 ⟨0,H3,I4,st4,nfp,w0⟩
  rintro n s5 ⟨i,H5,I5,st5,n5,w5⟩
  rcases turn i n H5 w5 with ⟨stop,qq⟩ | ⟨go,Nx,hNx,step⟩
  ·have td:=T.done (X.blk s3 H3 scope ce fp) rfl rfl rfl hc i [] s5 _ H5 (fun _ _=>False) I5 (stat I5 n5) st5 stop
   refine thnF td fun r s6 ⟨hr,I6⟩=>?_
   subst hr
   -- back in the def's context
   have I7:Inv X pins σ H5 s6:=I3.call' (ch:=fp) I6.os I6.base I6.hok I6.bare fun b hb=>⟨(f3 b hb).1.2.2.2.1,(f3 b hb).1.2.1,(f3 b hb).1.2.2.2.2.1,(f3 b hb).1.2.2.2.2.2⟩
   have nC:H5 s3.heap.objs.size=none:=by
    have z:H5 ce.locals=none:=I6.free
    rw [cL] at z
    exact z
   obtain ⟨m,hn,_⟩:=I6.loc
   have hn:s6.heap.Ns ce.locals m:=hn
   rw [cL] at hn
   exact hRR D s3.heap.objs.size s6 m H5 I7 qq hn (I3.fpOk (Nat.le_refl _) nC)
  ·have ti:=T.item (X.blk s3 H3 scope ce fp) rfl rfl rfl hc i [] s5 _ H5 (fun _ _=>False) I5 (stat I5 n5) st5 go
   refine thnF ti fun r s6 ⟨u,hr,h6⟩=>?_
   subst hr
   refine thnF h6 fun _ s7 ⟨x,H7,I7,r7,y7,st7,n7⟩=>?_
   have I7':=I7.pinned (stat I7 n7) (T.obj _ _ st7)
   refine thnF (pg _ s7 _ H7 x u _ I7' r7 (step x H7 y7)) fun _ s8 ⟨σ8,H8,I8,hw8,q8⟩=>?_
   refine thnF (pt _ s8 σ8 H8 _ I8 q8) fun b s9 ⟨H9,I9,q9⟩=>?_
   -- the turn's end
   have fin:∀ {s':Shared} {H':Hp},Inv (X.blk s3 H3 scope ce fp) ([] ++ pinsAt fp s7.heap) σ8 H' s'→Nx H'→∃ m,m < n∧∃ i H',Inv (X.blk s3 H3 scope ce fp) [] (wipe σ (own.map (·.2))) H' s'∧tn i s'.heap∧(∀ b ∈ fp,H' b=none)∧W i m H':=fun {s' H'} I' nx=>by
    obtain ⟨m',hm,w'⟩:=hNx H' nx
    have pin':∀ b ∈ fp,∀ o,s7.heap.get? b=some o→s'.heap.get? b=some o∧H' b=none:=fun b hb o e =>
     let z:=I'.pin (b,o) (List.mem_append_right _ (List.mem_append_right _ (mem_pinsAt hb e)))
     ⟨z.1,z.2.1⟩
    have hl:(wipe σ (own.map (·.2))).length=σ8.length:=by rw [← hw8,wipe_length]
    refine ⟨m',hm,i + 1,H',(I'.unpinned (pins:=[])).weak hl (fun j v e=>?_),T.keep _ _ _ st7 fun b hb o e=>(pin' b hb o e).1,fun b hb=>?_,w'⟩
    ·rw [← hw8] at e
     exact (wipe_some e).1
    ·obtain ⟨o,e,_⟩:=T.obj _ _ st7 b hb
     exact (pin' b hb o e).2
   cases b with
   | false =>
    simp only [Bool.false_eq_true,if_false] at q9 ⊢
    exact fin I9 q9
   | true =>
    simp only [if_true] at q9 ⊢
    refine thnF (pe _ s9 σ8 H9 _ I9 q9) fun z s10 ⟨yv,H10,I10,r10,acc,hD10,hz10,nx⟩=>?_
    exact app_ok (X:=X.blk s3 H3 scope ce fp) I10 hD10 hz10 r10 fun s11 I11=>fin I11 nx
 exact codeAny_compStart_list loop (T.self X.A 0 _ _ _ st4 loop)
theorem pe_lc {elt tg iter:Expr} {ifs:List Expr} {scope:Scope} {own:List (Str × Nat)} {pos:Pos} {wi:TI} {g:TG} {tt:TT} {te:TE} (hc:X.calm=true) (hN:X.N.Nodup) (hi:PI X tg iter wi) (ok:BlkOk X.N X.env.scope scope own)
  (hg:∀ (s:Shared) (H:Hp) (C:Addr) (cl:List (Str × Addr)) (fp:List Addr),PG (X.blk s H scope (compEnvC scope cl C X.env) fp) tg g) (ht:∀ (s:Shared) (H:Hp) (C:Addr) (cl:List (Str × Addr)) (fp:List Addr),PTs (X.blk s H scope (compEnvC scope cl C X.env) fp) ifs tt)
  (he:∀ (s:Shared) (H:Hp) (C:Addr) (cl:List (Str × Addr)) (fp:List Addr),PE (X.blk s H scope (compEnvC scope cl C X.env) fp) elt te) (hs:∀ x,foldedSetIterable iter X.env x=pure x:=by intro _; rfl) :
  PE X (.ListComp elt [⟨tg,iter,ifs,0⟩] scope pos) (tLc wi g tt te (own.map (·.2))):=by
 intro pins s σ H Q I h
 rw [eval_ListComp]
 refine lc_core hc hN I hi ok hg ht he hs h fun D C s' m H' I' q hn f=>⟨m,hn,fun h'' sb=>?_⟩
 obtain ⟨f0,f1,f2,f3,f4,f5⟩:=f
 exact ⟨.ref D,H',I'.turned (t':=s'.toks) (fun b o hb e=>(sb.2 b hb).trans e) f0 f1 f3 f4 f5,rfl,q⟩
theorem ps_setLc {i:Nat} {y:Str} {py:Pos} {elt tg iter:Expr} {ifs:List Expr} {scope:Scope} {own:List (Str × Nat)} {pos spos:Pos} {wi:TI} {g:TG} {tt:TT} {te:TE} (hc:X.calm=true) (hN:X.N.Nodup) (hy:X.N[i]?=some y) (hyl:X.env.scope.names.lookup y=some .local)
  (hsw:swapsWith (.ListComp elt [⟨tg,iter,ifs,0⟩] scope pos) (some (.Name y py)) spos.line X.env=pure true) (hi:PI X tg iter wi) (ok:BlkOk X.N X.env.scope scope own)
  (hg:∀ (s:Shared) (H:Hp) (C:Addr) (cl:List (Str × Addr)) (fp:List Addr),PG (X.blk s H scope (compEnvC scope cl C X.env) fp) tg g) (ht:∀ (s:Shared) (H:Hp) (C:Addr) (cl:List (Str × Addr)) (fp:List Addr),PTs (X.blk s H scope (compEnvC scope cl C X.env) fp) ifs tt)
  (he:∀ (s:Shared) (H:Hp) (C:Addr) (cl:List (Str × Addr)) (fp:List Addr),PE (X.blk s H scope (compEnvC scope cl C X.env) fp) elt te) (hs:∀ x,foldedSetIterable iter X.env x=pure x:=by intro _; rfl) :
  PS X (.Assign [.Name y py] (.ListComp elt [⟨tg,iter,ifs,0⟩] scope pos) spos) (tAsg (tLc wi g tt te (own.map (·.2))) (gName i)):=by
 intro pins s σ H D I h
 rw [exec_Assign_Name_used _ _ _ _ hsw]
 refine wpAny_bind (wpAny_standAt (wpAny_bind ?_))
 show wpAny _ X.A (do let _ ← comprehension (.ListComp elt [⟨tg,iter,ifs,0⟩] scope pos) scope X.env (firstIterPos [⟨tg,iter,ifs,0⟩] pos) (newList []) false (eval iter X.env) (some (assign (.Name y py) X.env))) _ _ s
 have h:tLc wi g tt te (own.map (·.2)) σ H (fun x H1=>gName i x σ H1 D.nx):=h
 refine wpAny_bind (thn (lc_core (Qf:=fun _ s'=>SP X pins D .next s') hc hN I hi ok hg ht he hs h fun L C s' m H' I' q hn f=>?_) fun _ s' hq=>wpAny_pure (wpAny_pure hq))
 show wpAny _ _ (assign (.Name y py) X.env (.ref L)) _ _ _
 refine wpAny_assign_Name (store_ok2 (v:=V.ref L) I' hN hy (.inl hyl) rfl (fun s2 I2 ⟨a,sb,ha⟩=>?_) (.inr hyl))
 obtain ⟨f0,f1,f2,f3,f4,f5⟩:=f
 have haC:C≠a:=by
  rcases ha with z | z
  ·rw [z]; exact f1
  ·exact fun e=>f4 y a z e.symm
 refine ⟨m,hn.sameBut sb haC,fun h3 sb3=>?_⟩
 exact ⟨_,H',I2.turned (t':=s2.toks) (fun b o hb e=>(sb3.2 b hb).trans e) f0 f1 f3 f4 f5,q⟩
theorem sw_true {elt:Expr} {gs:List Comprehension} {scope:Scope} {pos py:Pos} {y:Str} {l:Nat} {env:Env} (hk:env.scope.kind=.function) (hy:env.scope.names.lookup y=some .local) (hl:(py.line == pos.line)=true)
  (ha:(scope.names.any fun (n,k)=>n == y && (k == .local || k == .cell))=false):swapsWith (.ListComp elt gs scope pos) (some (.Name y py)) l env=pure true:=by
 have ky:env.kindOf y=some .local:=hy
 have hb:env.blockKind=.function:=by unfold Env.blockKind; rw [hk]; rfl
 unfold swapsWith
 simp only [hb,ky,ha,Expr.pos,hl]
 rfl
end
theorem lc_range {lo:Int} {n:Nat} {g:TG} {tt:TT} {te:TE} {vs:List Nat} {σ:St} {H1:Hp} {D:Addr} {Qd:Hp→Prop} (Pv:Nat→Hp→Prop) (h0:Pv 0 (upd H1 D (.lst [])))
  (hs:∀ i H,i < n→Pv i H→g (.int (lo + i)) (wipe σ vs) H fun σ2 H2=>wipe σ2 vs=wipe σ vs∧tt σ2 H2 fun b H3 =>
   if b=true then te σ2 H3 fun y H4=>∃ acc,H4 D=some (.lst acc)∧acc.length < sizeLine∧Pv (i + 1) (upd H4 D (.lst (acc ++ [y]))) else Pv (i + 1) H3) (hd:∀ H,Pv n H→Qd H) :
  ∃ W:Nat→Nat→Hp→Prop,(∃ m,W 0 m (upd H1 D (.lst [])))∧∀ i m H,W i m H →
   ((Itr lo n).stop i H∧Qd H)∨((Itr lo n).go i H∧∃ Nx:Hp→Prop,(∀ H',Nx H'→∃ m',m' < m∧W (i + 1) m' H')∧∀ x H',(Itr lo n).yld i H x H'→g x (wipe σ vs) H' fun σ2 H2=>wipe σ2 vs=wipe σ vs∧tt σ2 H2 fun b H3 =>
    if b=true then te σ2 H3 fun y H4=>∃ acc,H4 D=some (.lst acc)∧acc.length < sizeLine∧Nx (upd H4 D (.lst (acc ++ [y]))) else Nx H3):=by
 refine ⟨fun i m H=>m=n - i∧i≤n∧Pv i H,⟨n,by simp,Nat.zero_le _,h0⟩,?_⟩
 rintro i m H ⟨rfl,hi,p⟩
 by_cases hlt:i < n
 ·refine .inr ⟨hlt,Pv (i + 1),fun H' p'=>⟨n - (i + 1),by omega,rfl,hlt,p'⟩,fun x H' y=>?_⟩
  obtain ⟨e,y⟩:=y
  subst e y
  exact hs i _ hlt p
 ·have e:i=n:=by omega
  subst e
  exact .inl ⟨Nat.le_refl _,hd H p⟩
theorem lc_list {K:PySem.W.Frag} {a:Addr} {xs:List V} {g:TG} {tt:TT} {te:TE} {vs:List Nat} {σ:St} {H1:Hp} {D:Addr} {Qd:Hp→Prop} (Pv:Nat→Hp→Prop) (h0:Pv 0 (upd H1 D (.lst []))) (hl:∀ i H,i≤xs.length→Pv i H→SqL K H a xs)
  (hs:∀ i x H,xs[i]?=some x→Pv i H→g x (wipe σ vs) H fun σ2 H2=>wipe σ2 vs=wipe σ vs∧tt σ2 H2 fun b H3 =>
   if b=true then te σ2 H3 fun y H4=>∃ acc,H4 D=some (.lst acc)∧acc.length < sizeLine∧Pv (i + 1) (upd H4 D (.lst (acc ++ [y]))) else Pv (i + 1) H3) (hd:∀ H,Pv xs.length H→Qd H) :
  ∃ W:Nat→Nat→Hp→Prop,(∃ m,W 0 m (upd H1 D (.lst [])))∧∀ i m H,W i m H →
   ((Itl K a).stop i H∧Qd H)∨((Itl K a).go i H∧∃ Nx:Hp→Prop,(∀ H',Nx H'→∃ m',m' < m∧W (i + 1) m' H')∧∀ x H',(Itl K a).yld i H x H'→g x (wipe σ vs) H' fun σ2 H2=>wipe σ2 vs=wipe σ vs∧tt σ2 H2 fun b H3 =>
    if b=true then te σ2 H3 fun y H4=>∃ acc,H4 D=some (.lst acc)∧acc.length < sizeLine∧Nx (upd H4 D (.lst (acc ++ [y]))) else Nx H3):=by
 refine ⟨fun i m H=>m=xs.length - i∧i≤xs.length∧Pv i H,⟨xs.length,by simp,Nat.zero_le _,h0⟩,?_⟩
 rintro i m H ⟨rfl,hi,p⟩
 have q:=hl i H hi p
 by_cases hlt:i < xs.length
 ·refine .inr ⟨⟨xs,xs[i],q,by simp [hlt]⟩,Pv (i + 1),fun H' p'=>⟨xs.length - (i + 1),by omega,rfl,hlt,p'⟩,fun x H' y=>?_⟩
  obtain ⟨e,y⟩:=y
  subst e
  exact hs i x _ (y xs q) p
 ·have e:i=xs.length:=by omega
  subst e
  exact .inl ⟨⟨xs,q,Nat.le_refl _⟩,hd H p⟩
end L2
namespace L2
open PySem PySem.Spec PyProof.Rows
section
variable {prog:Program} {w:World} {A:Around} {R:Result→Shared→Prop} {s:Shared} {elt t0 i0 t1 i1:Expr} {ifs0 ifs1:List Expr} {scope:Scope} {pos:Pos} {it acc:Value} {env:Env}
end
section
variable {X:Cx}
end
end L2
namespace L2
open PySem PySem.Spec PyProof.Rows
section
variable {κ:Type} [DecidableEq κ]
end
theorem kV_is {P:Program} {w:World} {k:Key} {u:Value} (r:RelV (kV k) u):(mixKind P w).is k u=true:=by
 cases k with
 | inl i=>obtain ⟨t,e⟩:=(show ∃ t,u=Value.int i t from r); subst e; exact mixKind_int P w i t
 | inr x=>obtain ⟨t,e⟩:=(show ∃ t,u=Value.str x t from r); subst e; exact mixKind_str P w x t
theorem items_are {P:Program} {w:World}:∀ {ks:List Key} {us:List Value},Vals (ks.map kV) us→ItemsAre (mixKind P w) ks us
 | [],_,r=>by rw [List.map_nil] at r; cases r; exact .nil
 | k :: ks,_,r=>by
  rw [List.map_cons] at r
  cases r with
  | cons h t=>exact .cons (kV_is h) (items_are t)
section
variable {P:Program} {w:World} {H:Hp} {h:Heap} {a:Addr}
theorem key_of {ks:List Key} (ok:HOk P w H h) (e:H a=some (.tup (ks.map kV))):(tupleKind (mixKind P w)).is h ks a:=by
 obtain ⟨_,its,r,o,h1,h2,n,h3⟩:=(show ObjOk P w H h a (.tup (ks.map kV)) from ok a _ e)
 exact ⟨o,its.toArray,n,h1,h2,h3,by simpa using items_are r⟩
end
section
variable {X:Cx} {pins:List (Addr × Obj)} {σ:St} {H:Hp} {s:Shared} {a:Addr} {y v:V} {u r:Value} {o:Option V} {A:Around} {E:Value→Shared→Prop}
end
section
variable {X:Cx} {pins:List (Addr × Obj)} {σ:St} {H:Hp} {s:Shared} {a:Addr} {kvs:List (Key × V)} {k:Key} {u:Value} {A:Around} {E:Value→Shared→Prop}
end
section
variable {X:Cx} {o i e value:Expr} {pos pos' tpos:Pos} {td ty tv:TE}
end
section
variable {X:Cx} {pos:Pos}
end
section
variable {X:Cx} {pins:List (Addr × Obj)} {σ:St} {H:Hp} {s:Shared} {a:Addr} {y d:V} {u r:Value} {o:Option V} {A:Around} {E:Value→Shared→Prop}
end
section
variable {X:Cx} {o e f:Expr} {apos cpos:Pos} {td ty tx:TE}
end
section
variable {X:Cx} {pins:List (Addr × Obj)} {σ:St} {H:Hp} {s:Shared} {a:Addr} {kvs:List (Key × V)} {A:Around} {E:Value→Shared→Prop}
end
section
variable {X:Cx} {pins:List (Addr × Obj)} {σ:St} {H:Hp} {s:Shared} {a:Addr} {y:V} {u:Value} {A:Around} {E:Value→Shared→Prop}
end
end L2
namespace L2
open PySem PySem.Spec PyProof.Rows
section
variable {prog:Program} {w:World} {A:Around} {E:Value→Shared→Prop}
end
section
variable {X:Cx}
end
end L2
namespace L2
open PySem PySem.Spec PyProof.Rows
section
variable {X:Cx} {pins:List (Addr × Obj)} {σ:St} {H:Hp} {s:Shared} {h':Heap}
theorem Inv.turnedNew {t':Nat} {ch:List Addr} {T:Addr} {ob:HO} (I:Inv X pins σ H s) (k:∀ b o,b ∉ ch→s.heap.get? b=some o→h'.get? b=some o) (hf:∀ b ∈ ch,FpOk X pins H b) (hT:s.heap.objs.size≤T)
  (new:ObjOk X.prog X.w (upd H T ob) h' T ob):Inv X pins σ (upd H T ob) { s with heap:=h',toks:=t' }:=by
 have hn:H T=none:=I.hok.fresh hT
 have nit:∀ b u,H b=some u→b ∉ ch:=fun b u e z=>by
  have q:=(hf b z).1
  rw [q] at e; cases e
 refine I.step (g':=s.gens) (d':=s.drawn) (ch:=ch) (fun b hb=>⟨(hf b hb).2.2.2.1,(hf b hb).2.1,(hf b hb).2.2.2.2.1,(hf b hb).2.2.2.2.2⟩) (fun b o _ _ hc e _=>k b o hc e) (fun b o _ _ hc e _=>⟨o.slots,k b o hc e⟩)
  (fun b o _ e n=>?_) (fun b o hc e=>⟨o,k b o hc e⟩) (fun b xs e=>?_) (fun b o u e=>?_) (fun b ps e=>⟨#[],?_⟩) (fun m hm=>?_) (fun b u e=>?_) I.bare
 ·rw [upd_ne (Nat.ne_of_lt (Nat.lt_of_lt_of_le (Heap.lt_size e) hT))]; exact n
 ·rw [upd_ne (ne_of_none e hn)]; exact e
 ·rw [upd_ne (ne_of_none e hn)]; exact e
 ·rw [upd_ne (ne_of_none e hn),e]; simp
 ·obtain ⟨o,es,ep,ho,r⟩:=hm
  exact ⟨o,es,ep,k _ o (fun z=>(hf _ z).2.1 rfl) ho,r⟩
 ·by_cases hb:b=T
  ·subst hb
   rw [upd_same] at e
   cases e
   exact new
  ·rw [upd_ne hb] at e
   refine (I.hok b u e).stay (fun c v hc q=>k c v ?_ q) (fun c q=>by rw [upd_ne (ne_of_none q hn)]; exact q) fun c xs q=>by rw [upd_ne (ne_of_none q hn)]; exact q
   rcases hc with z | z
   ·rw [z]; exact nit b u e
   ·exact nit c _ z
end
section
variable {X:Cx}
theorem pi_one {tg:Expr} {pins:List (Addr × Obj)} {σ:St} {H:Hp} {s:Shared} {R:It→Hp→Prop} {J:It} {tn:Nat→Heap→Prop} {tk:Nat} (I:Inv X pins σ H s) (o:Obj)
  (T:Turn X.prog X.w X.K tg J [s.heap.objs.size] s.heap.objs.size tn) (st:tn 0 (s.heap.push o)) (q:R J H):PIE X pins σ tg R (.ref s.heap.objs.size) { s with heap:=s.heap.push o,toks:=tk }:=by
 refine ⟨s.heap.objs.size,[s.heap.objs.size],tn,J,H,rfl,I.kept fun b ob e=>Heap.get?_push_of_some _ e,T,st,fun b hb=>?_,q⟩
 have e:b=s.heap.objs.size:=by simpa using hb
 subst e
 exact I.fpOk (Nat.le_refl _) (I.hok.fresh (Nat.le_refl _))
end
def Itc (lo c:Int) (n:Nat):It:=⟨fun i _=>i < n,fun i H x H'=>H'=H∧x=.int (lo + (i:Nat) * c),fun i _=>n≤i⟩
theorem turn_rangeC {P:Program} {w:World} {K:PySem.W.Frag} {tg:Expr} (it:Addr) (lo c:Int) (n:Nat):Turn P w K tg (Itc lo c n) [it] it (fun i h=>IsRangeIter h it (lo + (i:Nat) * c) ((n:Int) - (i:Nat)) c) where
 mem:=by simp
 obj:=fun i h st b hb=>by
  have e:b=it:=by simpa using hb
  subst e
  exact ⟨_,st,fun v z=>nomatch z⟩
 keep:=fun i h h' st k=>k it (by simp) _ st
 item:=by
  intro X hP hw hK hc i pins s σ H E I hf st hg
  subst hP hw hK
  obtain ⟨f0,f1,f2,f3,f4,f5⟩:=hf it (by simp)
  have W:=Walks.range (prog:=X.prog) (w:=X.w) (I.ok.hd hc) it lo c n
  refine W.item i s _ _ hg st fun v h' tk hv st' kk=>?_
  obtain ⟨t,rfl⟩:=hv
  have I1:Inv X pins σ H { s with heap:=h',toks:=tk }:=I.turned (fun b o hb e=>kk b o (by simpa using hb) e) f0 f1 f3 f4 f5
  exact ⟨_,rfl,go_of (s:={ s with heap:=h',toks:=tk }) (n:="range_iterator") st' rfl rfl (by decide) ⟨.int (lo + (i:Nat) * c),H,I1,⟨t,rfl⟩,⟨rfl,rfl⟩,st',fun b hb=>(hf b hb).1⟩⟩
 done:=by
  intro X hP hw hK hc i pins s σ H E I hf st hg
  subst hP hw hK
  obtain ⟨f0,f1,f2,f3,f4,f5⟩:=hf it (by simp)
  exact wpAny_pyNext_range_end (I.ok.hd hc) st (by have:n≤i:=hg; omega) fun h' eb=>⟨rfl,I.turned (t':=s.toks) (fun b o hb e=>eb b o hb e) f0 f1 f3 f4 f5⟩
 self:=fun A i s Q E st h=>wpAny_pyIter_rangeiter st h
def RgC (i j c:Int) (n:Nat):Prop:=c≠0∧c.natAbs < 1073741824∧Builtin.Range.small i j c=true∧Builtin.Range.rangeSize i j c=n
theorem RgC.neg {i j:Int} (ha:-(2 ^ 62)≤i) (ha':i < 2 ^ 62) (hb:-(2 ^ 62)≤j) (hb':j < 2 ^ 62):RgC i j (-1) (i - j).toNat :=
 ⟨by decide,by decide,PySem.W.small_down ha ha' hb hb',PySem.W.rangeSize_downNat i j⟩
def iRng3 (ta:TA):TI:=fun σ H R=>ta σ H fun vs H1=>∃ (i j c:Int) (n:Nat),vs=[.int i,.int j,.int c]∧RgC i j c n∧R (Itc i c n) H1
section
variable {X:Cx} {tg:Expr}
theorem pi_range3 {a b c:Expr} {ta:TA} {p pos:Pos} (hg:Gl X "range") (hm:X.mg "range"=none) (ha:PA X [a,b,c] ta)
  (hs:starEach [a,b,c] X.env=(false,eval a X.env) :: starEach [b,c] X.env:=by rfl) (hpl:(backTo pos (starEach [b,c] X.env)).any (·.1)=false:=by rfl) :
  PI X tg (.Call (.Name "range" p) [a,b,c] [] pos) (iRng3 ta):=by
 intro pins s σ H R I h
 refine Call_ (ld_blt I hg hm boot_range (PyProof.Rows.callWith_type1 (thn (ha pos pins s σ H _ I h) fun us s1 ⟨vs,H1,I1,r1,q1⟩=>?_) hs hpl))
 obtain ⟨i,j,k,n,e,⟨c0,c1,c2,c3⟩,q⟩:=q1
 subst e
 cases r1 with
 | cons r rr =>
  cases rr with
  | cons r' rr =>
   cases rr with
   | cons r'' rr =>
    cases rr
    obtain ⟨t,rfl⟩:=r
    obtain ⟨t',rfl⟩:=r'
    obtain ⟨t'',rfl⟩:=r''
    refine call_range_3 c0 ?_ (.inl (PyProof.noPylong_small c1))
    refine wpAny_pyIter_range (IsRange.new ..) c2 ?_
    have I2:Inv X pins σ H1 { s1 with heap:=s1.heap.push { cls:=.type "range",data:=.fields #[.int i t,.int j t',.int k t''] } }:=I1.kept (t':=s1.toks) fun b o e=>Heap.get?_push_of_some _ e
    refine pi_one (tk:=s1.toks) I2 _ (turn_rangeC _ i k n) ?_ q
    have e1:i + ((0:Nat):Int) * k=i:=by simp
    have e2:(n:Int) - ((0:Nat):Int)=Builtin.Range.rangeSize i j k:=by rw [c3]; simp
    show IsRangeIter _ _ (i + ((0:Nat):Int) * k) ((n:Int) - ((0:Nat):Int)) k
    rw [e1,e2]
    exact Heap.get?_push_size _ rfl
end
theorem for_rangeC {lo c:Int} {n:Nat} {g:TG} {tb:TS} {D:Ends} {σ:St} {H:Hp} (Pv:Nat→St→Hp→Prop) (h0:Pv 0 σ H)
  (hs:∀ i σ H,i < n→Pv i σ H→g (.int (lo + (i:Nat) * c)) σ H fun σ2 H2=>tb { D with nx:=Pv (i + 1),ct:=Pv (i + 1),bk:=D.nx } σ2 H2) (hd:∀ σ H,Pv n σ H→D.nx σ H) :
  ∃ W:Nat→Nat→St→Hp→Prop,(∃ m,W 0 m σ H)∧∀ i m σ H,W i m σ H →
   ((Itc lo c n).stop i H∧D.nx σ H)∨((Itc lo c n).go i H∧∃ N:St→Hp→Prop,(∀ σ' H',N σ' H'→∃ m',m' < m∧W (i + 1) m' σ' H')∧∀ x H',(Itc lo c n).yld i H x H'→g x σ H' fun σ2 H2=>tb { D with nx:=N,ct:=N,bk:=D.nx } σ2 H2):=by
 refine ⟨fun i m σ H=>m=n - i∧i≤n∧Pv i σ H,⟨n,by simp,Nat.zero_le _,h0⟩,?_⟩
 rintro i m σ H ⟨rfl,hi,p⟩
 by_cases hlt:i < n
 ·refine .inr ⟨hlt,Pv (i + 1),fun σ' H' p'=>⟨n - (i + 1),by omega,rfl,hlt,p'⟩,fun x H' y=>?_⟩
  obtain ⟨e,y⟩:=y
  subst e y
  exact hs i σ _ hlt p
 ·have e:i=n:=by omega
  subst e
  exact .inl ⟨Nat.le_refl _,hd σ H p⟩
section
variable {X:Cx} {tg:Expr}
end
def Its (x:Str):It:=⟨fun i _=>i < x.cps.size,fun i H v H'=>H'=H∧∃ c,x.cps[i]?=some c∧v=.str ⟨#[c]⟩,fun i _=>x.cps.size≤i⟩
theorem turn_str {P:Program} {w:World} {K:PySem.W.Frag} {tg:Expr} (it:Addr) (x:Str) (t:Tok) (ty:String) (hty:ty="str_ascii_iterator"∨ty="str_iterator") :
  Turn P w K tg (Its x) [it] it (fun i h=>h.IsStrIter it ty x t i) where
 mem:=by simp
 obj:=fun i h st b hb=>by
  have e:b=it:=by simpa using hb
  subst e
  obtain ⟨o,e,c,d⟩:=st
  exact ⟨o,e,fun v z=>by rw [d] at z; cases z⟩
 keep:=fun i h h' st k=>let ⟨o,ho,r⟩:=st; ⟨o,k it (by simp) o ho,r⟩
 item:=by
  intro X hP hw hK hc i pins s σ H E I hf st hg
  subst hP hw hK
  obtain ⟨f0,f1,f2,f3,f4,f5⟩:=hf it (by simp)
  have W:Walks X.prog X.w X.A it [it] [it] x.cps.size (SignAt x) (fun i h=>h.IsStrIter it ty x t i):=by
   rcases hty with e | e
   ·rw [e]; exact Walks.strAscii (I.ok.hd hc) it x t
   ·rw [e]; exact Walks.strWide (I.ok.hd hc) it x t
  have hno:["enumerate","zip","dict_itemiterator","dict_reverseitemiterator","odict_iterator","itertools.zip_longest","itertools.pairwise"].contains ty=false:=by
   rcases hty with e | e
   ·rw [e]; decide
   ·rw [e]; decide
  refine W.item i s _ _ hg st fun v h' tk hv st' kk=>?_
  obtain ⟨c,u,hcx,rfl⟩:=hv
  have I1:Inv X pins σ H { s with heap:=h',toks:=tk }:=I.turned (fun b o hb e=>kk b o (by simpa using hb) e) f0 f1 f3 f4 f5
  obtain ⟨oi,e,cc,dd⟩:=id st'
  exact ⟨_,rfl,go_of (s:={ s with heap:=h',toks:=tk }) e cc dd hno ⟨.str ⟨#[c]⟩,H,I1,⟨u,rfl⟩,⟨rfl,c,hcx,rfl⟩,st',fun b hb=>(hf b hb).1⟩⟩
 done:=by
  intro X hP hw hK hc i pins s σ H E I hf st hg
  subst hP hw hK
  obtain ⟨f0,f1,f2,f3,f4,f5⟩:=hf it (by simp)
  have hx:x.cps[i]?=none:=Array.getElem?_eq_none hg
  rcases hty with e | e
  ·rw [e] at st
   exact wpAny_pyNext_ascii_end (I.ok.hd hc) st hx fun h' eb=>⟨rfl,I.turned (t':=s.toks) (fun b o hb e=>eb b o hb e) f0 f1 f3 f4 f5⟩
  ·rw [e] at st
   exact wpAny_pyNext_wide_end (I.ok.hd hc) st hx fun h' eb=>⟨rfl,I.turned (t':=s.toks) (fun b o hb e=>eb b o hb e) f0 f1 f3 f4 f5⟩
 self:=fun A i s Q E st h=>by
  rcases hty with e | e
  ·rw [e] at st; exact wpAny_pyIter_striter_ascii st h
  ·rw [e] at st; exact wpAny_pyIter_striter_wide st h
def iStr (te:TE):TI:=fun σ H R=>te σ H fun v H1=>∃ x,v=.str x∧R (Its x) H1
theorem pi_str {X:Cx} {tg e:Expr} {te:TE} (he:PE X e te):PI X tg e (iStr te):=by
 intro pins s σ H R I h
 refine thn (he pins s σ H _ I h) fun v s1 ⟨y,H1,I1,r1,x,ex,q⟩=>?_
 subst ex
 obtain ⟨t,rfl⟩:=r1
 cases ha:x.cps.all (· < 128)
 ·exact wpAny_pyIter_wide ha (pi_one (tk:=s1.toks) I1 _ (turn_str _ x t "str_iterator" (.inr rfl)) ⟨_,Heap.get?_push_size _ rfl,rfl,rfl⟩ q)
 ·exact wpAny_pyIter_ascii ha (pi_one (tk:=s1.toks) I1 _ (turn_str _ x t "str_ascii_iterator" (.inl rfl)) ⟨_,Heap.get?_push_size _ rfl,rfl,rfl⟩ q)
section
variable {prog:Program} {w:World} {A:Around} {E:Value→Shared→Prop} {s:Shared}
end
section
variable {X:Cx} {pins:List (Addr × Obj)} {σ:St} {H:Hp} {s:Shared} {d:Addr} {o:Obj}
end
section
variable {P:Program} {w:World} {K:PySem.W.Frag} {tg:Expr} {d:Addr} {o:Obj} {es:Array DictEntry} {ep:Nat}
end
section
variable {X:Cx} {tg e:Expr} {td:TE} {apos cpos:Pos}
end
def Ite (K:PySem.W.Frag) (a:Addr):It :=
 ⟨fun i H=>∃ (xs:List V) (x:V),SqL K H a xs∧xs[i]?=some x,fun i H v H'=>∃ T x,v=.ref T∧H T=none∧H'=upd H T (.tup [.int (i:Nat),x])∧∀ xs,SqL K H a xs→xs[i]?=some x,fun i H=>∃ xs:List V,SqL K H a xs∧xs.length≤i⟩
theorem turn_enum {P:Program} {w:World} {K:PySem.W.Frag} {elts:List Expr} {kk:Nat} {tpos:Pos} (a e it:Addr) :
  Turn P w K (.Tuple elts kk tpos) (Ite K a) [e,it] e (fun i h=>(∃ old,IsEnum h e it ((i:Nat):Int) old)∧h.IsListIter it a i∧e≠it) where
 mem:=by simp
 obj:=fun i h st b hb=>by
  obtain ⟨⟨old,he⟩,⟨o,ho,hc,hd⟩,_⟩:=st
  have e':b=e∨b=it:=by simpa using hb
  rcases e' with z | z
  ·rw [z]; exact ⟨_,he,fun v q=>nomatch q⟩
  ·rw [z]; exact ⟨o,ho,fun v q=>by rw [hd] at q; cases q⟩
 keep:=fun i h h' st k=>let ⟨⟨old,he⟩,hi,hne⟩:=st; ⟨⟨old,k e (by simp) _ he⟩,hi.at fun o q=>k it (by simp) o q,hne⟩
 item:=by
  intro X hP hw hK hc i pins s σ H E I hf st hg
  subst hP hw hK
  obtain ⟨⟨old,he⟩,hit,hne⟩:=st
  obtain ⟨xs,x,hq,hx⟩:=hg
  obtain ⟨its,rv,p,hz⟩:=I.list hq
  obtain ⟨u,hu,ru⟩:=rv.get hx
  have hel:e < s.heap.objs.size:=Heap.lt_size he
  have hil:it < s.heap.objs.size:=by obtain ⟨_,q,_⟩:=hit; exact Heap.lt_size q
  refine wpAny_pyNext_enum_item he hit p.isList (x:=u) (by simpa using hu) hne fun h' ho hit' hT hsz hk=>?_
  refine ⟨_,rfl,wpAny_letOwnedTupleGo_enum (s:={ s with heap:=h',toks:=s.toks + 1 }) ho fun h'' he' sb=>?_⟩
  have hT2:h''.get? s.heap.objs.size=some { cls:=.type "tuple",data:=.seq #[.int i s.toks,u] }:=(sb.2 _ (Nat.ne_of_gt hel)).trans hT
  have new:ObjOk X.prog X.w (upd H s.heap.objs.size (.tup [.int (i:Nat),x])) h'' s.heap.objs.size (.tup [.int (i:Nat),x]) :=
   ⟨by show 2≤sizeLine; decide,[.int i s.toks,u],.cons ⟨_,rfl⟩ (.cons ru .nil),⟨_,hT2,rfl,_,rfl⟩⟩
  have I1:Inv X pins σ (upd H s.heap.objs.size (.tup [.int (i:Nat),x])) { s with heap:=h'',toks:=s.toks + 1 } :=
   I.turnedNew (ch:=[e,it]) (fun b ob hb q=>(sb.2 b (fun z=>hb (by simp [z]))).trans (hk b ob (fun z=>hb (by simp [z])) (fun z=>hb (by simp [z])) q)) hf (Nat.le_refl _) new
  refine ⟨.ref s.heap.objs.size,_,I1,rfl,⟨_,x,rfl,I.hok.fresh (Nat.le_refl _),rfl,fun ys hy=>by rw [I.list_inj hy hq]; exact hx⟩,⟨⟨u,?_⟩,hit'.at fun o q=>(sb.2 it (Ne.symm hne)).trans q,hne⟩,fun b hb=>?_⟩
  ·have e1:((i + 1:Nat):Int)=(i:Int) + 1:=by omega
   rw [e1]; exact he'
  ·have hb':b < s.heap.objs.size:=by
    have e':b=e∨b=it:=by simpa using hb
    rcases e' with z | z
    ·rw [z]; exact hel
    ·rw [z]; exact hil
   rw [upd_ne (Nat.ne_of_lt hb')]
   exact (hf b hb).1
 done:=by
  intro X hP hw hK hc i pins s σ H E I hf st hg
  subst hP hw hK
  obtain ⟨⟨old,he⟩,hit,hne⟩:=st
  obtain ⟨xs,hq,hx⟩:=hg
  obtain ⟨its,rv,p,hz⟩:=I.list hq
  obtain ⟨f0,f1,f2,f3,f4,f5⟩:=hf it (by simp)
  have hl:=rv.length
  exact wpAny_pyNext_enum_end (I.ok.hd hc) he hit p.isList (by simp; omega) fun h' eb=>⟨rfl,I.turned (t':=s.toks) (fun b o hb q=>eb b o hb q) f0 f1 f3 f4 f5⟩
 self:=fun A i s Q E st h=>let ⟨⟨_,he⟩,_⟩:=st; wpAny_pyIter_enum he h
def iEnum (K:PySem.W.Frag) (ta:TA):TI:=fun σ H R=>ta σ H fun vs H1=>∃ a xs,vs=[.ref a]∧SqL K H1 a xs∧R (Ite K a) H1
theorem pi_enum {X:Cx} {e:Expr} {ta:TA} {p pos tpos:Pos} {elts:List Expr} {kk:Nat} (hg:Gl X "enumerate") (hm:X.mg "enumerate"=none) (ha:PA X [e] ta) (hs:starEach [e] X.env=[(false,eval e X.env)]:=by rfl) :
  PI X (.Tuple elts kk tpos) (.Call (.Name "enumerate" p) [e] [] pos) (iEnum X.K ta):=by
 intro pins s σ H R I h
 refine Call_ (ld_blt I hg hm boot_enumerate (PyProof.Rows.callWith_type1 (thn (ha pos pins s σ H _ I h) fun us s1 ⟨vs,H1,I1,r1,q1⟩=>?_) hs rfl))
 obtain ⟨a,xs,ex,hq,q⟩:=q1
 subst ex
 cases r1 with
 | cons r rr =>
  cases rr
  cases r
  obtain ⟨its,rv,p',hz⟩:=I1.list hq
  refine call_enumerate_list p'.isList fun h' he hit hsz hk=>wpAny_pyIter_enum he ?_
  have I2:Inv X pins σ H1 { s1 with heap:=h' }:=I1.kept (t':=s1.toks) hk
  refine ⟨s1.heap.objs.size + 1,[s1.heap.objs.size + 1,s1.heap.objs.size],_,_,H1,rfl,I2,turn_enum a (s1.heap.objs.size + 1) s1.heap.objs.size,⟨⟨.none,he⟩,hit,Nat.succ_ne_self _⟩,fun b hb=>?_,q⟩
  have e':b=s1.heap.objs.size + 1∨b=s1.heap.objs.size:=by simpa using hb
  have hle:s1.heap.objs.size≤b:=by
   rcases e' with z | z
   ·rw [z]; exact Nat.le_add_right _ _
   ·rw [z]; exact Nat.le_refl _
  exact I1.fpOk hle (I1.hok.fresh hle)
end L2
section 
namespace Bits
open PySem PyProof.Rows
end Bits
end 
section 
namespace TL
open PySem PySem.Builtin PySem.Builtin.Str PySem.StrLaws
abbrev tl (x:Str):List Nat:=x.cps.toList
def pre (S l:List Nat):Bool:=l.take S.length == S
def par (S:List Nat):List Nat→List Nat→Option (List Nat × List Nat)
 | _,[]=>none
 | acc,c :: r=>if pre S (c :: r)=true then some (acc,(c :: r).drop S.length) else par S (acc ++ [c]) r
def joinL (S:List Nat):List (List Nat)→List Nat
 | []=>[]
 | [p]=>p
 | p :: q :: r=>p ++ (S ++ joinL S (q :: r))
end TL
end 
namespace L2
open PySem PySem.Spec PyProof.Rows
section
variable {X:Cx} {pins:List (Addr × Obj)} {σ:St} {H:Hp} {s:Shared} {Q:VK}
end
section
variable {X:Cx}
end
section
variable {X:Cx} {o e:Expr} {to te:TE}
end
end L2
namespace L2
open PySem PySem.Spec PyProof.Rows
section
variable {X:Cx}
end
end L2
namespace Att
open PySem PySem.W PySem.Calls PyProof.Rows
section
variable {prog:Program} {w:World} {A:Around} {E:Value→Shared→Prop} {s:Shared} {K:Frag}
end
end Att
namespace L2
open PySem PySem.Spec PyProof.Rows
end L2
namespace L2
open PySem PySem.Spec PyProof.Rows
end L2
namespace L2
open PySem PySem.Spec PyProof.Rows
def inClass (s:Stmt) (j:Nat):Stmt:=match s with
 | .ClassDef _ _ _ body _ _ _ _ _ _ _=>body.getD j (.Pass ⟨0,0,0,0⟩)
 | _=>.Pass ⟨0,0,0,0⟩
def defArgs (s:Stmt):Arguments:=match s with
 | .FunctionDef _ a _ _ _ _ _ _ _ _=>a
 | _=>{ posonlyargs:=[],args:=[],vararg:=none,kwonlyargs:=[],kw_defaults:=[],kwarg:=none,defaults:=[] }
def defBody (s:Stmt):List Stmt:=match s with
 | .FunctionDef _ _ b _ _ _ _ _ _ _=>b
 | _=>[]
def defScope (s:Stmt):Scope:=match s with
 | .FunctionDef _ _ _ _ _ _ sc _ _ _=>sc
 | _=>{ kind:=.function,names:=[],isGenerator:=false,isCoroutine:=false }
abbrev CX0:CXT:=fun _ _ _ _ _ _=>False
abbrev E0:XK:=fun _ _ _=>False
theorem pass0 {X:Cx}:Passes CX0 X E0:=fun _ _ _ _ _ _ _ h=>h.elim
structure Fun (K:PySem.W.Frag) (x qual:Str) (st:Stmt) (f:Addr) (fd:FuncData):Prop where
 ex:∃ (oc:Value) (od:Option Addr) (kV doc pm:Value) (an:Option Addr) (cdv ct:Value) (osl:Array (Option Value)),
  fd=PySem.W.fnOf x qual (defArgs st) (defBody st) (defScope st) .none kV doc pm an cdv ct∧K.lookup f=some ⟨oc,od,.func fd,osl⟩∧PySem.W.codeIn K cdv qual=true
 kp:PySem.W.keepIn K (.ref f)=true
section
variable {P:Program} {w:World} {K:PySem.W.Frag} {mg:Str→Option Value} {base:Heap}
theorem Fun.ok {x qual:Str} {st:Stmt} {f:Addr} {fd:FuncData} {N ps:List Str} {k:Nat} {sp:Sp} (F:Fun K x qual st f fd) (S:FnScope N ps (defScope st)) (len:∀ vs H Q E,sp vs H Q E→vs.length=ps.length)
  (hbody:∀ (cdv:Value) (A:Around) (outer:List Env) (s:Shared) (H:Hp) (vs:List V) (Q:VK) (E:XK),Room k (A.deeper (envOfC qual (defScope st) s.heap.objs.size f cdv))→sp vs H Q E →
   ∃ t,PSs (cxOf CX0 P w K mg base N qual (defScope st) f cdv A outer s H E).nox (defBody st) t∧t { nx:=fun _ H'=>Q .non H',rt:=Q } (start N vs) H):FnOk P w K mg base CX0 (k + 1) f fd ps sp:=by
 obtain ⟨oc,od,kV,doc,pm,an,cdv,ct,osl,rfl,lk,hcd⟩:=F.ex
 refine fn_of lk hcd S len fun A outer s H vs Q E hr hsp=>?_
 obtain ⟨t,h,q⟩:=hbody cdv A outer s H vs Q E hr hsp
 exact ⟨t,h.nox,q⟩
theorem Fun.binds {x qual:Str} {st:Stmt} {f:Addr} {fd:FuncData} {ps:List Str} (F:Fun K x qual st f fd)
  (h:∀ (kV doc pm:Value) (an:Option Addr) (cdv ct:Value) (us:List Value),us.length=ps.length→bindArgs (PySem.W.fnOf x qual (defArgs st) (defBody st) (defScope st) .none kV doc pm an cdv ct) ⟨us,[]⟩=pure (ps.zip us)):Binds K fd ps []:=by
 obtain ⟨oc,od,kV,doc,pm,an,cdv,ct,osl,rfl,lk,hcd⟩:=F.ex
 exact .all (h kV doc pm an cdv ct)
theorem fun_mk {x qual:Str} {st:Stmt} {f:Addr} {oc:Value} {od an:Option Addr} {osl:Array (Option Value)} {kV doc pm cdv ct:Value} (l:K.lookup f=some ⟨oc,od,.func (PySem.W.fnOf x qual (defArgs st) (defBody st) (defScope st) .none kV doc pm an cdv ct),osl⟩)
  (c:PySem.W.codeIn K cdv qual=true) (k:PySem.W.keepIn K (.ref f)=true):Fun K x qual st f (PySem.W.fnOf x qual (defArgs st) (defBody st) (defScope st) .none kV doc pm an cdv ct):=⟨⟨oc,od,kV,doc,pm,an,cdv,ct,osl,rfl,l,c⟩,k⟩
end
section
variable {X:Cx}
theorem pv (i:Nat) {x:Str} {pos:Pos} (hN:X.N[i]?=some x:=by rfl) (hv:Vis X.env.scope x:=by first | exact Or.inl rfl | exact Or.inr (Or.inl rfl) | exact Or.inr (Or.inr rfl)) (hd:(x == ("__debug__":Str))=false:=by decide)
  (hcd:(x == ("__classdict__":Str))=false:=by decide):PE X (.Name x pos) (tVar i):=pe_var hN hv hd hcd
end
section
variable {κ:Type} [DecidableEq κ]
end
theorem nd_ix {α:Type} {l:List α} (hN:l.Nodup) {i j:Nat} {x:α} (a:l[i]?=some x) (b:l[j]?=some x):i=j:=by
 obtain ⟨h1,e1⟩:=List.getElem?_eq_some_iff.mp a
 obtain ⟨h2,e2⟩:=List.getElem?_eq_some_iff.mp b
 exact (List.getElem_inj hN).mp (e1.trans e2.symm)
end L2
end
section
section
set_option maxRecDepth 100000
set_option maxHeartbeats 2000000
namespace L2
open PySem PySem.Spec PyProof.Rows
open PySem.W (WData Codec OpenSpec Well WellAll ReadsW ReadsAllW)
mutual
inductive Dw (K:PySem.W.Frag) (H:Hp):V→WData→Prop
 | non:Dw K H .non .none
 | bl (b:Bool):Dw K H (.bl b) (.bool b)
 | int (i:Int):Dw K H (.int i) (.int i)
 | str (x:Str):Dw K H (.str x) (.str x)
 | byt (b:Array UInt8):Dw K H (.byt b) (.bytes b.toList)
 | lst {a:Addr} {xs:List V} {ds:List WData}:SqL K H a xs→DwAll K H xs ds→Dw K H (.ref a) (.list ds)
 | tup {a:Addr} {xs:List V} {ds:List WData}:SqT K H a xs→DwAll K H xs ds→Dw K H (.ref a) (.tuple ds)
inductive DwAll (K:PySem.W.Frag) (H:Hp):List V→List WData→Prop
 | nil:DwAll K H [] []
 | cons {v:V} {vs:List V} {d:WData} {ds:List WData}:Dw K H v d→DwAll K H vs ds→DwAll K H (v :: vs) (d :: ds)
end
theorem dw_ints {K:PySem.W.Frag} {H:Hp}:∀ ns:List Int,DwAll K H (ns.map V.int) (ns.map WData.int)
 | []=>.nil
 | n :: r=>.cons (.int n) (dw_ints r)
theorem ints_dw {K:PySem.W.Frag} {H:Hp}:∀ (ns:List Int) (xs:List V),DwAll K H xs (ns.map WData.int)→xs=ns.map V.int
 | [],xs,h=>by
  cases h
  rfl
 | n :: r,xs,h=>by
  cases h with
  | cons h1 h2 =>
   cases h1
   rw [ints_dw r _ h2] <;> rfl
section
variable {P:Program} {w:World} {K:PySem.W.Frag} {H:Hp} {h:Heap} {R:PySem.W.WRecords} {cl:Str→Option Addr}
theorem sqL_at {a:Addr} {xs:List V} (hok:HOk P w H h) (KX:K.In h) (q:SqL K H a xs):∃ (its:List Value) (o:Obj) (n:Nat),Vals xs its∧h.get? a=some o∧o.cls=.type "list"∧o.data=.seq its.toArray n:=by
 rcases q with q | ⟨o,its,n,e,hc,_,hd,_,hv⟩
 ·obtain ⟨_,its,n,hv,e⟩:=(show ObjOk P w H h a (.lst xs) from q.ok hok)
  exact ⟨its,_,n,hv,e,rfl,rfl⟩
 ·exact ⟨its.toList,o,n,hv,KX _ _ e,hc,by simp [hd]⟩
theorem sqT_at {a:Addr} {xs:List V} (hok:HOk P w H h) (KX:K.In h) (q:SqT K H a xs):∃ (its:List Value) (o:Obj) (n:Nat),Vals xs its∧h.get? a=some o∧o.cls=.type "tuple"∧o.data=.seq its.toArray n:=by
 rcases q with q | ⟨o,its,n,e,hc,hd,_,hv⟩
 ·obtain ⟨_,its,hv,o,e,hc,n,hd⟩:=(show ObjOk P w H h a (.tup xs) from q.ok hok)
  exact ⟨its,o,n,hv,e,hc,hd⟩
 ·exact ⟨its.toList,o,n,hv,KX _ _ e,hc,by simp [hd]⟩
mutual
theorem Dw.reads (hok:HOk P w H h) (KX:K.In h):∀ (d:WData) (v:V) (u:Value),Dw K H v d→RelV v u→∃ as,ReadsW R cl h u d as
 | .none,_,_,x,r=>by
  cases x
  cases r
  exact ⟨_,ReadsW.none⟩
 | .bool b,_,_,x,r=>by
  cases x
  cases r
  exact ⟨_,ReadsW.bool b⟩
 | .int i,_,_,x,r=>by
  cases x
  obtain ⟨t,rfl⟩:=r
  exact ⟨_,ReadsW.int i t⟩
 | .str s,_,_,x,r=>by
  cases x
  obtain ⟨t,rfl⟩:=r
  exact ⟨_,ReadsW.str s t⟩
 | .bytes b,_,_,x,r=>by
  cases x
  obtain ⟨t,rfl⟩:=r
  exact ⟨_,ReadsW.bytes _ t⟩
 | .list ds,_,_,x,r=>by
  cases x with
  | lst hs ha =>
   cases r
   obtain ⟨its,o,n,rv,ho,hc,hd⟩:=sqL_at hok KX hs
   obtain ⟨as,hr⟩:=Dw.readsAll hok KX ds _ its ha rv
   exact ⟨_,ReadsW.list ho hc hd hr⟩
 | .tuple ds,_,_,x,r=>by
  cases x with
  | tup hs ha =>
   cases r
   obtain ⟨its,o,n,rv,ho,hc,hd⟩:=sqT_at hok KX hs
   obtain ⟨as,hr⟩:=Dw.readsAll hok KX ds _ its ha rv
   exact ⟨_,ReadsW.tuple ho hc hd hr⟩
 | .float _,_,_,x,_=>by cases x
 | .dict _,_,_,x,_=>by cases x
 | .bytearray _,_,_,x,_=>by cases x
 | .set _,_,_,x,_=>by cases x
 | .frozenset _,_,_,x,_=>by cases x
 | .obj _ _,_,_,x,_=>by cases x
theorem Dw.readsAll (hok:HOk P w H h) (KX:K.In h):∀ (ds:List WData) (vs:List V) (us:List Value),DwAll K H vs ds→Vals vs us→∃ as,ReadsAllW R cl h us ds as
 | [],_,_,x,r=>by
  cases x
  cases r
  exact ⟨_,ReadsAllW.nil⟩
 | d :: ds,_,_,x,r=>by
  cases x with
  | cons h1 h2 =>
   cases r with
   | cons r1 r2 =>
    obtain ⟨as,q1⟩:=Dw.reads hok KX d _ _ h1 r1
    obtain ⟨bs,q2⟩:=Dw.readsAll hok KX ds _ _ h2 r2
    exact ⟨_,ReadsAllW.cons q1 q2⟩
end
end
mutual
def plW:WData→Bool
 | .none=>true
 | .bool _=>true
 | .int _=>true
 | .str _=>true
 | .bytes _=>true
 | .list xs=>plWs xs
 | .tuple xs=>plWs xs
 | _=>false
def plWs:List WData→Bool
 | []=>true
 | x :: r=>plW x && plWs r
end
theorem plWs_map {α:Type} {f:α→WData} (h:∀ a,plW (f a)=true):∀ l:List α,plWs (l.map f)=true
 | []=>rfl
 | x :: r=>by
  show (plW (f x) && plWs (r.map f))=true
  rw [h x,plWs_map h r] <;> rfl
theorem pl_enc:∀ (c:Codec) (a:c.denote),plW (c.enc a)=true
 | .unit,_=>rfl
 | .bool,_=>rfl
 | .int _ _,_=>rfl
 | .nat _ _,_=>rfl
 | .u8,_=>rfl
 | .bytes _ _,_=>rfl
 | .text _ _ _ _,_=>rfl
 | .list _ _ c,a=>plWs_map (fun x=>pl_enc c x) a
 | .pair c d,a=>by
  show (plW (c.enc a.1) && (plW (d.enc a.2) && true))=true
  rw [pl_enc c a.1,pl_enc d a.2] <;> rfl
 | .triple c d e,a=>by
  show (plW (c.enc a.1) && (plW (d.enc a.2.1) && (plW (e.enc a.2.2) && true)))=true
  rw [pl_enc c a.1,pl_enc d a.2.1,pl_enc e a.2.2] <;> rfl
 | .option c,none=>rfl
 | .option c,some x=>pl_enc c x
theorem pl_encAll:∀ (cs:List Codec) (a:Codec.denoteAll cs),plWs (Codec.encAll cs a)=true
 | [],_=>rfl
 | c :: cs,a=>by
  show (plW (c.enc a.1) && plWs (Codec.encAll cs a.2))=true
  rw [pl_enc c a.1,pl_encAll cs a.2] <;> rfl
theorem weight_mem:∀ {xs:List WData} {d:WData},d ∈ xs→d.weight≤WData.weightAll xs
 | [],d,h=>absurd h (by simp)
 | x :: r,d,h=>by
  show d.weight≤x.weight + 1 + WData.weightAll r
  rcases List.mem_cons.mp h with e | m
  ·rw [e]
   omega
  ·have z:=weight_mem m
   omega
def toV:Value→V
 | .none=>.non
 | .bool b=>.bl b
 | .int i _=>.int i
 | .str x _=>.str x
 | .bytes b _=>.byt b
 | .ref a=>.ref a
 | _=>.non
def OkU (A:List Addr):Value→Prop
 | .none=>True
 | .bool _=>True
 | .int _ _=>True
 | .str _ _=>True
 | .bytes _ _=>True
 | .ref a=>a ∈ A
 | _=>False
theorem OkU.mono {A B:List Addr} (h:∀ a ∈ A,a ∈ B):∀ {u:Value},OkU A u→OkU B u:=fun {u} x=>by
 cases u with
 | ref a=>exact h a x
 | none=>trivial
 | bool b=>trivial
 | int i t=>trivial
 | str s t=>trivial
 | bytes b t=>trivial
 | _=>exact False.elim x
theorem relV_toV {A:List Addr} {u:Value} (x:OkU A u):RelV (toV u) u:=by
 cases u with
 | ref a=>rfl
 | none=>rfl
 | bool b=>rfl
 | int i t=>exact ⟨t,rfl⟩
 | str s t=>exact ⟨t,rfl⟩
 | bytes b t=>exact ⟨t,rfl⟩
 | _=>exact False.elim x
theorem vals_toV {A:List Addr}:∀ {vs:List Value},(∀ u ∈ vs,OkU A u)→Vals (vs.map toV) vs
 | [],_=>.nil
 | u :: r,h=>.cons (relV_toV (h u (List.mem_cons_self ..))) (vals_toV fun x hx=>h x (List.mem_cons_of_mem _ hx))
def ArgOb (h:Heap) (A:List Addr) (a:Addr):Prop:=∃ vs:List Value,vs.length≤sizeLine∧(∀ u ∈ vs,OkU A u) ∧
 (h.get? a=some { cls:=.type "list",data:=.seq vs.toArray }∨h.get? a=some { cls:=.type "tuple",data:=.seq vs.toArray })
theorem ArgOb.mono {h:Heap} {A B:List Addr} {a:Addr} (k:∀ a ∈ A,a ∈ B) (x:ArgOb h A a):ArgOb h B a:=by
 obtain ⟨vs,h1,h2,h3⟩:=x
 exact ⟨vs,h1,fun u hu=>(h2 u hu).mono k,h3⟩
theorem wellAll_len {P:Params} {h:Heap}:∀ {vs:List Value} {ds:List WData},WellAll P h vs ds→vs.length=ds.length
 | _,_,.nil=>rfl
 | _,_,.cons _ b=>by
  show _ + 1=_ + 1
  rw [wellAll_len b]
theorem well_list {P:Params} {h:Heap} {v:Value} {ds:List WData} (x:Well P h v (.list ds)):∃ (a:Addr) (vs:List Value),v=.ref a∧h.get? a=some { cls:=.type "list",data:=.seq vs.toArray }∧WellAll P h vs ds:=by
 cases x with
 | list ho hall=>exact ⟨_,_,rfl,ho,hall⟩
theorem well_tuple {P:Params} {h:Heap} {v:Value} {ds:List WData} (x:Well P h v (.tuple ds)):∃ (a:Addr) (vs:List Value),v=.ref a∧h.get? a=some { cls:=.type "tuple",data:=.seq vs.toArray }∧WellAll P h vs ds:=by
 cases x with
 | tuple ho hall=>exact ⟨_,_,rfl,ho,hall⟩
theorem well_cons {P:Params} {h:Heap} {us:List Value} {d:WData} {ds:List WData} (x:WellAll P h us (d :: ds)):∃ (v:Value) (vs:List Value),us=v :: vs∧Well P h v d∧WellAll P h vs ds:=by
 cases x with
 | cons a b=>exact ⟨_,_,rfl,a,b⟩
theorem line_of {n:Nat} (h:n≤1048576):n≤sizeLine:=Nat.le_trans h (by decide)
section
variable {P:Params} {h:Heap}
mutual
theorem area_one:∀ (d:WData) (v:Value),Well P h v d→plW d=true→d.weight≤1048576→∃ A:List Addr,OkU A v∧∀ a ∈ A,ArgOb h A a
 | .none,_,x,_,_=>by
  cases x
  exact ⟨[],trivial,fun a m=>absurd m (by simp)⟩
 | .bool b,_,x,_,_=>by
  cases x
  exact ⟨[],trivial,fun a m=>absurd m (by simp)⟩
 | .int i,_,x,_,_=>by
  cases x
  exact ⟨[],trivial,fun a m=>absurd m (by simp)⟩
 | .str s,_,x,_,_=>by
  cases x
  exact ⟨[],trivial,fun a m=>absurd m (by simp)⟩
 | .bytes b,_,x,_,_=>by
  cases x
  exact ⟨[],trivial,fun a m=>absurd m (by simp)⟩
 | .list ds,_,x,p,z=>by
  obtain ⟨a,vs,rfl,ho,hall⟩:=well_list x
  have z2:WData.weightAll ds≤1048576:=z
  obtain ⟨A,h1,h2⟩:=area_all ds _ hall p fun d hd=>Nat.le_trans (weight_mem hd) z2
  have k:∀ b ∈ A,b ∈ a :: A:=fun b hb=>List.mem_cons_of_mem _ hb
  refine ⟨a :: A,List.mem_cons_self ..,fun b hb=>?_⟩
  rcases List.mem_cons.mp hb with e | m
  ·rw [e]
   exact ⟨vs,line_of (by rw [wellAll_len hall]; exact Nat.le_trans (PySem.W.length_le_weightAllW ds) z2),fun u hu=>(h1 u hu).mono k,.inl ho⟩
  ·exact (h2 b m).mono k
 | .tuple ds,_,x,p,z=>by
  obtain ⟨a,vs,rfl,ho,hall⟩:=well_tuple x
  have z2:WData.weightAll ds≤1048576:=z
  obtain ⟨A,h1,h2⟩:=area_all ds _ hall p fun d hd=>Nat.le_trans (weight_mem hd) z2
  have k:∀ b ∈ A,b ∈ a :: A:=fun b hb=>List.mem_cons_of_mem _ hb
  refine ⟨a :: A,List.mem_cons_self ..,fun b hb=>?_⟩
  rcases List.mem_cons.mp hb with e | m
  ·rw [e]
   exact ⟨vs,line_of (by rw [wellAll_len hall]; exact Nat.le_trans (PySem.W.length_le_weightAllW ds) z2),fun u hu=>(h1 u hu).mono k,.inr ho⟩
  ·exact (h2 b m).mono k
 | .float _,_,_,p,_=>Bool.noConfusion (show false=true from p)
 | .dict _,_,_,p,_=>Bool.noConfusion (show false=true from p)
 | .bytearray _,_,_,p,_=>Bool.noConfusion (show false=true from p)
 | .set _,_,_,p,_=>Bool.noConfusion (show false=true from p)
 | .frozenset _,_,_,p,_=>Bool.noConfusion (show false=true from p)
 | .obj _ _,_,_,p,_=>Bool.noConfusion (show false=true from p)
theorem area_all:∀ (ds:List WData) (vs:List Value),WellAll P h vs ds→plWs ds=true→(∀ d ∈ ds,d.weight≤1048576)→∃ A:List Addr,(∀ u ∈ vs,OkU A u)∧∀ a ∈ A,ArgOb h A a
 | [],_,x,_,_=>by
  cases x
  exact ⟨[],fun u m=>absurd m (by simp),fun a m=>absurd m (by simp)⟩
 | d :: ds,_,x,p,z=>by
  obtain ⟨v,vs,rfl,x1,x2⟩:=well_cons x
  have q:plW d=true∧plWs ds=true:=Bool.and_eq_true_iff.mp p
  obtain ⟨A,a1,a2⟩:=area_one d v x1 q.1 (z d (List.mem_cons_self ..))
  obtain ⟨B,b1,b2⟩:=area_all ds vs x2 q.2 fun e he=>z e (List.mem_cons_of_mem _ he)
  have kA:∀ b ∈ A,b ∈ A ++ B:=fun b hb=>List.mem_append.mpr (.inl hb)
  have kB:∀ b ∈ B,b ∈ A ++ B:=fun b hb=>List.mem_append.mpr (.inr hb)
  refine ⟨A ++ B,fun u hu=>?_,fun b hb=>?_⟩
  ·rcases List.mem_cons.mp hu with e | m
   ·rw [e]
    exact a1.mono kA
   ·exact (b1 u m).mono kB
  ·rcases List.mem_append.mp hb with m | m
   ·exact (a2 b m).mono kA
   ·exact (b2 b m).mono kB
end
end
def hoOf (o:Obj):Option HO:=match o.data with
 | .seq vs _=>if (o.cls == Value.type "list")=true then some (.frz o (.lst (vs.toList.map toV))) else some (.frz o (.tup (vs.toList.map toV)))
 | _=>none
def argH (K:PySem.W.Frag) (h:Heap) (A:List Addr):Hp:=fun b=>if b ∈ A then (if (K.lookup b).isNone=true then (h.get? b).bind hoOf else none) else none
def OnlyF (H:Hp):Prop:=∀ b,H b=none∨∃ o u,H b=some (.frz o u)
theorem hoOf_lst (vs:List Value):hoOf { cls:=.type "list",data:=.seq vs.toArray }=some (.frz { cls:=.type "list",data:=.seq vs.toArray } (.lst (vs.map toV))):=by
 show (if (Value.type "list" == Value.type "list")=true then some (HO.frz { cls:=.type "list",data:=.seq vs.toArray } (.lst (vs.toArray.toList.map toV))) else some (HO.frz { cls:=.type "list",data:=.seq vs.toArray } (.tup (vs.toArray.toList.map toV))))=_
 rw [if_pos (beq_self_eq_true _)]
theorem hoOf_tup (vs:List Value):hoOf { cls:=.type "tuple",data:=.seq vs.toArray }=some (.frz { cls:=.type "tuple",data:=.seq vs.toArray } (.tup (vs.map toV))):=by
 show (if (Value.type "tuple" == Value.type "list")=true then some (HO.frz { cls:=.type "tuple",data:=.seq vs.toArray } (.lst (vs.toArray.toList.map toV))) else some (HO.frz { cls:=.type "tuple",data:=.seq vs.toArray } (.tup (vs.toArray.toList.map toV))))=_
 rw [if_neg (by decide)]
section
variable {P:Program} {w:World} {K:PySem.W.Frag} {h:Heap} {A:List Addr}
theorem argH_at {b:Addr} {o:Obj} (hb:b ∈ A) (hk:K.lookup b=none) (e:h.get? b=some o):argH K h A b=hoOf o:=by
 unfold argH
 rw [if_pos hb,hk,if_pos (show (none:Option Obj).isNone=true from rfl),e] <;> rfl
theorem of_argH {b:Addr} {u:HO} (q:argH K h A b=some u):b ∈ A∧K.lookup b=none:=by
 unfold argH at q
 by_cases hb:b ∈ A
 ·rw [if_pos hb] at q
  cases hk:K.lookup b with
  | none=>exact ⟨hb,rfl⟩
  | some o =>
   rw [hk,if_neg (by simp)] at q
   cases q
 ·rw [if_neg hb] at q
  cases q
theorem argH_is (ar:∀ a ∈ A,ArgOb h A a) {b:Addr} {u:HO} (q:argH K h A b=some u):K.lookup b=none∧∃ vs:List Value,vs.length≤sizeLine∧(∀ u ∈ vs,OkU A u) ∧
  ((h.get? b=some { cls:=.type "list",data:=.seq vs.toArray }∧u=.frz { cls:=.type "list",data:=.seq vs.toArray } (.lst (vs.map toV))) ∨
   (h.get? b=some { cls:=.type "tuple",data:=.seq vs.toArray }∧u=.frz { cls:=.type "tuple",data:=.seq vs.toArray } (.tup (vs.map toV)))):=by
 obtain ⟨hb,hk⟩:=of_argH q
 obtain ⟨vs,h1,h2,h3⟩:=ar b hb
 refine ⟨hk,vs,h1,h2,?_⟩
 rcases h3 with e | e
 ·rw [argH_at hb hk e,hoOf_lst] at q
  exact .inl ⟨e,(Option.some.inj q).symm⟩
 ·rw [argH_at hb hk e,hoOf_tup] at q
  exact .inr ⟨e,(Option.some.inj q).symm⟩
theorem argH_only (ar:∀ a ∈ A,ArgOb h A a):OnlyF (argH K h A):=fun b=>by
 cases q:argH K h A b with
 | none=>exact .inl rfl
 | some u =>
  obtain ⟨_,vs,_,_,⟨_,e⟩ | ⟨_,e⟩⟩:=argH_is ar q
  ·exact .inr ⟨_,_,by rw [e]⟩
  ·exact .inr ⟨_,_,by rw [e]⟩
theorem argH_ok (ar:∀ a ∈ A,ArgOb h A a):HOk P w (argH K h A) h:=fun b u q=>by
 obtain ⟨_,vs,h1,h2,⟨e,rfl⟩ | ⟨e,rfl⟩⟩:=argH_is ar q
 ·exact ⟨e,by rw [List.length_map]; exact h1,vs,_,vals_toV h2,e⟩
 ·exact ⟨e,by rw [List.length_map]; exact h1,vs,vals_toV h2,_,e,rfl,_,rfl⟩
theorem seq_inj {c c':Value} {vs us:List Value} (e:(some { cls:=c,data:=.seq vs.toArray }:Option Obj)=some { cls:=c',data:=.seq us.toArray }):c=c'∧vs=us:=by
 have e1:=Option.some.inj e
 have e2:c=c':=congrArg Obj.cls e1
 have e3:Data.seq vs.toArray=Data.seq us.toArray:=congrArg Obj.data e1
 injection e3 with e4
 refine ⟨e2,?_⟩
 have e5:=congrArg Array.toList e4
 simpa using e5
theorem argL (KX:K.In h) (ar:∀ a ∈ A,ArgOb h A a) {a:Addr} {vs:List Value} (ha:a ∈ A) (e:h.get? a=some { cls:=.type "list",data:=.seq vs.toArray }):(∀ u ∈ vs,OkU A u)∧SqL K (argH K h A) a (vs.map toV):=by
 obtain ⟨us,h1,h2,h3⟩:=ar a ha
 have hu:us=vs:=by
  rcases h3 with q | q
  ·rw [e] at q
   exact (seq_inj q).2.symm
  ·rw [e] at q
   exact absurd (Value.type.inj (seq_inj q).1) (by decide)
 subst hu
 refine ⟨h2,?_⟩
 cases hk:K.lookup a with
 | none=>exact .inl (.inr ⟨_,by rw [argH_at ha hk e,hoOf_lst]⟩)
 | some o =>
  have e2:=KX a o hk
  rw [e] at e2
  obtain rfl:=Option.some.inj e2
  exact .inr ⟨_,us.toArray,_,hk,rfl,rfl,rfl,by rw [List.size_toArray]; exact h1,by simpa using vals_toV h2⟩
theorem argT (KX:K.In h) (ar:∀ a ∈ A,ArgOb h A a) {a:Addr} {vs:List Value} (ha:a ∈ A) (e:h.get? a=some { cls:=.type "tuple",data:=.seq vs.toArray }):(∀ u ∈ vs,OkU A u)∧SqT K (argH K h A) a (vs.map toV):=by
 obtain ⟨us,h1,h2,h3⟩:=ar a ha
 have hu:us=vs:=by
  rcases h3 with q | q
  ·rw [e] at q
   exact absurd (Value.type.inj (seq_inj q).1) (by decide)
  ·rw [e] at q
   exact (seq_inj q).2.symm
 subst hu
 refine ⟨h2,?_⟩
 cases hk:K.lookup a with
 | none=>exact .inl (.inr ⟨_,by rw [argH_at ha hk e,hoOf_tup]⟩)
 | some o =>
  have e2:=KX a o hk
  rw [e] at e2
  obtain rfl:=Option.some.inj e2
  exact .inr ⟨_,us.toArray,_,hk,rfl,rfl,by rw [List.size_toArray]; exact h1,by simpa using vals_toV h2⟩
mutual
theorem dw_one {Pm:Params} (KX:K.In h) (ar:∀ a ∈ A,ArgOb h A a):∀ (d:WData) (v:Value),Well Pm h v d→plW d=true→OkU A v→Dw K (argH K h A) (toV v) d
 | .none,_,x,_,_=>by
  cases x
  exact .non
 | .bool b,_,x,_,_=>by
  cases x
  exact .bl b
 | .int i,_,x,_,_=>by
  cases x
  exact .int i
 | .str s,_,x,_,_=>by
  cases x
  exact .str s
 | .bytes b,_,x,_,_=>by
  cases x
  have z:=Dw.byt (K:=K) (H:=argH K h A) b.toArray
  exact z
 | .list ds,_,x,p,hu=>by
  obtain ⟨a,vs,rfl,ho,hall⟩:=well_list x
  obtain ⟨h2,hs⟩:=argL KX ar hu ho
  exact .lst hs (dw_all KX ar ds _ hall p h2)
 | .tuple ds,_,x,p,hu=>by
  obtain ⟨a,vs,rfl,ho,hall⟩:=well_tuple x
  obtain ⟨h2,hs⟩:=argT KX ar hu ho
  exact .tup hs (dw_all KX ar ds _ hall p h2)
 | .float _,_,_,p,_=>Bool.noConfusion (show false=true from p)
 | .dict _,_,_,p,_=>Bool.noConfusion (show false=true from p)
 | .bytearray _,_,_,p,_=>Bool.noConfusion (show false=true from p)
 | .set _,_,_,p,_=>Bool.noConfusion (show false=true from p)
 | .frozenset _,_,_,p,_=>Bool.noConfusion (show false=true from p)
 | .obj _ _,_,_,p,_=>Bool.noConfusion (show false=true from p)
theorem dw_all {Pm:Params} (KX:K.In h) (ar:∀ a ∈ A,ArgOb h A a):∀ (ds:List WData) (vs:List Value),WellAll Pm h vs ds→plWs ds=true→(∀ u ∈ vs,OkU A u)→DwAll K (argH K h A) (vs.map toV) ds
 | [],_,x,_,_=>by
  cases x
  exact .nil
 | d :: ds,_,x,p,hu=>by
  obtain ⟨v,vs,rfl,x1,x2⟩:=well_cons x
  have q:plW d=true∧plWs ds=true:=Bool.and_eq_true_iff.mp p
  exact .cons (dw_one KX ar d v x1 q.1 (hu _ (List.mem_cons_self ..))) (dw_all KX ar ds vs x2 q.2 fun u m=>hu u (List.mem_cons_of_mem _ m))
end
end
theorem spec_call {P:Program} {w:World} {K:PySem.W.Frag} {mg mb:Str→Option Value} {CX:CXT} {k:Nat} {fa:Addr} {fd:FuncData} {ps:List Str} {sp:Sp} {s₁:Shared} {vals:List Value} {ds:List WData} {R:PySem.W.WRecords} {cl:Str→Option Addr} {d0:WData}
  (KX:K.In s₁.heap) (hns:s₁.heap.Ns mainGlobals mg) (hb:s₁.heap.Ns builtinsNs mb) (hbb:∀ x:Str,x≠"__name__"→mb x=bootBuiltins x) (hlim:s₁.heap.NoLimit) (hg:s₁.gens=#[])
  (hwl:WellAll w.params s₁.heap vals ds) (hpl:plWs ds=true) (hwt:∀ d ∈ ds,d.weight≤1048576) (hr:Room k callerA)
  (F:∀ base:Heap,K.In base→base.Ns mainGlobals mg→FnOk P w K mg base CX k fa fd ps sp) (hbind:∀ (s:Shared) (us:List Value),us.length=ps.length→BindsTo s fd ⟨us,[]⟩ (ps.zip us)) (hlen:ds.length=ps.length)
  (hsp:∀ (H:Hp) (xs:List V),OnlyF H→DwAll K H xs ds→sp xs H (fun v H'=>Dw K H' v d0) fun _ _ _=>False)
  (hCX:∀ H e s',CX [] H s₁ (fun _ _ _=>False) e s'→False) :
  codeAny (model P w) callerA (.call (.ref fa) ⟨vals,[]⟩) (fun r s'=>∃ u as,r=.ok (.ret u)∧ReadsW R cl s'.heap u d0 as∧OldK s₁.heap s'.heap∧s'.os=s₁.os∧AllBare s'.gens) s₁:=by
 obtain ⟨A,ho,ar⟩:=area_all ds vals hwl hpl hwt
 have hO:OnlyF (argH K s₁.heap A):=argH_only ar
 have hok:HOk P w (argH K s₁.heap A) s₁.heap:=argH_ok ar
 have hS:=dw_all KX ar ds vals hwl hpl ho
 have hV:=vals_toV ho
 have hK:∀ b u,argH K s₁.heap A b=some u→K.lookup b=none:=fun b u q=>(argH_is ar q).1
 have noA:∀ {b:Addr} {o:Obj} {es:Array DictEntry} {ep:Nat},s₁.heap.get? b=some o→o.data=.dict es ep→argH K s₁.heap A b=none:=fun {b o es ep} e d=>by
  cases q:argH K s₁.heap A b with
  | none=>rfl
  | some u =>
   obtain ⟨_,vs,_,_,⟨e2,_⟩ | ⟨e2,_⟩⟩:=argH_is ar q
   ·rw [e2] at e
    cases e
    have d':Data.seq vs.toArray _=Data.dict es ep:=d
    cases d'
   ·rw [e2] at e
    cases e
    have d':Data.seq vs.toArray _=Data.dict es ep:=d
    cases d'
 generalize argH K s₁.heap A=H at hO hok hS hK noA
 have base_of:∀ {b:Addr} {o:Obj},s₁.heap.get? b=some o→H b=none→(hidT s₁.heap H).get? b=some o:=fun e n=>hidT_get e n
 have nsK:∀ {b:Addr} {m:Str→Option Value},s₁.heap.Ns b m→(hidT s₁.heap H).Ns b m:=fun {b m} ⟨o,es,ep,e,d,r⟩=>⟨o,es,ep,base_of e (noA e d),d,r⟩
 have nK:∀ b o,K.lookup b=some o→H b=none:=fun b o e=>by
  cases q:H b with
  | none=>rfl
  | some u =>
   rw [hK b u q] at e
   cases e
 have hKb:K.In (hidT s₁.heap H):=fun b o e=>base_of (KX b o e) (nK b o e)
 have hM:Mod K mg (hidT s₁.heap H):=⟨hKb,nsK hns,⟨mb,nsK hb,hbb⟩,let ⟨mc,h1,h2⟩:=hlim; ⟨mc,nsK h1,h2⟩⟩
 have e0:Env0 P w K mg (hidT s₁.heap H) callerA [] s₁ H:=⟨rfl,hM,fun b o e=>of_hidT e,Nat.le_of_eq (hidT_size _ _),trivial,fun b hb=>absurd (show b ∈ ([]:List Addr) from hb) (by simp),hok,.of_eq hg⟩
 have hl:vals.length=ps.length:=by rw [wellAll_len hwl]; exact hlen
 refine codeAny_mono ((F _ hKb (nsK hns)).run callerA [] s₁ H ⟨vals,[]⟩ vals (vals.map toV) _ _ hr e0 (hbind s₁ vals hl) hV (hsp H _ hO hS)) fun r s' x=>?_
 cases r with
 | error e=>exact (hCX H e s' x).elim
 | ok fl =>
  cases fl with
  | next=>exact False.elim x
  | brk=>exact False.elim x
  | cont=>exact False.elim x
  | ret u =>
   obtain ⟨v,H',os,bare,un,hok',r',q⟩:=x
   have kept:∀ b o,s₁.heap.get? b=some o→s'.heap.get? b=some o:=fun b o e=>by
    cases q2:H b with
    | none=>exact un.keep b o e q2 (by intro z; exact absurd (show b ∈ ([]:List Addr) from z) (by simp)) (by simp)
    | some u2 =>
     rcases hO b with z | ⟨ob,u3,z⟩
     ·rw [q2] at z
      cases z
     ·have z2:=un.frzs b ob _ z
      obtain ⟨e1,_⟩:=hok b _ z
      obtain ⟨e2,_⟩:=hok' b _ z2
      rw [e] at e1
      cases e1
      exact e2
   have KX':K.In s'.heap:=fun b o e=>kept b o (KX b o e)
   obtain ⟨as,hrd⟩:=Dw.reads (R:=R) (cl:=cl) hok' KX' d0 v u q r'
   exact ⟨u,as,rfl,hrd,OldK.of_keep kept,os,bare⟩
theorem layable_weight {ds:List WData} (h:WData.layableAll ds=true):∀ d ∈ ds,d.weight≤1048576:=fun d hd =>
 (PySem.W.layableW_iff.mp (List.all_eq_true.mp h d hd)).2.2
theorem encAll_len:∀ (cs:List Codec) (a:Codec.denoteAll cs),(Codec.encAll cs a).length=cs.length
 | [],_=>rfl
 | c :: cs,a=>by
  show (Codec.encAll cs a.2).length + 1=cs.length + 1
  rw [encAll_len cs a.2]
theorem walk_spec {r:OpenSpec} {k:Nat} {q:Program} {loose:List Str} {XP:(Str→Option Value)→Heap→Prop} {YP:World→Heap→Prop} {d:DefRec} {K:Params→PySem.W.Frag} {CX:World→CXT} {ps:List Str} {sp:World→Sp}
  (hwell:r.wellSaid=true) (hdf:d.params.defaults=[]) (hlen:r.args.length=ps.length) (hr:Room k callerA)
  (hY:∀ (w:World) (h:Heap),YP w h→(K w.params).In h)
  (F:∀ (w:World) (mg:Str→Option Value) (fa:Addr) (h:Heap),YP w h→(K w.params).In h→h.Ns mainGlobals mg→mg d.name=some (.ref fa) →
   ∃ fd:FuncData,(∀ (s:Shared) (us:List Value),us.length=ps.length→BindsTo s fd ⟨us,[]⟩ (ps.zip us)) ∧
    ∀ base:Heap,(K w.params).In base→base.Ns mainGlobals mg→FnOk r.prog w (K w.params) mg base (CX w) k fa fd ps (sp w))
  (hsp:∀ (w:World) (H:Hp) (xs:List V) (a:Codec.denoteAll r.args),OnlyF H→Codec.withinAll r.args a=true→Codec.app r.args r.asked a=true→DwAll (K w.params) H xs (Codec.encAll r.args a) →
   sp w xs H (fun v H'=>Dw (K w.params) H' v (r.ret.enc (Codec.app r.args r.f a))) fun _ _ _=>False)
  (hCX:∀ (w:World) (H:Hp) (s:Shared) (e:Value) (s':Shared),CX w [] H s (fun _ _ _=>False) e s'→False) :
  PySem.W.WalkOS q loose XP YP r d [] (fun f vs=>PySem.call f vs):=by
 intro w s_0 s₁ mg mb G Y fa o pm cd doc dV kV ho hd hcd hD hmg hg args vals as hpre hlay hrd hwl hlo
 obtain ⟨a,e1,e2⟩:=PySem.W.os_pre_some hpre
 obtain ⟨e3,hwi⟩:=Codec.encAll_of_decAll r.args args a e1
 subst e3
 have KX:=hY w _ Y
 obtain ⟨fd,hb,hF⟩:=F w mg fa _ Y KX G.T.g hmg
 refine PySem.W.enter_call (codeAny_mono (spec_call (R:=[]) (cl:=classAt s_0.heap) (d0:=r.ret.enc (Codec.app r.args r.f a)) KX G.T.g G.T.b G.T.builtins G.T.nolimit hg hwl (pl_encAll _ _) (layable_weight hlay) hr hF hb (by rw [encAll_len]; exact hlen)
  (fun H xs hO hS=>hsp w H xs a hO hwi e2 hS) fun H e s'=>hCX w H s₁ e s') fun r' s' hq=>?_)
 obtain ⟨u,as',rfl,h1,h2,h3,h4⟩:=hq
 exact ⟨.inl ⟨u,_,as',rfl,fun _=>rfl,h1,(OpenSpec.post_iff hwell hwi _ _).mpr rfl,fun z=>Bool.noConfusion (show false=true from z)⟩,h2,h3,h4⟩
theorem walk_specK {r:OpenSpec} {k:Nat} {q:Program} {loose:List Str} {XP:(Str→Option Value)→Heap→Prop} {YP:World→Heap→Prop} {d:DefRec} {K:Params→PySem.W.Frag} {CX:CXT} {ps:List Str} {sp:PySem.W.Frag→Sp}
  (hwell:r.wellSaid=true) (hdf:d.params.defaults=[]) (hlen:r.args.length=ps.length) (hr:Room k callerA)
  (hY:∀ (w:World) (h:Heap),YP w h→(K w.params).In h)
  (F:∀ (w:World) (mg:Str→Option Value) (fa:Addr) (h:Heap),YP w h→(K w.params).In h→h.Ns mainGlobals mg→mg d.name=some (.ref fa) →
   ∃ fd:FuncData,(∀ (s:Shared) (us:List Value),us.length=ps.length→BindsTo s fd ⟨us,[]⟩ (ps.zip us)) ∧
    ∀ base:Heap,(K w.params).In base→base.Ns mainGlobals mg→FnOk r.prog w (K w.params) mg base CX k fa fd ps (sp (K w.params)))
  (hsp:∀ (K:PySem.W.Frag) (H:Hp) (xs:List V) (a:Codec.denoteAll r.args),OnlyF H→Codec.withinAll r.args a=true→Codec.app r.args r.asked a=true→DwAll K H xs (Codec.encAll r.args a) →
   sp K xs H (fun v H'=>Dw K H' v (r.ret.enc (Codec.app r.args r.f a))) fun _ _ _=>False)
  (hCX:∀ (H:Hp) (s:Shared) (e:Value) (s':Shared),CX [] H s (fun _ _ _=>False) e s'→False) :
  PySem.W.WalkOS q loose XP YP r d [] (fun f vs=>PySem.call f vs) :=
 walk_spec (K:=K) (CX:=fun _=>CX) (sp:=fun w=>sp (K w.params)) hwell hdf hlen hr hY F (fun w H xs a h1 h2 h3 h4=>hsp (K w.params) H xs a h1 h2 h3 h4) fun _ H s e s'=>hCX H s e s'
end L2
end
end
section
set_option maxRecDepth 100000
namespace L2
open PySem PySem.Spec PyProof.Rows
theorem ObjOk.is {P:Program} {w:World} {H:Hp} {h:Heap} {a:Addr} {o:HO} (x:ObjOk P w H h a o):∃ ob,h.get? a=some ob:=by
 cases o with
 | lst xs=>exact let ⟨_,_,_,_,e⟩:=x; ⟨_,e⟩
 | tup xs=>exact let ⟨_,_,_,ob,e,_⟩:=x; ⟨ob,e⟩
 | dK kvs=>exact let ⟨_,_,_,_,ob,_,_,e,_⟩:=x; ⟨ob,e⟩
 | dT kvs=>exact let ⟨_,_,_,_,ob,_,_,e,_⟩:=x; ⟨ob,e⟩
 | set S n=>exact let ⟨ob,_,_,_,e,_⟩:=x; ⟨ob,e⟩
 | ins C dx fs=>exact let ⟨_,_,_,e,_⟩:=x; ⟨_,e⟩
 | own y=>exact x
 | xd fs=>exact let ⟨_,⟨ob,_,_,e,_⟩,_⟩:=x; ⟨ob,e⟩
 | rng lo hi=>exact let ⟨_,_,_,e⟩:=x; ⟨_,e⟩
 | frz ob u=>exact let ⟨e,_⟩:=x; ⟨_,e⟩
 | tbl ps=>exact ⟨_,(show h.get? a=some _ from x)⟩
 | met f y=>exact ⟨_,(show h.get? a=some _ from x)⟩
 | ext φ=>exact let ⟨_,e,_⟩:=x; e
theorem HOk.none {P:Program} {w:World} {H:Hp} {h:Heap} {a:Addr} (x:HOk P w H h) (e:h.get? a=Option.none):H a=Option.none:=by
 cases q:H a with
 | none=>rfl
 | some o =>
  obtain ⟨ob,z⟩:=(x a o q).is
  rw [e] at z; cases z
def Fly (h:Heap) (e T:Addr) (cls:Value):Prop :=
 ∃ oe vs a0 oT ts,h.get? e=some oe∧(oe.cls=cls∧vs[0]?=some a0)∧oe.data=.fields vs∧vs[1]?=some (.ref T)∧T≠e∧h.get? T=some oT∧oT.data=.fields ts∧ts[3]?=some .none
structure Flown (P:Program) (w:World) (cls:Value) (l:List Env) (H H':Hp) (h h':Heap) (e T:Addr):Prop where
 un:Un (frs l) [] H H' h h'
 hok:HOk P w H' h'
 ne:h.get? e=none
 nT:h.get? T=none
 fe:H' e=none
 fT:H' T=none
 fly:Fly h' e T cls
def CX1 (P:Program) (w:World) (C:Addr):CXT:=fun outer H s E v s' =>
 ∃ e T H',v=.ref e∧s'.os=s.os∧AllBare s'.gens∧Flown P w (.ref C) outer H H' s.heap s'.heap e T∧E (.ref C) none H'
def cover (h:Heap) (l:List Env) (e T:Addr):Heap:=PySem.W.hideAll h (frs l ++ [e,T])
theorem cover_get {h:Heap} {l:List Env} {e T b:Addr} {o:Obj} (q:h.get? b=some o) (n:b ∉ frs l) (ne:b≠e) (nT:b≠T):(cover h l e T).get? b=some o :=
 PySem.W.hideAll_get _ q fun m=>by
  rcases List.mem_append.mp m with z | z
  ·exact n z
  ·simp at z; exact z.elim ne nT
theorem cover_stays {h:Heap} {l:List Env} {e T:Addr}:(cover h l e T).StaysIn h:=fun _ _ q=>PySem.W.of_hideAll _ q
theorem flown_on {P:Program} {w:World} {cls a0:Value} {l l':List Env} {H H':Hp} {h h' h2:Heap} {e T:Addr} {bs:Heap} (un:Un (frs l) [] H H' h h') (hok:HOk P w H' h') (ne:h.get? e=none) (nT:h.get? T=none) (fe:H' e=none) (fT:H' T=none)
  (hf:h'.FunFrames bs l) (fr:∀ b ∈ frs l,H' b=none) (fl:Heap.FlyingW (cover h' l e T) l' e cls a0 h2) (up:h'.UpToSlots h2) :
  ∃ T',Flown P w cls l H H' h h2 e T':=by
 obtain ⟨st,_,_,oe,vs,T',oT,ts,he,hc,hd,h1,nT',hne,hT,hdT,h3⟩:=fl
 have kp:∀ b o,h'.get? b=some o→b ∉ frs l→b≠e→b≠T→h2.get? b=some o:=fun b o q n n1 n2=>st b o (cover_get q n n1 n2)
 have sl:∀ b o,h'.get? b=some o→b ∈ frs l→∃ s,h2.get? b=some { o with slots:=s }:=fun b o q m=>by
  obtain ⟨_,o',ho',hnf⟩:=hf.mem m
  rw [q] at ho'; cases ho'
  exact up b o q hnf
 have nn:∀ b o,h.get? b=some o→b≠e∧b≠T:=fun b o q=>⟨fun z=>(by rw [z,ne] at q; cases q),fun z=>(by rw [z,nT] at q; cases q)⟩
 have tk:∀ b u,H' b=some u→b ∉ frs l∧b≠e∧b≠T:=fun b u q=>⟨fun z=>(by rw [fr b z] at q; cases q),fun z=>(by rw [z,fe] at q; cases q),fun z=>(by rw [z,fT] at q; cases q)⟩
 have nofr:T' ∉ frs l:=fun m=>by
  obtain ⟨_,o',ho',hnf⟩:=hf.mem m
  obtain ⟨s,hs⟩:=sl T' o' ho' m
  rw [hT] at hs; cases hs
  exact hnf _ hdT
 refine ⟨T',⟨fun b o q n hb hx=>kp b o (un.keep b o q n hb hx) hb (nn b o q).1 (nn b o q).2,fun b o q n hb hx=>?_,un.free,fun b o q hx=>?_,un.tups,un.frzs,un.tbls⟩,fun b u q=>?_,ne,?_,fe,?_,⟨oe,vs,a0,oT,ts,he,hc,hd,h1,hne,hT,hdT,h3⟩⟩
 ·obtain ⟨s,e1⟩:=un.slot b o q n hb hx
  obtain ⟨s2,e2⟩:=sl b _ e1 hb
  exact ⟨s2,e2⟩
 ·obtain ⟨o',e1⟩:=un.there b o q hx
  by_cases m:b ∈ frs l
  ·obtain ⟨s,e2⟩:=sl b _ e1 m
   exact ⟨_,e2⟩
  ·exact ⟨o',kp b o' e1 m (nn b o q).1 (nn b o q).2⟩
 ·refine (hok b u q).stay (fun c v hc r=>?_) (fun _ z=>z) fun _ _ z=>z
  have z:∃ u',H' c=some u':=by
   rcases hc with rfl | hc
   ·exact ⟨u,q⟩
   ·exact ⟨_,hc⟩
  obtain ⟨u',z⟩:=z
  exact kp c v r (tk c u' z).1 (tk c u' z).2.1 (tk c u' z).2.2
 ·cases q:h.get? T' with
  | none=>rfl
  | some o =>
   obtain ⟨o',e1⟩:=un.there T' o q (by simp)
   rw [cover_get e1 nofr hne (nn T' o q).2] at nT'
   cases nT'
 ·cases q:H' T' with
  | none=>rfl
  | some u =>
   obtain ⟨ob,z⟩:=(hok _ _ q).is
   rw [cover_get z nofr hne (tk _ _ q).2.2] at nT'
   cases nT'
theorem cover_e {h:Heap} {l:List Env} {e T:Addr}:(cover h l e T).get? e=none:=PySem.W.hideAll_none _ (by simp)
theorem cover_T {h:Heap} {l:List Env} {e T:Addr}:(cover h l e T).get? T=none:=PySem.W.hideAll_none _ (by simp)
theorem cover_frames {h bs:Heap} {l:List Env} {e T:Addr} (hf:h.FunFrames bs l):h.FunFrames (cover h l e T) l :=
 PySem.W.funFrames_hide hf fun env he a ha=>List.mem_append_left _ (List.mem_filterMap.mpr ⟨env,he,ha⟩)
theorem Fly.traced {h:Heap} {l:List Env} {e T:Addr} {cls:Value} (f:Fly h e T cls):∃ a0,h.TracedW (cover h l e T) e cls a0:=by
 obtain ⟨oe,vs,a0,oT,ts,he,hc,hd,h1,hne,hT,hdT,h3⟩:=f
 exact ⟨a0,oe,vs,T,oT,ts,he,hc,hd,h1,cover_T,hne,hT,hdT,h3⟩
theorem Inv.flown {X:Cx} {pins:List (Addr × Obj)} {σ:St} {H H':Hp} {s s':Shared} {cls:Value} {e T:Addr} (I:Inv X pins σ H s) (os:s'.os=s.os) (bare:AllBare s'.gens)
  (F:Flown X.prog X.w cls X.stack H H' s.heap s'.heap e T):Inv X pins σ H' s':=I.call' os F.un F.hok bare fun b z=>absurd z (by simp)
section
variable {P:Program} {w:World} {K:PySem.W.Frag} {mg:Str→Option Value} {base:Heap} {N:List Str} {qual:Str} {scope:Scope} {f C:Addr} {cd:Value} {A:Around} {outer:List Env} {s:Shared} {H:Hp} {E:XK}
abbrev cxE (P:Program) (w:World) (K:PySem.W.Frag) (mg:Str→Option Value) (base:Heap) (C:Addr) (N:List Str) (qual:Str) (scope:Scope) (f:Addr) (cd:Value) (A:Around) (outer:List Env) (s:Shared) (H:Hp) (E:XK):Cx :=
 cxOf (CX1 P w C) P w K mg base N qual scope f cd A outer s H E
theorem flown_out {pins:List (Addr × Obj)} {σ:St} {H1 H':Hp} {s1 s2:Shared} {e T:Addr} (I:Inv (cxE P w K mg base C N qual scope f cd A outer s H E) pins σ H1 s1) (os:s2.os=s1.os) (bare:AllBare s2.gens)
  (F:Flown P w (.ref C) (cxE P w K mg base C N qual scope f cd A outer s H E).stack H1 H' s1.heap s2.heap e T) (hE:E (.ref C) none H'):CX1 P w C outer H s E (.ref e) s2:=by
 have J:=I.flown os bare F
 have old:∀ b,s1.heap.get? b=none→s.heap.get? b=none:=fun b n=>by
  cases q:s.heap.get? b with
  | none=>rfl
  | some o =>
   obtain ⟨o',z⟩:=I.base.there b o q (by show b ∉ ([]:List Addr); simp)
   rw [n] at z; cases z
 exact ⟨e,T,H',rfl,J.os,J.bare,⟨J.base,J.hok,old _ F.ne,old _ F.nT,F.fe,F.fT,F.fly⟩,hE⟩
theorem passX:Passes (CX1 P w C) (cxE P w K mg base C N qual scope f cd A outer s H E) E:=by
 intro pins σ H1 s1 v s' I h
 obtain ⟨e,T,H',rfl,os,bare,F,hE⟩:=h
 have J:=I.flown os bare F
 obtain ⟨a0,tr⟩:=F.fly.traced (l:=(cxE P w K mg base C N qual scope f cd A outer s H E).stack)
 refine wpAny_leaves_onW (L:=s.heap.objs.size) J.ok.frames rfl ⟨cover_stays,cover_e,cover_frames J.stack,tr⟩ fun h2 fl up=>?_
 obtain ⟨T',F'⟩:=flown_on F.un F.hok F.ne F.nT F.fe F.fT J.stack J.stkFree fl up
 exact flown_out (s2:={ s' with heap:=h2 }) I os bare F' hE
theorem throwX {pins:List (Addr × Obj)} {σ:St} {H1:Hp} {s1:Shared} {e:Addr} {h':Heap} {vs:List Value} (I:Inv (cxE P w K mg base C N qual scope f cd A outer s H E) pins σ H1 s1) (m:Heap.MadeExcOf s1.heap h' e (.ref C) vs) (hE:E (.ref C) none H1) :
  (cxE P w K mg base C N qual scope f cd A outer s H E).xe (.ref e) { s1 with heap:=h' }:=by
 have fe:=I.hok.none m.new
 refine wpAny_leaves_madeW (base:=cover s1.heap (cxE P w K mg base C N qual scope f cd A outer s H E).stack e e) (h:=s1.heap) (L:=s.heap.objs.size) I.ok.frames rfl cover_stays (cover_frames I.stack) m fun h2 t fl _ _ up=>?_
 obtain ⟨T',F'⟩:=flown_on (Un.refl) I.hok m.new m.new fe fe I.stack I.stkFree fl ((Heap.UpToSlots.of_keeps m.keeps).trans up)
 exact flown_out (s2:={ s1 with heap:=h2 }) I rfl I.bare F' hE
end
structure Exc (K:PySem.W.Frag) (mg:Str→Option Value) (x:Str) (C:Addr):Prop where
 mgE:mg x=some (.ref C)
 q:PySem.W.excIn K C [.type "ValueError",.type "Exception",.type "BaseException",.type "object"] "ValueError.__new__"=true
theorem Exc.obj {K:PySem.W.Frag} {mg:Str→Option Value} {x:Str} {C:Addr} {h:Heap} (T:Exc K mg x C) (X:K.In h) :
  OwnCls x C [.type "ValueError",.type "Exception",.type "BaseException",.type "object"] "ValueError.__new__" mg h:=by
 refine ⟨T.mgE,?_⟩
 have q:=T.q
 unfold PySem.W.excIn at q
 split at q
 ·rename_i dd cd sl ho
  split at q
  ·rename_i C' bm k0 k1 k2 k3 n k5 hm hs
   simp only [Bool.and_eq_true,beq_iff_eq,Bool.not_eq_true'] at q
   obtain ⟨⟨⟨⟨⟨e1,e2⟩,e3⟩,e4⟩,e5⟩,e6⟩:=q
   subst e1; subst e2
   obtain ⟨nm,bs,mro,ns,qn,hd,sn,sub,ab,col,del⟩:=cd
   dsimp only at hm e3 e5 e6
   subst hm; subst e3
   have es:sl=#[k0,k1,k2,k3,some (.builtin "ValueError.__new__"),k5]:=by
    cases sl; simp only at hs; rw [hs]
   subst es
   exact ⟨bm,ns,nm,qn,bs,hd,sn,sub,ab,col,dd,k0,k1,k2,k3,k5,_,X _ _ ho,.of_isNs (PySem.W.isNs_of_in X e5),PySem.W.nsMap_none_of_in X e5 e6,PySem.W.tail_of_in X e4⟩
  ·cases q
 ·cases q
def tRaise (C:Addr) (E:XK) (ta:TA):TS:=fun _ σ H=>ta σ H fun vs H1=>vs.length≤sizeLine∧E (.ref C) none H1
theorem ps_raise {P:Program} {w:World} {K:PySem.W.Frag} {mg:Str→Option Value} {base:Heap} {N:List Str} {qual:Str} {scope:Scope} {f C:Addr} {cd:Value} {A:Around} {outer:List Env} {s:Shared} {H:Hp} {E:XK} {x:Str} {np cpos pos:Pos} {a:Expr} {as:List Expr} {ta:TA}
  (T:Exc K mg x C) (hg:Gl (cxE P w K mg base C N qual scope f cd A outer s H E) x) (ha:PA (cxE P w K mg base C N qual scope f cd A outer s H E) (a :: as) ta)
  (he:starEach (a :: as) (cxE P w K mg base C N qual scope f cd A outer s H E).env=(false,eval a (cxE P w K mg base C N qual scope f cd A outer s H E).env) :: starEach as (cxE P w K mg base C N qual scope f cd A outer s H E).env:=by rfl)
  (hpl:(backTo cpos (starEach as (cxE P w K mg base C N qual scope f cd A outer s H E).env)).any (·.1)=false:=by rfl) (hdb:(x == ("__debug__":Str))=false:=by decide) :
  PS (cxE P w K mg base C N qual scope f cd A outer s H E) (.Raise (some (.Call (.Name x np) (a :: as) [] cpos)) none pos) (tRaise C E ta):=by
 intro pins s1 σ H1 D I h
 obtain ⟨bm,N',nm,q,bs,hdct,sn,sub,ab,col,dd,k0,k1,k2,k3,k5,mN,hC,hN,hni,TL⟩:=(T.obj I.ok.mod.kin).obj
 refine wpAny_Raise_call_subU (C:=C) (nm:=nm) (q:=q) (N:=N') (bs:=bs) (bm:=bm) (hdct:=hdct) (sn:=sn) (sub:=sub) (ab:=ab) (col:=col) (dd:=dd) (k0:=k0) (k1:=k1) (k2:=k2) (k3:=k3) (k5:=k5) (mN:=mN)
  PySem.F.excBase_ValueError (by decide) PySem.F.excBase_ValueError (TL.hasType (by decide)) (I.ok.hd rfl) (by rw [he]; exact hpl) hni (ld_glob I hg T.mgE ⟨rfl,?_⟩ hdb)
 have hw:=ha cpos pins s1 σ H1 _ I h
 rw [he] at hw ⊢
 refine Calls.evalArgs_plain (thn hw fun us s2 ⟨vs,H2,I2,r,hl,hq⟩=>⟨rfl,?_,I2.bk _ _ hC,hN.keeps I2.bk,TL.keeps I2.bk,fun h' e m=>throwX I2 m hq⟩)
 show us.length≤sizeLine
 rw [← r.length]; exact hl
abbrev Cx.marked (X:Cx) (e:Addr):Cx:={ X with A:=X.A.mark (some (.ref e)),calm:=false,xe:=fun _ _=>False }
section
variable {X:Cx} {pins:List (Addr × Obj)} {σ:St} {H:Hp} {s:Shared} {e:Addr}
theorem Inv.marked (I:Inv X pins σ H s) (e:Addr):Inv (X.marked e) pins σ H s :=
 ⟨⟨I.ok.mod,I.ok.kind,I.ok.glob,I.ok.blt,I.ok.above,I.ok.inj,I.ok.has,I.ok.cab,fun z=>absurd z (by simp),I.ok.frames,I.ok.stk,I.ok.exf,I.ok.bs,I.ok.bsz,I.ok.noex,I.ok.exfs,I.ok.funs,I.ok.frf⟩,
  I.os,I.bare,I.base,I.loc,I.cell,I.free,I.freeC,I.pin,I.hok,I.len⟩
theorem Inv.unmarked (ok:X.Ok) (I:Inv (X.marked e) pins σ H s):Inv X pins σ H s :=
 ⟨ok,I.os,I.bare,I.base,I.loc,I.cell,I.free,I.freeC,I.pin,I.hok,I.len⟩
theorem SP.unmarked (ok:X.Ok) {D:Ends} {f:Flow} {s':Shared} (h:SP (X.marked e) pins D f s'):SP X pins D f s':=by
 cases f with
 | next=>obtain ⟨σ',H',I,q⟩:=h; exact ⟨σ',H',I.unmarked ok,q⟩
 | brk=>obtain ⟨σ',H',I,q⟩:=h; exact ⟨σ',H',I.unmarked ok,q⟩
 | cont=>obtain ⟨σ',H',I,q⟩:=h; exact ⟨σ',H',I.unmarked ok,q⟩
 | ret u=>obtain ⟨v,σ',H',I,r,q⟩:=h; exact ⟨v,σ',H',I.unmarked ok,r,q⟩
end
abbrev TX:=Ends→XK→St→Hp→Prop
def FlewAt (X:Cx) (C:Addr) (pins:List (Addr × Obj)) (σ:St) (E:XK) (v:Value) (s':Shared):Prop:=∃ s1 H1,Inv X pins σ H1 s1∧CX1 X.prog X.w C X.stack H1 s1 E v s'
def PXS (X:Cx) (C:Addr) (st:Stmt) (t:TX):Prop :=
 ∀ (pins:List (Addr × Obj)) (s:Shared) (σ:St) (H:Hp) (D:Ends) (E:XK),Inv X pins σ H s→t D E σ H→wpAny (model X.prog X.w) X.A (exec st X.env) (SP X pins D) (FlewAt X C pins σ E) s
def PXE (X:Cx) (C:Addr) (e:Expr) (t:St→Hp→VK→XK→Prop):Prop :=
 ∀ (pins:List (Addr × Obj)) (s:Shared) (σ:St) (H:Hp) (Q:VK) (E:XK),Inv X pins σ H s→t σ H Q E→wpAny (model X.prog X.w) X.A (eval e X.env) (EP X pins σ Q) (FlewAt X C pins σ E) s
def tCallX (sp:Sp) (dvs:List V) (t:TA):St→Hp→VK→XK→Prop:=fun σ H Q E=>t σ H fun vs H1=>sp (vs ++ dvs) H1 Q E
section
variable {X:Cx} {k:Nat} {f C:Addr} {fd:FuncData} {ps:List Str} {sp:Sp} {dvs:List V} {ds:List Value} {x:Str} {p pos:Pos} {e:Expr} {es:List Expr} {t:TA}
theorem px_call (F:FnOk X.prog X.w X.K X.mg X.base (CX1 X.prog X.w C) k f fd ps sp) (hr:Room k X.A) (hg:Gl X x) (hm:X.mg x=some (.ref f)) (hk:PySem.W.keepIn X.K (.ref f)=true) (hb:Binds X.K fd ps ds) (hd:Vals dvs ds)
  (ha:PA X.nox (e :: es) t) (hdb:(x == ("__debug__":Str))=false:=by decide) (he:starEach (e :: es) X.env=(false,eval e X.env) :: starEach es X.env:=by rfl) (hpl:(backTo pos (starEach es X.env)).any (·.1)=false:=by rfl) :
  PXE X C (.Call (.Name x p) (e :: es) [] pos) (tCallX sp dvs t):=by
 intro pins s σ H Q E I h
 refine wpAny_Call_Name_kw (ld_glob I hg hm ?_ hdb)
 refine PySem.W.callWith_K (h₀:=X.base) I.ok.mod.kin hk (wpAny_mono (ha pos pins s σ H _ (I.wish _) h) (fun us s1 ⟨vs,H1,I1',r,q⟩=>?_) fun _ _ z=>False.elim z) he hpl
 have I1:=I1'.unwish
 refine ⟨I1.kIn,?_⟩
 have r2:Vals (vs ++ dvs) (us ++ ds):=r.append hd
 have hl:(us ++ ds).length=ps.length:=by rw [← r2.length]; exact F.len _ _ _ _ q
 refine wpAny_call (codeAny_mono (F.run X.A X.stack s1 H1 ⟨us,[]⟩ (us ++ ds) (vs ++ dvs) Q E hr I1.env0 (hb s1 us I1.kIn hl) r2 q) fun r s' hq=>?_)
 cases r with
 | error v=>exact ⟨s1,H1,I1,hq⟩
 | ok fl =>
  cases fl with
  | ret u=>exact I1.after hq
  | next=>exact False.elim hq
  | brk=>exact False.elim hq
  | cont=>exact False.elim hq
theorem pxs_set {i:Nat} {y:Str} {pos':Pos} {te:St→Hp→VK→XK→Prop} (hN:X.N.Nodup) (hi:X.N[i]?=some y) (hx:Loc X.env.scope y) (he:PXE X C e te) (hs:swapsWith e (some (.Name y pos')) pos.line X.env=pure false:=by rfl)
  (hf:X.fn y=true∨X.env.scope.names.lookup y=some .local:=by first | exact .inl rfl | exact .inr rfl | assumption):PXS X C (.Assign [.Name y pos'] e pos) (fun D E σ H=>te σ H (fun v H1=>D.nx (σ.set i (some v)) H1) E):=by
 intro pins s σ H D E I h
 refine wpAny_Assign_Name (thn (he pins s σ H _ E I h) fun v s1 ⟨z,H1,I1,r1,q1⟩=>?_) hs
 exact store_ok I1 hN hi hx r1 (fun s2 I2=>⟨_,H1,I2,q1⟩) hf
theorem caught {x:Str} {np hpos:Pos} {b0:Stmt} {suite:List Stmt} {ts:Addr→TS} {pins:List (Addr × Obj)} {σ:St} {D:Ends} {v:Value} {s':Shared} (T:Exc X.K X.mg x C) (hg:Gl X x) (hst:X.stack=X.env :: X.outer∧X.env.frame=some X.env.locals)
  (hs:∀ e,PSs (X.marked e) (b0 :: suite) (ts e)) (h:FlewAt X C pins σ (fun _ _ H1=>∀ e,ts e D σ H1) v s') (hdb:(x == ("__debug__":Str))=false:=by decide) :
  wpAny (model X.prog X.w) X.A (noteFrame v X.env) (fun _ s₂=>wpAny (model X.prog X.w) X.A (setFlight v none) (fun _ s₃ =>
   wpAny (model X.prog X.w) X.A (handleBy v X.env [.ExceptHandler (some (.Name x np)) none (b0 :: suite) hpos]) (SP X pins D) X.xe s₃) X.xe s₂) X.xe s':=by
 obtain ⟨s1,H1,I,e,T0,H',rfl,os,bare,F,hq⟩:=h
 have J:=I.flown os bare F
 obtain ⟨a0,tr⟩:=F.fly.traced (l:=X.stack)
 have hfr:X.A.frames=some (X.env :: X.outer):=by rw [← hst.1]; exact J.ok.frames
 have fl0:Heap.FlyingW (cover s'.heap X.stack e T0) (X.env :: X.outer) e (.ref C) a0 s'.heap:=⟨cover_stays,cover_e,by rw [← hst.1]; exact cover_frames J.stack,tr⟩
 refine wpAny_looks_onW hfr hst.2 fl0 fun h4 held4 up4=>?_
 refine wpAny_landsW held4 fun h5 fl5 up5'=>?_
 have up5:=up4.trans up5'
 obtain ⟨T5,F5⟩:=flown_on F.un F.hok F.ne F.nT F.fe F.fT J.stack J.stkFree fl5 up5
 have I5:Inv X pins σ H' { s' with heap:=h5 }:=I.flown (s':={ s' with heap:=h5 }) os bare F5
 obtain ⟨ob,hob,hobc⟩:=fl5.there
 obtain ⟨bm,N',nm,q,bs,hdct,sn,sub,ab,col,dd,k0,k1,k2,k3,k5,mN,hC,hN,hni,TL⟩:=(T.obj I5.kIn).obj
 refine wpAny_handleBy_cons (codeAny_handlers_test ?_) (by intro q; cases q)
 refine ld_glob (I5.marked e) hg T.mgE ?_ hdb
 refine wpAny_excMatches_sub_self hC hob hobc (TL.hasType (by decide)) (codeAny_handlers_suite ?_)
 refine lands_againW fl5 fun h6 fl6 up6=>?_
 obtain ⟨T6,F6⟩:=flown_on F.un F.hok F.ne F.nT F.fe F.fT J.stack J.stkFree fl6 (up5.trans up6)
 have I6:Inv X pins σ H' { s' with heap:=h6 }:=I.flown (s':={ s' with heap:=h6 }) os bare F6
 exact wpAny_mono (hs e pins _ σ H' D (I6.marked e) (hq e)) (fun f s2 q=>q.unmarked I6.ok) fun _ _ z=>False.elim z
theorem ps_try {st:Stmt} {tx:TX} {x:Str} {np hpos:Pos} {b0:Stmt} {suite:List Stmt} {ts:Addr→TS} (T:Exc X.K X.mg x C) (hg:Gl X x) (hb:PXS X C st tx) (hs:∀ e,PSs (X.marked e) (b0 :: suite) (ts e))
  (hst:X.stack=X.env :: X.outer∧X.env.frame=some X.env.locals:=by exact ⟨rfl,rfl⟩) (hdb:(x == ("__debug__":Str))=false:=by decide) :
  PS X (.Try [st] [.ExceptHandler (some (.Name x np)) none (b0 :: suite) hpos] [] [] pos) (fun D σ H=>tx D (fun _ _ H1=>∀ e,ts e D σ H1) σ H):=by
 intro pins s σ H D I h
 refine wpAny_Try_except (wpAny_execs_cons (wpAny_mono (hb pins s σ H D _ I h) (fun f s1 q=>?_) fun v s1 q=>caught T hg hst hs q hdb))
 cases f with
 | next=>exact wpAny_execs_nil (wpAny_execs_nil q)
 | ret v=>exact q
 | brk=>exact q
 | cont=>exact q
end
end L2
end
section
namespace L2
open PySem PySem.Spec PyProof.Rows PySem.Calls
section
variable {X:Cx}
def tFv (te:TE):TE:=fun σ H Q=>te σ H fun v H1=>∃ i:Int,v=.int i∧i.natAbs.log2 < 1920∧Q (.str (toString i)) H1
theorem pe_fv {e:Expr} {te:TE} {pos:Pos} (he:PE X e te):PE X (.FormattedValue e (-1) none pos) (tFv te):=by
 intro pins s σ H Q I h
 refine FormattedValue_plain (thn (he pins s σ H _ I h) fun u s1 ⟨v,H1,I1,r,i,e,hi,q⟩=>?_)
 subst e
 obtain ⟨t,rfl⟩:=r
 exact formatField_int_small hi ⟨.str (toString i),H1,I1.tok _,⟨_,rfl⟩,q⟩
def tJoin:List TE→Str→TE
 | [],acc=>fun _ H Q=>acc.length≤sizeLine∧Q (.str acc) H
 | t :: ts,acc=>fun σ H Q=>t σ H fun v H1=>∃ x,v=.str x∧(acc ++ x).length≤sizeLine∧tJoin ts (acc ++ x) σ H1 Q
inductive PEs (X:Cx):List Expr→List TE→Prop
 | nil:PEs X [] []
 | cons {e:Expr} {t:TE} {es:List Expr} {ts:List TE}:PE X e t→PEs X es ts→PEs X (e :: es) (t :: ts)
theorem joinT {es:List Expr} {ts:List TE} (h:PEs X es ts):∀ (acc:Str) {pins:List (Addr × Obj)} {s:Shared} {σ:St} {H:Hp} {Q:VK},Inv X pins σ H s→tJoin ts acc σ H Q →
  wpAny (model X.prog X.w) X.A (joinParts acc (evalEach es X.env)) (EP X pins σ Q) X.xe s:=by
 induction h with
 | nil =>
  intro acc pins s σ H Q I ⟨hz,q⟩
  exact joinParts_nil ⟨.str acc,H,I.tok _,⟨_,rfl⟩,q⟩ hz
 | cons he hs ih =>
  intro acc pins s σ H Q I h
  refine joinParts_cons (thn (he pins s σ H _ I h) fun u s1 ⟨v,H1,I1,r,x,e,hx,q⟩=>?_)
  subst e
  obtain ⟨t,rfl⟩:=r
  exact ⟨hx,ih _ I1 q⟩
theorem pe_fstr {e1 e2:Expr} {es:List Expr} {ts:List TE} {pos:Pos} (h:PEs X (e1 :: e2 :: es) ts):PE X (.JoinedStr (e1 :: e2 :: es) pos) (tJoin ts Str.empty):=by
 intro pins s σ H Q I q
 exact JoinedStr_many (joinT h _ I q)
end
end L2
end
section
set_option maxRecDepth 100000
namespace L2
open PySem PySem.Spec PyProof.Rows
section
variable {P:Program} {w:World} {K:PySem.W.Frag} {mg:Str→Option Value} {base:Heap}
theorem Fun.okE {x qual:Str} {st:Stmt} {f C:Addr} {fd:FuncData} {N ps:List Str} {k:Nat} {sp:Sp} (F:Fun K x qual st f fd) (S:FnScope N ps (defScope st)) (len:∀ vs H Q E,sp vs H Q E→vs.length=ps.length)
  (hbody:∀ (cdv:Value) (A:Around) (outer:List Env) (s:Shared) (H:Hp) (vs:List V) (Q:VK) (E:XK),Room k (A.deeper (envOfC qual (defScope st) s.heap.objs.size f cdv))→sp vs H Q E →
   ∃ t,PSs (cxE P w K mg base C N qual (defScope st) f cdv A outer s H E) (defBody st) t∧t { nx:=fun _ H'=>Q .non H',rt:=Q } (start N vs) H):FnOk P w K mg base (CX1 P w C) (k + 1) f fd ps sp:=by
 obtain ⟨oc,od,kV,doc,pm,an,cdv,ct,osl,rfl,lk,hcd⟩:=F.ex
 exact fn_of lk hcd S len fun A outer s H vs Q E hr hsp=>hbody cdv A outer s H vs Q E hr hsp
end
structure FnC (P:Program) (w:World) (K:PySem.W.Frag) (mg:Str→Option Value) (base:Heap) (CX:CXT) (k:Nat) (x:Str) (ps:List Str) (sp:Sp):Prop where
 ex:∃ f fd,mg x=some (.ref f)∧PySem.W.keepIn K (.ref f)=true∧Binds K fd ps []∧FnOk P w K mg base CX k f fd ps sp
structure MethC (P:Program) (w:World) (K:PySem.W.Frag) (mg:Str→Option Value) (base:Heap) (CX:CXT) (k:Nat) (C:Addr) (m:Str) (ps:List Str) (sp:Sp):Prop where
 ex:∃ f fd,Meth K C m f∧Binds K fd ps []∧FnOk P w K mg base CX k f fd ps sp
structure MakeC (P:Program) (w:World) (K:PySem.W.Frag) (mg:Str→Option Value) (base:Heap) (CX:CXT) (k:Nat) (C:Addr) (x:Str) (ps:List Str) (sp:Sp):Prop where
 ex:∃ f fd,mg x=some (.ref C)∧Mk K C f∧Binds K fd ps []∧FnOk P w K mg base CX k f fd ps sp
section
variable {X:Cx} {CX:CXT} {j k:Nat} {C:Addr} {ps:List Str} {sp:Sp} {E:XK} {x m:Str} {p pos apos:Pos} {e o:Expr} {es:List Expr} {ta:TE} {t:TA}
theorem pe_callC (c:FnC X.prog X.w X.K X.mg X.base CX j x ps sp) (hr:Room k X.A) (hx:Passes CX X E) (ha:PA X (e :: es) t) (hjk:j≤k:=by decide) (hg:Gl X x:=by rfl)
  (hdb:(x == ("__debug__":Str))=false:=by decide) (he:starEach (e :: es) X.env=(false,eval e X.env) :: starEach es X.env:=by rfl) (hpl:(backTo pos (starEach es X.env)).any (·.1)=false:=by rfl) :
  PE X (.Call (.Name x p) (e :: es) [] pos) (tCall sp [] E t):=by
 obtain ⟨f,fd,hm,hk,hb,F⟩:=c.ex
 exact pe_call F (hr.mono hjk) hg hm hk hb .nil hx ha hdb he hpl
theorem px_callC (c:FnC X.prog X.w X.K X.mg X.base (CX1 X.prog X.w C) j x ps sp) (hr:Room k X.A) (ha:PA X.nox (e :: es) t) (hjk:j≤k:=by decide) (hg:Gl X x:=by rfl)
  (hdb:(x == ("__debug__":Str))=false:=by decide) (he:starEach (e :: es) X.env=(false,eval e X.env) :: starEach es X.env:=by rfl) (hpl:(backTo pos (starEach es X.env)).any (·.1)=false:=by rfl) :
  PXE X C (.Call (.Name x p) (e :: es) [] pos) (tCallX sp [] t):=by
 obtain ⟨f,fd,hm,hk,hb,F⟩:=c.ex
 exact px_call F (hr.mono hjk) hg hm hk hb .nil ha hdb he hpl
theorem pe_methC {pl:Sem Bool} (he:PE X o ta) (c:Cls X.K C) (F:MethC X.prog X.w X.K X.mg X.base CX j C m ps sp) (hr:Room k X.A) (hx:Passes CX X E) (ha:PA X (e :: es) t) (hjk:j≤k:=by decide)
  (hst:starEach (e :: es) X.env=(false,eval e X.env) :: starEach es X.env:=by rfl) (hpl:(backTo pos (starEach es X.env)).any (·.1)=false:=by rfl)
  (ht:eval (.Call (.Attribute o m apos) (e :: es) [] pos) X.env=(do
   let ov ← eval o X.env
   standAt apos.atName
   let (f,first) ← holding [ov] (getMethod ov m pl)
   callWith pos f first (backTo pos (starEach (e :: es) X.env)) (backToKw pos (keywordEach [] X.env))):=by rfl) :
  PE X (.Call (.Attribute o m apos) (e :: es) [] pos) (tMeth C m sp [] E ta t):=by
 obtain ⟨f,fd,hm,hb,F⟩:=F.ex
 exact pe_meth he c hm F (hr.mono hjk) hb .nil hx ha hst hpl ht
theorem pe_methC0 {pl:Sem Bool} (he:PE X o ta) (c:Cls X.K C) (F:MethC X.prog X.w X.K X.mg X.base CX j C m ps sp) (hr:Room k X.A) (hx:Passes CX X E) (hjk:j≤k:=by decide)
  (ht:eval (.Call (.Attribute o m apos) [] [] pos) X.env=(do
   let ov ← eval o X.env
   standAt apos.atName
   let (f,first) ← holding [ov] (getMethod ov m pl)
   callWith pos f first (backTo pos (starEach [] X.env)) (backToKw pos (keywordEach [] X.env))):=by rfl) :
  PE X (.Call (.Attribute o m apos) [] [] pos) (tMeth C m sp [] E ta tNil):=by
 obtain ⟨f,fd,hm,hb,F⟩:=F.ex
 exact pe_meth0 he c hm F (hr.mono hjk) hb .nil hx ht
theorem pe_makeC (c:MakeC X.prog X.w X.K X.mg X.base CX j C x ps sp) (hr:Room k X.A) (hx:Passes CX X E) (ha:PA X (e :: es) t) (hjk:j + 1≤k:=by decide) (hg:Gl X x:=by rfl)
  (hdb:(x == ("__debug__":Str))=false:=by decide) (he:starEach (e :: es) X.env=(false,eval e X.env) :: starEach es X.env:=by rfl) (hpl:(backTo pos (starEach es X.env)).any (·.1)=false:=by rfl) :
  PE X (.Call (.Name x p) (e :: es) [] pos) (tMake C sp [] E t):=by
 obtain ⟨f,fd,hm,M,hb,F⟩:=c.ex
 exact pe_make M F (hr.mono hjk) hg hm hb .nil hx ha hdb he hpl
theorem pe_gint {i:Int} (h:∃ u,X.mg x=some (.int i u)) (hg:Gl X x:=by rfl) (hd:(x == ("__debug__":Str))=false:=by decide):PE X (.Name x pos) (tC (.int i)):=by
 obtain ⟨u,h⟩:=h
 exact pe_glob hg h ⟨u,rfl⟩ hd
theorem pe_gref {a:Addr} (h:X.mg x=some (.ref a)) (hg:Gl X x:=by rfl) (hd:(x == ("__debug__":Str))=false:=by decide):PE X (.Name x pos) (tC (.ref a)):=pe_glob hg h (show RelV (.ref a) (.ref a) from rfl) hd
end
def Kp (S:List Addr) (H H':Hp):Prop:=∀ b o,H b=some o→b ∉ S→H' b=some o
theorem Kp.refl {S:List Addr} {H:Hp}:Kp S H H:=fun _ _ e _=>e
theorem Kp.trans {S:List Addr} {H H1 H2:Hp} (a:Kp S H H1) (b:Kp S H1 H2):Kp S H H2:=fun c o e n=>b c o (a c o e n) n
theorem Kp.mono {S S':List Addr} {H H1:Hp} (a:Kp S H H1) (h:∀ b ∈ S,b ∈ S'):Kp S' H H1:=fun c o e n=>a c o e fun z=>n (h c z)
theorem Kp.put {S:List Addr} {H:Hp} {a:Addr} {o:HO} (h:a ∈ S):Kp S H (upd H a o):=fun c u e n=>by
 have z:c≠a:=fun z=>n (by rw [z]; exact h)
 rw [upd_ne z]; exact e
theorem Kp.new {S:List Addr} {H:Hp} {a:Addr} {o:HO} (h:H a=none):Kp S H (upd H a o):=fun c u e n=>by rw [upd_ne (ne_of_none e h)]; exact e
theorem Kp.put2 {S:List Addr} {H H1:Hp} {a:Addr} {o:HO} (k:Kp S H H1) (h:a ∈ S∨H a=none):Kp S H (upd H1 a o):=fun c u e n=>by
 have z:c≠a:=fun z=>by
  subst z
  rcases h with h | h
  ·exact n h
  ·rw [h] at e; cases e
 rw [upd_ne z]; exact k c u e n
theorem Kp.free {S:List Addr} {H H1:Hp} (k:Kp S H H1) {a:Addr} (n:a ∉ S) (h:H1 a=none):H a=none:=by
 cases q:H a with
 | none=>rfl
 | some o=>rw [k a o q n] at h; cases h
theorem Kp.seq {K:PySem.W.Frag} {S:List Addr} {H H':Hp} {a:Addr} {xs:List V} (e:Kp S H H') (n:a ∉ S) (h:SqL K H a xs):SqL K H' a xs:=by
 rcases h with (h | ⟨o,h⟩) | h
 ·exact .inl (.inl (e _ _ h n))
 ·exact .inl (.inr ⟨o,e _ _ h n⟩)
 ·exact .inr h
end L2
end
section
set_option maxRecDepth 100000
namespace L2
open PySem PySem.Spec PyProof.Rows
section
variable {X:Cx} {CX:CXT} {j k:Nat} {ps:List Str} {sp:Sp} {E:XK} {x y:Str} {p pos:Pos} {e:Expr} {es:List Expr} {t:TA}
def tCallL (i:Nat) (f:Addr) (u:TE):TE:=fun σ H Q=>σ[i]?=some (some (V.ref f))∧u σ H Q
theorem pe_callL (i:Nat) {f:Addr} (c:FnC X.prog X.w X.K X.mg X.base CX j y ps sp) (hm:X.mg y=some (.ref f)) (hr:Room k X.A) (hx:Passes CX X E) (ha:PA X (e :: es) t) (hjk:j≤k:=by decide)
  (hN:X.N[i]?=some x:=by rfl) (hv:Vis X.env.scope x:=by first | exact Or.inl rfl | exact Or.inr (Or.inl rfl) | exact Or.inr (Or.inr rfl)) (hd:(x == ("__debug__":Str))=false:=by decide) (hcd:(x == ("__classdict__":Str))=false:=by decide)
  (he:starEach (e :: es) X.env=(false,eval e X.env) :: starEach es X.env:=by rfl) (hpl:(backTo pos (starEach es X.env)).any (·.1)=false:=by rfl) :
  PE X (.Call (.Name x p) (e :: es) [] pos) (tCallL i f (tCall sp [] E t)):=by
 obtain ⟨f',fd,hm',hk,hb,F⟩:=c.ex
 rw [hm] at hm'
 cases hm'
 intro pins s σ H Q I h
 refine wpAny_Call_Name_kw (thn (pe_var (pos:=p) hN hv hd hcd pins s σ H (fun v H'=>v=V.ref f∧tCall sp [] E t σ H' Q) I ⟨_,h.1,rfl,h.2⟩) fun u s1 ⟨v,H1,I1,r,ev,q⟩=>?_)
 subst ev
 have r:u=.ref f:=by cases r; rfl
 subst r
 refine PySem.W.callWith_K (h₀:=X.base) I1.ok.mod.kin hk (thn (ha pos pins s1 σ H1 _ I1 q) fun us s2 ⟨vs,H2,I2,r,q⟩=>⟨I2.kIn,?_⟩) he hpl
 exact run_fn F (hr.mono hjk) hb .nil hx I2 r q
end
end L2
end
section
namespace Vp
open Vh VhPage
def pk (bs:List UInt8) (p:Nat):Int:=match bs[p]? with | some c=>(c.toNat:Int) | none=>256
theorem pk_lt (bs:List UInt8) (p:Nat):0≤pk bs p∧pk bs p≤256:=by
 unfold pk
 split
 ·rename_i c _; have:=c.toNat_lt; omega
 ·omega
theorem head_drop (bs:List UInt8) (p:Nat):(bs.drop p).head?=bs[p]?:=by rw [List.head?_drop]
theorem drop_drop1 (bs:List UInt8) (p:Nat):(bs.drop p).drop 1=bs.drop (p + 1):=by rw [List.drop_drop]
theorem pk_some {bs:List UInt8} {p:Nat} {c:UInt8} (h:bs[p]?=some c):pk bs p=c.toNat:=by unfold pk; rw [h]
theorem pk_eq {bs:List UInt8} {p:Nat} {c:UInt8}:pk bs p=c.toNat↔bs[p]?=some c:=by
 unfold pk
 cases h:bs[p]? with
 | none =>
  have:=c.toNat_lt
  constructor
  ·intro z; simp at z; omega
  ·intro z; cases z
 | some d =>
  constructor
  ·intro z
   have:d.toNat=c.toNat:=by
    have z':(d.toNat:Int)=c.toNat:=z
    omega
   rw [UInt8.toNat_inj.mp this]
  ·intro z; cases z; rfl
theorem pk_none {bs:List UInt8} {p:Nat}:pk bs p=256↔bs[p]?=none:=by
 unfold pk
 cases h:bs[p]? with
 | none=>simp
 | some d =>
  have:=d.toNat_lt
  simp
  omega
theorem byte_ok {bs:List UInt8} {p:Nat} {c:UInt8} (h:pk bs p=c.toNat):byte_ c p (bs.drop p)=.ok ((),p + 1,bs.drop (p + 1)):=by
 unfold byte_ byNext
 rw [head_drop,pk_eq.mp h]
 dsimp only
 rw [if_pos rfl]
 unfold behind gives
 rw [drop_drop1]
theorem byte_no {bs:List UInt8} {p:Nat} {c:UInt8} (h:¬ pk bs p=c.toNat):byte_ c p (bs.drop p)=.error p:=by
 unfold byte_ byNext
 rw [head_drop]
 dsimp only
 rw [if_neg (fun z=>h (pk_eq.mpr z))]
 rfl
theorem then_ok {α β:Type} {r:Rd α} {f:α→Rd β} {p p':Nat} {b b':Bytes} {x:α} (h:r p b=.ok (x,p',b')):andThen r f p b=f x p' b':=by unfold andThen; rw [h]
theorem then_no {α β:Type} {r:Rd α} {f:α→Rd β} {p i:Nat} {b:Bytes} (h:r p b=.error i):andThen r f p b=.error i:=by unfold andThen; rw [h]
theorem leads_true {lo hi v k:Nat} (hv:v≠0) (h1:v * 10 ^ k≤hi) (h2:lo < (v + 1) * 10 ^ k) (h3:hi < 10 ^ 11):leadsTo lo hi v=true:=by
 unfold leadsTo
 rw [if_neg hv,List.any_eq_true]
 have hk:k < 12:=by
  apply Decidable.byContradiction
  intro hk
  have h4:10 ^ 11≤10 ^ k:=Nat.pow_le_pow_right (by omega) (by omega)
  have h5:1 * 10 ^ k≤v * 10 ^ k:=Nat.mul_le_mul_right _ (by omega)
  omega
 exact ⟨k,List.mem_range.mpr hk,by simp [h1,h2]⟩
theorem leads_false {lo hi v k:Nat} (hv:v≠0) (h:∀ j,j < k→¬ (v * 10 ^ j≤hi∧lo < (v + 1) * 10 ^ j)) (h1:hi < v * 10 ^ k):leadsTo lo hi v=false:=by
 unfold leadsTo
 rw [if_neg hv,List.any_eq_false]
 intro j _ q
 have q':v * 10 ^ j≤hi∧lo < (v + 1) * 10 ^ j:=by simpa using q
 by_cases hj:j < k
 ·exact h j hj q'
 ·have h4:10 ^ k≤10 ^ j:=Nat.pow_le_pow_right (by omega) (by omega)
  have h5:=Nat.mul_le_mul_left v h4
  omega
theorem leads_zero {lo hi:Nat}:leadsTo lo hi 0=(lo == 0):=by unfold leadsTo; rw [if_pos rfl]
def dig (bs:List UInt8) (lo hi v p:Nat):Option Nat:=if 48≤pk bs p∧pk bs p≤57∧leadsTo lo hi (v * 10 + (pk bs p - 48).toNat)=true then some (v * 10 + (pk bs p - 48).toNat) else none
theorem isDigit_iff {c:UInt8}:isDigit c=true↔48≤c.toNat∧c.toNat≤57:=by
 unfold isDigit
 rw [Bool.and_eq_true,decide_eq_true_eq,decide_eq_true_eq,UInt8.le_iff_toNat_le,UInt8.le_iff_toNat_le]
 exact Iff.rfl
theorem digits_succ (lo hi f:Nat) (v:Option Nat) (bs:List UInt8) (p:Nat) (hv:v≠some 0):digits lo hi (f + 1) v p (bs.drop p)=match dig bs lo hi (v.getD 0) p with
  | some n=>digits lo hi f (some n) (p + 1) (bs.drop (p + 1))
  | none=>match v with
   | some n=>if lo≤n∧n≤hi then .ok (n,p,bs.drop p) else .error p
   | none=>.error p:=by
 rw [Vh.digits.eq_def]
 dsimp only
 unfold byNext
 rw [head_drop]
 have key:((bs[p]?).bind fun (c:UInt8)=>if isDigit c=false∨v=some 0 then none else if leadsTo lo hi (10 * v.getD 0 + (c.toNat - 48))=true then some (10 * v.getD 0 + (c.toNat - 48)) else none)=dig bs lo hi (v.getD 0) p:=by
  unfold dig pk
  cases h:bs[p]? with
  | none =>
   simp only [Option.bind_none]
   rw [if_neg (by omega)]
  | some c =>
   simp only [Option.bind_some]
   by_cases hd:isDigit c=true
   ·have hd':=isDigit_iff.mp hd
    rw [if_neg (by simp [hd,hv])]
    have e1:((c.toNat:Int) - 48).toNat=c.toNat - 48:=by omega
    rw [e1,Nat.mul_comm 10]
    by_cases hl:leadsTo lo hi (v.getD 0 * 10 + (c.toNat - 48))=true
    ·rw [if_pos hl,if_pos ⟨by omega,by omega,hl⟩]
    ·rw [if_neg hl,if_neg (fun z=>hl z.2.2)]
   ·rw [if_pos (by simp [hd]),if_neg (fun z=>hd (isDigit_iff.mpr ⟨by omega,by omega⟩))]
 dsimp only
 rw [key]
 cases dig bs lo hi (v.getD 0) p with
 | some n=>dsimp only; unfold behind; rw [drop_drop1]
 | none =>
  dsimp only
  cases v with
  | none=>rfl
  | some n =>
   dsimp only
   split <;> rfl
theorem digits_zero (lo hi f:Nat) (bs:List UInt8) (p:Nat):digits lo hi (f + 1) (some 0) p (bs.drop p)=if lo=0 then .ok (0,p,bs.drop p) else .error p:=by
 rw [Vh.digits.eq_def]
 dsimp only
 unfold byNext
 rw [head_drop]
 have key:((bs[p]?).bind fun (c:UInt8)=>if isDigit c=false∨some 0=some 0 then none else if leadsTo lo hi (10 * (some 0).getD 0 + (c.toNat - 48))=true then some (10 * (some 0).getD 0 + (c.toNat - 48)) else none)=none:=by
  cases bs[p]? with
  | none=>rfl
  | some c=>simp
 dsimp only
 rw [key]
 dsimp only
 by_cases h:lo=0
 ·rw [if_pos ⟨by omega,by omega⟩,if_pos h]; rfl
 ·rw [if_neg (by omega),if_neg h]; rfl
theorem leads_le {lo hi v:Nat} (h:leadsTo lo hi v=true):v≤hi:=by
 unfold leadsTo at h
 split at h
 ·omega
 ·rw [List.any_eq_true] at h
  obtain ⟨k,_,hk⟩:=h
  rw [Bool.and_eq_true,decide_eq_true_eq] at hk
  have:v * 1≤v * 10 ^ k:=Nat.mul_le_mul_left _ (Nat.one_le_pow _ _ (by omega))
  omega
structure NumAt (bs:List UInt8) (lo hi p0 v p f:Nat):Prop where
 eq:num lo hi p0 (bs.drop p0)=digits lo hi f (some v) p (bs.drop p)
 le:v≤hi
 big:10 ^ 20≤v * 10 ^ f * 10
theorem num_first {bs:List UInt8} {lo hi p v:Nat} (h:dig bs lo hi 0 p=some v):num lo hi p (bs.drop p)=digits lo hi 19 (some v) (p + 1) (bs.drop (p + 1)):=by
 unfold num
 rw [digits_succ lo hi 19 none bs p (by simp)]
 show (match dig bs lo hi 0 p with | some n=>_ | none=>_)=_
 rw [h]
theorem num_none {bs:List UInt8} {lo hi p:Nat} (h:dig bs lo hi 0 p=none):num lo hi p (bs.drop p)=.error p:=by
 unfold num
 rw [digits_succ lo hi 19 none bs p (by simp)]
 show (match dig bs lo hi 0 p with | some n=>_ | none=>_)=_
 rw [h]
theorem dig_le {bs:List UInt8} {lo hi v p n:Nat} (h:dig bs lo hi v p=some n):n≤hi∧v * 10≤n∧leadsTo lo hi n=true:=by
 unfold dig at h
 split at h
 ·rename_i z
  cases h
  exact ⟨leads_le z.2.2,by omega,z.2.2⟩
 ·cases h
def marksI:List Int:=[124,47,40,41,91,93,60,62,123,125,61,43,126,94,35,34]
def isL (n:Int):Bool:=!(decide (n < 33) || (decide (127≤n) && decide (n≤159)) || marksI.contains n) && decide (n % 65536 < 65534)
def sizeL (n:Int):Int:=if n < 128 then 1 else if 194≤n∧n≤223 then 2 else if 224≤n∧n≤239 then 3 else if 240≤n∧n≤244 then 4 else 0
def blo (n:Int):Int:=if n=224 then 160 else if n=240 then 144 else 128
def bhi (n:Int):Int:=if n=237 then 159 else if n=244 then 143 else 191
theorem isL_big {v:Nat} (h:160≤v):isL (v:Int)=decide (v % 65536 < 65534):=by
 unfold isL
 have h1:marksI.contains (v:Int)=false:=by
  rw [List.contains_eq_any_beq,List.any_eq_false]
  intro x hx
  have:x≤127:=by
   revert x
   decide
  simp; omega
 rw [h1,decide_eq_false (show ¬ (v:Int) < 33 by omega),decide_eq_false (show ¬ (v:Int)≤159 by omega)]
 simp
 constructor <;> intro z <;> omega
theorem isL_mid {v:Nat} (h1:128≤v) (h2:v≤159):isL (v:Int)=false:=by
 unfold isL
 rw [decide_eq_true (show 127≤(v:Int) by omega),decide_eq_true (show (v:Int)≤159 by omega)]
 simp
theorem isL_low {c:UInt8} (h:c.toNat < 128):isL (c.toNat:Int)=isLetter c.toNat:=by
 have key:∀ n,n < 128→isL ((n:Nat):Int)=isLetter n:=by decide +kernel
 exact key _ h
theorem tail_eq (bs:List UInt8) (lo hi p:Nat) (h1:128≤lo) (h:hi≤255):tail_ lo hi p (bs.drop p)=if (lo:Int)≤pk bs p∧pk bs p≤hi then .ok ((pk bs p).toNat - 128,p + 1,bs.drop (p + 1)) else .error p:=by
 unfold tail_ byNext
 rw [head_drop]
 unfold pk
 cases e:bs[p]? with
 | none =>
  dsimp only
  rw [if_neg (by omega)]
  rfl
 | some c =>
  dsimp only
  by_cases q:lo≤c.toNat∧c.toNat≤hi
  ·rw [if_pos q,if_pos (by omega)]
   unfold behind gives
   rw [drop_drop1]
   rfl
  ·rw [if_neg q,if_neg (by omega)]
   rfl
def longR (bs:List UInt8):Nat→Nat→Int→Int→Nat→Except Nat (Nat × Nat)
 | 0,v,_,_,p=>.ok (v,p)
 | n + 1,v,lo,hi,p=>if lo≤pk bs p∧pk bs p≤hi then (if n=0∧isL ((v * 64 + ((pk bs p).toNat - 128):Nat):Int)=false then .error p else longR bs n (v * 64 + ((pk bs p).toNat - 128)) 128 191 (p + 1)) else .error p
def outR (bs:List UInt8):Except Nat (Nat × Nat)→Except Nat (Nat × Nat × Bytes)
 | .ok (x,p)=>.ok (x,p,bs.drop p)
 | .error i=>.error i
def baseL (n:Nat):Nat:=if n < 0xE0 then 0xC0 else if n < 0xF0 then 0xE0 else 0xF0
def moreL (n:Nat):Nat:=if n < 0xE0 then 1 else if n < 0xF0 then 2 else 3
theorem starts_hi {c:UInt8} (h1:194≤c.toNat) (h2:c.toNat≤244):startsLetter c=true:=by
 unfold startsLetter
 rw [if_neg (by omega)]
 simp; omega
theorem long_letter {bs:List UInt8} {p:Nat} {c:UInt8} (hc:bs[p]?=some c) (h1:194≤c.toNat) (h2:c.toNat≤244) :
  letter_ p (bs.drop p)=outR bs (longR bs (moreL c.toNat) (c.toNat - baseL c.toNat) (blo c.toNat) (bhi c.toNat) (p + 1)):=by
 unfold letter_ byNext
 rw [head_drop,hc]
 dsimp only
 rw [if_neg (by rw [starts_hi h1 h2]; decide),if_neg (show ¬ c.toNat < 128 by omega)]
 unfold moreL baseL blo bhi
 have b1:=pk_lt bs (p + 1)
 have b2:=pk_lt bs (p + 2)
 have b3:=pk_lt bs (p + 3)
 generalize e1:pk bs (p + 1)=x1 at b1
 generalize e2:pk bs (p + 2)=x2 at b2
 generalize e3:pk bs (p + 3)=x3 at b3
 generalize c.toNat=n at h1 h2
 by_cases hE:n < 224
 ·simp only [if_pos hE]
  unfold behind
  rw [drop_drop1]
  unfold andThen
  rw [tail_eq _ _ _ _ (by split <;> omega) (by omega),e1]
  simp only [longR,e1]
  rw [if_neg (show ¬ (n:Int)=224 by omega),if_neg (show ¬ (n:Int)=240 by omega),if_neg (show ¬ (n:Int)=237 by omega),if_neg (show ¬ (n:Int)=244 by omega)]
  by_cases q:128≤x1∧x1≤191
  ·rw [if_pos q]
   by_cases h3:n=194
   ·subst h3
    by_cases h4:160≤x1
    ·rw [if_pos (by simp; omega)]
     have:isL (((194 - 192) * 64 + (x1.toNat - 128):Nat):Int)=true:=by rw [isL_big (by omega)]; simp; omega
     rw [if_neg (by rw [this]; simp)]
     rfl
    ·rw [if_neg (by simp; omega)]
     have:isL (((194 - 192) * 64 + (x1.toNat - 128):Nat):Int)=false:=isL_mid (by omega) (by omega)
     rw [if_pos ⟨by simp,this⟩]
     rfl
   ·rw [if_neg h3,if_pos (by simp; omega)]
    have:isL (((n - 192) * 64 + (x1.toNat - 128):Nat):Int)=true:=by rw [isL_big (by omega)]; simp; omega
    rw [if_neg (by rw [this]; simp)]
    rfl
  ·rw [if_neg q,if_neg (by split <;> omega)]
   rfl
 ·simp only [if_neg hE]
  by_cases hF:n < 240
  ·simp only [if_pos hF]
   unfold behind
   rw [drop_drop1]
   unfold andThen
   rw [tail_eq _ _ _ _ (by split <;> omega) (by split <;> omega),e1]
   simp only [longR,e1]
   by_cases q:(if (n:Int)=224 then (160:Int) else if (n:Int)=240 then 144 else 128)≤x1∧x1≤(if (n:Int)=237 then (159:Int) else if (n:Int)=244 then 143 else 191)
   ·rw [if_pos q,if_pos (by split at q <;> split at q <;> (try split at q) <;> (try split at q) <;> (try split) <;> (try split) <;> omega)]
    have x1lo:128≤x1:=by split at q <;> (try split at q) <;> omega
    have x1hi:x1≤191:=by split at q <;> (try split at q) <;> (try split at q) <;> (try split at q) <;> omega
    have x1E:n=224→160≤x1:=fun z=>by rw [if_pos (by omega)] at q; omega
    dsimp only
    rw [tail_eq _ _ _ _ (by omega) (by split <;> omega),e2]
    rw [if_neg (show ¬ (1=0∧_) by simp)]
    by_cases q2:128≤x2∧x2≤191
    ·rw [if_pos q2]
     have big:160≤((n - 224) * 64 + (x1.toNat - 128)) * 64 + (x2.toNat - 128):=by
      by_cases z:n=224
      ·have:=x1E z; omega
      ·omega
     by_cases h5:n=239∧x1.toNat - 128=63
     ·rw [if_pos h5]
      by_cases h6:x2≤189
      ·rw [if_pos (by simp; omega)]
       have:isL (((((n - 224) * 64 + (x1.toNat - 128)) * 64 + (x2.toNat - 128):Nat)):Int)=true:=by rw [isL_big big]; simp; omega
       rw [if_neg (by rw [this]; simp)]
       simp only [longR,outR,gives]
       rw [show (n - 224) * 4096 + (x1.toNat - 128) * 64 + (x2.toNat - 128)=((n - 224) * 64 + (x1.toNat - 128)) * 64 + (x2.toNat - 128) by omega]
      ·rw [if_neg (by simp; omega)]
       have:isL (((((n - 224) * 64 + (x1.toNat - 128)) * 64 + (x2.toNat - 128):Nat)):Int)=false:=by rw [isL_big big]; simp; omega
       rw [if_pos ⟨by simp,this⟩]
       rfl
     ·rw [if_neg h5,if_pos (by simp; omega)]
      have:isL (((((n - 224) * 64 + (x1.toNat - 128)) * 64 + (x2.toNat - 128):Nat)):Int)=true:=by rw [isL_big big]; simp; omega
      rw [if_neg (by rw [this]; simp)]
      simp only [longR,outR,gives]
      rw [show (n - 224) * 4096 + (x1.toNat - 128) * 64 + (x2.toNat - 128)=((n - 224) * 64 + (x1.toNat - 128)) * 64 + (x2.toNat - 128) by omega]
    ·rw [if_neg q2,if_neg (by split <;> omega)]
     rfl
   ·rw [if_neg q,if_neg (by split at q <;> (try split at q) <;> (try split at q) <;> (try split at q) <;> (try split) <;> (try split) <;> omega)]
    rfl
  ·simp only [if_neg hF]
   unfold behind
   rw [drop_drop1]
   unfold andThen
   rw [tail_eq _ _ _ _ (by split <;> omega) (by split <;> omega),e1]
   simp only [longR,e1]
   by_cases q:(if (n:Int)=224 then (160:Int) else if (n:Int)=240 then 144 else 128)≤x1∧x1≤(if (n:Int)=237 then (159:Int) else if (n:Int)=244 then 143 else 191)
   ·rw [if_pos q,if_pos (by split at q <;> split at q <;> (try split at q) <;> (try split at q) <;> (try split) <;> (try split) <;> omega)]
    have x1lo:128≤x1:=by split at q <;> (try split at q) <;> omega
    have x1hi:x1≤191:=by split at q <;> (try split at q) <;> (try split at q) <;> (try split at q) <;> omega
    have x1E:n=240→144≤x1:=fun z=>by rw [if_neg (by omega),if_pos (by omega)] at q; omega
    dsimp only
    rw [tail_eq _ _ _ _ (by omega) (by omega),e2]
    rw [if_neg (show ¬ (2=0∧_) by simp)]
    by_cases q2:128≤x2∧x2≤191
    ·rw [if_pos q2,if_pos (by simp; omega)]
     dsimp only
     rw [tail_eq _ _ _ _ (by omega) (by split <;> omega),e3]
     rw [if_neg (show ¬ (1=0∧_) by simp)]
     by_cases q3:128≤x3∧x3≤191
     ·rw [if_pos q3]
      have big:160≤(((n - 240) * 64 + (x1.toNat - 128)) * 64 + (x2.toNat - 128)) * 64 + (x3.toNat - 128):=by
       by_cases z:n=240
       ·have:=x1E z; omega
       ·omega
      by_cases h5:(x1.toNat - 128) % 16=15∧x2.toNat - 128=63
      ·rw [if_pos h5]
       by_cases h6:x3≤189
       ·rw [if_pos (by simp; omega)]
        have:isL ((((((n - 240) * 64 + (x1.toNat - 128)) * 64 + (x2.toNat - 128)) * 64 + (x3.toNat - 128):Nat)):Int)=true:=by rw [isL_big big]; simp; omega
        rw [if_neg (by rw [this]; simp)]
        simp only [longR,outR,gives]
        rw [show (n - 240) * 262144 + (x1.toNat - 128) * 4096 + (x2.toNat - 128) * 64 + (x3.toNat - 128)=(((n - 240) * 64 + (x1.toNat - 128)) * 64 + (x2.toNat - 128)) * 64 + (x3.toNat - 128) by omega]
       ·rw [if_neg (by simp; omega)]
        have:isL ((((((n - 240) * 64 + (x1.toNat - 128)) * 64 + (x2.toNat - 128)) * 64 + (x3.toNat - 128):Nat)):Int)=false:=by rw [isL_big big]; simp; omega
        rw [if_pos ⟨by simp,this⟩]
        rfl
      ·rw [if_neg h5,if_pos (by simp; omega)]
       have:isL ((((((n - 240) * 64 + (x1.toNat - 128)) * 64 + (x2.toNat - 128)) * 64 + (x3.toNat - 128):Nat)):Int)=true:=by rw [isL_big big]; simp; omega
       rw [if_neg (by rw [this]; simp)]
       simp only [longR,outR,gives]
       rw [show (n - 240) * 262144 + (x1.toNat - 128) * 4096 + (x2.toNat - 128) * 64 + (x3.toNat - 128)=(((n - 240) * 64 + (x1.toNat - 128)) * 64 + (x2.toNat - 128)) * 64 + (x3.toNat - 128) by omega]
     ·rw [if_neg q3,if_neg (by split <;> omega)]
      rfl
    ·rw [if_neg q2,if_neg (by simp; omega)]
     rfl
   ·rw [if_neg q,if_neg (by split at q <;> (try split at q) <;> (try split at q) <;> (try split at q) <;> (try split) <;> (try split) <;> omega)]
    rfl
end Vp
end
section
namespace Vp
open Vh VhPage
def char1 (mk:List UInt8):Rd Nat:=byNext fun (c:Option UInt8)=>match c with
 | none=>stray
 | some x=>if mk.contains x=true then behind (gives x.toNat) else letter_
def cS (bs:List UInt8) (mk:List UInt8) (p:Nat):Bool:=match bs[p]? with
 | none=>false
 | some x=>mk.contains x || startsLetter x
def preO {α:Type} (xs:List α):Except Nat (List α × Nat × Bytes)→Except Nat (List α × Nat × Bytes)
 | .ok (r,p,b)=>.ok (xs ++ r,p,b)
 | .error i=>.error i
theorem preO_pre {α:Type} (xs ys:List α) (r:Except Nat (List α × Nat × Bytes)):preO xs (preO ys r)=preO (xs ++ ys) r:=by
 cases r with
 | error i=>rfl
 | ok x=>obtain ⟨r,p,b⟩:=x; simp [preO]
theorem preO_nil {α:Type} (r:Except Nat (List α × Nat × Bytes)):preO [] r=r:=by
 cases r with
 | error i=>rfl
 | ok x=>obtain ⟨r,p,b⟩:=x; simp [preO]
theorem char1_no {bs mk:List UInt8} {p:Nat} (h:cS bs mk p=false):char1 mk p (bs.drop p)=.error p:=by
 unfold char1 byNext
 rw [head_drop]
 unfold cS at h
 cases e:bs[p]? with
 | none=>rfl
 | some x =>
  rw [e] at h
  dsimp only at h ⊢
  rw [Bool.or_eq_false_iff] at h
  rw [if_neg (by rw [h.1]; decide)]
  unfold letter_ byNext
  rw [head_drop,e]
  dsimp only
  rw [if_pos h.2]
  rfl
theorem chars_no {bs mk:List UInt8} {p k:Nat} (h:cS bs mk p=false):chars_ mk k p (bs.drop p)=.ok ([],p,bs.drop p):=by
 cases k with
 | zero=>rfl
 | succ k =>
  rw [chars_]
  unfold byNext
  rw [head_drop]
  unfold cS at h
  cases e:bs[p]? with
  | none=>rfl
  | some x =>
   rw [e] at h
   dsimp only at h ⊢
   rw [Bool.or_eq_false_iff] at h
   rw [if_neg (by rw [h.1]; decide),if_neg (by rw [h.2]; decide)]
   rfl
theorem chars_err {bs mk:List UInt8} {p k i:Nat} (h:cS bs mk p=true) (h1:char1 mk p (bs.drop p)=.error i):chars_ mk (k + 1) p (bs.drop p)=.error i:=by
 rw [chars_]
 unfold char1 byNext at h1
 unfold byNext
 rw [head_drop] at h1 ⊢
 unfold cS at h
 cases e:bs[p]? with
 | none=>rw [e] at h; cases h
 | some x =>
  rw [e] at h h1
  dsimp only at h h1 ⊢
  by_cases hm:mk.contains x=true
  ·rw [if_pos hm] at h1
   cases h1
  ·rw [if_neg hm] at h1 ⊢
   have hs:startsLetter x=true:=by
    rcases Bool.or_eq_true_iff.mp h with z | z
    ·exact absurd z hm
    ·exact z
   rw [if_pos hs]
   exact then_no h1
theorem chars_ok {bs mk:List UInt8} {p k n p':Nat} (h:cS bs mk p=true) (h1:char1 mk p (bs.drop p)=.ok (n,p',bs.drop p')):chars_ mk (k + 1) p (bs.drop p)=preO [n] (chars_ mk k p' (bs.drop p')):=by
 rw [chars_]
 unfold char1 byNext at h1
 unfold byNext
 rw [head_drop] at h1 ⊢
 unfold cS at h
 have fin:∀ (r:Rd Letters),andThen r (fun (l:Letters)=>gives (n :: l)) p' (bs.drop p')=preO [n] (r p' (bs.drop p')):=fun r=>by
  unfold andThen
  cases r p' (bs.drop p') with
  | error i=>rfl
  | ok x=>rfl
 cases e:bs[p]? with
 | none=>rw [e] at h; cases h
 | some x =>
  rw [e] at h h1
  dsimp only at h h1 ⊢
  by_cases hm:mk.contains x=true
  ·rw [if_pos hm] at h1 ⊢
   unfold behind gives at h1
   rw [drop_drop1] at h1
   injection h1 with h1
   injection h1 with h2 h3
   injection h3 with h3 h4
   subst h2 h3
   unfold behind
   rw [drop_drop1]
   exact fin _
  ·rw [if_neg hm] at h1 ⊢
   have hs:startsLetter x=true:=by
    rcases Bool.or_eq_true_iff.mp h with z | z
    ·exact absurd z hm
    ·exact z
   rw [if_pos hs,then_ok h1]
   exact fin _
theorem some_of_chars {bs mk:List UInt8} {p k p':Nat} {x:Letters} (h:chars_ mk k p (bs.drop p)=.ok (x,p',bs.drop p')) (hx:x≠[]):someChars_ mk k p (bs.drop p)=.ok (x,p',bs.drop p'):=by
 unfold someChars_
 rw [then_ok h]
 rw [if_neg (by cases x <;> simp at hx ⊢)]
 rfl
theorem some_err {bs mk:List UInt8} {p k i:Nat} (h:chars_ mk k p (bs.drop p)=.error i):someChars_ mk k p (bs.drop p)=.error i:=by
 unfold someChars_
 exact then_no h
theorem some_nil {bs mk:List UInt8} {p k:Nat} (h:chars_ mk k p (bs.drop p)=.ok ([],p,bs.drop p)):someChars_ mk k p (bs.drop p)=.error p:=by
 unfold someChars_
 rw [then_ok h]
 rfl
theorem letters_chars:∀ (k:Nat),letters_ k=chars_ [] k
 | 0=>rfl
 | k + 1=>by
  rw [letters_,chars_,letters_chars k]
  rfl
theorem someLetters_chars (k:Nat):someLetters_ k=someChars_ [] k:=by unfold someLetters_ someChars_; rw [letters_chars]
def rowTail (one:Rd Letters) (m:Nat):Rd (List Letters):=byNext fun (c:Option UInt8)=>if c=some 10 then behind (gives []) else if m=0 then stray else andThen (byte_ 32) fun (_:Unit)=>row_ one m
theorem row_ok {one:Rd Letters} {m p p':Nat} {b b':Bytes} {x:Letters} (h:one p b=.ok (x,p',b')):row_ one (m + 1) p b=preO [x] (rowTail one m p' b'):=by
 rw [row_,then_ok h]
 unfold rowTail byNext
 dsimp only
 split
 ·rfl
 ·split
  ·rfl
  ·unfold andThen
   cases byte_ 32 p' b' with
   | error i=>rfl
   | ok y =>
    obtain ⟨u,p2,b2⟩:=y
    dsimp only
    cases row_ one m p2 b2 with
    | error i=>rfl
    | ok z=>rfl
theorem row_err {one:Rd Letters} {m p i:Nat} {b:Bytes} (h:one p b=.error i):row_ one (m + 1) p b=.error i:=by
 rw [row_,then_no h]
theorem tail10 {one:Rd Letters} {m p:Nat} {bs:List UInt8} (h:pk bs p=10):rowTail one m p (bs.drop p)=.ok ([],p + 1,bs.drop (p + 1)):=by
 unfold rowTail byNext
 rw [head_drop,pk_eq (c:=10) |>.mp h]
 dsimp only
 rw [if_pos rfl]
 unfold behind gives
 rw [drop_drop1]
theorem tail32 {one:Rd Letters} {m p:Nat} {bs:List UInt8} (h:pk bs p=32) (hm:m≠0):rowTail one m p (bs.drop p)=row_ one m (p + 1) (bs.drop (p + 1)):=by
 unfold rowTail byNext
 have e:=(pk_eq (c:=32)).mp h
 rw [head_drop,e]
 dsimp only
 rw [if_neg (by decide),if_neg hm]
 exact then_ok (byte_ok h)
theorem tail_no {one:Rd Letters} {m p:Nat} {bs:List UInt8} (h1:pk bs p≠10) (h2:m=0∨pk bs p≠32):rowTail one m p (bs.drop p)=.error p:=by
 unfold rowTail byNext
 rw [head_drop]
 dsimp only
 rw [if_neg (fun z=>h1 ((pk_eq (c:=10)).mpr z))]
 by_cases hm:m=0
 ·rw [if_pos hm]; rfl
 ·rw [if_neg hm]
  exact then_no (byte_no (fun z=>(h2.resolve_left hm) z))
theorem cS_not {bs mk:List UInt8} {p:Nat} (hm:∀ c ∈ mk,33≤c.toNat) (h:pk bs p=32∨pk bs p=10):cS bs mk p=false:=by
 unfold cS
 cases e:bs[p]? with
 | none=>rfl
 | some x =>
  dsimp only
  have e2:=pk_some e
  have hx:x.toNat=32∨x.toNat=10:=by omega
  have h1:mk.contains x=false:=by
   rw [List.contains_eq_any_beq,List.any_eq_false]
   intro y hy z
   have:=hm y hy
   rw [eq_of_beq z] at hx
   omega
  have h2:startsLetter x=false:=by
   unfold startsLetter
   rw [if_pos (by omega)]
   rcases hx with z | z <;> rw [z] <;> decide
  rw [h1,h2]; rfl
end Vp
end
section
namespace Vp
open Vh VhPage
theorem byte_digit {β:Type} {bs:List UInt8} {p:Nat} {c:UInt8} {g:Unit→Rd β} (h:48≤pk bs p∧pk bs p≤57) (hc:c.toNat < 48:=by decide):andThen (byte_ c) g p (bs.drop p)=.error p:=then_no (byte_no (by omega))
def NumBad (bs:List UInt8) (lo hi p p':Nat):Prop:=num lo hi p (bs.drop p)=.error p'∨∃ x,num lo hi p (bs.drop p)=.ok (x,p',bs.drop p')∧48≤pk bs p'∧pk bs p'≤57
theorem num_bad {β:Type} {bs:List UInt8} {lo hi p p':Nat} {f:Nat→Rd β} (h:NumBad bs lo hi p p') (hf:∀ x,(48≤pk bs p'∧pk bs p'≤57)→f x p' (bs.drop p')=.error p'):andThen (num lo hi) f p (bs.drop p)=.error p':=by
 rcases h with h | ⟨x,h,hd⟩
 ·exact then_no h
 ·rw [then_ok h]; exact hf x hd
theorem then_then {β:Type} (lo hi:Nat) (f:Nat→Rd β):andThen (then_ lo hi) f=andThen (byte_ 32) (fun _=>andThen (num lo hi) f):=by
 funext p b
 unfold then_ andThen
 cases byte_ 32 p b with
 | error i=>rfl
 | ok x=>rfl
def s6 (a b c d e f:Nat):Rd Settings:=andThen (byte_ 10) fun (_:Unit)=>gives ⟨a,b,c,d,e,f⟩
def s5 (a b c d e:Nat):Rd Settings:=andThen (then_ 0 10000) (s6 a b c d e)
def s4 (a b c d:Nat):Rd Settings:=andThen (then_ 0 1) (s5 a b c d)
def s3 (a b c:Nat):Rd Settings:=andThen (then_ 1 100) (s4 a b c)
def s2 (a b:Nat):Rd Settings:=andThen (then_ 1 16) (s3 a b)
def s1 (a:Nat):Rd Settings:=andThen (then_ 6 240) (s2 a)
def s0:Rd Settings:=andThen (num 20 240) s1
def restS:List Nat→Rd Settings
 | []=>s0
 | [a]=>s1 a
 | [a,b]=>s2 a b
 | [a,b,c]=>s3 a b c
 | [a,b,c,d]=>s4 a b c d
 | [a,b,c,d,e]=>s5 a b c d e
 | [a,b,c,d,e,f]=>s6 a b c d e f
 | _=>stray
def loS:Nat→Nat
 | 0=>20 | 1=>6 | 2=>1 | 3=>1 | _=>0
def hiS:Nat→Nat
 | 0=>240 | 1=>240 | 2=>16 | 3=>100 | 4=>1 | _=>10000
theorem settings_eq:settings_=andThen (byte_ 94) fun (_:Unit)=>restS []:=rfl
theorem rest_s:∀ (l:List Nat),l≠[]→l.length < 6→restS l=andThen (byte_ 32) fun _=>andThen (num (loS l.length) (hiS l.length)) fun x=>restS (l ++ [x])
 | [],h,_=>absurd rfl h
 | [a],_,_=>then_then _ _ _
 | [a,b],_,_=>then_then _ _ _
 | [a,b,c],_,_=>then_then _ _ _
 | [a,b,c,d],_,_=>then_then _ _ _
 | [a,b,c,d,e],_,_=>then_then _ _ _
 | _ :: _ :: _ :: _ :: _ :: _ :: _,_,h=>by simp at h; omega
theorem rest_6 (a b c d e f:Nat):restS [a,b,c,d,e,f]=andThen (byte_ 10) fun (_:Unit)=>gives ⟨a,b,c,d,e,f⟩:=by
 unfold restS s6
 rfl
theorem rest_digit {bs:List UInt8} {p:Nat} (hd:48≤pk bs p∧pk bs p≤57):∀ (l:List Nat),l≠[]→restS l p (bs.drop p)=.error p
 | [],h=>absurd rfl h
 | [a],_=>by rw [rest_s _ (by simp) (by simp)]; exact byte_digit hd
 | [a,b],_=>by rw [rest_s _ (by simp) (by simp)]; exact byte_digit hd
 | [a,b,c],_=>by rw [rest_s _ (by simp) (by simp)]; exact byte_digit hd
 | [a,b,c,d],_=>by rw [rest_s _ (by simp) (by simp)]; exact byte_digit hd
 | [a,b,c,d,e],_=>by rw [rest_s _ (by simp) (by simp)]; exact byte_digit hd
 | [a,b,c,d,e,f],_=>by
  rw [rest_6]
  exact byte_digit hd
 | _ :: _ :: _ :: _ :: _ :: _ :: _ :: _,_=>rfl
def wRow (k lo:Nat):Rd (List (Nat × Nat × Nat)):=andThen (num lo LARGEST) fun (a:Nat)=>andThen (byte_ 32) fun (_:Unit)=>andThen (num a LARGEST) fun (b:Nat)=>andThen (byte_ 32) fun (_:Unit)=>andThen (num 0 2) fun (n:Nat)=>andThen (byte_ 10) fun (_:Unit) =>
 andThen (widths_ k (b + 1)) fun (r:List (Nat × Nat × Nat))=>gives ((a,b,n) :: r)
theorem widths_go {bs:List UInt8} {p k lo:Nat} (h:pk bs p=40) (hlo:lo≤LARGEST):widths_ (k + 1) lo p (bs.drop p)=wRow k lo (p + 1) (bs.drop (p + 1)):=by
 rw [widths_]
 unfold byNext
 rw [head_drop,(pk_eq (c:=40)).mp h]
 dsimp only
 rw [if_pos ⟨rfl,hlo⟩]
 unfold behind wRow
 rw [drop_drop1]
 simp only [then_then]
theorem widths_stop {bs:List UInt8} {p k lo:Nat} (h:k=0∨pk bs p≠40∨LARGEST < lo):widths_ k lo p (bs.drop p)=.ok ([],p,bs.drop p):=by
 cases k with
 | zero=>rfl
 | succ k =>
  rw [widths_]
  unfold byNext
  rw [head_drop]
  dsimp only
  rw [if_neg]
  ·rfl
  ·rintro ⟨h1,h2⟩
   rcases h with h | h | h
   ·cases h
   ·exact h ((pk_eq (c:=40)).mpr h1)
   ·omega
theorem cons_then {α:Type} (x:α) (r:Rd (List α)) (p:Nat) (b:Bytes):andThen r (fun (l:List α)=>gives (x :: l)) p b=preO [x] (r p b):=by
 unfold andThen
 cases r p b with
 | error i=>rfl
 | ok y=>rfl
end Vp
end
section
namespace Vp
open Vh VhPage
theorem paras_go {bs:List UInt8} {p k n:Nat} (h:pk bs p=62) (hn:1≤n):paras_ (k + 1) n p (bs.drop p)=andThen (row_ (someChars_ [] 64) n) (fun (q:List Letters)=>andThen (paras_ k (n - q.length)) fun (r:List (List Letters))=>gives (q :: r)) (p + 1) (bs.drop (p + 1)):=by
 rw [paras_]
 unfold byNext
 rw [head_drop,(pk_eq (c:=62)).mp h]
 dsimp only
 rw [if_pos ⟨rfl,hn⟩]
 unfold behind
 rw [drop_drop1,someLetters_chars]
theorem paras_stop {bs:List UInt8} {p k n:Nat} (h:k=0∨pk bs p≠62∨n=0):paras_ k n p (bs.drop p)=.ok ([],p,bs.drop p):=by
 cases k with
 | zero=>rfl
 | succ k =>
  rw [paras_]
  unfold byNext
  rw [head_drop]
  dsimp only
  rw [if_neg]
  ·rfl
  ·rintro ⟨h1,h2⟩
   rcases h with h | h | h
   ·cases h
   ·exact h ((pk_eq (c:=62)).mpr h1)
   ·omega
def spans:Nat→List (List Letters)→List (Nat × Nat)
 | _,[]=>[]
 | a,p :: r=>(a,a + p.length) :: spans (a + p.length) r
theorem spans_snoc (q:List Letters):∀ (a:Nat) (xs:List (List Letters)),spans a (xs ++ [q])=spans a xs ++ [(a + xs.flatten.length,a + xs.flatten.length + q.length)]
 | a,[]=>by simp [spans]
 | a,p :: r=>by
  show (a,a + p.length) :: spans (a + p.length) (r ++ [q])=_
  rw [spans_snoc q (a + p.length) r]
  simp [spans,Nat.add_assoc]
theorem spans_len:∀ (a:Nat) (xs:List (List Letters)),(spans a xs).length=xs.length
 | _,[]=>rfl
 | a,p :: r=>by simp [spans,spans_len (a + p.length) r]
def sRow (n k i0:Nat):Rd (List (Nat × List Letters)):=andThen (num i0 (n - 1)) fun (i:Nat)=>andThen (byte_ 32) fun (_:Unit)=>andThen (row_ (someChars_ [94] 16) 4) fun (l:List Letters)=>andThen (signs_ n k i) fun (r:List (Nat × List Letters))=>gives ((i,l) :: r)
theorem signs_go {bs:List UInt8} {p k n i0:Nat} (h:pk bs p=123) (hn:1≤n):signs_ n (k + 1) i0 p (bs.drop p)=sRow n k i0 (p + 1) (bs.drop (p + 1)):=by
 rw [signs_]
 unfold byNext
 rw [head_drop,(pk_eq (c:=123)).mp h]
 dsimp only
 rw [if_pos ⟨rfl,hn⟩]
 unfold behind sRow
 rw [drop_drop1]
theorem signs_stop {bs:List UInt8} {p k n i0:Nat} (h:k=0∨pk bs p≠123∨n=0):signs_ n k i0 p (bs.drop p)=.ok ([],p,bs.drop p):=by
 cases k with
 | zero=>rfl
 | succ k =>
  rw [signs_]
  unfold byNext
  rw [head_drop]
  dsimp only
  rw [if_neg]
  ·rfl
  ·rintro ⟨h1,h2⟩
   rcases h with h | h | h
   ·cases h
   ·exact h ((pk_eq (c:=123)).mpr h1)
   ·omega
def eRow (n k f0 most:Nat):Rd (List Entry):=andThen (num f0 n) fun (f:Nat)=>andThen (byte_ 32) fun (_:Unit)=>andThen (num 0 (n - f)) fun (m:Nat)=>andThen (tokens_ (min 1024 most)) fun (t:List Letters)=>andThen (entries_ n k f (most - t.length)) fun (r:List Entry)=>gives (⟨f,m,t⟩ :: r)
theorem entries_go {bs:List UInt8} {p k n f0 most:Nat} (h:pk bs p=91) (hn:1≤n):entries_ n (k + 1) f0 most p (bs.drop p)=eRow n k f0 most (p + 1) (bs.drop (p + 1)):=by
 rw [entries_]
 unfold byNext
 rw [head_drop,(pk_eq (c:=91)).mp h]
 dsimp only
 rw [if_pos ⟨rfl,hn⟩]
 unfold behind eRow
 rw [drop_drop1]
 simp only [then_then]
theorem entries_stop {bs:List UInt8} {p k n f0 most:Nat} (h:k=0∨pk bs p≠91∨n=0):entries_ n k f0 most p (bs.drop p)=.ok ([],p,bs.drop p):=by
 cases k with
 | zero=>rfl
 | succ k =>
  rw [entries_]
  unfold byNext
  rw [head_drop]
  dsimp only
  rw [if_neg]
  ·rfl
  ·rintro ⟨h1,h2⟩
   rcases h with h | h | h
   ·cases h
   ·exact h ((pk_eq (c:=91)).mpr h1)
   ·omega
theorem tokens_tail (k:Nat):tokens_ k=rowTail token_ k:=rfl
theorem token_ok {bs:List UInt8} {p:Nat} (h1:pk bs p≠91) (h2:pk bs p≠35):token_ p (bs.drop p)=someChars_ MARKBYTES 64 p (bs.drop p):=by
 unfold token_ byNext
 rw [head_drop]
 dsimp only
 rw [if_neg]
 rintro (h | h)
 ·exact h1 ((pk_eq (c:=91)).mpr h)
 ·exact h2 ((pk_eq (c:=35)).mpr h)
theorem token_no {bs:List UInt8} {p:Nat} (h:pk bs p=91∨pk bs p=35):token_ p (bs.drop p)=.error p:=by
 unfold token_ byNext
 rw [head_drop]
 dsimp only
 rw [if_pos]
 ·rfl
 ·rcases h with h | h
  ·exact .inl ((pk_eq (c:=91)).mp h)
  ·exact .inr ((pk_eq (c:=35)).mp h)
end Vp
end
section
namespace Vp
open Vh VhPage
def RowsOk (rs:List (Nat × Nat × Nat)):Prop:=rs.Pairwise (fun x y=>x.2.1 < y.1)∧∀ x ∈ rs,x.1≤x.2.1
def cellsR (rs:List (Nat × Nat × Nat)) (c:Nat):Nat:=if isMark c=true then 1 else match rs.find? fun (x:Nat × Nat × Nat)=>decide (x.1≤c) && decide (c≤x.2.1) with
 | some x=>x.2.2
 | none=>1
def takesR (rs:List (Nat × Nat × Nat)) (l:Letters):Nat:=(l.map (cellsR rs)).sum
theorem hi_mono {rs:List (Nat × Nat × Nat)} (ok:RowsOk rs) {i j:Nat} {x y:Nat × Nat × Nat} (hi:rs[i]?=some x) (hj:rs[j]?=some y) (h:i≤j):x.2.1≤y.2.1:=by
 rcases Nat.lt_or_eq_of_le h with h | rfl
 ·obtain ⟨hi',ei⟩:=List.getElem?_eq_some_iff.mp hi
  obtain ⟨hj',ej⟩:=List.getElem?_eq_some_iff.mp hj
  have:=List.pairwise_iff_getElem.mp ok.1 i j hi' hj' h
  rw [ei,ej] at this
  have:=ok.2 y (List.mem_of_getElem? hj)
  omega
 ·rw [hi] at hj; cases hj; exact Nat.le_refl _
theorem find_low {rs:List (Nat × Nat × Nat)} (ok:RowsOk rs) {c low:Nat} (h1:∀ i x,rs[i]?=some x→i < low→x.2.1 < c) (h2:∀ i x,rs[i]?=some x→low≤i→c≤x.2.1) :
  (rs.find? fun (x:Nat × Nat × Nat)=>decide (x.1≤c) && decide (c≤x.2.1))=match rs[low]? with
   | some x=>if x.1≤c then some x else none
   | none=>none:=by
 rcases ok with ⟨pw,ok⟩
 induction rs generalizing low with
 | nil=>simp
 | cons r rs ih =>
  rw [List.pairwise_cons] at pw
  cases low with
  | zero =>
   rw [List.getElem?_cons_zero]
   have hc:=h2 0 r (by simp) (Nat.zero_le _)
   by_cases hr:r.1≤c
   ·simp [List.find?_cons,hr,hc]
   ·simp only [List.find?_cons,hr,decide_false,Bool.false_and,if_false]
    rw [List.find?_eq_none]
    intro x hx
    have:=pw.1 x hx
    have:=ok r (by simp)
    simp; omega
  | succ low =>
   have hc:=h1 0 r (by simp) (Nat.succ_pos _)
   have e:(decide (r.1≤c) && decide (c≤r.2.1))=false:=by simp; omega
   rw [List.getElem?_cons_succ,List.find?_cons,e]
   exact ih (fun i x h l=>h1 (i + 1) x (by simpa using h) (by omega)) (fun i x h l=>h2 (i + 1) x (by simpa using h) (by omega)) pw.2 (fun x hx=>ok x (by simp [hx]))
theorem cells_low {rs:List (Nat × Nat × Nat)} (ok:RowsOk rs) {c low:Nat} (h1:∀ i x,rs[i]?=some x→i < low→x.2.1 < c) (h2:∀ i x,rs[i]?=some x→low≤i→c≤x.2.1) :
  cellsR rs c=if isMark c=true then 1 else match rs[low]? with
   | some x=>if x.1≤c then x.2.2 else 1
   | none=>1:=by
 unfold cellsR
 rw [find_low ok h1 h2]
 cases rs[low]? with
 | none=>rfl
 | some x=>by_cases h:x.1≤c <;> simp [h]
theorem best_count (room:Nat):∀ (xs:List Nat) (c s:Nat) (t:List (Nat × Nat)) (b:Nat × Nat),(c=0→xs≠[])→(c≠0→1≤b.2∧b.2≤c)→1≤(bestLine room c s xs t b).2∧(bestLine room c s xs t b).2≤c + xs.length
 | [],c,s,t,b,h0,h=>by
  have hc:c≠0:=fun z=>h0 z rfl
  unfold bestLine
  have:=h hc
  exact ⟨this.1,by simp; omega⟩
 | x :: xs,c,s,t,b,h0,h=>by
  show 1≤(if 1≤c∧room < (if c=0 then x else s + 1 + x) then b else bestLine room (c + 1) (if c=0 then x else s + 1 + x) xs (t.drop 1) (if c=0∨lineCost room (if c=0 then x else s + 1 + x) xs.isEmpty + (t.headD (0,0)).1≤b.1 then (lineCost room (if c=0 then x else s + 1 + x) xs.isEmpty + (t.headD (0,0)).1,c + 1) else b)).2∧(if 1≤c∧room < (if c=0 then x else s + 1 + x) then b else bestLine room (c + 1) (if c=0 then x else s + 1 + x) xs (t.drop 1) (if c=0∨lineCost room (if c=0 then x else s + 1 + x) xs.isEmpty + (t.headD (0,0)).1≤b.1 then (lineCost room (if c=0 then x else s + 1 + x) xs.isEmpty + (t.headD (0,0)).1,c + 1) else b)).2≤c + (x :: xs).length
  generalize (if c=0 then x else s + 1 + x)=n
  generalize lineCost room n xs.isEmpty + (t.headD (0,0)).1=z
  rw [List.length_cons]
  by_cases g:1≤c∧room < n
  ·rw [if_pos g]
   have:=h (by omega)
   omega
  ·rw [if_neg g]
   have hb:1≤(if c=0∨z≤b.1 then (z,c + 1) else b).2∧(if c=0∨z≤b.1 then (z,c + 1) else b).2≤c + 1:=by
    by_cases y:c=0∨z≤b.1
    ·rw [if_pos y]; exact ⟨Nat.succ_le_succ (Nat.zero_le _),Nat.le_refl _⟩
    ·rw [if_neg y]
     have:=h (by omega)
     omega
   have:=best_count room xs (c + 1) n (t.drop 1) (if c=0∨z≤b.1 then (z,c + 1) else b) (fun z=>by omega) (fun _=>hb)
   omega
def bst (room:Nat) (xs:List Nat) (T:List (Nat × Nat)) (i:Nat):Nat × Nat:=bestLine room 0 0 (xs.drop i) (T.drop i) (0,0)
def tab (room:Nat) (xs:List Nat):List (Nat × Nat):=costTable room (xs.drop 1)
theorem table_len (room:Nat):∀ xs:List Nat,(costTable room xs).length=xs.length
 | []=>rfl
 | x :: xs=>by unfold costTable; simp [table_len room xs]
theorem table_drop (room:Nat):∀ (i:Nat) (xs:List Nat),(costTable room xs).drop i=costTable room (xs.drop i)
 | 0,xs=>by simp
 | i + 1,[]=>by simp [costTable]
 | i + 1,x :: xs=>table_drop room i xs
theorem tab_at (room:Nat) (xs:List Nat) {i:Nat} (h1:1≤i) (h2:i < xs.length):(tab room xs).drop (i - 1)=bst room xs (tab room xs) i :: (tab room xs).drop i:=by
 unfold tab bst
 rw [table_drop,table_drop,List.drop_drop,List.drop_drop]
 have e1:1 + (i - 1)=i:=by omega
 rw [e1]
 obtain ⟨x,l,hl⟩:∃ x l,xs.drop i=x :: l:=by
  cases h:xs.drop i with
  | nil=>rw [List.drop_eq_nil_iff] at h; omega
  | cons x l=>exact ⟨x,l,rfl⟩
 have e2:xs.drop (1 + i)=l:=by
  have:xs.drop (1 + i)=(xs.drop i).drop 1:=by rw [List.drop_drop,Nat.add_comm]
  rw [this,hl]; rfl
 rw [e2,hl]
 rfl
theorem bst_count {room:Nat} {xs:List Nat} {T:List (Nat × Nat)} {i:Nat} (h:i < xs.length):1≤(bst room xs T i).2∧i + (bst room xs T i).2≤xs.length:=by
 have:=best_count room (xs.drop i) 0 0 (T.drop i) (0,0) (fun _ z=>by rw [List.drop_eq_nil_iff] at z; omega) (fun z=>absurd rfl z)
 rw [Nat.zero_add,List.length_drop] at this
 exact ⟨this.1,by have:=this.2; unfold bst; omega⟩
def costAt (room:Nat) (xs:List Nat) (e:Nat):Nat:=if e < xs.length then (bst room xs (tab room xs) e).1 else 0
theorem tab_headD (room:Nat) (xs:List Nat) (e:Nat):(((tab room xs).drop e).headD (0,0)).1=costAt room xs (e + 1):=by
 unfold costAt
 split
 ·rename_i h
  have:=tab_at room xs (i:=e + 1) (by omega) h
  rw [Nat.add_sub_cancel] at this
  rw [this]; rfl
 ·rename_i h
  have:(tab room xs).drop e=[]:=by
   rw [List.drop_eq_nil_iff]; unfold tab; rw [table_len,List.length_drop]; omega
  rw [this]; rfl
theorem byTable_fuel:∀ (f g:Nat) (t:List (Nat × Nat)),(∀ x ∈ t,1≤x.2)→t.length≤f→t.length≤g→byTable f t=byTable g t
 | 0,g,t,_,h,_=>by have:t=[]:=List.length_eq_zero_iff.mp (by omega); subst this; cases g <;> rfl
 | f + 1,g,[],_,_,_=>by cases g <;> rfl
 | f + 1,0,x :: t,_,_,h=>by simp at h
 | f + 1,g + 1,x :: t,hx,h,h'=>by
  have h1:=hx x (by simp)
  simp only [List.length_cons] at h h'
  show x.2 :: byTable f ((x :: t).drop x.2)=x.2 :: byTable g ((x :: t).drop x.2)
  have hm:∀ y ∈ (x :: t).drop x.2,1≤y.2:=fun y hy=>hx y (List.mem_of_mem_drop hy)
  have hl:((x :: t).drop x.2).length≤t.length:=by rw [List.length_drop,List.length_cons]; omega
  rw [byTable_fuel f g _ hm (by omega) (by omega)]
def cnts (room:Nat) (xs:List Nat) (i:Nat):List Nat:=byTable ((tab room xs).length) ((tab room xs).drop (i - 1))
theorem tab_pos (room:Nat) (xs:List Nat):∀ x ∈ tab room xs,1≤x.2:=by
 intro x hx
 obtain ⟨k,hk⟩:=List.mem_iff_getElem?.mp hx
 have hlt:k < (tab room xs).length:=by
  rw [List.getElem?_eq_some_iff] at hk; exact hk.1
 have hl:k + 1 < xs.length:=by unfold tab at hlt; rw [table_len,List.length_drop] at hlt; omega
 have:=tab_at room xs (i:=k + 1) (by omega) hl
 rw [Nat.add_sub_cancel] at this
 have h0:((tab room xs).drop k)[0]?=some x:=by rw [List.getElem?_drop]; simpa using hk
 rw [this] at h0
 simp at h0
 rw [← h0]
 exact (bst_count hl).1
theorem cnts_end (room:Nat) (xs:List Nat) {i:Nat} (h1:1≤i) (h:xs.length≤i):cnts room xs i=[]:=by
 unfold cnts
 have:(tab room xs).drop (i - 1)=[]:=by
  rw [List.drop_eq_nil_iff]; unfold tab; rw [table_len,List.length_drop]; omega
 rw [this]
 cases (tab room xs).length <;> rfl
theorem cnts_go (room:Nat) (xs:List Nat) {i:Nat} (h1:1≤i) (h:i < xs.length):cnts room xs i=(bst room xs (tab room xs) i).2 :: cnts room xs (i + (bst room xs (tab room xs) i).2):=by
 have hp:=(bst_count (room:=room) (T:=tab room xs) h).1
 unfold cnts
 have hl:(tab room xs).length=xs.length - 1:=by unfold tab; rw [table_len,List.length_drop]
 have hl':(tab room xs).length=(xs.length - 2) + 1:=by omega
 rw [tab_at room xs h1 h]
 have e:byTable (tab room xs).length (bst room xs (tab room xs) i :: (tab room xs).drop i)=(bst room xs (tab room xs) i).2 :: byTable (xs.length - 2) ((bst room xs (tab room xs) i :: (tab room xs).drop i).drop (bst room xs (tab room xs) i).2):=by
  rw [hl']; rfl
 rw [e]
 congr 1
 have e2:(bst room xs (tab room xs) i :: (tab room xs).drop i).drop (bst room xs (tab room xs) i).2=(tab room xs).drop (i + (bst room xs (tab room xs) i).2 - 1):=by
  rw [← tab_at room xs h1 h,List.drop_drop]
  congr 1; omega
 rw [e2]
 have hm:∀ y ∈ (tab room xs).drop (i + (bst room xs (tab room xs) i).2 - 1),1≤y.2:=fun y hy=>tab_pos room xs y (List.mem_of_mem_drop hy)
 have hlen:((tab room xs).drop (i + (bst room xs (tab room xs) i).2 - 1)).length≤xs.length - 2:=by rw [List.length_drop,hl]; omega
 exact byTable_fuel _ _ _ hm hlen (by rw [List.length_drop]; omega)
theorem broken_eq (room r:Nat) (xs:List Nat) (h:0 < xs.length):broken room r xs=(bst room xs (tab r xs) 0).2 :: cnts r xs (bst room xs (tab r xs) 0).2:=by
 cases xs with
 | nil=>simp at h
 | cons x l =>
  have hp:=(bst_count (room:=room) (T:=tab r (x :: l)) (i:=0) h).1
  show (bst room (x :: l) (tab r (x :: l)) 0).2 :: byTable l.length ((tab r (x :: l)).drop ((bst room (x :: l) (tab r (x :: l)) 0).2 - 1))=_
  congr 1
  unfold cnts
  have hl:(tab r (x :: l)).length=l.length:=by unfold tab; rw [table_len]; rfl
  rw [hl]
def linesAt (room:Nat) (xs:List Nat) (e:Nat):Nat:=if e < xs.length then (cnts room xs e).length else 0
theorem linesAt_eq (room:Nat) (xs:List Nat) {e:Nat} (h1:1≤e):linesAt room xs e=(cnts room xs e).length:=by
 unfold linesAt
 split
 ·rfl
 ·rw [cnts_end room xs h1 (by omega)]; rfl
theorem broken_len (room r:Nat) (xs:List Nat) (h:0 < xs.length):(broken room r xs).length=1 + linesAt r xs (bst room xs (tab r xs) 0).2:=by
 rw [broken_eq room r xs h,List.length_cons,linesAt_eq r xs (bst_count h).1,Nat.add_comm]
theorem best_step (room:Nat) (xs:List Nat) (r start e taken:Nat) (b:Nat × Nat) (hs:start < e) {x:Nat} (hx:xs[e]?=some x) :
  bestLine room (e - start) taken (xs.drop e) ((tab r xs).drop e) b=if room < taken + 1 + x then b else
   bestLine room (e + 1 - start) (taken + 1 + x) (xs.drop (e + 1)) ((tab r xs).drop (e + 1)) (if lineCost room (taken + 1 + x) (decide (e + 1=xs.length)) + costAt r xs (e + 1)≤b.1 then (lineCost room (taken + 1 + x) (decide (e + 1=xs.length)) + costAt r xs (e + 1),e + 1 - start) else b):=by
 obtain ⟨he,ex⟩:=List.getElem?_eq_some_iff.mp hx
 have hd:xs.drop e=x :: xs.drop (e + 1):=by rw [List.drop_eq_getElem_cons he,ex]
 have hne:e - start≠0:=by omega
 have hse:e - start + 1=e + 1 - start:=by omega
 have hem:(xs.drop (e + 1)).isEmpty=decide (e + 1=xs.length):=by
  by_cases z:e + 1=xs.length
  ·rw [decide_eq_true z,List.isEmpty_iff,List.drop_eq_nil_iff]; omega
  ·rw [decide_eq_false z]
   cases h:xs.drop (e + 1) with
   | nil=>rw [List.drop_eq_nil_iff] at h; omega
   | cons _ _=>rfl
 rw [hd]
 show (if 1≤e - start∧room < (if e - start=0 then x else taken + 1 + x) then b else bestLine room (e - start + 1) (if e - start=0 then x else taken + 1 + x) (xs.drop (e + 1)) (((tab r xs).drop e).drop 1) (if e - start=0∨lineCost room (if e - start=0 then x else taken + 1 + x) (xs.drop (e + 1)).isEmpty + (((tab r xs).drop e).headD (0,0)).1≤b.1 then (lineCost room (if e - start=0 then x else taken + 1 + x) (xs.drop (e + 1)).isEmpty + (((tab r xs).drop e).headD (0,0)).1,e - start + 1) else b))=_
 rw [if_neg hne,tab_headD,hem,hse,List.drop_drop]
 have h1:1≤e - start:=by omega
 simp only [h1,hne,true_and,false_or]
theorem best_first (room:Nat) (xs:List Nat) (r start:Nat) {x:Nat} (hx:xs[start]?=some x) :
  bst room xs (tab r xs) start=bestLine room 1 x (xs.drop (start + 1)) ((tab r xs).drop (start + 1)) (lineCost room x (decide (start + 1=xs.length)) + costAt r xs (start + 1),1):=by
 obtain ⟨he,ex⟩:=List.getElem?_eq_some_iff.mp hx
 have hd:xs.drop start=x :: xs.drop (start + 1):=by rw [List.drop_eq_getElem_cons he,ex]
 have hem:(xs.drop (start + 1)).isEmpty=decide (start + 1=xs.length):=by
  by_cases z:start + 1=xs.length
  ·rw [decide_eq_true z,List.isEmpty_iff,List.drop_eq_nil_iff]; omega
  ·rw [decide_eq_false z]
   cases h:xs.drop (start + 1) with
   | nil=>rw [List.drop_eq_nil_iff] at h; omega
   | cons _ _=>rfl
 unfold bst
 rw [hd]
 show bestLine room 1 x (xs.drop (start + 1)) (((tab r xs).drop start).drop 1) (lineCost room x (xs.drop (start + 1)).isEmpty + (((tab r xs).drop start).headD (0,0)).1,1)=_
 rw [tab_headD,hem,List.drop_drop]
end Vp
end
section
namespace Vp
open Vh VhPage
theorem dig_char (d:Nat) (h:d < 10):(Nat.digitChar d).toNat=48 + d∧(UInt8.ofNat (48 + d)).toNat=48 + d:=by
 have:∀ d:Fin 10,(Nat.digitChar d.val).toNat=48 + d.val∧(UInt8.ofNat (48 + d.val)).toNat=48 + d.val:=by decide
 exact this ⟨d,h⟩
theorem digs_core:∀ (k n:Nat) (ds:List Char),(Nat.toDigitsCore 10 k n ds).map Char.toNat=(digitsIn k n).map UInt8.toNat ++ ds.map Char.toNat
 | 0,n,ds=>by simp [Nat.toDigitsCore,digitsIn]
 | k + 1,n,ds=>by
  have hd:=dig_char (n % 10) (Nat.mod_lt _ (by decide))
  unfold Nat.toDigitsCore digitsIn
  simp only []
  by_cases h:n < 10
  ·rw [if_pos (by omega),if_pos h]
   simp [hd.1]; omega
  ·rw [if_neg (by omega),if_neg h,digs_core k (n / 10)]
   simp [hd.1]; omega
theorem num10_eq (n:Nat):num10 n=(Nat.toDigits 10 n).map Char.toNat:=by
 unfold num10 decimal Nat.toDigits
 rw [digs_core]; simp
theorem num_text (n:Nat):(PySem.Str.ofString (toString (n:Int))).cps.toList=num10 n:=by
 rw [num10_eq]
 have:=PyProof.Rows.text_ofNat n
 show (PySem.Str.ofString (toString (Int.ofNat n))).cps.toList=_
 rw [this]
theorem num10_len {n k:Nat} (hk:1≤k) (h:n < 10 ^ k):(num10 n).length≤k:=by
 rw [num10_eq,List.length_map]
 exact PyProof.Rows.digits10_le hk h
end Vp
end
section
namespace Vp
open Vh VhPage
theorem lineCost_less {W d n:Nat} (h:d≤W) (b:Bool):lineCost (W - d) n b=lineCost W (n + d) b:=by
 unfold lineCost
 have e:(b=true∨W - d < n)↔(b=true∨W < n + d):=⟨fun h1=>h1.elim .inl fun h1=>.inr (by omega),fun h1=>h1.elim .inl fun h1=>.inr (by omega)⟩
 by_cases z:b=true∨W - d < n
 ·rw [if_pos z,if_pos (e.mp z)]
 ·rw [if_neg z,if_neg (fun y=>z (e.mpr y))]
  congr 1; omega
theorem best_less {W d:Nat} (h:d≤W):∀ (xs:List Nat) (c s:Nat) (t:List (Nat × Nat)) (b:Nat × Nat),1≤c→bestLine (W - d) c s xs t b=bestLine W c (s + d) xs t b
 | [],c,s,t,b,hc=>by unfold bestLine; rfl
 | x :: xs,c,s,t,b,hc=>by
  have h0:c≠0:=by omega
  show (if 1≤c∧W - d < (if c=0 then x else s + 1 + x) then b else bestLine (W - d) (c + 1) (if c=0 then x else s + 1 + x) xs (t.drop 1) (if c=0∨lineCost (W - d) (if c=0 then x else s + 1 + x) xs.isEmpty + (t.headD (0,0)).1≤b.1 then (lineCost (W - d) (if c=0 then x else s + 1 + x) xs.isEmpty + (t.headD (0,0)).1,c + 1) else b)) =
   (if 1≤c∧W < (if c=0 then x else s + d + 1 + x) then b else bestLine W (c + 1) (if c=0 then x else s + d + 1 + x) xs (t.drop 1) (if c=0∨lineCost W (if c=0 then x else s + d + 1 + x) xs.isEmpty + (t.headD (0,0)).1≤b.1 then (lineCost W (if c=0 then x else s + d + 1 + x) xs.isEmpty + (t.headD (0,0)).1,c + 1) else b))
  rw [if_neg h0,if_neg h0,lineCost_less h]
  have e1:s + 1 + x + d=s + d + 1 + x:=by omega
  rw [e1]
  by_cases z:W < s + d + 1 + x
  ·rw [if_pos ⟨hc,by omega⟩,if_pos ⟨hc,z⟩]
  ·have z1:¬ (1≤c∧W - d < s + 1 + x):=by omega
   have z2:¬ (1≤c∧W < s + d + 1 + x):=by omega
   rw [if_neg z1,if_neg z2,best_less h xs _ _ _ _ (by omega),e1]
theorem broken_note {W d:Nat} (h:d≤W) (ts:List Nat):broken (W - d) W (0 :: ts)=broken W W (d :: ts):=by
 have e:bestLine (W - d) 0 0 (0 :: ts) (costTable W ts) (0,0)=bestLine W 0 0 (d :: ts) (costTable W ts) (0,0):=by
  show bestLine (W - d) 1 0 ts ((costTable W ts).drop 1) (lineCost (W - d) 0 ts.isEmpty + ((costTable W ts).headD (0,0)).1,1)=bestLine W 1 d ts ((costTable W ts).drop 1) (lineCost W d ts.isEmpty + ((costTable W ts).headD (0,0)).1,1)
  rw [best_less h ts 1 0 _ _ (Nat.le_refl 1),lineCost_less h,Nat.zero_add]
 unfold broken
 simp only []
 rw [e]
theorem cnts_sum (r:Nat) (xs:List Nat):∀ (m i:Nat),xs.length - i=m→1≤i→i≤xs.length→i + (cnts r xs i).sum=xs.length:=by
 intro m
 induction m using Nat.strongRecOn with
 | _ m ih =>
  intro i hm h1 h2
  by_cases h:i < xs.length
  ·have c:=bst_count (room:=r) (T:=tab r xs) h
   rw [cnts_go r xs h1 h,List.sum_cons]
   have:=ih (xs.length - (i + (bst r xs (tab r xs) i).2)) (by omega) (i + (bst r xs (tab r xs) i).2) rfl (by omega) c.2
   omega
  ·rw [cnts_end r xs h1 (by omega)]; simp; omega
theorem broken_sum (fr r:Nat) (xs:List Nat) (h:0 < xs.length):(VhPage.broken fr r xs).sum=xs.length:=by
 rw [broken_eq fr r xs h,List.sum_cons]
 have c:=bst_count (room:=fr) (T:=tab r xs) h
 exact cnts_sum r xs _ _ rfl c.1 (by omega)
theorem cnts_pos (r:Nat) (xs:List Nat):∀ (m i:Nat),xs.length - i=m→1≤i→i≤xs.length→∀ c ∈ cnts r xs i,1≤c:=by
 intro m
 induction m using Nat.strongRecOn with
 | _ m ih =>
  intro i hm h1 h2
  by_cases h:i < xs.length
  ·have c:=bst_count (room:=r) (T:=tab r xs) h
   rw [cnts_go r xs h1 h]
   intro y hy
   rcases List.mem_cons.mp hy with z | z
   ·rw [z]; exact c.1
   ·exact ih (xs.length - (i + (bst r xs (tab r xs) i).2)) (by omega) (i + (bst r xs (tab r xs) i).2) rfl (by omega) c.2 y z
  ·rw [cnts_end r xs h1 (by omega)]; intro y hy; simp at hy
theorem broken_pos (fr r:Nat) (xs:List Nat) (h:0 < xs.length):∀ c ∈ VhPage.broken fr r xs,1≤c:=by
 rw [broken_eq fr r xs h]
 have c:=bst_count (room:=fr) (T:=tab r xs) h
 intro y hy
 rcases List.mem_cons.mp hy with z | z
 ·rw [z]; exact c.1
 ·exact cnts_pos r xs _ _ rfl c.1 (by omega) y z
end Vp
end
section
namespace Vp
open Vh VhPage
def Pr {α:Type} (r:Rd α) (pr:α→Bytes) (ok:α→Prop):Prop:=∀ p b x p' b',r p b=.ok (x,p',b')→b=pr x ++ b'∧p'=p + (pr x).length∧ok x
theorem Pr.bind {α β:Type} {r:Rd α} {f:α→Rd β} {pr:α→Bytes} {ok:α→Prop} {p:Nat} {b:Bytes} {y:β} {p':Nat} {b':Bytes} (hr:Pr r pr ok) (h:andThen r f p b=.ok (y,p',b')):∃ x b1,b=pr x ++ b1∧ok x∧f x (p + (pr x).length) b1=.ok (y,p',b'):=by
 unfold andThen at h
 cases e:r p b with
 | error i=>rw [e] at h; cases h
 | ok z =>
  rw [e] at h
  obtain ⟨x,p1,b1⟩:=z
  obtain ⟨h1,h2,h3⟩:=hr p b x p1 b1 e
  refine ⟨x,b1,h1,h3,?_⟩
  rw [← h2]; exact h
theorem head_cons {b:Bytes} {c:UInt8} (h:b.head?=some c):b=c :: b.drop 1:=by
 cases b with
 | nil=>simp at h
 | cons x b=>simp at h; subst h; rfl
theorem Pr.byte (c:UInt8):Pr (byte_ c) (fun _=>[c]) (fun _=>True):=by
 intro p b x p' b' h
 have h:(if b.head?=some c then behind (Vh.gives ()) else stray) p b=Except.ok (x,p',b'):=h
 by_cases hc:b.head?=some c
 ·rw [if_pos hc] at h
  cases h
  exact ⟨head_cons hc,rfl,trivial⟩
 ·rw [if_neg hc] at h
  cases h
theorem digs_fuel:∀ (j k n:Nat),n < j→n < k→digitsIn j n=digitsIn k n
 | 0,_,_,h,_=>by omega
 | _,0,_,_,h=>by omega
 | j + 1,k + 1,n,h1,h2=>by
  show (if n < 10 then [] else digitsIn j (n / 10)) ++ [UInt8.ofNat (48 + n % 10)]=(if n < 10 then [] else digitsIn k (n / 10)) ++ [UInt8.ofNat (48 + n % 10)]
  by_cases z:n < 10
  ·rw [if_pos z,if_pos z]
  ·rw [if_neg z,if_neg z,digs_fuel j k (n / 10) (by omega) (by omega)]
theorem dec_one {d:Nat} (h:d < 10):decimal d=[UInt8.ofNat (48 + d)]:=by
 unfold decimal
 show (if d < 10 then [] else digitsIn d (d / 10)) ++ [UInt8.ofNat (48 + d % 10)]=_
 rw [if_pos h,Nat.mod_eq_of_lt h]; rfl
theorem dec_more {m d:Nat} (hm:1≤m) (h:d < 10):decimal (10 * m + d)=decimal m ++ [UInt8.ofNat (48 + d)]:=by
 unfold decimal
 show (if 10 * m + d < 10 then [] else digitsIn (10 * m + d) ((10 * m + d) / 10)) ++ [UInt8.ofNat (48 + (10 * m + d) % 10)]=_
 have e1:(10 * m + d) / 10=m:=by omega
 have e2:(10 * m + d) % 10=d:=by omega
 rw [if_neg (by omega),e1,e2,digs_fuel (10 * m + d) (m + 1) m (by omega) (by omega)]
def decO:Option Nat→Bytes
 | none=>[]
 | some m=>decimal m
theorem digits_pr (lo hi:Nat):∀ (f:Nat) (v:Option Nat) (p:Nat) (b:Bytes) (x p':Nat) (b':Bytes),digits lo hi f v p b=.ok (x,p',b')→∃ ds,b=ds ++ b'∧p'=p + ds.length∧decimal x=decO v ++ ds∧lo≤x∧x≤hi
 | 0,v,p,b,x,p',b',h=>by cases h
 | f + 1,v,p,b,x,p',b',h=>by
  have h:(match (generalizing:=false) (b.head?.bind fun (c:UInt8)=>if isDigit c=false∨v=some 0 then none else if leadsTo lo hi (10 * v.getD 0 + (c.toNat - 48))=true then some (10 * v.getD 0 + (c.toNat - 48)) else none) with
   | some n=>behind (digits lo hi f (some n))
   | none=>match (generalizing:=false) v with
    | some n=>if lo≤n∧n≤hi then gives n else stray
    | none=>stray) p b=.ok (x,p',b'):=h
  generalize hn:(b.head?.bind fun (c:UInt8)=>if isDigit c=false∨v=some 0 then none else if leadsTo lo hi (10 * v.getD 0 + (c.toNat - 48))=true then some (10 * v.getD 0 + (c.toNat - 48)) else none)=more at h
  cases more with
  | some n =>
   simp only [] at h
   have hb:∃ c,b.head?=some c∧isDigit c=true∧v≠some 0∧n=10 * v.getD 0 + (c.toNat - 48):=by
    cases hc:b.head? with
    | none=>rw [hc] at hn; cases hn
    | some c =>
     rw [hc] at hn
     simp only [Option.bind_some] at hn
     split at hn
     ·cases hn
     ·rename_i z
      split at hn
      ·cases hn
       refine ⟨c,rfl,?_,fun y=>z (.inr y),rfl⟩
       cases y:isDigit c
       ·exact absurd (.inl y) z
       ·rfl
      ·cases hn
   obtain ⟨c,hc,hd,hv,rfl⟩:=hb
   obtain ⟨ds,h1,h2,h3,h4⟩:=digits_pr lo hi f _ _ _ x p' b' h
   have hd':=isDigit_iff.mp hd
   refine ⟨c :: ds,?_,?_,?_,h4⟩
   ·rw [head_cons hc,h1]; rfl
   ·rw [h2,List.length_cons]; omega
   ·rw [h3]
    have hcc:UInt8.ofNat (48 + (c.toNat - 48))=c:=by
     have:48 + (c.toNat - 48)=c.toNat:=by omega
     rw [this]; simp
    cases v with
    | none =>
     show decimal (10 * 0 + (c.toNat - 48)) ++ ds=c :: ds
     rw [Nat.mul_zero,Nat.zero_add,dec_one (by omega),hcc]; rfl
    | some m =>
     have hm:1≤m:=by
      rcases Nat.eq_zero_or_pos m with z | z
      ·subst z; exact absurd rfl hv
      ·exact z
     show decimal (10 * m + (c.toNat - 48)) ++ ds=decimal m ++ c :: ds
     rw [dec_more hm (by omega),hcc,List.append_assoc]; rfl
  | none =>
   cases v with
   | none=>cases h
   | some n =>
    simp only [] at h
    by_cases z:lo≤n∧n≤hi
    ·rw [if_pos z] at h
     cases h
     exact ⟨[],rfl,rfl,by simp [decO],z.1,z.2⟩
    ·rw [if_neg z] at h
     cases h
theorem Pr.num (lo hi:Nat):Pr (num lo hi) decimal (fun n=>lo≤n∧n≤hi):=by
 intro p b x p' b' h
 obtain ⟨ds,h1,h2,h3,h4⟩:=digits_pr lo hi 20 none p b x p' b' h
 have e:decimal x=ds:=h3
 rw [e]
 exact ⟨h1,h2,h4⟩
theorem Pr.tail {lo hi:Nat} (h128:128≤lo):Pr (tail_ lo hi) (fun a=>[UInt8.ofNat (a + 128)]) (fun a=>lo≤a + 128∧a + 128≤hi∧a + 128 < 256):=by
 intro p b x p' b' h
 unfold tail_ byNext at h
 simp only [] at h
 cases hc:b.head? with
 | none=>rw [hc] at h; cases h
 | some c =>
  rw [hc] at h
  have h:(if lo≤c.toNat∧c.toNat≤hi then behind (Vh.gives (c.toNat - 0x80)) else stray) p b=.ok (x,p',b'):=h
  by_cases z:lo≤c.toNat∧c.toNat≤hi
  ·rw [if_pos z] at h
   have h:(Except.ok (c.toNat - 0x80,p + 1,b.drop 1):Except Nat (Nat × Nat × Bytes))=Except.ok (x,p',b'):=h
   injection h with h
   injection h with h1 h2
   injection h2 with h2 h3
   subst h1 h2 h3
   have hlt:=c.toNat_lt
   have e:c.toNat - 128 + 128=c.toNat:=by omega
   refine ⟨?_,rfl,by omega,by omega,by omega⟩
   show b=[UInt8.ofNat (c.toNat - 128 + 128)] ++ b.drop 1
   rw [e]
   have:UInt8.ofNat c.toNat=c:=by simp
   rw [this]
   exact head_cons hc
  ·rw [if_neg z] at h
   cases h
theorem char1b {v:Nat} (h:v < 0x80):charOf v=[UInt8.ofNat v]:=by unfold charOf; rw [if_pos h]
theorem char2b {v:Nat} (h:0x80≤v) (h2:v < 0x800):charOf v=[UInt8.ofNat (0xC0 + v / 64),UInt8.ofNat (0x80 + v % 64)]:=by unfold charOf; rw [if_neg (by omega),if_pos h2]
theorem char3b {v:Nat} (h:0x800≤v) (h2:v < 0x10000):charOf v=[UInt8.ofNat (0xE0 + v / 4096),UInt8.ofNat (0x80 + v / 64 % 64),UInt8.ofNat (0x80 + v % 64)]:=by unfold charOf; rw [if_neg (by omega),if_neg (by omega),if_pos h2]
theorem char4b {v:Nat} (h:0x10000≤v):charOf v=[UInt8.ofNat (0xF0 + v / 262144),UInt8.ofNat (0x80 + v / 4096 % 64),UInt8.ofNat (0x80 + v / 64 % 64),UInt8.ofNat (0x80 + v % 64)]:=by unfold charOf; rw [if_neg (by omega),if_neg (by omega),if_neg (by omega)]
theorem u8_back (c:UInt8):UInt8.ofNat c.toNat=c:=by simp
theorem ok_inj {α:Type} {x y:α} {p q:Nat} {b d:Bytes} (h:(Except.ok (x,p,b):Except Nat (α × Nat × Bytes))=Except.ok (y,q,d)):x=y∧p=q∧b=d:=by
 injection h with h
 injection h with h1 h2
 injection h2 with h2 h3
 exact ⟨h1,h2,h3⟩
theorem starts_range {c:UInt8} (h:startsLetter c=true) (h2:¬ c.toNat < 0x80):0xC2≤c.toNat∧c.toNat≤0xF4:=by
 unfold startsLetter at h
 rw [if_neg h2] at h
 simpa using h
theorem Pr.letter:Pr letter_ charOf (fun n=>n < 0x110000):=by
 intro p b x p' b' h
 cases hc:b.head? with
 | none=>unfold letter_ byNext at h; rw [hc] at h; cases h
 | some c =>
  have hb:=head_cons hc
  have h:(if startsLetter c=false then stray
   else if c.toNat < 0x80 then behind (Vh.gives c.toNat)
   else if c.toNat < 0xE0 then behind (andThen (tail_ (if c.toNat=0xC2 then 0xA0 else 0x80) 0xBF) fun (a:Nat)=>Vh.gives ((c.toNat - 0xC0) * 64 + a))
   else if c.toNat < 0xF0 then behind (andThen (tail_ (if c.toNat=0xE0 then 0xA0 else 0x80) (if c.toNat=0xED then 0x9F else 0xBF)) fun (a:Nat)=>andThen (tail_ 0x80 (if c.toNat=0xEF∧a=63 then 0xBD else 0xBF)) fun (b:Nat)=>Vh.gives ((c.toNat - 0xE0) * 4096 + a * 64 + b))
   else behind (andThen (tail_ (if c.toNat=0xF0 then 0x90 else 0x80) (if c.toNat=0xF4 then 0x8F else 0xBF)) fun (a:Nat)=>andThen (tail_ 0x80 0xBF) fun (b:Nat)=>andThen (tail_ 0x80 (if a % 16=15∧b=63 then 0xBD else 0xBF)) fun (d:Nat)=>Vh.gives ((c.toNat - 0xF0) * 262144 + a * 4096 + b * 64 + d))) p b=.ok (x,p',b'):=by
   unfold letter_ byNext at h; rw [hc] at h; exact h
  by_cases hs:startsLetter c=false
  ·rw [if_pos hs] at h; cases h
  rw [if_neg hs] at h
  have hs':startsLetter c=true:=by simpa using hs
  by_cases h1:c.toNat < 0x80
  ·rw [if_pos h1] at h
   obtain ⟨rfl,rfl,rfl⟩:=ok_inj (x:=c.toNat) (p:=p + 1) (b:=b.drop 1) h
   rw [char1b h1,u8_back]
   exact ⟨hb,rfl,by omega⟩
  rw [if_neg h1] at h
  obtain ⟨r1,r2⟩:=starts_range hs' h1
  by_cases h2:c.toNat < 0xE0
  ·rw [if_pos h2] at h
   obtain ⟨u,b1,e1,⟨o1,o2,o3⟩,h⟩:=Pr.bind (Pr.tail (by split <;> omega)) (show andThen _ _ (p + 1) (b.drop 1)=_ from h)
   obtain ⟨rfl,rfl,rfl⟩:=ok_inj h
   have a1:0x80≤(c.toNat - 0xC0) * 64 + u:=by omega
   rw [char2b a1 (by omega)]
   have e2:0xC0 + ((c.toNat - 0xC0) * 64 + u) / 64=c.toNat:=by omega
   have e3:0x80 + ((c.toNat - 0xC0) * 64 + u) % 64=u + 128:=by omega
   rw [e2,e3,u8_back]
   refine ⟨?_,rfl,by omega⟩
   rw [hb,e1]; rfl
  rw [if_neg h2] at h
  by_cases h3:c.toNat < 0xF0
  ·rw [if_pos h3] at h
   obtain ⟨u,b1,e1,⟨o1,o2,o3⟩,h⟩:=Pr.bind (Pr.tail (by split <;> omega)) (show andThen _ _ (p + 1) (b.drop 1)=_ from h)
   obtain ⟨v,b2,e2,⟨q1,q2,q3⟩,h⟩:=Pr.bind (Pr.tail (by omega)) h
   obtain ⟨rfl,rfl,rfl⟩:=ok_inj h
   have u1:u < 64:=by
    have:(if c.toNat=0xED then 0x9F else 0xBF)≤0xBF:=by split <;> omega
    omega
   have v1:v < 64:=by
    have:(if c.toNat=0xEF∧u=63 then 0xBD else 0xBF)≤0xBF:=by split <;> omega
    omega
   have a1:0x800≤(c.toNat - 0xE0) * 4096 + u * 64 + v:=by
    by_cases z:c.toNat=0xE0
    ·rw [if_pos z] at o1; omega
    ·omega
   rw [char3b a1 (by omega)]
   have f2:0xE0 + ((c.toNat - 0xE0) * 4096 + u * 64 + v) / 4096=c.toNat:=by omega
   have f3:0x80 + ((c.toNat - 0xE0) * 4096 + u * 64 + v) / 64 % 64=u + 128:=by omega
   have f4:0x80 + ((c.toNat - 0xE0) * 4096 + u * 64 + v) % 64=v + 128:=by omega
   rw [f2,f3,f4,u8_back]
   refine ⟨?_,rfl,by omega⟩
   rw [hb,e1,e2]; rfl
  rw [if_neg h3] at h
  obtain ⟨u,b1,e1,⟨o1,o2,o3⟩,h⟩:=Pr.bind (Pr.tail (by split <;> omega)) (show andThen _ _ (p + 1) (b.drop 1)=_ from h)
  obtain ⟨v,b2,e2,⟨q1,q2,q3⟩,h⟩:=Pr.bind (Pr.tail (by omega)) h
  obtain ⟨t,b3,e3,⟨s1,s2,s3⟩,h⟩:=Pr.bind (Pr.tail (by omega)) h
  obtain ⟨rfl,rfl,rfl⟩:=ok_inj h
  have u1:u < 64∧(c.toNat=0xF4→u < 16)∧(c.toNat=0xF0→16≤u):=by
   refine ⟨?_,fun z=>?_,fun z=>?_⟩
   ·have:(if c.toNat=0xF4 then 0x8F else 0xBF)≤0xBF:=by split <;> omega
    omega
   ·rw [if_pos z] at o2; omega
   ·rw [if_pos z] at o1; omega
  have t1:t < 64:=by
   have:(if u % 16=15∧v=63 then 0xBD else 0xBF)≤0xBF:=by split <;> omega
   omega
  have v1:v < 64:=by omega
  have a1:0x10000≤(c.toNat - 0xF0) * 262144 + u * 4096 + v * 64 + t:=by omega
  rw [char4b a1]
  have f2:0xF0 + ((c.toNat - 0xF0) * 262144 + u * 4096 + v * 64 + t) / 262144=c.toNat:=by omega
  have f3:0x80 + ((c.toNat - 0xF0) * 262144 + u * 4096 + v * 64 + t) / 4096 % 64=u + 128:=by omega
  have f4:0x80 + ((c.toNat - 0xF0) * 262144 + u * 4096 + v * 64 + t) / 64 % 64=v + 128:=by omega
  have f5:0x80 + ((c.toNat - 0xF0) * 262144 + u * 4096 + v * 64 + t) % 64=t + 128:=by omega
  rw [f2,f3,f4,f5,u8_back]
  refine ⟨?_,rfl,by omega⟩
  rw [hb,e1,e2,e3]; rfl
end Vp
end
section
namespace Vp
open Vh VhPage
def ChOk (l:Letters):Prop:=∀ c ∈ l,c < 0x110000
theorem Pr.chars {mk:List UInt8} (hm:∀ c ∈ mk,c.toNat < 128):∀ k:Nat,Pr (chars_ mk k) spelt (fun l=>l.length≤k∧ChOk l)
 | 0=>by
  intro p b x p' b' h
  obtain ⟨rfl,rfl,rfl⟩:=ok_inj (x:=([]:Letters)) (p:=p) (b:=b) h
  exact ⟨rfl,rfl,Nat.le_refl _,fun c hc=>by simp at hc⟩
 | k + 1=>by
  intro p b x p' b' h
  have nil:∀ {x p' b'},(Vh.gives ([]:Letters)) p b=.ok (x,p',b')→b=spelt x ++ b'∧p'=p + (spelt x).length∧x.length≤k + 1∧ChOk x:=fun h=>by
   obtain ⟨rfl,rfl,rfl⟩:=ok_inj h
   exact ⟨rfl,rfl,Nat.zero_le _,fun c hc=>by simp at hc⟩
  cases hc:b.head? with
  | none =>
   unfold chars_ byNext at h; rw [hc] at h
   exact nil h
  | some c =>
   have hb:=head_cons hc
   have h:(if mk.contains c=true then behind (andThen (chars_ mk k) fun (r:Letters)=>Vh.gives (c.toNat :: r)) else if startsLetter c=true then (andThen letter_ fun (n:Nat)=>andThen (chars_ mk k) fun (r:Letters)=>Vh.gives (n :: r)) else Vh.gives []) p b=.ok (x,p',b'):=by
    unfold chars_ byNext at h; rw [hc] at h; exact h
   by_cases h1:mk.contains c=true
   ·rw [if_pos h1] at h
    obtain ⟨l,b1,e1,⟨o1,o2⟩,h⟩:=Pr.bind (Pr.chars hm k) (show andThen _ _ (p + 1) (b.drop 1)=_ from h)
    obtain ⟨rfl,rfl,rfl⟩:=ok_inj h
    have h2:=hm c (by simpa using h1)
    have e:spelt (c.toNat :: l)=c :: spelt l:=by
     show charOf c.toNat ++ spelt l=_
     rw [char1b h2,u8_back]; rfl
    rw [e]
    refine ⟨?_,?_,?_,?_⟩
    ·rw [hb,e1]; rfl
    ·rw [List.length_cons]; omega
    ·rw [List.length_cons]; omega
    ·intro d hd
     rcases List.mem_cons.mp hd with z | z
     ·rw [z]; omega
     ·exact o2 d z
   ·rw [if_neg h1] at h
    by_cases h2:startsLetter c=true
    ·rw [if_pos h2] at h
     obtain ⟨n,b1,e1,o1,h⟩:=Pr.bind Pr.letter h
     obtain ⟨l,b2,e2,⟨o2,o3⟩,h⟩:=Pr.bind (Pr.chars hm k) h
     obtain ⟨rfl,rfl,rfl⟩:=ok_inj h
     have e:spelt (n :: l)=charOf n ++ spelt l:=rfl
     rw [e]
     refine ⟨?_,?_,?_,?_⟩
     ·rw [e1,e2,List.append_assoc]
     ·rw [List.length_append]; omega
     ·rw [List.length_cons]; omega
     ·intro d hd
      rcases List.mem_cons.mp hd with z | z
      ·rw [z]; exact o1
      ·exact o3 d z
    ·rw [if_neg h2] at h
     exact nil h
def ThOk (k:Nat) (l:Letters):Prop:=l≠[]∧l.length≤k∧ChOk l
theorem Pr.some {mk:List UInt8} (hm:∀ c ∈ mk,c.toNat < 128) (k:Nat):Pr (someChars_ mk k) spelt (ThOk k):=by
 intro p b x p' b' h
 obtain ⟨l,b1,e1,⟨o1,o2⟩,h⟩:=Pr.bind (Pr.chars hm k) h
 by_cases z:l.isEmpty=true
 ·have h:(if l.isEmpty=true then stray else Vh.gives l) (p + (spelt l).length) b1=Except.ok (x,p',b'):=h
  rw [if_pos z] at h; cases h
 ·have h:(if l.isEmpty=true then stray else Vh.gives l) (p + (spelt l).length) b1=Except.ok (x,p',b'):=h
  rw [if_neg z] at h
  obtain ⟨rfl,rfl,rfl⟩:=ok_inj h
  exact ⟨e1,rfl,fun y=>z (by rw [y]; rfl),o1,o2⟩
theorem Pr.token:Pr token_ spelt (ThOk 64):=by
 intro p b x p' b' h
 have h:(if b.head?=Option.some 91∨b.head?=Option.some 35 then stray else someChars_ MARKBYTES 64) p b=Except.ok (x,p',b'):=h
 by_cases z:b.head?=Option.some 91∨b.head?=Option.some 35
 ·rw [if_pos z] at h; cases h
 ·rw [if_neg z] at h
  exact Pr.some (by decide) 64 p b x p' b' h
theorem Pr.row {one:Rd Letters} {ok:Letters→Prop} (h1:Pr one spelt ok):∀ k:Nat,Pr (row_ one k) (fun l=>ended (spelled l)) (fun l=>l≠[]∧l.length≤k∧∀ x ∈ l,ok x)
 | 0=>by intro p b x p' b' h; cases h
 | k + 1=>by
  intro p b x p' b' h
  obtain ⟨y,b1,e1,o1,h⟩:=Pr.bind h1 h
  have h:(if b1.head?=Option.some 10 then behind (Vh.gives [y]) else if k=0 then stray else andThen (byte_ 32) fun (_:Unit)=>andThen (row_ one k) fun (r:List Letters)=>Vh.gives (y :: r)) (p + (spelt y).length) b1=Except.ok (x,p',b'):=h
  by_cases z:b1.head?=Option.some 10
  ·rw [if_pos z] at h
   obtain ⟨rfl,rfl,rfl⟩:=ok_inj (x:=[y]) (p:=p + (spelt y).length + 1) (b:=b1.drop 1) h
   have e:ended (spelled [y])=spelt y ++ [10]:=rfl
   simp only []
   rw [e]
   refine ⟨?_,?_,by simp,by simp,fun x hx=>?_⟩
   ·rw [e1,List.append_assoc]; exact congrArg _ (head_cons z)
   ·rw [List.length_append]; rfl
   ·have:x=y:=by simpa using hx
    rw [this]; exact o1
  ·rw [if_neg z] at h
   by_cases z2:k=0
   ·rw [if_pos z2] at h; cases h
   ·rw [if_neg z2] at h
    obtain ⟨_,b2,e2,_,h⟩:=Pr.bind (Pr.byte 32) h
    obtain ⟨l,b3,e3,⟨o2,o3,o4⟩,h⟩:=Pr.bind (Pr.row h1 k) h
    obtain ⟨rfl,rfl,rfl⟩:=ok_inj h
    have e:ended (spelled (y :: l))=spelt y ++ 32 :: ended (spelled l):=by
     cases l with
     | nil=>exact absurd rfl o2
     | cons u l=>unfold ended spelled; simp [spaced]
    simp only []
    rw [e]
    refine ⟨?_,?_,by simp,?_,fun x hx=>?_⟩
    ·rw [e1,e2,e3]; simp
    ·rw [List.length_append,List.length_cons]; simp; omega
    ·rw [List.length_cons]; omega
    ·rcases List.mem_cons.mp hx with w | w
     ·rw [w]; exact o1
     ·exact o4 x w
theorem Pr.then_ (lo hi:Nat):Pr (VhPage.then_ lo hi) (fun n=>32 :: decimal n) (fun n=>lo≤n∧n≤hi):=by
 intro p b x p' b' h
 obtain ⟨_,b2,e2,_,h⟩:=Pr.bind (Pr.byte 32) h
 obtain ⟨h1,h2,h3⟩:=Pr.num lo hi _ _ _ _ _ h
 refine ⟨?_,?_,h3⟩
 ·rw [e2,h1]; rfl
 ·rw [h2,List.length_cons]; simp; omega
theorem Pr.settings:Pr settings_ (fun s=>ended (94 :: numbers [s.width,s.height,s.indent,s.every,s.anew,s.loose])) (fun s=>s.ok=true):=by
 intro p b x p' b' h
 obtain ⟨_,b0,e0,_,h⟩:=Pr.bind (Pr.byte 94) h
 obtain ⟨n1,b1,e1,o1,h⟩:=Pr.bind (Pr.num 20 240) h
 obtain ⟨n2,b2,e2,o2,h⟩:=Pr.bind (Pr.then_ 6 240) h
 obtain ⟨n3,b3,e3,o3,h⟩:=Pr.bind (Pr.then_ 1 16) h
 obtain ⟨n4,b4,e4,o4,h⟩:=Pr.bind (Pr.then_ 1 100) h
 obtain ⟨n5,b5,e5,o5,h⟩:=Pr.bind (Pr.then_ 0 1) h
 obtain ⟨n6,b6,e6,o6,h⟩:=Pr.bind (Pr.then_ 0 10000) h
 obtain ⟨_,b7,e7,_,h⟩:=Pr.bind (Pr.byte 10) h
 obtain ⟨rfl,rfl,rfl⟩:=ok_inj h
 refine ⟨?_,?_,?_⟩
 ·rw [e0,e1,e2,e3,e4,e5,e6,e7]; simp [ended,numbers,spaced]
 ·simp [ended,numbers,spaced]; omega
 ·simp [Settings.ok,inside,o1,o2,o3,o4,o5,o6]
def rowText (x:Nat × Nat × Nat):Bytes:=ended (40 :: numbers [x.1,x.2.1,x.2.2])
theorem Pr.widths:∀ (k lo:Nat),Pr (widths_ k lo) (fun l=>l.flatMap rowText) (fun l=>l.length≤k∧(∀ x ∈ l,lo≤x.1∧x.1≤x.2.1∧x.2.1≤LARGEST∧x.2.2≤2)∧l.Pairwise (fun x y=>x.2.1 < y.1))
 | 0,lo=>by
  intro p b x p' b' h
  obtain ⟨rfl,rfl,rfl⟩:=ok_inj (x:=([]:List (Nat × Nat × Nat))) (p:=p) (b:=b) h
  exact ⟨rfl,rfl,Nat.le_refl _,fun c hc=>by simp at hc,.nil⟩
 | k + 1,lo=>by
  intro p b x p' b' h
  have h:(if b.head?=Option.some 40∧lo≤LARGEST then behind (andThen (Vh.num lo LARGEST) fun (a:Nat)=>andThen (VhPage.then_ a LARGEST) fun (b:Nat)=>andThen (VhPage.then_ 0 2) fun (n:Nat)=>andThen (byte_ 10) fun (_:Unit)=>andThen (widths_ k (b + 1)) fun (r:List (Nat × Nat × Nat))=>Vh.gives ((a,b,n) :: r)) else Vh.gives []) p b=.ok (x,p',b'):=h
  by_cases z:b.head?=Option.some 40∧lo≤LARGEST
  ·rw [if_pos z] at h
   have hb:=head_cons z.1
   obtain ⟨n1,b1,e1,o1,h⟩:=Pr.bind (Pr.num lo LARGEST) (show andThen _ _ (p + 1) (b.drop 1)=_ from h)
   obtain ⟨n2,b2,e2,o2,h⟩:=Pr.bind (Pr.then_ n1 LARGEST) h
   obtain ⟨n3,b3,e3,o3,h⟩:=Pr.bind (Pr.then_ 0 2) h
   obtain ⟨_,b4,e4,_,h⟩:=Pr.bind (Pr.byte 10) h
   obtain ⟨l,b5,e5,⟨q1,q2,q3⟩,h⟩:=Pr.bind (Pr.widths k (n2 + 1)) h
   obtain ⟨rfl,rfl,rfl⟩:=ok_inj h
   refine ⟨?_,?_,?_,?_,?_⟩
   ·rw [hb,e1,e2,e3,e4,e5]; simp [rowText,ended,numbers,spaced]
   ·simp [rowText,ended,numbers,spaced]; omega
   ·rw [List.length_cons]; omega
   ·intro x hx
    rcases List.mem_cons.mp hx with w | w
    ·rw [w]; exact ⟨o1.1,o2.1,o2.2,o3.2⟩
    ·have:=q2 x w
     exact ⟨by omega,this.2⟩
   ·rw [List.pairwise_cons]
    exact ⟨fun y hy=>(q2 y hy).1,q3⟩
  ·rw [if_neg z] at h
   obtain ⟨rfl,rfl,rfl⟩:=ok_inj h
   exact ⟨rfl,rfl,Nat.zero_le _,fun c hc=>by simp at hc,.nil⟩
end Vp
end
section
namespace Vp
open Vh VhPage
def paraText (p:List Letters):Bytes:=ended (62 :: spelled p)
theorem Pr.lett (k:Nat):Pr (someLetters_ k) spelt (ThOk k):=by rw [someLetters_chars]; exact Pr.some (by simp) k
theorem Pr.paras:∀ (k n:Nat),Pr (paras_ k n) (fun l=>l.flatMap paraText) (fun l=>l.length≤k∧l.flatten.length≤n∧∀ q ∈ l,q≠[]∧∀ x ∈ q,ThOk 64 x)
 | 0,n=>by
  intro p b x p' b' h
  obtain ⟨rfl,rfl,rfl⟩:=ok_inj (x:=([]:List (List Letters))) (p:=p) (b:=b) h
  exact ⟨rfl,rfl,Nat.le_refl _,Nat.zero_le _,fun c hc=>by simp at hc⟩
 | k + 1,n=>by
  intro p b x p' b' h
  have h:(if b.head?=Option.some 62∧1≤n then behind (andThen (row_ (someLetters_ 64) n) fun (q:List Letters)=>andThen (paras_ k (n - q.length)) fun (r:List (List Letters))=>Vh.gives (q :: r)) else Vh.gives []) p b=.ok (x,p',b'):=h
  by_cases z:b.head?=Option.some 62∧1≤n
  ·rw [if_pos z] at h
   have hb:=head_cons z.1
   obtain ⟨q,b1,e1,⟨o1,o2,o3⟩,h⟩:=Pr.bind (Pr.row (Pr.lett 64) n) (show andThen _ _ (p + 1) (b.drop 1)=_ from h)
   obtain ⟨l,b2,e2,⟨q1,q2,q3⟩,h⟩:=Pr.bind (Pr.paras k (n - q.length)) h
   obtain ⟨rfl,rfl,rfl⟩:=ok_inj h
   refine ⟨?_,?_,?_,?_,?_⟩
   ·rw [hb,e1,e2]; simp [paraText,ended]
   ·simp [paraText,ended]; omega
   ·rw [List.length_cons]; omega
   ·rw [List.flatten_cons,List.length_append]; omega
   ·intro x hx
    rcases List.mem_cons.mp hx with w | w
    ·rw [w]; exact ⟨o1,o3⟩
    ·exact q3 x w
  ·rw [if_neg z] at h
   obtain ⟨rfl,rfl,rfl⟩:=ok_inj h
   exact ⟨rfl,rfl,Nat.zero_le _,Nat.zero_le _,fun c hc=>by simp at hc⟩
theorem spaced_cons (d:Bytes) (l:List Letters) (h:l≠[]):spaced (d :: l.map spelt)=d ++ 32 :: spelled l:=by
 cases l with
 | nil=>exact absurd rfl h
 | cons x l=>rfl
def signText (x:Nat × List Letters):Bytes:=ended (123 :: spaced (decimal x.1 :: x.2.map spelt))
theorem Pr.signs (n:Nat):∀ (k fr:Nat),Pr (signs_ n k fr) (fun l=>l.flatMap signText) (fun l=>l.length≤k∧∀ x ∈ l,fr≤x.1∧x.1 < n∧x.2≠[]∧x.2.length≤4∧∀ y ∈ x.2,ThOk 16 y)
 | 0,fr=>by
  intro p b x p' b' h
  obtain ⟨rfl,rfl,rfl⟩:=ok_inj (x:=([]:List (Nat × List Letters))) (p:=p) (b:=b) h
  exact ⟨rfl,rfl,Nat.le_refl _,fun c hc=>by simp at hc⟩
 | k + 1,fr=>by
  intro p b x p' b' h
  have h:(if b.head?=Option.some 123∧1≤n then behind (andThen (Vh.num fr (n - 1)) fun (i:Nat)=>andThen (byte_ 32) fun (_:Unit)=>andThen (row_ (someChars_ [94] 16) 4) fun (l:List Letters)=>andThen (signs_ n k i) fun (r:List (Nat × List Letters))=>Vh.gives ((i,l) :: r)) else Vh.gives []) p b=.ok (x,p',b'):=h
  by_cases z:b.head?=Option.some 123∧1≤n
  ·rw [if_pos z] at h
   have hb:=head_cons z.1
   obtain ⟨i,b1,e1,o1,h⟩:=Pr.bind (Pr.num fr (n - 1)) (show andThen _ _ (p + 1) (b.drop 1)=_ from h)
   obtain ⟨_,b2,e2,_,h⟩:=Pr.bind (Pr.byte 32) h
   obtain ⟨l,b3,e3,⟨q1,q2,q3⟩,h⟩:=Pr.bind (Pr.row (Pr.some (mk:=[94]) (by decide) 16) 4) h
   obtain ⟨r,b4,e4,⟨s1,s2⟩,h⟩:=Pr.bind (Pr.signs n k i) h
   obtain ⟨rfl,rfl,rfl⟩:=ok_inj h
   have et:signText (i,l)=123 :: (decimal i ++ 32 :: ended (spelled l)):=by
    unfold signText; rw [spaced_cons _ _ q1]; simp [ended]
   refine ⟨?_,?_,?_,?_⟩
   ·rw [hb,e1,e2,e3,e4]; simp [et]
   ·simp [et]; omega
   ·rw [List.length_cons]; omega
   ·intro x hx
    rcases List.mem_cons.mp hx with w | w
    ·rw [w]; exact ⟨o1.1,by have:=o1.2; show i < n; omega,q1,q2,q3⟩
    ·have:=s2 x w
     exact ⟨by have:=o1.1; omega,this.2⟩
  ·rw [if_neg z] at h
   obtain ⟨rfl,rfl,rfl⟩:=ok_inj h
   exact ⟨rfl,rfl,Nat.zero_le _,fun c hc=>by simp at hc⟩
def tokText (l:List Letters):Bytes:=(l.flatMap fun x=>32 :: spelt x) ++ [10]
theorem tok_row:∀ (l:List Letters),l≠[]→tokText l=32 :: ended (spelled l)
 | [],h=>absurd rfl h
 | [x],_=>by simp [tokText,ended,spelled,spaced]
 | x :: y :: l,_=>by
  have:=tok_row (y :: l) (by simp)
  have e:tokText (x :: y :: l)=32 :: spelt x ++ tokText (y :: l):=by unfold tokText; simp
  rw [e,this]
  simp [ended,spelled,spaced]
theorem Pr.tokens (k:Nat):Pr (tokens_ k) tokText (fun l=>l.length≤k∧∀ x ∈ l,ThOk 64 x):=by
 intro p b x p' b' h
 have h:(if b.head?=Option.some 10 then behind (Vh.gives []) else if k=0 then stray else andThen (byte_ 32) fun (_:Unit)=>row_ token_ k) p b=.ok (x,p',b'):=h
 by_cases z:b.head?=Option.some 10
 ·rw [if_pos z] at h
  obtain ⟨rfl,rfl,rfl⟩:=ok_inj (x:=([]:List Letters)) (p:=p + 1) (b:=b.drop 1) h
  exact ⟨head_cons z,rfl,Nat.zero_le _,fun c hc=>by simp at hc⟩
 ·rw [if_neg z] at h
  by_cases z2:k=0
  ·rw [if_pos z2] at h; cases h
  ·rw [if_neg z2] at h
   obtain ⟨_,b2,e2,_,h⟩:=Pr.bind (Pr.byte 32) h
   obtain ⟨h1,h2,h3,h4,h5⟩:=Pr.row Pr.token k _ _ _ _ _ h
   rw [tok_row x h3]
   refine ⟨?_,?_,h4,h5⟩
   ·rw [e2,h1]; rfl
   ·rw [h2,List.length_cons]; simp; omega
def entText (e:Entry):Bytes:=ended (91 :: spaced (decimal e.first :: (decimal e.count :: e.toks.map spelt)))
theorem ent_tok (e:Entry):entText e=91 :: (decimal e.first ++ 32 :: decimal e.count ++ tokText e.toks):=by
 unfold entText
 cases h:e.toks with
 | nil=>simp [ended,spaced,tokText]
 | cons x l =>
  rw [tok_row _ (by simp)]
  simp [ended,spaced,spelled]
theorem Pr.entries (n:Nat):∀ (k fr most:Nat),Pr (entries_ n k fr most) (fun l=>l.flatMap entText) (fun l=>l.length≤k∧(l.map fun e=>e.toks.length).sum≤most∧(∀ e ∈ l,fr≤e.first∧e.first + e.count≤n∧1≤n∧e.toks.length≤1024∧∀ y ∈ e.toks,ThOk 64 y)∧l.Pairwise (fun x y=>x.first≤y.first))
 | 0,fr,most=>by
  intro p b x p' b' h
  obtain ⟨rfl,rfl,rfl⟩:=ok_inj (x:=([]:List Entry)) (p:=p) (b:=b) h
  exact ⟨rfl,rfl,Nat.le_refl _,Nat.zero_le _,fun c hc=>by simp at hc,.nil⟩
 | k + 1,fr,most=>by
  intro p b x p' b' h
  have h:(if b.head?=Option.some 91∧1≤n then behind (andThen (Vh.num fr n) fun (f:Nat)=>andThen (VhPage.then_ 0 (n - f)) fun (m:Nat)=>andThen (tokens_ (min 1024 most)) fun (t:List Letters)=>andThen (entries_ n k f (most - t.length)) fun (r:List Entry)=>Vh.gives (⟨f,m,t⟩ :: r)) else Vh.gives []) p b=.ok (x,p',b'):=h
  by_cases z:b.head?=Option.some 91∧1≤n
  ·rw [if_pos z] at h
   have hb:=head_cons z.1
   obtain ⟨i,b1,e1,o1,h⟩:=Pr.bind (Pr.num fr n) (show andThen _ _ (p + 1) (b.drop 1)=_ from h)
   obtain ⟨m,b2,e2,o2,h⟩:=Pr.bind (Pr.then_ 0 (n - i)) h
   obtain ⟨l,b3,e3,⟨q1,q2⟩,h⟩:=Pr.bind (Pr.tokens (min 1024 most)) h
   obtain ⟨r,b4,e4,⟨s1,s2,s3,s4⟩,h⟩:=Pr.bind (Pr.entries n k i (most - l.length)) h
   obtain ⟨rfl,rfl,rfl⟩:=ok_inj h
   refine ⟨?_,?_,?_,?_,?_,?_⟩
   ·rw [hb,e1,e2,e3,e4]; simp [ent_tok]
   ·simp [ent_tok]; omega
   ·rw [List.length_cons]; omega
   ·rw [List.map_cons,List.sum_cons]; simp only []; omega
   ·intro x hx
    rcases List.mem_cons.mp hx with w | w
    ·rw [w]; exact ⟨o1.1,by show i + m≤n; omega,z.2,by show l.length≤1024; omega,q2⟩
    ·have:=s3 x w
     exact ⟨by have:=o1.1; omega,this.2⟩
   ·rw [List.pairwise_cons]
    exact ⟨fun y hy=>(s3 y hy).1,s4⟩
  ·rw [if_neg z] at h
   obtain ⟨rfl,rfl,rfl⟩:=ok_inj h
   exact ⟨rfl,rfl,Nat.zero_le _,Nat.zero_le _,fun c hc=>by simp at hc,.nil⟩
structure WOk (w:Work):Prop where
 set:w.set.ok=true
 rows:w.widths.length≤64
 row:∀ x ∈ w.widths,33≤x.1∧x.1≤x.2.1∧x.2.1≤LARGEST∧x.2.2≤2
 apart:w.widths.Pairwise (fun x y=>x.2.1 < y.1)
 paras:w.paras.length≤4096
 size:w.paras.flatten.length≤8192
 para:∀ q ∈ w.paras,q≠[]∧∀ x ∈ q,ThOk 64 x
 nsigns:w.signs.length≤4096
 sign:∀ x ∈ w.signs,x.1 < w.paras.flatten.length∧x.2≠[]∧x.2.length≤4∧∀ y ∈ x.2,ThOk 16 y
 nent:w.entries.length≤4096
 toks:(w.entries.map fun e=>e.toks.length).sum≤65536
 ent:∀ e ∈ w.entries,e.first + e.count≤w.paras.flatten.length∧1≤w.paras.flatten.length∧e.toks.length≤1024∧∀ y ∈ e.toks,ThOk 64 y
 rise:w.entries.Pairwise (fun x y=>x.first≤y.first)
theorem read_back {bs:Bytes} {w:Work} (h:readWork bs=.ok w):w.text=bs∧WOk w:=by
 unfold readWork readAll at h
 split at h
 ·cases h
 ·rename_i y hy
  obtain ⟨x,p',b'⟩:=y
  obtain ⟨s,b1,e1,o1,h1⟩:=Pr.bind Pr.settings hy
  obtain ⟨ws,b2,e2,⟨o2,o3,o4⟩,h2⟩:=Pr.bind (Pr.widths 64 33) h1
  obtain ⟨ps,b3,e3,⟨o5,o6,o7⟩,h3⟩:=Pr.bind (Pr.paras 4096 8192) h2
  obtain ⟨sg,b4,e4,⟨o8,o9⟩,h4⟩:=Pr.bind (Pr.signs ps.flatten.length 4096 0) h3
  obtain ⟨en,b5,e5,⟨q1,q2,q3,q4⟩,h5⟩:=Pr.bind (Pr.entries ps.flatten.length 4096 0 65536) h4
  have h5:∀ P,(if b5.head?.isNone=true then Vh.gives (⟨s,ws,ps,sg,en⟩:Work) else stray) P b5=Except.ok (x,p',b')→b5=[]∧x=⟨s,ws,ps,sg,en⟩:=fun P h5=>by
   by_cases z:b5.head?.isNone=true
   ·rw [if_pos z] at h5
    obtain ⟨rfl,_,_⟩:=ok_inj h5
    refine ⟨?_,rfl⟩
    cases b5 with
    | nil=>rfl
    | cons _ _=>simp at z
   ·rw [if_neg z] at h5; cases h5
  obtain ⟨hb5,hx⟩:=h5 _ (by assumption)
  cases h
  subst hx
  refine ⟨?_,⟨o1,o2,o3,o4,o5,o6,o7,o8,fun x hx=>(o9 x hx).2,q1,q2,fun e he=>(q3 e he).2,q4⟩⟩
  rw [e1,e2,e3,e4,e5,hb5]
  unfold Work.text Work.head
  simp only [List.append_assoc,List.append_nil]
  rfl
theorem rows_ok {w:Work} (h:WOk w):w.widths.Pairwise (fun x y=>x.2.1 < y.1)∧∀ x ∈ w.widths,x.1≤x.2.1:=⟨h.apart,fun x hx=>(h.row x hx).2.1⟩
end Vp
end
section
namespace Vp
open Vh VhPage
def chain:Nat→List Line→Nat→Prop
 | a,[],n=>a=n
 | a,l :: L,n=>l.first=a∧1≤l.count∧chain (a + l.count) L n
theorem chain_app:∀ {a b c:Nat} {L L':List Line},chain a L b→chain b L' c→chain a (L ++ L') c
 | a,b,c,[],L',h,h'=>by
  have:a=b:=h
  subst this; exact h'
 | a,b,c,l :: L,L',h,h'=>⟨h.1,h.2.1,chain_app h.2.2 h'⟩
theorem chain_rows:∀ (br:List Nat) (a:Nat) (b:Bool),(∀ c ∈ br,1≤c)→chain a (rowLines a b br) (a + br.sum)
 | [],a,b,_=>by show a=a + 0; rfl
 | c :: br,a,b,h=>by
  refine ⟨rfl,h c (by simp),?_⟩
  have:=chain_rows br (a + c) false (fun x hx=>h x (by simp [hx]))
  rw [List.sum_cons,← Nat.add_assoc]
  exact this
theorem lineOf_at {f:Nat}:∀ (L:List Line) (a n i:Nat),chain a L n→a≤f→i < L.length→(∀ t x,t < i→L[t]?=some x→x.first + x.count≤f)→(i + 1=L.length∨∃ x,L[i]?=some x∧f < x.first + x.count)→lineOf L f=i
 | [],a,n,i,_,_,hi,_,_=>by simp at hi
 | l :: L,a,n,0,hc,ha,hi,h2,h3=>by
  unfold lineOf
  rw [List.findIdx?_cons]
  by_cases z:lineHas f l=true
  ·rw [if_pos z]; rfl
  ·rw [if_neg z]
   have hnot:¬ f < l.first + l.count:=fun y=>z (by
    unfold lineHas
    have h1:l.first≤f:=by rw [hc.1]; exact ha
    simp [h1,y])
   rcases h3 with h3 | ⟨x,hx,h3⟩
   ·have:L=[]:=List.length_eq_zero_iff.mp (by rw [List.length_cons] at h3; omega)
    subst this; rfl
   ·simp at hx; subst hx; exact absurd h3 hnot
 | l :: L,a,n,i + 1,hc,ha,hi,h2,h3=>by
  have he:=h2 0 l (by omega) (by simp)
  have hno:lineHas f l=false:=by
   unfold lineHas
   have:¬ f < l.first + l.count:=by omega
   simp [this]
  have ih:=lineOf_at L (a + l.count) n i hc.2.2 (by rw [← hc.1]; exact he) (by simpa using hi) (fun t x ht hx=>h2 (t + 1) x (by omega) (by simpa using hx)) (by
   rcases h3 with h3 | ⟨x,hx,h3⟩
   ·exact .inl (by rw [List.length_cons] at h3; omega)
   ·exact .inr ⟨x,by simpa using hx,h3⟩)
  unfold lineOf at ih ⊢
  rw [List.findIdx?_cons,if_neg (by rw [hno]; decide)]
  cases hj:L.findIdx? (lineHas f) with
  | none =>
   rw [hj] at ih
   have ih:L.length - 1=i:=ih
   show (l :: L).length - 1=i + 1
   rw [List.length_cons]
   have:i < L.length:=by simpa using hi
   omega
  | some j =>
   rw [hj] at ih
   have ih:j=i:=ih
   show j + 1=i + 1
   omega
theorem chain_lines (s:Settings):∀ (ps:List (List Letters)) (a:Nat) (t:List Nat),(∀ q ∈ ps,q≠[])→ps.flatten.length≤t.length→chain a (linesFrom s a t ps) (a + ps.flatten.length)
 | [],a,t,_,_=>by show a=a + 0; rfl
 | q :: ps,a,t,h,ht=>by
  have hq:0 < q.length:=List.length_pos_iff.mpr (h q (by simp))
  rw [List.flatten_cons,List.length_append] at ht ⊢
  have hl:(t.take q.length).length=q.length:=by rw [List.length_take]; omega
  have h1:=chain_rows (broken (s.width - s.indent) s.width (t.take q.length)) a true (broken_pos _ _ _ (by omega))
  rw [broken_sum _ _ _ (by omega),hl] at h1
  have h2:=chain_lines s ps (a + q.length) (t.drop q.length) (fun x hx=>h x (by simp [hx])) (by rw [List.length_drop]; omega)
  rw [← Nat.add_assoc]
  exact chain_app h1 h2
end Vp
end
section
namespace Vp
open Vh VhPage
def ownN (L:Laid) (i k:Nat):Nat:=(L.footOf k (L.numberOf i k)).length
def restB (B:Nat→Nat) (n i:Nat):Nat:=((List.range (n - i)).map fun d=>B (i + d)).sum
theorem restB_step (B:Nat→Nat) {n i:Nat} (h:i < n):restB B n i=B i + restB B n (i + 1):=by
 unfold restB
 have e:n - i=(n - (i + 1)) + 1:=by omega
 rw [e,List.range_succ_eq_map,List.map_cons,List.sum_cons,List.map_map]
 congr 1
 congr 1
 apply List.map_congr_left
 intro d _
 show B (i + (d + 1))=B (i + 1 + d)
 congr 1; omega
theorem restB_end (B:Nat→Nat) {n i:Nat} (h:n≤i):restB B n i=0:=by
 unfold restB
 have e:n - i=0:=by omega
 rw [e]; rfl
theorem restB_le (B:Nat→Nat) (n:Nat):∀ i,restB B n i≤restB B n 0
 | 0=>Nat.le_refl _
 | i + 1=>by
  have ih:=restB_le B n i
  by_cases h:i < n
  ·rw [restB_step B h] at ih; omega
  ·rw [restB_end B (by omega)]; omega
def meas (L:Laid) (B:Nat→Nat) (i:Nat) (c:List (List Letters)):Nat:=2 * (L.lines.size - i) + c.length + restB B L.lines.size i
theorem ownFoot_one (L:Laid) (i:Nat):L.ownFoot i (i + 1)=L.footOf i (L.numberOf i i):=by
 unfold Laid.ownFoot
 have e:i + 1 - i=1:=by omega
 rw [e]; simp [List.range_succ]
theorem wholes_mem {L:Laid} {i:Nat} {c:List (List Letters)}:∀ (f j:Nat) (own:List (List Letters)) (p:Page),i≤j→p ∈ L.wholesFrom i c f j own→p.first=i∧1≤p.lines∧j + 1≤i + p.lines∧i + p.lines≤L.lines.size∧p.on=[]∧p.whole=true
 | 0,j,own,p,hj,h=>by simp [Laid.wholesFrom] at h
 | f + 1,j,own,p,hj,h=>by
  unfold Laid.wholesFrom at h
  split at h
  ·simp at h
  ·rename_i hs
   simp only [] at h
   split at h
   ·simp at h
   ·rcases List.mem_cons.mp h with rfl | h
    ·refine ⟨rfl,?_,?_,?_,rfl,rfl⟩
     ·show 1≤j + 1 - i; omega
     ·show j + 1≤i + (j + 1 - i); omega
     ·show i + (j + 1 - i)≤L.lines.size; omega
    ·have:=wholes_mem f (j + 1) _ p (by omega) h
     exact ⟨this.1,this.2.1,by omega,this.2.2.2⟩
theorem nexts_cases {L:Laid} {i:Nat} {c:List (List Letters)} {p:Page} (h:p ∈ L.nexts i c):(p.on=[]∧1≤p.lines∧p.whole=true∧p.first=i∧i + p.lines≤L.lines.size)∨(i < L.lines.size∧p=L.cutPage i c∧L.wholes i c=[]∧c.length + 3≤L.work.set.height)∨(c≠[]∧p=L.alonePage i c):=by
 unfold Laid.nexts at h
 simp only [] at h
 split at h
 ·left
  have hm:p ∈ L.wholesFrom i c L.work.set.height i []:=by unfold Laid.wholes at h; simpa using h
  have:=wholes_mem _ _ _ p (Nat.le_refl _) hm
  exact ⟨this.2.2.2.2.1,this.2.1,this.2.2.2.2.2,this.1,this.2.2.2.1⟩
 ·rename_i hw
  have hw:L.wholes i c=[]:=by
   cases z:L.wholes i c with
   | nil=>rfl
   | cons a b=>rw [z] at hw; simp at hw
  split at h
  ·rename_i hc
   right; left
   exact ⟨hc.1,by simpa using h,hw,hc.2⟩
  ·split at h
   ·simp at h
   ·rename_i hc
    right; right
    exact ⟨fun z=>hc (by rw [z]; rfl),by simpa using h⟩
theorem step_meas {L:Laid} {B:Nat→Nat} {i:Nat} {c:List (List Letters)} {p:Page} (hB:∀ i k,ownN L i k≤B k) (hh:6≤L.work.set.height) (h:p ∈ L.nexts i c) (hn:¬ (p.on.isEmpty=true∧1≤p.lines)):meas L B (i + p.lines) p.on < meas L B i c:=by
 rcases nexts_cases h with h | ⟨h1,rfl,_⟩ | ⟨h1,rfl⟩
 ·exact absurd ⟨by rw [h.1]; rfl,h.2.1⟩ hn
 ·unfold meas
  have e1:(L.cutPage i c).lines=1:=rfl
  have e2:(L.cutPage i c).on=(c ++ L.ownFoot i (i + 1)).drop (L.work.set.height - 2):=rfl
  rw [e1,e2,ownFoot_one,List.length_drop,List.length_append,restB_step B h1]
  have:=hB i i
  unfold ownN at this
  omega
 ·unfold meas
  have e1:(L.alonePage i c).lines=0:=rfl
  have e2:(L.alonePage i c).on=c.drop (L.work.set.height - 1):=rfl
  rw [e1,e2,List.length_drop,Nat.add_zero]
  have:=List.length_pos_iff.mpr h1
  omega
theorem from_congr {L:Laid} {K K':Nat→Nat × List Page}:∀ (f i:Nat) (c:List (List Letters)),(∀ j,i < j→K j=K' j)→L.pagesFrom K f i c=L.pagesFrom K' f i c
 | 0,i,c,h=>rfl
 | f + 1,i,c,h=>by
  unfold Laid.pagesFrom
  split
  ·rfl
  ·congr 1
   apply List.map_congr_left
   intro p hp
   congr 1
   split
   ·rename_i z; exact h _ (by omega)
   ·exact from_congr f _ _ (fun j hj=>h j (by omega))
theorem from_fuel {L:Laid} {B:Nat→Nat} {K:Nat→Nat × List Page} (hB:∀ i k,ownN L i k≤B k) (hh:6≤L.work.set.height):∀ (f f' i:Nat) (c:List (List Letters)),meas L B i c < f→meas L B i c < f'→L.pagesFrom K f i c=L.pagesFrom K f' i c
 | 0,_,_,_,h,_=>by omega
 | _ + 1,0,_,_,_,h=>by omega
 | f + 1,f' + 1,i,c,h,h'=>by
  unfold Laid.pagesFrom
  split
  ·rfl
  ·congr 1
   apply List.map_congr_left
   intro p hp
   congr 1
   split
   ·rfl
   ·rename_i z
    have:=step_meas hB hh hp z
    exact from_fuel hB hh f f' _ _ (by omega) (by omega)
theorem all_len (L:Laid):∀ k,(L.allFrom k).length=k
 | 0=>rfl
 | k + 1=>by unfold Laid.allFrom; simp only [List.length_cons]; rw [all_len L k]
theorem all_drop (L:Laid):∀ d k,(L.allFrom (k + d)).drop d=L.allFrom k
 | 0,k=>by simp
 | d + 1,k=>by
  have e:k + (d + 1)=(k + d) + 1:=by omega
  rw [e]
  conv=>lhs; unfold Laid.allFrom
  simp only [List.drop_succ_cons]
  exact all_drop L d k
def kn (L:Laid) (j:Nat):Nat × List Page:=(L.allFrom L.lines.size).getD j (0,[])
theorem kn_eq (L:Laid) {i:Nat} (h:i < L.lines.size):kn L i=L.pagesFrom (kn L) L.most i []:=by
 have e:L.lines.size=(L.lines.size - i) + i:=by omega
 have h1:(L.allFrom L.lines.size).getD i (0,[])=(L.allFrom (L.lines.size - i)).getD 0 (0,[]):=by
  have:=all_drop L i (L.lines.size - i)
  rw [← e] at this
  rw [← this]; simp [List.getD_eq_getElem?_getD]
 obtain ⟨k,hk⟩:∃ k,L.lines.size - i=k + 1:=⟨L.lines.size - i - 1,by omega⟩
 unfold kn
 rw [h1,hk]
 conv=>lhs; unfold Laid.allFrom
 simp only [List.getD_cons_zero]
 have ei:L.lines.size - (k + 1)=i:=by omega
 rw [ei]
 apply from_congr
 intro j hj
 have h2:(L.allFrom L.lines.size).drop (i + 1)=L.allFrom k:=by
  have:=all_drop L (i + 1) k
  have e2:k + (i + 1)=L.lines.size:=by omega
  rw [e2] at this; exact this
 rw [← h2]
 simp only [List.getD_eq_getElem?_getD,List.getElem?_drop]
 congr 2; omega
theorem kn_end (L:Laid) {j:Nat} (h:L.lines.size≤j):kn L j=(0,[]):=by
 unfold kn
 rw [List.getD_eq_getElem?_getD,List.getElem?_eq_none (by rw [all_len]; exact h)]; rfl
def best (L:Laid) (B:Nat→Nat) (i:Nat) (c:List (List Letters)):Nat × List Page:=L.pagesFrom (kn L) (meas L B i c + 1) i c
theorem best_end (L:Laid) (B:Nat→Nat) {i:Nat} (h:L.lines.size≤i):best L B i []=(0,[]):=by
 unfold best Laid.pagesFrom
 rw [if_pos ⟨h,rfl⟩]
structure Fits (L:Laid) (B:Nat→Nat):Prop where
 own:∀ i k,ownN L i k≤B k
 high:6≤L.work.set.height
 most:restB B L.lines.size 0 + 2 * L.lines.size + 1≤L.most
theorem kn_best {L:Laid} {B:Nat→Nat} (hF:Fits L B) (j:Nat):kn L j=best L B j []:=by
 by_cases h:j < L.lines.size
 ·rw [kn_eq L h]
  unfold best
  refine from_fuel hF.own hF.high _ _ _ _ ?_ (by omega)
  unfold meas
  have:=restB_le B L.lines.size j
  have:=hF.most
  simp only [List.length_nil]
  omega
 ·rw [kn_end L (by omega),best_end L B (by omega)]
theorem best_eq {L:Laid} {B:Nat→Nat} (hF:Fits L B) (i:Nat) (c:List (List Letters)):best L B i c=if L.lines.size≤i∧c.isEmpty=true then (0,[]) else firstOf ((L.nexts i c).map fun p=>L.with_ p (best L B (i + p.lines) p.on)):=by
 conv=>lhs; unfold best Laid.pagesFrom
 split
 ·rfl
 ·congr 1
  apply List.map_congr_left
  intro p hp
  congr 1
  split
  ·rename_i z
   rw [kn_best hF,List.isEmpty_iff.mp z.1]
  ·rename_i z
   have:=step_meas hF.own hF.high hp z
   unfold best
   exact from_fuel hF.own hF.high _ _ _ _ (by omega) (by omega)
theorem pages_best {L:Laid} {B:Nat→Nat} (hF:Fits L B):L.pages=(best L B 0 []).2:=by
 rw [← kn_best hF 0]
 unfold Laid.pages kn
 cases L.allFrom L.lines.size <;> rfl
def lastMin {α:Type} (xs:List (Nat × α)):Option (Nat × α):=xs.foldl (fun b y=>match b with
 | none=>some y
 | some x=>if y.1≤x.1 then some y else some x) none
def min2 (a b:Nat × List Page):Nat × List Page:=if b.1 < a.1 then b else a
theorem min2_assoc (a b c:Nat × List Page):min2 (min2 a b) c=min2 a (min2 b c):=by
 unfold min2
 by_cases h1:b.1 < a.1 <;> by_cases h2:c.1 < b.1 <;> simp [h1,h2]
 ·intro h; omega
 ·intro h; omega
theorem fold_min2:∀ (r:List (Nat × List Page)) (y x:Nat × List Page),r.foldl min2 (min2 y x)=min2 y (r.foldl min2 x)
 | [],y,x=>rfl
 | z :: r,y,x=>by
  rw [List.foldl_cons,List.foldl_cons,min2_assoc,fold_min2 r]
theorem lastMin_snoc {α:Type} (xs:List (Nat × α)) (y:Nat × α):lastMin (xs ++ [y])=match lastMin xs with
 | none=>some y
 | some x=>if y.1≤x.1 then some y else some x:=by
 unfold lastMin
 rw [List.foldl_append]; rfl
theorem snoc_ind {α:Type} {Q:List α→Prop} (h0:Q []) (hs:∀ xs y,Q xs→Q (xs ++ [y])) (xs:List α):Q xs:=by
 have:∀ (n:Nat) (xs:List α),xs.length=n→Q xs:=by
  intro n
  induction n with
  | zero=>intro xs h; rw [List.length_eq_zero_iff.mp h]; exact h0
  | succ n ih =>
   intro xs h
   have hne:xs≠[]:=fun z=>by rw [z] at h; cases h
   rcases List.eq_nil_or_concat xs with z | ⟨l,b,z⟩
   ·exact absurd z hne
   ·rw [z,List.concat_eq_append] at h ⊢
    exact hs _ _ (ih _ (by simpa using h))
 exact this _ _ rfl
theorem lastMin_some {α:Type} (xs:List (Nat × α)) (h:xs≠[]):∃ b,lastMin xs=some b∧b ∈ xs:=by
 refine snoc_ind (Q:=fun xs=>xs≠[]→∃ b,lastMin xs=some b∧b ∈ xs) (fun h=>absurd rfl h) ?_ xs h
 intro xs y ih _
 rw [lastMin_snoc]
 by_cases hx:xs=[]
 ·subst hx; exact ⟨y,rfl,by simp⟩
 ·obtain ⟨b,hb,hm⟩:=ih hx
  rw [hb]
  simp only []
  split
  ·exact ⟨y,rfl,by simp⟩
  ·exact ⟨b,rfl,by simp [hm]⟩
theorem firstOf_rev (xs:List (Nat × List Page)):firstOf xs.reverse=(lastMin xs).getD (0,[]):=by
 refine snoc_ind (Q:=fun xs=>firstOf xs.reverse=(lastMin xs).getD (0,[])) rfl ?_ xs
 intro xs y ih
 rw [lastMin_snoc,List.reverse_append]
 show firstOf (y :: xs.reverse)=_
 by_cases hx:xs=[]
 ·subst hx; rfl
 ·obtain ⟨b,hb,_⟩:=lastMin_some xs hx
  rw [hb] at ih ⊢
  obtain ⟨x,r,hr⟩:∃ x r,xs.reverse=x :: r:=by
   cases z:xs.reverse with
   | nil=>simp at z; exact absurd z hx
   | cons x r=>exact ⟨x,r,rfl⟩
  rw [hr] at ih ⊢
  have ih:r.foldl min2 x=b:=ih
  show (x :: r).foldl min2 y=_
  rw [List.foldl_cons,fold_min2,ih]
  unfold min2
  simp only []
  split <;> split
  ·omega
  ·rfl
  ·rfl
  ·omega
theorem lastMin_map {α β:Type} (g:α→β) (xs:List (Nat × α)):lastMin (xs.map fun y=>(y.1,g y.2))=(lastMin xs).map fun y=>(y.1,g y.2):=by
 refine snoc_ind (Q:=fun xs=>lastMin (xs.map fun y=>(y.1,g y.2))=(lastMin xs).map fun y=>(y.1,g y.2)) rfl ?_ xs
 intro xs y ih
 rw [List.map_append,List.map_cons,List.map_nil,lastMin_snoc,lastMin_snoc,ih]
 cases lastMin xs with
 | none=>rfl
 | some b =>
  simp only [Option.map_some]
  split <;> rfl
end Vp
end
section
namespace Vp
open Vh VhPage
def ownS (L:Laid) (i k:Nat):Nat:=(L.ownFoot i k).length
theorem ownFoot_succ (L:Laid) {i k:Nat} (h:i≤k):L.ownFoot i (k + 1)=L.ownFoot i k ++ L.footOf k (L.numberOf i k):=by
 unfold Laid.ownFoot
 have e:k + 1 - i=(k - i) + 1:=by omega
 have e2:i + (k - i)=k:=by omega
 rw [e,List.range_succ,List.flatMap_append]
 simp [e2]
theorem ownFoot_nil (L:Laid) (i:Nat):L.ownFoot i i=[]:=by
 unfold Laid.ownFoot; simp
theorem ownS_nil (L:Laid) (i:Nat):ownS L i i=0:=by unfold ownS; rw [ownFoot_nil]; rfl
theorem ownS_succ (L:Laid) {i k:Nat} (h:i≤k):ownS L i (k + 1)=ownS L i k + ownN L i k:=by
 unfold ownS ownN; rw [ownFoot_succ L h,List.length_append]
theorem ownS_one (L:Laid) (i:Nat):ownS L i (i + 1)=ownN L i i:=by rw [ownS_succ L (Nat.le_refl _),ownS_nil,Nat.zero_add]
def whole (L:Laid) (i:Nat) (c:List (List Letters)) (k:Nat):Page:=⟨i,k + 1 - i,c.length,ownS L i (k + 1),c ++ L.ownFoot i (k + 1),[],true⟩
def wantK (L:Laid) (i C k:Nat):Nat:=wantsOf (k + 1 - i) (C + ownS L i (k + 1))
theorem whole_wants (L:Laid) (i:Nat) (c:List (List Letters)) (k:Nat):(whole L i c k).wants=wantK L i c.length k:=by
 unfold Page.wants whole wantK ownS
 simp only [List.length_append]
def wl (L:Laid) (i:Nat) (c:List (List Letters)):List Page:=L.wholesFrom i c L.work.set.height i []
theorem wholes_wl (L:Laid) (i:Nat) (c:List (List Letters)):L.wholes i c=(wl L i c).reverse:=rfl
theorem from_whole (L:Laid) (i:Nat) (c:List (List Letters)) (f:Nat) {j:Nat} (h:i≤j):L.wholesFrom i c (f + 1) j (L.ownFoot i j)=if L.lines.size≤j then [] else if L.work.set.height < wantK L i c.length j then [] else whole L i c j :: L.wholesFrom i c f (j + 1) (L.ownFoot i (j + 1)):=by
 conv=>lhs; unfold Laid.wholesFrom
 rw [← ownFoot_succ L h,← whole_wants]
 rfl
theorem wfrom_eq (L:Laid) (i:Nat) (c:List (List Letters)) (d:Nat) (h1:i + d≤L.lines.size) (h2:∀ e,e < d→wantK L i c.length (i + e)≤L.work.set.height) (h3:L.lines.size≤i + d∨L.work.set.height < wantK L i c.length (i + d)):∀ (m f j:Nat),d=j + m→m≤f→L.wholesFrom i c f (i + j) (L.ownFoot i (i + j))=(List.range m).map fun e=>whole L i c (i + (j + e))
 | 0,0,j,_,_=>rfl
 | 0,f + 1,j,hd,_=>by
  rw [from_whole L i c f (by omega)]
  have e:d=j:=by omega
  subst e
  rcases h3 with h3 | h3
  ·rw [if_pos h3]; rfl
  ·rw [if_pos h3]; simp
 | m + 1,0,j,_,hf=>by omega
 | m + 1,f + 1,j,hd,hf=>by
  rw [from_whole L i c f (by omega),if_neg (by omega),if_neg (by have:=h2 j (by omega); omega)]
  have ih:=wfrom_eq L i c d h1 h2 h3 m f (j + 1) (by omega) (by omega)
  rw [show i + j + 1=i + (j + 1) by omega,ih,List.range_succ_eq_map,List.map_cons,List.map_map]
  congr 1
  apply List.map_congr_left
  intro e _
  show whole L i c (i + (j + 1 + e))=whole L i c (i + (j + (e + 1)))
  congr 1; omega
theorem wl_eq (L:Laid) (i:Nat) (c:List (List Letters)) (d:Nat) (h1:i + d≤L.lines.size) (h2:∀ e,e < d→wantK L i c.length (i + e)≤L.work.set.height) (h3:L.lines.size≤i + d∨L.work.set.height < wantK L i c.length (i + d)):wl L i c=(List.range d).map fun e=>whole L i c (i + e):=by
 have hd:d≤L.work.set.height:=by
  cases d with
  | zero=>omega
  | succ d =>
   have:=h2 d (by omega)
   unfold wantK wantsOf at this
   omega
 have:=wfrom_eq L i c d h1 h2 h3 d L.work.set.height 0 (by omega) hd
 rw [Nat.add_zero,ownFoot_nil] at this
 unfold wl
 rw [this]
 apply List.map_congr_left
 intro e _
 rw [Nat.zero_add]
theorem wl_ex (L:Laid) (i:Nat) (c:List (List Letters)) (hi:i≤L.lines.size):∃ d,i + d≤L.lines.size∧(∀ e,e < d→wantK L i c.length (i + e)≤L.work.set.height)∧(L.lines.size≤i + d∨L.work.set.height < wantK L i c.length (i + d)):=by
 have:∀ m d,i + d + m=L.lines.size→(∀ e,e < d→wantK L i c.length (i + e)≤L.work.set.height)→∃ d,i + d≤L.lines.size∧(∀ e,e < d→wantK L i c.length (i + e)≤L.work.set.height)∧(L.lines.size≤i + d∨L.work.set.height < wantK L i c.length (i + d)):=by
  intro m
  induction m with
  | zero=>intro d h h2; exact ⟨d,by omega,h2,.inl (by omega)⟩
  | succ m ih =>
   intro d h h2
   by_cases z:L.work.set.height < wantK L i c.length (i + d)
   ·exact ⟨d,by omega,h2,.inr z⟩
   ·refine ih (d + 1) (by omega) fun e he=>?_
    by_cases y:e=d
    ·subst y; omega
    ·exact h2 e (by omega)
 exact this (L.lines.size - i) 0 (by omega) (fun e he=>by omega)
theorem wl_nil (L:Laid) (i:Nat) (c:List (List Letters)) (hi:i≤L.lines.size):wl L i c=[]↔(L.lines.size≤i∨L.work.set.height < wantK L i c.length i):=by
 obtain ⟨d,h1,h2,h3⟩:=wl_ex L i c hi
 rw [wl_eq L i c d h1 h2 h3]
 cases d with
 | zero=>simp; simpa using h3
 | succ d =>
  have:=h2 0 (by omega)
  rw [Nat.add_zero] at this
  constructor
  ·intro z; simp [List.range_succ] at z
  ·intro z; omega
theorem wl_mem (L:Laid) (i:Nat) (c:List (List Letters)) (hi:i≤L.lines.size) {p:Page} (hp:p ∈ wl L i c):∃ k,i≤k∧k < L.lines.size∧p=whole L i c k∧wantK L i c.length k≤L.work.set.height:=by
 obtain ⟨d,h1,h2,h3⟩:=wl_ex L i c hi
 rw [wl_eq L i c d h1 h2 h3,List.mem_map] at hp
 obtain ⟨e,he,rfl⟩:=hp
 rw [List.mem_range] at he
 exact ⟨i + e,by omega,by omega,rfl,h2 e he⟩
def looseC (L:Laid) (i e:Nat):Nat:=(if (L.line (e - 1)).begins=true∧(L.line (e - 1)).ends=false then L.work.set.loose else 0) + (if (L.line i).ends=true∧(L.line i).begins=false then L.work.set.loose else 0)
def wcost (L:Laid) (i e w:Nat):Nat:=looseC L i e + (if e < L.lines.size then (L.work.set.height - w) ^ 2 else 0)
theorem pageCost_whole (L:Laid) (i:Nat) (c:List (List Letters)) {k:Nat} (h:i≤k) (last:Bool) (hl:last=decide (L.lines.size≤k + 1)):L.pageCost (whole L i c k) last=wcost L i (k + 1) (wantK L i c.length k):=by
 unfold Laid.pageCost
 have e0:(whole L i c k).whole=true:=rfl
 have e1:(whole L i c k).first=i:=rfl
 have e2:(whole L i c k).lines=k + 1 - i:=rfl
 have e3:i + (k + 1 - i) - 1=k:=by omega
 rw [e0,if_neg (by decide),whole_wants]
 unfold wcost Laid.looseEnds looseC
 simp only [e1,e2,e3,hl]
 by_cases z:k + 1 < L.lines.size
 ·rw [if_neg (by simp; omega),if_pos z,Nat.add_comm]; rfl
 ·rw [if_pos (by simp; omega),if_neg z]; simp
theorem firstOf_mem (l:List (Nat × List Page)) (h:l≠[]):firstOf l ∈ l:=by
 have:=firstOf_rev l.reverse
 rw [List.reverse_reverse] at this
 obtain ⟨b,hb,hm⟩:=lastMin_some l.reverse (by simpa using h)
 rw [this,hb]
 simpa using hm
variable {L:Laid} {B:Nat→Nat}
theorem nexts_ne (hh:6≤L.work.set.height) {i:Nat} {c:List (List Letters)} (h:i < L.lines.size∨c≠[]):L.nexts i c≠[]:=by
 unfold Laid.nexts
 simp only []
 split
 ·rename_i z; intro y; rw [y] at z; simp at z
 ·split
  ·simp
  ·rename_i z
   split
   ·rename_i y
    have y:c=[]:=List.isEmpty_iff.mp y
    subst y
    rcases h with h | h
    ·exact absurd ⟨h,by simp only [List.length_nil]; omega⟩ z
    ·exact absurd rfl h
   ·simp
theorem best_ne (hF:Fits L B) {i:Nat} {c:List (List Letters)} (h:i < L.lines.size∨c≠[]):(best L B i c).2≠[]:=by
 rw [best_eq hF,if_neg (by
  rintro ⟨h1,h2⟩
  rcases h with h | h
  ·omega
  ·exact h (List.isEmpty_iff.mp h2))]
 have:=firstOf_mem ((L.nexts i c).map fun p=>L.with_ p (best L B (i + p.lines) p.on)) (by
  intro z
  exact nexts_ne hF.high h (List.map_eq_nil_iff.mp z))
 obtain ⟨p,_,hp⟩:=List.mem_map.mp this
 rw [← hp]
 unfold Laid.with_
 simp
theorem best_empty (hF:Fits L B) {j:Nat} (c:List (List Letters)):(best L B j c).2.isEmpty=(decide (L.lines.size≤j) && c.isEmpty):=by
 by_cases h:j < L.lines.size∨c≠[]
 ·have h1:=best_ne hF h
  have:(best L B j c).2.isEmpty=false:=by
   cases z:(best L B j c).2 with
   | nil=>exact absurd z h1
   | cons a b=>rfl
  rw [this]
  rcases h with h | h
  ·have:¬ L.lines.size≤j:=by omega
   simp [this]
  ·cases c with
   | nil=>exact absurd rfl h
   | cons a b=>simp
 ·have hc:c=[]:=Classical.byContradiction fun z=>h (.inr z)
  subst hc
  have hj:L.lines.size≤j:=Classical.byContradiction fun z=>h (.inl (by omega))
  rw [best_end L B hj]; simp [hj]
def cst (L:Laid) (B:Nat→Nat) (i:Nat) (p:Page):Nat:=wcost L i (i + p.lines) p.wants + (best L B (i + p.lines) []).1
def bestP (L:Laid) (B:Nat→Nat) (i:Nat) (xs:List Page):Option (Nat × Page):=lastMin (xs.map fun p=>(cst L B i p,p))
theorem bestP_snoc (L:Laid) (B:Nat→Nat) (i:Nat) (xs:List Page) (p:Page):bestP L B i (xs ++ [p])=match bestP L B i xs with
 | none=>some (cst L B i p,p)
 | some x=>if cst L B i p≤x.1 then some (cst L B i p,p) else some x:=by
 unfold bestP
 rw [List.map_append,List.map_cons,List.map_nil,lastMin_snoc]
 cases lastMin (List.map (fun p=>(cst L B i p,p)) xs) <;> rfl
theorem bestP_some (L:Laid) (B:Nat→Nat) (i:Nat) (xs:List Page) (h:xs≠[]):∃ p,p ∈ xs∧bestP L B i xs=some (cst L B i p,p):=by
 obtain ⟨b,hb,hm⟩:=lastMin_some (xs.map fun p=>(cst L B i p,p)) (by simpa using h)
 obtain ⟨p,hp,rfl⟩:=List.mem_map.mp hm
 exact ⟨p,hp,hb⟩
theorem best_whole (hF:Fits L B) {i:Nat} {c:List (List Letters)} (hi:i≤L.lines.size) (hw:wl L i c≠[]):∃ p,p ∈ wl L i c∧bestP L B i (wl L i c)=some (cst L B i p,p)∧best L B i c=(cst L B i p,p :: (best L B (i + p.lines) []).2):=by
 obtain ⟨p,hp,hb⟩:=bestP_some L B i _ hw
 refine ⟨p,hp,hb,?_⟩
 have hn:¬ (L.lines.size≤i∧c.isEmpty=true):=by
  rintro ⟨z,_⟩
  exact hw ((wl_nil L i c hi).mpr (.inl z))
 rw [best_eq hF,if_neg hn]
 have e:L.nexts i c=(wl L i c).reverse:=by
  unfold Laid.nexts
  simp only []
  rw [wholes_wl,if_pos (by simpa using hw)]
 rw [e,List.map_reverse,firstOf_rev]
 have e2:((wl L i c).map fun p=>L.with_ p (best L B (i + p.lines) p.on))=((wl L i c).map fun p=>(cst L B i p,p)).map fun y=>(y.1,y.2 :: (best L B (i + y.2.lines) []).2):=by
  rw [List.map_map]
  apply List.map_congr_left
  intro q hq
  obtain ⟨k,hk,hkn,rfl,_⟩:=wl_mem L i c hi hq
  show L.with_ _ _=_
  unfold Laid.with_ cst
  have e3:(whole L i c k).on=[]:=rfl
  have e4:i + (whole L i c k).lines=k + 1:=by show i + (k + 1 - i)=k + 1; omega
  simp only [e3,e4,whole_wants]
  rw [best_empty hF,pageCost_whole L i c hk _ (by simp)]
  simp only [Function.comp_apply,e4,whole_wants]
 rw [e2,lastMin_map (fun (p:Page)=>p :: (best L B (i + p.lines) []).2)]
 unfold bestP at hb
 rw [hb]; rfl
def forced (L:Laid) (i:Nat) (c:List (List Letters)):Page:=if i < L.lines.size∧c.length + 3≤L.work.set.height then L.cutPage i c else L.alonePage i c
theorem forced_mem {i:Nat} {c:List (List Letters)} (hw:wl L i c=[]) (h:i < L.lines.size∨c≠[]) (hh:6≤L.work.set.height):L.nexts i c=[forced L i c]:=by
 have:=nexts_ne hh h
 unfold forced
 unfold Laid.nexts at *
 simp only [wholes_wl,hw] at *
 rw [if_neg (by simp)] at *
 split
 ·rfl
 ·rename_i z
  rw [if_neg z] at this
  split
  ·rename_i y; rw [if_pos y] at this; exact absurd rfl this
  ·rfl
theorem best_forced (hF:Fits L B) {i:Nat} {c:List (List Letters)} (hw:wl L i c=[]) (h:i < L.lines.size∨c≠[]):best L B i c=((best L B (i + (forced L i c).lines) (forced L i c).on).1,forced L i c :: (best L B (i + (forced L i c).lines) (forced L i c).on).2):=by
 conv=>lhs; rw [best_eq hF,if_neg (by
  rintro ⟨h1,h2⟩
  rcases h with h | h
  ·omega
  ·exact h (List.isEmpty_iff.mp h2)),forced_mem hw h hF.high]
 show L.with_ _ _=_
 unfold Laid.with_ Laid.pageCost
 have:(forced L i c).whole=false:=by unfold forced; split <;> rfl
 rw [this,if_pos rfl,Nat.zero_add]
theorem forced_meas (hF:Fits L B) {i:Nat} {c:List (List Letters)} (hi:i≤L.lines.size) (hw:wl L i c=[]) (h:i < L.lines.size∨c≠[]):meas L B (i + (forced L i c).lines) (forced L i c).on < meas L B i c:=by
 refine step_meas hF.own hF.high (by rw [forced_mem hw h hF.high]; simp) ?_
 rintro ⟨h1,h2⟩
 unfold forced at h1 h2
 split at h1
 ·rename_i z
  have:=(wl_nil L i c hi).mp hw
  have hk:L.work.set.height < wantK L i c.length i:=by omega
  have e:(L.cutPage i c).on=(c ++ L.ownFoot i (i + 1)).drop (L.work.set.height - 2):=rfl
  rw [e] at h1
  have h1:=congrArg List.length (List.isEmpty_iff.mp h1)
  rw [List.length_drop,List.length_append] at h1
  unfold wantK wantsOf ownS at hk
  simp only [List.length_nil] at h1
  split at hk <;> omega
 ·rename_i z
  rw [if_neg z] at h2
  exact absurd h2 (by show ¬ 1≤0; omega)
def withC (L:Laid):List Page→List (Page × Nat)
 | []=>[]
 | p :: r=>(p,L.pageCost p r.isEmpty) :: withC L r
theorem withC_len (L:Laid):∀ l,(withC L l).length=l.length
 | []=>rfl
 | p :: r=>by simp [withC,withC_len L r]
theorem withC_sum (L:Laid):∀ l,((withC L l).map fun x=>x.2).sum=L.pagesCost l
 | []=>rfl
 | p :: r=>by rw [withC,List.map_cons,List.sum_cons,withC_sum L r]; rfl
theorem withC_whole (hF:Fits L B) {i:Nat} {c:List (List Letters)} (hi:i≤L.lines.size) {k:Nat} (hk:i≤k) (hb:best L B i c=(cst L B i (whole L i c k),whole L i c k :: (best L B (i + (whole L i c k).lines) []).2)):withC L (best L B i c).2=(whole L i c k,wcost L i (k + 1) (wantK L i c.length k)) :: withC L (best L B (k + 1) []).2:=by
 have e4:i + (whole L i c k).lines=k + 1:=by show i + (k + 1 - i)=k + 1; omega
 rw [hb,e4]
 simp only [withC]
 rw [best_empty hF,pageCost_whole L i c hk _ (by simp)]
theorem withC_forced (hF:Fits L B) {i:Nat} {c:List (List Letters)} (hw:wl L i c=[]) (h:i < L.lines.size∨c≠[]):withC L (best L B i c).2=(forced L i c,0) :: withC L (best L B (i + (forced L i c).lines) (forced L i c).on).2:=by
 rw [best_forced hF hw h]
 simp only [withC]
 unfold Laid.pageCost
 have:(forced L i c).whole=false:=by unfold forced; split <;> rfl
 rw [this,if_pos rfl]
end Vp
end
section
namespace Vp
open Vh VhPage
theorem fold_modify {α β:Type} (g:α→Nat) (h:α→β):∀ (xs:List α) (a:Array (List β)) (k:Nat),k < a.size→(xs.foldl (fun a x=>a.modify (g x) fun l=>l ++ [h x]) a).getD k []=a.getD k [] ++ (xs.filter fun x=>g x == k).map h
 | [],a,k,hk=>by simp
 | x :: xs,a,k,hk=>by
  rw [List.foldl_cons,fold_modify g h xs _ k (by rw [Array.size_modify]; exact hk)]
  have e:(a.modify (g x) fun l=>l ++ [h x]).getD k []=if g x=k then a.getD k [] ++ [h x] else a.getD k []:=by
   rw [Array.getD_eq_getD_getElem?,Array.getElem?_modify,Array.getD_eq_getD_getElem?]
   split
   ·rename_i z
    rw [Array.getElem?_eq_getElem hk]; rfl
   ·rfl
  rw [e,List.filter_cons]
  by_cases z:g x=k
  ·rw [if_pos z,if_pos (by simpa using z),List.map_cons,List.append_assoc]; rfl
  ·rw [if_neg z,if_neg (by simpa using z)]
theorem repl_getD {β:Type} (n k:Nat):(Array.replicate n ([]:List β)).getD k []=[]:=by
 rw [Array.getD_eq_getD_getElem?,Array.getElem?_replicate]
 split <;> rfl
def sgn (w:Work) (k:Nat):List (List Letters):=(w.signs.filter fun x=>x.1 == k).map (·.2)
theorem laid_work (w:Work):(laid w).work=w:=rfl
theorem laid_words (w:Work):(laid w).words=w.paras.flatten.toArray:=rfl
theorem laid_word (w:Work) (k:Nat):(laid w).word k=w.paras.flatten.getD k []:=by
 unfold Laid.word
 rw [laid_words]; simp [List.getD_eq_getElem?_getD]
theorem laid_signs (w:Work) {k:Nat} (h:k < w.paras.flatten.length):(laid w).signs.getD k []=sgn w k:=by
 have:=fold_modify (fun x:Nat × List Letters=>x.1) (fun x=>x.2) w.signs (Array.replicate w.paras.flatten.length []) k (by simpa using h)
 rw [repl_getD] at this
 exact this
def wtkS (w:Work) (k:Nat):Nat:=takesR w.widths (w.paras.flatten.getD k []) + (sgn w k).length
theorem zip_get {α β:Type} (f:α × Nat→β) (l:List α) (k:Nat):(l.zipIdx.map f)[k]?=(l[k]?).map fun x=>f (x,k):=by
 rw [List.getElem?_map,List.getElem?_zipIdx,Option.map_map,Nat.zero_add]; rfl
def tkl (w:Work):List Nat:=(laid w).takes.toList
theorem tkl_len (w:Work):(tkl w).length=w.paras.flatten.length:=by
 show (List.map _ (List.zipIdx w.words)).length=_
 rw [List.length_map,List.length_zipIdx]; rfl
theorem tkl_get (w:Work) {k:Nat} (h:k < w.paras.flatten.length):(tkl w)[k]?=some (wtkS w k):=by
 have e:tkl w=w.paras.flatten.zipIdx.map fun x=>w.thingTakes x.1 + ((laid w).signs.getD x.2 []).length:=rfl
 rw [e,zip_get,List.getElem?_eq_getElem h,Option.map_some,laid_signs w h]
 unfold wtkS
 rw [List.getD_eq_getElem?_getD,List.getElem?_eq_getElem h]; rfl
def lnl (w:Work):List Line:=linesFrom w.set 0 (tkl w) w.paras
theorem laid_lines (w:Work):(laid w).lines=(lnl w).toArray:=rfl
theorem laid_size (w:Work):(laid w).lines.size=(lnl w).length:=by rw [laid_lines]; simp
theorem laid_line (w:Work) {k:Nat} {x:Line} (h:(lnl w)[k]?=some x):(laid w).line k=x:=by
 unfold Laid.line
 rw [laid_lines]; simp [h]
theorem laid_entries (w:Work) {k:Nat} (h:k < (lnl w).length):(laid w).entries.getD k []=w.entries.filter fun e=>lineOf (lnl w) e.first == k:=by
 have:=fold_modify (fun x:Entry=>lineOf (lnl w) x.first) (fun x=>x) w.entries (Array.replicate (lnl w).length []) k (by simpa using h)
 rw [repl_getD] at this
 simp only [List.map_id',List.nil_append] at this
 exact this
theorem chain_lnl {w:Work} (h:WOk w):chain 0 (lnl w) w.paras.flatten.length:=by
 have:=chain_lines w.set w.paras 0 (tkl w) (fun q hq=>(h.para q hq).1) (by rw [tkl_len]; exact Nat.le_refl _)
 rw [Nat.zero_add] at this
 exact this
theorem chain_get:∀ {a n:Nat} {l:List Line} {k:Nat} {x:Line},chain a l n→l[k]?=some x→a + k≤x.first∧1≤x.count∧x.first + x.count + (l.length - (k + 1))≤n
 | a,n,[],k,x,h,hx=>by simp at hx
 | a,n,y :: l,0,x,h,hx=>by
  simp at hx; subst hx
  have:∀ {a n:Nat} {l:List Line},chain a l n→a + l.length≤n:=by
   intro a n l
   induction l generalizing a with
   | nil=>intro h; have:a=n:=h; simp; omega
   | cons y l ih=>intro h; have:=ih h.2.2; have:=h.2.1; rw [List.length_cons]; omega
  have:=this h.2.2
  refine ⟨by rw [h.1]; omega,h.2.1,?_⟩
  rw [List.length_cons,h.1]; omega
 | a,n,y :: l,k + 1,x,h,hx=>by
  have:=chain_get h.2.2 (by simpa using hx)
  have:=h.2.1
  rw [List.length_cons]
  omega
theorem chain_len:∀ {a n:Nat} {l:List Line},chain a l n→a + l.length≤n
 | a,n,[],h=>by have:a=n:=h; simp; omega
 | a,n,y :: l,h=>by have:=chain_len h.2.2; have:=h.2.1; rw [List.length_cons]; omega
theorem chain_last:∀ {a n:Nat} {l:List Line} {k:Nat} {x:Line},chain a l n→l[k]?=some x→k + 1=l.length→x.first + x.count=n
 | a,n,[],k,x,h,hx,_=>by simp at hx
 | a,n,y :: l,0,x,h,hx,hk=>by
  simp at hx; subst hx
  have:l=[]:=List.length_eq_zero_iff.mp (by rw [List.length_cons] at hk; omega)
  subst this
  have h2:a + y.count=n:=h.2.2
  rw [h.1]; exact h2
 | a,n,y :: l,k + 1,x,h,hx,hk=>chain_last h.2.2 (by simpa using hx) (by rw [List.length_cons] at hk; omega)
theorem chain_zero:∀ {a n:Nat} {l:List Line} {x:Line},chain a l n→l[0]?=some x→x.first=a
 | a,n,[],x,h,hx=>by simp at hx
 | a,n,y :: l,x,h,hx=>by simp at hx; subst hx; exact h.1
theorem chain_next:∀ {a n:Nat} {l:List Line} {k:Nat} {x y:Line},chain a l n→l[k]?=some y→l[k + 1]?=some x→x.first=y.first + y.count
 | a,n,[],k,x,y,h,hx,_=>by simp at hx
 | a,n,z :: l,0,x,y,h,hy,hx=>by
  simp at hy; subst hy
  rw [h.1]
  exact chain_zero h.2.2 (by simpa using hx)
 | a,n,z :: l,k + 1,x,y,h,hy,hx=>chain_next h.2.2 (by simpa using hy) (by simpa using hx)
theorem lnl_len {w:Work} (h:WOk w):(lnl w).length≤w.paras.flatten.length:=by
 have hc:=chain_lnl h
 cases z:(lnl w).length with
 | zero=>omega
 | succ m =>
  have hx:(lnl w)[m]?=some (lnl w)[m]:=List.getElem?_eq_getElem (by omega)
  have:=chain_get hc hx
  omega
theorem cutLen {α:Type}:∀ (br:List Nat) (l:List α),(cut br l).length=br.length
 | [],l=>rfl
 | c :: br,l=>by rw [cut,List.length_cons,List.length_cons,cutLen br]
theorem len_le_sum:∀ (br:List Nat),(∀ c ∈ br,1≤c)→br.length≤br.sum
 | [],h=>Nat.le_refl _
 | c :: br,h=>by
  have:=len_le_sum br (fun x hx=>h x (by simp [hx]))
  have:=h c (by simp)
  rw [List.length_cons,List.sum_cons]; omega
theorem broken_le (fr r:Nat) (xs:List Nat):(broken fr r xs).length≤xs.length:=by
 cases xs with
 | nil=>exact Nat.le_refl _
 | cons x l =>
  have h1:=broken_sum fr r (x :: l) (by simp)
  have h2:=broken_pos fr r (x :: l) (by simp)
  have:=len_le_sum _ h2
  omega
def noteB (w:Work) (k:Nat):Nat:=((w.entries.filter fun e=>lineOf (lnl w) e.first == k).map fun e=>e.toks.length + 2).sum
theorem flat_le:∀ (es:List Entry) (f:Entry→Letters),es≠[]→1 + (es.flatMap fun x=>f x :: x.toks).length≤(es.map fun e=>e.toks.length + 2).sum
 | [],f,h=>absurd rfl h
 | [e],f,h=>by simp; omega
 | e :: e' :: es,f,h=>by
  have:=flat_le (e' :: es) f (by simp)
  rw [List.flatMap_cons,List.length_append,List.map_cons,List.sum_cons,List.length_cons]
  omega
theorem own_le (w:Work) {k:Nat} (hk:k < (lnl w).length) (i:Nat):ownN (laid w) i k≤noteB w k:=by
 unfold ownN Laid.footOf
 simp only []
 rw [cutLen]
 refine Nat.le_trans (broken_le _ _ _) ?_
 rw [List.length_map]
 unfold Laid.note
 simp only []
 rw [laid_entries w hk]
 unfold noteB
 generalize (w.entries.filter fun e=>lineOf (lnl w) e.first == k)=es
 cases es with
 | nil=>simp
 | cons e es =>
  rw [if_neg (by simp),List.length_cons]
  have:=flat_le (e :: es) ((laid w).key k) (by simp)
  omega
theorem own_out (w:Work) {k:Nat} (hk:¬ k < (lnl w).length) (i:Nat):ownN (laid w) i k=0:=by
 unfold ownN Laid.footOf Laid.note
 have e:(laid w).entries.getD k []=[]:=by
  have hs:(laid w).entries.size=(lnl w).length:=by
   have:∀ (xs:List Entry) (a:Array (List Entry)),(xs.foldl (fun (a:Array (List Entry)) (x:Entry)=>a.modify (lineOf (lnl w) x.first) fun (r:List Entry)=>r ++ [x]) a).size=a.size:=by
    intro xs
    induction xs with
    | nil=>intro a; rfl
    | cons x xs ih=>intro a; rw [List.foldl_cons,ih,Array.size_modify]
   have:=this w.entries (Array.replicate (lnl w).length [])
   rw [Array.size_replicate] at this
   exact this
  rw [Array.getD_eq_getD_getElem?,Array.getElem?_eq_none (by omega)]; rfl
 simp only [e]
 rfl
theorem sum_one (g m:Nat):∀ n,((List.range n).map fun k=>if m == k then g else 0).sum≤g∧(n≤m→((List.range n).map fun k=>if m == k then g else 0).sum=0)
 | 0=>by simp
 | n + 1=>by
  have ih:=sum_one g m n
  rw [List.range_succ,List.map_append,List.sum_append]
  simp only [List.map_cons,List.map_nil,List.sum_cons,List.sum_nil,Nat.add_zero]
  constructor
  ·by_cases z:m=n
   ·subst z; rw [if_pos (by simp),ih.2 (Nat.le_refl _)]; omega
   ·rw [if_neg (by simpa using z)]; omega
  ·intro h
   rw [ih.2 (by omega),if_neg (by simp; omega)]
theorem sum_add (f g:Nat→Nat):∀ (l:List Nat),(l.map fun k=>f k + g k).sum=(l.map f).sum + (l.map g).sum
 | []=>rfl
 | x :: l=>by simp only [List.map_cons,List.sum_cons]; rw [sum_add f g l]; omega
theorem sum_filter (f:Entry→Nat) (g:Entry→Nat) (n:Nat):∀ (es:List Entry),((List.range n).map fun k=>((es.filter fun e=>f e == k).map g).sum).sum≤(es.map g).sum
 | []=>by
  have:∀ (l:List Nat),(l.map fun k=>(([]:List Entry).map g).sum).sum=0:=by
   intro l; induction l with
   | nil=>rfl
   | cons x l ih=>rw [List.map_cons,List.sum_cons,ih]; rfl
  have:=this (List.range n)
  simp only [List.filter_nil]
  omega
 | e :: es=>by
  have ih:=sum_filter f g n es
  have h1:=(sum_one (g e) (f e) n).1
  have e1:((List.range n).map fun k=>(((e :: es).filter fun e=>f e == k).map g).sum)=(List.range n).map fun k=>(if f e == k then g e else 0) + ((es.filter fun e=>f e == k).map g).sum:=by
   apply List.map_congr_left
   intro k _
   rw [List.filter_cons]
   split
   ·rw [List.map_cons,List.sum_cons]
   ·rw [Nat.zero_add]
  rw [e1,sum_add,List.map_cons,List.sum_cons]
  omega
theorem fits_laid {w:Work} (h:WOk w):Fits (laid w) (noteB w):=by
 refine ⟨fun i k=>?_,?_,?_⟩
 ·by_cases hk:k < (lnl w).length
  ·exact own_le w hk i
  ·rw [own_out w hk]; exact Nat.zero_le _
 ·have:=h.set
  unfold Settings.ok inside at this
  simp only [Bool.and_eq_true,decide_eq_true_eq] at this
  exact this.2.1.1
 ·unfold Laid.most restB
  rw [laid_work,laid_size]
  have:=sum_filter (fun e=>lineOf (lnl w) e.first) (fun e=>e.toks.length + 2) (lnl w).length w.entries
  simp only [Nat.sub_zero,Nat.zero_add]
  have e:((List.range (lnl w).length).map fun d=>noteB w d)=(List.range (lnl w).length).map fun k=>((w.entries.filter fun e=>lineOf (lnl w) e.first == k).map fun e=>e.toks.length + 2).sum:=rfl
  rw [e]
  omega
theorem set_bounds {s:Settings} (h:s.ok=true):20≤s.width∧s.width≤240∧6≤s.height∧s.height≤240∧1≤s.indent∧s.indent≤16∧1≤s.every∧s.every≤100∧s.anew≤1∧s.loose≤10000:=by
 unfold Settings.ok inside at h
 simp only [Bool.and_eq_true,decide_eq_true_eq] at h
 omega
theorem toks_le {w:Work} (h:WOk w):(w.entries.map fun e=>e.toks.length + 2).sum≤65536 + 2 * 4096:=by
 have:∀ (es:List Entry),(es.map fun e=>e.toks.length + 2).sum=(es.map fun e=>e.toks.length).sum + 2 * es.length:=by
  intro es
  induction es with
  | nil=>rfl
  | cons e es ih=>simp only [List.map_cons,List.sum_cons,List.length_cons]; omega
 have:=this w.entries
 have:=h.toks
 have:=h.nent
 omega
def lineTk (w:Work) (l:Line):Nat:=takes (l.spots.map (wtkS w))
def costL (w:Work) (l:Line):Nat:=lineCost (if l.begins=true then w.set.width - w.set.indent else w.set.width) (lineTk w l) l.ends
theorem spots_take {w:Work} (a c:Nat) (xs rest:List Nat) (h:(tkl w).drop a=xs ++ rest) (hc:c≤xs.length) (b e:Bool):(Line.spots ⟨a,c,b,e⟩).map (wtkS w)=xs.take c:=by
 apply List.ext_getElem?
 intro k
 unfold Line.spots
 rw [List.map_map]
 by_cases hk:k < c
 ·rw [List.getElem?_take_of_lt hk,List.getElem?_map,List.getElem?_range hk]
  have h1:xs[k]?=(tkl w)[a + k]?:=by
   rw [← List.getElem?_drop,h,List.getElem?_append_left (by omega)]
  have hl:a + k < w.paras.flatten.length:=by
   rw [← tkl_len]
   rw [List.getElem?_eq_getElem (by omega:k < xs.length)] at h1
   exact (List.getElem?_eq_some_iff.mp h1.symm).1
  rw [h1,tkl_get w hl]; rfl
 ·rw [List.getElem?_eq_none (by rw [List.length_map,List.length_range]; exact Nat.le_of_not_lt hk),List.getElem?_eq_none (by rw [List.length_take]; omega)]
theorem row_cost (w:Work):∀ (br:List Nat) (a:Nat) (b:Bool) (xs rest:List Nat),(tkl w).drop a=xs ++ rest→br.sum=xs.length→((rowLines a b br).map (costL w)).sum=breakCost (if b=true then w.set.width - w.set.indent else w.set.width) w.set.width xs br
 | [],a,b,xs,rest,h,hs=>rfl
 | c :: br,a,b,xs,rest,h,hs=>by
  rw [List.sum_cons] at hs
  rw [rowLines,List.map_cons,List.sum_cons,breakCost]
  have e1:costL w ⟨a,c,b,br.isEmpty⟩=lineCost (if b=true then w.set.width - w.set.indent else w.set.width) (takes (xs.take c)) br.isEmpty:=by
   unfold costL lineTk
   rw [spots_take a c xs rest h (by omega)]
  rw [e1]
  congr 1
  exact row_cost w br (a + c) false (xs.drop c) rest (by
   rw [← List.drop_drop,h,List.drop_append_of_le_length (by omega)]) (by rw [List.length_drop]; omega)
theorem lines_cost {w:Work}:∀ (ps:List (List Letters)) (a:Nat) (t:List Nat),(∀ q ∈ ps,q≠[])→(tkl w).drop a=t→ps.flatten.length≤t.length→((linesFrom w.set a t ps).map (costL w)).sum=VhG.linesCost w.set t ps
 | [],a,t,_,_,_=>rfl
 | q :: ps,a,t,h,ht,hl=>by
  rw [List.flatten_cons,List.length_append] at hl
  have hq:0 < q.length:=List.length_pos_iff.mpr (h q (by simp))
  have hql:(t.take q.length).length=q.length:=by rw [List.length_take]; omega
  rw [linesFrom,List.map_append,List.sum_append,VhG.linesCost]
  rw [row_cost w _ a true (t.take q.length) (t.drop q.length) (by rw [List.take_append_drop]; exact ht) (by rw [broken_sum _ _ _ (by omega)])]
  rw [lines_cost ps (a + q.length) (t.drop q.length) (fun x hx=>h x (by simp [hx])) (by rw [← List.drop_drop,ht]) (by rw [List.length_drop]; omega)]
  rfl
theorem lnl_cost {w:Work} (h:WOk w):((lnl w).map (costL w)).sum=VhG.linesCost w.set (tkl w) w.paras :=
 lines_cost w.paras 0 (tkl w) (fun q hq=>(h.para q hq).1) rfl (by rw [tkl_len]; exact Nat.le_refl _)
end Vp
end
section
namespace Vp
open Vh VhPage
variable {L:Laid} {B:Nat→Nat}
theorem forced_first (L:Laid) (i:Nat) (c:List (List Letters)):(forced L i c).first=i:=by unfold forced; split <;> rfl
theorem forced_lines {L:Laid} {i:Nat} {c:List (List Letters)} (hi:i≤L.lines.size):i + (forced L i c).lines≤L.lines.size:=by
 unfold forced
 split
 ·rename_i h; have:=h.1; show i + 1≤_; omega
 ·show i + 0≤_; omega
theorem whole_meas {i k:Nat} {c:List (List Letters)} (h:i≤k) (hk:k < L.lines.size):meas L B (k + 1) [] < meas L B i c:=by
 unfold meas
 have h1:restB B L.lines.size (k + 1)≤restB B L.lines.size i:=by
  have:∀ d,restB B L.lines.size (i + d)≤restB B L.lines.size i:=by
   intro d
   induction d with
   | zero=>exact Nat.le_refl _
   | succ d ihd =>
    by_cases h:i + d < L.lines.size
    ·have:=restB_step B h
     rw [show i + (d + 1)=i + d + 1 by omega]; omega
    ·rw [restB_end B (by omega)]; omega
  have:=this (k + 1 - i)
  rw [show i + (k + 1 - i)=k + 1 by omega] at this
  exact this
 simp only [List.length_nil]
 omega
theorem meas_small {w:Work} (h:WOk w):meas (laid w) (noteB w) 0 []≤100000:=by
 have h1:=(fits_laid h).most
 unfold Laid.most at h1
 rw [laid_work,laid_size] at h1
 have h2:=toks_le h
 have h3:=lnl_len h
 have h4:=h.size
 have h5:restB (noteB w) (lnl w).length 0≤(w.entries.map fun (e:Entry)=>e.toks.length + 2).sum + 1:=by omega
 unfold meas
 rw [laid_size]
 simp only [List.length_nil]
 omega
theorem best_few (hF:Fits L B):∀ (m i:Nat) (c:List (List Letters)),meas L B i c=m→i≤L.lines.size→(best L B i c).2.length≤m:=by
 intro m
 induction m using Nat.strongRecOn with
 | _ m ih =>
  intro i c hm hi
  by_cases hn:i < L.lines.size∨c≠[]
  ·by_cases hw:wl L i c=[]
   ·rw [best_forced hF hw hn,List.length_cons]
    have h1:=forced_meas hF hi hw hn
    have:=ih (meas L B (i + (forced L i c).lines) (forced L i c).on) (by omega) _ _ rfl (forced_lines (c:=c) hi)
    omega
   ·obtain ⟨p,hp,_,hb⟩:=best_whole hF hi hw
    obtain ⟨k,hk,hkn,rfl,_⟩:=wl_mem L i c hi hp
    have e:i + (whole L i c k).lines=k + 1:=by show i + (k + 1 - i)=k + 1; omega
    rw [hb,List.length_cons,e]
    have h1:=whole_meas (L:=L) (B:=B) (c:=c) hk hkn
    have:=ih (meas L B (k + 1) []) (by omega) _ _ rfl (by omega)
    omega
  ·have hc:c=[]:=Classical.byContradiction fun z=>hn (.inr z)
   subst hc
   have hj:L.lines.size≤i:=Classical.byContradiction fun z=>hn (.inl (by omega))
   rw [best_end L B hj]
   exact Nat.zero_le _
theorem pages_few {w:Work} (h:WOk w):(laid w).pages.length≤100000:=by
 rw [pages_best (fits_laid h)]
 exact Nat.le_trans (best_few (fits_laid h) _ _ _ rfl (Nat.zero_le _)) (meas_small h)
end Vp
end
section
set_option maxRecDepth 100000
namespace Vp
open PySem PySem.Spec PyProof.Rows L2
def top (i:Nat):Stmt:=PySem.Challenge.pw_vellumpages_s05_cost.main.body.getD i (.Pass ⟨0,0,0,0⟩)
def stI (l:List Stmt) (i:Nat):Stmt:=l.getD i (.Pass ⟨0,0,0,0⟩)
def noEx:Expr:=.Constant .none 0 ⟨0,0,0,0⟩
def stVal:Stmt→Expr
 | .Assign _ v _=>v
 | .Return (some v) _=>v
 | .Expr v _=>v
 | .AugAssign _ _ v _=>v
 | _=>noEx
def exArg (e:Expr) (i:Nat):Expr:=match e with
 | .Call _ as _ _=>as.getD i noEx
 | _=>noEx
def exElt (e:Expr) (i:Nat):Expr:=match e with
 | .List as _=>as.getD i noEx
 | .Tuple as _ _=>as.getD i noEx
 | _=>noEx
def exL:Expr→Expr
 | .BinOp a _ _ _=>a
 | _=>noEx
def exR:Expr→Expr
 | .BinOp _ _ b _=>b
 | _=>noEx
def lcSc:Expr→Scope
 | .ListComp _ _ sc _=>sc
 | _=>{ kind:=.function,names:=[],isGenerator:=false,isCoroutine:=false }
abbrev WT:=Nat→L2.St→Hp→Prop
structure Ad where
 CE:Addr
 CR:Addr
 CW:Addr
 CL:Addr
 CN:Addr
 CP:Addr
 aMARKS:Addr
 aSB:Addr
 aCARET:Addr
 F_numbers_of_cost:Addr
structure Txt (K:PySem.W.Frag) (mg:Str→Option Value) (a:Ad):Prop where
 exc:Exc K mg "NoText" a.CE
 clReader:Cls K a.CR
 n_t:NoAttr K a.CR "t"
 n_at:NoAttr K a.CR "at"
 clWork:Cls K a.CW
 n_width:NoAttr K a.CW "width"
 n_height:NoAttr K a.CW "height"
 n_indent:NoAttr K a.CW "indent"
 n_every:NoAttr K a.CW "every"
 n_anew:NoAttr K a.CW "anew"
 n_loose:NoAttr K a.CW "loose"
 n_rows:NoAttr K a.CW "rows"
 n_head:NoAttr K a.CW "head"
 n_paragraphs:NoAttr K a.CW "paragraphs"
 n_words:NoAttr K a.CW "words"
 n_signs:NoAttr K a.CW "signs"
 n_entries:NoAttr K a.CW "entries"
 clLine:Cls K a.CL
 nL_first:NoAttr K a.CL "first"
 nL_end:NoAttr K a.CL "end"
 nL_opens:NoAttr K a.CL "opens"
 nL_closes:NoAttr K a.CL "closes"
 nL_taken:NoAttr K a.CL "taken"
 nL_note:NoAttr K a.CL "note"
 clNote:Cls K a.CN
 nN_things:NoAttr K a.CN "things"
 nN_takes:NoAttr K a.CN "takes"
 nN_tails:NoAttr K a.CN "tails"
 clPage:Cls K a.CP
 nP_kind:NoAttr K a.CP "kind"
 nP_first:NoAttr K a.CP "first"
 nP_end:NoAttr K a.CP "end"
 nP_came:NoAttr K a.CP "came"
 nP_own:NoAttr K a.CP "own"
 nP_rest:NoAttr K a.CP "rest"
 nP_cost:NoAttr K a.CP "cost"
 nl:∀ b o,K.lookup b=some o→o.cls≠.type "list"
 len:mg "len"=none
 ord:mg "ord"=none
 min:mg "min"=none
 max:mg "max"=none
 range:mg "range"=none
 enumerate:mg "enumerate"=none
 str:mg "str"=none
 list:mg "list"=none
 sum:mg "sum"=none
 cBLANK:∃ u,mg "BLANK"=some (.int 32 u)
 cFIRST_LETTER:∃ u,mg "FIRST_LETTER"=some (.int 33 u)
 cLAST_CHARACTER:∃ u,mg "LAST_CHARACTER"=some (.int 1114111 u)
 cWHOLE:∃ u,mg "WHOLE"=some (.int 0 u)
 cCUT:∃ u,mg "CUT"=some (.int 1 u)
 cFOOT_ALONE:∃ u,mg "FOOT_ALONE"=some (.int 2 u)
 cNO_BYTE:∃ u,mg "NO_BYTE"=some (.int 256 u)
 cMOST_ROWS:∃ u,mg "MOST_ROWS"=some (.int 64 u)
 cMOST_PARAGRAPHS:∃ u,mg "MOST_PARAGRAPHS"=some (.int 4096 u)
 cMOST_WORDS:∃ u,mg "MOST_WORDS"=some (.int 8192 u)
 cMOST_SIGNS:∃ u,mg "MOST_SIGNS"=some (.int 4096 u)
 cMOST_ENTRIES:∃ u,mg "MOST_ENTRIES"=some (.int 4096 u)
 cMOST_TOKENS:∃ u,mg "MOST_TOKENS"=some (.int 65536 u)
 cMOST_TOKENS_OF_ENTRY:∃ u,mg "MOST_TOKENS_OF_ENTRY"=some (.int 1024 u)
 cMOST_LETTERS:∃ u,mg "MOST_LETTERS"=some (.int 64 u)
 cMOST_SIGN_THINGS:∃ u,mg "MOST_SIGN_THINGS"=some (.int 4 u)
 cMOST_SIGN_CHARACTERS:∃ u,mg "MOST_SIGN_CHARACTERS"=some (.int 16 u)
 cMOST_TEXT_BYTES:∃ u,mg "MOST_TEXT_BYTES"=some (.int 1048576 u)
 f_numbers_of_cost:mg "numbers_of_cost"=some (.ref a.F_numbers_of_cost)
 cMARKS:mg "MARKS"=some (.ref a.aMARKS)
 tMARKS:∀ H,SqT K H a.aMARKS (marksI.map V.int)
 cSETTING_BOUNDS:mg "SETTING_BOUNDS"=some (.ref a.aSB)
 tSB:∃ b0 b1 b2 b3 b4 b5,(∀ H,SqT K H a.aSB [.ref b0,.ref b1,.ref b2,.ref b3,.ref b4,.ref b5])∧(∀ H,SqT K H b0 [.int 20,.int 240])∧(∀ H,SqT K H b1 [.int 6,.int 240])∧(∀ H,SqT K H b2 [.int 1,.int 16])∧(∀ H,SqT K H b3 [.int 1,.int 100])∧(∀ H,SqT K H b4 [.int 0,.int 1])∧(∀ H,SqT K H b5 [.int 0,.int 10000])
 cCARET:mg "CARET"=some (.ref a.aCARET)
 tCARET:∀ H,SqT K H a.aCARET [V.int 94]
end Vp
end
section
set_option maxRecDepth 100000
set_option maxHeartbeats 4000000
namespace Vp
open PySem PySem.Spec PyProof.Rows L2
local macro_rules | `(tactic| walk_at "rd")=>`(tactic| (try simp only [tSeq,tIfS,tOr,tAnd,tNot,tTest,tB,tOp,rI0,rI,tVar,tC,tChain,tRet,tRetN,tNext,tDrop,tAsg,gName,rEq,rNe,rIn,tAug,ipI,tCall,tCons,tNil,tUn,rU,tIf,tNotV,tAndV,tOrV,tCB,tRaise,tTup,tLst,L2.start,L2.cxOf,List.map_cons,List.map_nil,List.length_cons,List.length_nil,List.replicate,List.cons_append,List.nil_append,List.append_nil,Nat.sub_self,Nat.zero_add,Nat.add_sub_cancel,Nat.reduceAdd,Nat.reduceSub,List.getElem?_cons_zero,List.getElem?_cons_succ,List.set_cons_zero,List.set_cons_succ,Option.some.injEq,V.int.injEq,V.bl.injEq,V.ref.injEq,V.str.injEq,exists_eq_left',exists_and_left,exists_const,true_and,and_true,scal,decide_eq_true_eq,Bool.not_eq_true',decide_eq_false_iff_not,Bool.not_not,Bool.not_true,Bool.not_false,if_true,if_false,ite_true,ite_false,↓reduceIte,Bool.false_eq_true,List.cons.injEq,exists_eq_left,gTup,gCons,gNil,tBM,rAppend,rExtend,tSl,tNoPart,tPart,rSlL,tMake]))
section
variable {P:Program} {w:World} {K:PySem.W.Frag} {mg:Str→Option Value} {base:Heap} {a:Ad}
theorem inV_ints (n:Int) (l:List Int):inV (.int n) (l.map V.int)=l.contains n:=by
 unfold inV
 rw [List.any_map,List.contains_eq_any_beq]
 congr 1
 funext y
 show (y == n)=(n == y)
 exact Bool.beq_comm
theorem flat_ints (l:List Int):(l.map V.int).all flatV=true:=by
 rw [List.all_map,List.all_eq_true]; intro _ _; rfl
def sp_is_letter (K:PySem.W.Frag) (a:Ad):Sp:=fun vs H Q _=>∃ n:Int,vs=[.int n]∧Q (.bl (isL n)) H
abbrev s_is_letter:Stmt:=top 5
theorem sc_is_letter:FnScope ["character"] ["character"] (defScope s_is_letter):=⟨rfl,rfl,rfl,by decide +kernel,rfl,by decide +kernel,by decide +kernel⟩
theorem ok_is_letter {f:Addr} {fd:FuncData} (F:Fun K "is_letter" "is_letter" s_is_letter f fd) (T:Txt K mg a):FnOk P w K mg base CX0 1 f fd ["character"] (sp_is_letter K a):=by
 refine F.ok sc_is_letter (fun vs H Q E h=>?_) (fun cdv A outer s H vs Q E hr h=>?_)
 ·obtain ⟨n,rfl,q⟩:=h
  rfl
 ·obtain ⟨n,rfl,q⟩:=h
  have nd:=sc_is_letter.nd
  refine ⟨_,(pss_cons (ps_if (PW.pt (pw_or (pt_cmpR op_lt (pv 0) (pe_gint T.cFIRST_LETTER) (nomark _)) (pw_or (pt_chain op_le op_le pe_int (pv 0) pe_int) (pw_or1 (pt_cmpR op_in_seq (pv 0) (pe_gref T.cMARKS) (by with_unfolding_all rfl)))))) (pss_one (ps_ret pe_bl)) pss_nil) (pss_one (ps_ret (pe_cmpR op_lt (pe_op op_mod (pv 0) pe_int) pe_int (nomark _))))),?_⟩
  have hm:=inV_ints n marksI
  have hf:=flat_ints marksI
  unfold isL at q
  walk_at "rd"
  split
  ·rename_i h; simpa [h] using q
  ·rename_i h1
   have last:(¬ (127≤n∧n≤159))→∃ x,(SqL K H a.aMARKS x∨SqT K H a.aMARKS x)∧flatV (V.int n)=true∧x.all flatV=true∧if inV (V.int n) x=true then Q (V.bl false) H else (0:Int) < 65536∧Q (V.bl (decide (n % 65536 < 65534))) H:=fun h2=>by
    refine ⟨_,.inr (T.tMARKS H),rfl,hf,?_⟩
    rw [hm]
    have h3:(decide (127≤n) && decide (n≤159))=false:=by
     by_cases z:127≤n <;> simp [z] <;> omega
    rw [h3] at q
    generalize marksI.contains n=c at q
    cases c
    ·rw [if_neg (by decide)]; exact ⟨by decide,by simpa [h1] using q⟩
    ·rw [if_pos rfl]; simpa [h1] using q
   split
   ·split
    ·rename_i h2 h3; simpa [h1,h2,h3] using q
    ·exact last (by omega)
   ·exact last (by omega)
def sp_begins_some (K:PySem.W.Frag) (a:Ad):Sp:=fun vs H Q _=>∃ v lo hi:Nat,vs=[.int v,.int lo,.int hi]∧hi < 10 ^ 11∧Q (.bl (Vh.leadsTo lo hi v)) H
abbrev s_begins_some:Stmt:=top 55
theorem sc_begins_some:FnScope ["value","low","high","least","most"] ["value","low","high"] (defScope s_begins_some):=⟨rfl,rfl,rfl,by decide +kernel,rfl,by decide +kernel,by decide +kernel⟩
theorem ok_begins_some {f:Addr} {fd:FuncData} (F:Fun K "begins_some" "begins_some" s_begins_some f fd) (T:Txt K mg a):FnOk P w K mg base CX0 1 f fd ["value","low","high"] (sp_begins_some K a):=by
 refine F.ok sc_begins_some (fun vs H Q E h=>?_) (fun cdv A outer s H vs Q E hr h=>?_)
 ·obtain ⟨v,lo,hi,rfl,hhi,q⟩:=h
  rfl
 ·obtain ⟨v,lo,hi,rfl,hhi,q⟩:=h
  have nd:=sc_begins_some.nd
  refine ⟨_,(pss_cons (ps_if (pt_cmpR op_eq (pv 0) pe_int (nomark _)) (pss_one (ps_ret (pe_cmpR op_eq (pv 1) pe_int (nomark _)))) pss_nil) (pss_cons (ps_set (i:=3) nd rfl (Or.inl rfl) (pv 0)) (pss_cons (ps_set (i:=4) nd rfl (Or.inl rfl) (pv 0)) (pss_cons (ps_while PassesOwn.never (pt_cmpR op_le (pv 3) (pv 2) (nomark _)) (pss_cons (ps_if (pt_cmpR op_ge (pv 4) (pv 1) (nomark _)) (pss_one (ps_ret pe_bl)) pss_nil) (pss_cons (ps_set (i:=3) nd rfl (Or.inl rfl) (pe_op op_mul (pv 3) pe_int)) (pss_one (ps_set (i:=4) nd rfl (Or.inl rfl) (pe_op op_add (pe_op op_mul (pv 4) pe_int) pe_int)))))) (pss_one (ps_ret pe_bl)))))),?_⟩
  walk_at "rd"
  split
  ·rename_i h
   have h0:v=0:=by omega
   subst h0
   rw [leads_zero] at q
   have e:decide ((lo:Int)=0)=(lo == 0):=by
    by_cases z:lo=0 <;> simp [z]
   rw [e]; exact q
  ·rename_i h
   have hv:v≠0:=by omega
   obtain ⟨W,hW⟩:∃ W:WT,W=fun m σ H'=>H'=H∧∃ L M k:Nat,σ=[some (.int v),some (.int lo),some (.int hi),some (.int L),some (.int M)]∧L=v * 10 ^ k∧M + 1=(v + 1) * 10 ^ k∧1≤L∧m=hi + 1 - L∧∀ j,j < k→¬ (v * 10 ^ j≤hi∧lo < (v + 1) * 10 ^ j):=⟨_,rfl⟩
   refine ⟨W,⟨_,by rw [hW]; exact ⟨rfl,v,v,0,rfl,by simp,by simp,by omega,rfl,fun j z=>absurd z (Nat.not_lt_zero j)⟩⟩,fun m σ H' hw=>?_⟩
   rw [hW] at hw
   obtain ⟨rfl,L,M,k,rfl,hL,hM,hL1,rfl,hno⟩:=hw
   walk_at "rd"
   split
   ·rename_i h1
    refine ⟨fun σ' H''=>∃ m',m' < hi + 1 - L∧W m' σ' H'',fun _ _ z=>z,?_⟩
    split
    ·rename_i h2
     rw [leads_true (k:=k) hv (by omega) (by omega) hhi] at q
     exact q
    ·rename_i h2
     refine ⟨.inr (by omega),.inr (by omega),hi + 1 - L * 10,by omega,?_⟩
     rw [hW]
     refine ⟨rfl,L * 10,M * 10 + 9,k + 1,by simp,?_,?_,by omega,rfl,?_⟩
     ·rw [hL,Nat.pow_succ,Nat.mul_assoc]
     ·rw [Nat.pow_succ,← Nat.mul_assoc,← hM]; omega
     ·intro j hj
      by_cases z:j=k
      ·subst z; omega
      ·exact hno j (by omega)
   ·rename_i h1
    rw [leads_false (k:=k) hv hno (by omega)] at q
    exact q
def sp_size_by_lead (K:PySem.W.Frag) (a:Ad):Sp:=fun vs H Q _=>∃ n:Int,vs=[.int n]∧Q (.int (sizeL n)) H
abbrev s_size_by_lead:Stmt:=top 56
theorem sc_size_by_lead:FnScope ["lead"] ["lead"] (defScope s_size_by_lead):=⟨rfl,rfl,rfl,by decide +kernel,rfl,by decide +kernel,by decide +kernel⟩
theorem ok_size_by_lead {f:Addr} {fd:FuncData} (F:Fun K "size_by_lead" "size_by_lead" s_size_by_lead f fd) (T:Txt K mg a):FnOk P w K mg base CX0 1 f fd ["lead"] (sp_size_by_lead K a):=by
 refine F.ok sc_size_by_lead (fun vs H Q E h=>?_) (fun cdv A outer s H vs Q E hr h=>?_)
 ·obtain ⟨n,rfl,q⟩:=h
  rfl
 ·obtain ⟨n,rfl,q⟩:=h
  have nd:=sc_size_by_lead.nd
  refine ⟨_,(pss_cons (ps_if (pt_cmpR op_lt (pv 0) pe_int (nomark _)) (pss_one (ps_ret pe_int)) pss_nil) (pss_cons (ps_if (pt_chain op_le op_le pe_int (pv 0) pe_int) (pss_one (ps_ret pe_int)) pss_nil) (pss_cons (ps_if (pt_chain op_le op_le pe_int (pv 0) pe_int) (pss_one (ps_ret pe_int)) pss_nil) (pss_cons (ps_if (pt_chain op_le op_le pe_int (pv 0) pe_int) (pss_one (ps_ret pe_int)) pss_nil) (pss_one (ps_ret pe_int)))))),?_⟩
  unfold sizeL at q
  walk_at "rd"
  (repeat' split) <;> (simp only [*,if_true,if_false,and_true,true_and,and_self,not_false_eq_true] at q ⊢) <;> first | exact q | (exfalso; omega) | (simp_all; done) | (rw [if_neg (by omega)] at q; exact q) | skip
def sp_bounds_behind (K:PySem.W.Frag) (a:Ad):Sp:=fun vs H Q _=>∃ n:Int,vs=[.int n]∧∀ p,H p=none→Q (.ref p) (upd H p (.tup [.int (blo n),.int (bhi n)]))
abbrev s_bounds_behind:Stmt:=top 57
theorem sc_bounds_behind:FnScope ["lead"] ["lead"] (defScope s_bounds_behind):=⟨rfl,rfl,rfl,by decide +kernel,rfl,by decide +kernel,by decide +kernel⟩
theorem ok_bounds_behind {f:Addr} {fd:FuncData} (F:Fun K "bounds_behind" "bounds_behind" s_bounds_behind f fd) (T:Txt K mg a):FnOk P w K mg base CX0 1 f fd ["lead"] (sp_bounds_behind K a):=by
 refine F.ok sc_bounds_behind (fun vs H Q E h=>?_) (fun cdv A outer s H vs Q E hr h=>?_)
 ·obtain ⟨n,rfl,q⟩:=h
  rfl
 ·obtain ⟨n,rfl,q⟩:=h
  have nd:=sc_bounds_behind.nd
  refine ⟨_,(pss_cons (ps_if (pt_cmpR op_eq (pv 0) pe_int (nomark _)) (pss_one (ps_ret (pe_tup (pa_cons pe_int (pa_cons pe_int pa_nil))))) pss_nil) (pss_cons (ps_if (pt_cmpR op_eq (pv 0) pe_int (nomark _)) (pss_one (ps_ret (pe_tup (pa_cons pe_int (pa_cons pe_int pa_nil))))) pss_nil) (pss_cons (ps_if (pt_cmpR op_eq (pv 0) pe_int (nomark _)) (pss_one (ps_ret (pe_tup (pa_cons pe_int (pa_cons pe_int pa_nil))))) pss_nil) (pss_cons (ps_if (pt_cmpR op_eq (pv 0) pe_int (nomark _)) (pss_one (ps_ret (pe_tup (pa_cons pe_int (pa_cons pe_int pa_nil))))) pss_nil) (pss_one (ps_ret (pe_tup (pa_cons pe_int (pa_cons pe_int pa_nil))))))))),?_⟩
  unfold blo bhi at q
  have z2:2≤sizeLine:=by decide
  walk_at "rd"
  (repeat' split) <;> refine ⟨z2,fun p hp=>?_⟩ <;> have q':=q p hp <;> simp_all
end
set_option hygiene false in
local macro_rules | `(tactic| walk_at "rdr")=>`(tactic| (try simp only [tSeq,tIfS,tOr,tAnd,tNot,tTest,tB,tOp,rI0,rI,tVar,tC,tChain,tRet,tRetN,tNext,tDrop,tAsg,gName,rEq,rNe,rIn,tAug,ipI,tCall,tCons,tNil,tUn,rU,tIf,tNotV,tAndV,tOrV,tCB,tRaise,tTup,tLst,L2.start,L2.cxOf,List.map_cons,List.map_nil,List.length_cons,List.length_nil,List.replicate,List.cons_append,List.nil_append,List.append_nil,Nat.sub_self,Nat.zero_add,Nat.add_sub_cancel,Nat.reduceAdd,Nat.reduceSub,List.getElem?_cons_zero,List.getElem?_cons_succ,List.set_cons_zero,List.set_cons_succ,Option.some.injEq,V.int.injEq,V.bl.injEq,V.ref.injEq,V.str.injEq,exists_eq_left',exists_and_left,exists_const,true_and,and_true,scal,decide_eq_true_eq,Bool.not_eq_true',decide_eq_false_iff_not,Bool.not_not,Bool.not_true,Bool.not_false,if_true,if_false,ite_true,ite_false,↓reduceIte,Bool.false_eq_true,List.cons.injEq,exists_eq_left,gTup,gCons,gNil,tBM,rAppend,rExtend,tSl,tNoPart,tPart,rSlL,tMake,tFld,tMeth,sFld,sFldAug,rAdd,rIxL,rIxT,hR,hR2,T.clReader,T.n_t,T.n_at,rf_t,rf_at,rf_put,rf_len,rf_no,HO.ins.injEq,and_assoc,upd_same]))
def rf (ta:Addr) (i:Int):List (Str × V):=[("t",.ref ta),("at",.int i)]
theorem rf_t (ta:Addr) (i:Int):(rf ta i).lookup ("t":Str)=some (.ref ta):=rfl
theorem rf_at (ta:Addr) (i:Int):(rf ta i).lookup ("at":Str)=some (.int i):=by
 unfold rf
 rw [List.lookup_cons,show (("at":Str) == ("t":Str))=false from by decide]
 rfl
theorem rf_put (ta:Addr) (i j:Int):putF "at" (.int j) (rf ta i)=rf ta j:=by
 show (if ("t":Str)="at" then _ else _)=_
 rw [if_neg (by decide)]
 show _ :: (if ("at":Str)="at" then _ else _)=_
 rw [if_pos rfl]
 rfl
theorem rf_len (ta:Addr) (i:Int):(rf ta i).length=2:=rfl
theorem rf_no (ta:Addr) (i:Int) {m:Str} (h1:m≠"t") (h2:m≠"at"):(rf ta i).lookup m=none:=by
 unfold rf
 rw [List.lookup_cons,beq_eq_false_iff_ne.mpr h1]
 dsimp only
 rw [List.lookup_cons,beq_eq_false_iff_ne.mpr h2]
 rfl
theorem rf_peek (ta:Addr) (i:Int):(rf ta i).lookup ("peek":Str)=none:=rf_no ta i (by decide) (by decide)
theorem rf_sees (ta:Addr) (i:Int):(rf ta i).lookup ("sees":Str)=none:=rf_no ta i (by decide) (by decide)
theorem rf_take (ta:Addr) (i:Int):(rf ta i).lookup ("take":Str)=none:=rf_no ta i (by decide) (by decide)
theorem rf_take_end (ta:Addr) (i:Int):(rf ta i).lookup ("take_end":Str)=none:=rf_no ta i (by decide) (by decide)
theorem rf_take_digit (ta:Addr) (i:Int):(rf ta i).lookup ("take_digit":Str)=none:=rf_no ta i (by decide) (by decide)
theorem rf_take_number (ta:Addr) (i:Int):(rf ta i).lookup ("take_number":Str)=none:=rf_no ta i (by decide) (by decide)
theorem rf_take_character (ta:Addr) (i:Int):(rf ta i).lookup ("take_character":Str)=none:=rf_no ta i (by decide) (by decide)
theorem rf_take_long_letter (ta:Addr) (i:Int):(rf ta i).lookup ("take_long_letter":Str)=none:=rf_no ta i (by decide) (by decide)
theorem rf_take_thing (ta:Addr) (i:Int):(rf ta i).lookup ("take_thing":Str)=none:=rf_no ta i (by decide) (by decide)
theorem rf_take_things (ta:Addr) (i:Int):(rf ta i).lookup ("take_things":Str)=none:=rf_no ta i (by decide) (by decide)
def bsV (bs:List UInt8):List V:=bs.map fun c=>V.int (c.toNat:Int)
theorem bsV_at {bs:List UInt8} {p:Nat} {c:UInt8} (h:bs[p]?=some c):atI (bsV bs) (p:Int)=some (.int (c.toNat:Int)):=atI_nat (by unfold bsV; rw [List.getElem?_map,h]; rfl)
theorem bsV_len (bs:List UInt8):(bsV bs).length=bs.length:=by unfold bsV; rw [List.length_map]
def Rdr (K:PySem.W.Frag) (a:Ad) (H:Hp) (r ta:Addr) (bs:List UInt8) (p:Nat):Prop:=∃ dx,H r=some (.ins a.CR dx (rf ta (p:Int)))∧SqL K H ta (bsV bs)∧ta≠r
section
variable {P:Program} {w:World} {K:PySem.W.Frag} {mg:Str→Option Value} {base:Heap} {a:Ad}
theorem Rdr.move {H H':Hp} {r dx ta:Addr} {bs:List UInt8} {p:Nat} (hS:SqL K H ta (bsV bs)) (ne:ta≠r) (k:Kp [r] H H') (e:H' r=some (.ins a.CR dx (rf ta (p:Int)))):Rdr K a H' r ta bs p :=
 ⟨dx,e,k.seq (by simpa using ne) hS,ne⟩
def sp_Reader_init (K:PySem.W.Frag) (a:Ad):Sp:=fun vs H Q _=>∃ (x dx ta:Addr) (bs:List UInt8),vs=[.ref x,.ref ta]∧H x=some (.ins a.CR dx [])∧SqL K H ta (bsV bs)∧ta≠x∧∀ H',Kp [x] H H'→Rdr K a H' x ta bs 0→Q .non H'
theorem rf_new (ta:Addr):putF "at" (.int 0) (putF "t" (.ref ta) [])=rf ta 0:=by
 show (if ("t":Str)="at" then _ else _)=_
 rw [if_neg (by decide)]
 rfl
abbrev s_Reader_init:Stmt:=inClass (top 58) 0
theorem sc_Reader_init:FnScope ["self","t"] ["self","t"] (defScope s_Reader_init):=⟨rfl,rfl,rfl,by decide +kernel,rfl,by decide +kernel,by decide +kernel⟩
theorem ok_Reader_init {f:Addr} {fd:FuncData} (F:Fun K "__init__" "Reader.__init__" s_Reader_init f fd) (T:Txt K mg a):FnOk P w K mg base CX0 1 f fd ["self","t"] (sp_Reader_init K a):=by
 refine F.ok sc_Reader_init (fun vs H Q E h=>?_) (fun cdv A outer s H vs Q E hr h=>?_)
 ·obtain ⟨x,dx,ta,bs,rfl,hR,hS,hne,q⟩:=h
  rfl
 ·obtain ⟨x,dx,ta,bs,rfl,hR,hS,hne,q⟩:=h
  have nd:=sc_Reader_init.nd
  refine ⟨_,(pss_cons (ps_fld (pv 0) (pv 1) rfl) (pss_one (ps_fld (pv 0) pe_int rfl))),?_⟩
  have hR2:=hR
  walk_at "rdr"
  have k:Kp [x] H (upd (upd H x (HO.ins a.CR dx (putF "t" (V.ref ta) []))) x (HO.ins a.CR dx (putF "at" (V.int 0) (putF "t" (V.ref ta) [])))):=(Kp.put (by simp)).trans (Kp.put (by simp))
  exact ⟨by decide,(by show 1 < 1000; decide),q _ k (Rdr.move (dx:=dx) hS hne k (by rw [upd_same,rf_new]; rfl))⟩
def sp_Reader_peek (K:PySem.W.Frag) (a:Ad):Sp:=fun vs H Q _=>∃ (r ta:Addr) (bs:List UInt8) (p:Nat),vs=[.ref r]∧Rdr K a H r ta bs p∧Q (.int (pk bs p)) H
abbrev s_Reader_peek:Stmt:=inClass (top 58) 1
theorem sc_Reader_peek:FnScope ["self"] ["self"] (defScope s_Reader_peek):=⟨rfl,rfl,rfl,by decide +kernel,rfl,by decide +kernel,by decide +kernel⟩
theorem ok_Reader_peek {f:Addr} {fd:FuncData} (F:Fun K "peek" "Reader.peek" s_Reader_peek f fd) (T:Txt K mg a):FnOk P w K mg base CX0 1 f fd ["self"] (sp_Reader_peek K a):=by
 refine F.ok sc_Reader_peek (fun vs H Q E h=>?_) (fun cdv A outer s H vs Q E hr h=>?_)
 ·obtain ⟨r,ta,bs,p,rfl,⟨dx,hR,hS,hne⟩,q⟩:=h
  rfl
 ·obtain ⟨r,ta,bs,p,rfl,⟨dx,hR,hS,hne⟩,q⟩:=h
  have nd:=sc_Reader_peek.nd
  refine ⟨_,(pss_cons (ps_if (pt_cmpR op_lt (pe_fld (pv 0) rfl) (pe_callB call_len_seq rfl T.len PySem.boot_len (pa_cons (pe_fld (pv 0) rfl) pa_nil)) (nomark _)) (pss_one (ps_ret (pe_ix ix_list (pe_fld (pv 0) rfl) (pe_fld (pv 0) rfl) (fun _ _=>rfl)))) pss_nil) (pss_one (ps_ret (pe_gint T.cNO_BYTE)))),?_⟩
  have hR2:=hR
  walk_at "rdr"
  refine ⟨_,.inl hS,?_⟩
  rw [bsV_len]
  split
  ·rename_i h
   have hp:p < bs.length:=by omega
   have e:=List.getElem?_eq_getElem hp
   rw [pk_some e] at q
   exact ⟨_,hS,_,bsV_at e,q⟩
  ·rename_i h
   rw [pk_none.mpr (List.getElem?_eq_none (by omega))] at q
   exact q
def sp_Reader_sees (K:PySem.W.Frag) (a:Ad):Sp:=fun vs H Q _=>∃ (r ta:Addr) (bs:List UInt8) (p:Nat) (sg:Str) (n:Nat),vs=[.ref r,.str sg]∧Rdr K a H r ta bs p∧sg.length=1∧sg.cps.getD 0 0=n∧Q (.bl (decide (pk bs p=(n:Int)))) H
abbrev s_Reader_sees:Stmt:=inClass (top 58) 2
theorem sc_Reader_sees:FnScope ["self","sign"] ["self","sign"] (defScope s_Reader_sees):=⟨rfl,rfl,rfl,by decide +kernel,rfl,by decide +kernel,by decide +kernel⟩
theorem ok_Reader_sees {f:Addr} {fd:FuncData} (F:Fun K "sees" "Reader.sees" s_Reader_sees f fd) (T:Txt K mg a) (c_Reader_peek:MethC P w K mg base CX0 1 a.CR "peek" ["self"] (sp_Reader_peek K a)):FnOk P w K mg base CX0 2 f fd ["self","sign"] (sp_Reader_sees K a):=by
 refine F.ok sc_Reader_sees (fun vs H Q E h=>?_) (fun cdv A outer s H vs Q E hr h=>?_)
 ·obtain ⟨r,ta,bs,p,sg,n,rfl,⟨dx,hR,hS,hne⟩,h1,h2,q⟩:=h
  rfl
 ·obtain ⟨r,ta,bs,p,sg,n,rfl,⟨dx,hR,hS,hne⟩,h1,h2,q⟩:=h
  have nd:=sc_Reader_sees.nd
  refine ⟨_,(pss_one (ps_ret (pe_cmpR op_eq (pe_methC0 (pv 0) T.clReader c_Reader_peek hr pass0) (pe_callB call_ord rfl T.ord boot_ord (pa_cons (pv 1) pa_nil)) (nomark _)))),?_⟩
  have hR2:=hR
  walk_at "rdr"
  refine ⟨rf_peek _ _,r,ta,bs,p,rfl,⟨dx,hR,hS,hne⟩,?_⟩
  walk_at "rdr"
  refine ⟨h1,?_⟩
  rw [h2]
  exact q
def Out (K:PySem.W.Frag) (a:Ad) (H:Hp) (r ta:Addr) (bs:List UInt8) (p:Nat) {α:Type} (rd:Vh.Rd α) (Q:α→Hp→Prop) (E:XK):Prop :=
 (∀ x p' H',rd p (bs.drop p)=.ok (x,p',bs.drop p')→Kp [r] H H'→Rdr K a H' r ta bs p'→Q x H')∧∀ p' H',rd p (bs.drop p)=.error p'→Rdr K a H' r ta bs p'→E (.ref a.CE) none H'
def sp_Reader_take (K:PySem.W.Frag) (a:Ad):Sp:=fun vs H Q E=>∃ (r ta:Addr) (bs:List UInt8) (p:Nat) (sg:Str) (c:UInt8),vs=[.ref r,.str sg]∧Rdr K a H r ta bs p∧sg.length=1∧sg.cps.getD 0 0=c.toNat∧Out K a H r ta bs p (Vh.byte_ c) (fun _ H'=>Q .non H') E
abbrev s_Reader_take:Stmt:=inClass (top 58) 3
theorem sc_Reader_take:FnScope ["self","sign"] ["self","sign"] (defScope s_Reader_take):=⟨rfl,rfl,rfl,by decide +kernel,rfl,by decide +kernel,by decide +kernel⟩
theorem ok_Reader_take {f:Addr} {fd:FuncData} (F:Fun K "take" "Reader.take" s_Reader_take f fd) (T:Txt K mg a) (c_Reader_sees:MethC P w K mg base CX0 2 a.CR "sees" ["self","sign"] (sp_Reader_sees K a)):FnOk P w K mg base (CX1 P w a.CE) 3 f fd ["self","sign"] (sp_Reader_take K a):=by
 refine F.okE sc_Reader_take (fun vs H Q E h=>?_) (fun cdv A outer s H vs Q E hr h=>?_)
 ·obtain ⟨r,ta,bs,p,sg,c,rfl,⟨dx,hR,hS,hne⟩,h1,h2,q1,q2⟩:=h
  rfl
 ·obtain ⟨r,ta,bs,p,sg,c,rfl,⟨dx,hR,hS,hne⟩,h1,h2,q1,q2⟩:=h
  have nd:=sc_Reader_take.nd
  refine ⟨_,(pss_cons (ps_if (pt_not (pt_val (pe_methC (pv 0) T.clReader c_Reader_sees hr pass0 (pa_cons (pv 1) pa_nil)))) (pss_one (ps_raise T.exc rfl (pa_cons pe_str pa_nil))) pss_nil) (pss_one (ps_fldaug (pv 0) pe_int in_add))),?_⟩
  have hR2:=hR
  walk_at "rdr"
  refine ⟨rf_sees _ _,r,ta,bs,p,sg,_,rfl,⟨dx,hR,hS,hne⟩,h1,h2,?_⟩
  walk_at "rdr"
  split
  ·rename_i h
   exact ⟨by decide,q2 p H (byte_no h) ⟨dx,hR,hS,hne⟩⟩
  ·rename_i h
   have h:=Decidable.not_not.mp h
   refine ⟨by decide,q1 () (p + 1) _ (byte_ok h) (Kp.put (by simp)) (Rdr.move (dx:=dx) hS hne (Kp.put (by simp)) ?_)⟩
   rw [upd_same]; rfl
def sp_Reader_take_end (K:PySem.W.Frag) (a:Ad):Sp:=fun vs H Q E=>∃ (r ta:Addr) (bs:List UInt8) (p:Nat),vs=[.ref r]∧Rdr K a H r ta bs p∧(bs[p]?=none→Q .non H)∧(bs[p]?≠none→E (.ref a.CE) none H)
abbrev s_Reader_take_end:Stmt:=inClass (top 58) 4
theorem sc_Reader_take_end:FnScope ["self"] ["self"] (defScope s_Reader_take_end):=⟨rfl,rfl,rfl,by decide +kernel,rfl,by decide +kernel,by decide +kernel⟩
theorem ok_Reader_take_end {f:Addr} {fd:FuncData} (F:Fun K "take_end" "Reader.take_end" s_Reader_take_end f fd) (T:Txt K mg a) (c_Reader_peek:MethC P w K mg base CX0 1 a.CR "peek" ["self"] (sp_Reader_peek K a)):FnOk P w K mg base (CX1 P w a.CE) 2 f fd ["self"] (sp_Reader_take_end K a):=by
 refine F.okE sc_Reader_take_end (fun vs H Q E h=>?_) (fun cdv A outer s H vs Q E hr h=>?_)
 ·obtain ⟨r,ta,bs,p,rfl,⟨dx,hR,hS,hne⟩,q1,q2⟩:=h
  rfl
 ·obtain ⟨r,ta,bs,p,rfl,⟨dx,hR,hS,hne⟩,q1,q2⟩:=h
  have nd:=sc_Reader_take_end.nd
  refine ⟨_,(pss_one (ps_if (pt_cmpR op_ne (pe_methC0 (pv 0) T.clReader c_Reader_peek hr pass0) (pe_gint T.cNO_BYTE) (nomark _)) (pss_one (ps_raise T.exc rfl (pa_cons pe_str pa_nil))) pss_nil)),?_⟩
  have hR2:=hR
  walk_at "rdr"
  refine ⟨rf_peek _ _,r,ta,bs,p,rfl,⟨dx,hR,hS,hne⟩,?_⟩
  walk_at "rdr"
  split
  ·rename_i h
   exact ⟨by decide,q2 fun z=>h (pk_none.mpr z)⟩
  ·rename_i h
   exact q1 (pk_none.mp (Decidable.not_not.mp h))
def sp_Reader_take_digit (K:PySem.W.Frag) (a:Ad):Sp:=fun vs H Q E=>∃ (r ta:Addr) (bs:List UInt8) (p v lo hi:Nat),vs=[.ref r,.int v,.int lo,.int hi]∧Rdr K a H r ta bs p∧hi < 10 ^ 11 ∧
 (∀ n H',dig bs lo hi v p=some n→Kp [r] H H'→Rdr K a H' r ta bs (p + 1)→Q (.int n) H')∧(dig bs lo hi v p=none→E (.ref a.CE) none H)
abbrev s_Reader_take_digit:Stmt:=inClass (top 58) 5
theorem sc_Reader_take_digit:FnScope ["self","value","low","high","digit"] ["self","value","low","high"] (defScope s_Reader_take_digit):=⟨rfl,rfl,rfl,by decide +kernel,rfl,by decide +kernel,by decide +kernel⟩
theorem ok_Reader_take_digit {f:Addr} {fd:FuncData} (F:Fun K "take_digit" "Reader.take_digit" s_Reader_take_digit f fd) (T:Txt K mg a) (c_Reader_peek:MethC P w K mg base CX0 1 a.CR "peek" ["self"] (sp_Reader_peek K a)) (c_begins_some:FnC P w K mg base CX0 1 "begins_some" ["value","low","high"] (sp_begins_some K a)):FnOk P w K mg base (CX1 P w a.CE) 2 f fd ["self","value","low","high"] (sp_Reader_take_digit K a):=by
 refine F.okE sc_Reader_take_digit (fun vs H Q E h=>?_) (fun cdv A outer s H vs Q E hr h=>?_)
 ·obtain ⟨r,ta,bs,p,v,lo,hi,rfl,⟨dx,hR,hS,hne⟩,hhi,q1,q2⟩:=h
  rfl
 ·obtain ⟨r,ta,bs,p,v,lo,hi,rfl,⟨dx,hR,hS,hne⟩,hhi,q1,q2⟩:=h
  have nd:=sc_Reader_take_digit.nd
  refine ⟨_,(pss_cons (ps_set (i:=4) nd rfl (Or.inl rfl) (pe_op op_sub (pe_methC0 (pv 0) T.clReader c_Reader_peek hr pass0) pe_int)) (pss_cons (ps_if (PW.pt (pw_or (pt_not (pt_chain op_le op_le pe_int (pv 4) pe_int)) (pw_or1 (pt_not (pt_val (pe_callC c_begins_some hr pass0 (pa_cons (pe_op op_add (pe_op op_mul (pv 1) pe_int) (pv 4)) (pa_cons (pv 2) (pa_cons (pv 3) pa_nil))))))))) (pss_one (ps_raise T.exc rfl (pa_cons pe_str pa_nil))) pss_nil) (pss_cons (ps_fldaug (pv 0) pe_int in_add) (pss_one (ps_ret (pe_op op_add (pe_op op_mul (pv 1) pe_int) (pv 4))))))),?_⟩
  have hR2:=hR
  walk_at "rdr"
  refine ⟨rf_peek _ _,r,ta,bs,p,rfl,⟨dx,hR,hS,hne⟩,?_⟩
  walk_at "rdr"
  by_cases h1:48≤pk bs p∧pk bs p≤57
  ·rw [if_pos (by omega),if_neg (by omega)]
   have e:((v:Int) * 10 + (pk bs p - 48))=((v * 10 + (pk bs p - 48).toNat:Nat):Int):=by omega
   refine ⟨.inr (by omega),v * 10 + (pk bs p - 48).toNat,lo,hi,by rw [e],hhi,?_⟩
   walk_at "rdr"
   split
   ·rename_i h2
    refine ⟨by decide,q2 ?_⟩
    unfold dig
    rw [if_neg (fun z=>by rw [h2] at z; exact Bool.false_ne_true z.2.2)]
   ·rename_i h2
    rw [e]
    refine ⟨by decide,.inr (by omega),q1 _ _ ?_ (Kp.put (by simp)) (Rdr.move (dx:=dx) hS hne (Kp.put (by simp)) (by rw [upd_same]; rfl))⟩
    unfold dig
    rw [if_pos ⟨h1.1,h1.2,by simpa using h2⟩]
  ·have no:dig bs lo hi v p=none:=by
    unfold dig
    rw [if_neg (fun z=>h1 ⟨z.1,z.2.1⟩)]
   split
   ·rw [if_pos (by omega)]
    exact ⟨by decide,q2 no⟩
   ·exact ⟨by decide,q2 no⟩
def sp_Reader_take_number (K:PySem.W.Frag) (a:Ad):Sp:=fun vs H Q E=>∃ (r ta:Addr) (bs:List UInt8) (p lo hi:Nat),vs=[.ref r,.int lo,.int hi]∧Rdr K a H r ta bs p∧hi < 10 ^ 11 ∧
 (∀ x p' H',Vh.num lo hi p (bs.drop p)=.ok (x,p',bs.drop p')→lo≤x→x≤hi→Kp [r] H H'→Rdr K a H' r ta bs p'→Q (.int (x:Nat)) H') ∧
 (∀ p' H',(Vh.num lo hi p (bs.drop p)=.error p'∨∃ x,Vh.num lo hi p (bs.drop p)=.ok (x,p',bs.drop p')∧48≤pk bs p'∧pk bs p'≤57)→Rdr K a H' r ta bs p'→E (.ref a.CE) none H')
abbrev s_Reader_take_number:Stmt:=inClass (top 58) 6
theorem sc_Reader_take_number:FnScope ["self","low","high","value"] ["self","low","high"] (defScope s_Reader_take_number):=⟨rfl,rfl,rfl,by decide +kernel,rfl,by decide +kernel,by decide +kernel⟩
theorem ok_Reader_take_number {f:Addr} {fd:FuncData} (F:Fun K "take_number" "Reader.take_number" s_Reader_take_number f fd) (T:Txt K mg a) (c_Reader_take_digit:MethC P w K mg base (CX1 P w a.CE) 2 a.CR "take_digit" ["self","value","low","high"] (sp_Reader_take_digit K a)) (c_Reader_peek:MethC P w K mg base CX0 1 a.CR "peek" ["self"] (sp_Reader_peek K a)):FnOk P w K mg base (CX1 P w a.CE) 3 f fd ["self","low","high"] (sp_Reader_take_number K a):=by
 refine F.okE sc_Reader_take_number (fun vs H Q E h=>?_) (fun cdv A outer s H vs Q E hr h=>?_)
 ·obtain ⟨r,ta,bs,p,lo,hi,rfl,⟨dx,hR,hS,hne⟩,hhi,q1,q2⟩:=h
  rfl
 ·obtain ⟨r,ta,bs,p,lo,hi,rfl,⟨dx,hR,hS,hne⟩,hhi,q1,q2⟩:=h
  have nd:=sc_Reader_take_number.nd
  refine ⟨_,(pss_cons (ps_set (i:=3) nd rfl (Or.inl rfl) (pe_methC (pv 0) T.clReader c_Reader_take_digit hr passX (pa_cons pe_int (pa_cons (pv 1) (pa_cons (pv 2) pa_nil))))) (pss_cons (ps_while PassesOwn.leaving (PW.pt (pw_and (pt_cmpR op_gt (pv 3) pe_int (nomark _)) (pw_and1 (pt_chain op_le op_le pe_int (pe_methC0 (pv 0) T.clReader c_Reader_peek hr pass0) pe_int)))) (pss_one (ps_set (i:=3) nd rfl (Or.inl rfl) (pe_methC (pv 0) T.clReader c_Reader_take_digit hr passX (pa_cons (pv 3) (pa_cons (pv 1) (pa_cons (pv 2) pa_nil))))))) (pss_cons (ps_if (pt_cmpR op_lt (pv 3) (pv 1) (nomark _)) (pss_one (ps_raise T.exc rfl (pa_cons pe_str pa_nil))) pss_nil) (pss_one (ps_ret (pv 3)))))),?_⟩
  have hR2:=hR
  walk_at "rdr"
  refine ⟨rf_take_digit _ _,r,ta,bs,p,0,lo,hi,rfl,⟨dx,hR,hS,hne⟩,hhi,fun n H1 hn k1 R1=>?_,fun hn=>q2 p H (.inl (num_none hn)) ⟨dx,hR,hS,hne⟩⟩
  obtain ⟨W,hW⟩:∃ W:WT,W=fun m σ H'=>∃ v p',σ=[some (.ref r),some (.int lo),some (.int hi),some (.int (v:Nat))]∧Rdr K a H' r ta bs p'∧Kp [r] H H'∧v≤hi∧m=hi + 1 - v ∧
   (v=0→Vh.num lo hi p (bs.drop p)=if lo=0 then .ok (0,p',bs.drop p') else .error p')∧(v≠0→∃ f,NumAt bs lo hi p v p' f):=⟨_,rfl⟩
  walk_at "rd"
  refine ⟨W,⟨_,by
   rw [hW]
   refine ⟨n,p + 1,rfl,R1,k1,(dig_le hn).1,rfl,fun z=>?_,fun z=>⟨19,num_first hn,(dig_le hn).1,by omega⟩⟩
   rw [num_first hn,z,digits_zero]⟩,fun m σ H2 hw=>?_⟩
  rw [hW] at hw
  obtain ⟨v,p2,rfl,⟨dx2,hR,hS,hne⟩,k2,hv,rfl,hz,hnz⟩:=hw
  have hR2:=hR
  walk_at "rdr"
  split
  ·rename_i h0
   have hv0:v≠0:=by omega
   obtain ⟨f,N⟩:=hnz hv0
   have hf:1≤f:=by
    cases f with
    | zero=>have:=N.big; omega
    | succ f=>omega
   obtain ⟨f,rfl⟩:∃ g,f=g + 1:=⟨f - 1,by omega⟩
   have eq:=N.eq
   rw [digits_succ lo hi f (some v) bs p2 (by simp [hv0])] at eq
   have eq:Vh.num lo hi p (bs.drop p)=match dig bs lo hi v p2 with | some n=>Vh.digits lo hi f (some n) (p2 + 1) (bs.drop (p2 + 1)) | none=>if lo≤v∧v≤hi then .ok (v,p2,bs.drop p2) else .error p2:=eq
   refine ⟨rf_peek _ _,r,ta,bs,p2,rfl,⟨dx2,hR,hS,hne⟩,?_⟩
   walk_at "rdr"
   have stop:dig bs lo hi v p2=none→Rdr K a H2 r ta bs p2→if (v:Int) < lo then 1≤sizeLine∧E (.ref a.CE) none H2 else Q (.int v) H2:=fun hd R=>by
    rw [hd] at eq
    dsimp only at eq
    split
    ·rename_i h1
     rw [if_neg (by omega)] at eq
     exact ⟨by decide,q2 p2 H2 (.inl eq) R⟩
    ·rename_i h1
     rw [if_pos ⟨by omega,hv⟩] at eq
     exact q1 v p2 H2 eq (by omega) hv k2 R
   by_cases hd:48≤pk bs p2∧pk bs p2≤57
   ·rw [if_pos hd.1,if_pos hd.2]
    refine ⟨fun σ' H'=>∃ m',m' < hi + 1 - v∧W m' σ' H',fun _ _ z=>z,rf_take_digit _ _,r,ta,bs,p2,v,lo,hi,rfl,⟨dx2,hR,hS,hne⟩,hhi,fun n H3 hn k3 R3=>?_,fun hn=>?_⟩
    ·walk_at "rd"
     rw [hn] at eq
     have b:=dig_le hn
     refine ⟨hi + 1 - n,by omega,?_⟩
     rw [hW]
     refine ⟨n,p2 + 1,rfl,R3,k2.trans k3,b.1,rfl,fun z=>by omega,fun _=>⟨f,eq,b.1,?_⟩⟩
     have h1:=N.big
     have h2:=Nat.mul_le_mul_right (10 ^ f * 10) b.2.1
     have e1:v * 10 ^ (f + 1) * 10=v * 10 * (10 ^ f * 10):=by rw [Nat.pow_succ]; simp only [Nat.mul_assoc,Nat.mul_comm,Nat.mul_left_comm]
     have e2:n * 10 ^ f * 10=n * (10 ^ f * 10):=by rw [Nat.mul_assoc]
     omega
    ·rw [hn] at eq
     dsimp only at eq
     by_cases h1:lo≤v∧v≤hi
     ·rw [if_pos h1] at eq
      exact q2 p2 H2 (.inr ⟨v,eq,hd⟩) ⟨dx2,hR,hS,hne⟩
     ·rw [if_neg h1] at eq
      exact q2 p2 H2 (.inl eq) ⟨dx2,hR,hS,hne⟩
   ·have no:dig bs lo hi v p2=none:=by
     unfold dig
     rw [if_neg (fun z=>hd ⟨z.1,z.2.1⟩)]
    have st:=stop no ⟨dx2,hR,hS,hne⟩
    split
    ·rw [if_neg (by omega)]
     exact st
    ·exact st
  ·rename_i h0
   have hv0:v=0:=by omega
   have eq:=hz hv0
   subst hv0
   split
   ·rename_i h1
    rw [if_neg (by omega)] at eq
    exact ⟨by decide,q2 p2 H2 (.inl eq) ⟨dx2,hR,hS,hne⟩⟩
   ·rename_i h1
    rw [if_pos (by omega)] at eq
    exact q1 0 p2 H2 eq (by omega) (by omega) k2 ⟨dx2,hR,hS,hne⟩
end
section
variable {P:Program} {w:World} {K:PySem.W.Frag} {mg:Str→Option Value} {base:Heap} {a:Ad}
theorem atBase {n:Nat}:atI [V.int 192,V.int 224,V.int 240] ((moreL n:Int) + 1 - 2)=some (.int (baseL n:Int)):=by
 unfold moreL baseL
 split
 ·rfl
 ·split <;> rfl
def sp_Reader_take_long_letter (K:PySem.W.Frag) (a:Ad):Sp:=fun vs H Q E=>∃ (r ta:Addr) (bs:List UInt8) (p:Nat) (c:UInt8),vs=[.ref r,.int (c.toNat:Int),.int ((moreL c.toNat:Int) + 1)]∧Rdr K a H r ta bs p∧bs[p]?=some c∧194≤c.toNat∧c.toNat≤244 ∧
 Out K a H r ta bs p Vh.letter_ (fun x H'=>Q (.int (x:Nat)) H') E
abbrev s_Reader_take_long_letter:Stmt:=inClass (top 58) 8
theorem sc_Reader_take_long_letter:FnScope ["self","lead","size","value","bounds","left","byte"] ["self","lead","size"] (defScope s_Reader_take_long_letter):=⟨rfl,rfl,rfl,by decide +kernel,rfl,by decide +kernel,by decide +kernel⟩
theorem ok_Reader_take_long_letter {f:Addr} {fd:FuncData} (F:Fun K "take_long_letter" "Reader.take_long_letter" s_Reader_take_long_letter f fd) (T:Txt K mg a) (c_bounds_behind:FnC P w K mg base CX0 1 "bounds_behind" ["lead"] (sp_bounds_behind K a)) (c_Reader_peek:MethC P w K mg base CX0 1 a.CR "peek" ["self"] (sp_Reader_peek K a)) (c_is_letter:FnC P w K mg base CX0 1 "is_letter" ["character"] (sp_is_letter K a)):FnOk P w K mg base (CX1 P w a.CE) 2 f fd ["self","lead","size"] (sp_Reader_take_long_letter K a):=by
 refine F.okE sc_Reader_take_long_letter (fun vs H Q E h=>?_) (fun cdv A outer s H vs Q E hr h=>?_)
 ·obtain ⟨r,ta,bs,p,c,rfl,⟨dx,hR,hS,hne⟩,hc,h1,h2,q1,q2⟩:=h
  rfl
 ·obtain ⟨r,ta,bs,p,c,rfl,⟨dx,hR,hS,hne⟩,hc,h1,h2,q1,q2⟩:=h
  have nd:=sc_Reader_take_long_letter.nd
  refine ⟨_,(pss_cons (ps_fldaug (pv 0) pe_int in_add) (pss_cons (ps_set (i:=3) nd rfl (Or.inl rfl) (pe_op op_sub (pv 1) (pe_ix ix_tup (pe_tup (pa_cons pe_int (pa_cons pe_int (pa_cons pe_int pa_nil)))) (pe_op op_sub (pv 2) pe_int) (fun _ _=>rfl)))) (pss_cons (ps_set (i:=4) nd rfl (Or.inl rfl) (pe_callC c_bounds_behind hr pass0 (pa_cons (pv 1) pa_nil))) (pss_cons (ps_for PassesOwn.leaving rfl (pi_range3 rfl T.range (pa_cons (pe_op op_sub (pv 2) pe_int) (pa_cons (pe_un un_neg pe_int) (pa_cons (pe_un un_neg pe_int) pa_nil)))) (pg_name (i:=5) nd rfl (Or.inl rfl)) (pss_cons (ps_set (i:=6) nd rfl (Or.inl rfl) (pe_methC0 (pv 0) T.clReader c_Reader_peek hr pass0)) (pss_cons (ps_if (pt_not (pt_chain op_le op_le (pe_ix ix_tup (pv 4) pe_int (fun _ _=>rfl)) (pv 6) (pe_ix ix_tup (pv 4) pe_int (fun _ _=>rfl)))) (pss_one (ps_raise T.exc rfl (pa_cons pe_str pa_nil))) pss_nil) (pss_cons (ps_set (i:=3) nd rfl (Or.inl rfl) (pe_op op_sub (pe_op op_add (pe_op op_mul (pv 3) pe_int) (pv 6)) pe_int)) (pss_cons (ps_if (PW.pt (pw_and (pt_cmpR op_eq (pv 5) pe_int (nomark _)) (pw_and1 (pt_not (pt_val (pe_callC c_is_letter hr pass0 (pa_cons (pv 3) pa_nil))))))) (pss_one (ps_raise T.exc rfl (pa_cons pe_str pa_nil))) pss_nil) (pss_cons (ps_fldaug (pv 0) pe_int in_add) (pss_one (ps_set (i:=4) nd rfl (Or.inl rfl) (pe_tup (pa_cons pe_int (pa_cons pe_int pa_nil))))))))))) (pss_one (ps_ret (pv 3))))))),?_⟩
  have hR2:=hR
  have hlong:=long_letter hc h1 h2
  have z3:3≤sizeLine:=by decide
  have z2:2≤sizeLine:=by decide
  walk_at "rdr"
  refine ⟨by decide,z3,fun t1 ht1=>⟨_,.inl (.inl upd_same),_,atBase,_,rfl,_,rfl,fun t2 ht2=>?_⟩⟩
  have m3:moreL c.toNat≤3∧1≤moreL c.toNat:=by unfold moreL; split <;> (try split) <;> omega
  have ne1:t1≠r:=fun z=>by rw [z,upd_same] at ht1; cases ht1
  have ne2:t2≠r:=fun z=>by rw [z,upd_ne (Ne.symm ne1),upd_same] at ht2; cases ht2
  obtain ⟨Pv,hP⟩:∃ Pv:WT,Pv=fun i σ H'=>∃ (v:Nat) (lo hi:Int) (b:Addr) (p':Nat) (o1 o2:Option V),
   σ=[some (.ref r),some (.int (c.toNat:Int)),some (.int ((moreL c.toNat:Int) + 1)),some (.int (v:Int)),some (.ref b),o1,o2]∧Rdr K a H' r ta bs p'∧Kp [r] H H'∧H' b=some (.tup [.int lo,.int hi])∧128≤lo∧hi≤191 ∧
   longR bs (moreL c.toNat) (c.toNat - baseL c.toNat) (blo c.toNat) (bhi c.toNat) (p + 1)=longR bs (moreL c.toNat - i) v lo hi p':=⟨_,rfl⟩
  refine ⟨_,rfl,_,_,rfl,rfl,_,rfl,_,rfl,_,_,_,_,rfl,RgC.neg (by omega) (by omega) (by omega) (by omega),for_rangeC Pv ?_ ?_ ?_⟩
  ·have e:((c.toNat:Int) - (baseL c.toNat:Int))=((c.toNat - baseL c.toNat:Nat):Int):=by unfold baseL; split <;> (try split) <;> omega
   have k1:Kp [r] H (upd (upd (upd H r (HO.ins a.CR dx (rf ta ((p:Int) + 1)))) t1 (HO.tup [V.int 192,V.int 224,V.int 240])) t2 (HO.tup [V.int (blo c.toNat),V.int (bhi c.toNat)])) :=
    ((Kp.put (by simp)).trans (Kp.new ht1)).trans (Kp.new ht2)
   rw [hP]
   refine ⟨_,_,_,t2,p + 1,none,none,by rw [e],Rdr.move (dx:=dx) hS hne k1 (by rw [upd_ne (Ne.symm ne2),upd_ne (Ne.symm ne1),upd_same]; rfl),k1,upd_same,?_,?_,rfl⟩
   ·unfold blo; split <;> (try split) <;> omega
   ·unfold bhi; split <;> (try split) <;> omega
  ·intro i σ H2 hi hw
   rw [hP] at hw
   obtain ⟨v,lo,hi',b,p2,o1,o2,rfl,⟨dx2,hR,hS,hne⟩,k2,hb,l1,l2,eq⟩:=hw
   have hi:i < moreL c.toNat:=by omega
   obtain ⟨m,hm⟩:∃ m,moreL c.toNat - i=m + 1:=⟨moreL c.toNat - i - 1,by omega⟩
   rw [hm] at eq
   rw [eq] at hlong
   have hR2:=hR
   have R:Rdr K a H2 r ta bs p2:=⟨dx2,hR,hS,hne⟩
   walk_at "rdr"
   refine ⟨rf_peek _ _,r,ta,bs,p2,rfl,R,?_⟩
   walk_at "rdr"
   refine ⟨_,.inl (.inl hb),_,rfl,_,rfl,?_⟩
   by_cases hin:lo≤pk bs p2∧pk bs p2≤hi'
   ·rw [if_pos hin.1]
    refine ⟨_,.inl (.inl hb),_,rfl,_,rfl,?_⟩
    rw [if_neg (by omega)]
    refine ⟨.inr (by omega),?_⟩
    have ev:((v:Int) * 64 + pk bs p2 - 128)=((v * 64 + ((pk bs p2).toNat - 128):Nat):Int):=by omega
    simp only [ev]
    rw [longR,if_pos hin] at eq hlong
    have nxt:¬ (m=0∧isL ((v * 64 + ((pk bs p2).toNat - 128):Nat):Int)=false)→2 < 1000∧2≤sizeLine∧∀ t,upd H2 r (HO.ins a.CR dx2 (rf ta ((p2:Int) + 1))) t=none →
      Pv (i + 1) [some (V.ref r),some (V.int (c.toNat:Int)),some (V.int ((moreL c.toNat:Int) + 1)),some (V.int ((v * 64 + ((pk bs p2).toNat - 128):Nat):Int)),some (V.ref t),some (V.int ((moreL c.toNat:Int) + 1 - 2 + (i:Int) * -1)),some (V.int (pk bs p2))]
       (upd (upd H2 r (HO.ins a.CR dx2 (rf ta ((p2:Int) + 1)))) t (HO.tup [V.int 128,V.int 191])):=fun hno=>by
     refine ⟨by decide,z2,fun t ht=>?_⟩
     rw [if_neg hno] at eq
     have net:t≠r:=fun z=>by rw [z,upd_same] at ht; cases ht
     have k3:Kp [r] H2 (upd (upd H2 r (HO.ins a.CR dx2 (rf ta ((p2:Int) + 1)))) t (HO.tup [V.int 128,V.int 191])):=(Kp.put (by simp)).trans (Kp.new ht)
     rw [hP]
     exact ⟨_,128,191,t,p2 + 1,_,_,rfl,Rdr.move (dx:=dx2) hS hne k3 (by rw [upd_ne (Ne.symm net),upd_same]; rfl),k2.trans k3,upd_same,by omega,by omega,by rw [eq,show moreL c.toNat - (i + 1)=m by omega]⟩
    split
    ·rename_i h0
     refine ⟨_,rfl,?_⟩
     walk_at "rdr"
     split
     ·rename_i h5
      rw [if_pos ⟨by omega,h5⟩] at hlong
      exact ⟨by decide,q2 p2 H2 hlong R⟩
     ·rename_i h5
      exact nxt (fun z=>h5 z.2)
    ·rename_i h0
     exact nxt (fun z=>h0 (by omega))
   ·have er:Vh.letter_ p (bs.drop p)=.error p2:=by rw [hlong,longR,if_neg hin]; rfl
    split
    ·refine ⟨_,.inl (.inl hb),_,rfl,_,rfl,?_⟩
     rw [if_pos (by omega)]
     exact ⟨by decide,q2 p2 H2 er R⟩
    ·exact ⟨by decide,q2 p2 H2 er R⟩
  ·intro σ H2 hw
   rw [hP] at hw
   obtain ⟨v,lo,hi',b,p2,o1,o2,rfl,R,k2,hb,l1,l2,eq⟩:=hw
   walk_at "rd"
   rw [show moreL c.toNat - ((moreL c.toNat:Int) + 1 - 2 - -1).toNat=0 by omega,longR] at eq
   rw [eq] at hlong
   exact q1 v p2 H2 hlong k2 R
theorem inV_bs (n:Nat) (mk:List UInt8) (c:UInt8) (h:c.toNat=n):inV (.int (n:Int)) (bsV mk)=mk.contains c:=by
 subst h
 unfold inV bsV
 rw [List.any_map,List.contains_eq_any_beq]
 congr 1
 funext y
 show ((y.toNat:Int) == (c.toNat:Int))=(c == y)
 by_cases e:c=y
 ·subst e; simp
 ·rw [beq_eq_false_iff_ne.mpr e,beq_eq_false_iff_ne]
  intro z
  exact e (UInt8.toNat_inj.mp (by omega))
theorem flat_bs (mk:List UInt8):(bsV mk).all flatV=true:=by
 unfold bsV
 rw [List.all_map,List.all_eq_true]; intro _ _; rfl
def sp_Reader_take_character (K:PySem.W.Frag) (a:Ad):Sp:=fun vs H Q E=>∃ (r ma ta:Addr) (bs mk:List UInt8) (p:Nat),vs=[.ref r,.ref ma]∧Rdr K a H r ta bs p∧(∀ H',Kp [r] H H'→SqT K H' ma (bsV mk))∧(∀ c ∈ mk,c.toNat < 128) ∧
 Out K a H r ta bs p (char1 mk) (fun x H'=>Q (.int (x:Nat)) H') E
abbrev s_Reader_take_character:Stmt:=inClass (top 58) 7
theorem sc_Reader_take_character:FnScope ["self","marks","lead","size"] ["self","marks"] (defScope s_Reader_take_character):=⟨rfl,rfl,rfl,by decide +kernel,rfl,by decide +kernel,by decide +kernel⟩
theorem ok_Reader_take_character {f:Addr} {fd:FuncData} (F:Fun K "take_character" "Reader.take_character" s_Reader_take_character f fd) (T:Txt K mg a) (c_Reader_peek:MethC P w K mg base CX0 1 a.CR "peek" ["self"] (sp_Reader_peek K a)) (c_size_by_lead:FnC P w K mg base CX0 1 "size_by_lead" ["lead"] (sp_size_by_lead K a)) (c_Reader_take_long_letter:MethC P w K mg base (CX1 P w a.CE) 2 a.CR "take_long_letter" ["self","lead","size"] (sp_Reader_take_long_letter K a)) (c_is_letter:FnC P w K mg base CX0 1 "is_letter" ["character"] (sp_is_letter K a)):FnOk P w K mg base (CX1 P w a.CE) 3 f fd ["self","marks"] (sp_Reader_take_character K a):=by
 refine F.okE sc_Reader_take_character (fun vs H Q E h=>?_) (fun cdv A outer s H vs Q E hr h=>?_)
 ·obtain ⟨r,ma,ta,bs,mk,p,rfl,⟨dx,hR,hS,hne⟩,hma,hmk,q1,q2⟩:=h
  rfl
 ·obtain ⟨r,ma,ta,bs,mk,p,rfl,⟨dx,hR,hS,hne⟩,hma,hmk,q1,q2⟩:=h
  have nd:=sc_Reader_take_character.nd
  refine ⟨_,(pss_cons (ps_set (i:=2) nd rfl (Or.inl rfl) (pe_methC0 (pv 0) T.clReader c_Reader_peek hr pass0)) (pss_cons (ps_set (i:=3) nd rfl (Or.inl rfl) (pe_callC c_size_by_lead hr pass0 (pa_cons (pv 2) pa_nil))) (pss_cons (ps_if (pt_cmpR op_gt (pv 3) pe_int (nomark _)) (pss_one (ps_ret (pe_methC (pv 0) T.clReader c_Reader_take_long_letter hr passX (pa_cons (pv 2) (pa_cons (pv 3) pa_nil))))) pss_nil) (pss_cons (ps_if (PW.pt (pw_or (pt_cmpR op_eq (pv 3) pe_int (nomark _)) (pw_or1 (pt_not (PW.pt (pw_or (pt_val (pe_callC c_is_letter hr pass0 (pa_cons (pv 2) pa_nil))) (pw_or1 (pt_cmpR op_in_seq (pv 2) (pv 1) (by with_unfolding_all rfl))))))))) (pss_one (ps_raise T.exc rfl (pa_cons pe_str pa_nil))) pss_nil) (pss_cons (ps_fldaug (pv 0) pe_int in_add) (pss_one (ps_ret (pv 2)))))))),?_⟩
  have hR2:=hR
  have R:Rdr K a H r ta bs p:=⟨dx,hR,hS,hne⟩
  walk_at "rdr"
  refine ⟨rf_peek _ _,r,ta,bs,p,rfl,R,?_⟩
  walk_at "rdr"
  refine ⟨_,rfl,?_⟩
  walk_at "rdr"
  cases e:bs[p]? with
  | none =>
   rw [pk_none.mpr e]
   rw [if_neg (by decide),if_pos (by decide)]
   exact ⟨by decide,q2 p H (char1_no (by unfold cS; rw [e])) R⟩
  | some c =>
   rw [pk_some e]
   have hlt:=c.toNat_lt
   have er:128≤c.toNat→¬ (194≤c.toNat∧c.toNat≤244)→char1 mk p (bs.drop p)=.error p:=fun h1 h2=>char1_no (by
    unfold cS
    rw [e]
    dsimp only
    rw [Bool.or_eq_false_iff]
    constructor
    ·rw [List.contains_eq_any_beq,List.any_eq_false]
     intro y hy z
     have:=hmk y hy
     rw [← eq_of_beq z] at this
     omega
    ·unfold Vh.startsLetter
     rw [if_neg (by omega)]
     simp; omega)
   by_cases h1:c.toNat < 128
   ·have es:sizeL (c.toNat:Int)=1:=by unfold sizeL; rw [if_pos (by omega)]
    rw [es,if_neg (by decide),if_neg (by decide)]
    refine ⟨_,rfl,?_⟩
    walk_at "rdr"
    have k1:Kp [r] H (upd H r (HO.ins a.CR dx (rf ta ((p:Int) + 1)))):=Kp.put (by simp)
    have R1:Rdr K a (upd H r (HO.ins a.CR dx (rf ta ((p:Int) + 1)))) r ta bs (p + 1):=Rdr.move (dx:=dx) hS hne k1 (by rw [upd_same]; rfl)
    have okc:(mk.contains c=true∨isL (c.toNat:Int)=true)→char1 mk p (bs.drop p)=.ok (c.toNat,p + 1,bs.drop (p + 1)):=fun h=>by
     unfold char1 Vh.byNext
     rw [head_drop,e]
     dsimp only
     by_cases hm:mk.contains c=true
     ·rw [if_pos hm]; unfold Vh.behind Vh.gives; rw [drop_drop1]
     ·rw [if_neg hm]
      have hl:=h.resolve_left hm
      rw [isL_low h1] at hl
      unfold Vh.letter_ Vh.byNext
      rw [head_drop,e]
      dsimp only
      rw [if_neg (by unfold Vh.startsLetter; rw [if_pos h1,hl]; decide),if_pos h1]
      unfold Vh.behind Vh.gives; rw [drop_drop1]
    split
    ·rename_i hl
     exact ⟨by decide,q1 _ _ _ (okc (.inr hl)) k1 R1⟩
    ·rename_i hl
     refine ⟨_,.inr (hma H Kp.refl),rfl,flat_bs mk,?_⟩
     rw [inV_bs _ mk c rfl]
     split
     ·rename_i hm
      refine ⟨by decide,q2 p H (char1_no ?_) R⟩
      unfold cS
      rw [e]
      dsimp only
      rw [hm]
      unfold Vh.startsLetter
      rw [if_pos h1,← isL_low h1]
      simpa using hl
     ·rename_i hm
      exact ⟨by decide,q1 _ _ _ (okc (.inl (by simpa using hm))) k1 R1⟩
   ·by_cases h2:194≤c.toNat∧c.toNat≤244
    ·have es:sizeL (c.toNat:Int)=(moreL c.toNat:Int) + 1:=by
      unfold sizeL moreL
      rw [if_neg (by omega)]
      by_cases z1:c.toNat < 224
      ·rw [if_pos (by omega),if_pos z1]; rfl
      ·rw [if_neg (by omega),if_neg z1]
       by_cases z2:c.toNat < 240
       ·rw [if_pos (by omega),if_pos z2]; rfl
       ·rw [if_neg (by omega),if_pos (by omega),if_neg z2]; rfl
     have m3:1≤moreL c.toNat:=by unfold moreL; split <;> (try split) <;> omega
     rw [es,if_pos (by omega)]
     have ec:char1 mk p (bs.drop p)=Vh.letter_ p (bs.drop p):=by
      unfold char1 Vh.byNext
      rw [head_drop,e]
      dsimp only
      rw [if_neg]
      intro z
      rw [List.contains_eq_any_beq,List.any_eq_true] at z
      obtain ⟨y,hy,z⟩:=z
      have:=hmk y hy
      rw [← eq_of_beq z] at this
      omega
     rw [ec] at q1 q2
     exact ⟨rf_take_long_letter _ _,r,ta,bs,p,c,rfl,R,e,h2.1,h2.2,q1,q2⟩
    ·have es:sizeL (c.toNat:Int)=0:=by
      unfold sizeL
      rw [if_neg (by omega),if_neg (by omega),if_neg (by omega),if_neg (by omega)]
     rw [es,if_neg (by decide),if_pos rfl]
     exact ⟨by decide,q2 p H (er (by omega) h2) R⟩
end
section
variable {P:Program} {w:World} {K:PySem.W.Frag} {mg:Str→Option Value} {base:Heap} {a:Ad}
def lV (x:List Nat):List V:=x.map fun (n:Nat)=>V.int (n:Int)
theorem lV_len (x:List Nat):(lV x).length=x.length:=by unfold lV; rw [List.length_map]
theorem lV_snoc (x:List Nat) (n:Nat):lV x ++ [V.int (n:Int)]=lV (x ++ [n]):=by unfold lV; rw [List.map_append]; rfl
def OutT (K:PySem.W.Frag) (a:Ad) (H:Hp) (r ta:Addr) (bs mk:List UInt8) (p k:Nat) (Q:VK) (E:XK):Prop :=
 (∀ x p' H' l,VhPage.someChars_ mk k p (bs.drop p)=.ok (x,p',bs.drop p')→x.length≤k→1≤x.length→H l=none→l≠r→Kp [r] H H'→H' l=some (.lst (lV x))→Rdr K a H' r ta bs p'→Q (.ref l) H') ∧
 ∀ p' H',(VhPage.someChars_ mk k p (bs.drop p)=.error p'∨∃ x,VhPage.someChars_ mk k p (bs.drop p)=.ok (x,p',bs.drop p')∧pk bs p'≠32∧pk bs p'≠10)→Rdr K a H' r ta bs p'→E (.ref a.CE) none H'
def MkOk (K:PySem.W.Frag) (H:Hp) (r ma:Addr) (mk:List UInt8):Prop:=(∀ H',Kp [r] H H'→SqT K H' ma (bsV mk))∧∀ c ∈ mk,33≤c.toNat∧c.toNat < 128
theorem MkOk.kp {H H':Hp} {r ma:Addr} {mk:List UInt8} (h:MkOk K H r ma mk) (k:Kp [r] H H'):MkOk K H' r ma mk:=⟨fun H2 k2=>h.1 H2 (k.trans k2),h.2⟩
def sp_Reader_take_thing (K:PySem.W.Frag) (a:Ad):Sp:=fun vs H Q E=>∃ (r ma ta:Addr) (bs mk:List UInt8) (p k:Nat),vs=[.ref r,.int (k:Int),.ref ma]∧Rdr K a H r ta bs p∧MkOk K H r ma mk∧1≤k∧k≤1000∧OutT K a H r ta bs mk p k Q E
abbrev s_Reader_take_thing:Stmt:=inClass (top 58) 9
theorem sc_Reader_take_thing:FnScope ["self","most","marks","thing"] ["self","most","marks"] (defScope s_Reader_take_thing):=⟨rfl,rfl,rfl,by decide +kernel,rfl,by decide +kernel,by decide +kernel⟩
theorem ok_Reader_take_thing {f:Addr} {fd:FuncData} (F:Fun K "take_thing" "Reader.take_thing" s_Reader_take_thing f fd) (T:Txt K mg a) (c_Reader_take_character:MethC P w K mg base (CX1 P w a.CE) 3 a.CR "take_character" ["self","marks"] (sp_Reader_take_character K a)) (c_Reader_sees:MethC P w K mg base CX0 2 a.CR "sees" ["self","sign"] (sp_Reader_sees K a)):FnOk P w K mg base (CX1 P w a.CE) 4 f fd ["self","most","marks"] (sp_Reader_take_thing K a):=by
 refine F.okE sc_Reader_take_thing (fun vs H Q E h=>?_) (fun cdv A outer s H vs Q E hr h=>?_)
 ·obtain ⟨r,ma,ta,bs,mk,p,k,rfl,⟨dx,hR,hS,hne⟩,hma,hk1,hk2,q1,q2⟩:=h
  rfl
 ·obtain ⟨r,ma,ta,bs,mk,p,k,rfl,⟨dx,hR,hS,hne⟩,hma,hk1,hk2,q1,q2⟩:=h
  have nd:=sc_Reader_take_thing.nd
  refine ⟨_,(pss_cons (ps_set (i:=3) nd rfl (Or.inl rfl) (pe_lst (pa_cons (pe_methC (pv 0) T.clReader c_Reader_take_character hr passX (pa_cons (pv 2) pa_nil)) pa_nil))) (pss_cons (ps_while PassesOwn.leaving (PW.pt (pw_and (pt_cmpR op_lt (pe_callB call_len_seq rfl T.len PySem.boot_len (pa_cons (pv 3) pa_nil)) (pv 1) (nomark _)) (pw_and (pt_not (pt_val (pe_methC (pv 0) T.clReader c_Reader_sees hr pass0 (pa_cons pe_str pa_nil)))) (pw_and1 (pt_not (pt_val (pe_methC (pv 0) T.clReader c_Reader_sees hr pass0 (pa_cons pe_str pa_nil)))))))) (pss_one (ps_expr (pe_bm PySem.F.plainAttrs_list PySem.F.slot_list_append PySem.F.type_list_append mt_append (pv 3) (pa_cons (pe_methC (pv 0) T.clReader c_Reader_take_character hr passX (pa_cons (pv 2) pa_nil)) pa_nil))))) (pss_one (ps_ret (pv 3))))),?_⟩
  have hR2:=hR
  have R:Rdr K a H r ta bs p:=⟨dx,hR,hS,hne⟩
  obtain ⟨k',rfl⟩:∃ k',k=k' + 1:=⟨k - 1,by omega⟩
  have hS0:=hS
  have hm33:∀ c ∈ mk,33≤c.toNat:=fun c hc=>(hma.2 c hc).1
  walk_at "rdr"
  refine ⟨rf_take_character _ _,r,ma,ta,bs,mk,p,rfl,R,hma.1,fun c hc=>(hma.2 c hc).2,fun n p1 H1 e1 k1 R1=>?_,fun p1 H1 e1 R1=>?_⟩
  ·refine ⟨by decide,fun l hl=>?_⟩
   have hs:cS bs mk p=true:=by
    cases z:cS bs mk p with
    | true=>rfl
    | false=>rw [char1_no z] at e1; cases e1
   have lr:l≠r:=fun z=>by
    obtain ⟨_,h,_⟩:=R1
    rw [z,h] at hl; cases hl
   have hl0:H l=none:=k1.free (by simpa using lr) hl
   obtain ⟨W,hW⟩:∃ W:WT,W=fun m σ H'=>∃ (xs:List Nat) (p':Nat),σ=[some (.ref r),some (.int ((k' + 1:Nat):Int)),some (.ref ma),some (.ref l)]∧H' l=some (.lst (lV xs))∧Rdr K a H' r ta bs p'∧Kp [r] H H'∧1≤xs.length∧xs.length≤k' + 1 ∧
    VhPage.chars_ mk (k' + 1) p (bs.drop p)=preO xs (VhPage.chars_ mk (k' + 1 - xs.length) p' (bs.drop p'))∧m=k' + 1 - xs.length:=⟨_,rfl⟩
   walk_at "rdr"
   refine ⟨W,⟨_,by
    rw [hW]
    have k2:Kp [r] H1 (upd H1 l (HO.lst [V.int (n:Int)])):=Kp.new hl
    have R2:Rdr K a (upd H1 l (HO.lst [V.int (n:Int)])) r ta bs p1:=by
     obtain ⟨dx1,a1,a2,a3⟩:=R1
     exact Rdr.move (dx:=dx1) a2 a3 k2 (by rw [upd_ne (Ne.symm lr)]; exact a1)
    exact ⟨[n],p1,rfl,upd_same,R2,k1.trans k2,by simp,by simp,chars_ok hs e1,rfl⟩⟩,fun m σ H2 hw=>?_⟩
   rw [hW] at hw
   obtain ⟨xs,p2,rfl,hl2,⟨dx2,hR,hS,hne⟩,k2,x1,x2,eq,rfl⟩:=hw
   have hR2:=hR
   have R2:Rdr K a H2 r ta bs p2:=⟨dx2,hR,hS,hne⟩
   have fin:(xs.length=k' + 1∨pk bs p2=32∨pk bs p2=10)→Q (.ref l) H2:=fun h=>by
    have e:VhPage.chars_ mk (k' + 1) p (bs.drop p)=.ok (xs,p2,bs.drop p2):=by
     rw [eq]
     rcases h with h | h
     ·rw [h,Nat.sub_self,VhPage.chars_]
      unfold Vh.gives
      show Except.ok (xs ++ [],_,_)=_
      rw [List.append_nil]
     ·rw [chars_no (cS_not hm33 h)]
      show Except.ok (xs ++ [],_,_)=_
      rw [List.append_nil]
    exact q1 xs p2 H2 l (some_of_chars e (by cases xs <;> simp at x1 ⊢)) x2 x1 hl0 lr k2 hl2 R2
   walk_at "rdr"
   refine ⟨_,.inl (.inl (.inl hl2)),?_⟩
   rw [lV_len]
   by_cases hlen:xs.length=k' + 1
   ·rw [if_neg (by omega)]
    exact fin (.inl hlen)
   ·rw [if_pos (by omega)]
    refine ⟨rf_sees _ _,r,ta,bs,p2,_,32,rfl,R2,by decide,by decide,?_⟩
    walk_at "rdr"
    by_cases h32:pk bs p2=32
    ·rw [if_neg (by simpa using h32)]
     exact fin (.inr (.inl h32))
    ·rw [if_pos (by simpa using h32)]
     refine ⟨rf_sees _ _,r,ta,bs,p2,_,10,rfl,R2,by decide,by decide,?_⟩
     walk_at "rdr"
     by_cases h10:pk bs p2=10
     ·rw [if_neg (by simpa using h10)]
      exact fin (.inr (.inr h10))
     ·rw [if_pos (by simpa using h10)]
      refine ⟨fun σ' H'=>∃ m',m' < k' + 1 - xs.length∧W m' σ' H',fun _ _ z=>z,?_⟩
      have ex:k' + 1 - xs.length=(k' + 1 - (xs.length + 1)) + 1:=by omega
      simp only [tBM,rAppend]
      walk_at "rdr"
      refine ⟨.inl ⟨rfl,_,.inl (.inl hl2)⟩,rf_take_character _ _,r,ma,ta,bs,mk,p2,rfl,R2,(hma.kp k2).1,fun c hc=>(hma.2 c hc).2,fun n3 p3 H3 e3 k3 R3=>?_,fun p3 H3 e3 R3=>?_⟩
      ·have hs2:cS bs mk p2=true:=by
        cases z:cS bs mk p2 with
        | true=>rfl
        | false=>rw [char1_no z] at e3; cases e3
       have hl3:H3 l=some (.lst (lV xs)):=k3 _ _ hl2 (by simpa using lr)
       refine ⟨_,hl3,?_,k' + 1 - (xs.length + 1),by omega,?_⟩
       ·rw [lV_len]; exact Nat.lt_of_le_of_lt (show xs.length≤1000 by omega) (by decide)
       ·rw [hW,lV_snoc]
        have k4:Kp [r] H (upd H3 l (HO.lst (lV (xs ++ [n3])))):=(k2.trans k3).put2 (.inr hl0)
        have R4:Rdr K a (upd H3 l (HO.lst (lV (xs ++ [n3])))) r ta bs p3:=by
         obtain ⟨dx1,a1,a2,a3⟩:=R3
         exact ⟨dx1,by rw [upd_ne (Ne.symm lr)]; exact a1,k4.seq (by simpa using hne) hS0,hne⟩
        refine ⟨xs ++ [n3],p3,rfl,upd_same,R4,k4,by simp,by simp; omega,?_,by simp⟩
        rw [eq,ex,chars_ok hs2 e3,preO_pre]
        simp
      ·refine q2 p3 H3 ?_ R3
       by_cases hs2:cS bs mk p2=true
       ·exact .inl (some_err (by rw [eq,ex,chars_err hs2 e3]; rfl))
       ·have hs2:cS bs mk p2=false:=by simpa using hs2
        rw [char1_no hs2] at e3
        injection e3 with e3
        subst e3
        refine .inr ⟨xs,some_of_chars ?_ (by cases xs <;> simp at x1 ⊢),h32,h10⟩
        rw [eq,chars_no hs2]
        show Except.ok (xs ++ [],_,_)=_
        rw [List.append_nil]
  ·refine q2 p1 H1 (.inl ?_) R1
   by_cases hs:cS bs mk p=true
   ·exact some_err (chars_err hs e1)
   ·have hs:cS bs mk p=false:=by simpa using hs
    rw [char1_no hs] at e1
    injection e1 with e1
    subst e1
    exact some_nil (chars_no hs)
end
section
variable {P:Program} {w:World} {K:PySem.W.Frag} {mg:Str→Option Value} {base:Heap} {a:Ad}
def LN (H H':Hp) (x:List Nat) (v:V):Prop:=∃ l,v=.ref l∧H' l=some (.lst (lV x))∧H l=none
theorem Paired.snoc {α β:Type} {R:α→β→Prop}:∀ {xs:List α} {ys:List β} {x:α} {y:β},Paired R xs ys→R x y→Paired R (xs ++ [x]) (ys ++ [y])
 | _,_,_,_,.nil,h=>.cons h .nil
 | _,_,_,_,.cons r t,h=>.cons r (Paired.snoc t h)
theorem Paired.app {α β:Type} {R:α→β→Prop}:∀ {xs xs':List α} {ys ys':List β},Paired R xs ys→Paired R xs' ys'→Paired R (xs ++ xs') (ys ++ ys')
 | _,_,_,_,.nil,h=>h
 | _,_,_,_,.cons r t,h=>.cons r (Paired.app t h)
def OutR (K:PySem.W.Frag) (a:Ad) (H:Hp) (r ta:Addr) (bs mk:List UInt8) (p n k:Nat) (Q:VK) (E:XK):Prop :=
 (∀ xs vs p' H' l,VhPage.row_ (VhPage.someChars_ mk k) n p (bs.drop p)=(if pk bs p'=10 then .ok (xs,p' + 1,bs.drop (p' + 1)) else .error p')→1≤xs.length→xs.length≤n→(∀ x ∈ xs,x.length≤k)→H l=none→Kp [r] H H'→H' l=some (.lst vs)→Paired (LN H H') xs vs →
  Rdr K a H' r ta bs p'→Q (.ref l) H') ∧
 ∀ p' H',VhPage.row_ (VhPage.someChars_ mk k) n p (bs.drop p)=.error p'→Rdr K a H' r ta bs p'→E (.ref a.CE) none H'
def sp_Reader_take_things (K:PySem.W.Frag) (a:Ad):Sp:=fun vs H Q E=>∃ (r ma ta:Addr) (bs mk:List UInt8) (p n k:Nat),vs=[.ref r,.int (n:Int),.int (k:Int),.ref ma]∧Rdr K a H r ta bs p∧MkOk K H r ma mk∧1≤n∧n≤8192∧1≤k∧k≤1000 ∧
 OutR K a H r ta bs mk p n k Q E
abbrev s_Reader_take_things:Stmt:=inClass (top 58) 10
theorem sc_Reader_take_things:FnScope ["self","most_things","most","marks","things"] ["self","most_things","most","marks"] (defScope s_Reader_take_things):=⟨rfl,rfl,rfl,by decide +kernel,rfl,by decide +kernel,by decide +kernel⟩
theorem ok_Reader_take_things {f:Addr} {fd:FuncData} (F:Fun K "take_things" "Reader.take_things" s_Reader_take_things f fd) (T:Txt K mg a) (c_Reader_take_thing:MethC P w K mg base (CX1 P w a.CE) 4 a.CR "take_thing" ["self","most","marks"] (sp_Reader_take_thing K a)) (c_Reader_sees:MethC P w K mg base CX0 2 a.CR "sees" ["self","sign"] (sp_Reader_sees K a)) (c_Reader_take:MethC P w K mg base (CX1 P w a.CE) 3 a.CR "take" ["self","sign"] (sp_Reader_take K a)):FnOk P w K mg base (CX1 P w a.CE) 5 f fd ["self","most_things","most","marks"] (sp_Reader_take_things K a):=by
 refine F.okE sc_Reader_take_things (fun vs H Q E h=>?_) (fun cdv A outer s H vs Q E hr h=>?_)
 ·obtain ⟨r,ma,ta,bs,mk,p,n,k,rfl,⟨dx,hR,hS,hne⟩,hma,hn1,hn2,hk1,hk2,q1,q2⟩:=h
  rfl
 ·obtain ⟨r,ma,ta,bs,mk,p,n,k,rfl,⟨dx,hR,hS,hne⟩,hma,hn1,hn2,hk1,hk2,q1,q2⟩:=h
  have nd:=sc_Reader_take_things.nd
  refine ⟨_,(pss_cons (ps_set (i:=4) nd rfl (Or.inl rfl) (pe_lst (pa_cons (pe_methC (pv 0) T.clReader c_Reader_take_thing hr passX (pa_cons (pv 2) (pa_cons (pv 3) pa_nil))) pa_nil))) (pss_cons (ps_while PassesOwn.leaving (PW.pt (pw_and (pt_val (pe_methC (pv 0) T.clReader c_Reader_sees hr pass0 (pa_cons pe_str pa_nil))) (pw_and1 (pt_cmpR op_lt (pe_callB call_len_seq rfl T.len PySem.boot_len (pa_cons (pv 4) pa_nil)) (pv 1) (nomark _))))) (pss_cons (ps_expr (pe_methC (pv 0) T.clReader c_Reader_take hr passX (pa_cons pe_str pa_nil))) (pss_one (ps_expr (pe_bm PySem.F.plainAttrs_list PySem.F.slot_list_append PySem.F.type_list_append mt_append (pv 4) (pa_cons (pe_methC (pv 0) T.clReader c_Reader_take_thing hr passX (pa_cons (pv 2) (pa_cons (pv 3) pa_nil))) pa_nil)))))) (pss_one (ps_ret (pv 4))))),?_⟩
  have hR2:=hR
  have R:Rdr K a H r ta bs p:=⟨dx,hR,hS,hne⟩
  have hS0:=hS
  obtain ⟨n',rfl⟩:∃ n',n=n' + 1:=⟨n - 1,by omega⟩
  walk_at "rdr"
  have bad:∀ {m p1:Nat},(pk bs p1≠32∧pk bs p1≠10)→rowTail (VhPage.someChars_ mk k) m p1 (bs.drop p1)=.error p1:=fun h=>tail_no h.2 (.inr h.1)
  refine ⟨rf_take_thing _ _,r,ma,ta,bs,mk,p,k,rfl,R,hma,hk1,hk2,fun x p1 H1 l1 e1 x2 x1 hl1 l1r k1 hx R1=>?_,fun p1 H1 e1 R1=>?_⟩
  ·refine ⟨by decide,fun l hl=>?_⟩
   have lr:l≠r:=fun z=>by
    obtain ⟨_,h,_⟩:=R1
    rw [z,h] at hl; cases hl
   have hl0:H l=none:=k1.free (by simpa using lr) hl
   have ll1:l1≠l:=fun z=>by rw [z,hl] at hx; cases hx
   obtain ⟨W,hW⟩:∃ W:WT,W=fun m σ H'=>∃ (xs:List (List Nat)) (vs:List V) (p':Nat),σ=[some (.ref r),some (.int ((n' + 1:Nat):Int)),some (.int (k:Int)),some (.ref ma),some (.ref l)]∧H' l=some (.lst vs)∧Paired (fun x v=>LN H H' x v∧v≠.ref l) xs vs∧Rdr K a H' r ta bs p'∧Kp [r] H H'∧1≤xs.length∧xs.length≤n' + 1∧(∀ x ∈ xs,x.length≤k) ∧
    VhPage.row_ (VhPage.someChars_ mk k) (n' + 1) p (bs.drop p)=preO xs (rowTail (VhPage.someChars_ mk k) (n' + 1 - xs.length) p' (bs.drop p'))∧m=n' + 1 - xs.length:=⟨_,rfl⟩
   walk_at "rdr"
   refine ⟨W,⟨_,by
    rw [hW]
    have k2:Kp [r] H1 (upd H1 l (HO.lst [V.ref l1])):=Kp.new hl
    have R2:Rdr K a (upd H1 l (HO.lst [V.ref l1])) r ta bs p1:=by
     obtain ⟨dx1,a1,a2,a3⟩:=R1
     exact Rdr.move (dx:=dx1) a2 a3 k2 (by rw [upd_ne (Ne.symm lr)]; exact a1)
    exact ⟨[x],[.ref l1],p1,rfl,upd_same,.cons ⟨⟨l1,rfl,by rw [upd_ne ll1]; exact hx,hl1⟩,fun z=>ll1 (V.ref.inj z)⟩ .nil,R2,k1.trans k2,by simp,by simp,by simpa using x2,row_ok e1,rfl⟩⟩,fun m σ H2 hw=>?_⟩
   rw [hW] at hw
   obtain ⟨xs,vs,p2,rfl,hl2,hP,⟨dx2,hR,hS,hne⟩,k2,x1,x2,x3,eq,rfl⟩:=hw
   have hR2:=hR
   have R2:Rdr K a H2 r ta bs p2:=⟨dx2,hR,hS,hne⟩
   have hlen:=Paired.length hP
   have fin:(xs.length=n' + 1∨pk bs p2≠32)→Q (.ref l) H2:=fun h=>by
    refine q1 xs vs p2 H2 l ?_ x1 x2 x3 hl0 k2 hl2 (Paired.mapP hP fun _ _ z=>z.1) R2
    rw [eq]
    by_cases h10:pk bs p2=10
    ·rw [tail10 h10,if_pos h10]
     show Except.ok (xs ++ [],_,_)=_
     rw [List.append_nil]
    ·rw [tail_no h10 (h.imp (fun z=>by omega) id),if_neg h10]
     rfl
   walk_at "rdr"
   refine ⟨rf_sees _ _,r,ta,bs,p2,_,32,rfl,R2,by decide,by decide,?_⟩
   walk_at "rdr"
   by_cases h32:pk bs p2=32
   ·rw [if_pos (by simpa using h32)]
    refine ⟨_,.inl (.inl (.inl hl2)),?_⟩
    rw [← hlen]
    by_cases hfull:xs.length=n' + 1
    ·rw [if_neg (by omega)]
     exact fin (.inl hfull)
    ·rw [if_pos (by omega)]
     refine ⟨fun σ' H'=>∃ m',m' < n' + 1 - xs.length∧W m' σ' H',fun _ _ z=>z,?_⟩
     have ex:n' + 1 - xs.length=(n' + 1 - (xs.length + 1)) + 1:=by omega
     have eqt:VhPage.row_ (VhPage.someChars_ mk k) (n' + 1) p (bs.drop p)=preO xs (VhPage.row_ (VhPage.someChars_ mk k) (n' + 1 - xs.length) (p2 + 1) (bs.drop (p2 + 1))):=by rw [eq,tail32 h32 (by omega)]
     refine ⟨rf_take _ _,r,ta,bs,p2,_,32,rfl,R2,by decide,by decide,fun _ p3 H3 e3 k3 R3=>?_,fun p3 H3 e3 R3=>?_⟩
     ·have ep:p3=p2 + 1:=by
       rw [byte_ok (c:=32) h32] at e3
       injection e3 with e3; injection e3 with _ e3; injection e3 with e3 _
       exact e3.symm
      subst ep
      obtain ⟨dx3,hR,hS,hne⟩:=R3
      have hR2:=hR
      have R3:Rdr K a H3 r ta bs (p2 + 1):=⟨dx3,hR,hS,hne⟩
      have hl3:H3 l=some (.lst vs):=k3 _ _ hl2 (by simpa using lr)
      simp only [tBM,rAppend]
      walk_at "rdr"
      refine ⟨.inl ⟨rfl,_,.inl (.inl hl3)⟩,rf_take_thing _ _,r,ma,ta,bs,mk,p2 + 1,k,rfl,R3,hma.kp (k2.trans k3),hk1,hk2,fun x p4 H4 l4 e4 y2 y1 hl4 l4r k4 hx4 R4=>?_,fun p4 H4 e4 R4=>?_⟩
      ·have hl4':H4 l=some (.lst vs):=k4 _ _ hl3 (by simpa using lr)
       have ne4:l4≠l:=fun z=>by rw [z,hl3] at hl4; cases hl4
       refine ⟨_,hl4',?_,n' + 1 - (xs.length + 1),by omega,?_⟩
       ·rw [← hlen]; exact Nat.lt_of_le_of_lt (show xs.length≤8192 by omega) (by decide)
       ·rw [hW]
        have k5:Kp [r] H (upd H4 l (HO.lst (vs ++ [V.ref l4]))):=((k2.trans k3).trans k4).put2 (.inr hl0)
        have R5:Rdr K a (upd H4 l (HO.lst (vs ++ [V.ref l4]))) r ta bs p4:=by
         obtain ⟨dx1,a1,a2,a3⟩:=R4
         exact ⟨dx1,by rw [upd_ne (Ne.symm lr)]; exact a1,k5.seq (by simpa using hne) hS0,hne⟩
        refine ⟨xs ++ [x],vs ++ [.ref l4],p4,rfl,upd_same,Paired.snoc (Paired.mapP hP ?_) ⟨⟨l4,rfl,by rw [upd_ne ne4]; exact hx4,(k2.trans k3).free (by simpa using l4r) hl4⟩,fun z=>ne4 (V.ref.inj z)⟩,R5,k5,by simp,by simp; omega,fun z hz=>(List.mem_append.mp hz).elim (x3 z) (fun h=>by rw [List.mem_singleton.mp h]; exact y2),?_,by simp⟩
        ·rintro y v ⟨⟨b,rfl,hb,hb0⟩,nb⟩
         have br:b≠r:=fun z=>by
          obtain ⟨_,h,_⟩:=R
          rw [z,h] at hb0; cases hb0
         have nb:b≠l:=fun z=>nb (by rw [z])
         exact ⟨⟨b,rfl,by rw [upd_ne nb]; exact k4 _ _ (k3 _ _ hb (by simpa using br)) (by simpa using br),hb0⟩,fun z=>nb (V.ref.inj z)⟩
        ·rw [eqt,ex,row_ok e4,preO_pre]
         simp
      ·refine q2 p4 H4 ?_ R4
       rw [eqt,ex]
       rcases e4 with e4 | ⟨x,e4,hb⟩
       ·rw [row_err e4]; rfl
       ·rw [row_ok e4,bad hb]; rfl
     ·rw [byte_ok (c:=32) h32] at e3
      cases e3
   ·rw [if_neg (by simpa using h32)]
    exact fin (.inr h32)
  ·refine q2 p1 H1 ?_ R1
   rcases e1 with e1 | ⟨x,e1,hb⟩
   ·exact row_err e1
   ·rw [row_ok e1,bad hb]; rfl
end
section
variable {P:Program} {w:World} {K:PySem.W.Frag} {mg:Str→Option Value} {base:Heap} {a:Ad}
theorem for_enum {K:PySem.W.Frag} {a:Addr} {xs:List V} {g:TG} {tb:TS} {D:Ends} {σ:L2.St} {H:Hp} (Pv:WT) (h0:Pv 0 σ H) (hl:∀ i σ H,i≤xs.length→Pv i σ H→SqL K H a xs)
  (hs:∀ i x σ H T,xs[i]?=some x→Pv i σ H→H T=none→g (.ref T) σ (upd H T (.tup [.int (i:Nat),x])) fun σ2 H2=>tb { D with nx:=Pv (i + 1),ct:=Pv (i + 1),bk:=D.nx } σ2 H2) (hd:∀ σ H,Pv xs.length σ H→D.nx σ H) :
  ∃ W:Nat→Nat→L2.St→Hp→Prop,(∃ m,W 0 m σ H)∧∀ i m σ H,W i m σ H →
   ((Ite K a).stop i H∧D.nx σ H)∨((Ite K a).go i H∧∃ N:L2.St→Hp→Prop,(∀ σ' H',N σ' H'→∃ m',m' < m∧W (i + 1) m' σ' H')∧∀ x H',(Ite K a).yld i H x H'→g x σ H' fun σ2 H2=>tb { D with nx:=N,ct:=N,bk:=D.nx } σ2 H2):=by
 refine ⟨fun i m σ H=>i + m=xs.length∧Pv i σ H,⟨xs.length,by simp,h0⟩,?_⟩
 rintro i m σ H ⟨hm,p⟩
 have q:=hl i σ H (by omega) p
 cases m with
 | zero =>
  have e:i=xs.length:=by omega
  subst e
  exact .inl ⟨⟨xs,q,Nat.le_refl _⟩,hd σ H p⟩
 | succ m =>
  refine .inr ⟨⟨xs,xs[i]'(by omega),q,by simp [show i < xs.length by omega]⟩,Pv (i + 1),fun σ' H' p'=>⟨m,by omega,by omega,p'⟩,?_⟩
  rintro v H' ⟨t,x,rfl,ht,rfl,hx⟩
  exact hs i x σ H t (hx xs q) p ht
def joinL (sep:Nat):List (List Nat)→List Nat
 | []=>[]
 | [x]=>x
 | x :: y :: r=>x ++ sep :: joinL sep (y :: r)
theorem joinL_snoc (sep:Nat) (x:List Nat):∀ (ys:List (List Nat)),ys≠[]→joinL sep (ys ++ [x])=joinL sep ys ++ sep :: x
 | [],h=>absurd rfl h
 | [y],_=>rfl
 | y :: z :: r,_=>by
  show y ++ sep :: joinL sep (z :: r ++ [x])=(y ++ sep :: joinL sep (z :: r)) ++ sep :: x
  rw [joinL_snoc sep x (z :: r) (by simp)]
  simp
theorem take_snoc' {α:Type} {l:List α} {i:Nat} {x:α} (h:l[i]?=some x):l.take (i + 1)=l.take i ++ [x]:=by
 rw [List.take_add_one,h]; rfl
theorem Paired.get {α β:Type} {R:α→β→Prop}:∀ {xs:List α} {ys:List β} {i:Nat} {y:β},Paired R xs ys→ys[i]?=some y→∃ x,xs[i]?=some x∧R x y
 | _,_,_,_,.nil,e=>by simp at e
 | _,_,0,_,.cons r _,e=>by simp at e; subst e; exact ⟨_,rfl,r⟩
 | _,_,i + 1,y,.cons _ t,e=>by
  obtain ⟨u,h1,h2⟩:=Paired.get (i:=i) (y:=y) t (by simpa using e)
  exact ⟨u,by simpa using h1,h2⟩
theorem joinL_len (sep:Nat):∀ (ys:List (List Nat)) (i:Nat),(joinL sep (ys.take i)).length≤(joinL sep ys).length
 | [],i=>by simp [joinL]
 | [y],i=>by cases i <;> simp [joinL]
 | y :: z :: r,i=>by
  cases i with
  | zero=>simp [joinL]
  | succ i =>
   cases i with
   | zero=>simp [joinL]
   | succ i =>
    have:=joinL_len sep (z :: r) (i + 1)
    simp only [List.take_succ_cons,joinL,List.length_append,List.length_cons] at this ⊢
    omega
def sp_joined (K:PySem.W.Frag) (a:Ad):Sp:=fun vs H Q _=>∃ (lt:Addr) (us:List V) (xs:List (List Nat)) (sep:Nat),vs=[.ref lt,.int (sep:Int)]∧H lt=some (.lst us)∧Paired (fun x v=>∃ l,v=V.ref l∧H l=some (.lst (lV x))) xs us∧(joinL sep xs).length≤16777216 ∧
 ∀ H' p,H p=none→Kp [] H H'→H' p=some (.lst (lV (joinL sep xs)))→Q (.ref p) H'
abbrev s_joined:Stmt:=top 9
theorem sc_joined:FnScope ["things","between","characters","k","thing"] ["things","between"] (defScope s_joined):=⟨rfl,rfl,rfl,by decide +kernel,rfl,by decide +kernel,by decide +kernel⟩
theorem ok_joined {f:Addr} {fd:FuncData} (F:Fun K "joined" "joined" s_joined f fd) (T:Txt K mg a):FnOk P w K mg base CX0 1 f fd ["things","between"] (sp_joined K a):=by
 refine F.ok sc_joined (fun vs H Q E h=>?_) (fun cdv A outer s H vs Q E hr h=>?_)
 ·obtain ⟨lt,us,xs,sep,rfl,hlt,hP,hlen,q⟩:=h
  rfl
 ·obtain ⟨lt,us,xs,sep,rfl,hlt,hP,hlen,q⟩:=h
  have nd:=sc_joined.nd
  refine ⟨_,(pss_cons (ps_set (i:=2) nd rfl (Or.inl rfl) (pe_lst pa_nil)) (pss_cons (ps_for PassesOwn.never rfl (pi_enum rfl T.enumerate (pa_cons (pv 0) pa_nil)) (pg_tup rfl (pgs_cons (pg_name (i:=3) nd rfl (Or.inl rfl)) (pgs_cons (pg_name (i:=4) nd rfl (Or.inl rfl)) pgs_nil))) (pss_cons (ps_if (pt_cmpR op_gt (pv 3) pe_int (nomark _)) (pss_one (ps_expr (pe_bm PySem.F.plainAttrs_list PySem.F.slot_list_append PySem.F.type_list_append mt_append (pv 2) (pa_cons (pv 1) pa_nil)))) pss_nil) (pss_one (ps_expr (pe_bm PySem.F.plainAttrs_list PySem.F.slot_list_extend PySem.F.type_list_extend mt_extend (pv 2) (pa_cons (pv 4) pa_nil)))))) (pss_one (ps_ret (pv 2))))),?_⟩
  walk_at "rd"
  refine ⟨by decide,fun l hl=>?_⟩
  have nlt:lt≠l:=ne_of_none hlt hl
  obtain ⟨Pv,hPv⟩:∃ Pv:WT,Pv=fun i σ H'=>∃ o1 o2:Option V,σ=[some (.ref lt),some (.int (sep:Int)),some (.ref l),o1,o2]∧Kp [] H H'∧H' l=some (.lst (lV (joinL sep (xs.take i)))):=⟨_,rfl⟩
  refine ⟨_,rfl,_,_,rfl,.inl (.inl (by rw [upd_ne nlt]; exact hlt)),for_enum (xs:=us) Pv ?_ ?_ ?_ ?_⟩
  ·rw [hPv]
   exact ⟨none,none,rfl,Kp.new hl,by rw [upd_same]; rfl⟩
  ·intro i σ H' _ hw
   rw [hPv] at hw
   obtain ⟨o1,o2,rfl,k,_⟩:=hw
   exact .inl (.inl (k _ _ hlt (by simp)))
  ·intro i v σ H2 t hi hw ht
   rw [hPv] at hw
   obtain ⟨o1,o2,rfl,k,hl2⟩:=hw
   obtain ⟨x,hx,b,rfl,hb⟩:=Paired.get hP hi
   have tl:l≠t:=ne_of_none hl2 ht
   have bl:b≠l:=ne_of_none hb hl
   have tot:=joinL_len sep xs (i + 1)
   rw [take_snoc' hx] at tot
   walk_at "rd"
   refine ⟨_,.inl (.inl upd_same),rfl,_,_,rfl,_,_,rfl,rfl,?_⟩
   have hb2:H2 b=some (.lst (lV x)):=k _ _ hb (by simp)
   have bt:b≠t:=ne_of_none hb2 ht
   have hz:sizeLine=16777216:=by decide
   have lt2:upd H2 t (HO.tup [V.int (i:Int),V.ref b]) l=some (.lst (lV (joinL sep (xs.take i)))):=by rw [upd_ne tl]; exact hl2
   have bt2:upd H2 t (HO.tup [V.int (i:Int),V.ref b]) b=some (.lst (lV x)):=by rw [upd_ne bt]; exact hb2
   refine ⟨_,rfl,?_⟩
   have kk:Kp [] H (upd H2 t (HO.tup [V.int (i:Int),V.ref b])):=k.trans (Kp.new ht)
   by_cases h0:0 < i
   ·have ne:xs.take i≠[]:=by
     intro z
     have h1:=congrArg List.length z
     have h2:i < xs.length:=(List.getElem?_eq_some_iff.mp hx).1
     rw [List.length_take,List.length_nil] at h1
     omega
    rw [joinL_snoc sep x _ ne,List.length_append,List.length_cons] at tot
    rw [if_pos (by omega)]
    refine ⟨.inl ⟨rfl,_,.inl (.inl lt2)⟩,_,lt2,by rw [lV_len]; omega,.inl ⟨rfl,_,.inl (.inl upd_same)⟩,_,rfl,_,upd_same,_,by rw [upd_ne bl]; exact bt2,by rw [List.length_append,lV_len,lV_len]; simp; omega,?_⟩
    rw [hPv]
    refine ⟨_,_,rfl,(kk.put2 (.inr hl)).put2 (.inr hl),?_⟩
    rw [upd_same,take_snoc' hx,joinL_snoc sep x _ ne]
    unfold lV
    simp
   ·have i0:i=0:=by omega
    subst i0
    rw [if_neg (by omega)]
    refine ⟨.inl ⟨rfl,_,.inl (.inl lt2)⟩,_,rfl,_,lt2,_,bt2,by rw [lV_len,lV_len]; simp [joinL] at tot ⊢; omega,?_⟩
    rw [hPv]
    refine ⟨_,_,rfl,kk.put2 (.inr hl),?_⟩
    rw [upd_same,take_snoc' hx]
    simp [joinL,lV]
  ·intro σ H2 hw
   rw [hPv] at hw
   obtain ⟨o1,o2,rfl,k,hl2⟩:=hw
   walk_at "rd"
   refine q H2 l hl k ?_
   rw [hl2,← Paired.length hP,List.take_length]
def wf (s:VhPage.Settings) (r h p w g e:Addr):List (Str × V):=[("width",.int (s.width:Int)),("height",.int (s.height:Int)),("indent",.int (s.indent:Int)),("every",.int (s.every:Int)),("anew",.int (s.anew:Int)),("loose",.int (s.loose:Int)),
 ("rows",.ref r),("head",.ref h),("paragraphs",.ref p),("words",.ref w),("signs",.ref g),("entries",.ref e)]
theorem put_app {f:Str} {v:V}:∀ {l:List (Str × V)},((l.map (·.1)).contains f)=false→putF f v l=l ++ [(f,v)]
 | [],_=>rfl
 | (g,x) :: r,h=>by
  have h':(f == g || (r.map (·.1)).contains f)=false:=by simpa [List.contains_cons] using h
  rw [Bool.or_eq_false_iff] at h'
  show (if g=f then _ else _)=_
  rw [if_neg (fun z=>by rw [z] at h'; simp at h'),put_app h'.2]
  rfl
theorem put_lt {f:Str} {v:V} {fs:List (Str × V)} {n:Nat} (h:fs.length≤n):(putF f v fs).length≤n + 1:=Nat.le_trans (length_putF f v fs) (by omega)
theorem wf_eq (s:VhPage.Settings) (r h p w g e:Addr):putF "entries" (.ref e) (putF "signs" (.ref g) (putF "words" (.ref w) (putF "paragraphs" (.ref p) (putF "head" (.ref h) (putF "rows" (.ref r) (putF "loose" (.int (s.loose:Int)) (putF "anew" (.int (s.anew:Int))
  (putF "every" (.int (s.every:Int)) (putF "indent" (.int (s.indent:Int)) (putF "height" (.int (s.height:Int)) (putF "width" (.int (s.width:Int)) [])))))))))))=wf s r h p w g e:=by
 rw [put_app (l:=[]) rfl]; simp only [List.cons_append,List.nil_append]
 rw [put_app (l:=[_]) rfl]; simp only [List.cons_append,List.nil_append]
 rw [put_app (l:=[_,_]) rfl]; simp only [List.cons_append,List.nil_append]
 rw [put_app (l:=[_,_,_]) rfl]; simp only [List.cons_append,List.nil_append]
 rw [put_app (l:=[_,_,_,_]) rfl]; simp only [List.cons_append,List.nil_append]
 rw [put_app (l:=[_,_,_,_,_]) rfl]; simp only [List.cons_append,List.nil_append]
 rw [put_app (l:=[_,_,_,_,_,_]) rfl]; simp only [List.cons_append,List.nil_append]
 rw [put_app (l:=[_,_,_,_,_,_,_]) rfl]; simp only [List.cons_append,List.nil_append]
 rw [put_app (l:=[_,_,_,_,_,_,_,_]) rfl]; simp only [List.cons_append,List.nil_append]
 rw [put_app (l:=[_,_,_,_,_,_,_,_,_]) rfl]; simp only [List.cons_append,List.nil_append]
 rw [put_app (l:=[_,_,_,_,_,_,_,_,_,_]) rfl]; simp only [List.cons_append,List.nil_append]
 rw [put_app (l:=[_,_,_,_,_,_,_,_,_,_,_]) rfl]; simp only [List.cons_append,List.nil_append]
 rfl
theorem nd6 {r h p w g e:Addr} (h1:h≠r) (p1:p≠r) (p2:p≠h) (w1:w≠r) (w2:w≠h) (w3:w≠p) (g1:g≠r) (g2:g≠h) (g3:g≠p) (g4:g≠w) (e1:e≠r) (e2:e≠h) (e3:e≠p) (e4:e≠w) (e5:e≠g):[r,h,p,w,g,e].Nodup:=by
 simp [List.nodup_cons]
 exact ⟨⟨h1.symm,p1.symm,w1.symm,g1.symm,e1.symm⟩,⟨p2.symm,w2.symm,g2.symm,e2.symm⟩,⟨w3.symm,g3.symm,e3.symm⟩,⟨g4.symm,e4.symm⟩,e5.symm⟩
structure Stg (a:Ad) (H G:Hp) (x dx:Addr) (F:List (Str × V)) (l:List Addr):Prop where
 at_:G x=some (.ins a.CW dx F)
 kp:Kp [x] H G
 al:∀ b ∈ l,H b=none∧G b=some (.lst [])∧b≠x
 nd:l.Nodup
theorem Stg.look {H G:Hp} {x dx p:Addr} {F:List (Str × V)} {l:List Addr} (S:Stg a H G x dx F l) (hp:G p=none):upd G p (.lst []) x=some (.ins a.CW dx F):=by
 rw [upd_ne (ne_of_none S.at_ hp)]; exact S.at_
theorem Stg.step {H G:Hp} {x dx p:Addr} {F:List (Str × V)} {l:List Addr} (S:Stg a H G x dx F l) (hp:G p=none) (f:Str):Stg a H (upd (upd G p (.lst [])) x (.ins a.CW dx (putF f (.ref p) F))) x dx (putF f (.ref p) F) (l ++ [p]):=by
 have px:p≠x:=fun z=>by rw [z,S.at_] at hp; cases hp
 refine ⟨upd_same,(S.kp.trans (Kp.new hp)).trans (Kp.put (by simp)),fun b hb=>?_,?_⟩
 ·rcases List.mem_append.mp hb with h | h
  ·obtain ⟨h1,h2,h3⟩:=S.al b h
   exact ⟨h1,by rw [upd_ne h3,upd_ne (ne_of_none h2 hp)]; exact h2,h3⟩
  ·have e:b=p:=by simpa using h
   subst e
   exact ⟨S.kp.free (by simpa using px) hp,by rw [upd_ne px,upd_same],px⟩
 ·rw [List.nodup_append]
  refine ⟨S.nd,by simp,fun b hb c hc=>?_⟩
  have e:c=p:=by simpa using hc
  subst e
  exact ne_of_none (S.al b hb).2.1 hp
def sp_Work_init (K:PySem.W.Frag) (a:Ad):Sp:=fun vs H Q _=>∃ (x dx se:Addr) (s:VhPage.Settings),vs=[.ref x,.ref se]∧H x=some (.ins a.CW dx [])∧H se=some (.lst [.int (s.width:Int),.int (s.height:Int),.int (s.indent:Int),.int (s.every:Int),.int (s.anew:Int),.int (s.loose:Int)]) ∧
 ∀ H' r h p w g e,Kp [x] H H'→H' x=some (.ins a.CW dx (wf s r h p w g e))→(∀ b ∈ [r,h,p,w,g,e],H b=none∧H' b=some (.lst []))→[r,h,p,w,g,e].Nodup→Q .non H'
set_option hygiene false in
local macro_rules | `(tactic| walk_at "wk")=>`(tactic| (try simp only [tSeq,tIfS,tOr,tAnd,tNot,tTest,tB,tOp,rI0,rI,tVar,tC,tChain,tRet,tRetN,tNext,tDrop,tAsg,gName,rEq,rNe,rIn,tAug,ipI,tCall,tCons,tNil,tUn,rU,tIf,tNotV,tAndV,tOrV,tCB,tRaise,tTup,tLst,L2.start,L2.cxOf,List.map_cons,List.map_nil,List.length_cons,List.length_nil,List.replicate,List.cons_append,List.nil_append,List.append_nil,Nat.sub_self,Nat.zero_add,Nat.add_sub_cancel,Nat.reduceAdd,Nat.reduceSub,List.getElem?_cons_zero,List.getElem?_cons_succ,List.set_cons_zero,List.set_cons_succ,Option.some.injEq,V.int.injEq,V.bl.injEq,V.ref.injEq,V.str.injEq,exists_eq_left',exists_and_left,exists_const,true_and,and_true,scal,decide_eq_true_eq,Bool.not_eq_true',decide_eq_false_iff_not,Bool.not_not,Bool.not_true,Bool.not_false,if_true,if_false,ite_true,ite_false,↓reduceIte,Bool.false_eq_true,List.cons.injEq,exists_eq_left,gTup,gCons,gNil,tBM,rAppend,rExtend,tSl,tNoPart,tPart,rSlL,tMake,tFld,tMeth,sFld,sFldAug,rAdd,rIxL,rIxT,hR,hR2,T.clWork,T.n_width,T.n_height,T.n_indent,T.n_every,T.n_anew,T.n_loose,T.n_rows,T.n_head,T.n_paragraphs,T.n_words,T.n_signs,T.n_entries,HO.ins.injEq,and_assoc,upd_same]))
abbrev s_Work_init:Stmt:=inClass (top 72) 0
theorem sc_Work_init:FnScope ["self","settings"] ["self","settings"] (defScope s_Work_init):=⟨rfl,rfl,rfl,by decide +kernel,rfl,by decide +kernel,by decide +kernel⟩
theorem ok_Work_init {f:Addr} {fd:FuncData} (F:Fun K "__init__" "Work.__init__" s_Work_init f fd) (T:Txt K mg a):FnOk P w K mg base CX0 1 f fd ["self","settings"] (sp_Work_init K a):=by
 refine F.ok sc_Work_init (fun vs H Q E h=>?_) (fun cdv A outer s H vs Q E hr h=>?_)
 ·obtain ⟨x,dx,se,s,rfl,hR,hse,q⟩:=h
  rfl
 ·obtain ⟨x,dx,se,s,rfl,hR,hse,q⟩:=h
  have nd:=sc_Work_init.nd
  refine ⟨_,(pss_cons (ps_fld (pv 0) (pe_ix ix_list (pv 1) pe_int (fun _ _=>rfl)) rfl) (pss_cons (ps_fld (pv 0) (pe_ix ix_list (pv 1) pe_int (fun _ _=>rfl)) rfl) (pss_cons (ps_fld (pv 0) (pe_ix ix_list (pv 1) pe_int (fun _ _=>rfl)) rfl) (pss_cons (ps_fld (pv 0) (pe_ix ix_list (pv 1) pe_int (fun _ _=>rfl)) rfl) (pss_cons (ps_fld (pv 0) (pe_ix ix_list (pv 1) pe_int (fun _ _=>rfl)) rfl) (pss_cons (ps_fld (pv 0) (pe_ix ix_list (pv 1) pe_int (fun _ _=>rfl)) rfl) (pss_cons (ps_fld (pv 0) (pe_lst pa_nil) rfl) (pss_cons (ps_fld (pv 0) (pe_lst pa_nil) rfl) (pss_cons (ps_fld (pv 0) (pe_lst pa_nil) rfl) (pss_cons (ps_fld (pv 0) (pe_lst pa_nil) rfl) (pss_cons (ps_fld (pv 0) (pe_lst pa_nil) rfl) (pss_one (ps_fld (pv 0) (pe_lst pa_nil) rfl))))))))))))),?_⟩
  have hR2:=hR
  walk_at "wk"
  have sx:se≠x:=ne_of hse hR (by intro z; cases z)
  have hq:∀ o,SqL K (upd H x o) se [.int (s.width:Int),.int (s.height:Int),.int (s.indent:Int),.int (s.every:Int),.int (s.anew:Int),.int (s.loose:Int)]:=fun o=>.inl (.inl (by rw [upd_ne sx]; exact hse))
  have l1:∀ {u:V},(putF "width" u []).length≤1:=fun {u}=>put_lt (Nat.le_refl 0)
  refine ⟨_,.inl (.inl hse),_,rfl,by decide,_,hq _,_,rfl,Nat.lt_of_le_of_lt l1 (by decide),?_⟩
  simp only [upd_upd]
  refine ⟨_,hq _,_,rfl,Nat.lt_of_le_of_lt (put_lt l1) (by decide),_,hq _,_,rfl,Nat.lt_of_le_of_lt (put_lt (put_lt l1)) (by decide),_,hq _,_,rfl,Nat.lt_of_le_of_lt (put_lt (put_lt (put_lt l1))) (by decide),_,hq _,_,rfl,Nat.lt_of_le_of_lt (put_lt (put_lt (put_lt (put_lt l1)))) (by decide),?_⟩
  have l6:=put_lt (f:="loose") (v:=V.int (s.loose:Int)) (put_lt (f:="anew") (v:=V.int (s.anew:Int)) (put_lt (f:="every") (v:=V.int (s.every:Int)) (put_lt (f:="indent") (v:=V.int (s.indent:Int)) (put_lt (f:="height") (v:=V.int (s.height:Int)) (l1 (u:=V.int (s.width:Int)))))))
  have key:=wf_eq s
  generalize hF6:putF "loose" (V.int (s.loose:Int)) (putF "anew" (V.int (s.anew:Int)) (putF "every" (V.int (s.every:Int)) (putF "indent" (V.int (s.indent:Int)) (putF "height" (V.int (s.height:Int)) (putF "width" (V.int (s.width:Int)) [])))))=F6 at l6 key
  have hz:(0:Nat)≤sizeLine:=by decide
  have S0:Stg a H (upd H x (HO.ins a.CW dx F6)) x dx F6 []:=⟨upd_same,Kp.put (by simp),fun b hb=>absurd hb (by simp),List.nodup_nil⟩
  refine ⟨hz,fun p0 h0=>⟨_,_,_,S0.look h0,T.clWork,T.n_rows,by omega,hz,fun p1 h1=>?_⟩⟩
  have S1:=S0.step h0 "rows"
  refine ⟨_,_,_,S1.look h1,T.clWork,T.n_head,Nat.lt_of_le_of_lt (put_lt l6) (by decide),hz,fun p2 h2=>?_⟩
  have S2:=S1.step h1 "head"
  refine ⟨_,_,_,S2.look h2,T.clWork,T.n_paragraphs,Nat.lt_of_le_of_lt (put_lt (put_lt l6)) (by decide),hz,fun p3 h3=>?_⟩
  have S3:=S2.step h2 "paragraphs"
  refine ⟨_,_,_,S3.look h3,T.clWork,T.n_words,Nat.lt_of_le_of_lt (put_lt (put_lt (put_lt l6))) (by decide),hz,fun p4 h4=>?_⟩
  have S4:=S3.step h3 "words"
  refine ⟨_,_,_,S4.look h4,T.clWork,T.n_signs,Nat.lt_of_le_of_lt (put_lt (put_lt (put_lt (put_lt l6)))) (by decide),hz,fun p5 h5=>?_⟩
  have S5:=S4.step h4 "signs"
  refine ⟨_,_,_,S5.look h5,T.clWork,T.n_entries,Nat.lt_of_le_of_lt (put_lt (put_lt (put_lt (put_lt (put_lt l6))))) (by decide),?_⟩
  have S6:=S5.step h5 "entries"
  refine q _ p0 p1 p2 p3 p4 p5 S6.kp ?_ (fun b hb=>⟨(S6.al b hb).1,(S6.al b hb).2.1⟩) S6.nd
  rw [← key]
  exact S6.at_
end
set_option hygiene false in
local macro_rules | `(tactic| walk_at "wk")=>`(tactic| (try simp only [tSeq,tIfS,tOr,tAnd,tNot,tTest,tB,tOp,rI0,rI,tVar,tC,tChain,tRet,tRetN,tNext,tDrop,tAsg,gName,rEq,rNe,rIn,tAug,ipI,tCall,tCons,tNil,tUn,rU,tIf,tNotV,tAndV,tOrV,tCB,tRaise,tTup,tLst,L2.start,L2.cxOf,List.map_cons,List.map_nil,List.length_cons,List.length_nil,List.replicate,List.cons_append,List.nil_append,List.append_nil,Nat.sub_self,Nat.zero_add,Nat.add_sub_cancel,Nat.reduceAdd,Nat.reduceSub,List.getElem?_cons_zero,List.getElem?_cons_succ,List.set_cons_zero,List.set_cons_succ,Option.some.injEq,V.int.injEq,V.bl.injEq,V.ref.injEq,V.str.injEq,exists_eq_left',exists_and_left,exists_const,true_and,and_true,scal,decide_eq_true_eq,Bool.not_eq_true',decide_eq_false_iff_not,Bool.not_not,Bool.not_true,Bool.not_false,if_true,if_false,ite_true,ite_false,↓reduceIte,Bool.false_eq_true,List.cons.injEq,exists_eq_left,gTup,gCons,gNil,tBM,rAppend,rExtend,tSl,tNoPart,tPart,rSlL,tMake,tFld,tMeth,sFld,sFldAug,rAdd,rIxL,rIxT,hR,hR2,hWk,hWk2,T.clReader,T.n_t,T.n_at,rf_t,rf_at,rf_put,rf_len,T.clWork,T.n_width,T.n_height,T.n_indent,T.n_every,T.n_anew,T.n_loose,T.n_rows,T.n_head,T.n_paragraphs,T.n_words,T.n_signs,T.n_entries,wf_rows,wf_head,wf_paragraphs,wf_words,wf_signs,wf_entries,HO.ins.injEq,and_assoc,upd_same]))
section
variable {P:Program} {w:World} {K:PySem.W.Frag} {mg:Str→Option Value} {base:Heap} {a:Ad}
theorem wf_rows (s:VhPage.Settings) (r h p w g e:Addr):(wf s r h p w g e).lookup ("rows":Str)=some (.ref r):=by rfl
theorem wf_head (s:VhPage.Settings) (r h p w g e:Addr):(wf s r h p w g e).lookup ("head":Str)=some (.ref h):=by rfl
theorem wf_paragraphs (s:VhPage.Settings) (r h p w g e:Addr):(wf s r h p w g e).lookup ("paragraphs":Str)=some (.ref p):=by rfl
theorem wf_words (s:VhPage.Settings) (r h p w g e:Addr):(wf s r h p w g e).lookup ("words":Str)=some (.ref w):=by rfl
theorem wf_signs (s:VhPage.Settings) (r h p w g e:Addr):(wf s r h p w g e).lookup ("signs":Str)=some (.ref g):=by rfl
theorem wf_entries (s:VhPage.Settings) (r h p w g e:Addr):(wf s r h p w g e).lookup ("entries":Str)=some (.ref e):=by rfl
def sp_read_settings (K:PySem.W.Frag) (a:Ad):Sp:=fun vs H Q E=>∃ (r ta:Addr) (bs:List UInt8) (p:Nat),vs=[.ref r]∧Rdr K a H r ta bs p ∧
 (∀ s p' H' l,VhPage.settings_ p (bs.drop p)=.ok (s,p',bs.drop p')→H l=none→Kp [r] H H'→H' l=some (.lst [.int (s.width:Int),.int (s.height:Int),.int (s.indent:Int),.int (s.every:Int),.int (s.anew:Int),.int (s.loose:Int)])→Rdr K a H' r ta bs p'→Q (.ref l) H') ∧
 ∀ p' H',VhPage.settings_ p (bs.drop p)=.error p'→Rdr K a H' r ta bs p'→E (.ref a.CE) none H'
abbrev s_read_settings:Stmt:=top 73
theorem sc_read_settings:FnScope ["reader","settings","bounds"] ["reader"] (defScope s_read_settings):=⟨rfl,rfl,rfl,by decide +kernel,rfl,by decide +kernel,by decide +kernel⟩
theorem ok_read_settings {f:Addr} {fd:FuncData} (F:Fun K "read_settings" "read_settings" s_read_settings f fd) (T:Txt K mg a) (c_Reader_take:MethC P w K mg base (CX1 P w a.CE) 3 a.CR "take" ["self","sign"] (sp_Reader_take K a)) (c_Reader_take_number:MethC P w K mg base (CX1 P w a.CE) 3 a.CR "take_number" ["self","low","high"] (sp_Reader_take_number K a)):FnOk P w K mg base (CX1 P w a.CE) 4 f fd ["reader"] (sp_read_settings K a):=by
 refine F.okE sc_read_settings (fun vs H Q E h=>?_) (fun cdv A outer s H vs Q E hr h=>?_)
 ·obtain ⟨r,ta,bs,p,rfl,⟨dx,hR,hS,hne⟩,q1,q2⟩:=h
  rfl
 ·obtain ⟨r,ta,bs,p,rfl,⟨dx,hR,hS,hne⟩,q1,q2⟩:=h
  have nd:=sc_read_settings.nd
  refine ⟨_,(pss_cons (ps_set (i:=1) nd rfl (Or.inl rfl) (pe_lst pa_nil)) (pss_cons (ps_expr (pe_methC (pv 0) T.clReader c_Reader_take hr passX (pa_cons pe_str pa_nil))) (pss_cons (ps_for PassesOwn.leaving rfl (pi_tup (pe_gref T.cSETTING_BOUNDS)) (pg_name (i:=2) nd rfl (Or.inl rfl)) (pss_cons (ps_if (pt_cmpR op_gt (pe_callB call_len_seq rfl T.len PySem.boot_len (pa_cons (pv 1) pa_nil)) pe_int (nomark _)) (pss_one (ps_expr (pe_methC (pv 0) T.clReader c_Reader_take hr passX (pa_cons pe_str pa_nil)))) pss_nil) (pss_one (ps_expr (pe_bm PySem.F.plainAttrs_list PySem.F.slot_list_append PySem.F.type_list_append mt_append (pv 1) (pa_cons (pe_methC (pv 0) T.clReader c_Reader_take_number hr passX (pa_cons (pe_ix ix_tup (pv 2) pe_int (fun _ _=>rfl)) (pa_cons (pe_ix ix_tup (pv 2) pe_int (fun _ _=>rfl)) pa_nil))) pa_nil)))))) (pss_cons (ps_expr (pe_methC (pv 0) T.clReader c_Reader_take hr passX (pa_cons pe_str pa_nil))) (pss_one (ps_ret (pv 1))))))),?_⟩
  have hR2:=hR
  have hWk:=hR
  have hWk2:=hR
  have R:Rdr K a H r ta bs p:=⟨dx,hR,hS,hne⟩
  have hS0:=hS
  obtain ⟨b0,b1,b2,b3,b4,b5,tB,t0,t1,t2,t3,t4,t5⟩:=T.tSB
  walk_at "rdr"
  refine ⟨by decide,fun l hl=>?_⟩
  have lr:l≠r:=fun z=>by rw [z,hR] at hl; cases hl
  have k0:Kp [r] H (upd H l (HO.lst [])):=Kp.new hl
  have hR:upd H l (HO.lst []) r=some (HO.ins a.CR dx (rf ta p)):=by rw [upd_ne (Ne.symm lr)]; exact hR
  have R0:Rdr K a (upd H l (HO.lst [])) r ta bs p:=Rdr.move (dx:=dx) hS hne k0 hR
  walk_at "rdr"
  refine ⟨rf_take _ _,r,ta,bs,p,_,94,rfl,R0,by decide,by decide,fun _ p1 H1 e1 k1 R1=>?_,fun p1 H1 e1 R1=>q2 p1 H1 (then_no e1) R1⟩
  obtain ⟨Pv,hPv⟩:∃ Pv:WT,Pv=fun i σ H'=>∃ (xs:List Nat) (p':Nat) (o:Option V),σ=[some (.ref r),some (.ref l),o]∧xs.length=i∧H' l=some (.lst (lV xs))∧Rdr K a H' r ta bs p'∧Kp [r] H H'∧VhPage.settings_ p (bs.drop p)=restS xs p' (bs.drop p'):=⟨_,rfl⟩
  refine ⟨_,rfl,⟨_,tB _⟩,for_tup (xs:=[.ref b0,.ref b1,.ref b2,.ref b3,.ref b4,.ref b5]) Pv ?_ (fun _ _ _ _ _=>tB _) ?_ ?_⟩
  ·rw [hPv]
   refine ⟨[],p1,none,rfl,rfl,k1 _ _ upd_same (by simpa using lr),R1,k0.trans k1,?_⟩
   rw [settings_eq,then_ok e1]
  ·intro i v σ H2 hi hw
   rw [hPv] at hw
   obtain ⟨xs,p2,o,rfl,hxl,hl2,⟨dx2,hR,hS,hne⟩,k2,eq⟩:=hw
   have hR2:=hR
   have R2:Rdr K a H2 r ta bs p2:=⟨dx2,hR,hS,hne⟩
   obtain ⟨b,rfl,i6,tb⟩:∃ b,v=V.ref b∧i < 6∧∀ H,SqT K H b [.int (loS i:Int),.int (hiS i:Int)]:=by
    match i,hi with
    | 0,hi=>simp at hi; exact ⟨b0,hi.symm,by omega,t0⟩
    | 1,hi=>simp at hi; exact ⟨b1,hi.symm,by omega,t1⟩
    | 2,hi=>simp at hi; exact ⟨b2,hi.symm,by omega,t2⟩
    | 3,hi=>simp at hi; exact ⟨b3,hi.symm,by omega,t3⟩
    | 4,hi=>simp at hi; exact ⟨b4,hi.symm,by omega,t4⟩
    | 5,hi=>simp at hi; exact ⟨b5,hi.symm,by omega,t5⟩
    | i + 6,hi=>simp at hi
   have hhi:hiS i < 10 ^ 11:=by unfold hiS; split <;> omega
   -- the number and what follows
   have step:∀ p3 H3,Rdr K a H3 r ta bs p3→Kp [r] H2 H3→VhPage.settings_ p (bs.drop p)=Vh.andThen (Vh.num (loS i) (hiS i)) (fun x=>restS (xs ++ [x])) p3 (bs.drop p3) →
     sp_Reader_take_number K a [.ref r,.int (loS i:Int),.int (hiS i:Int)] H3 (fun v H4=>∃ x,H4 l=some (.lst x)∧x.length < sizeLine∧Pv (i + 1) [some (.ref r),some (.ref l),some (.ref b)] (upd H4 l (.lst (x ++ [v])))) E:=fun p3 H3 R3 k3 eq3=>by
    refine ⟨r,ta,bs,p3,loS i,hiS i,rfl,R3,hhi,fun x p4 H4 e4 _ _ k4 R4=>?_,fun p4 H4 e4 R4=>?_⟩
    ·have hl4:H4 l=some (.lst (lV xs)):=k4 _ _ (k3 _ _ hl2 (by simpa using lr)) (by simpa using lr)
     refine ⟨_,hl4,by rw [lV_len]; exact Nat.lt_of_le_of_lt (show xs.length≤6 by omega) (by decide),?_⟩
     rw [hPv,lV_snoc]
     have k5:Kp [r] H (upd H4 l (.lst (lV (xs ++ [x])))):=((k2.trans k3).trans k4).put2 (.inr hl)
     obtain ⟨dx4,a1,a2,a3⟩:=R4
     exact ⟨xs ++ [x],p4,_,rfl,by simp [hxl],upd_same,⟨dx4,by rw [upd_ne (Ne.symm lr)]; exact a1,k5.seq (by simpa using hne) hS0,hne⟩,k5,by rw [eq3,then_ok e4]⟩
    ·exact q2 p4 H4 (by rw [eq3]; exact num_bad e4 fun x hd=>rest_digit hd _ (by simp)) R4
   walk_at "rdr"
   refine ⟨_,.inl (.inl (.inl hl2)),?_⟩
   rw [lV_len]
   by_cases h0:0 < xs.length
   ·rw [if_pos (by omega)]
    have ne:xs≠[]:=by intro z; rw [z] at h0; simp at h0
    rw [rest_s xs ne (by omega),hxl] at eq
    refine ⟨rf_take _ _,r,ta,bs,p2,_,32,rfl,R2,by decide,by decide,fun _ p3 H3 e3 k3 R3=>?_,fun p3 H3 e3 R3=>q2 p3 H3 (by rw [eq]; exact then_no e3) R3⟩
    rw [then_ok e3] at eq
    have st:=step p3 H3 R3 k3 eq
    obtain ⟨dx3,hR,hS,hne⟩:=R3
    have hR2:=hR
    have hl3:H3 l=some (.lst (lV xs)):=k3 _ _ hl2 (by simpa using lr)
    walk_at "rdr"
    exact ⟨.inl ⟨rfl,_,.inl (.inl hl3)⟩,rf_take_number _ _,_,tb _,_,rfl,_,tb _,_,rfl,st⟩
   ·rw [if_neg (by omega)]
    have e:xs=[]:=by cases xs with | nil=>rfl | cons _ _=>simp at h0
    subst e
    have i0:i=0:=by rw [← hxl]; rfl
    subst i0
    have st:=step p2 H2 R2 Kp.refl eq
    exact ⟨.inl ⟨rfl,_,.inl (.inl hl2)⟩,rf_take_number _ _,_,tb _,_,rfl,_,tb _,_,rfl,st⟩
  ·intro σ H2 hw
   rw [hPv] at hw
   obtain ⟨xs,p2,o,rfl,hxl,hl2,⟨dx2,hR,hS,hne⟩,k2,eq⟩:=hw
   have hR2:=hR
   have R2:Rdr K a H2 r ta bs p2:=⟨dx2,hR,hS,hne⟩
   obtain ⟨x0,x1,x2,x3,x4,x5,rfl⟩:∃ x0 x1 x2 x3 x4 x5,xs=[x0,x1,x2,x3,x4,x5]:=by
    match xs,hxl with
    | [x0,x1,x2,x3,x4,x5],_=>exact ⟨_,_,_,_,_,_,rfl⟩
   walk_at "rdr"
   refine ⟨rf_take _ _,r,ta,bs,p2,_,10,rfl,R2,by decide,by decide,fun _ p3 H3 e3 k3 R3=>?_,fun p3 H3 e3 R3=>q2 p3 H3 (by rw [eq,rest_6]; exact then_no e3) R3⟩
   refine q1 ⟨x0,x1,x2,x3,x4,x5⟩ p3 H3 l ?_ hl (k2.trans k3) (k3 _ _ hl2 (by simpa using lr)) R3
   rw [eq,rest_6,then_ok e3]
   rfl
end
section
variable {P:Program} {w:World} {K:PySem.W.Frag} {mg:Str→Option Value} {base:Heap} {a:Ad}
def WkAt (a:Ad) (H:Hp) (wk dw:Addr) (s:VhPage.Settings) (r h p w g e:Addr):Prop:=H wk=some (.ins a.CW dw (wf s r h p w g e))
def TRow (H H':Hp) (x:Nat × Nat × Nat) (v:V):Prop:=∃ t,v=.ref t∧H' t=some (.tup [.int (x.1:Int),.int (x.2.1:Int),.int (x.2.2:Int)])∧H t=none
def sp_read_rows (K:PySem.W.Frag) (a:Ad):Sp:=fun vs H Q E=>∃ (r ta wk dw:Addr) (bs:List UInt8) (p:Nat) (s:VhPage.Settings) (aR aH aP aW aS aE:Addr),vs=[.ref r,.ref wk]∧Rdr K a H r ta bs p∧WkAt a H wk dw s aR aH aP aW aS aE∧H aR=some (.lst [])∧r≠wk∧ta≠aR ∧
 (∀ xs us p' H',VhPage.widths_ 64 33 p (bs.drop p)=.ok (xs,p',bs.drop p')→Kp [r,aR] H H'→H' aR=some (.lst us)→Paired (TRow H H') xs us→Rdr K a H' r ta bs p'→Q .non H') ∧
 ∀ p' H',VhPage.widths_ 64 33 p (bs.drop p)=.error p'→Rdr K a H' r ta bs p'→E (.ref a.CE) none H'
abbrev s_read_rows:Stmt:=top 74
theorem sc_read_rows:FnScope ["reader","work","low","lo","hi","width"] ["reader","work"] (defScope s_read_rows):=⟨rfl,rfl,rfl,by decide +kernel,rfl,by decide +kernel,by decide +kernel⟩
theorem ok_read_rows {f:Addr} {fd:FuncData} (F:Fun K "read_rows" "read_rows" s_read_rows f fd) (T:Txt K mg a) (c_Reader_sees:MethC P w K mg base CX0 2 a.CR "sees" ["self","sign"] (sp_Reader_sees K a)) (c_Reader_take:MethC P w K mg base (CX1 P w a.CE) 3 a.CR "take" ["self","sign"] (sp_Reader_take K a)) (c_Reader_take_number:MethC P w K mg base (CX1 P w a.CE) 3 a.CR "take_number" ["self","low","high"] (sp_Reader_take_number K a)):FnOk P w K mg base (CX1 P w a.CE) 4 f fd ["reader","work"] (sp_read_rows K a):=by
 refine F.okE sc_read_rows (fun vs H Q E h=>?_) (fun cdv A outer s H vs Q E hr h=>?_)
 ·obtain ⟨r,ta,wk,dw,bs,p,s,aR,aH,aP,aW,aS,aE,rfl,⟨dx,hR,hS,hne⟩,hWk,haR,rwk,taR,q1,q2⟩:=h
  rfl
 ·obtain ⟨r,ta,wk,dw,bs,p,s,aR,aH,aP,aW,aS,aE,rfl,⟨dx,hR,hS,hne⟩,hWk,haR,rwk,taR,q1,q2⟩:=h
  have nd:=sc_read_rows.nd
  refine ⟨_,(pss_cons (ps_set (i:=2) nd rfl (Or.inl rfl) (pe_gint T.cFIRST_LETTER)) (pss_one (ps_while PassesOwn.leaving (PW.pt (pw_and (pt_val (pe_methC (pv 0) T.clReader c_Reader_sees hr pass0 (pa_cons pe_str pa_nil))) (pw_and (pt_cmpR op_lt (pe_callB call_len_seq rfl T.len PySem.boot_len (pa_cons (pe_fld (pv 1) rfl) pa_nil)) (pe_gint T.cMOST_ROWS) (nomark _)) (pw_and1 (pt_cmpR op_le (pv 2) (pe_gint T.cLAST_CHARACTER) (nomark _)))))) (pss_cons (ps_expr (pe_methC (pv 0) T.clReader c_Reader_take hr passX (pa_cons pe_str pa_nil))) (pss_cons (ps_set (i:=3) nd rfl (Or.inl rfl) (pe_methC (pv 0) T.clReader c_Reader_take_number hr passX (pa_cons (pv 2) (pa_cons (pe_gint T.cLAST_CHARACTER) pa_nil)))) (pss_cons (ps_expr (pe_methC (pv 0) T.clReader c_Reader_take hr passX (pa_cons pe_str pa_nil))) (pss_cons (ps_set (i:=4) nd rfl (Or.inl rfl) (pe_methC (pv 0) T.clReader c_Reader_take_number hr passX (pa_cons (pv 3) (pa_cons (pe_gint T.cLAST_CHARACTER) pa_nil)))) (pss_cons (ps_expr (pe_methC (pv 0) T.clReader c_Reader_take hr passX (pa_cons pe_str pa_nil))) (pss_cons (ps_set (i:=5) nd rfl (Or.inl rfl) (pe_methC (pv 0) T.clReader c_Reader_take_number hr passX (pa_cons pe_int (pa_cons pe_int pa_nil)))) (pss_cons (ps_expr (pe_methC (pv 0) T.clReader c_Reader_take hr passX (pa_cons pe_str pa_nil))) (pss_cons (ps_expr (pe_bm PySem.F.plainAttrs_list PySem.F.slot_list_append PySem.F.type_list_append mt_append (pe_fld (pv 1) rfl) (pa_cons (pe_tup (pa_cons (pv 3) (pa_cons (pv 4) (pa_cons (pv 5) pa_nil)))) pa_nil))) (pss_one (ps_set (i:=2) nd rfl (Or.inl rfl) (pe_op op_add (pv 4) pe_int)))))))))))))),?_⟩
  have hR2:=hR
  have hWk:H wk=some (.ins a.CW dw (wf s aR aH aP aW aS aE)):=hWk
  have hWk2:=hWk
  have hWk0:=hWk
  have R:Rdr K a H r ta bs p:=⟨dx,hR,hS,hne⟩
  have hS0:=hS
  have raR:r≠aR:=ne_of hR haR (by intro z; cases z)
  have wkaR:wk≠aR:=ne_of hWk haR (by intro z; cases z)
  have big:VhPage.LARGEST < 10 ^ 11:=by decide
  walk_at "rd"
  obtain ⟨W,hW⟩:∃ W:WT,W=fun m σ H'=>∃ (xs:List (Nat × Nat × Nat)) (us:List V) (lo p':Nat) (o1 o2 o3:Option V),σ=[some (.ref r),some (.ref wk),some (.int (lo:Int)),o1,o2,o3]∧H' aR=some (.lst us)∧Paired (TRow H H') xs us∧Rdr K a H' r ta bs p'∧Kp [r,aR] H H'∧xs.length≤64 ∧
   VhPage.widths_ 64 33 p (bs.drop p)=preO xs (VhPage.widths_ (64 - xs.length) lo p' (bs.drop p'))∧m=64 - xs.length:=⟨_,rfl⟩
  refine ⟨W,⟨_,by
   rw [hW]
   exact ⟨[],[],33,p,none,none,none,rfl,haR,.nil,R,Kp.refl,by simp,by rw [preO_nil]; rfl,rfl⟩⟩,fun m σ H2 hw=>?_⟩
  rw [hW] at hw
  obtain ⟨xs,us,lo,p2,o1,o2,o3,rfl,hu,hP,⟨dx2,hR,hS,hne⟩,k2,x64,eq,rfl⟩:=hw
  have hR2:=hR
  have R2:Rdr K a H2 r ta bs p2:=⟨dx2,hR,hS,hne⟩
  have hlen:=Paired.length hP
  have hWk:H2 wk=some (.ins a.CW dw (wf s aR aH aP aW aS aE)):=k2 _ _ hWk0 (by simp [Ne.symm rwk,wkaR])
  have hWk2:=hWk
  have fin:(64 - xs.length=0∨pk bs p2≠40∨VhPage.LARGEST < lo)→Q .non H2:=fun h=>by
   refine q1 xs us p2 H2 ?_ k2 hu hP R2
   rw [eq,widths_stop h]
   show Except.ok (xs ++ [],_,_)=_
   rw [List.append_nil]
  walk_at "wk"
  refine ⟨rf_sees _ _,r,ta,bs,p2,_,40,rfl,R2,by decide,by decide,?_⟩
  walk_at "wk"
  by_cases h40:pk bs p2=40
  ·rw [if_pos (by simpa using h40)]
   refine ⟨_,.inl (.inl (.inl hu)),?_⟩
   rw [← hlen]
   by_cases hfull:xs.length=64
   ·rw [if_neg (by omega)]
    exact fin (.inl (by omega))
   ·rw [if_pos (by omega)]
    by_cases hbig:VhPage.LARGEST < lo
    ·rw [if_neg (by unfold VhPage.LARGEST at hbig; omega)]
     exact fin (.inr (.inr hbig))
    ·rw [if_pos (by unfold VhPage.LARGEST at hbig; omega)]
     refine ⟨fun σ' H'=>∃ m',m' < 64 - xs.length∧W m' σ' H',fun _ _ z=>z,?_⟩
     have ex:64 - xs.length=(64 - (xs.length + 1)) + 1:=by omega
     rw [ex,widths_go h40 (by omega)] at eq
     have er:∀ {i:Nat},wRow (64 - (xs.length + 1)) lo (p2 + 1) (bs.drop (p2 + 1))=.error i→VhPage.widths_ 64 33 p (bs.drop p)=.error i:=fun h=>by rw [eq,h]; rfl
     unfold wRow at er eq
     refine ⟨rf_take _ _,r,ta,bs,p2,_,40,rfl,R2,by decide,by decide,fun _ p3 H3 e3 k3 R3=>?_,fun p3 H3 e3 R3=>by rw [byte_ok (c:=40) h40] at e3; cases e3⟩
     have ep:p3=p2 + 1:=by
      rw [byte_ok (c:=40) h40] at e3
      injection e3 with e3; injection e3 with _ e3; injection e3 with e3 _
      exact e3.symm
     subst ep
     obtain ⟨dx3,hR,hS,hne⟩:=R3
     have hR2:=hR
     have R3:Rdr K a H3 r ta bs (p2 + 1):=⟨dx3,hR,hS,hne⟩
     walk_at "wk"
     refine ⟨rf_take_number _ _,r,ta,bs,p2 + 1,lo,VhPage.LARGEST,rfl,R3,big,fun x p4 H4 e4 _ hx k4 R4=>?_,fun p4 H4 e4 R4=>q2 p4 H4 (er (num_bad e4 fun x hd=>byte_digit hd)) R4⟩
     rw [then_ok e4] at er eq
     obtain ⟨dx4,hR,hS,hne⟩:=R4
     have hR2:=hR
     have R4:Rdr K a H4 r ta bs p4:=⟨dx4,hR,hS,hne⟩
     walk_at "wk"
     refine ⟨rf_take _ _,r,ta,bs,p4,_,32,rfl,R4,by decide,by decide,fun _ p5 H5 e5 k5 R5=>?_,fun p5 H5 e5 R5=>q2 p5 H5 (er (then_no e5)) R5⟩
     rw [then_ok e5] at er eq
     obtain ⟨dx5,hR,hS,hne⟩:=R5
     have hR2:=hR
     have R5:Rdr K a H5 r ta bs p5:=⟨dx5,hR,hS,hne⟩
     walk_at "wk"
     refine ⟨rf_take_number _ _,r,ta,bs,p5,x,VhPage.LARGEST,rfl,R5,big,fun y p6 H6 e6 hxy hy k6 R6=>?_,fun p6 H6 e6 R6=>q2 p6 H6 (er (num_bad e6 fun x hd=>byte_digit hd)) R6⟩
     rw [then_ok e6] at er eq
     obtain ⟨dx6,hR,hS,hne⟩:=R6
     have hR2:=hR
     have R6:Rdr K a H6 r ta bs p6:=⟨dx6,hR,hS,hne⟩
     walk_at "wk"
     refine ⟨rf_take _ _,r,ta,bs,p6,_,32,rfl,R6,by decide,by decide,fun _ p7 H7 e7 k7 R7=>?_,fun p7 H7 e7 R7=>q2 p7 H7 (er (then_no e7)) R7⟩
     rw [then_ok e7] at er eq
     obtain ⟨dx7,hR,hS,hne⟩:=R7
     have hR2:=hR
     have R7:Rdr K a H7 r ta bs p7:=⟨dx7,hR,hS,hne⟩
     walk_at "wk"
     refine ⟨rf_take_number _ _,r,ta,bs,p7,0,2,rfl,R7,by decide,fun z p8 H8 e8 _ hz k8 R8=>?_,fun p8 H8 e8 R8=>q2 p8 H8 (er (num_bad e8 fun x hd=>byte_digit hd)) R8⟩
     rw [then_ok e8] at er eq
     obtain ⟨dx8,hR,hS,hne⟩:=R8
     have hR2:=hR
     have R8:Rdr K a H8 r ta bs p8:=⟨dx8,hR,hS,hne⟩
     walk_at "wk"
     refine ⟨rf_take _ _,r,ta,bs,p8,_,10,rfl,R8,by decide,by decide,fun _ p9 H9 e9 k9 R9=>?_,fun p9 H9 e9 R9=>q2 p9 H9 (er (then_no e9)) R9⟩
     rw [then_ok e9,cons_then] at eq
     have k29:Kp [r] H2 H9:=((((((k3.trans k4).trans k5).trans k6).trans k7).trans k8).trans k9)
     have hWk:H9 wk=some (.ins a.CW dw (wf s aR aH aP aW aS aE)):=k29 _ _ hWk (by simp [Ne.symm rwk])
     have hWk2:=hWk
     have hu9:H9 aR=some (.lst us):=k29 _ _ hu (by simp [Ne.symm raR])
     walk_at "wk"
     refine ⟨.inl ⟨rfl,_,.inl (.inl hu9)⟩,by decide,fun t ht=>⟨us,by rw [upd_ne (ne_of_none hu9 ht)]; exact hu9,by rw [← hlen]; exact Nat.lt_of_le_of_lt x64 (by decide),64 - (xs.length + 1),by omega,?_⟩⟩
     rw [hW]
     have taR':t≠aR:=Ne.symm (ne_of_none hu9 ht)
     have tr':t≠r:=fun z=>by obtain ⟨_,h,_⟩:=R9; rw [z,h] at ht; cases ht
     have k9':Kp [r,aR] H H9:=k2.trans (k29.mono (by simp))
     have ht0:H t=none:=k9'.free (by simp [taR',tr']) ht
     have kF:Kp [r,aR] H (upd (upd H9 t (HO.tup [V.int (x:Int),V.int (y:Int),V.int (z:Int)])) aR (HO.lst (us ++ [V.ref t]))):=(k9'.put2 (.inr ht0)).put2 (.inl (by simp))
     obtain ⟨dx9,a1,a2,a3⟩:=R9
     refine ⟨xs ++ [(x,y,z)],us ++ [.ref t],y + 1,p9,_,_,_,rfl,upd_same,Paired.snoc (Paired.mapP hP ?_) ⟨t,rfl,by rw [upd_ne taR',upd_same],ht0⟩,
      ⟨dx9,by rw [upd_ne raR,upd_ne (Ne.symm tr')]; exact a1,kF.seq (by simp [hne,taR]) hS0,hne⟩,kF,by simp; omega,?_,by simp⟩
     ·rintro q v ⟨b,rfl,hb,hb0⟩
      have br:b≠r:=fun z=>by obtain ⟨_,h,_⟩:=R; rw [z,h] at hb0; cases hb0
      have baR:b≠aR:=fun z=>by rw [z,haR] at hb0; cases hb0
      have hb9:=k29 _ _ hb (by simp [br])
      exact ⟨b,rfl,by rw [upd_ne baR,upd_ne (ne_of_none hb9 ht)]; exact hb9,hb0⟩
     ·rw [eq,preO_pre]
      simp
  ·rw [if_neg (by simpa using h40)]
   exact fin (.inr (.inl h40))
end
section
variable {P:Program} {w:World} {K:PySem.W.Frag} {mg:Str→Option Value} {base:Heap} {a:Ad}
def TPair (H H':Hp) (x:Nat × Nat) (v:V):Prop:=∃ t,v=.ref t∧H' t=some (.tup [.int (x.1:Int),.int (x.2:Int)])∧H t=none
theorem bytes_at {bs:List UInt8} {p p':Nat} {c:UInt8} {x:Unit} (h:pk bs p=c.toNat) (e:Vh.byte_ c p (bs.drop p)=.ok (x,p',bs.drop p')):p'=p + 1:=by
 rw [byte_ok h] at e
 injection e with e; injection e with _ e; injection e with e _
 exact e.symm
def sp_read_paragraphs (K:PySem.W.Frag) (a:Ad):Sp:=fun vs H Q E=>∃ (r ta wk dw:Addr) (bs:List UInt8) (p:Nat) (s:VhPage.Settings) (aR aH aP aW aS aE:Addr),vs=[.ref r,.ref wk]∧Rdr K a H r ta bs p∧WkAt a H wk dw s aR aH aP aW aS aE∧H aP=some (.lst [])∧H aW=some (.lst [])∧aP≠aW∧r≠wk∧ta≠aP∧ta≠aW ∧
 (∀ xs us vs p' H',VhPage.paras_ 4096 8192 p (bs.drop p)=.ok (xs,p',bs.drop p')→xs.flatten.length≤8192→Kp [r,aP,aW] H H'→H' aW=some (.lst us)→Paired (LN H H') xs.flatten us→H' aP=some (.lst vs)→Paired (TPair H H') (spans 0 xs) vs→Rdr K a H' r ta bs p'→Q .non H') ∧
 ∀ p' H',VhPage.paras_ 4096 8192 p (bs.drop p)=.error p'→Rdr K a H' r ta bs p'→E (.ref a.CE) none H'
abbrev s_read_paragraphs:Stmt:=top 75
theorem sc_read_paragraphs:FnScope ["reader","work","first"] ["reader","work"] (defScope s_read_paragraphs):=⟨rfl,rfl,rfl,by decide +kernel,rfl,by decide +kernel,by decide +kernel⟩
theorem ok_read_paragraphs {f:Addr} {fd:FuncData} (F:Fun K "read_paragraphs" "read_paragraphs" s_read_paragraphs f fd) (T:Txt K mg a) (c_Reader_sees:MethC P w K mg base CX0 2 a.CR "sees" ["self","sign"] (sp_Reader_sees K a)) (c_Reader_take:MethC P w K mg base (CX1 P w a.CE) 3 a.CR "take" ["self","sign"] (sp_Reader_take K a)) (c_Reader_take_things:MethC P w K mg base (CX1 P w a.CE) 5 a.CR "take_things" ["self","most_things","most","marks"] (sp_Reader_take_things K a)):FnOk P w K mg base (CX1 P w a.CE) 6 f fd ["reader","work"] (sp_read_paragraphs K a):=by
 refine F.okE sc_read_paragraphs (fun vs H Q E h=>?_) (fun cdv A outer s H vs Q E hr h=>?_)
 ·obtain ⟨r,ta,wk,dw,bs,p,s,aR,aH,aP,aW,aS,aE,rfl,⟨dx,hR,hS,hne⟩,hWk,haP,haW,aPW,rwk,taP,taW,q1,q2⟩:=h
  rfl
 ·obtain ⟨r,ta,wk,dw,bs,p,s,aR,aH,aP,aW,aS,aE,rfl,⟨dx,hR,hS,hne⟩,hWk,haP,haW,aPW,rwk,taP,taW,q1,q2⟩:=h
  have nd:=sc_read_paragraphs.nd
  refine ⟨_,(pss_one (ps_while PassesOwn.leaving (PW.pt (pw_and (pt_val (pe_methC (pv 0) T.clReader c_Reader_sees hr pass0 (pa_cons pe_str pa_nil))) (pw_and (pt_cmpR op_lt (pe_callB call_len_seq rfl T.len PySem.boot_len (pa_cons (pe_fld (pv 1) rfl) pa_nil)) (pe_gint T.cMOST_PARAGRAPHS) (nomark _)) (pw_and1 (pt_cmpR op_lt (pe_callB call_len_seq rfl T.len PySem.boot_len (pa_cons (pe_fld (pv 1) rfl) pa_nil)) (pe_gint T.cMOST_WORDS) (nomark _)))))) (pss_cons (ps_expr (pe_methC (pv 0) T.clReader c_Reader_take hr passX (pa_cons pe_str pa_nil))) (pss_cons (ps_set (i:=2) nd rfl (Or.inl rfl) (pe_callB call_len_seq rfl T.len PySem.boot_len (pa_cons (pe_fld (pv 1) rfl) pa_nil))) (pss_cons (ps_expr (pe_bm PySem.F.plainAttrs_list PySem.F.slot_list_extend PySem.F.type_list_extend mt_extend (pe_fld (pv 1) rfl) (pa_cons (pe_methC (pv 0) T.clReader c_Reader_take_things hr passX (pa_cons (pe_op op_sub (pe_gint T.cMOST_WORDS) (pv 2)) (pa_cons (pe_gint T.cMOST_LETTERS) (pa_cons (pe_tup pa_nil) pa_nil)))) pa_nil))) (pss_cons (ps_expr (pe_bm PySem.F.plainAttrs_list PySem.F.slot_list_append PySem.F.type_list_append mt_append (pe_fld (pv 1) rfl) (pa_cons (pe_tup (pa_cons (pv 2) (pa_cons (pe_callB call_len_seq rfl T.len PySem.boot_len (pa_cons (pe_fld (pv 1) rfl) pa_nil)) pa_nil))) pa_nil))) (pss_one (ps_expr (pe_methC (pv 0) T.clReader c_Reader_take hr passX (pa_cons pe_str pa_nil)))))))))),?_⟩
  have hR2:=hR
  have hWk:H wk=some (.ins a.CW dw (wf s aR aH aP aW aS aE)):=hWk
  have hWk2:=hWk
  have hWk0:=hWk
  have R:Rdr K a H r ta bs p:=⟨dx,hR,hS,hne⟩
  have hS0:=hS
  have raP:r≠aP:=ne_of hR haP (by intro z; cases z)
  have raW:r≠aW:=ne_of hR haW (by intro z; cases z)
  have wkaP:wk≠aP:=ne_of hWk haP (by intro z; cases z)
  have wkaW:wk≠aW:=ne_of hWk haW (by intro z; cases z)
  obtain ⟨W,hW⟩:∃ W:WT,W=fun m σ H'=>∃ (xs:List (List (List Nat))) (us vs:List V) (p':Nat) (o:Option V),σ=[some (.ref r),some (.ref wk),o]∧H' aW=some (.lst us)∧Paired (LN H H') xs.flatten us∧H' aP=some (.lst vs)∧Paired (TPair H H') (spans 0 xs) vs∧Rdr K a H' r ta bs p'∧Kp [r,aP,aW] H H'∧xs.length≤4096∧xs.flatten.length≤8192 ∧
   VhPage.paras_ 4096 8192 p (bs.drop p)=preO xs (VhPage.paras_ (4096 - xs.length) (8192 - xs.flatten.length) p' (bs.drop p'))∧m=4096 - xs.length:=⟨_,rfl⟩
  refine ⟨W,⟨_,by
   rw [hW]
   exact ⟨[],[],[],p,none,rfl,haW,.nil,haP,.nil,R,Kp.refl,by simp,by simp,by rw [preO_nil]; rfl,rfl⟩⟩,fun m σ H2 hw=>?_⟩
  rw [hW] at hw
  obtain ⟨xs,us,vs,p2,o,rfl,hu,hPu,hv,hPv,⟨dx2,hR,hS,hne⟩,k2,x1,x2,eq,rfl⟩:=hw
  have hR2:=hR
  have R2:Rdr K a H2 r ta bs p2:=⟨dx2,hR,hS,hne⟩
  have hlu:=Paired.length hPu
  have hlv:=Paired.length hPv
  rw [spans_len] at hlv
  have hWk:H2 wk=some (.ins a.CW dw (wf s aR aH aP aW aS aE)):=k2 _ _ hWk0 (by simp [Ne.symm rwk,wkaP,wkaW])
  have hWk2:=hWk
  have fin:(4096 - xs.length=0∨pk bs p2≠62∨8192 - xs.flatten.length=0)→Q .non H2:=fun h=>by
   refine q1 xs us vs p2 H2 ?_ x2 k2 hu hPu hv hPv R2
   rw [eq,paras_stop h]
   show Except.ok (xs ++ [],_,_)=_
   rw [List.append_nil]
  walk_at "wk"
  refine ⟨rf_sees _ _,r,ta,bs,p2,_,62,rfl,R2,by decide,by decide,?_⟩
  walk_at "wk"
  by_cases h62:pk bs p2=62
  ·rw [if_pos (by simpa using h62)]
   refine ⟨_,.inl (.inl (.inl hv)),?_⟩
   rw [← hlv]
   by_cases hfull:xs.length=4096
   ·rw [if_neg (by omega)]
    exact fin (.inl (by omega))
   ·rw [if_pos (by omega)]
    refine ⟨_,.inl (.inl (.inl hu)),?_⟩
    rw [← hlu]
    by_cases hbig:xs.flatten.length=8192
    ·rw [if_neg (by omega)]
     exact fin (.inr (.inr (by omega)))
    ·rw [if_pos (by omega)]
     refine ⟨fun σ' H'=>∃ m',m' < 4096 - xs.length∧W m' σ' H',fun _ _ z=>z,?_⟩
     have ex:4096 - xs.length=(4096 - (xs.length + 1)) + 1:=by omega
     rw [ex,paras_go h62 (by omega)] at eq
     have er:∀ {i:Nat},VhPage.row_ (VhPage.someChars_ [] 64) (8192 - xs.flatten.length) (p2 + 1) (bs.drop (p2 + 1))=.error i→VhPage.paras_ 4096 8192 p (bs.drop p)=.error i:=fun h=>by rw [eq,then_no h]; rfl
     refine ⟨rf_take _ _,r,ta,bs,p2,_,62,rfl,R2,by decide,by decide,fun _ p3 H3 e3 k3 R3=>?_,fun p3 H3 e3 R3=>by rw [byte_ok (c:=62) h62] at e3; cases e3⟩
     have ep:=bytes_at (c:=62) h62 e3
     subst ep
     obtain ⟨dx3,hR,hS,hne⟩:=R3
     have hR2:=hR
     have R3:Rdr K a H3 r ta bs (p2 + 1):=⟨dx3,hR,hS,hne⟩
     have hWk:H3 wk=some (.ins a.CW dw (wf s aR aH aP aW aS aE)):=k3 _ _ hWk (by simp [Ne.symm rwk])
     have hWk2:=hWk
     have hu3:H3 aW=some (.lst us):=k3 _ _ hu (by simp [Ne.symm raW])
     have hv3:H3 aP=some (.lst vs):=k3 _ _ hv (by simp [Ne.symm raP])
     walk_at "wk"
     refine ⟨_,.inl (.inl (.inl hu3)),.inl ⟨rfl,_,.inl (.inl hu3)⟩,rf_take_things _ _,by decide,fun t ht=>?_⟩
     have tr:t≠r:=fun z=>by rw [z,hR] at ht; cases ht
     have kt:Kp [r] H3 (upd H3 t (HO.tup [])):=Kp.new ht
     have hR:upd H3 t (HO.tup []) r=some (HO.ins a.CR dx3 (rf ta ((p2 + 1:Nat):Int))):=by rw [upd_ne (Ne.symm tr)]; exact hR
     have R4:Rdr K a (upd H3 t (HO.tup [])) r ta bs (p2 + 1):=Rdr.move (dx:=dx3) hS hne kt hR
     have hR2:=hR
     have e8:(8192:Int) - (us.length:Int)=((8192 - xs.flatten.length:Nat):Int):=by rw [← hlu]; omega
     rw [e8]
     have mk0:MkOk K (upd H3 t (HO.tup [])) r t []:=⟨fun H' k'=>.inl (.inl (k' _ _ upd_same (by simp [tr]))),fun c hc=>absurd hc (by simp)⟩
     refine ⟨r,t,ta,bs,[],p2 + 1,8192 - xs.flatten.length,64,rfl,R4,mk0,by omega,by omega,by omega,by omega,fun ys ws p5 H5 l5 e5 y1 y2 y3 hl5 k5 hl5' hPw R5=>?_,fun p5 H5 e5 R5=>q2 p5 H5 (er e5) R5⟩
     have k25:Kp [r] H2 H5:=(k3.trans kt).trans k5
     have hu5:H5 aW=some (.lst us):=k25 _ _ hu (by simp [Ne.symm raW])
     have hv5:H5 aP=some (.lst vs):=k25 _ _ hv (by simp [Ne.symm raP])
     have lW:aW≠l5:=fun z=>by
      rw [← z,upd_ne (ne_of_none hu3 ht),hu3] at hl5
      cases hl5
     have hlw:=Paired.length hPw
     refine ⟨l5,rfl,us,hu5,ws,hl5',by rw [← hlu,← hlw]; exact Nat.le_trans (show _≤8192 by omega) (by decide),?_⟩
     -- behind extend
     have k25':Kp [r,aP,aW] H H5:=k2.trans (k25.mono (by simp))
     have kE:Kp [r,aP,aW] H (upd H5 aW (HO.lst (us ++ ws))):=k25'.put2 (.inl (by simp))
     obtain ⟨dx5,hR,hS,hne⟩:=R5
     have hR:upd H5 aW (HO.lst (us ++ ws)) r=some (HO.ins a.CR dx5 (rf ta (p5:Int))):=by rw [upd_ne raW]; exact hR
     have hR2:=hR
     have hWk:upd H5 aW (HO.lst (us ++ ws)) wk=some (.ins a.CW dw (wf s aR aH aP aW aS aE)):=by rw [upd_ne wkaW]; exact k25 _ _ (k2 _ _ hWk0 (by simp [Ne.symm rwk,wkaP,wkaW])) (by simp [Ne.symm rwk])
     have hWk2:=hWk
     have hv6:upd H5 aW (HO.lst (us ++ ws)) aP=some (.lst vs):=by rw [upd_ne aPW]; exact hv5
     walk_at "wk"
     refine ⟨.inl ⟨rfl,_,.inl (.inl hv6)⟩,_,.inl (.inl (.inl upd_same)),by decide,fun t2 ht2=>⟨vs,by rw [upd_ne (ne_of_none hv6 ht2)]; exact hv6,by rw [← hlv]; exact Nat.lt_of_le_of_lt x1 (by decide),?_⟩⟩
     have t2P:t2≠aP:=Ne.symm (ne_of_none hv6 ht2)
     have t2W:t2≠aW:=fun z=>by rw [z,upd_same] at ht2; cases ht2
     have t2r:t2≠r:=fun z=>by rw [z,hR] at ht2; cases ht2
     have ht20:H t2=none:=kE.free (by simp [t2P,t2W,t2r]) ht2
     generalize hG:upd (upd (upd H5 aW (HO.lst (us ++ ws))) t2 (HO.tup [V.int (us.length:Int),V.int ((us ++ ws).length:Int)])) aP (HO.lst (vs ++ [V.ref t2]))=G
     have kG:Kp [r,aP,aW] H G:=by rw [← hG]; exact (kE.put2 (.inr ht20)).put2 (.inl (by simp))
     have GR:G r=some (HO.ins a.CR dx5 (rf ta (p5:Int))):=by rw [← hG,upd_ne raP,upd_ne (Ne.symm t2r)]; exact hR
     have RG:Rdr K a G r ta bs p5:=⟨dx5,GR,kG.seq (by simp [hne,taP,taW]) hS0,hne⟩
     have GW:G aW=some (.lst (us ++ ws)):=by rw [← hG,upd_ne (Ne.symm aPW),upd_ne (Ne.symm t2W),upd_same]
     have GP:G aP=some (.lst (vs ++ [V.ref t2])):=by rw [← hG,upd_same]
     have Gt:G t2=some (.tup [V.int (us.length:Int),V.int ((us ++ ws).length:Int)]):=by rw [← hG,upd_ne t2P,upd_same]
     have keep:∀ b o,H5 b=some o→b≠aW→b≠aP→G b=some o:=fun b o e n1 n2=>by
      have e6:upd H5 aW (HO.lst (us ++ ws)) b=some o:=by rw [upd_ne n1]; exact e
      rw [← hG,upd_ne n2,upd_ne (ne_of_none e6 ht2)]
      exact e6
     clear hG
     have hR:=GR
     have hR2:=hR
     walk_at "wk"
     refine ⟨rf_take _ _,r,ta,bs,p5,_,10,rfl,RG,by decide,by decide,fun _ p6 H6 e6 k6 R6=>?_,fun p6 H6 e6 R6=>?_⟩
     ·have h10:pk bs p5=10:=by
       apply Decidable.byContradiction
       intro z
       rw [byte_no (c:=10) z] at e6
       cases e6
      have ep:=bytes_at (c:=10) h10 e6
      subst ep
      rw [if_pos h10] at e5
      rw [then_ok e5,cons_then] at eq
      refine ⟨4096 - (xs.length + 1),by omega,?_⟩
      rw [hW]
      have k6':Kp [r,aP,aW] H H6:=kG.trans (k6.mono (by simp))
      have fr:∀ b,H b=none→b≠r∧b≠aP∧b≠aW:=fun b hb=>⟨fun z=>(by obtain ⟨_,h,_⟩:=R; rw [z,h] at hb; cases hb),fun z=>(by rw [z,haP] at hb; cases hb),fun z=>(by rw [z,haW] at hb; cases hb)⟩
      refine ⟨xs ++ [ys],us ++ ws,vs ++ [.ref t2],p5 + 1,_,rfl,k6 _ _ GW (by simp [Ne.symm raW]),?_,k6 _ _ GP (by simp [Ne.symm raP]),?_,R6,k6',by simp; omega,?_,?_,by simp⟩
      ·rw [List.flatten_append,List.flatten_cons,List.flatten_nil,List.append_nil]
       refine Paired.app (Paired.mapP hPu ?_) (Paired.mapP hPw ?_)
       ·rintro q v ⟨b,rfl,hb,hb0⟩
        obtain ⟨n1,n2,n3⟩:=fr b hb0
        exact ⟨b,rfl,k6 _ _ (keep _ _ (k25 _ _ hb (by simp [n1])) n3 n2) (by simp [n1]),hb0⟩
       ·rintro q v ⟨b,rfl,hb,hb0⟩
        have br:b≠r:=fun z=>by obtain ⟨_,h,_⟩:=R4; rw [z,h] at hb0; cases hb0
        have hb3:H3 b=none:=kt.free (by simpa using br) hb0
        have bP:b≠aP:=fun z=>by rw [z,hv3] at hb3; cases hb3
        have bW:b≠aW:=fun z=>by rw [z,hu3] at hb3; cases hb3
        exact ⟨b,rfl,k6 _ _ (keep _ _ hb bW bP) (by simp [br]),(k2.trans (k3.mono (by simp))).free (by simp [br,bP,bW]) hb3⟩
      ·rw [spans_snoc]
       refine Paired.snoc (Paired.mapP hPv ?_) ⟨t2,rfl,?_,ht20⟩
       ·rintro q v ⟨b,rfl,hb,hb0⟩
        obtain ⟨n1,n2,n3⟩:=fr b hb0
        exact ⟨b,rfl,k6 _ _ (keep _ _ (k25 _ _ hb (by simp [n1])) n3 n2) (by simp [n1]),hb0⟩
       ·have:=k6 _ _ Gt (by simp [t2r])
        rw [this,List.length_append,← hlu,← hlw]
        simp
      ·rw [List.flatten_append,List.length_append,List.flatten_cons,List.flatten_nil,List.append_nil]; omega
      ·rw [eq,preO_pre]
       simp [Nat.sub_sub,Nat.add_comm]
     ·by_cases h10:pk bs p5=10
      ·rw [byte_ok (c:=10) h10] at e6
       cases e6
      ·rw [byte_no (c:=10) h10] at e6
       injection e6 with e6
       subst e6
       rw [if_neg h10] at e5
       exact q2 _ H6 (er e5) R6
  ·rw [if_neg (by simpa using h62)]
   exact fin (.inr (.inl h62))
end
section
variable {P:Program} {w:World} {K:PySem.W.Frag} {mg:Str→Option Value} {base:Heap} {a:Ad}
theorem bsV_marks:bsV VhPage.MARKBYTES=marksI.map V.int:=by decide +kernel
theorem mkMarks (T:Txt K mg a) (H:Hp) (r:Addr):MkOk K H r a.aMARKS VhPage.MARKBYTES:=⟨fun H' _=>by rw [bsV_marks]; exact T.tMARKS H',by decide +kernel⟩
theorem mkCaret (T:Txt K mg a) (H:Hp) (r:Addr):MkOk K H r a.aCARET [94]:=⟨fun H' _=>T.tCARET H',by decide +kernel⟩
def sp_read_tokens (K:PySem.W.Frag) (a:Ad):Sp:=fun vs H Q E=>∃ (r ta:Addr) (bs:List UInt8) (p n:Nat),vs=[.ref r,.int (n:Int)]∧Rdr K a H r ta bs p∧n≤8192 ∧
 (∀ xs us p' H' l,VhPage.tokens_ n p (bs.drop p)=(if pk bs p'=10 then .ok (xs,p' + 1,bs.drop (p' + 1)) else .error p')→xs.length≤n→H l=none→Kp [r] H H'→H' l=some (.lst us)→Paired (LN H H') xs us→Rdr K a H' r ta bs p'→Q (.ref l) H') ∧
 ∀ p' H',VhPage.tokens_ n p (bs.drop p)=.error p'→Rdr K a H' r ta bs p'→E (.ref a.CE) none H'
abbrev s_read_tokens:Stmt:=top 77
theorem sc_read_tokens:FnScope ["reader","most","tokens"] ["reader","most"] (defScope s_read_tokens):=⟨rfl,rfl,rfl,by decide +kernel,rfl,by decide +kernel,by decide +kernel⟩
theorem ok_read_tokens {f:Addr} {fd:FuncData} (F:Fun K "read_tokens" "read_tokens" s_read_tokens f fd) (T:Txt K mg a) (c_Reader_sees:MethC P w K mg base CX0 2 a.CR "sees" ["self","sign"] (sp_Reader_sees K a)) (c_Reader_take:MethC P w K mg base (CX1 P w a.CE) 3 a.CR "take" ["self","sign"] (sp_Reader_take K a)) (c_Reader_take_thing:MethC P w K mg base (CX1 P w a.CE) 4 a.CR "take_thing" ["self","most","marks"] (sp_Reader_take_thing K a)):FnOk P w K mg base (CX1 P w a.CE) 5 f fd ["reader","most"] (sp_read_tokens K a):=by
 refine F.okE sc_read_tokens (fun vs H Q E h=>?_) (fun cdv A outer s H vs Q E hr h=>?_)
 ·obtain ⟨r,ta,bs,p,n,rfl,⟨dx,hR,hS,hne⟩,hn,q1,q2⟩:=h
  rfl
 ·obtain ⟨r,ta,bs,p,n,rfl,⟨dx,hR,hS,hne⟩,hn,q1,q2⟩:=h
  have nd:=sc_read_tokens.nd
  refine ⟨_,(pss_cons (ps_set (i:=2) nd rfl (Or.inl rfl) (pe_lst pa_nil)) (pss_cons (ps_while PassesOwn.leaving (PW.pt (pw_and (pt_val (pe_methC (pv 0) T.clReader c_Reader_sees hr pass0 (pa_cons pe_str pa_nil))) (pw_and1 (pt_cmpR op_lt (pe_callB call_len_seq rfl T.len PySem.boot_len (pa_cons (pv 2) pa_nil)) (pv 1) (nomark _))))) (pss_cons (ps_expr (pe_methC (pv 0) T.clReader c_Reader_take hr passX (pa_cons pe_str pa_nil))) (pss_cons (ps_if (PW.pt (pw_or (pt_val (pe_methC (pv 0) T.clReader c_Reader_sees hr pass0 (pa_cons pe_str pa_nil))) (pw_or1 (pt_val (pe_methC (pv 0) T.clReader c_Reader_sees hr pass0 (pa_cons pe_str pa_nil)))))) (pss_one (ps_raise T.exc rfl (pa_cons pe_str pa_nil))) pss_nil) (pss_one (ps_expr (pe_bm PySem.F.plainAttrs_list PySem.F.slot_list_append PySem.F.type_list_append mt_append (pv 2) (pa_cons (pe_methC (pv 0) T.clReader c_Reader_take_thing hr passX (pa_cons (pe_gint T.cMOST_LETTERS) (pa_cons (pe_gref T.cMARKS) pa_nil))) pa_nil))))))) (pss_one (ps_ret (pv 2))))),?_⟩
  have hR2:=hR
  have R:Rdr K a H r ta bs p:=⟨dx,hR,hS,hne⟩
  have hS0:=hS
  walk_at "rdr"
  refine ⟨by decide,fun l hl=>?_⟩
  have lr:l≠r:=fun z=>by rw [z,hR] at hl; cases hl
  have k0:Kp [r] H (upd H l (HO.lst [])):=Kp.new hl
  have R0:Rdr K a (upd H l (HO.lst [])) r ta bs p:=Rdr.move (dx:=dx) hS hne k0 (by rw [upd_ne (Ne.symm lr)]; exact hR)
  obtain ⟨W,hW⟩:∃ W:WT,W=fun m σ H'=>∃ (xs:List (List Nat)) (us:List V) (p':Nat),σ=[some (.ref r),some (.int (n:Int)),some (.ref l)]∧H' l=some (.lst us)∧Paired (fun x v=>LN H H' x v∧v≠.ref l) xs us∧Rdr K a H' r ta bs p'∧Kp [r] H H'∧xs.length≤n ∧
   VhPage.tokens_ n p (bs.drop p)=preO xs (rowTail VhPage.token_ (n - xs.length) p' (bs.drop p'))∧m=n - xs.length:=⟨_,rfl⟩
  refine ⟨W,⟨_,by
   rw [hW]
   exact ⟨[],[],p,rfl,upd_same,.nil,R0,k0,by simp,by rw [preO_nil]; rfl,rfl⟩⟩,fun m σ H2 hw=>?_⟩
  rw [hW] at hw
  obtain ⟨xs,us,p2,rfl,hl2,hP,⟨dx2,hR,hS,hne⟩,k2,x2,eq,rfl⟩:=hw
  have hR2:=hR
  have R2:Rdr K a H2 r ta bs p2:=⟨dx2,hR,hS,hne⟩
  have hlen:=Paired.length hP
  have fin:(xs.length=n∨pk bs p2≠32)→Q (.ref l) H2:=fun h=>by
   refine q1 xs us p2 H2 l ?_ x2 hl k2 hl2 (Paired.mapP hP fun _ _ z=>z.1) R2
   rw [eq]
   by_cases h10:pk bs p2=10
   ·rw [tail10 h10,if_pos h10]
    show Except.ok (xs ++ [],_,_)=_
    rw [List.append_nil]
   ·rw [tail_no h10 (h.imp (fun z=>by omega) id),if_neg h10]
    rfl
  walk_at "rdr"
  refine ⟨rf_sees _ _,r,ta,bs,p2,_,32,rfl,R2,by decide,by decide,?_⟩
  walk_at "rdr"
  by_cases h32:pk bs p2=32
  ·rw [if_pos (by simpa using h32)]
   refine ⟨_,.inl (.inl (.inl hl2)),?_⟩
   rw [← hlen]
   by_cases hfull:xs.length=n
   ·rw [if_neg (by omega)]
    exact fin (.inl hfull)
   ·rw [if_pos (by omega)]
    refine ⟨fun σ' H'=>∃ m',m' < n - xs.length∧W m' σ' H',fun _ _ z=>z,?_⟩
    have ex:n - xs.length=(n - (xs.length + 1)) + 1:=by omega
    have eqt:VhPage.tokens_ n p (bs.drop p)=preO xs (VhPage.row_ VhPage.token_ (n - xs.length) (p2 + 1) (bs.drop (p2 + 1))):=by rw [eq,tail32 h32 (by omega)]
    refine ⟨rf_take _ _,r,ta,bs,p2,_,32,rfl,R2,by decide,by decide,fun _ p3 H3 e3 k3 R3=>?_,fun p3 H3 e3 R3=>by rw [byte_ok (c:=32) h32] at e3; cases e3⟩
    have ep:=bytes_at (c:=32) h32 e3
    subst ep
    obtain ⟨dx3,hR,hS,hne⟩:=R3
    have hR2:=hR
    have R3:Rdr K a H3 r ta bs (p2 + 1):=⟨dx3,hR,hS,hne⟩
    have hl3:H3 l=some (.lst us):=k3 _ _ hl2 (by simpa using lr)
    have no:(pk bs (p2 + 1)=91∨pk bs (p2 + 1)=35)→E (.ref a.CE) none H3:=fun h=>q2 (p2 + 1) H3 (by rw [eqt,ex,row_err (token_no h)]; rfl) R3
    walk_at "rdr"
    refine ⟨rf_sees _ _,r,ta,bs,p2 + 1,_,91,rfl,R3,by decide,by decide,?_⟩
    walk_at "rdr"
    by_cases h91:pk bs (p2 + 1)=91
    ·rw [if_pos (by simpa using h91)]
     exact ⟨by decide,no (.inl h91)⟩
    ·rw [if_neg (by simpa using h91)]
     refine ⟨rf_sees _ _,r,ta,bs,p2 + 1,_,35,rfl,R3,by decide,by decide,?_⟩
     walk_at "rdr"
     by_cases h35:pk bs (p2 + 1)=35
     ·rw [if_pos (by simpa using h35)]
      exact ⟨by decide,no (.inr h35)⟩
     ·rw [if_neg (by simpa using h35)]
      have tok:=token_ok (bs:=bs) (p:=p2 + 1) h91 h35
      refine ⟨.inl ⟨rfl,_,.inl (.inl hl3)⟩,rf_take_thing _ _,r,_,ta,bs,VhPage.MARKBYTES,p2 + 1,64,rfl,R3,mkMarks T H3 r,by decide,by decide,fun x p4 H4 l4 e4 y2 y1 hl4 l4r k4 hx4 R4=>?_,fun p4 H4 e4 R4=>?_⟩
      ·have hl4':H4 l=some (.lst us):=k4 _ _ hl3 (by simpa using lr)
       have ne4:l4≠l:=fun z=>by rw [z,hl3] at hl4; cases hl4
       rw [← tok] at e4
       refine ⟨_,hl4',?_,n - (xs.length + 1),by omega,?_⟩
       ·rw [← hlen]; exact Nat.lt_of_le_of_lt (show xs.length≤8192 by omega) (by decide)
       ·rw [hW]
        have k5:Kp [r] H (upd H4 l (HO.lst (us ++ [V.ref l4]))):=((k2.trans k3).trans k4).put2 (.inr hl)
        have R5:Rdr K a (upd H4 l (HO.lst (us ++ [V.ref l4]))) r ta bs p4:=by
         obtain ⟨dx1,a1,a2,a3⟩:=R4
         exact ⟨dx1,by rw [upd_ne (Ne.symm lr)]; exact a1,k5.seq (by simpa using hne) hS0,hne⟩
        refine ⟨xs ++ [x],us ++ [.ref l4],p4,rfl,upd_same,Paired.snoc (Paired.mapP hP ?_) ⟨⟨l4,rfl,by rw [upd_ne ne4]; exact hx4,(k2.trans k3).free (by simpa using l4r) hl4⟩,fun z=>ne4 (V.ref.inj z)⟩,R5,k5,by simp; omega,?_,by simp⟩
        ·rintro y v ⟨⟨b,rfl,hb,hb0⟩,nb⟩
         have br:b≠r:=fun z=>by
          obtain ⟨_,h,_⟩:=R
          rw [z,h] at hb0; cases hb0
         have nb:b≠l:=fun z=>nb (by rw [z])
         exact ⟨⟨b,rfl,by rw [upd_ne nb]; exact k4 _ _ (k3 _ _ hb (by simpa using br)) (by simpa using br),hb0⟩,fun z=>nb (V.ref.inj z)⟩
        ·rw [eqt,ex,row_ok e4,preO_pre]
         simp
      ·refine q2 p4 H4 ?_ R4
       rw [← tok] at e4
       rw [eqt,ex]
       rcases e4 with e4 | ⟨x,e4,hb⟩
       ·rw [row_err e4]; rfl
       ·rw [row_ok e4,tail_no hb.2 (.inr hb.1)]; rfl
  ·rw [if_neg (by simpa using h32)]
   exact fin (.inr h32)
def TEnt (H H':Hp) (x:VhPage.Entry) (v:V):Prop:=∃ t l us,v=.ref t∧H' t=some (.tup [.int (x.first:Int),.int (x.count:Int),.ref l])∧H t=none∧H' l=some (.lst us)∧H l=none∧Paired (LN H H') x.toks us
def sp_read_entries (K:PySem.W.Frag) (a:Ad):Sp:=fun vs H Q E=>∃ (r ta wk dw:Addr) (bs:List UInt8) (p n:Nat) (s:VhPage.Settings) (us:List V) (aR aH aP aW aS aE:Addr),vs=[.ref r,.ref wk]∧Rdr K a H r ta bs p∧WkAt a H wk dw s aR aH aP aW aS aE∧H aE=some (.lst [])∧H aW=some (.lst us)∧us.length=n∧n≤8192∧aE≠aW∧r≠wk∧ta≠aE ∧
 (∀ xs vs p' H',VhPage.entries_ n 4096 0 65536 p (bs.drop p)=.ok (xs,p',bs.drop p')→Kp [r,aE] H H'→H' aE=some (.lst vs)→Paired (TEnt H H') xs vs→Rdr K a H' r ta bs p'→Q .non H') ∧
 ∀ p' H',VhPage.entries_ n 4096 0 65536 p (bs.drop p)=.error p'→Rdr K a H' r ta bs p'→E (.ref a.CE) none H'
abbrev s_read_entries:Stmt:=top 78
theorem sc_read_entries:FnScope ["reader","work","left","first","count","tokens"] ["reader","work"] (defScope s_read_entries):=⟨rfl,rfl,rfl,by decide +kernel,rfl,by decide +kernel,by decide +kernel⟩
theorem ok_read_entries {f:Addr} {fd:FuncData} (F:Fun K "read_entries" "read_entries" s_read_entries f fd) (T:Txt K mg a) (c_Reader_sees:MethC P w K mg base CX0 2 a.CR "sees" ["self","sign"] (sp_Reader_sees K a)) (c_Reader_take:MethC P w K mg base (CX1 P w a.CE) 3 a.CR "take" ["self","sign"] (sp_Reader_take K a)) (c_Reader_take_number:MethC P w K mg base (CX1 P w a.CE) 3 a.CR "take_number" ["self","low","high"] (sp_Reader_take_number K a)) (c_read_tokens:FnC P w K mg base (CX1 P w a.CE) 5 "read_tokens" ["reader","most"] (sp_read_tokens K a)):FnOk P w K mg base (CX1 P w a.CE) 6 f fd ["reader","work"] (sp_read_entries K a):=by
 refine F.okE sc_read_entries (fun vs H Q E h=>?_) (fun cdv A outer s H vs Q E hr h=>?_)
 ·obtain ⟨r,ta,wk,dw,bs,p,n,s,us,aR,aH,aP,aW,aS,aE,rfl,⟨dx,hR,hS,hne⟩,hWk,haE,haW,hun,hn,aEW,rwk,taE,q1,q2⟩:=h
  rfl
 ·obtain ⟨r,ta,wk,dw,bs,p,n,s,us,aR,aH,aP,aW,aS,aE,rfl,⟨dx,hR,hS,hne⟩,hWk,haE,haW,hun,hn,aEW,rwk,taE,q1,q2⟩:=h
  have nd:=sc_read_entries.nd
  refine ⟨_,(pss_cons (ps_set (i:=2) nd rfl (Or.inl rfl) (pe_gint T.cMOST_TOKENS)) (pss_cons (ps_set (i:=3) nd rfl (Or.inl rfl) pe_int) (pss_one (ps_while PassesOwn.leaving (PW.pt (pw_and (pt_val (pe_methC (pv 0) T.clReader c_Reader_sees hr pass0 (pa_cons pe_str pa_nil))) (pw_and (pt_cmpR op_lt (pe_callB call_len_seq rfl T.len PySem.boot_len (pa_cons (pe_fld (pv 1) rfl) pa_nil)) (pe_gint T.cMOST_ENTRIES) (nomark _)) (pw_and1 (pt_cmpR op_gt (pe_callB call_len_seq rfl T.len PySem.boot_len (pa_cons (pe_fld (pv 1) rfl) pa_nil)) pe_int (nomark _)))))) (pss_cons (ps_expr (pe_methC (pv 0) T.clReader c_Reader_take hr passX (pa_cons pe_str pa_nil))) (pss_cons (ps_set (i:=3) nd rfl (Or.inl rfl) (pe_methC (pv 0) T.clReader c_Reader_take_number hr passX (pa_cons (pv 3) (pa_cons (pe_callB call_len_seq rfl T.len PySem.boot_len (pa_cons (pe_fld (pv 1) rfl) pa_nil)) pa_nil)))) (pss_cons (ps_expr (pe_methC (pv 0) T.clReader c_Reader_take hr passX (pa_cons pe_str pa_nil))) (pss_cons (ps_set (i:=4) nd rfl (Or.inl rfl) (pe_methC (pv 0) T.clReader c_Reader_take_number hr passX (pa_cons pe_int (pa_cons (pe_op op_sub (pe_callB call_len_seq rfl T.len PySem.boot_len (pa_cons (pe_fld (pv 1) rfl) pa_nil)) (pv 3)) pa_nil)))) (pss_cons (ps_set (i:=5) nd rfl (Or.inl rfl) (pe_callC c_read_tokens hr passX (pa_cons (pv 0) (pa_cons (pe_callB (call_min2 rfl) rfl T.min boot_min (pa_cons (pv 2) (pa_cons (pe_gint T.cMOST_TOKENS_OF_ENTRY) pa_nil))) pa_nil)))) (pss_cons (ps_expr (pe_methC (pv 0) T.clReader c_Reader_take hr passX (pa_cons pe_str pa_nil))) (pss_cons (ps_expr (pe_bm PySem.F.plainAttrs_list PySem.F.slot_list_append PySem.F.type_list_append mt_append (pe_fld (pv 1) rfl) (pa_cons (pe_tup (pa_cons (pv 3) (pa_cons (pv 4) (pa_cons (pv 5) pa_nil)))) pa_nil))) (pss_one (ps_aug (i:=2) nd rfl (Or.inl rfl) (pe_callB call_len_seq rfl T.len PySem.boot_len (pa_cons (pv 5) pa_nil)) ip_sub))))))))))))),?_⟩
  have hR2:=hR
  have hWk:H wk=some (.ins a.CW dw (wf s aR aH aP aW aS aE)):=hWk
  have hWk2:=hWk
  have hWk0:=hWk
  have R:Rdr K a H r ta bs p:=⟨dx,hR,hS,hne⟩
  have hS0:=hS
  have raE:r≠aE:=ne_of hR haE (by intro z; cases z)
  have raW:r≠aW:=ne_of hR haW (by intro z; cases z)
  have wkaE:wk≠aE:=ne_of hWk haE (by intro z; cases z)
  walk_at "rd"
  obtain ⟨W,hW⟩:∃ W:WT,W=fun m σ H'=>∃ (xs:List VhPage.Entry) (vs:List V) (left fst p':Nat) (o1 o2:Option V),σ=[some (.ref r),some (.ref wk),some (.int (left:Int)),some (.int (fst:Int)),o1,o2]∧H' aE=some (.lst vs)∧Paired (TEnt H H') xs vs∧Rdr K a H' r ta bs p'∧Kp [r,aE] H H'∧xs.length≤4096 ∧
   VhPage.entries_ n 4096 0 65536 p (bs.drop p)=preO xs (VhPage.entries_ n (4096 - xs.length) fst left p' (bs.drop p'))∧m=4096 - xs.length:=⟨_,rfl⟩
  refine ⟨W,⟨_,by
   rw [hW]
   exact ⟨[],[],65536,0,p,none,none,rfl,haE,.nil,R,Kp.refl,by simp,by rw [preO_nil]; rfl,rfl⟩⟩,fun m σ H2 hw=>?_⟩
  rw [hW] at hw
  obtain ⟨xs,vs,left,fst,p2,o1,o2,rfl,hv,hPv,⟨dx2,hR,hS,hne⟩,k2,x1,eq,rfl⟩:=hw
  have hR2:=hR
  have R2:Rdr K a H2 r ta bs p2:=⟨dx2,hR,hS,hne⟩
  have hlv:=Paired.length hPv
  have hWk:H2 wk=some (.ins a.CW dw (wf s aR aH aP aW aS aE)):=k2 _ _ hWk0 (by simp [Ne.symm rwk,wkaE])
  have hWk2:=hWk
  have haW2:H2 aW=some (.lst us):=k2 _ _ haW (by simp [Ne.symm raW,Ne.symm aEW])
  have fin:(4096 - xs.length=0∨pk bs p2≠91∨n=0)→Q .non H2:=fun h=>by
   refine q1 xs vs p2 H2 ?_ k2 hv hPv R2
   rw [eq,entries_stop h]
   show Except.ok (xs ++ [],_,_)=_
   rw [List.append_nil]
  walk_at "wk"
  refine ⟨rf_sees _ _,r,ta,bs,p2,_,91,rfl,R2,by decide,by decide,?_⟩
  walk_at "wk"
  by_cases h91:pk bs p2=91
  ·rw [if_pos (by simpa using h91)]
   refine ⟨_,.inl (.inl (.inl hv)),?_⟩
   rw [← hlv]
   by_cases hfull:xs.length=4096
   ·rw [if_neg (by omega)]
    exact fin (.inl (by omega))
   ·rw [if_pos (by omega)]
    refine ⟨_,.inl (.inl (.inl haW2)),?_⟩
    rw [hun]
    by_cases hz:n=0
    ·rw [if_neg (by omega)]
     exact fin (.inr (.inr hz))
    ·rw [if_pos (by omega)]
     refine ⟨fun σ' H'=>∃ m',m' < 4096 - xs.length∧W m' σ' H',fun _ _ z=>z,?_⟩
     have ex:4096 - xs.length=(4096 - (xs.length + 1)) + 1:=by omega
     rw [ex,entries_go h91 (by omega)] at eq
     have er:∀ {i:Nat},eRow n (4096 - (xs.length + 1)) fst left (p2 + 1) (bs.drop (p2 + 1))=.error i→VhPage.entries_ n 4096 0 65536 p (bs.drop p)=.error i:=fun h=>by rw [eq,h]; rfl
     unfold eRow at er eq
     refine ⟨rf_take _ _,r,ta,bs,p2,_,91,rfl,R2,by decide,by decide,fun _ p3 H3 e3 k3 R3=>?_,fun p3 H3 e3 R3=>by rw [byte_ok (c:=91) h91] at e3; cases e3⟩
     have ep:=bytes_at (c:=91) h91 e3
     subst ep
     obtain ⟨dx3,hR,hS,hne⟩:=R3
     have hR2:=hR
     have R3:Rdr K a H3 r ta bs (p2 + 1):=⟨dx3,hR,hS,hne⟩
     have hWk:H3 wk=some (.ins a.CW dw (wf s aR aH aP aW aS aE)):=k3 _ _ hWk (by simp [Ne.symm rwk])
     have hWk2:=hWk
     have haW3:H3 aW=some (.lst us):=k3 _ _ haW2 (by simp [Ne.symm raW])
     walk_at "wk"
     refine ⟨rf_take_number _ _,_,.inl (.inl (.inl haW3)),r,ta,bs,p2 + 1,fst,n,by rw [hun],R3,by omega,fun x p4 H4 e4 hx1 hx2 k4 R4=>?_,fun p4 H4 e4 R4=>q2 p4 H4 (er (num_bad e4 fun x hd=>byte_digit hd)) R4⟩
     rw [then_ok e4] at er eq
     obtain ⟨dx4,hR,hS,hne⟩:=R4
     have hR2:=hR
     have R4:Rdr K a H4 r ta bs p4:=⟨dx4,hR,hS,hne⟩
     have hWk:H4 wk=some (.ins a.CW dw (wf s aR aH aP aW aS aE)):=k4 _ _ hWk (by simp [Ne.symm rwk])
     have hWk2:=hWk
     have haW4:H4 aW=some (.lst us):=k4 _ _ haW3 (by simp [Ne.symm raW])
     walk_at "wk"
     refine ⟨rf_take _ _,r,ta,bs,p4,_,32,rfl,R4,by decide,by decide,fun _ p5 H5 e5 k5 R5=>?_,fun p5 H5 e5 R5=>q2 p5 H5 (er (then_no e5)) R5⟩
     rw [then_ok e5] at er eq
     obtain ⟨dx5,hR,hS,hne⟩:=R5
     have hR2:=hR
     have R5:Rdr K a H5 r ta bs p5:=⟨dx5,hR,hS,hne⟩
     have hWk:H5 wk=some (.ins a.CW dw (wf s aR aH aP aW aS aE)):=k5 _ _ hWk (by simp [Ne.symm rwk])
     have hWk2:=hWk
     have haW5:H5 aW=some (.lst us):=k5 _ _ haW4 (by simp [Ne.symm raW])
     walk_at "wk"
     refine ⟨rf_take_number _ _,_,.inl (.inl (.inl haW5)),r,ta,bs,p5,0,n - x,?_,R5,by omega,fun y p6 H6 e6 _ hy k6 R6=>?_,fun p6 H6 e6 R6=>q2 p6 H6 (er (num_bad e6 fun x hd=>?_)) R6⟩
     ·rw [hun,show (n:Int) - (x:Int)=((n - x:Nat):Int) by omega]
      rfl
     ·rw [then_ok e6] at er eq
      obtain ⟨dx6,hR,hS,hne⟩:=R6
      have hR2:=hR
      have R6:Rdr K a H6 r ta bs p6:=⟨dx6,hR,hS,hne⟩
      walk_at "wk"
      have em:(if (1024:Int) < (left:Int) then (1024:Int) else (left:Int))=((min 1024 left:Nat):Int):=by
       by_cases z:1024 < left
       ·rw [if_pos (by omega)]; omega
       ·rw [if_neg (by omega)]; omega
      rw [em]
      refine ⟨r,ta,bs,p6,min 1024 left,rfl,R6,by omega,fun ys ws p7 H7 l7 e7 hys hl7 k7 hl7' hPw R7=>?_,fun p7 H7 e7 R7=>q2 p7 H7 (er (then_no e7)) R7⟩
      obtain ⟨dx7,hR,hS,hne⟩:=R7
      have hR2:=hR
      have R7:Rdr K a H7 r ta bs p7:=⟨dx7,hR,hS,hne⟩
      have l7r:l7≠r:=fun z=>by obtain ⟨_,h,_⟩:=R6; rw [z,h] at hl7; cases hl7
      walk_at "wk"
      refine ⟨rf_take _ _,r,ta,bs,p7,_,10,rfl,R7,by decide,by decide,fun _ p8 H8 e8 k8 R8=>?_,fun p8 H8 e8 R8=>?_⟩
      ·have h10:pk bs p7=10:=by
        apply Decidable.byContradiction
        intro z
        rw [byte_no (c:=10) z] at e8
        cases e8
       have ep:=bytes_at (c:=10) h10 e8
       subst ep
       rw [if_pos h10] at e7
       rw [then_ok e7,cons_then] at eq
       have k26:Kp [r] H2 H6:=((k3.trans k4).trans k5).trans k6
       have k28:Kp [r] H2 H8:=(k26.trans k7).trans k8
       have hv8:H8 aE=some (.lst vs):=k28 _ _ hv (by simp [Ne.symm raE])
       have hWk:H8 wk=some (.ins a.CW dw (wf s aR aH aP aW aS aE)):=k28 _ _ (k2 _ _ hWk0 (by simp [Ne.symm rwk,wkaE])) (by simp [Ne.symm rwk])
       have hWk2:=hWk
       have hl8:H8 l7=some (.lst ws):=k8 _ _ hl7' (by simp [l7r])
       have l7E:l7≠aE:=fun z=>by rw [z,k26 _ _ hv (by simp [Ne.symm raE])] at hl7; cases hl7
       have hlw:=Paired.length hPw
       walk_at "wk"
       refine ⟨.inl ⟨rfl,_,.inl (.inl hv8)⟩,by decide,fun t ht=>⟨vs,by rw [upd_ne (ne_of_none hv8 ht)]; exact hv8,by rw [← hlv]; exact Nat.lt_of_le_of_lt x1 (by decide),?_⟩⟩
       have tE:t≠aE:=Ne.symm (ne_of_none hv8 ht)
       have tl7:l7≠t:=ne_of_none hl8 ht
       have tr:t≠r:=fun z=>by obtain ⟨_,h,_⟩:=R8; rw [z,h] at ht; cases ht
       refine ⟨ws,.inl (.inl (.inl (by rw [upd_ne l7E,upd_ne tl7]; exact hl8))),4096 - (xs.length + 1),by omega,?_⟩
       rw [hW]
       have k8':Kp [r,aE] H H8:=k2.trans (k28.mono (by simp))
       have ht0:H t=none:=k8'.free (by simp [tE,tr]) ht
       have kF:Kp [r,aE] H (upd (upd H8 t (HO.tup [V.int (x:Int),V.int (y:Int),V.ref l7])) aE (HO.lst (vs ++ [V.ref t]))):=(k8'.put2 (.inr ht0)).put2 (.inl (by simp))
       have fr:∀ b,H b=none→b≠r∧b≠aE:=fun b hb=>⟨fun z=>(by obtain ⟨_,h,_⟩:=R; rw [z,h] at hb; cases hb),fun z=>(by rw [z,haE] at hb; cases hb)⟩
       have up:∀ b o,H8 b=some o→b≠aE→upd (upd H8 t (HO.tup [V.int (x:Int),V.int (y:Int),V.ref l7])) aE (HO.lst (vs ++ [V.ref t])) b=some o:=fun b o e n1=>by
        rw [upd_ne n1,upd_ne (ne_of_none e ht)]; exact e
       have hl70:H l7=none:=(k2.trans (k26.mono (by simp))).free (by simp [l7r,l7E]) hl7
       obtain ⟨dx8,a1,a2,a3⟩:=R8
       have eleft:(left:Int) - (ws.length:Int)=((left - ys.length:Nat):Int):=by rw [← hlw]; omega
       refine ⟨xs ++ [⟨x,y,ys⟩],vs ++ [.ref t],left - ys.length,x,p7 + 1,_,_,by rw [eleft],upd_same,Paired.snoc (Paired.mapP hPv ?_) ⟨t,l7,ws,rfl,by rw [upd_ne tE,upd_same],ht0,up _ _ hl8 l7E,hl70,Paired.mapP hPw ?_⟩,
        ⟨dx8,up _ _ a1 raE,kF.seq (by simp [hne,taE]) hS0,hne⟩,kF,by simp; omega,?_,by simp⟩
       ·rintro q v ⟨b,l,us',rfl,hb,hb0,hl,hl0,hq⟩
        obtain ⟨n1,n2⟩:=fr b hb0
        obtain ⟨n3,n4⟩:=fr l hl0
        refine ⟨b,l,us',rfl,up _ _ (k28 _ _ hb (by simp [n1])) n2,hb0,up _ _ (k28 _ _ hl (by simp [n3])) n4,hl0,Paired.mapP hq ?_⟩
        rintro q v ⟨c,rfl,hc,hc0⟩
        obtain ⟨n5,n6⟩:=fr c hc0
        exact ⟨c,rfl,up _ _ (k28 _ _ hc (by simp [n5])) n6,hc0⟩
       ·rintro q v ⟨c,rfl,hc,hc0⟩
        have cr:c≠r:=fun z=>by obtain ⟨_,h,_⟩:=R6; rw [z,h] at hc0; cases hc0
        have cE:c≠aE:=fun z=>by rw [z,k26 _ _ hv (by simp [Ne.symm raE])] at hc0; cases hc0
        exact ⟨c,rfl,up _ _ (k8 _ _ hc (by simp [cr])) cE,(k2.trans (k26.mono (by simp))).free (by simp [cr,cE]) hc0⟩
       ·rw [eq,preO_pre]
        simp
      ·by_cases h10:pk bs p7=10
       ·rw [byte_ok (c:=10) h10] at e8
        cases e8
       ·rw [byte_no (c:=10) h10] at e8
        injection e8 with e8
        subst e8
        rw [if_neg h10] at e7
        exact q2 _ H8 (er (then_no e7)) R8
     ·rw [tokens_tail]
      exact then_no (tail_no (by omega) (.inr (by omega)))
  ·rw [if_neg (by simpa using h91)]
   exact fin (.inr (.inl h91))
end
section
variable {P:Program} {w:World} {K:PySem.W.Frag} {mg:Str→Option Value} {base:Heap} {a:Ad}
def signsAt (xs:List (Nat × List (List Nat))) (k:Nat):List (List (List Nat)):=(xs.filter fun x=>x.1 == k).map (·.2)
theorem signsAt_same (xs:List (Nat × List (List Nat))) (k:Nat) (l:List (List Nat)):signsAt (xs ++ [(k,l)]) k=signsAt xs k ++ [l]:=by simp [signsAt]
theorem signsAt_ne (xs:List (Nat × List (List Nat))) {i k:Nat} (h:k≠i) (l:List (List Nat)):signsAt (xs ++ [(i,l)]) k=signsAt xs k:=by
 have:(i == k)=false:=by rw [beq_eq_false_iff_ne]; exact Ne.symm h
 simp [signsAt,this]
theorem joinL_bound (sep m:Nat):∀ (ys:List (List Nat)),(∀ x ∈ ys,x.length≤m)→(joinL sep ys).length≤ys.length * (m + 1)
 | [],_=>by simp [joinL]
 | [y],h=>by
  have:=h y (by simp)
  simp [joinL]; omega
 | y :: z :: r,h=>by
  have h1:=h y (by simp)
  have h2:=joinL_bound sep m (z :: r) (fun x hx=>h x (by simp at hx ⊢; exact .inr hx))
  simp only [joinL,List.length_append,List.length_cons] at h2 ⊢
  have e:(r.length + 1 + 1) * (m + 1)=(r.length + 1) * (m + 1) + (m + 1):=by rw [Nat.add_mul (r.length + 1) 1,Nat.one_mul]
  omega
theorem wf_putS (s:VhPage.Settings) (r h p w g e g':Addr):putF "signs" (.ref g') (wf s r h p w g e)=wf s r h p w g' e:=by rfl
theorem wf_putH (s:VhPage.Settings) (r h p w g e h':Addr):putF "head" (.ref h') (wf s r h p w g e)=wf s r h' p w g e:=by rfl
theorem wf_length (s:VhPage.Settings) (r h p w g e:Addr):(wf s r h p w g e).length=12:=rfl
def SgAt (H H':Hp) (gs:List Addr) (xs:List (Nat × List (List Nat))):Prop:=∀ k g,gs[k]?=some g→∃ ts,H' g=some (.lst ts)∧Paired (fun y v=>LN H H' y v∧∀ g' ∈ gs,v≠.ref g') ((signsAt xs k).map (joinL 32)) ts
def sp_read_signs (K:PySem.W.Frag) (a:Ad):Sp:=fun vs H Q E=>∃ (r ta wk dw:Addr) (bs:List UInt8) (p n:Nat) (s:VhPage.Settings) (us:List V) (aR aH aP aW aS aE:Addr),vs=[.ref r,.ref wk]∧Rdr K a H r ta bs p∧WkAt a H wk dw s aR aH aP aW aS aE∧H aW=some (.lst us)∧us.length=n∧n≤8192∧r≠wk∧ta≠wk ∧
 (∀ xs gs p' H' D,VhPage.signs_ n 4096 0 p (bs.drop p)=.ok (xs,p',bs.drop p')→Kp [r,wk] H H'→WkAt a H' wk dw s aR aH aP aW D aE→H D=none→H' D=some (.lst (gs.map V.ref))→gs.length=n→(∀ g ∈ gs,H g=none)→SgAt H H' gs xs→Rdr K a H' r ta bs p'→Q .non H') ∧
 ∀ p' H',VhPage.signs_ n 4096 0 p (bs.drop p)=.error p'→Rdr K a H' r ta bs p'→E (.ref a.CE) none H'
abbrev s_read_signs:Stmt:=top 76
theorem sc_read_signs:FnScope ["reader","work","word","count","low","things"] ["reader","work"] (defScope s_read_signs):=⟨rfl,rfl,rfl,by decide +kernel,rfl,by decide +kernel,by decide +kernel⟩
theorem bk_read_signs_0:BlkOk ["reader","work","word","count","low","things"] (defScope s_read_signs) (lcSc (stVal (stI (defBody s_read_signs) 0))) [("word",2)]:=⟨rfl,by decide +kernel,by decide +kernel,by decide +kernel,by decide +kernel⟩
theorem ok_read_signs {f:Addr} {fd:FuncData} (F:Fun K "read_signs" "read_signs" s_read_signs f fd) (T:Txt K mg a) (c_Reader_sees:MethC P w K mg base CX0 2 a.CR "sees" ["self","sign"] (sp_Reader_sees K a)) (c_Reader_take:MethC P w K mg base (CX1 P w a.CE) 3 a.CR "take" ["self","sign"] (sp_Reader_take K a)) (c_Reader_take_number:MethC P w K mg base (CX1 P w a.CE) 3 a.CR "take_number" ["self","low","high"] (sp_Reader_take_number K a)) (c_Reader_take_things:MethC P w K mg base (CX1 P w a.CE) 5 a.CR "take_things" ["self","most_things","most","marks"] (sp_Reader_take_things K a)) (c_joined:FnC P w K mg base CX0 1 "joined" ["things","between"] (sp_joined K a)):FnOk P w K mg base (CX1 P w a.CE) 6 f fd ["reader","work"] (sp_read_signs K a):=by
 refine F.okE sc_read_signs (fun vs H Q E h=>?_) (fun cdv A outer s H vs Q E hr h=>?_)
 ·obtain ⟨r,ta,wk,dw,bs,p,n,s,us,aR,aH,aP,aW,aS,aE,rfl,⟨dx,hR,hS,hne⟩,hWk,haW,hun,hn,rwk,tawk,q1,q2⟩:=h
  rfl
 ·obtain ⟨r,ta,wk,dw,bs,p,n,s,us,aR,aH,aP,aW,aS,aE,rfl,⟨dx,hR,hS,hne⟩,hWk,haW,hun,hn,rwk,tawk,q1,q2⟩:=h
  have nd:=sc_read_signs.nd
  refine ⟨_,(pss_cons (ps_fld (pv 1) (pe_lc rfl nd (pi_list (pe_fld (pv 1) rfl)) bk_read_signs_0 (fun _ _ _ _ _=>(pg_name (i:=2) nd rfl (Or.inl rfl))) (fun _ _ _ _ _=>pts_nil) (fun _ _ _ _ _=>(pe_lst pa_nil))) rfl) (pss_cons (ps_set (i:=3) nd rfl (Or.inl rfl) pe_int) (pss_cons (ps_set (i:=4) nd rfl (Or.inl rfl) pe_int) (pss_one (ps_while PassesOwn.leaving (PW.pt (pw_and (pt_val (pe_methC (pv 0) T.clReader c_Reader_sees hr pass0 (pa_cons pe_str pa_nil))) (pw_and (pt_cmpR op_lt (pv 3) (pe_gint T.cMOST_SIGNS) (nomark _)) (pw_and1 (pt_cmpR op_gt (pe_callB call_len_seq rfl T.len PySem.boot_len (pa_cons (pe_fld (pv 1) rfl) pa_nil)) pe_int (nomark _)))))) (pss_cons (ps_expr (pe_methC (pv 0) T.clReader c_Reader_take hr passX (pa_cons pe_str pa_nil))) (pss_cons (ps_set (i:=4) nd rfl (Or.inl rfl) (pe_methC (pv 0) T.clReader c_Reader_take_number hr passX (pa_cons (pv 4) (pa_cons (pe_op op_sub (pe_callB call_len_seq rfl T.len PySem.boot_len (pa_cons (pe_fld (pv 1) rfl) pa_nil)) pe_int) pa_nil)))) (pss_cons (ps_expr (pe_methC (pv 0) T.clReader c_Reader_take hr passX (pa_cons pe_str pa_nil))) (pss_cons (ps_set (i:=5) nd rfl (Or.inl rfl) (pe_methC (pv 0) T.clReader c_Reader_take_things hr passX (pa_cons (pe_gint T.cMOST_SIGN_THINGS) (pa_cons (pe_gint T.cMOST_SIGN_CHARACTERS) (pa_cons (pe_gref T.cCARET) pa_nil))))) (pss_cons (ps_expr (pe_methC (pv 0) T.clReader c_Reader_take hr passX (pa_cons pe_str pa_nil))) (pss_cons (ps_expr (pe_bm PySem.F.plainAttrs_list PySem.F.slot_list_append PySem.F.type_list_append mt_append (pe_ix ix_list (pe_fld (pv 1) rfl) (pv 4) (fun _ _=>rfl)) (pa_cons (pe_callC c_joined hr pass0 (pa_cons (pv 5) (pa_cons (pe_gint T.cBLANK) pa_nil))) pa_nil))) (pss_one (ps_aug (i:=3) nd rfl (Or.inl rfl) pe_int ip_add))))))))))))),?_⟩
  have hWk:H wk=some (.ins a.CW dw (wf s aR aH aP aW aS aE)):=hWk
  have hWk0:=hWk
  have hR0:=hR
  have R:Rdr K a H r ta bs p:=⟨dx,hR,hS,hne⟩
  have hS0:=hS
  have raW:r≠aW:=ne_of hR haW (by intro z; cases z)
  have wkaW:wk≠aW:=ne_of hWk haW (by intro z; cases z)
  have z0:0≤sizeLine:=by decide
  refine ⟨_,rfl,wk,a.CW,dw,_,_,rfl,hWk,T.clWork,T.n_words,wf_words s aR aH aP aW aS aE,aW,rfl,⟨_,.inl (.inl haW)⟩,fun D hD=>?_⟩
  have nD:aW≠D:=ne_of_none haW hD
  obtain ⟨Pv,hPv⟩:∃ Pv:Nat→Hp→Prop,Pv=fun i H'=>∃ gs:List Addr,gs.length=i∧H' D=some (.lst (gs.map V.ref))∧Kp [] H H'∧(∀ g ∈ gs,H g=none∧H' g=some (.lst [])∧g≠D)∧gs.Nodup:=⟨_,rfl⟩
  refine lc_list (xs:=us) Pv ?_ ?_ ?_ ?_
  ·rw [hPv]
   exact ⟨[],rfl,upd_same,Kp.new hD,fun g hg=>absurd hg (by simp),List.nodup_nil⟩
  ·intro i H' _ hw
   rw [hPv] at hw
   obtain ⟨gs,_,_,k,_⟩:=hw
   exact .inl (.inl (k _ _ haW (by simp)))
  ·intro i x H2 hi hw
   rw [hPv] at hw
   obtain ⟨gs,hg1,hg2,k,hg3,hg4⟩:=hw
   refine ⟨rfl,?_⟩
   simp only [tYes]
   walk_at "rd"
   refine ⟨z0,fun g hg=>?_⟩
   have gD:D≠g:=ne_of_none hg2 hg
   refine ⟨gs.map V.ref,by rw [upd_ne gD]; exact hg2,by rw [List.length_map,hg1]; exact Nat.lt_of_lt_of_le (List.getElem?_eq_some_iff.mp hi).1 (by rw [hun]; exact Nat.le_trans hn (by decide)),?_⟩
   rw [hPv]
   have hg0:H g=none:=k.free (by simp) hg
   refine ⟨gs ++ [g],by simp [hg1],by rw [upd_same]; simp,(k.trans (Kp.new hg)).put2 (.inr hD),fun c hc=>?_,?_⟩
   ·rcases List.mem_append.mp hc with h | h
    ·obtain ⟨h1,h2,h3⟩:=hg3 c h
     exact ⟨h1,by rw [upd_ne h3,upd_ne (ne_of_none h2 hg)]; exact h2,h3⟩
    ·have e:c=g:=by simpa using h
     subst e
     exact ⟨hg0,by rw [upd_ne (Ne.symm gD),upd_same],Ne.symm gD⟩
   ·rw [List.nodup_append]
    refine ⟨hg4,by simp,fun b hb c hc=>?_⟩
    have e:c=g:=by simpa using hc
    subst e
    exact ne_of_none (hg3 b hb).2.1 hg
  ·intro H2 hw
   rw [hPv] at hw
   obtain ⟨gs,hg1,hg2,k,hg3,hg4⟩:=hw
   rw [hun] at hg1
   have hWk:H2 wk=some (.ins a.CW dw (wf s aR aH aP aW aS aE)):=k _ _ hWk0 (by simp)
   refine ⟨_,rfl,wk,a.CW,dw,_,rfl,hWk,T.clWork,T.n_signs,by rw [wf_length]; decide,?_⟩
   rw [wf_putS]
   have Dwk:wk≠D:=ne_of_none hWk0 hD
   have Dr:r≠D:=ne_of_none hR0 hD
   generalize hG:upd H2 wk (HO.ins a.CW dw (wf s aR aH aP aW D aE))=G
   have GD:G D=some (.lst (gs.map V.ref)):=by rw [← hG,upd_ne (Ne.symm Dwk)]; exact hg2
   have Gg:∀ g ∈ gs,H g=none∧G g=some (.lst [])∧g≠D:=fun g hg=>by
    obtain ⟨h1,h2,h3⟩:=hg3 g hg
    exact ⟨h1,by rw [← hG,upd_ne (Ne.symm (ne_of_none hWk0 h1))]; exact h2,h3⟩
   have kG:Kp [r,wk] H G:=by rw [← hG]; exact (k.mono (by simp)).put2 (.inl (by simp))
   have GR:G r=some (.ins a.CR dx (rf ta (p:Int))):=by rw [← hG,upd_ne rwk]; exact k _ _ hR0 (by simp)
   have GW:G wk=some (.ins a.CW dw (wf s aR aH aP aW D aE)):=by rw [← hG,upd_same]
   clear hG
   have fr:∀ b,H b=none→b≠r∧b≠wk:=fun b hb=>⟨fun z=>(by rw [z,hR0] at hb; cases hb),fun z=>(by rw [z,hWk0] at hb; cases hb)⟩
   have RG:Rdr K a G r ta bs p:=⟨dx,GR,kG.seq (by simp [hne,tawk]) hS0,hne⟩
   obtain ⟨W,hW⟩:∃ W:WT,W=fun m σ H'=>∃ (xs:List (Nat × List (List Nat))) (low p':Nat) (o1 o2:Option V),σ=[some (.ref r),some (.ref wk),o1,some (.int (xs.length:Int)),some (.int (low:Int)),o2]∧H' D=some (.lst (gs.map V.ref))∧SgAt H H' gs xs∧H' wk=some (.ins a.CW dw (wf s aR aH aP aW D aE))∧Rdr K a H' r ta bs p'∧Kp [r,wk] H H'∧xs.length≤4096 ∧
    VhPage.signs_ n 4096 0 p (bs.drop p)=preO xs (VhPage.signs_ n (4096 - xs.length) low p' (bs.drop p'))∧m=4096 - xs.length:=⟨_,rfl⟩
   walk_at "rd"
   refine ⟨W,⟨_,by
    rw [hW]
    refine ⟨[],0,p,_,none,rfl,GD,fun j g hg=>⟨[],(Gg g (List.mem_of_getElem? hg)).2.1,.nil⟩,GW,RG,kG,by simp,by rw [preO_nil]; rfl,rfl⟩⟩,fun m σ H2 hw=>?_⟩
   rw [hW] at hw
   obtain ⟨xs,low,p2,o1,o2,rfl,hD2,hSg,hWk,⟨dx2,hR,hS,hne⟩,k2,x1,eq,rfl⟩:=hw
   have hR2:=hR
   have hWk2:=hWk
   have R2:Rdr K a H2 r ta bs p2:=⟨dx2,hR,hS,hne⟩
   have haW2:H2 aW=some (.lst us):=k2 _ _ haW (by simp [Ne.symm raW,Ne.symm wkaW])
   have fin:(4096 - xs.length=0∨pk bs p2≠123∨n=0)→Q .non H2:=fun h=>by
    refine q1 xs gs p2 H2 D ?_ k2 hWk hD hD2 hg1 (fun g hg=>(Gg g hg).1) hSg R2
    rw [eq,signs_stop h]
    show Except.ok (xs ++ [],_,_)=_
    rw [List.append_nil]
   walk_at "wk"
   refine ⟨rf_sees _ _,r,ta,bs,p2,_,123,rfl,R2,by decide,by decide,?_⟩
   walk_at "wk"
   by_cases h123:pk bs p2=123
   ·rw [if_pos (by simpa using h123)]
    by_cases hfull:xs.length=4096
    ·rw [if_neg (by omega)]
     exact fin (.inl (by omega))
    ·rw [if_pos (by omega)]
     refine ⟨_,.inl (.inl (.inl haW2)),?_⟩
     rw [hun]
     by_cases hz:n=0
     ·rw [if_neg (by omega)]
      exact fin (.inr (.inr hz))
     ·rw [if_pos (by omega)]
      refine ⟨fun σ' H'=>∃ m',m' < 4096 - xs.length∧W m' σ' H',fun _ _ z=>z,?_⟩
      have ex:4096 - xs.length=(4096 - (xs.length + 1)) + 1:=by omega
      rw [ex,signs_go h123 (by omega)] at eq
      have er:∀ {i:Nat},sRow n (4096 - (xs.length + 1)) low (p2 + 1) (bs.drop (p2 + 1))=.error i→VhPage.signs_ n 4096 0 p (bs.drop p)=.error i:=fun h=>by rw [eq,h]; rfl
      unfold sRow at er eq
      refine ⟨rf_take _ _,r,ta,bs,p2,_,123,rfl,R2,by decide,by decide,fun _ p3 H3 e3 k3 R3=>?_,fun p3 H3 e3 R3=>by rw [byte_ok (c:=123) h123] at e3; cases e3⟩
      have ep:=bytes_at (c:=123) h123 e3
      subst ep
      obtain ⟨dx3,hR,hS,hne⟩:=R3
      have hR2:=hR
      have R3:Rdr K a H3 r ta bs (p2 + 1):=⟨dx3,hR,hS,hne⟩
      have hWk:H3 wk=some (.ins a.CW dw (wf s aR aH aP aW D aE)):=k3 _ _ hWk (by simp [Ne.symm rwk])
      have hWk2:=hWk
      have haW3:H3 aW=some (.lst us):=k3 _ _ haW2 (by simp [Ne.symm raW])
      walk_at "wk"
      refine ⟨rf_take_number _ _,_,.inl (.inl (.inl haW3)),r,ta,bs,p2 + 1,low,n - 1,by rw [hun,show (n:Int) - 1=((n - 1:Nat):Int) by omega],R3,by omega,fun x p4 H4 e4 hx1 hx2 k4 R4=>?_,fun p4 H4 e4 R4=>q2 p4 H4 (er (num_bad e4 fun x hd=>byte_digit hd)) R4⟩
      rw [then_ok e4] at er eq
      obtain ⟨dx4,hR,hS,hne⟩:=R4
      have hR2:=hR
      have R4:Rdr K a H4 r ta bs p4:=⟨dx4,hR,hS,hne⟩
      walk_at "wk"
      refine ⟨rf_take _ _,r,ta,bs,p4,_,32,rfl,R4,by decide,by decide,fun _ p5 H5 e5 k5 R5=>?_,fun p5 H5 e5 R5=>q2 p5 H5 (er (then_no e5)) R5⟩
      rw [then_ok e5] at er eq
      obtain ⟨dx5,hR,hS,hne⟩:=R5
      have hR2:=hR
      have R5:Rdr K a H5 r ta bs p5:=⟨dx5,hR,hS,hne⟩
      walk_at "wk"
      refine ⟨rf_take_things _ _,r,_,ta,bs,[94],p5,4,16,rfl,R5,mkCaret T H5 r,by decide,by decide,by decide,by decide,fun ys ws p7 H7 l7 e7 y1 y2 y3 hl7 k7 hl7' hPw R7=>?_,fun p7 H7 e7 R7=>q2 p7 H7 (er (then_no e7)) R7⟩
      obtain ⟨dx7,hR,hS,hne⟩:=R7
      have hR2:=hR
      have R7:Rdr K a H7 r ta bs p7:=⟨dx7,hR,hS,hne⟩
      have l7r:l7≠r:=fun z=>by obtain ⟨_,h,_⟩:=R5; rw [z,h] at hl7; cases hl7
      walk_at "wk"
      refine ⟨rf_take _ _,r,ta,bs,p7,_,10,rfl,R7,by decide,by decide,fun _ p8 H8 e8 k8 R8=>?_,fun p8 H8 e8 R8=>?_⟩
      ·have h10:pk bs p7=10:=by
        apply Decidable.byContradiction
        intro z
        rw [byte_no (c:=10) z] at e8
        cases e8
       have ep:=bytes_at (c:=10) h10 e8
       subst ep
       rw [if_pos h10] at e7
       rw [then_ok e7,cons_then] at eq
       have k25:Kp [r] H2 H5:=(k3.trans k4).trans k5
       have k28:Kp [r] H2 H8:=(k25.trans k7).trans k8
       have hD8:H8 D=some (.lst (gs.map V.ref)):=k28 _ _ hD2 (by simp [Ne.symm Dr])
       have hWk:H8 wk=some (.ins a.CW dw (wf s aR aH aP aW D aE)):=k28 _ _ ‹H2 wk=_› (by simp [Ne.symm rwk])
       have hWk2:=hWk
       have hl8:H8 l7=some (.lst ws):=k8 _ _ hl7' (by simp [l7r])
       obtain ⟨g,hg⟩:∃ g,gs[x]?=some g:=⟨_,List.getElem?_eq_getElem (by omega)⟩
       have hgm:g ∈ gs:=List.mem_of_getElem? hg
       obtain ⟨hgn,_,hgD⟩:=Gg g hgm
       obtain ⟨gr,gwk⟩:=fr g hgn
       obtain ⟨ts,hts,hPts⟩:=hSg x g hg
       have hts8:H8 g=some (.lst ts):=k28 _ _ hts (by simp [gr])
       have hPw8:Paired (fun y v=>∃ l,v=V.ref l∧H8 l=some (.lst (lV y))) ys ws:=Paired.mapP hPw (by
        rintro y v ⟨b,rfl,hb,hb0⟩
        have br:b≠r:=fun z=>by obtain ⟨_,h,_⟩:=R5; rw [z,h] at hb0; cases hb0
        exact ⟨b,rfl,k8 _ _ hb (by simp [br])⟩)
       have jb:=joinL_bound 32 16 ys y3
       walk_at "wk"
       refine ⟨_,.inl (.inl hD8),_,atI_nat (v:=V.ref g) (by rw [List.getElem?_map,hg]; rfl),.inl ⟨rfl,_,.inl (.inl hts8)⟩,l7,ws,ys,32,rfl,hl8,hPw8,by omega,fun H9 j hj k9 hj9=>?_⟩
       have hts9:H9 g=some (.lst ts):=k9 _ _ hts8 (by simp)
       have hlt:=Paired.length hPts
       have few:ts.length≤4096:=by
        rw [← hlt,List.length_map]
        unfold signsAt
        rw [List.length_map]
        exact Nat.le_trans (List.length_filter_le _ _) x1
       refine ⟨g,rfl,ts,hts9,Nat.lt_of_le_of_lt few (by decide),4096 - (xs.length + 1),by omega,?_⟩
       rw [hW]
       have k8':Kp [r,wk] H H8:=k2.trans (k28.mono (by simp))
       have k9':Kp [r,wk] H H9:=k8'.trans (k9.mono (by simp))
       have jr:j≠r:=fun z=>by obtain ⟨_,h,_⟩:=R8; rw [z,h] at hj; cases hj
       have jwk:j≠wk:=fun z=>by rw [z,hWk] at hj; cases hj
       have jg:j≠g:=fun z=>by rw [z,hts8] at hj; cases hj
       have hj0:H j=none:=k8'.free (by simp [jr,jwk]) hj
       have kF:Kp [r,wk] H (upd H9 g (HO.lst (ts ++ [V.ref j]))):=k9'.put2 (.inr hgn)
       have up:∀ b o,H9 b=some o→b≠g→upd H9 g (HO.lst (ts ++ [V.ref j])) b=some o:=fun b o e n1=>by rw [upd_ne n1]; exact e
       obtain ⟨dx8,a1,a2,a3⟩:=R8
       have ec:((xs.length:Int) + 1)=(((xs ++ [(x,ys)]).length:Nat):Int):=by simp
       -- lists that hold letters are no signs' lists
       have keepL:∀ (y:List Nat) (v:V),LN H H2 y v→(∀ g' ∈ gs,v≠.ref g')→LN H (upd H9 g (HO.lst (ts ++ [V.ref j]))) y v:=by
        rintro y v ⟨b,rfl,hb,hb0⟩ nb
        obtain ⟨n1,n2⟩:=fr b hb0
        exact ⟨b,rfl,up _ _ (k9 _ _ (k28 _ _ hb (by simp [n1])) (by simp)) (fun z=>nb g hgm (by rw [z])),hb0⟩
       refine ⟨xs ++ [(x,ys)],x,p7 + 1,_,_,by rw [ec],up _ _ (k9 _ _ hD8 (by simp)) (Ne.symm hgD),?_,up _ _ (k9 _ _ hWk (by simp)) (Ne.symm gwk),⟨dx8,up _ _ (k9 _ _ a1 (by simp)) (Ne.symm gr),kF.seq (by simp [hne,tawk]) hS0,hne⟩,kF,by simp; omega,?_,by simp⟩
       ·intro k' g' hg'
        have hgm':g' ∈ gs:=List.mem_of_getElem? hg'
        obtain ⟨ts',hts',hP'⟩:=hSg k' g' hg'
        have gr':=(fr g' (Gg g' hgm').1).1
        by_cases hk:k'=x
        ·subst hk
         have e:g'=g:=Option.some.inj (hg'.symm.trans hg)
         subst e
         refine ⟨ts ++ [.ref j],upd_same,?_⟩
         rw [signsAt_same,List.map_append]
         refine Paired.snoc (Paired.mapP hPts fun y v z=>⟨keepL y v z.1 z.2,z.2⟩) ⟨⟨j,rfl,by rw [upd_ne jg]; exact hj9,hj0⟩,fun g2 hg2 z=>?_⟩
         obtain ⟨i2,hi2⟩:=List.getElem?_of_mem hg2
         obtain ⟨t2,ht2,_⟩:=hSg i2 g2 hi2
         have g2r:=(fr g2 (Gg g2 hg2).1).1
         have z:j=g2:=V.ref.inj z
         rw [z,k28 _ _ ht2 (by simp [g2r])] at hj
         cases hj
        ·have ne:g'≠g:=fun z=>hk (nd_ix hg4 hg' (by rw [z]; exact hg))
         refine ⟨ts',up _ _ (k9 _ _ (k28 _ _ hts' (by simp [gr'])) (by simp)) ne,?_⟩
         rw [signsAt_ne xs hk]
         exact Paired.mapP hP' fun y v z=>⟨keepL y v z.1 z.2,z.2⟩
       ·rw [eq,preO_pre]
        simp
      ·by_cases h10:pk bs p7=10
       ·rw [byte_ok (c:=10) h10] at e8
        cases e8
       ·rw [byte_no (c:=10) h10] at e8
        injection e8 with e8
        subst e8
        rw [if_neg h10] at e7
        exact q2 _ H8 (er (then_no e7)) R8
   ·rw [if_neg (by simpa using h123)]
    exact fin (.inr (.inl h123))
end
section
variable {P:Program} {w:World} {K:PySem.W.Frag} {mg:Str→Option Value} {base:Heap} {a:Ad}
theorem SqL.is (T:Txt K mg a) {H:Hp} {ta:Addr} {xs:List V} (h:SqL K H ta xs):∃ o,H ta=some o:=by
 rcases h with (h | ⟨o,h⟩) | ⟨o,_,_,h,hc,_⟩
 ·exact ⟨_,h⟩
 ·exact ⟨_,h⟩
 ·exact absurd hc (T.nl _ _ h)
def LI (H:Hp) (x:List Nat) (v:V):Prop:=∃ l,v=.ref l∧H l=some (.lst (lV x))
def RowI (H:Hp) (x:Nat × Nat × Nat) (v:V):Prop:=∃ t,v=.ref t∧H t=some (.tup [.int (x.1:Int),.int (x.2.1:Int),.int (x.2.2:Int)])
def PairI (H:Hp) (x:Nat × Nat) (v:V):Prop:=∃ t,v=.ref t∧H t=some (.tup [.int (x.1:Int),.int (x.2:Int)])
def EntI (H:Hp) (x:VhPage.Entry) (v:V):Prop:=∃ t l us,v=.ref t∧H t=some (.tup [.int (x.first:Int),.int (x.count:Int),.ref l])∧H l=some (.lst us)∧Paired (LI H) x.toks us
def SgI (H:Hp) (gs:List Addr) (xs:List (Nat × List (List Nat))):Prop:=∀ k g,gs[k]?=some g→∃ ts,H g=some (.lst ts)∧Paired (LI H) ((signsAt xs k).map (joinL 32)) ts
structure WRep (a:Ad) (H:Hp) (wk:Addr) (w:VhPage.Work) (hb:List UInt8):Prop where
 ex:∃ dw aR aH aP aW aS aE rs ps ws gs es,H wk=some (.ins a.CW dw (wf w.set aR aH aP aW aS aE))∧H aR=some (.lst rs)∧Paired (RowI H) w.widths rs∧H aH=some (.lst (bsV hb))∧H aP=some (.lst ps)∧Paired (PairI H) (spans 0 w.paras) ps ∧
  H aW=some (.lst ws)∧Paired (LI H) w.paras.flatten ws∧H aS=some (.lst (gs.map V.ref))∧gs.length=w.paras.flatten.length∧SgI H gs w.signs∧H aE=some (.lst es)∧Paired (EntI H) w.entries es
def HeadAt (bs hb:List UInt8):Prop:=∃ s p0 x p1,VhPage.settings_ 0 bs=.ok (s,p0,bs.drop p0)∧VhPage.widths_ 64 33 p0 (bs.drop p0)=.ok (x,p1,bs.drop p1)∧hb=bs.take p1
def sp_read_work (K:PySem.W.Frag) (a:Ad):Sp:=fun vs H Q E=>∃ (r ta:Addr) (bs:List UInt8),vs=[.ref r]∧Rdr K a H r ta bs 0 ∧
 (∀ w hb wk H',VhPage.readWork bs=.ok w→HeadAt bs hb→w.paras.flatten.length≤8192→Kp [r] H H'→WRep a H' wk w hb→Q (.ref wk) H') ∧
 ∀ p' H',VhPage.readWork bs=.error p'→Rdr K a H' r ta bs p'→E (.ref a.CE) none H'
theorem cut_take (bs:List UInt8) (p:Nat):cutV (bsV bs) none (some (p:Int))=bsV (bs.take p):=by
 unfold cutV
 rw [HT.sIx_none,HT.sIx_nat,List.drop_zero,Nat.sub_zero,bsV_len]
 unfold bsV
 rw [← List.map_take]
 congr 1
 by_cases h:p≤bs.length
 ·rw [Nat.min_eq_left h]
 ·rw [Nat.min_eq_right (by omega),List.take_of_length_le (Nat.le_refl _),List.take_of_length_le (by omega)]
theorem keepF {G H' H'':Hp} {S:List Addr} {b:Addr} {o:HO} (k:Kp S H' H'') (hs:∀ c ∈ S,∃ o,G c=some o) (hb0:G b=none) (hb:H' b=some o):H'' b=some o:=k b o hb fun z=>by
 obtain ⟨o',h⟩:=hs b z
 rw [hb0] at h; cases h
abbrev s_read_work:Stmt:=top 79
theorem sc_read_work:FnScope ["reader","work"] ["reader"] (defScope s_read_work):=⟨rfl,rfl,rfl,by decide +kernel,rfl,by decide +kernel,by decide +kernel⟩
theorem ok_read_work {f:Addr} {fd:FuncData} (F:Fun K "read_work" "read_work" s_read_work f fd) (T:Txt K mg a) (c_Work_init:MakeC P w K mg base CX0 1 a.CW "Work" ["self","settings"] (sp_Work_init K a)) (c_read_rows:FnC P w K mg base (CX1 P w a.CE) 4 "read_rows" ["reader","work"] (sp_read_rows K a)) (c_read_paragraphs:FnC P w K mg base (CX1 P w a.CE) 6 "read_paragraphs" ["reader","work"] (sp_read_paragraphs K a)) (c_read_signs:FnC P w K mg base (CX1 P w a.CE) 6 "read_signs" ["reader","work"] (sp_read_signs K a)) (c_read_entries:FnC P w K mg base (CX1 P w a.CE) 6 "read_entries" ["reader","work"] (sp_read_entries K a)) (c_Reader_take_end:MethC P w K mg base (CX1 P w a.CE) 2 a.CR "take_end" ["self"] (sp_Reader_take_end K a)) (c_read_settings:FnC P w K mg base (CX1 P w a.CE) 4 "read_settings" ["reader"] (sp_read_settings K a)):FnOk P w K mg base (CX1 P w a.CE) 7 f fd ["reader"] (sp_read_work K a):=by
 refine F.okE sc_read_work (fun vs H Q E h=>?_) (fun cdv A outer s H vs Q E hr h=>?_)
 ·obtain ⟨r,ta,bs,rfl,⟨dx,hR,hS,hne⟩,q1,q2⟩:=h
  rfl
 ·obtain ⟨r,ta,bs,rfl,⟨dx,hR,hS,hne⟩,q1,q2⟩:=h
  have nd:=sc_read_work.nd
  refine ⟨_,(pss_cons (ps_set (i:=1) nd rfl (Or.inl rfl) (pe_makeC c_Work_init hr pass0 (pa_cons (pe_callC c_read_settings hr passX (pa_cons (pv 0) pa_nil)) pa_nil))) (pss_cons (ps_expr (pe_callC c_read_rows hr passX (pa_cons (pv 0) (pa_cons (pv 1) pa_nil)))) (pss_cons (ps_fld (pv 1) (pe_slice sl_list (pe_fld (pv 0) rfl) po_none (po_some (pe_fld (pv 0) rfl))) rfl) (pss_cons (ps_expr (pe_callC c_read_paragraphs hr passX (pa_cons (pv 0) (pa_cons (pv 1) pa_nil)))) (pss_cons (ps_expr (pe_callC c_read_signs hr passX (pa_cons (pv 0) (pa_cons (pv 1) pa_nil)))) (pss_cons (ps_expr (pe_callC c_read_entries hr passX (pa_cons (pv 0) (pa_cons (pv 1) pa_nil)))) (pss_cons (ps_expr (pe_methC0 (pv 0) T.clReader c_Reader_take_end hr passX)) (pss_one (ps_ret (pv 1)))))))))),?_⟩
  have hR2:=hR
  have hWk:=hR
  have hWk2:=hR
  have hR0:=hR
  have R:Rdr K a H r ta bs 0:=⟨dx,hR,hS,hne⟩
  have hS0:=hS
  obtain ⟨ot,hta⟩:=SqL.is T hS
  have er:∀ {i:Nat},(Vh.andThen VhPage.settings_ fun (s:VhPage.Settings)=>Vh.andThen (VhPage.widths_ 64 33) fun (w:List (Nat × Nat × Nat))=>Vh.andThen (VhPage.paras_ 4096 8192) fun (p:List (List Vh.Letters))=>Vh.andThen (VhPage.signs_ p.flatten.length 4096 0) fun (g:List (Nat × List Vh.Letters))=>Vh.andThen (VhPage.entries_ p.flatten.length 4096 0 65536) fun (e:List VhPage.Entry)=>VhPage.end_ (⟨s,w,p,g,e⟩:VhPage.Work)) 0 (bs.drop 0)=.error i→VhPage.readWork bs=.error i:=fun h=>by
   unfold VhPage.readWork Vh.readAll
   rw [List.drop_zero] at h
   rw [h]
  have ok:∀ {x p' b'},(Vh.andThen VhPage.settings_ fun (s:VhPage.Settings)=>Vh.andThen (VhPage.widths_ 64 33) fun (w:List (Nat × Nat × Nat))=>Vh.andThen (VhPage.paras_ 4096 8192) fun (p:List (List Vh.Letters))=>Vh.andThen (VhPage.signs_ p.flatten.length 4096 0) fun (g:List (Nat × List Vh.Letters))=>Vh.andThen (VhPage.entries_ p.flatten.length 4096 0 65536) fun (e:List VhPage.Entry)=>VhPage.end_ (⟨s,w,p,g,e⟩:VhPage.Work)) 0 (bs.drop 0)=.ok (x,p',b')→VhPage.readWork bs=.ok x:=fun h=>by
   unfold VhPage.readWork Vh.readAll
   rw [List.drop_zero] at h
   rw [h]
  walk_at "rd"
  refine ⟨r,ta,bs,0,rfl,R,fun s p1 H1 l1 e1 hl1 k1 hl1' R1=>?_,fun p1 H1 e1 R1=>q2 p1 H1 (er (then_no e1)) R1⟩
  rw [then_ok e1] at er ok
  intro wk dw nwk ndw newk
  obtain ⟨dx1,hR,hS,hne⟩:=R1
  have R1:Rdr K a H1 r ta bs p1:=⟨dx1,hR,hS,hne⟩
  have rwk:r≠wk:=ne_of_none hR nwk
  have rdw:r≠dw:=ne_of_none hR ndw
  have tawk:ta≠wk:=ne_of_none (k1 _ _ hta (by simp [hne])) nwk
  have l1wk:l1≠wk:=ne_of_none hl1' nwk
  have l1dw:l1≠dw:=ne_of_none hl1' ndw
  have hwk0:H wk=none:=k1.free (by simp [Ne.symm rwk]) nwk
  refine ⟨wk,dw,l1,s,rfl,upd_same,by rw [upd_ne l1wk,upd_ne l1dw]; exact hl1',fun H2 aR aH aP aW aS aE k2 hWk al nd6=>⟨rfl,?_⟩⟩
  have six:∀ b ∈ [aR,aH,aP,aW,aS,aE],b≠wk∧H1 b=none∧H b=none∧b≠r∧b≠ta∧H2 b=some (.lst []):=fun b hb=>by
   obtain ⟨h1,h2⟩:=al b hb
   have n1:b≠wk:=fun z=>by rw [z,upd_same] at h1; cases h1
   rw [upd_ne n1] at h1
   have n2:b≠dw:=fun z=>by rw [z,upd_same] at h1; cases h1
   rw [upd_ne n2] at h1
   have n3:b≠r:=fun z=>by rw [z,hR] at h1; cases h1
   exact ⟨n1,h1,k1.free (by simp [n3]) h1,n3,fun z=>(by rw [z,k1 _ _ hta (by simp [hne])] at h1; cases h1),h2⟩
  obtain ⟨aRwk,aR1,aR0,aRr,aRta,aR2⟩:=six aR (by simp)
  obtain ⟨aHwk,aH1,aH0,aHr,aHta,aH2⟩:=six aH (by simp)
  obtain ⟨aPwk,aP1,aP0,aPr,aPta,aP2⟩:=six aP (by simp)
  obtain ⟨aWwk,aW1,aW0,aWr,aWta,aW2⟩:=six aW (by simp)
  obtain ⟨aEwk,aE1,aE0,aEr,aEta,aE2⟩:=six aE (by simp)
  have ndd:aR≠aP∧aR≠aW∧aR≠aE∧aP≠aW∧aP≠aE∧aW≠aE:=by
   simp only [List.nodup_cons,List.mem_cons,not_or] at nd6
   exact ⟨nd6.1.2.1,nd6.1.2.2.1,nd6.1.2.2.2.2.1,nd6.2.2.1.1,nd6.2.2.1.2.2.1,nd6.2.2.2.1.2.1⟩
  obtain ⟨RP,RW,RE,PW,PE,WE⟩:=ndd
  have k02:Kp [r] H H2:=fun c o e n=>by
   have e1:=k1 c o e n
   have n1:c≠wk:=ne_of_none e1 nwk
   exact k2 c o (by rw [upd_ne n1,upd_ne (ne_of_none e1 ndw)]; exact e1) (by simp [n1])
  have hR:H2 r=some (HO.ins a.CR dx1 (rf ta (p1:Int))):=k2 _ _ (by rw [upd_ne rwk,upd_ne rdw]; exact hR) (by simp [rwk])
  have R2:Rdr K a H2 r ta bs p1:=Rdr.move (dx:=dx1) hS0 hne k02 hR
  refine ⟨r,ta,wk,dw,bs,p1,s,aR,aH,aP,aW,aS,aE,rfl,R2,hWk,aR2,rwk,Ne.symm aRta,fun ws rs p2 H3 e3 k3 hrs hPr R3=>?_,fun p2 H3 e3 R3=>q2 p2 H3 (er (then_no e3)) R3⟩
  have hd0:HeadAt bs (bs.take p2):=⟨s,p1,ws,p2,by rw [List.drop_zero] at e1; exact e1,e3,rfl⟩
  rw [then_ok e3] at er ok
  obtain ⟨dx3,hR,hS,hne⟩:=R3
  have hR2:=hR
  have hWk:H3 wk=some (HO.ins a.CW dw (wf s aR aH aP aW aS aE)):=k3 _ _ hWk (by simp [Ne.symm rwk,Ne.symm aRwk])
  have hWk2:=hWk
  walk_at "wk"
  refine ⟨_,hS,fun hp hhp=>?_⟩
  have hpwk:wk≠hp:=ne_of_none hWk hhp
  have hpr:r≠hp:=ne_of_none hR hhp
  rw [cut_take]
  refine ⟨_,_,_,by rw [upd_ne hpwk]; exact hWk,T.clWork,T.n_head,by rw [wf_length]; decide,?_⟩
  rw [wf_putH]
  generalize hG:upd (upd H3 hp (HO.lst (bsV (bs.take p2)))) wk (HO.ins a.CW dw (wf s aR hp aP aW aS aE))=H4
  have k34:Kp [wk] H3 H4:=by rw [← hG]; exact (Kp.new hhp).trans (Kp.put (by simp))
  have hH4:H4 hp=some (.lst (bsV (bs.take p2))):=by rw [← hG,upd_ne (Ne.symm hpwk),upd_same]
  have hWk:H4 wk=some (HO.ins a.CW dw (wf s aR hp aP aW aS aE)):=by rw [← hG,upd_same]
  clear hG
  have hWk2:=hWk
  have hR:H4 r=some (HO.ins a.CR dx3 (rf ta (p2:Int))):=k34 _ _ hR (by simp [rwk])
  have hR2:=hR
  have k24:Kp [r,aR,wk] H2 H4:=(k3.mono (by simp)).trans (k34.mono (by simp))
  have R4:Rdr K a H4 r ta bs p2:=⟨dx3,hR,k24.seq (by simp [hne,Ne.symm aRta,tawk]) (k02.seq (by simp [hne]) hS0),hne⟩
  have aP4:H4 aP=some (.lst []):=k24 _ _ aP2 (by simp [aPr,Ne.symm RP,aPwk])
  have aW4:H4 aW=some (.lst []):=k24 _ _ aW2 (by simp [aWr,Ne.symm RW,aWwk])
  have aE4:H4 aE=some (.lst []):=k24 _ _ aE2 (by simp [aEr,Ne.symm RE,aEwk])
  walk_at "wk"
  refine ⟨r,ta,wk,dw,bs,p2,s,aR,hp,aP,aW,aS,aE,rfl,R4,hWk,aP4,aW4,PW,rwk,Ne.symm aPta,Ne.symm aWta,fun ps us vs p3 H5 e5 hps k5 hus hPu hvs hPv R5=>?_,fun p3 H5 e5 R5=>q2 p3 H5 (er (then_no e5)) R5⟩
  rw [then_ok e5] at er ok
  have hWk:H5 wk=some (HO.ins a.CW dw (wf s aR hp aP aW aS aE)):=k5 _ _ hWk (by simp [Ne.symm rwk,Ne.symm aPwk,Ne.symm aWwk])
  have hWk2:=hWk
  have aE5:H5 aE=some (.lst []):=k5 _ _ aE4 (by simp [aEr,Ne.symm PE,Ne.symm WE])
  have hlu:=Paired.length hPu
  walk_at "wk"
  refine ⟨r,ta,wk,dw,bs,p3,ps.flatten.length,s,us,aR,hp,aP,aW,aS,aE,rfl,R5,hWk,hus,hlu.symm,hps,rwk,tawk,fun sg gs p4 H6 D e6 k6 hWk6 hD0 hD hgl hg0 hSg R6=>?_,fun p4 H6 e6 R6=>q2 p4 H6 (er (then_no e6)) R6⟩
  rw [then_ok e6] at er ok
  have hWk:H6 wk=some (HO.ins a.CW dw (wf s aR hp aP aW D aE)):=hWk6
  have hWk2:=hWk
  have aE6:H6 aE=some (.lst []):=k6 _ _ aE5 (by simp [aEr,aEwk])
  have hus6:H6 aW=some (.lst us):=k6 _ _ hus (by simp [aWr,aWwk])
  walk_at "wk"
  refine ⟨r,ta,wk,dw,bs,p4,ps.flatten.length,s,us,aR,hp,aP,aW,D,aE,rfl,R6,hWk,aE6,hus6,hlu.symm,hps,Ne.symm WE,rwk,Ne.symm aEta,fun en es p5 H7 e7 k7 hes hPe R7=>?_,fun p5 H7 e7 R7=>q2 p5 H7 (er (then_no e7)) R7⟩
  rw [then_ok e7] at er ok
  obtain ⟨dx7,hR,hS,hne⟩:=R7
  have R7:Rdr K a H7 r ta bs p5:=⟨dx7,hR,hS,hne⟩
  have hR2:=hR
  walk_at "wk"
  refine ⟨rf_take_end _ _,r,ta,bs,p5,rfl,R7,fun hend=>?_,fun hend=>q2 p5 H7 (er ?_) R7⟩
  ·have fin:VhPage.end_ (⟨s,ws,ps,sg,en⟩:VhPage.Work) p5 (bs.drop p5)=.ok (⟨s,ws,ps,sg,en⟩,p5,bs.drop p5):=by
    unfold VhPage.end_ Vh.byNext
    rw [head_drop,hend]
    rfl
   walk_at "rd"
   have dom2:∀ c ∈ [r,wk,aP,aW,aE],∃ o,H2 c=some o:=fun c hc=>by
    simp at hc
    rcases hc with rfl | rfl | rfl | rfl | rfl
    ·obtain ⟨_,h,_⟩:=R2; exact ⟨_,h⟩
    ·exact ⟨_,‹H2 c=some (HO.ins a.CW dw (wf s aR aH aP aW aS aE))›⟩
    ·exact ⟨_,aP2⟩
    ·exact ⟨_,aW2⟩
    ·exact ⟨_,aE2⟩
   have dom3:∀ c ∈ [r,wk,aP,aW,aE],∃ o,H3 c=some o:=fun c hc=>by
    obtain ⟨o,ho⟩:=dom2 c hc
    by_cases z:c=r
    ·rw [z]; exact ⟨_,‹H3 r=some _›⟩
    ·exact ⟨o,k3 _ _ ho (by
      simp at hc ⊢
      refine ⟨z,?_⟩
      rcases hc with rfl | rfl | rfl | rfl | rfl
      ·exact Ne.symm aRr
      ·exact Ne.symm aRwk
      ·exact Ne.symm RP
      ·exact Ne.symm RW
      ·exact Ne.symm RE)⟩
   have dom4:∀ c ∈ [r,wk,aP,aW,aE],∃ o,H4 c=some o:=fun c hc=>by
    simp at hc
    rcases hc with rfl | rfl | rfl | rfl | rfl
    ·obtain ⟨_,h,_⟩:=R4; exact ⟨_,h⟩
    ·exact ⟨_,‹H4 c=some (HO.ins a.CW dw (wf s aR hp aP aW aS aE))›⟩
    ·exact ⟨_,aP4⟩
    ·exact ⟨_,aW4⟩
    ·exact ⟨_,aE4⟩
   have dom5:∀ c ∈ [r,wk,aP,aW,aE],∃ o,H5 c=some o:=fun c hc=>by
    simp at hc
    rcases hc with rfl | rfl | rfl | rfl | rfl
    ·obtain ⟨_,h,_⟩:=R5; exact ⟨_,h⟩
    ·exact ⟨_,‹H5 c=some (HO.ins a.CW dw (wf s aR hp aP aW aS aE))›⟩
    ·exact ⟨_,hvs⟩
    ·exact ⟨_,hus⟩
    ·exact ⟨_,aE5⟩
   have k67:Kp [r,wk,aP,aW,aE] H6 H7:=k7.mono (by simp)
   have k57:Kp [r,wk,aP,aW,aE] H5 H7:=(k6.mono (by simp)).trans k67
   have k47:Kp [r,wk,aP,aW,aE] H4 H7:=(k5.mono (by intro b hb; simp at hb ⊢; rcases hb with h | h | h <;> simp [h])).trans k57
   have k37:Kp [r,wk,aP,aW,aE] H3 H7:=(k34.mono (by simp)).trans k47
   refine q1 ⟨s,ws,ps,sg,en⟩ (bs.take p2) wk H7 (ok fin) hd0 hps (fun c o e n=>?_) ⟨dw,aR,hp,aP,aW,D,aE,rs,vs,us,gs,es,k7 _ _ hWk (by simp [Ne.symm rwk,Ne.symm aEwk]),?_,?_,?_,?_,?_,?_,?_,?_,hgl,?_,hes,?_⟩
   ·have e2:=k02 c o e n
    have n1:c≠aR:=fun z=>by rw [z,aR0] at e; cases e
    refine k37 c o (k3 c o e2 (by simp at n ⊢; exact ⟨n,n1⟩)) ?_
    simp at n ⊢
    exact ⟨n,fun z=>(by rw [z,hwk0] at e; cases e),fun z=>(by rw [z,aP0] at e; cases e),fun z=>(by rw [z,aW0] at e; cases e),fun z=>(by rw [z,aE0] at e; cases e)⟩
   ·exact k37 _ _ hrs (by simp [aRr,aRwk,RP,RW,RE])
   ·exact Paired.mapP hPr (by rintro x v ⟨t,rfl,h,h0⟩; exact ⟨t,rfl,keepF k37 dom2 h0 h⟩)
   ·exact keepF k47 dom3 hhp hH4
   ·exact k7 _ _ (k6 _ _ hvs (by simp [aPr,aPwk])) (by simp [aPr,PE])
   ·exact Paired.mapP hPv (by rintro x v ⟨t,rfl,h,h0⟩; exact ⟨t,rfl,keepF k57 dom4 h0 h⟩)
   ·exact k7 _ _ hus6 (by simp [aWr,WE])
   ·exact Paired.mapP hPu (by rintro x v ⟨t,rfl,h,h0⟩; exact ⟨t,rfl,keepF k57 dom4 h0 h⟩)
   ·exact keepF k67 dom5 hD0 hD
   ·intro j g hg
    obtain ⟨ts,h1,h2⟩:=hSg j g hg
    exact ⟨ts,keepF k67 dom5 (hg0 g (List.mem_of_getElem? hg)) h1,Paired.mapP h2 (by rintro x v ⟨⟨t,rfl,h,h0⟩,_⟩; exact ⟨t,rfl,keepF k67 dom5 h0 h⟩)⟩
   ·exact Paired.mapP hPe (by
     rintro x v ⟨t,l,us',rfl,h,_,h2,_,h3⟩
     exact ⟨t,l,us',rfl,h,h2,Paired.mapP h3 (by rintro y v ⟨b,rfl,hb,_⟩; exact ⟨b,rfl,hb⟩)⟩)
  ·unfold VhPage.end_ Vh.byNext
   rw [head_drop]
   cases e:bs[p5]? with
   | none=>exact absurd e hend
   | some c=>rfl
end
section
variable {P:Program} {w:World} {K:PySem.W.Frag} {mg:Str→Option Value} {base:Heap} {a:Ad}
theorem ixL_go {H:Hp} {p:Addr} {xs:List V} {j:Nat} {v:V} {Q:VK} (h:H p=some (.lst xs)) (e:xs[j]?=some v) (q:Q v H):rIxL K (.ref p) (.int (j:Int)) H Q:=⟨p,xs,(j:Int),v,rfl,rfl,.inl (.inl h),atI_nat e,q⟩
theorem ixT_go {H:Hp} {p:Addr} {xs:List V} (j:Nat) {v:V} {Q:VK} (h:H p=some (.tup xs)) (e:xs[j]?=some v) (q:Q v H):rIxT K (.ref p) (.int (j:Int)) H Q:=⟨p,xs,(j:Int),v,rfl,rfl,.inl (.inl h),atI_nat e,q⟩
theorem cont_int (c:Nat):∀ l:List Nat,(l.map (fun (n:Nat)=>(n:Int))).contains (c:Int)=l.contains c
 | []=>rfl
 | x :: l=>by
  rw [List.map_cons,List.contains_cons,List.contains_cons,cont_int c l]
  congr 1
  by_cases z:c=x
  ·subst z; simp
  ·rw [beq_eq_false_iff_ne.mpr z,beq_eq_false_iff_ne]; omega
theorem mark_in (c:Nat):marksI.contains (c:Int)=VhPage.isMark c:=cont_int c Vh.MARKS
theorem Paired.get2 {α β:Type} {R:α→β→Prop}:∀ {xs:List α} {ys:List β} {i:Nat} {x:α},Paired R xs ys→xs[i]?=some x→∃ y,ys[i]?=some y∧R x y
 | _,_,_,_,.nil,e=>by simp at e
 | _,_,0,_,.cons r _,e=>by simp at e; subst e; exact ⟨_,rfl,r⟩
 | _,_,i + 1,y,.cons _ t,e=>by
  obtain ⟨u,h1,h2⟩:=Paired.get2 (i:=i) (x:=y) t (by simpa using e)
  exact ⟨u,by simpa using h1,h2⟩
def RowsAt (H:Hp) (rw:Addr) (rs:List (Nat × Nat × Nat)):Prop:=∃ us,H rw=some (.lst us)∧Paired (RowI H) rs us∧RowsOk rs∧rs.length≤64
theorem RowsAt.keep {H H':Hp} {rw:Addr} {rs:List (Nat × Nat × Nat)} (h:RowsAt H rw rs) (k:Kp [] H H'):RowsAt H' rw rs:=by
 obtain ⟨us,h1,h2,h3⟩:=h
 exact ⟨us,k _ _ h1 (by simp),Paired.mono (fun x v ⟨t,e,ht⟩=>⟨t,e,k _ _ ht (by simp)⟩) h2,h3⟩
def sp_cells (K:PySem.W.Frag) (a:Ad):Sp:=fun vs H Q _=>∃ (rw:Addr) (rs:List (Nat × Nat × Nat)) (c:Nat),vs=[.ref rw,.int (c:Int)]∧RowsAt H rw rs∧Q (.int (cellsR rs c:Nat)) H
abbrev s_cells:Stmt:=top 6
theorem sc_cells:FnScope ["rows","character","low","high","middle"] ["rows","character"] (defScope s_cells):=⟨rfl,rfl,rfl,by decide +kernel,rfl,by decide +kernel,by decide +kernel⟩
theorem ok_cells {f:Addr} {fd:FuncData} (F:Fun K "cells" "cells" s_cells f fd) (T:Txt K mg a):FnOk P w K mg base CX0 1 f fd ["rows","character"] (sp_cells K a):=by
 refine F.ok sc_cells (fun vs H Q E h=>?_) (fun cdv A outer s H vs Q E hr h=>?_)
 ·obtain ⟨rw,rs,c,rfl,⟨us,hrw,hP,ok,hn⟩,q⟩:=h
  rfl
 ·obtain ⟨rw,rs,c,rfl,⟨us,hrw,hP,ok,hn⟩,q⟩:=h
  have nd:=sc_cells.nd
  refine ⟨_,(pss_cons (ps_set (i:=2) nd rfl (Or.inl rfl) pe_int) (pss_cons (ps_set (i:=3) nd rfl (Or.inl rfl) (pe_callB call_len_seq rfl T.len PySem.boot_len (pa_cons (pv 0) pa_nil))) (pss_cons (ps_while PassesOwn.never (pt_cmpR op_lt (pv 2) (pv 3) (nomark _)) (pss_cons (ps_set (i:=4) nd rfl (Or.inl rfl) (pe_op op_fdiv (pe_op op_add (pv 2) (pv 3)) pe_int)) (pss_one (ps_if (pt_cmpR op_lt (pe_ix ix_tup (pe_ix ix_list (pv 0) (pv 4) (fun _ _=>rfl)) pe_int (fun _ _=>rfl)) (pv 1) (nomark _)) (pss_one (ps_set (i:=2) nd rfl (Or.inl rfl) (pe_op op_add (pv 4) pe_int))) (pss_one (ps_set (i:=3) nd rfl (Or.inl rfl) (pv 4))))))) (pss_cons (ps_if (PW.pt (pw_and (pt_cmpR op_lt (pv 2) (pe_callB call_len_seq rfl T.len PySem.boot_len (pa_cons (pv 0) pa_nil)) (nomark _)) (pw_and (pt_cmpR op_le (pe_ix ix_tup (pe_ix ix_list (pv 0) (pv 2) (fun _ _=>rfl)) pe_int (fun _ _=>rfl)) (pv 1) (nomark _)) (pw_and1 (pt_cmpR op_notIn_seq (pv 1) (pe_gref T.cMARKS) (by with_unfolding_all rfl)))))) (pss_one (ps_ret (pe_ix ix_tup (pe_ix ix_list (pv 0) (pv 2) (fun _ _=>rfl)) pe_int (fun _ _=>rfl)))) pss_nil) (pss_one (ps_ret pe_int)))))),?_⟩
  have hlu:=Paired.length hP
  walk_at "rd"
  refine ⟨_,.inl (.inl (.inl hrw)),?_⟩
  obtain ⟨W,hW⟩:∃ W:WT,W=fun m σ H'=>H'=H∧∃ (lo hi:Nat) (o:Option V),σ=[some (.ref rw),some (.int (c:Int)),some (.int (lo:Int)),some (.int (hi:Int)),o]∧m=hi - lo∧hi≤rs.length∧lo≤hi∧(∀ i x,rs[i]?=some x→i < lo→x.2.1 < c)∧(∀ i x,rs[i]?=some x→hi≤i→c≤x.2.1):=⟨_,rfl⟩
  refine ⟨W,⟨_,by rw [hW]; exact ⟨rfl,0,us.length,none,by simp,rfl,by omega,Nat.zero_le _,fun i x _ z=>absurd z (Nat.not_lt_zero i),fun i x hx z=>by rw [List.getElem?_eq_some_iff] at hx; obtain ⟨h,_⟩:=hx; omega⟩⟩,fun m σ H2 hw=>?_⟩
  rw [hW] at hw
  obtain ⟨rfl,lo,hi,o,rfl,rfl,hhi,hle,b1,b2⟩:=hw
  walk_at "rd"
  split
  ·rename_i h
   refine ⟨fun σ' H'=>∃ m',m' < hi - lo∧W m' σ' H',fun _ _ z=>z,⟨by omega,by omega⟩,?_⟩
   have em:((lo:Int) + (hi:Int)) / 2=(((lo + hi) / 2:Nat):Int):=by omega
   rw [em]
   generalize hm:(lo + hi) / 2=m
   have hm1:lo≤m:=by omega
   have hm2:m < hi:=by omega
   obtain ⟨x,hx⟩:∃ x,rs[m]?=some x:=⟨rs[m]'(by omega),List.getElem?_eq_getElem (by omega)⟩
   obtain ⟨y,hy,t,rfl,ht⟩:=Paired.get2 hP hx
   refine ixL_go hrw hy (ixT_go 1 ht rfl ⟨_,rfl,?_⟩)
   split
   ·rename_i h1
    refine ⟨hi - (m + 1),by omega,?_⟩
    rw [hW]
    refine ⟨rfl,m + 1,hi,_,rfl,rfl,hhi,by omega,fun i y hy l=>?_,b2⟩
    have:=hi_mono ok hy hx (by omega)
    omega
   ·rename_i h1
    refine ⟨m - lo,by omega,?_⟩
    rw [hW]
    refine ⟨rfl,lo,m,_,rfl,rfl,by omega,by omega,b1,fun i y hy l=>?_⟩
    have:=hi_mono ok hx hy l
    omega
  ·rename_i h
   have e:lo=hi:=by omega
   subst e
   rw [cells_low ok b1 b2] at q
   refine ⟨_,.inl (.inl (.inl hrw)),?_⟩
   split
   ·rename_i h1
    obtain ⟨x,hx⟩:∃ x,rs[lo]?=some x:=⟨rs[lo]'(by omega),List.getElem?_eq_getElem (by omega)⟩
    obtain ⟨y,hy,t,rfl,ht⟩:=Paired.get2 hP hx
    rw [hx] at q
    refine ixL_go hrw hy (ixT_go 0 ht rfl ⟨_,rfl,?_⟩)
    split
    ·rename_i h2
     refine ⟨_,.inr (T.tMARKS _),rfl,flat_ints marksI,?_⟩
     rw [inV_ints,mark_in]
     have h3:x.1≤c:=by omega
     simp only [h3,if_true] at q
     split
     ·rename_i h4
      rw [if_neg (by rw [h4]; decide)] at q
      exact ixL_go hrw hy (ixT_go 2 ht rfl q)
     ·rename_i h4
      rw [if_pos (by simpa using h4)] at q
      exact q
    ·rename_i h2
     have h3:¬ x.1≤c:=by omega
     simp only [h3,if_false,ite_self] at q
     exact q
   ·rename_i h1
    rw [List.getElem?_eq_none (by omega)] at q
    simp only [ite_self] at q
    exact q
def sp_cells_of_thing (K:PySem.W.Frag) (a:Ad):Sp:=fun vs H Q _=>∃ (rw th:Addr) (rs:List (Nat × Nat × Nat)) (l:List Nat),vs=[.ref rw,.ref th]∧RowsAt H rw rs∧H th=some (.lst (lV l))∧l.length≤1048576∧∀ H',Kp [] H H'→Q (.int (takesR rs l:Nat)) H'
abbrev s_cells_of_thing:Stmt:=top 7
theorem sc_cells_of_thing:FnScope ["rows","thing","character"] ["rows","thing"] (defScope s_cells_of_thing):=⟨rfl,rfl,rfl,by decide +kernel,rfl,by decide +kernel,by decide +kernel⟩
theorem bk_cells_of_thing_0:BlkOk ["rows","thing","character"] (defScope s_cells_of_thing) (lcSc (exArg (stVal (stI (defBody s_cells_of_thing) 0)) 0)) [("character",2)]:=⟨rfl,by decide +kernel,by decide +kernel,by decide +kernel,by decide +kernel⟩
theorem ok_cells_of_thing {f:Addr} {fd:FuncData} (F:Fun K "cells_of_thing" "cells_of_thing" s_cells_of_thing f fd) (T:Txt K mg a) (c_cells:FnC P w K mg base CX0 1 "cells" ["rows","character"] (sp_cells K a)):FnOk P w K mg base CX0 2 f fd ["rows","thing"] (sp_cells_of_thing K a):=by
 refine F.ok sc_cells_of_thing (fun vs H Q E h=>?_) (fun cdv A outer s H vs Q E hr h=>?_)
 ·obtain ⟨rw,th,rs,l,rfl,R,hth,hl,q⟩:=h
  rfl
 ·obtain ⟨rw,th,rs,l,rfl,R,hth,hl,q⟩:=h
  have nd:=sc_cells_of_thing.nd
  refine ⟨_,(pss_one (ps_ret (pe_callB (cr_sum rfl) rfl T.sum boot_sum (pa_cons (pe_lc rfl nd (pi_list (pv 1)) bk_cells_of_thing_0 (fun _ _ _ _ _=>(pg_name (i:=2) nd rfl (Or.inl rfl))) (fun _ _ _ _ _=>pts_nil) (fun _ _ _ _ _=>(pe_callC c_cells hr pass0 (pa_cons (pv 0) (pa_cons (pv 2) pa_nil))))) pa_nil)))),?_⟩
  have e0:takesR rs (l.take 0)=0:=rfl
  refine ⟨_,rfl,th,rfl,⟨_,.inl (.inl hth)⟩,fun D hD=>?_⟩
  have nD:th≠D:=ne_of_none hth hD
  obtain ⟨Pv,hPv⟩:∃ Pv:Nat→Hp→Prop,Pv=fun i H'=>Kp [] H H'∧H' D=some (.lst (lV ((l.map (cellsR rs)).take i))):=⟨_,rfl⟩
  have hlv:(lV l).length=l.length:=List.length_map _
  refine lc_list (xs:=lV l) Pv ?_ ?_ ?_ ?_
  ·rw [hPv]
   exact ⟨Kp.new hD,upd_same⟩
  ·intro i H' _ hw
   rw [hPv] at hw
   exact .inl (.inl (hw.1 _ _ hth (by simp)))
  ·intro i x H2 hi hw
   rw [hPv] at hw
   obtain ⟨k,hD2⟩:=hw
   obtain ⟨n,hn,rfl⟩:∃ n,l[i]?=some n∧V.int (n:Int)=x:=by
    unfold lV at hi
    rw [List.getElem?_map] at hi
    cases h:l[i]? with
    | none=>rw [h] at hi; cases hi
    | some n=>rw [h] at hi; exact ⟨n,rfl,by simpa using hi⟩
   refine ⟨rfl,?_⟩
   simp only [tYes]
   walk_at "rd"
   refine ⟨_,rfl,_,rfl,rw,rs,n,rfl,R.keep k,?_⟩
   have hil:=(List.getElem?_eq_some_iff.mp hn).1
   refine ⟨_,hD2,by unfold lV; rw [List.length_map,List.length_take]; exact Nat.lt_of_le_of_lt (Nat.min_le_left _ _) (Nat.lt_of_lt_of_le (Nat.lt_of_lt_of_le hil hl) (by decide)),?_⟩
   rw [hPv]
   refine ⟨k.put2 (.inr hD),?_⟩
   rw [upd_same]
   have:(l.map (cellsR rs)).take (i + 1)=(l.map (cellsR rs)).take i ++ [cellsR rs n]:=take_snoc' (by rw [List.getElem?_map,hn]; rfl)
   rw [this]
   unfold lV
   rw [List.map_append]; rfl
  ·intro H2 hw
   rw [hPv] at hw
   obtain ⟨k,hD2⟩:=hw
   rw [hlv,List.take_of_length_le (by simp)] at hD2
   have e:∀ x:List Nat,((x.map fun n:Nat=>(n:Int)).sum)=(x.sum:Nat):=fun x=>by
    induction x with
    | nil=>rfl
    | cons y x ih=>rw [List.map_cons,List.sum_cons,List.sum_cons,ih]; simp
   refine ⟨D,(l.map (cellsR rs)).map (fun (n:Nat)=>(n:Int)),rfl,.inl (.inl ?_),?_⟩
   ·rw [hD2]; unfold lV; rw [List.map_map,List.map_map,List.map_map]; rfl
   ·rw [e]; exact q H2 k
end
section
variable {P:Program} {w:World} {K:PySem.W.Frag} {mg:Str→Option Value} {base:Heap} {a:Ad}
theorem lc_str {x:Str} {g:TG} {tt:TT} {te:TE} {vs:List Nat} {σ:L2.St} {H1:Hp} {D:Addr} {Qd:Hp→Prop} (Pv:Nat→Hp→Prop) (h0:Pv 0 (upd H1 D (.lst [])))
  (hs:∀ i c H,x.cps[i]?=some c→Pv i H→g (.str ⟨#[c]⟩) (wipe σ vs) H fun σ2 H2=>wipe σ2 vs=wipe σ vs∧tt σ2 H2 fun b H3 =>
   if b=true then te σ2 H3 fun y H4=>∃ acc,H4 D=some (.lst acc)∧acc.length < sizeLine∧Pv (i + 1) (upd H4 D (.lst (acc ++ [y]))) else Pv (i + 1) H3) (hd:∀ H,Pv x.cps.size H→Qd H) :
  ∃ W:Nat→Nat→Hp→Prop,(∃ m,W 0 m (upd H1 D (.lst [])))∧∀ i m H,W i m H →
   ((Its x).stop i H∧Qd H)∨((Its x).go i H∧∃ Nx:Hp→Prop,(∀ H',Nx H'→∃ m',m' < m∧W (i + 1) m' H')∧∀ v H',(Its x).yld i H v H'→g v (wipe σ vs) H' fun σ2 H2=>wipe σ2 vs=wipe σ vs∧tt σ2 H2 fun b H3 =>
    if b=true then te σ2 H3 fun y H4=>∃ acc,H4 D=some (.lst acc)∧acc.length < sizeLine∧Nx (upd H4 D (.lst (acc ++ [y]))) else Nx H3):=by
 refine ⟨fun i m H=>m=x.cps.size - i∧i≤x.cps.size∧Pv i H,⟨x.cps.size,by simp,Nat.zero_le _,h0⟩,?_⟩
 rintro i m H ⟨rfl,hi,p⟩
 by_cases hlt:i < x.cps.size
 ·refine .inr ⟨hlt,Pv (i + 1),fun H' p'=>⟨x.cps.size - (i + 1),by omega,rfl,hlt,p'⟩,?_⟩
  rintro v H' ⟨e,c,hc,rfl⟩
  subst e
  exact hs i c _ hc p
 ·have e:i=x.cps.size:=by omega
  subst e
  exact .inl ⟨Nat.le_refl _,hd H p⟩
def sp_characters_of (K:PySem.W.Frag) (a:Ad):Sp:=fun vs H Q _=>∃ (x:Str),vs=[.str x]∧x.cps.size≤1048576∧∀ H' p,H p=none→Kp [] H H'→H' p=some (.lst (lV x.cps.toList))→Q (.ref p) H'
abbrev s_characters_of:Stmt:=top 8
theorem sc_characters_of:FnScope ["text","sign"] ["text"] (defScope s_characters_of):=⟨rfl,rfl,rfl,by decide +kernel,rfl,by decide +kernel,by decide +kernel⟩
theorem bk_characters_of_0:BlkOk ["text","sign"] (defScope s_characters_of) (lcSc (stVal (stI (defBody s_characters_of) 0))) [("sign",1)]:=⟨rfl,by decide +kernel,by decide +kernel,by decide +kernel,by decide +kernel⟩
theorem ok_characters_of {f:Addr} {fd:FuncData} (F:Fun K "characters_of" "characters_of" s_characters_of f fd) (T:Txt K mg a):FnOk P w K mg base CX0 1 f fd ["text"] (sp_characters_of K a):=by
 refine F.ok sc_characters_of (fun vs H Q E h=>?_) (fun cdv A outer s H vs Q E hr h=>?_)
 ·obtain ⟨x,rfl,hx,q⟩:=h
  rfl
 ·obtain ⟨x,rfl,hx,q⟩:=h
  have nd:=sc_characters_of.nd
  refine ⟨_,(pss_one (ps_ret (pe_lc rfl nd (pi_str (pv 0)) bk_characters_of_0 (fun _ _ _ _ _=>(pg_name (i:=1) nd rfl (Or.inl rfl))) (fun _ _ _ _ _=>pts_nil) (fun _ _ _ _ _=>(pe_callB call_ord rfl T.ord boot_ord (pa_cons (pv 1) pa_nil)))))),?_⟩
  refine ⟨_,rfl,x,rfl,fun D hD=>?_⟩
  obtain ⟨Pv,hPv⟩:∃ Pv:Nat→Hp→Prop,Pv=fun i H'=>Kp [] H H'∧H' D=some (.lst (lV (x.cps.toList.take i))):=⟨_,rfl⟩
  refine lc_str Pv ?_ ?_ ?_
  ·rw [hPv]
   exact ⟨Kp.new hD,upd_same⟩
  ·intro i c H2 hi hw
   rw [hPv] at hw
   obtain ⟨k,hD2⟩:=hw
   refine ⟨rfl,?_⟩
   simp only [tYes]
   walk_at "rd"
   refine ⟨_,rfl,_,rfl,rfl,_,hD2,?_,?_⟩
   ·unfold lV; rw [List.length_map,List.length_take,Array.length_toList]
    exact Nat.lt_of_le_of_lt (Nat.le_trans (Nat.min_le_right _ _) hx) (by decide)
   ·rw [hPv]
    refine ⟨k.put2 (.inr hD),?_⟩
    rw [upd_same,take_snoc' (x:=c) (by rw [Array.getElem?_toList]; exact hi)]
    unfold lV
    rw [List.map_append]; rfl
  ·intro H2 hw
   rw [hPv] at hw
   obtain ⟨k,hD2⟩:=hw
   rw [List.take_of_length_le (by simp)] at hD2
   exact q H2 D hD k hD2
theorem lV_get {l:List Nat} {i:Nat} {x:V} (hi:(lV l)[i]?=some x):∃ n:Nat,l[i]?=some n∧V.int (n:Int)=x:=by
 unfold lV at hi
 rw [List.getElem?_map] at hi
 cases h:l[i]? with
 | none=>rw [h] at hi; cases hi
 | some n=>rw [h] at hi; exact ⟨n,rfl,by simpa using hi⟩
end
section
variable {P:Program} {w:World} {K:PySem.W.Frag} {mg:Str→Option Value} {base:Heap} {a:Ad}
def sp_line_cost (K:PySem.W.Frag) (a:Ad):Sp:=fun vs H Q _=>∃ (t r:Nat) (b:Bool),vs=[.int (t:Int),.int (r:Int),.bl b]∧r≤1000000∧Q (.int (VhPage.lineCost r t b:Nat)) H
abbrev s_line_cost:Stmt:=top 11
theorem sc_line_cost:FnScope ["taken","room","is_last"] ["taken","room","is_last"] (defScope s_line_cost):=⟨rfl,rfl,rfl,by decide +kernel,rfl,by decide +kernel,by decide +kernel⟩
theorem ok_line_cost {f:Addr} {fd:FuncData} (F:Fun K "line_cost" "line_cost" s_line_cost f fd) (T:Txt K mg a):FnOk P w K mg base CX0 1 f fd ["taken","room","is_last"] (sp_line_cost K a):=by
 refine F.ok sc_line_cost (fun vs H Q E h=>?_) (fun cdv A outer s H vs Q E hr h=>?_)
 ·obtain ⟨t,r,b,rfl,hr0,q⟩:=h
  rfl
 ·obtain ⟨t,r,b,rfl,hr0,q⟩:=h
  have nd:=sc_line_cost.nd
  refine ⟨_,(pss_cons (ps_if (PW.pt (pw_or (pt_truth (pv 2) (fun _=>rfl)) (pw_or1 (pt_cmpR op_gt (pv 0) (pv 1) (nomark _))))) (pss_one (ps_ret pe_int)) pss_nil) (pss_one (ps_ret (pe_op op_pow (pe_op op_sub (pv 1) (pv 0)) pe_int)))),?_⟩
  unfold VhPage.lineCost at q
  walk_at "rd"
  refine ⟨b,rfl,?_⟩
  cases b
  ·rw [if_neg (by decide)]
   split
   ·rename_i h
    rw [if_pos (.inr (by omega))] at q
    exact q
   ·rename_i h
    rw [if_neg (by simp; omega)] at q
    refine ⟨⟨by decide,by decide,by omega⟩,?_⟩
    have e:((r:Int) - (t:Int)) ^ Int.toNat 2=(((r - t) ^ 2:Nat):Int):=by
     have e1:((r:Int) - (t:Int))=((r - t:Nat):Int):=by omega
     rw [e1,Int.natCast_pow]; rfl
    rw [e]; exact q
  ·rw [if_pos rfl]
   rw [if_pos (.inl rfl)] at q
   exact q
def endAt (r:Nat) (xs:List Nat) (e:Nat):Nat:=if e < xs.length then e + (bst r xs (tab r xs) e).2 else xs.length
def tailV (r:Nat) (xs:List Nat) (e:Nat):List V:=[.int (costAt r xs e:Nat),.int (endAt r xs e:Nat),.int (linesAt r xs e:Nat)]
def TailI (H:Hp) (r:Nat) (xs:List Nat) (e:Nat) (v:V):Prop:=∃ t,v=.ref t∧H t=some (.tup (tailV r xs e))
def sp_best_from (K:PySem.W.Frag) (a:Ad):Sp:=fun vs H Q _=>∃ (tk tl:Addr) (us:List V) (xs:List Nat) (start room r:Nat),vs=[.ref tk,.ref tl,.int (start:Int),.int (room:Int)]∧H tk=some (.lst (lV xs))∧H tl=some (.lst us)∧start < xs.length∧room≤1000000 ∧
 (∀ e,start < e→e≤xs.length→∃ v,us[e]?=some v∧TailI H r xs e v) ∧
 ∀ p,H p=none→Q (.ref p) (upd H p (.tup [.int ((bst room xs (tab r xs) start).1:Nat),.int (start + (bst room xs (tab r xs) start).2:Nat),.int (1 + linesAt r xs (start + (bst room xs (tab r xs) start).2):Nat)]))
abbrev s_best_from:Stmt:=top 12
theorem sc_best_from:FnScope ["takes","tails","start","room","end","taken","best_end","least","total"] ["takes","tails","start","room"] (defScope s_best_from):=⟨rfl,rfl,rfl,by decide +kernel,rfl,by decide +kernel,by decide +kernel⟩
theorem ok_best_from {f:Addr} {fd:FuncData} (F:Fun K "best_from" "best_from" s_best_from f fd) (T:Txt K mg a) (c_line_cost:FnC P w K mg base CX0 1 "line_cost" ["taken","room","is_last"] (sp_line_cost K a)):FnOk P w K mg base CX0 2 f fd ["takes","tails","start","room"] (sp_best_from K a):=by
 refine F.ok sc_best_from (fun vs H Q E h=>?_) (fun cdv A outer s H vs Q E hr h=>?_)
 ·obtain ⟨tk,tl,us,xs,start,room,r,rfl,htk,htl,hs,hroom,hT,q⟩:=h
  rfl
 ·obtain ⟨tk,tl,us,xs,start,room,r,rfl,htk,htl,hs,hroom,hT,q⟩:=h
  have nd:=sc_best_from.nd
  refine ⟨_,(pss_cons (ps_set (i:=4) nd rfl (Or.inl rfl) (pe_op op_add (pv 2) pe_int)) (pss_cons (ps_set (i:=5) nd rfl (Or.inl rfl) (pe_ix ix_list (pv 0) (pv 2) (fun _ _=>rfl))) (pss_cons (ps_set (i:=6) nd rfl (Or.inl rfl) (pv 4)) (pss_cons (ps_set (i:=7) nd rfl (Or.inl rfl) (pe_op op_add (pe_callC c_line_cost hr pass0 (pa_cons (pv 5) (pa_cons (pv 3) (pa_cons (pe_cmpR op_eq (pv 4) (pe_callB call_len_seq rfl T.len PySem.boot_len (pa_cons (pv 0) pa_nil)) (nomark _)) pa_nil)))) (pe_ix ix_tup (pe_ix ix_list (pv 1) (pv 4) (fun _ _=>rfl)) pe_int (fun _ _=>rfl)))) (pss_cons (ps_while PassesOwn.never (pt_cmpR op_lt (pv 4) (pe_callB call_len_seq rfl T.len PySem.boot_len (pa_cons (pv 0) pa_nil)) (nomark _)) (pss_cons (ps_aug (i:=5) nd rfl (Or.inl rfl) (pe_op op_add pe_int (pe_ix ix_list (pv 0) (pv 4) (fun _ _=>rfl))) ip_add) (pss_cons (ps_aug (i:=4) nd rfl (Or.inl rfl) pe_int ip_add) (pss_cons (ps_if (pt_cmpR op_gt (pv 5) (pv 3) (nomark _)) (pss_one ps_break) pss_nil) (pss_cons (ps_set (i:=8) nd rfl (Or.inl rfl) (pe_op op_add (pe_callC c_line_cost hr pass0 (pa_cons (pv 5) (pa_cons (pv 3) (pa_cons (pe_cmpR op_eq (pv 4) (pe_callB call_len_seq rfl T.len PySem.boot_len (pa_cons (pv 0) pa_nil)) (nomark _)) pa_nil)))) (pe_ix ix_tup (pe_ix ix_list (pv 1) (pv 4) (fun _ _=>rfl)) pe_int (fun _ _=>rfl)))) (pss_one (ps_if (pt_cmpR op_le (pv 8) (pv 7) (nomark _)) (pss_cons (ps_set (i:=7) nd rfl (Or.inl rfl) (pv 8)) (pss_one (ps_set (i:=6) nd rfl (Or.inl rfl) (pv 4)))) pss_nil))))))) (pss_one (ps_ret (pe_tup (pa_cons (pv 7) (pa_cons (pv 6) (pa_cons (pe_op op_add pe_int (pe_ix ix_tup (pe_ix ix_list (pv 1) (pv 6) (fun _ _=>rfl)) pe_int (fun _ _=>rfl))) pa_nil))))))))))),?_⟩
  obtain ⟨x,hx⟩:∃ x,xs[start]?=some x:=⟨xs[start],List.getElem?_eq_getElem hs⟩
  have hlv:∀ {e y:Nat},xs[e]?=some y→(lV xs)[e]?=some (V.int (y:Int)):=fun h=>by unfold lV; rw [List.getElem?_map,h]; rfl
  walk_at "rd"
  refine ixL_go htk (hlv hx) ⟨_,.inl (.inl (.inl htk)),x,room,decide (start + 1=xs.length),?_,hroom,?_⟩
  ·rw [lV_len]
   have:decide ((start:Int) + 1=(xs.length:Int))=decide (start + 1=xs.length):=decide_eq_decide.mpr (by omega)
   rw [this]
  obtain ⟨v1,hv1,t1,rfl,ht1⟩:=hT (start + 1) (by omega) (by omega)
  have es:(start:Int) + 1=((start + 1:Nat):Int):=rfl
  rw [es]
  refine ixL_go htl hv1 (ixT_go 0 ht1 rfl ⟨_,rfl,_,rfl,?_⟩)
  obtain ⟨W,hW⟩:∃ W:WT,W=fun m σ H'=>H'=H∧∃ (e taken be least:Nat) (o:Option V),σ=[some (.ref tk),some (.ref tl),some (.int (start:Int)),some (.int (room:Int)),some (.int (e:Int)),some (.int (taken:Int)),some (.int ((start + be:Nat):Int)),some (.int (least:Int)),o]∧m=xs.length - e∧start < e∧e≤xs.length∧1≤be∧start + be≤xs.length ∧
   bst room xs (tab r xs) start=VhPage.bestLine room (e - start) taken (xs.drop e) ((tab r xs).drop e) (least,be):=⟨_,rfl⟩
  refine ⟨W,⟨_,by rw [hW]; exact ⟨rfl,start + 1,x,1,VhPage.lineCost room x (decide (start + 1=xs.length)) + costAt r xs (start + 1),none,rfl,rfl,by omega,by omega,by omega,by omega,by rw [best_first room xs r start hx,Nat.add_sub_cancel_left]⟩⟩,fun m σ H2 hw=>?_⟩
  rw [hW] at hw
  obtain ⟨rfl,e,taken,be,least,o,rfl,rfl,he1,he2,hb1,hb2,hB⟩:=hw
  have fin:∀ b:Nat × Nat,bst room xs (tab r xs) start=b→b.2=be→b.1=least→rIxL K (V.ref tl) (V.int ((start + be:Nat):Int)) H2 fun x H1=>rIxT K x (V.int 2) H1 fun y H2=>∃ j,y=V.int j∧(3≤sizeLine∧∀ p,H2 p=none→Q (V.ref p) (upd H2 p (HO.tup [V.int (least:Int),V.int ((start + be:Nat):Int),V.int (1 + j)]))):=fun b hb h2 h1=>by
   obtain ⟨v2,hv2,t2,rfl,ht2⟩:=hT (start + be) (by omega) (by omega)
   refine ixL_go htl hv2 (ixT_go 2 ht2 rfl ⟨_,rfl,by decide,fun p hp=>?_⟩)
   have:=q p hp
   rw [hb,h2,h1] at this
   exact this
  walk_at "rd"
  refine ⟨_,.inl (.inl (.inl htk)),?_⟩
  rw [lV_len]
  split
  ·rename_i h
   have he:e < xs.length:=by omega
   obtain ⟨y,hy⟩:∃ y,xs[e]?=some y:=⟨xs[e],List.getElem?_eq_getElem he⟩
   rw [best_step room xs r start e taken _ he1 hy] at hB
   refine ⟨fun σ' H'=>∃ m',m' < xs.length - e∧W m' σ' H',fun _ _ z=>z,?_⟩
   refine ixL_go htk (hlv hy) ⟨_,rfl,?_⟩
   split
   ·rename_i h1
    rw [if_pos (by omega)] at hB
    simp only [tBreak]
    walk_at "rd"
    exact fin _ hB rfl rfl
   ·rename_i h1
    rw [if_neg (by omega)] at hB
    refine ⟨_,.inl (.inl (.inl htk)),taken + 1 + y,room,decide (e + 1=xs.length),?_,hroom,?_⟩
    ·rw [lV_len]
     have:decide ((e:Int) + 1=(xs.length:Int))=decide (e + 1=xs.length):=decide_eq_decide.mpr (by omega)
     rw [this]
     have:(taken:Int) + (1 + (y:Int))=((taken + 1 + y:Nat):Int):=by omega
     rw [this]
    obtain ⟨v2,hv2,t2,rfl,ht2⟩:=hT (e + 1) (by omega) (by omega)
    have ee:(e:Int) + 1=((e + 1:Nat):Int):=rfl
    have et:(taken:Int) + (1 + (y:Int))=((taken + 1 + y:Nat):Int):=by omega
    rw [ee,et]
    refine ixL_go htl hv2 (ixT_go 0 ht2 rfl ⟨_,rfl,_,rfl,?_⟩)
    have ec:((VhPage.lineCost room (taken + 1 + y) (decide (e + 1=xs.length)):Nat):Int) + ((costAt r xs (e + 1):Nat):Int)=((VhPage.lineCost room (taken + 1 + y) (decide (e + 1=xs.length)) + costAt r xs (e + 1):Nat):Int):=by omega
    rw [ec]
    generalize VhPage.lineCost room (taken + 1 + y) (decide (e + 1=xs.length)) + costAt r xs (e + 1)=tot at *
    split
    ·rename_i h2
     rw [if_pos (by simp only []; omega)] at hB
     refine ⟨xs.length - (e + 1),by omega,?_⟩
     rw [hW]
     have eb:start + (e + 1 - start)=e + 1:=by omega
     exact ⟨rfl,e + 1,taken + 1 + y,e + 1 - start,tot,_,by rw [eb],rfl,by omega,by omega,by omega,by omega,hB⟩
    ·rename_i h2
     rw [if_neg (by simp only []; omega)] at hB
     refine ⟨xs.length - (e + 1),by omega,?_⟩
     rw [hW]
     exact ⟨rfl,e + 1,taken + 1 + y,be,least,_,rfl,rfl,by omega,by omega,by omega,by omega,hB⟩
  ·rename_i h
   have he:e=xs.length:=by omega
   subst he
   rw [List.drop_eq_nil_of_le (Nat.le_refl _)] at hB
   exact fin _ hB rfl rfl
end
section
variable {P:Program} {w:World} {K:PySem.W.Frag} {mg:Str→Option Value} {base:Heap} {a:Ad}
theorem k_call_len_seq {X:Cx} {K:PySem.W.Frag} (h:X.K=K):CallR X (.builtin "len") (fun xs H Q=>∃ p ys,xs=[.ref p]∧(SqL K H p ys∨SqT K H p ys)∧Q (.int ys.length) H):=by subst h; exact call_len_seq
theorem k_ix_list {X:Cx} {K:PySem.W.Frag} (h:X.K=K):IxR X (rIxL K):=by subst h; exact ix_list
def TailsAt (H:Hp) (tl:Addr) (r:Nat) (xs:List Nat):Prop:=∃ us,H tl=some (.lst us)∧us.length=xs.length + 1∧∀ e,1≤e→e≤xs.length→∃ v,us[e]?=some v∧TailI H r xs e v
def sp_tails_of (K:PySem.W.Frag) (a:Ad):Sp:=fun vs H Q _=>∃ (tk:Addr) (xs:List Nat) (room:Nat),vs=[.ref tk,.int (room:Int)]∧H tk=some (.lst (lV xs))∧0 < xs.length∧xs.length≤1048576∧room≤1000000 ∧
 ∀ H' p,H p=none→Kp [] H H'→TailsAt H' p room xs→Q (.ref p) H'
abbrev s_tails_of:Stmt:=top 13
theorem sc_tails_of:FnScope ["takes","room","tails","k","start"] ["takes","room"] (defScope s_tails_of):=⟨rfl,rfl,rfl,by decide +kernel,rfl,by decide +kernel,by decide +kernel⟩
theorem bk_tails_of_0:BlkOk ["takes","room","tails","k","start"] (defScope s_tails_of) (lcSc (stVal (stI (defBody s_tails_of) 0))) [("k",3)]:=⟨rfl,by decide +kernel,by decide +kernel,by decide +kernel,by decide +kernel⟩
theorem ok_tails_of {f:Addr} {fd:FuncData} (F:Fun K "tails_of" "tails_of" s_tails_of f fd) (T:Txt K mg a) (c_best_from:FnC P w K mg base CX0 2 "best_from" ["takes","tails","start","room"] (sp_best_from K a)):FnOk P w K mg base CX0 3 f fd ["takes","room"] (sp_tails_of K a):=by
 refine F.ok sc_tails_of (fun vs H Q E h=>?_) (fun cdv A outer s H vs Q E hr h=>?_)
 ·obtain ⟨tk,xs,room,rfl,htk,hn0,hn,hroom,q⟩:=h
  rfl
 ·obtain ⟨tk,xs,room,rfl,htk,hn0,hn,hroom,q⟩:=h
  have nd:=sc_tails_of.nd
  refine ⟨_,(pss_cons (ps_setLc (i:=2) rfl nd rfl rfl (sw_true rfl rfl rfl rfl) (pi_range1 rfl T.range (pa_cons (pe_op op_add (pe_callB call_len_seq rfl T.len PySem.boot_len (pa_cons (pv 0) pa_nil)) pe_int) pa_nil)) bk_tails_of_0 (fun _ _ _ _ _=>(pg_name (i:=3) nd rfl (Or.inl rfl))) (fun _ _ _ _ _=>pts_nil) (fun _ _ _ _ _=>(pe_tup (pa_cons pe_int (pa_cons (pe_callB (k_call_len_seq (K:=K) rfl) rfl T.len PySem.boot_len (pa_cons (pv 0) pa_nil)) (pa_cons pe_int pa_nil)))))) (pss_cons (ps_for PassesOwn.never rfl (pi_range3 rfl T.range (pa_cons (pe_op op_sub (pe_callB call_len_seq rfl T.len PySem.boot_len (pa_cons (pv 0) pa_nil)) pe_int) (pa_cons pe_int (pa_cons (pe_un un_neg pe_int) pa_nil)))) (pg_name (i:=4) nd rfl (Or.inl rfl)) (pss_one (ps_asg (pe_callC c_best_from hr pass0 (pa_cons (pv 0) (pa_cons (pv 2) (pa_cons (pv 4) (pa_cons (pv 1) pa_nil))))) (pg_sub (pv 2) (pv 4) set_list)))) (pss_one (ps_ret (pv 2))))),?_⟩
  have hlen:(lV xs).length=xs.length:=lV_len xs
  refine ⟨_,rfl,tk,_,rfl,.inl (.inl (.inl htk)),_,_,rfl,rfl,_,rfl,by rw [hlen]; omega,by rw [hlen]; omega,fun D hD=>?_⟩
  have nD:tk≠D:=ne_of_none htk hD
  have ej:Int.toNat (((lV xs).length:Nat) + 1:Int)=xs.length + 1:=by rw [hlen]; omega
  rw [ej]
  have t0:([.int (0:Int),.int (xs.length:Int),.int (0:Int)]:List V)=tailV room xs xs.length:=by
   unfold tailV costAt endAt linesAt
   simp only [Nat.lt_irrefl,if_false]; rfl
  obtain ⟨Pv,hPv⟩:∃ Pv:Nat→Hp→Prop,Pv=fun i H'=>Kp [] H H'∧∃ us,us.length=i∧H' D=some (.lst us)∧∀ v ∈ us,TailI H' room xs xs.length v:=⟨_,rfl⟩
  refine lc_range Pv ?_ ?_ ?_
  ·rw [hPv]
   exact ⟨Kp.new hD,[],rfl,upd_same,fun v hv=>by simp at hv⟩
  ·intro i H2 hi hw
   rw [hPv] at hw
   obtain ⟨k,us,hul,hD2,hus⟩:=hw
   refine ⟨rfl,?_⟩
   simp only [tYes]
   walk_at "rd"
   refine ⟨_,rfl,_,rfl,_,.inl (.inl (.inl (k _ _ htk (by simp)))),by decide,fun t ht=>?_⟩
   have nDt:D≠t:=ne_of_none hD2 ht
   refine ⟨us,by rw [upd_ne nDt]; exact hD2,by rw [hul]; exact Nat.lt_of_lt_of_le hi (Nat.le_trans (Nat.succ_le_succ hn) (by decide)),?_⟩
   rw [hPv]
   have kk:=k.trans (Kp.new (o:=HO.tup [V.int 0,V.int ↑(lV xs).length,V.int 0]) ht)
   refine ⟨kk.put2 (.inr hD),us ++ [.ref t],by simp [hul],upd_same,fun v hv=>?_⟩
   rcases List.mem_append.mp hv with h | h
   ·obtain ⟨t',e,h'⟩:=hus v h
    exact ⟨t',e,by rw [upd_ne (fun z=>by rw [z,hD2] at h'; cases h'),upd_ne (ne_of_none h' ht)]; exact h'⟩
   ·have e:v=.ref t:=by simpa using h
    exact ⟨t,e,by rw [upd_ne (Ne.symm nDt),upd_same,hlen,t0]⟩
  ·intro H2 hw
   rw [hPv] at hw
   obtain ⟨k,us,hul,hD2,hus⟩:=hw
   clear hPv Pv
   have htk2:=k _ _ htk (by simp)
   walk_at "rd"
   obtain ⟨Pv,hPv⟩:∃ Pv:WT,Pv=fun i σ H'=>Kp [] H H'∧∃ (o:Option V) (us:List V),σ=[some (.ref tk),some (.int (room:Int)),some (.ref D),none,o]∧us.length=xs.length + 1∧H' D=some (.lst us)∧∀ e,1≤e→xs.length≤e + i→e≤xs.length→∃ v,us[e]?=some v∧TailI H' room xs e v:=⟨_,rfl⟩
   refine ⟨_,rfl,tk,rfl,_,.inl (.inl (.inl htk2)),_,_,rfl,rfl,_,rfl,_,_,_,_,rfl,RgC.neg (by omega) (by omega) (by omega) (by omega),for_rangeC Pv ?_ ?_ ?_⟩
   ·rw [hPv]
    refine ⟨k,none,us,rfl,hul,hD2,fun e h1 h2 h3=>?_⟩
    have e1:e=xs.length:=by omega
    subst e1
    exact ⟨us[xs.length],List.getElem?_eq_getElem (by omega),hus _ (List.getElem_mem _)⟩
   ·intro i σ H3 hi hw
    rw [hlen] at hi
    rw [hPv] at hw
    obtain ⟨k3,o,us3,rfl,hul3,hD3,hT3⟩:=hw
    have hst:((lV xs).length:Int) - 1 + (i:Int) * -1=((xs.length - 1 - i:Nat):Int):=by rw [hlen]; omega
    rw [hst]
    obtain ⟨st,hst'⟩:∃ st,st=xs.length - 1 - i:=⟨_,rfl⟩
    rw [← hst']
    walk_at "rd"
    refine ⟨tk,D,us3,xs,st,room,room,rfl,k3 _ _ htk (by simp),hD3,by omega,hroom,fun e h1 h2=>hT3 e (by omega) (by omega) h2,fun p hp=>?_⟩
    have nDp:D≠p:=ne_of_none hD3 hp
    refine ⟨_,rfl,_,rfl,D,us3,(st:Int),st,rfl,rfl,by rw [upd_ne nDp]; exact hD3,?_,?_⟩
    ·unfold ixN
     rw [if_pos (by omega),if_pos (by omega)]; simp
    ·have c1:=bst_count (room:=room) (T:=tab room xs) (i:=st) (xs:=xs) (by omega)
     have ev:([.int ((bst room xs (tab room xs) st).1:Nat),.int (st + (bst room xs (tab room xs) st).2:Nat),.int (1 + linesAt room xs (st + (bst room xs (tab room xs) st).2):Nat)]:List V)=tailV room xs st:=by
      unfold tailV costAt endAt
      rw [if_pos (by omega),if_pos (by omega),linesAt_eq room xs (e:=st) (by omega),cnts_go room xs (i:=st) (by omega) (by omega),linesAt_eq room xs (by omega),List.length_cons,Nat.add_comm 1]
     rw [ev,hPv]
     refine ⟨(k3.trans (Kp.new hp)).put2 (.inr hD),_,us3.set st (.ref p),rfl,by rw [List.length_set]; exact hul3,upd_same,fun e h1 h2 h3=>?_⟩
     by_cases z:e=st
     ·subst z
      exact ⟨.ref p,by rw [List.getElem?_set_self (by omega)],p,rfl,by rw [upd_ne (Ne.symm nDp),upd_same]⟩
     ·obtain ⟨v,hv,t,rfl,ht⟩:=hT3 e h1 (by omega) h3
      exact ⟨_,by rw [List.getElem?_set_ne (Ne.symm z)]; exact hv,t,rfl,by rw [upd_ne (fun z=>by rw [z,hD3] at ht; cases ht),upd_ne (ne_of_none ht hp)]; exact ht⟩
   ·intro σ H3 hw
    rw [hPv] at hw
    obtain ⟨k3,o,us3,rfl,hul3,hD3,hT3⟩:=hw
    walk_at "rd"
    exact q H3 D hD k3 ⟨us3,hD3,hul3,fun e h1 h2=>hT3 e h1 (by rw [hlen]; omega) h2⟩
def sums:Nat→List Nat→List Nat
 | _,[]=>[]
 | a,c :: cs=>(a + c) :: sums (a + c) cs
theorem sums_len:∀ (a:Nat) (l:List Nat),(sums a l).length=l.length
 | _,[]=>rfl
 | a,c :: l=>by rw [sums,List.length_cons,List.length_cons,sums_len]
theorem cnts_len (r:Nat) (xs:List Nat) (i:Nat):(cnts r xs i).length≤xs.length:=by
 have h:∀ (f:Nat) (t:List (Nat × Nat)),(VhPage.byTable f t).length≤f:=fun f=>by
  induction f with
  | zero=>intro t; exact Nat.le_refl _
  | succ f ih =>
   intro t
   cases t with
   | nil=>exact Nat.zero_le _
   | cons x t=>exact Nat.succ_le_succ (ih _)
 have:=h (tab r xs).length ((tab r xs).drop (i - 1))
 unfold cnts
 refine Nat.le_trans this ?_
 unfold tab; rw [table_len,List.length_drop]; omega
def sp_ends_of (K:PySem.W.Frag) (a:Ad):Sp:=fun vs H Q _=>∃ (tk tl:Addr) (xs:List Nat) (fr r:Nat),vs=[.ref tk,.ref tl,.int (fr:Int)]∧H tk=some (.lst (lV xs))∧TailsAt H tl r xs∧0 < xs.length∧xs.length≤1048576∧fr≤1000000 ∧
 ∀ H' p,H p=none→Kp [] H H'→H' p=some (.lst (lV (sums 0 (VhPage.broken fr r xs))))→Q (.ref p) H'
abbrev s_ends_of:Stmt:=top 14
theorem sc_ends_of:FnScope ["takes","tails","first_room","end","ends"] ["takes","tails","first_room"] (defScope s_ends_of):=⟨rfl,rfl,rfl,by decide +kernel,rfl,by decide +kernel,by decide +kernel⟩
theorem ok_ends_of {f:Addr} {fd:FuncData} (F:Fun K "ends_of" "ends_of" s_ends_of f fd) (T:Txt K mg a) (c_best_from:FnC P w K mg base CX0 2 "best_from" ["takes","tails","start","room"] (sp_best_from K a)):FnOk P w K mg base CX0 3 f fd ["takes","tails","first_room"] (sp_ends_of K a):=by
 refine F.ok sc_ends_of (fun vs H Q E h=>?_) (fun cdv A outer s H vs Q E hr h=>?_)
 ·obtain ⟨tk,tl,xs,fr,r,rfl,htk,⟨us,htl,hul,hT⟩,hn0,hn,hfr,q⟩:=h
  rfl
 ·obtain ⟨tk,tl,xs,fr,r,rfl,htk,⟨us,htl,hul,hT⟩,hn0,hn,hfr,q⟩:=h
  have nd:=sc_ends_of.nd
  refine ⟨_,(pss_cons (ps_set (i:=3) nd rfl (Or.inl rfl) (pe_ix ix_tup (pe_callC c_best_from hr pass0 (pa_cons (pv 0) (pa_cons (pv 1) (pa_cons pe_int (pa_cons (pv 2) pa_nil))))) pe_int (fun _ _=>rfl))) (pss_cons (ps_set (i:=4) nd rfl (Or.inl rfl) (pe_lst (pa_cons (pv 3) pa_nil))) (pss_cons (ps_while PassesOwn.never (pt_cmpR op_lt (pv 3) (pe_callB call_len_seq rfl T.len PySem.boot_len (pa_cons (pv 0) pa_nil)) (nomark _)) (pss_cons (ps_set (i:=3) nd rfl (Or.inl rfl) (pe_ix ix_tup (pe_ix ix_list (pv 1) (pv 3) (fun _ _=>rfl)) pe_int (fun _ _=>rfl))) (pss_one (ps_expr (pe_bm PySem.F.plainAttrs_list PySem.F.slot_list_append PySem.F.type_list_append mt_append (pv 4) (pa_cons (pv 3) pa_nil)))))) (pss_one (ps_ret (pv 4)))))),?_⟩
  have hlen:(lV xs).length=xs.length:=lV_len xs
  have c1:=bst_count (room:=fr) (T:=tab r xs) (i:=0) hn0
  rw [broken_eq fr r xs hn0] at q
  rw [Nat.zero_add] at c1
  walk_at "rd"
  refine ⟨tk,tl,us,xs,0,fr,r,rfl,htk,htl,hn0,hfr,fun e h1 h2=>hT e h1 h2,fun p hp=>?_⟩
  rw [Nat.zero_add]
  generalize (bst fr xs (tab r xs) 0).2=e0 at *
  refine ixT_go 1 upd_same rfl ?_
  walk_at "rd"
  refine ⟨by decide,fun D hD=>?_⟩
  have k1:Kp [] H (upd H p (HO.tup [V.int ((bst fr xs (tab r xs) 0).1:Nat),V.int (e0:Nat),V.int ((1 + linesAt r xs e0:Nat):Int)])):=Kp.new hp
  have hD0:H D=none:=k1.free (by simp) hD
  have k2:=k1.trans (Kp.new (o:=HO.lst [V.int (e0:Int)]) hD)
  generalize upd H p (HO.tup [V.int ((bst fr xs (tab r xs) 0).1:Nat),V.int (e0:Nat),V.int ((1 + linesAt r xs e0:Nat):Int)])=H1 at *
  obtain ⟨W,hW⟩:∃ W:WT,W=fun m σ H'=>Kp [] H H'∧∃ (e:Nat) (l:List Nat),σ=[some (.ref tk),some (.ref tl),some (.int (fr:Int)),some (.int (e:Int)),some (.ref D)]∧m=xs.length - e∧1≤e∧e≤xs.length∧H' D=some (.lst (lV l))∧l ++ sums e (cnts r xs e)=sums 0 (e0 :: cnts r xs e0):=⟨_,rfl⟩
  refine ⟨W,⟨_,by rw [hW]; exact ⟨k2,e0,[e0],rfl,rfl,c1.1,c1.2,upd_same,by rw [sums,Nat.zero_add]; rfl⟩⟩,fun m σ H2 hw=>?_⟩
  rw [hW] at hw
  obtain ⟨k,e,l,rfl,rfl,he1,he2,hD2,hl⟩:=hw
  walk_at "rd"
  refine ⟨_,.inl (.inl (.inl (k _ _ htk (by simp)))),?_⟩
  rw [hlen]
  split
  ·rename_i h
   have he:e < xs.length:=by omega
   refine ⟨fun σ' H'=>∃ m',m' < xs.length - e∧W m' σ' H',fun _ _ z=>z,?_⟩
   obtain ⟨v,hv,t,rfl,ht⟩:=hT e he1 he2
   refine ixL_go (k _ _ htl (by simp)) hv (ixT_go 1 (k _ _ ht (by simp)) rfl ?_)
   have ee:endAt r xs e=e + (bst r xs (tab r xs) e).2:=if_pos he
   have c2:=bst_count (room:=r) (T:=tab r xs) (i:=e) he
   rw [cnts_go r xs he1 he,sums] at hl
   rw [ee]
   have c3:e < e + (bst r xs (tab r xs) e).2:=by omega
   generalize e + (bst r xs (tab r xs) e).2=e' at *
   have hll:l.length≤xs.length:=by
    have:=congrArg List.length hl
    rw [List.length_append,List.length_cons,sums_len,sums,List.length_cons,sums_len] at this
    have:=cnts_len r xs e0
    omega
   walk_at "rd"
   refine ⟨.inl ⟨rfl,_,.inl (.inl hD2)⟩,_,hD2,by rw [lV_len]; exact Nat.lt_of_le_of_lt (Nat.le_trans hll hn) (by decide),xs.length - e',by omega,?_⟩
   rw [hW]
   refine ⟨k.put2 (.inr hD0),e',l ++ [e'],rfl,rfl,by omega,by omega,?_,by rw [List.append_assoc]; exact hl⟩
   rw [upd_same]
   unfold lV
   rw [List.map_append]; rfl
  ·rename_i h
   rw [cnts_end r xs he1 (by omega),sums,List.append_nil] at hl
   rw [hl] at hD2
   exact q H2 D hD0 k hD2
end
section
variable {P:Program} {w:World} {K:PySem.W.Frag} {mg:Str→Option Value} {base:Heap} {a:Ad}
theorem q_eqD {X:Cx} {K:PySem.W.Frag} (h:X.K=K) (hu:X.A.units + 64 < cLine):OpR X (compareOp .Eq) (rEqD K):=by subst h; exact op_eqD hu
def dataL (x:List Nat):List PyData:=x.map fun (n:Nat)=>PyData.int (n:Int)
theorem dp_all (H:Hp):∀ x:List Nat,DpAll K H (lV x) (dataL x)
 | []=>.nil
 | n :: x=>.cons (.int _) (dp_all H x)
theorem data_lay:∀ x:List Nat,PyData.canLayAll0 (dataL x)=true
 | []=>rfl
 | n :: x=>by
  show (PyData.canLay0 (.int n) && PyData.canLayAll0 (dataL x))=true
  rw [data_lay x]; rfl
theorem data_depth:∀ x:List Nat,PyData.depthAll (dataL x)=0
 | []=>rfl
 | n :: x=>by
  show max (PyData.depth (.int n)) (PyData.depthAll (dataL x))=0
  rw [data_depth x]; rfl
theorem data_shaped (x:List Nat):SeqAt.shaped (.list (dataL x))=true:=by
 unfold SeqAt.shaped
 have h1:PyData.canLay0 (.list (dataL x))=true:=data_lay x
 have h2:PyData.depth (.list (dataL x))=1:=by
  show PyData.depthAll (dataL x) + 1=1
  rw [data_depth]
 rw [h1,h2]; rfl
theorem data_eqv:∀ x y:List Nat,PyData.eqvAll (dataL x) (dataL y)=(x == y)
 | [],[]=>rfl
 | [],_ :: _=>rfl
 | _ :: _,[]=>rfl
 | m :: x,n :: y=>by
  show (PyData.eqv (.int m) (.int n) && PyData.eqvAll (dataL x) (dataL y))=_
  rw [data_eqv x y]
  show ((((m:Nat):Int) == ((n:Nat):Int)) && (x == y))=(m == n && (x == y))
  congr 1
  by_cases z:m=n
  ·subst z; simp
  ·rw [beq_eq_false_iff_ne.mpr z,beq_eq_false_iff_ne]; omega
theorem eqD_go {H:Hp} {p q:Addr} {x y:List Nat} {Q:VK} (h1:H p=some (.lst (lV x))) (h2:H q=some (.lst (lV y))) (k:Q (.bl (x == y)) H):rEqD K (.ref p) (.ref q) H Q :=
 ⟨.list (dataL x),.list (dataL y),.lst (.inl (.inl h1)) (dp_all H x),.lst (.inl (.inl h2)) (dp_all H y),data_shaped x,data_shaped y,by
  have e:PyData.eqv (.list (dataL x)) (.list (dataL y))=(x == y):=data_eqv x y
  rw [e]; exact k⟩
theorem log_small {n:Nat} (h:n < 2 ^ 64):((n:Int).natAbs).log2 < 1920:=by
 rw [Int.natAbs_natCast]
 by_cases z:n=0
 ·subst z; decide
 ·exact Nat.lt_trans ((Nat.log2_lt z).mpr h) (by decide)
theorem str_app (x y:Str):(x ++ y).cps.toList=x.cps.toList ++ y.cps.toList:=by
 show (x.cps ++ y.cps).toList=_
 simp
theorem str_len (x:Str):x.length=x.cps.toList.length:=by
 show x.cps.size=_
 simp
theorem num_str_len (n:Nat):(Str.ofString (toString (n:Int))).length=(VhPage.num10 n).length:=by rw [str_len,num_text]
theorem flat_lV (l:List Nat):(lV l).all flatV=true:=by
 unfold lV; rw [List.all_map,List.all_eq_true]; intro _ _; rfl
def WordsAt (H:Hp) (wl:Addr) (wds:List (List Nat)):Prop:=∃ ws,H wl=some (.lst ws)∧Paired (LI H) wds ws
theorem WordsAt.get {H:Hp} {wl:Addr} {wds:List (List Nat)} (h:WordsAt H wl wds) {k:Nat} (hk:k < wds.length):∃ ws l,H wl=some (.lst ws)∧ws[k]?=some (.ref l)∧H l=some (.lst (lV (wds.getD k []))):=by
 obtain ⟨ws,h1,h2⟩:=h
 obtain ⟨y,hy,l,rfl,hl⟩:=Paired.get2 h2 (List.getElem?_eq_getElem hk)
 exact ⟨ws,l,h1,hy,by rw [List.getD_eq_getElem?_getD,List.getElem?_eq_getElem hk]; exact hl⟩
theorem WordsAt.keep {H H':Hp} {wl:Addr} {wds:List (List Nat)} (h:WordsAt H wl wds) (k:Kp [] H H'):WordsAt H' wl wds:=by
 obtain ⟨ws,h1,h2⟩:=h
 exact ⟨ws,k _ _ h1 (by simp),Paired.mono (fun x v ⟨t,e,ht⟩=>⟨t,e,k _ _ ht (by simp)⟩) h2⟩
def sameL (wds:List (List Nat)) (lf le f:Nat):List Nat:=((List.range (le - lf)).map fun d=>lf + d).filter fun d=>wds.getD d [] == wds.getD f []
def whichL (wds:List (List Nat)) (lf le f:Nat):List Nat:=if (sameL wds lf le f).length≤1 then [] else 94 :: VhPage.num10 ((sameL wds lf le f).findIdx (fun d=>d == f) + 1)
def sp_place_among_like (K:PySem.W.Frag) (a:Ad):Sp:=fun vs H Q _=>∃ (wl:Addr) (wds:List (List Nat)) (lf le f:Nat),vs=[.ref wl,.int (lf:Int),.int (le:Int),.int (f:Int)]∧WordsAt H wl wds∧lf≤f∧f < le∧le≤wds.length∧wds.length≤8192 ∧
 ∀ H' (x:Str),Kp [] H H'→x.cps.toList=whichL wds lf le f→Q (.str x) H'
abbrev s_place_among_like:Stmt:=top 16
theorem sc_place_among_like:FnScope ["words","line_first","line_end","f","like","k"] ["words","line_first","line_end","f"] (defScope s_place_among_like):=⟨rfl,rfl,rfl,by decide +kernel,rfl,by decide +kernel,by decide +kernel⟩
theorem bk_place_among_like_0:BlkOk ["words","line_first","line_end","f","like","k"] (defScope s_place_among_like) (lcSc (stVal (stI (defBody s_place_among_like) 0))) [("k",5)]:=⟨rfl,by decide +kernel,by decide +kernel,by decide +kernel,by decide +kernel⟩
theorem ok_place_among_like {f:Addr} {fd:FuncData} (F:Fun K "place_among_like" "place_among_like" s_place_among_like f fd) (T:Txt K mg a):FnOk P w K mg base CX0 1 f fd ["words","line_first","line_end","f"] (sp_place_among_like K a):=by
 refine F.ok sc_place_among_like (fun vs H Q E h=>?_) (fun cdv A outer s H vs Q E hr h=>?_)
 ·obtain ⟨wl,wds,lf,le,f,rfl,hw,h1,h2,h3,h4,q⟩:=h
  rfl
 ·obtain ⟨wl,wds,lf,le,f,rfl,hw,h1,h2,h3,h4,q⟩:=h
  have nd:=sc_place_among_like.nd
  refine ⟨_,(pss_cons (ps_setLc (i:=4) rfl nd rfl rfl (sw_true rfl rfl rfl rfl) (pi_range2 rfl T.range (pa_cons (pv 1) (pa_cons (pv 2) pa_nil))) bk_place_among_like_0 (fun _ _ _ _ _=>(pg_name (i:=5) nd rfl (Or.inl rfl))) (fun _ _ _ _ _=>(pts_one (pt_cmpR (q_eqD (K:=K) rfl hr.units) (pe_ix (k_ix_list (K:=K) rfl) (pv 0) (pv 5) (fun _ _=>rfl)) (pe_ix (k_ix_list (K:=K) rfl) (pv 0) (pv 3) (fun _ _=>rfl)) (nomark _)))) (fun _ _ _ _ _=>(pv 5))) (pss_cons (ps_if (pt_cmpR op_eq (pe_callB call_len_seq rfl T.len PySem.boot_len (pa_cons (pv 4) pa_nil)) pe_int (nomark _)) (pss_one (ps_ret pe_str)) pss_nil) (pss_one (ps_ret (pe_op op_add_str pe_str (pe_callTy call_str_int rfl T.str boot_str (pa_cons (pe_op op_add (pe_bm PySem.F.plainAttrs_list PySem.F.slot_list_index PySem.F.type_list_index mt_index (pv 4) (pa_cons (pv 3) pa_nil)) pe_int) pa_nil))))))),?_⟩
  refine ⟨_,rfl,_,rfl,_,_,rfl,⟨by omega,by omega,by omega,by omega⟩,fun D hD=>?_⟩
  have en:Int.toNat ((le:Int) - (lf:Int))=le - lf:=by omega
  rw [en]
  obtain ⟨Pv,hPv⟩:∃ Pv:Nat→Hp→Prop,Pv=fun i H'=>Kp [] H H'∧H' D=some (.lst (lV (((List.range i).map fun d=>lf + d).filter fun d=>wds.getD d [] == wds.getD f []))):=⟨_,rfl⟩
  refine lc_range Pv ?_ ?_ ?_
  ·rw [hPv]
   exact ⟨Kp.new hD,upd_same⟩
  ·intro i H2 hi hw2
   rw [hPv] at hw2
   obtain ⟨k,hD2⟩:=hw2
   refine ⟨rfl,?_⟩
   obtain ⟨ws,l1,g1,g2,g3⟩:=(hw.keep k).get (k:=lf + i) (by omega)
   obtain ⟨ws',l2,g1',g2',g3'⟩:=(hw.keep k).get (k:=f) (by omega)
   have ei:(lf:Int) + (i:Int)=((lf + i:Nat):Int):=by omega
   rw [ei]
   refine ⟨_,rfl,_,rfl,ixL_go g1 g2 ⟨_,rfl,_,rfl,ixL_go g1' g2' (eqD_go g3 g3' ⟨_,rfl,?_⟩)⟩⟩
   have es:(((List.range (i + 1)).map fun d=>lf + d).filter fun d=>wds.getD d [] == wds.getD f [])=(((List.range i).map fun d=>lf + d).filter fun d=>wds.getD d [] == wds.getD f []) ++ if (wds.getD (lf + i) [] == wds.getD f [])=true then [lf + i] else []:=by
    rw [List.range_succ,List.map_append,List.filter_append,List.map_cons,List.map_nil,List.filter_cons,List.filter_nil]
   have hlen:(((List.range i).map fun d=>lf + d).filter fun d=>wds.getD d [] == wds.getD f []).length≤i:=by
    refine Nat.le_trans (List.length_filter_le _ _) ?_
    rw [List.length_map,List.length_range]; exact Nat.le_refl _
   simp only []
   split
   ·rename_i h
    refine ⟨_,rfl,_,hD2,by rw [lV_len]; exact Nat.lt_of_le_of_lt hlen (Nat.lt_of_lt_of_le (by omega:i < 8192 + 1) (by decide)),?_⟩
    rw [hPv]
    refine ⟨k.put2 (.inr hD),?_⟩
    rw [upd_same,es,if_pos h]
    unfold lV
    rw [List.map_append]; rfl
   ·rename_i h
    rw [hPv]
    refine ⟨k,?_⟩
    rw [es,if_neg h,List.append_nil]
    exact hD2
  ·intro H2 hw2
   rw [hPv] at hw2
   obtain ⟨k,hD2⟩:=hw2
   have q':=q H2
   unfold whichL sameL at q'
   have hf:f ∈ (((List.range (le - lf)).map fun d=>lf + d).filter fun d=>wds.getD d [] == wds.getD f []):=by
    rw [List.mem_filter]
    refine ⟨List.mem_map.mpr ⟨f - lf,List.mem_range.mpr (by omega),by omega⟩,by simp⟩
   have hb:(((List.range (le - lf)).map fun d=>lf + d).filter fun d=>wds.getD d [] == wds.getD f []).length≤8192:=by
    refine Nat.le_trans (List.length_filter_le _ _) ?_
    rw [List.length_map,List.length_range]; omega
   generalize (((List.range (le - lf)).map fun d=>lf + d).filter fun d=>wds.getD d [] == wds.getD f [])=L at *
   have hpos:0 < L.length:=List.length_pos_of_mem hf
   walk_at "rd"
   refine ⟨_,.inl (.inl (.inl hD2)),?_⟩
   rw [lV_len]
   split
   ·rename_i h
    refine q' _ k ?_
    rw [if_pos (by omega)]
    rfl
   ·rename_i h
    have hj:L.findIdx (fun d=>d == f) < L.length:=List.findIdx_lt_length_of_exists ⟨f,hf,by simp⟩
    have hjv:L[L.findIdx (fun d=>d == f)]?=some f:=by
     rw [List.getElem?_eq_getElem hj]
     have:=List.findIdx_getElem (w:=hj)
     simp at this
     rw [this]
    have hbef:∀ (m:Nat) (z':V),m < L.findIdx (fun d=>d == f)→(lV L)[m]?=some z'→eqV z' (.int (f:Int))=false:=fun m z' hm hz=>by
     obtain ⟨n,hn,rfl⟩:=lV_get hz
     have h5:=List.not_of_lt_findIdx hm
     obtain ⟨hm',en'⟩:=List.getElem?_eq_some_iff.mp hn
     rw [en'] at h5
     have h6:n≠f:=by simpa using h5
     show ((n:Int) == (f:Int))=false
     rw [beq_eq_false_iff_ne]; omega
    have ej:((L.findIdx (fun d=>d == f):Nat):Int) + 1=((L.findIdx (fun d=>d == f) + 1:Nat):Int):=rfl
    refine ⟨.inl ⟨rfl,_,.inl (.inl hD2)⟩,D,lV L,_,L.findIdx (fun d=>d == f),_,rfl,rfl,.inl (.inl hD2),rfl,flat_lV L,by unfold lV; rw [List.getElem?_map,hjv]; rfl,by show ((f:Int) == (f:Int))=true; simp,hbef,_,rfl,?_,?_,?_⟩
    ·rw [ej]; exact log_small (by omega)
    ·rw [ej,num_str_len]
     have:=num10_len (n:=L.findIdx (fun d=>d == f) + 1) (k:=5) (by decide) (by omega)
     have e1:(Str.ofString "^").length=1:=by decide
     rw [e1]
     exact Nat.le_trans (Nat.add_le_add_left this 1) (by decide)
    ·refine q' _ k ?_
     rw [if_neg (by omega),str_app,ej,num_text]
     have e1:(Str.ofString "^").cps.toList=[94]:=by decide
     rw [e1]; rfl
end
section
variable {P:Program} {w:World} {K:PySem.W.Frag} {mg:Str→Option Value} {base:Heap} {a:Ad}
def keyL (wds:List (List Nat)) (lf le f m:Nat):List Nat:=91 :: ((if m=0 then [43] else []) ++ ((if f < wds.length then wds.getD f [] ++ whichL wds lf le f else []) ++ ((if 2≤m then 126 :: (VhPage.num10 m ++ 126 :: wds.getD (f + m - 1) []) else []) ++ [93])))
theorem which_len (wds:List (List Nat)) (lf le f:Nat) (h:le - lf≤8192):(whichL wds lf le f).length≤6:=by
 unfold whichL
 split
 ·exact Nat.zero_le _
 ·have h1:(sameL wds lf le f).length≤8192:=by
   unfold sameL
   refine Nat.le_trans (List.length_filter_le _ _) ?_
   rw [List.length_map,List.length_range]; exact h
  have h2:=List.findIdx_le_length (xs:=sameL wds lf le f) (p:=fun d=>d == f)
  have:=num10_len (n:=(sameL wds lf le f).findIdx (fun d=>d == f) + 1) (k:=5) (by decide) (by omega)
  rw [List.length_cons]; omega
theorem lV_app (x y:List Nat):lV x ++ lV y=lV (x ++ y):=by unfold lV; rw [List.map_append]
theorem wd_len {wds:List (List Nat)} (h5:∀ x ∈ wds,x.length≤64) (k:Nat):(wds.getD k []).length≤64:=by
 rw [List.getD_eq_getElem?_getD]
 cases h:wds[k]? with
 | none=>simp
 | some x=>exact h5 x (List.mem_of_getElem? h)
def sp_key_of (K:PySem.W.Frag) (a:Ad):Sp:=fun vs H Q _=>∃ (wl:Addr) (wds:List (List Nat)) (lf le f m:Nat),vs=[.ref wl,.int (lf:Int),.int (le:Int),.int (f:Int),.int (m:Int)]∧WordsAt H wl wds∧f + m≤wds.length∧(f < wds.length→lf≤f∧f < le)∧le≤wds.length∧wds.length≤8192∧(∀ x ∈ wds,x.length≤64) ∧
 ∀ H' p,H p=none→Kp [] H H'→H' p=some (.lst (lV (keyL wds lf le f m)))→Q (.ref p) H'
abbrev s_key_of:Stmt:=top 17
theorem sc_key_of:FnScope ["words","line_first","line_end","f","m","key"] ["words","line_first","line_end","f","m"] (defScope s_key_of):=⟨rfl,rfl,rfl,by decide +kernel,rfl,by decide +kernel,by decide +kernel⟩
theorem ok_key_of {f:Addr} {fd:FuncData} (F:Fun K "key_of" "key_of" s_key_of f fd) (T:Txt K mg a) (c_characters_of:FnC P w K mg base CX0 1 "characters_of" ["text"] (sp_characters_of K a)) (c_place_among_like:FnC P w K mg base CX0 1 "place_among_like" ["words","line_first","line_end","f"] (sp_place_among_like K a)):FnOk P w K mg base CX0 2 f fd ["words","line_first","line_end","f","m"] (sp_key_of K a):=by
 refine F.ok sc_key_of (fun vs H Q E h=>?_) (fun cdv A outer s H vs Q E hr h=>?_)
 ·obtain ⟨wl,wds,lf,le,f,m,rfl,hw,h1,h2,h3,h4,h5,q⟩:=h
  rfl
 ·obtain ⟨wl,wds,lf,le,f,m,rfl,hw,h1,h2,h3,h4,h5,q⟩:=h
  have nd:=sc_key_of.nd
  refine ⟨_,(pss_cons (ps_if (pt_cmpR op_eq (pv 3) (pe_callB call_len_seq rfl T.len PySem.boot_len (pa_cons (pv 0) pa_nil)) (nomark _)) (pss_one (ps_ret (pe_callC c_characters_of hr pass0 (pa_cons pe_str pa_nil)))) pss_nil) (pss_cons (ps_set (i:=5) nd rfl (Or.inl rfl) (pe_callC c_characters_of hr pass0 (pa_cons (pe_ifExp (pt_cmpR op_eq (pv 4) pe_int (nomark _)) pe_str pe_str) pa_nil))) (pss_cons (ps_expr (pe_bm PySem.F.plainAttrs_list PySem.F.slot_list_extend PySem.F.type_list_extend mt_extend (pv 5) (pa_cons (pe_ix ix_list (pv 0) (pv 3) (fun _ _=>rfl)) pa_nil))) (pss_cons (ps_expr (pe_bm PySem.F.plainAttrs_list PySem.F.slot_list_extend PySem.F.type_list_extend mt_extend (pv 5) (pa_cons (pe_callC c_characters_of hr pass0 (pa_cons (pe_callC c_place_among_like hr pass0 (pa_cons (pv 0) (pa_cons (pv 1) (pa_cons (pv 2) (pa_cons (pv 3) pa_nil))))) pa_nil)) pa_nil))) (pss_cons (ps_if (pt_cmpR op_ge (pv 4) pe_int (nomark _)) (pss_cons (ps_expr (pe_bm PySem.F.plainAttrs_list PySem.F.slot_list_extend PySem.F.type_list_extend mt_extend (pv 5) (pa_cons (pe_callC c_characters_of hr pass0 (pa_cons (pe_fstr (PEs.cons pe_str (PEs.cons (pe_fv (pv 4)) (PEs.cons pe_str PEs.nil)))) pa_nil)) pa_nil))) (pss_one (ps_expr (pe_bm PySem.F.plainAttrs_list PySem.F.slot_list_extend PySem.F.type_list_extend mt_extend (pv 5) (pa_cons (pe_ix ix_list (pv 0) (pe_op op_sub (pe_op op_add (pv 3) (pv 4)) pe_int) (fun _ _=>rfl)) pa_nil))))) pss_nil) (pss_cons (ps_expr (pe_bm PySem.F.plainAttrs_list PySem.F.slot_list_extend PySem.F.type_list_extend mt_extend (pv 5) (pa_cons (pe_callC c_characters_of hr pass0 (pa_cons pe_str pa_nil)) pa_nil))) (pss_one (ps_ret (pv 5))))))))),?_⟩
  have hw0:=hw
  obtain ⟨ws,hwl,hP⟩:=hw
  have hlw:=Paired.length hP
  walk_at "rd"
  refine ⟨_,.inl (.inl (.inl hwl)),?_⟩
  split
  ·rename_i h
   have hf:f=wds.length:=by omega
   have hm:m=0:=by omega
   refine ⟨_,rfl,by decide,fun H' p hp k hl=>q H' p hp k ?_⟩
   rw [hl]
   have e1:(Str.ofString "[+]").cps.toList=[91,43,93]:=by decide
   rw [e1]
   unfold keyL
   rw [if_pos hm,if_neg (by omega),if_neg (by omega)]; rfl
  ·rename_i h
   have hf:f < wds.length:=by omega
   obtain ⟨g1,g2⟩:=h2 hf
   have hz:sizeLine=16777216:=by decide
   have w1:=wd_len h5 f
   have w2:=which_len wds lf le f (by omega)
   have w3:=wd_len h5 (f + m - 1)
   have w4:=num10_len (n:=m) (k:=5) (by decide) (by omega)
   have w5:(if m=0 then [43] else []:List Nat).length≤1:=by split <;> simp
   have b1:(Str.ofString "]").cps.toList=[93]:=by decide
   have b2:(Str.ofString "~").cps.toList=[126]:=by decide
   unfold keyL at q
   rw [if_pos hf] at q
   split <;> rename_i hm
   case' isTrue =>
    have e1:(Str.ofString "[+").cps.toList=[91,43]:=by decide
    refine ⟨_,rfl,by decide,fun H1 p hp k1 hl1=>?_⟩
    rw [e1] at hl1
    replace hl1:H1 p=some (.lst (lV (91 :: (if m=0 then [43] else [])))):=by rw [hl1,if_pos (by omega)]
   case' isFalse =>
    have e1:(Str.ofString "[").cps.toList=[91]:=by decide
    refine ⟨_,rfl,by decide,fun H1 p hp k1 hl1=>?_⟩
    rw [e1] at hl1
    replace hl1:H1 p=some (.lst (lV (91 :: (if m=0 then [43] else [])))):=by rw [hl1,if_neg (by omega)]
   all_goals
    generalize (if m=0 then [43] else []:List Nat)=hd at *
    obtain ⟨ws1,l1,a1,a2,a3⟩:=(hw0.keep k1).get hf
    refine ⟨.inl ⟨rfl,_,.inl (.inl hl1)⟩,ixL_go a1 a2 ⟨p,rfl,_,rfl,_,hl1,_,a3,by rw [lV_len,lV_len,List.length_cons]; omega,.inl ⟨rfl,_,.inl (.inl upd_same)⟩,?_⟩⟩
    rw [lV_app]
    have k2:Kp [] H (upd H1 p (.lst (lV (91 :: hd ++ wds.getD f [])))):=k1.put2 (.inr hp)
    generalize hG:upd H1 p (.lst (lV (91 :: hd ++ wds.getD f [])))=H2 at *
    have hl2:H2 p=some (.lst (lV (91 :: hd ++ wds.getD f []))):=by rw [← hG,upd_same]
    refine ⟨wl,wds,lf,le,f,rfl,hw0.keep k2,g1,g2,h3,h4,fun H3 x k3 hx=>⟨x,rfl,?_,fun H4 p4 hp4 k4 hl4=>?_⟩⟩
    ·rw [← Array.length_toList,hx]; omega
    rw [hx] at hl4
    have k5:=(k2.trans k3).trans k4
    have hl5:=k4 _ _ (k3 _ _ hl2 (by simp)) (by simp)
    refine ⟨p,rfl,p4,rfl,_,hl5,_,hl4,by rw [lV_len,lV_len,List.length_append,List.length_cons]; omega,?_⟩
    rw [lV_app]
    have k6:Kp [] H (upd H4 p (.lst (lV (91 :: hd ++ wds.getD f [] ++ whichL wds lf le f)))):=k5.put2 (.inr hp)
    generalize hG6:upd H4 p (.lst (lV (91 :: hd ++ wds.getD f [] ++ whichL wds lf le f)))=H6 at *
    have hl6:H6 p=some (.lst (lV (91 :: hd ++ wds.getD f [] ++ whichL wds lf le f))):=by rw [← hG6,upd_same]
    have b0:(Str.empty).cps.toList=[]:=by decide
    have fin:∀ (H6:Hp) (l:List Nat),Kp [] H H6→H6 p=some (.lst (lV l))→l.length≤1000→l ++ [93]=91 :: (hd ++ (wds.getD f [] ++ whichL wds lf le f ++ ((if 2≤m then 126 :: (VhPage.num10 m ++ 126 :: wds.getD (f + m - 1) []) else []) ++ [93])))→sp_characters_of K a [V.str (Str.ofString "]")] H6 (fun x H1=>∃ l,V.ref p=V.ref l∧∃ x_1,x=V.ref x_1∧∃ x,H1 l=some (HO.lst x)∧∃ x_2,H1 x_1=some (HO.lst x_2)∧x.length + x_2.length≤sizeLine∧Q (V.ref p) (upd H1 l (HO.lst (x ++ x_2)))) E0:=fun H6 l k6 hl6 hll he=>by
     refine ⟨_,rfl,by decide,fun H7 p7 hp7 k7 hl7=>⟨p,rfl,p7,rfl,_,k7 _ _ hl6 (by simp),_,hl7,?_,q _ p hp ((k6.trans k7).put2 (.inr hp)) ?_⟩⟩
     ·rw [b1,lV_len,lV_len]; simp only [List.length_append,List.length_cons,List.length_nil]; omega
     ·rw [upd_same,b1,lV_app,he]
    by_cases hm2:2≤m
    ·rw [if_pos (by omega)]
     rw [if_pos hm2] at fin
     have j3:(Str.empty ++ Str.ofString "~" ++ Str.ofString (toString (m:Int)) ++ Str.ofString "~").cps.toList=126 :: (VhPage.num10 m ++ [126]):=by
      rw [str_app,str_app,str_app,b0,b2,num_text]; simp
     have jl:(Str.empty ++ Str.ofString "~" ++ Str.ofString (toString (m:Int)) ++ Str.ofString "~").length≤sizeLine:=by
      rw [str_len,j3]; simp only [List.length_append,List.length_cons,List.length_nil]; omega
     refine ⟨.inl ⟨rfl,_,.inl (.inl hl6)⟩,_,rfl,by decide,_,rfl,_,rfl,log_small (by omega),_,rfl,?_,_,rfl,jl,jl,_,rfl,?_,fun H7 p7 hp7 k7 hl7=>?_⟩
     ·rw [str_len,str_app,str_app,b0,b2,num_text]; simp only [List.length_append,List.length_cons,List.length_nil]; omega
     ·rw [← Array.length_toList,j3]; simp only [List.length_append,List.length_cons,List.length_nil]; omega
     rw [j3] at hl7
     have hl8:=k7 _ _ hl6 (by simp)
     refine ⟨p,rfl,p7,rfl,_,hl8,_,hl7,by rw [lV_len,lV_len]; simp only [List.length_append,List.length_cons,List.length_nil]; omega,.inl ⟨rfl,_,.inl (.inl upd_same)⟩,?_⟩
     rw [lV_app]
     have k9:Kp [] H (upd H7 p (.lst (lV (91 :: hd ++ wds.getD f [] ++ whichL wds lf le f ++ 126 :: (VhPage.num10 m ++ [126]))))):=(k6.trans k7).put2 (.inr hp)
     obtain ⟨ws9,l9,c1,c2,c3⟩:=(hw0.keep k9).get (k:=f + m - 1) (by omega)
     have ef:(f:Int) + (m:Int) - 1=((f + m - 1:Nat):Int):=by omega
     rw [ef]
     refine ixL_go c1 c2 ⟨p,rfl,_,rfl,_,upd_same,_,c3,by rw [lV_len,lV_len]; simp only [List.length_append,List.length_cons,List.length_nil]; omega,.inl ⟨rfl,_,.inl (.inl upd_same)⟩,?_⟩
     rw [lV_app]
     refine fin _ _ (k9.put2 (.inr hp)) upd_same (by simp only [List.length_append,List.length_cons,List.length_nil]; omega) (by simp)
    ·rw [if_neg (by omega)]
     rw [if_neg hm2] at fin
     exact ⟨.inl ⟨rfl,_,.inl (.inl hl6)⟩,fin _ _ k6 hl6 (by simp only [List.length_append,List.length_cons,List.length_nil]; omega) (by simp)⟩
end
section
variable {P:Program} {w:World} {K:PySem.W.Frag} {mg:Str→Option Value} {base:Heap} {a:Ad}
theorem k_pe_fld {X:Cx} {K:PySem.W.Frag} {e:Expr} {f:Str} {pos:Pos} {ta:TE} (h:X.K=K) (he:PE X e ta) (hb:attributeBase e f X.env (eval e X.env)=eval e X.env):PE X (.Attribute e f pos) (tFld K ta f):=by subst h; exact pe_fld he hb
def sp_number_thing (K:PySem.W.Frag) (a:Ad):Sp:=fun vs H Q _=>∃ (n:Nat),vs=[.int (n:Int)]∧n < 100000∧∀ H' p,H p=none→Kp [] H H'→H' p=some (.lst (lV (35 :: VhPage.num10 n)))→Q (.ref p) H'
abbrev s_number_thing:Stmt:=top 19
theorem sc_number_thing:FnScope ["number"] ["number"] (defScope s_number_thing):=⟨rfl,rfl,rfl,by decide +kernel,rfl,by decide +kernel,by decide +kernel⟩
theorem ok_number_thing {f:Addr} {fd:FuncData} (F:Fun K "number_thing" "number_thing" s_number_thing f fd) (T:Txt K mg a) (c_characters_of:FnC P w K mg base CX0 1 "characters_of" ["text"] (sp_characters_of K a)):FnOk P w K mg base CX0 2 f fd ["number"] (sp_number_thing K a):=by
 refine F.ok sc_number_thing (fun vs H Q E h=>?_) (fun cdv A outer s H vs Q E hr h=>?_)
 ·obtain ⟨n,rfl,hn,q⟩:=h
  rfl
 ·obtain ⟨n,rfl,hn,q⟩:=h
  have nd:=sc_number_thing.nd
  refine ⟨_,(pss_one (ps_ret (pe_callC c_characters_of hr pass0 (pa_cons (pe_fstr (PEs.cons pe_str (PEs.cons (pe_fv (pv 0)) PEs.nil))) pa_nil)))),?_⟩
  have b0:(Str.empty).cps.toList=[]:=by decide
  have b2:(Str.ofString "#").cps.toList=[35]:=by decide
  have w4:=num10_len (n:=n) (k:=5) (by decide) (by omega)
  have hz:sizeLine=16777216:=by decide
  have j3:(Str.empty ++ Str.ofString "#" ++ Str.ofString (toString (n:Int))).cps.toList=35 :: VhPage.num10 n:=by
   rw [str_app,str_app,b0,b2,num_text]; simp
  have jl:(Str.empty ++ Str.ofString "#" ++ Str.ofString (toString (n:Int))).length≤sizeLine:=by
   rw [str_len,j3,List.length_cons]; omega
  walk_at "rd"
  refine ⟨_,rfl,by decide,_,rfl,_,rfl,log_small (by omega),_,rfl,jl,jl,_,rfl,?_,fun H7 p7 hp7 k7 hl7=>?_⟩
  ·rw [← Array.length_toList,j3,List.length_cons]; omega
  ·rw [j3] at hl7
   exact q H7 p7 hp7 k7 hl7
def isWk (o:HO):Prop:=∀ C d f,o=.ins C d f→∃ s r h p w g e,f=wf s r h p w g e
theorem isWk.lst (xs:List V):isWk (.lst xs):=fun C d f z=>by cases z
theorem isWk.tup (xs:List V):isWk (.tup xs):=fun C d f z=>by cases z
theorem isWk.wk (C d:Addr) (s:VhPage.Settings) (r h p w g e:Addr):isWk (.ins C d (wf s r h p w g e)):=fun C d f z=>by cases z; exact ⟨_,_,_,_,_,_,_,rfl⟩
def KW (H H':Hp):Prop:=∀ b o,H b=some o→isWk o→H' b=some o
theorem KW.trans {H1 H2 H3:Hp} (k:KW H1 H2) (k':KW H2 H3):KW H1 H3:=fun b o h i=>k' b o (k b o h i) i
theorem _root_.L2.Kp.kw {H H':Hp} (k:Kp [] H H'):KW H H':=fun b o h _=>k b o h (by simp)
theorem _root_.L2.Kp.kwX {H H':Hp} {x:Addr} {o:HO} (k:Kp [x] H H') (hx:H x=some o) (n:¬ isWk o):KW H H':=fun b o' h i=>k b o' h (by
 simp only [List.mem_cons,List.not_mem_nil,or_false]
 intro z
 rw [z,hx] at h
 cases h
 exact n i)
theorem LI.keepW {H H':Hp} (k:KW H H') {x:List Nat} {v:V} (h:LI H x v):LI H' x v:=by
 obtain ⟨l,e,hl⟩:=h
 exact ⟨l,e,k _ _ hl (isWk.lst _)⟩
theorem RowsAt.keepW {H H':Hp} {rw:Addr} {rs:List (Nat × Nat × Nat)} (h:RowsAt H rw rs) (k:KW H H'):RowsAt H' rw rs:=by
 obtain ⟨us,h1,h2,h3⟩:=h
 exact ⟨us,k _ _ h1 (isWk.lst _),Paired.mono (fun x v ⟨t,e,ht⟩=>⟨t,e,k _ _ ht (isWk.tup _)⟩) h2,h3⟩
theorem WordsAt.keepW {H H':Hp} {wl:Addr} {wds:List (List Nat)} (h:WordsAt H wl wds) (k:KW H H'):WordsAt H' wl wds:=by
 obtain ⟨ws,h1,h2⟩:=h
 exact ⟨ws,k _ _ h1 (isWk.lst _),Paired.mono (fun x v z=>z.keepW k) h2⟩
theorem TailsAt.keepW {H H':Hp} {tl:Addr} {r:Nat} {xs:List Nat} (h:TailsAt H tl r xs) (k:KW H H'):TailsAt H' tl r xs:=by
 obtain ⟨us,h1,h2,h3⟩:=h
 refine ⟨us,k _ _ h1 (isWk.lst _),h2,fun e a1 a2=>?_⟩
 obtain ⟨v,hv,t,e1,ht⟩:=h3 e a1 a2
 exact ⟨v,hv,t,e1,k _ _ ht (isWk.tup _)⟩
theorem WRep.keepW {H H':Hp} {wk:Addr} {wo:VhPage.Work} {hb:List UInt8} (h:WRep a H wk wo hb) (k:KW H H'):WRep a H' wk wo hb:=by
 obtain ⟨dw,aR,aH,aP,aW,aS,aE,rs,ps,ws,gs,es,h1,h2,h3,h4,h5,h6,h7,h8,h9,h10,h11,h12,h13⟩:=h
 have kl:∀ {b xs},H b=some (.lst xs)→H' b=some (.lst xs):=fun h=>k _ _ h (isWk.lst _)
 have kt:∀ {b xs},H b=some (.tup xs)→H' b=some (.tup xs):=fun h=>k _ _ h (isWk.tup _)
 refine ⟨dw,aR,aH,aP,aW,aS,aE,rs,ps,ws,gs,es,k _ _ h1 (isWk.wk _ _ _ _ _ _ _ _ _),kl h2,Paired.mono (fun x v ⟨t,e,ht⟩=>⟨t,e,kt ht⟩) h3,kl h4,kl h5,Paired.mono (fun x v ⟨t,e,ht⟩=>⟨t,e,kt ht⟩) h6,kl h7,Paired.mono (fun x v z=>z.keepW k) h8,kl h9,h10,?_,kl h12,?_⟩
 ·intro i g hg
  obtain ⟨ts,t1,t2⟩:=h11 i g hg
  exact ⟨ts,kl t1,Paired.mono (fun x v z=>z.keepW k) t2⟩
 ·exact Paired.mono (fun x v ⟨t,l,us,e,t1,t2,t3⟩=>⟨t,l,us,e,kt t1,kl t2,Paired.mono (fun x v z=>z.keepW k) t3⟩) h13
def WkR (a:Ad) (H:Hp) (wk:Addr) (wo:VhPage.Work) (hb:List UInt8):Prop:=WRep a H wk wo hb∧RowsOk wo.widths∧wo.widths.length≤64
theorem WkR.keepW {H H':Hp} {wk:Addr} {wo:VhPage.Work} {hb:List UInt8} (h:WkR a H wk wo hb) (k:KW H H'):WkR a H' wk wo hb:=⟨h.1.keepW k,h.2⟩
theorem WkR.keep {H H':Hp} {wk:Addr} {wo:VhPage.Work} {hb:List UInt8} (h:WkR a H wk wo hb) (k:Kp [] H H'):WkR a H' wk wo hb:=h.keepW k.kw
def sp_first_room (K:PySem.W.Frag) (a:Ad):Sp:=fun vs H Q _=>∃ (wk:Addr) (wo:VhPage.Work) (hb:List UInt8) (n:Nat),vs=[.ref wk,.int (n:Int)]∧WkR a H wk wo hb∧n < 100000∧takesR wo.widths (35 :: VhPage.num10 n)≤wo.set.width ∧
 ∀ H',Kp [] H H'→Q (.int (wo.set.width - takesR wo.widths (35 :: VhPage.num10 n):Nat)) H'
abbrev s_first_room:Stmt:=top 20
theorem sc_first_room:FnScope ["work","number"] ["work","number"] (defScope s_first_room):=⟨rfl,rfl,rfl,by decide +kernel,rfl,by decide +kernel,by decide +kernel⟩
theorem ok_first_room {f:Addr} {fd:FuncData} (F:Fun K "first_room" "first_room" s_first_room f fd) (T:Txt K mg a) (c_cells_of_thing:FnC P w K mg base CX0 2 "cells_of_thing" ["rows","thing"] (sp_cells_of_thing K a)) (c_number_thing:FnC P w K mg base CX0 2 "number_thing" ["number"] (sp_number_thing K a)):FnOk P w K mg base CX0 3 f fd ["work","number"] (sp_first_room K a):=by
 refine F.ok sc_first_room (fun vs H Q E h=>?_) (fun cdv A outer s H vs Q E hr h=>?_)
 ·obtain ⟨wk,wo,hb,n,rfl,hw,hn,ht,q⟩:=h
  rfl
 ·obtain ⟨wk,wo,hb,n,rfl,hw,hn,ht,q⟩:=h
  have nd:=sc_first_room.nd
  refine ⟨_,(pss_one (ps_ret (pe_op op_sub (pe_fld (pv 0) rfl) (pe_callC c_cells_of_thing hr pass0 (pa_cons (pe_fld (pv 0) rfl) (pa_cons (pe_callC c_number_thing hr pass0 (pa_cons (pv 1) pa_nil)) pa_nil)))))),?_⟩
  have hw0:=hw
  obtain ⟨⟨dw,aR,aH,aP,aW,aS,aE,rs,ps,ws,gs,es,hWk,h2,h3,_⟩,ok,hl⟩:=hw
  have hWk2:=hWk
  have hR:=hWk
  have hR2:=hWk
  walk_at "wk"
  refine ⟨_,rfl,n,rfl,hn,fun H1 p hp k1 hl1=>⟨aR,p,wo.widths,_,rfl,RowsAt.keep ⟨rs,h2,h3,ok,hl⟩ k1,hl1,?_,fun H2 k2=>⟨_,rfl,_,rfl,?_⟩⟩⟩
  ·have w4:=num10_len (n:=n) (k:=5) (by decide) (by omega)
   rw [List.length_cons]; omega
  ·rw [show ((wo.set.width:Int) - (takesR wo.widths (35 :: VhPage.num10 n):Nat))=((wo.set.width - takesR wo.widths (35 :: VhPage.num10 n):Nat):Int) by omega]
   exact q H2 (k1.trans k2)
def nf (aT aK aL:Addr):List (Str × V):=putF "tails" (.ref aL) (putF "takes" (.ref aK) (putF "things" (.ref aT) []))
theorem nf_takes (t k l:Addr):(nf t k l).lookup ("takes":Str)=some (V.ref k):=by rfl
theorem nf_tails (t k l:Addr):(nf t k l).lookup ("tails":Str)=some (V.ref l):=by rfl
def noteTk (wo:VhPage.Work) (ts:List (List Nat)):List Nat:=0 :: ts.map (takesR wo.widths)
def NoteAt (a:Ad) (H:Hp) (x:Addr) (wo:VhPage.Work) (ts:List (List Nat)):Prop:=∃ dx aT aK aL,H x=some (.ins a.CN dx (nf aT aK aL))∧WordsAt H aT ts∧H aK=some (.lst (lV (noteTk wo ts)))∧TailsAt H aL wo.set.width (noteTk wo ts)∧ts.length≤100000
def sp_Note_init (K:PySem.W.Frag) (a:Ad):Sp:=fun vs H Q _=>∃ (x dx wk th:Addr) (wo:VhPage.Work) (hb:List UInt8) (ts:List (List Nat)),vs=[.ref x,.ref wk,.ref th]∧H x=some (.ins a.CN dx [])∧WkR a H wk wo hb∧wo.set.width≤240∧WordsAt H th ts∧ts.length≤100000∧(∀ t ∈ ts,t.length≤1048576) ∧
 ∀ H',Kp [x] H H'→NoteAt a H' x wo ts→Q .non H'
abbrev s_Note_init:Stmt:=inClass (top 18) 0
theorem sc_Note_init:FnScope ["self","work","things","thing"] ["self","work","things"] (defScope s_Note_init):=⟨rfl,rfl,rfl,by decide +kernel,rfl,by decide +kernel,by decide +kernel⟩
theorem bk_Note_init_0:BlkOk ["self","work","things","thing"] (defScope s_Note_init) (lcSc (exR (stVal (stI (defBody s_Note_init) 1)))) [("thing",3)]:=⟨rfl,by decide +kernel,by decide +kernel,by decide +kernel,by decide +kernel⟩
theorem ok_Note_init {f:Addr} {fd:FuncData} (F:Fun K "__init__" "Note.__init__" s_Note_init f fd) (T:Txt K mg a) (c_tails_of:FnC P w K mg base CX0 3 "tails_of" ["takes","room"] (sp_tails_of K a)) (c_cells_of_thing:FnC P w K mg base CX0 2 "cells_of_thing" ["rows","thing"] (sp_cells_of_thing K a)):FnOk P w K mg base CX0 4 f fd ["self","work","things"] (sp_Note_init K a):=by
 refine F.ok sc_Note_init (fun vs H Q E h=>?_) (fun cdv A outer s H vs Q E hr h=>?_)
 ·obtain ⟨x,dx,wk,th,wo,hb,ts,rfl,hR,hw,hW,hth,hts,htl,q⟩:=h
  rfl
 ·obtain ⟨x,dx,wk,th,wo,hb,ts,rfl,hR,hw,hW,hth,hts,htl,q⟩:=h
  have nd:=sc_Note_init.nd
  refine ⟨_,(pss_cons (ps_fld (pv 0) (pv 2) rfl) (pss_cons (ps_fld (pv 0) (pe_op op_cat (pe_lst (pa_cons pe_int pa_nil)) (pe_lc rfl nd (pi_list (pv 2)) bk_Note_init_0 (fun _ _ _ _ _=>(pg_name (i:=3) nd rfl (Or.inl rfl))) (fun _ _ _ _ _=>pts_nil) (fun _ _ _ _ _=>(pe_callC c_cells_of_thing hr pass0 (pa_cons (k_pe_fld (K:=K) rfl (pv 1) rfl) (pa_cons (pv 3) pa_nil)))))) rfl) (pss_one (ps_fld (pv 0) (pe_callC c_tails_of hr pass0 (pa_cons (pe_fld (pv 0) rfl) (pa_cons (pe_fld (pv 1) rfl) pa_nil))) rfl)))),?_⟩
  have hw0:=hw
  obtain ⟨⟨dw,aR,aH,aP,aW,aS,aE,rs,ps,ws,gs,es,hWk,h2,h3,_⟩,ok,hl⟩:=hw
  have hWk2:=hWk
  have hR2:=hR
  have hrow:RowsAt H aR wo.widths:=⟨rs,h2,h3,ok,hl⟩
  have nx:¬ isWk (.ins a.CN dx []):=fun z=>by obtain ⟨s,r,h,p,w,g,e,z⟩:=z _ _ _ rfl; cases z
  have xwk:wk≠x:=ne_of hWk hR (by intro z; injection z with _ _ z; cases z)
  obtain ⟨tv,hth1,hth2⟩:=hth
  have thx:th≠x:=ne_of hth1 hR (by intro z; cases z)
  have htv:=Paired.length hth2
  walk_at "wk"
  refine ⟨T.clNote,T.nN_things,by decide,by decide,fun p hp=>?_⟩
  have px:p≠x:=fun z=>by rw [z,upd_same] at hp; cases hp
  have hp0:H p=none:=by rw [upd_ne px] at hp; exact hp
  have k0:Kp [x] H (upd H x (HO.ins a.CN dx (putF "things" (V.ref th) []))):=Kp.put (by simp)
  have k1:Kp [x] H (upd (upd H x (HO.ins a.CN dx (putF "things" (V.ref th) []))) p (HO.lst [V.int 0])):=k0.trans (Kp.new hp)
  have hx1:upd (upd H x (HO.ins a.CN dx (putF "things" (V.ref th) []))) p (HO.lst [V.int 0]) x=some (HO.ins a.CN dx (putF "things" (V.ref th) [])):=by rw [upd_ne (Ne.symm px),upd_same]
  have hp1:upd (upd H x (HO.ins a.CN dx (putF "things" (V.ref th) []))) p (HO.lst [V.int 0]) p=some (HO.lst [V.int 0]):=upd_same
  generalize upd (upd H x (HO.ins a.CN dx (putF "things" (V.ref th) []))) p (HO.lst [V.int 0])=H1 at *
  have kw1:=k1.kwX hR nx
  have hth':=kw1 _ _ hth1 (isWk.lst _)
  refine ⟨_,rfl,th,rfl,⟨_,.inl (.inl hth')⟩,fun D hD=>?_⟩
  have Dx:x≠D:=ne_of_none hx1 hD
  have Dp:p≠D:=ne_of_none hp1 hD
  have hD0:H D=none:=k1.free (by simp [Ne.symm Dx]) hD
  obtain ⟨Pv,hPv⟩:∃ Pv:Nat→Hp→Prop,Pv=fun i H'=>Kp [] H1 H'∧H' D=some (.lst (lV ((ts.map (takesR wo.widths)).take i))):=⟨_,rfl⟩
  refine lc_list (xs:=tv) Pv ?_ ?_ ?_ ?_
  ·rw [hPv]
   exact ⟨Kp.new hD,upd_same⟩
  ·intro i H' _ hw'
   rw [hPv] at hw'
   exact .inl (.inl (hw'.1 _ _ hth' (by simp)))
  ·intro i v H2 hi hw'
   rw [hPv] at hw'
   obtain ⟨k2,hD2⟩:=hw'
   have kw2:=kw1.trans k2.kw
   obtain ⟨t,ht,l,rfl,hlt⟩:=Paired.get hth2 hi
   have hWk':=kw2 _ _ hWk (isWk.wk _ _ _ _ _ _ _ _ _)
   refine ⟨rfl,?_⟩
   simp only [tYes]
   refine ⟨_,rfl,wk,a.CW,dw,_,_,rfl,hWk',T.clWork,T.n_rows,wf_rows wo.set aR aH aP aW aS aE,_,rfl,aR,l,wo.widths,t,rfl,hrow.keepW kw2,kw2 _ _ hlt (isWk.lst _),htl t (List.mem_of_getElem? ht),fun H3 k3=>?_⟩
   have hil:i < ts.length:=(List.getElem?_eq_some_iff.mp ht).1
   refine ⟨_,k3 _ _ hD2 (by simp),by rw [lV_len,List.length_take]; exact Nat.lt_of_le_of_lt (Nat.min_le_left _ _) (Nat.lt_of_lt_of_le (Nat.lt_of_lt_of_le hil hts) (by decide)),?_⟩
   rw [hPv]
   refine ⟨(k2.trans k3).put2 (.inr hD),?_⟩
   rw [upd_same,take_snoc' (x:=takesR wo.widths t) (by rw [List.getElem?_map,ht]; rfl)]
   unfold lV
   rw [List.map_append]; rfl
  ·intro H2 hw'
   rw [hPv] at hw'
   obtain ⟨k2,hD2⟩:=hw'
   rw [← htv,List.take_of_length_le (by simp)] at hD2
   have hp2:=k2 _ _ hp1 (by simp)
   have hx2:=k2 _ _ hx1 (by simp)
   have hlt:(ts.map (takesR wo.widths)).length≤100000:=by rw [List.length_map]; exact hts
   have hz:sizeLine=16777216:=by decide
   refine ⟨p,D,_,_,rfl,rfl,hp2,hD2,by rw [lV_len]; simp only [List.length_cons,List.length_nil]; omega,fun E0' hE=>?_⟩
   have eK:[V.int 0] ++ lV (ts.map (takesR wo.widths))=lV (noteTk wo ts):=rfl
   rw [eK]
   have Ex:x≠E0':=ne_of_none hx2 hE
   have k12:=(k1.trans (k2.mono (by simp))).trans (Kp.new (o:=HO.lst (lV (noteTk wo ts))) hE)
   have k3:Kp [x] H (upd (upd H2 E0' (HO.lst (lV (noteTk wo ts)))) x (HO.ins a.CN dx (putF "takes" (V.ref E0') (putF "things" (V.ref th) [])))):=k12.put2 (.inl (by simp))
   have kw3:=k3.kwX hR nx
   have hWk3:=kw3 _ _ hWk (isWk.wk _ _ _ _ _ _ _ _ _)
   have hE3:upd (upd H2 E0' (HO.lst (lV (noteTk wo ts)))) x (HO.ins a.CN dx (putF "takes" (V.ref E0') (putF "things" (V.ref th) []))) E0'=some (.lst (lV (noteTk wo ts))):=by rw [upd_ne (Ne.symm Ex),upd_same]
   refine ⟨a.CN,dx,putF "things" (V.ref th) [],by rw [upd_ne Ex]; exact hx2,T.clNote,T.nN_takes,(show (1:Nat) < 1000 by decide),T.clNote,T.nN_takes,_,rfl,_,_,_,hWk3,T.clWork,T.n_width,_,rfl,E0',noteTk wo ts,wo.set.width,rfl,hE3,?_,?_,by omega,fun H4 p4 hp4 k4 hT4=>?_⟩
   ·unfold noteTk; simp
   ·unfold noteTk; rw [List.length_cons]; omega
   have hx4:=k4 _ _ (upd_same:upd (upd H2 E0' (HO.lst (lV (noteTk wo ts)))) x (HO.ins a.CN dx (putF "takes" (V.ref E0') (putF "things" (V.ref th) []))) x=_) (by simp)
   have hE4:=k4 _ _ hE3 (by simp)
   have k5:=k3.trans (k4.mono (by simp))
   have k6:Kp [x] H (upd H4 x (HO.ins a.CN dx (putF "tails" (V.ref p4) (putF "takes" (V.ref E0') (putF "things" (V.ref th) []))))):=k5.put2 (.inl (by simp))
   have nx4:¬ isWk (HO.ins a.CN dx (putF "takes" (V.ref E0') (putF "things" (V.ref th) []))):=fun z=>by
    obtain ⟨s,r,h,p,w,g,e,z⟩:=z _ _ _ rfl
    have:=congrArg List.length z
    cases this
   have kw46:KW H4 (upd H4 x (HO.ins a.CN dx (putF "tails" (V.ref p4) (putF "takes" (V.ref E0') (putF "things" (V.ref th) []))))):=(Kp.put (S:=[x]) (by simp)).kwX hx4 nx4
   refine ⟨_,_,_,hx4,T.clNote,T.nN_tails,(show (2:Nat) < 1000 by decide),q _ k6 ⟨dx,th,E0',p4,upd_same,WordsAt.keepW ⟨tv,hth1,hth2⟩ (k6.kwX hR nx),kw46 _ _ hE4 (isWk.lst _),hT4.keepW kw46,hts⟩⟩
theorem NoteAt.keepW {H H':Hp} {x:Addr} {wo:VhPage.Work} {ts:List (List Nat)} (h:NoteAt a H x wo ts) (k:KW H H') (hx:H' x=H x):NoteAt a H' x wo ts:=by
 obtain ⟨dx,aT,aK,aL,h1,h2,h3,h4,h5⟩:=h
 exact ⟨dx,aT,aK,aL,by rw [hx]; exact h1,h2.keepW k,k _ _ h3 (isWk.lst _),h4.keepW k,h5⟩
theorem NoteAt.keep {H H':Hp} {x:Addr} {wo:VhPage.Work} {ts:List (List Nat)} (h:NoteAt a H x wo ts) (k:Kp [] H H'):NoteAt a H' x wo ts:=by
 have h0:=h
 obtain ⟨dx,aT,aK,aL,h1,_⟩:=h0
 exact h.keepW k.kw (by rw [h1]; exact k _ _ h1 (by simp))
def footN (wo:VhPage.Work) (ts:List (List Nat)) (n:Nat):List Nat:=VhPage.broken wo.set.width wo.set.width (((35 :: VhPage.num10 n) :: ts).map (takesR wo.widths))
def sp_count_foot_lines (K:PySem.W.Frag) (a:Ad):Sp:=fun vs H Q _=>∃ (wk nt:Addr) (wo:VhPage.Work) (hb:List UInt8) (ts:List (List Nat)) (n:Nat),vs=[.ref wk,.ref nt,.int (n:Int)]∧WkR a H wk wo hb∧wo.set.width≤240∧NoteAt a H nt wo ts∧n < 100000∧takesR wo.widths (35 :: VhPage.num10 n)≤wo.set.width ∧
 ∀ H',Kp [] H H'→Q (.int ((footN wo ts n).length:Nat)) H'
abbrev s_count_foot_lines:Stmt:=top 21
theorem sc_count_foot_lines:FnScope ["work","note","number"] ["work","note","number"] (defScope s_count_foot_lines):=⟨rfl,rfl,rfl,by decide +kernel,rfl,by decide +kernel,by decide +kernel⟩
theorem ok_count_foot_lines {f:Addr} {fd:FuncData} (F:Fun K "count_foot_lines" "count_foot_lines" s_count_foot_lines f fd) (T:Txt K mg a) (c_best_from:FnC P w K mg base CX0 2 "best_from" ["takes","tails","start","room"] (sp_best_from K a)) (c_first_room:FnC P w K mg base CX0 3 "first_room" ["work","number"] (sp_first_room K a)):FnOk P w K mg base CX0 4 f fd ["work","note","number"] (sp_count_foot_lines K a):=by
 refine F.ok sc_count_foot_lines (fun vs H Q E h=>?_) (fun cdv A outer s H vs Q E hr h=>?_)
 ·obtain ⟨wk,nt,wo,hb,ts,n,rfl,hw,hW,hN,hn,ht,q⟩:=h
  rfl
 ·obtain ⟨wk,nt,wo,hb,ts,n,rfl,hw,hW,hN,hn,ht,q⟩:=h
  have nd:=sc_count_foot_lines.nd
  refine ⟨_,(pss_one (ps_ret (pe_ix ix_tup (pe_callC c_best_from hr pass0 (pa_cons (pe_fld (pv 1) rfl) (pa_cons (pe_fld (pv 1) rfl) (pa_cons pe_int (pa_cons (pe_callC c_first_room hr pass0 (pa_cons (pv 0) (pa_cons (pv 2) pa_nil))) pa_nil))))) pe_int (fun _ _=>rfl)))),?_⟩
  have hN0:=hN
  obtain ⟨dx,aT,aK,aL,hR,hT1,hK,hL,hl⟩:=hN
  have hR2:=hR
  have hWk:=hR
  have hWk2:=hR
  have hlen:0 < (noteTk wo ts).length:=by unfold noteTk; simp
  walk_at "wk"
  refine ⟨T.clNote,T.nN_takes,_,nf_takes aT aK aL,T.clNote,T.nN_tails,_,nf_tails aT aK aL,?_⟩
  refine ⟨wk,wo,hb,n,rfl,hw,hn,ht,fun H1 k1=>?_⟩
  obtain ⟨us,htl,hul,hT⟩:=hL.keepW k1.kw
  refine ⟨aK,aL,us,noteTk wo ts,0,_,wo.set.width,rfl,k1 _ _ hK (by simp),htl,hlen,by omega,fun e h1 h2=>hT e h1 h2,fun p hp=>⟨p,rfl,_,.inl (.inl upd_same),_,rfl,?_⟩⟩
  rw [Nat.zero_add,← broken_len _ _ _ hlen]
  have e:VhPage.broken (wo.set.width - takesR wo.widths (35 :: VhPage.num10 n)) wo.set.width (noteTk wo ts)=footN wo ts n:=broken_note ht _
  rw [e]
  exact q _ (k1.trans (Kp.new hp))
end
section
variable {P:Program} {w:World} {K:PySem.W.Frag} {mg:Str→Option Value} {base:Heap} {a:Ad}
theorem cut_mid (us:List V) {x y:Nat} (h:y≤us.length) (h':x≤y):cutV us (some (x:Int)) (some (y:Int))=(us.drop x).take (y - x):=by
 unfold cutV
 rw [HT.sIx_nat,HT.sIx_nat,Nat.min_eq_left h,Nat.min_eq_left (Nat.le_trans h' h)]
def upTo (br:List Nat) (i:Nat):Nat:=(br.take i).sum
theorem sums_get:∀ (br:List Nat) (s i:Nat),i < br.length→(sums s br)[i]?=some (s + upTo br (i + 1))
 | [],_,_,h=>by simp at h
 | c :: br,s,0,_=>by simp [sums,upTo]
 | c :: br,s,i + 1,h=>by
  rw [sums,List.getElem?_cons_succ,sums_get br (s + c) i (by simpa using h)]
  simp [upTo,List.take_succ_cons]; omega
theorem upTo_succ (br:List Nat) {i c:Nat} (h:br[i]?=some c):upTo br (i + 1)=upTo br i + c:=by
 unfold upTo; rw [take_snoc' h]; simp
theorem upTo_le (br:List Nat) (i:Nat):upTo br i≤br.sum:=by
 unfold upTo
 have:=List.take_append_drop i br
 have h2:((br.take i) ++ (br.drop i)).sum=br.sum:=by rw [this]
 rw [List.sum_append] at h2; omega
end
section
variable {P:Program} {w:World} {K:PySem.W.Frag} {mg:Str→Option Value} {base:Heap} {a:Ad}
def lnf (f e:Nat) (o c:Bool) (t:Nat) (n:V):List (Str × V):=[("first",.int (f:Int)),("end",.int (e:Int)),("opens",.bl o),("closes",.bl c),("taken",.int (t:Int)),("note",n)]
theorem lnf_first (f e:Nat) (o c:Bool) (t:Nat) (n:V):(lnf f e o c t n).lookup ("first":Str)=some (.int (f:Int)):=by rfl
theorem lnf_end (f e:Nat) (o c:Bool) (t:Nat) (n:V):(lnf f e o c t n).lookup ("end":Str)=some (.int (e:Int)):=by rfl
theorem lnf_opens (f e:Nat) (o c:Bool) (t:Nat) (n:V):(lnf f e o c t n).lookup ("opens":Str)=some (.bl o):=by rfl
theorem lnf_closes (f e:Nat) (o c:Bool) (t:Nat) (n:V):(lnf f e o c t n).lookup ("closes":Str)=some (.bl c):=by rfl
theorem lnf_taken (f e:Nat) (o c:Bool) (t:Nat) (n:V):(lnf f e o c t n).lookup ("taken":Str)=some (.int (t:Int)):=by rfl
theorem lnf_note (f e:Nat) (o c:Bool) (t:Nat) (n:V):(lnf f e o c t n).lookup ("note":Str)=some n:=by rfl
theorem lnf_put (f e:Nat) (o c:Bool) (t:Nat) (n n':V):putF "note" n' (lnf f e o c t n)=lnf f e o c t n':=by rfl
def sp_Line_init (K:PySem.W.Frag) (a:Ad):Sp:=fun vs H Q _=>∃ (x dx:Addr) (f e:Nat) (o c:Bool) (t:Nat),vs=[.ref x,.int (f:Int),.int (e:Int),.bl o,.bl c,.int (t:Int)]∧H x=some (.ins a.CL dx [])∧Q .non (upd H x (.ins a.CL dx (lnf f e o c t .non)))
abbrev s_Line_init:Stmt:=inClass (top 23) 0
theorem sc_Line_init:FnScope ["self","first","end","opens","closes","taken"] ["self","first","end","opens","closes","taken"] (defScope s_Line_init):=⟨rfl,rfl,rfl,by decide +kernel,rfl,by decide +kernel,by decide +kernel⟩
theorem ok_Line_init {f:Addr} {fd:FuncData} (F:Fun K "__init__" "Line.__init__" s_Line_init f fd) (T:Txt K mg a):FnOk P w K mg base CX0 1 f fd ["self","first","end","opens","closes","taken"] (sp_Line_init K a):=by
 refine F.ok sc_Line_init (fun vs H Q E h=>?_) (fun cdv A outer s H vs Q E hr h=>?_)
 ·obtain ⟨x,dx,f,e,o,c,t,rfl,hR,q⟩:=h
  rfl
 ·obtain ⟨x,dx,f,e,o,c,t,rfl,hR,q⟩:=h
  have nd:=sc_Line_init.nd
  refine ⟨_,(pss_cons (ps_fld (pv 0) (pv 1) rfl) (pss_cons (ps_fld (pv 0) (pv 2) rfl) (pss_cons (ps_fld (pv 0) (pv 3) rfl) (pss_cons (ps_fld (pv 0) (pv 4) rfl) (pss_cons (ps_fld (pv 0) (pv 5) rfl) (pss_one (ps_fld (pv 0) pe_non rfl))))))),?_⟩
  have hR2:=hR
  have hWk:=hR
  have hWk2:=hR
  walk_at "wk"
  refine ⟨T.clLine,T.nL_first,(show (0:Nat) < 1000 by decide),T.clLine,T.nL_end,(show (1:Nat) < 1000 by decide),T.clLine,T.nL_opens,(show (2:Nat) < 1000 by decide),T.clLine,T.nL_closes,(show (3:Nat) < 1000 by decide),T.clLine,T.nL_taken,(show (4:Nat) < 1000 by decide),T.clLine,T.nL_note,(show (5:Nat) < 1000 by decide),?_⟩
  simp only [upd_upd]
  exact q
abbrev wtk (wo:VhPage.Work) (k:Nat):Nat:=wtkS wo k
def sp_word_takes (K:PySem.W.Frag) (a:Ad):Sp:=fun vs H Q _=>∃ (wk:Addr) (wo:VhPage.Work) (hb:List UInt8) (k:Nat),vs=[.ref wk,.int (k:Int)]∧WkR a H wk wo hb∧k < wo.paras.flatten.length∧(∀ x ∈ wo.paras.flatten,x.length≤64) ∧
 ∀ H',Kp [] H H'→Q (.int (wtk wo k:Nat)) H'
abbrev s_word_takes:Stmt:=top 24
theorem sc_word_takes:FnScope ["work","k"] ["work","k"] (defScope s_word_takes):=⟨rfl,rfl,rfl,by decide +kernel,rfl,by decide +kernel,by decide +kernel⟩
theorem ok_word_takes {f:Addr} {fd:FuncData} (F:Fun K "word_takes" "word_takes" s_word_takes f fd) (T:Txt K mg a) (c_cells_of_thing:FnC P w K mg base CX0 2 "cells_of_thing" ["rows","thing"] (sp_cells_of_thing K a)):FnOk P w K mg base CX0 3 f fd ["work","k"] (sp_word_takes K a):=by
 refine F.ok sc_word_takes (fun vs H Q E h=>?_) (fun cdv A outer s H vs Q E hr h=>?_)
 ·obtain ⟨wk,wo,hb,k,rfl,hw,hk,h5,q⟩:=h
  rfl
 ·obtain ⟨wk,wo,hb,k,rfl,hw,hk,h5,q⟩:=h
  have nd:=sc_word_takes.nd
  refine ⟨_,(pss_one (ps_ret (pe_op op_add (pe_callC c_cells_of_thing hr pass0 (pa_cons (pe_fld (pv 0) rfl) (pa_cons (pe_ix ix_list (pe_fld (pv 0) rfl) (pv 1) (fun _ _=>rfl)) pa_nil))) (pe_callB call_len_seq rfl T.len PySem.boot_len (pa_cons (pe_ix ix_list (pe_fld (pv 0) rfl) (pv 1) (fun _ _=>rfl)) pa_nil))))),?_⟩
  have hw0:=hw
  obtain ⟨⟨dw,aR,aH,aP,aW,aS,aE,rs,ps,ws,gs,es,hWk,h2,h3,h4,h6,h7,h8,h9,h10,h11,h12,_⟩,ok,hl⟩:=hw
  have hWk2:=hWk
  have hR:=hWk
  have hR2:=hWk
  walk_at "wk"
  obtain ⟨ws',l,g1,g2,g3⟩:=WordsAt.get ⟨ws,h8,h9⟩ hk
  have hkg:k < gs.length:=by omega
  obtain ⟨g,hg⟩:∃ g,gs[k]?=some g:=⟨gs[k],List.getElem?_eq_getElem hkg⟩
  obtain ⟨tv,t1,t2⟩:=h12 k g hg
  have htl:=Paired.length t2
  refine ⟨_,.inl (.inl g1),_,atI_nat g2,aR,l,wo.widths,_,rfl,⟨rs,h2,h3,ok,hl⟩,g3,Nat.le_trans (wd_len h5 k) (by decide),fun H1 k1=>?_⟩
  refine ⟨_,_,_,k1 _ _ hWk (by simp),T.clWork,T.n_signs,_,wf_signs wo.set aR aH aP aW aS aE,aS,rfl,_,.inl (.inl (k1 _ _ h10 (by simp))),_,atI_nat (v:=V.ref g) (by rw [List.getElem?_map,hg]; rfl),g,rfl,_,.inl (.inl (.inl (k1 _ _ t1 (by simp)))),_,rfl,?_⟩
  rw [← htl,List.length_map]
  exact q H1 k1
def roomN (wo:VhPage.Work) (o:Bool):Nat:=if o=true then wo.set.width - wo.set.indent else wo.set.width
def sp_room_of (K:PySem.W.Frag) (a:Ad):Sp:=fun vs H Q _=>∃ (wk:Addr) (wo:VhPage.Work) (hb:List UInt8) (o:Bool),vs=[.ref wk,.bl o]∧WkR a H wk wo hb∧wo.set.indent≤wo.set.width∧Q (.int (roomN wo o:Nat)) H
abbrev s_room_of:Stmt:=top 25
theorem sc_room_of:FnScope ["work","opens"] ["work","opens"] (defScope s_room_of):=⟨rfl,rfl,rfl,by decide +kernel,rfl,by decide +kernel,by decide +kernel⟩
theorem ok_room_of {f:Addr} {fd:FuncData} (F:Fun K "room_of" "room_of" s_room_of f fd) (T:Txt K mg a):FnOk P w K mg base CX0 1 f fd ["work","opens"] (sp_room_of K a):=by
 refine F.ok sc_room_of (fun vs H Q E h=>?_) (fun cdv A outer s H vs Q E hr h=>?_)
 ·obtain ⟨wk,wo,hb,o,rfl,hw,hI,q⟩:=h
  rfl
 ·obtain ⟨wk,wo,hb,o,rfl,hw,hI,q⟩:=h
  have nd:=sc_room_of.nd
  refine ⟨_,(pss_cons (ps_if (pt_truth (pv 1) (fun _=>rfl)) (pss_one (ps_ret (pe_op op_sub (pe_fld (pv 0) rfl) (pe_fld (pv 0) rfl)))) pss_nil) (pss_one (ps_ret (pe_fld (pv 0) rfl)))),?_⟩
  obtain ⟨⟨dw,aR,aH,aP,aW,aS,aE,rs,ps,ws,gs,es,hWk,_⟩,_⟩:=hw
  have hWk2:=hWk
  have hR:=hWk
  have hR2:=hWk
  unfold roomN at q
  walk_at "wk"
  refine ⟨o,rfl,?_⟩
  cases o
  ·rw [if_neg (by decide)] at *
   walk_at "wk"
   refine ⟨_,rfl,?_⟩
   exact q
  ·rw [if_pos rfl] at *
   walk_at "wk"
   refine ⟨_,rfl,_,rfl,_,rfl,_,rfl,?_⟩
   have ew:(wo.set.width:Int) - (wo.set.indent:Int)=((wo.set.width - wo.set.indent:Nat):Int):=by omega
   rw [ew]
   exact q
def LineI (a:Ad) (H:Hp) (wo:VhPage.Work) (x:VhPage.Line) (v:V):Prop:=∃ l d,v=.ref l∧H l=some (.ins a.CL d (lnf x.first (x.first + x.count) x.begins x.ends (lineTk wo x) .non))
def paraTk (wo:VhPage.Work) (f e:Nat):List Nat:=(List.range (e - f)).map fun d=>wtk wo (f + d)
theorem rowLines_len:∀ (a:Nat) (b:Bool) (l:List Nat),(VhPage.rowLines a b l).length=l.length
 | _,_,[]=>rfl
 | a,b,c :: l=>by rw [VhPage.rowLines,List.length_cons,List.length_cons,rowLines_len]
theorem rowLines_get:∀ (br:List Nat) (a:Nat) (b:Bool) (i c:Nat),br[i]?=some c→(VhPage.rowLines a b br)[i]?=some ⟨a + upTo br i,c,(if i=0 then b else false),decide (i + 1=br.length)⟩
 | [],_,_,_,_,h=>by simp at h
 | d :: br,a,b,0,c,h=>by
  simp at h; subst h
  rw [VhPage.rowLines,List.getElem?_cons_zero]
  have e:br.isEmpty=decide (0 + 1=(d :: br).length):=by cases br <;> simp
  rw [e]; simp [upTo]
 | d :: br,a,b,i + 1,c,h=>by
  rw [VhPage.rowLines,List.getElem?_cons_succ,rowLines_get br (a + d) false i c (by simpa using h)]
  have e1:a + d + upTo br i=a + upTo (d :: br) (i + 1):=by unfold upTo; rw [List.take_succ_cons,List.sum_cons]; omega
  have e2:decide (i + 1=br.length)=decide (i + 1 + 1=(d :: br).length):=decide_eq_decide.mpr (by rw [List.length_cons]; omega)
  rw [e1,e2]; simp
theorem upTo_ge {br:List Nat} (h:∀ c ∈ br,1≤c) {i:Nat} (hi:i≤br.length):i≤upTo br i:=by
 induction i with
 | zero=>exact Nat.zero_le _
 | succ i ih =>
  have hc:br[i]?=some br[i]:=List.getElem?_eq_getElem (by omega)
  have:=h _ (List.getElem_mem (l:=br) (n:=i) (by omega))
  have:=ih (by omega)
  rw [upTo_succ br hc]; omega
theorem upTo_last {br:List Nat} (h:∀ c ∈ br,1≤c) {i:Nat} (hi:i≤br.length):upTo br i=br.sum↔i=br.length:=by
 constructor
 ·intro e
  by_cases z:i=br.length
  ·exact z
  ·have hc:br[i]?=some br[i]:=List.getElem?_eq_getElem (by omega)
   have h1:=h _ (List.getElem_mem (l:=br) (n:=i) (by omega))
   have h2:=upTo_succ br hc
   have h3:=upTo_le br (i + 1)
   omega
 ·intro e
  subst e
  unfold upTo; rw [List.take_of_length_le (Nat.le_refl _)]
theorem spots_para (wo:VhPage.Work) (f0 e0 up c:Nat) (b e:Bool) (h:up + c≤e0 - f0):(VhPage.Line.spots ⟨f0 + up,c,b,e⟩).map (wtkS wo)=((paraTk wo f0 e0).drop up).take c:=by
 apply List.ext_getElem?
 intro k
 unfold VhPage.Line.spots paraTk
 rw [List.map_map]
 by_cases hk:k < c
 ·rw [List.getElem?_take_of_lt hk,List.getElem?_map,List.getElem?_range hk,List.getElem?_drop,List.getElem?_map,List.getElem?_range (by omega)]
  show some (wtkS wo (f0 + up + k))=some (wtkS wo (f0 + (up + k)))
  rw [Nat.add_assoc]
 ·rw [List.getElem?_eq_none (by rw [List.length_map,List.length_range]; exact Nat.le_of_not_lt hk),List.getElem?_eq_none (by rw [List.length_take]; omega)]
theorem sum_cast:∀ l:List Nat,(l.map fun (n:Nat)=>(n:Int)).sum=((l.sum:Nat):Int)
 | []=>rfl
 | x :: l=>by rw [List.map_cons,List.sum_cons,List.sum_cons,sum_cast l]; omega
def sp_lines_of_paragraph (K:PySem.W.Frag) (a:Ad):Sp:=fun vs H Q _=>∃ (wk:Addr) (wo:VhPage.Work) (hb:List UInt8) (f e:Nat),vs=[.ref wk,.int (f:Int),.int (e:Int)]∧WkR a H wk wo hb∧f < e∧e≤wo.paras.flatten.length∧wo.paras.flatten.length≤8192∧(∀ x ∈ wo.paras.flatten,x.length≤64)∧wo.set.width≤240∧wo.set.indent≤wo.set.width ∧
 ∀ H' p us,H p=none→Kp [] H H'→H' p=some (.lst us)→Paired (fun x v=>LineI a H' wo x v∧∀ l,v=.ref l→H l=none) (VhPage.rowLines f true (VhPage.broken (wo.set.width - wo.set.indent) wo.set.width (paraTk wo f e))) us→(us.Nodup)→Q (.ref p) H'
abbrev s_lines_of_paragraph:Stmt:=top 27
theorem sc_lines_of_paragraph:FnScope ["work","first","end","takes","k","tails","lines","start","line_end","taken"] ["work","first","end"] (defScope s_lines_of_paragraph):=⟨rfl,rfl,rfl,by decide +kernel,rfl,by decide +kernel,by decide +kernel⟩
theorem bk_lines_of_paragraph_0:BlkOk ["work","first","end","takes","k","tails","lines","start","line_end","taken"] (defScope s_lines_of_paragraph) (lcSc (stVal (stI (defBody s_lines_of_paragraph) 0))) [("k",4)]:=⟨rfl,by decide +kernel,by decide +kernel,by decide +kernel,by decide +kernel⟩
theorem ok_lines_of_paragraph {f:Addr} {fd:FuncData} (F:Fun K "lines_of_paragraph" "lines_of_paragraph" s_lines_of_paragraph f fd) (T:Txt K mg a) (c_tails_of:FnC P w K mg base CX0 3 "tails_of" ["takes","room"] (sp_tails_of K a)) (c_ends_of:FnC P w K mg base CX0 3 "ends_of" ["takes","tails","first_room"] (sp_ends_of K a)) (c_word_takes:FnC P w K mg base CX0 3 "word_takes" ["work","k"] (sp_word_takes K a)) (c_room_of:FnC P w K mg base CX0 1 "room_of" ["work","opens"] (sp_room_of K a)) (c_Line_init:MakeC P w K mg base CX0 1 a.CL "Line" ["self","first","end","opens","closes","taken"] (sp_Line_init K a)):FnOk P w K mg base CX0 4 f fd ["work","first","end"] (sp_lines_of_paragraph K a):=by
 refine F.ok sc_lines_of_paragraph (fun vs H Q E h=>?_) (fun cdv A outer s H vs Q E hr h=>?_)
 ·obtain ⟨wk,wo,hb,f0,e0,rfl,hw,hfe,he,hn,h5,hW,hI,q⟩:=h
  rfl
 ·obtain ⟨wk,wo,hb,f0,e0,rfl,hw,hfe,he,hn,h5,hW,hI,q⟩:=h
  have nd:=sc_lines_of_paragraph.nd
  refine ⟨_,(pss_cons (ps_setLc (i:=3) rfl nd rfl rfl (sw_true rfl rfl rfl rfl) (pi_range2 rfl T.range (pa_cons (pv 1) (pa_cons (pv 2) pa_nil))) bk_lines_of_paragraph_0 (fun _ _ _ _ _=>(pg_name (i:=4) nd rfl (Or.inl rfl))) (fun _ _ _ _ _=>pts_nil) (fun _ _ _ _ _=>(pe_callC c_word_takes hr pass0 (pa_cons (pv 0) (pa_cons (pv 4) pa_nil))))) (pss_cons (ps_set (i:=5) nd rfl (Or.inl rfl) (pe_callC c_tails_of hr pass0 (pa_cons (pv 3) (pa_cons (pe_callC c_room_of hr pass0 (pa_cons (pv 0) (pa_cons pe_bl pa_nil))) pa_nil)))) (pss_cons (ps_set (i:=6) nd rfl (Or.inl rfl) (pe_lst pa_nil)) (pss_cons (ps_set (i:=7) nd rfl (Or.inl rfl) pe_int) (pss_cons (ps_for PassesOwn.never rfl (pi_list (pe_callC c_ends_of hr pass0 (pa_cons (pv 3) (pa_cons (pv 5) (pa_cons (pe_callC c_room_of hr pass0 (pa_cons (pv 0) (pa_cons pe_bl pa_nil))) pa_nil))))) (pg_name (i:=8) nd rfl (Or.inl rfl)) (pss_cons (ps_set (i:=9) nd rfl (Or.inl rfl) (pe_op op_sub (pe_op op_sub (pe_op op_add (pe_callB (cr_sum rfl) rfl T.sum boot_sum (pa_cons (pe_slice sl_list (pv 3) (po_some (pv 7)) (po_some (pv 8))) pa_nil)) (pv 8)) (pv 7)) pe_int)) (pss_cons (ps_expr (pe_bm PySem.F.plainAttrs_list PySem.F.slot_list_append PySem.F.type_list_append mt_append (pv 6) (pa_cons (pe_makeC c_Line_init hr pass0 (pa_cons (pe_op op_add (pv 1) (pv 7)) (pa_cons (pe_op op_add (pv 1) (pv 8)) (pa_cons (pe_cmpR op_eq (pv 7) pe_int (nomark _)) (pa_cons (pe_cmpR op_eq (pe_op op_add (pv 1) (pv 8)) (pv 2) (nomark _)) (pa_cons (pv 9) pa_nil)))))) pa_nil))) (pss_one (ps_set (i:=7) nd rfl (Or.inl rfl) (pv 8)))))) (pss_one (ps_ret (pv 6)))))))),?_⟩
  have hw0:=hw
  obtain ⟨⟨dw,aR,aH,aP,aW,aS,aE,rs,ps,ws,gs,es,hWk0,_⟩,ok,hl⟩:=hw
  have hz:sizeLine=16777216:=by decide
  refine ⟨_,rfl,_,rfl,_,_,rfl,⟨by omega,by omega,by omega,by omega⟩,fun D hD=>?_⟩
  have en:Int.toNat ((e0:Int) - (f0:Int))=e0 - f0:=by omega
  rw [en]
  obtain ⟨Pv,hPv⟩:∃ Pv:Nat→Hp→Prop,Pv=fun i H'=>Kp [] H H'∧H' D=some (.lst (lV ((List.range i).map fun d=>wtk wo (f0 + d)))):=⟨_,rfl⟩
  refine lc_range Pv ?_ ?_ ?_
  ·rw [hPv]
   exact ⟨Kp.new hD,upd_same⟩
  ·intro i H2 hi hw2
   rw [hPv] at hw2
   obtain ⟨k,hD2⟩:=hw2
   refine ⟨rfl,?_⟩
   have ei:(f0:Int) + (i:Int)=((f0 + i:Nat):Int):=by omega
   rw [ei]
   simp only [tYes]
   refine ⟨_,rfl,_,rfl,wk,wo,hb,f0 + i,rfl,hw0.keep k,by omega,h5,fun H3 k3=>?_⟩
   refine ⟨_,k3 _ _ hD2 (by simp),by rw [lV_len,List.length_map,List.length_range]; omega,?_⟩
   rw [hPv]
   refine ⟨(k.trans k3).put2 (.inr hD),?_⟩
   rw [upd_same,List.range_succ,List.map_append]
   unfold lV
   rw [List.map_append]; rfl
  ·intro H2 hw2
   rw [hPv] at hw2
   obtain ⟨k,hD2⟩:=hw2
   clear hPv Pv
   have hD2:H2 D=some (.lst (lV (paraTk wo f0 e0))):=hD2
   have hpl:(paraTk wo f0 e0).length=e0 - f0:=by unfold paraTk; simp
   walk_at "rd"
   refine ⟨wk,wo,hb,false,rfl,hw0.keep k,hI,D,paraTk wo f0 e0,wo.set.width,rfl,hD2,by omega,by omega,by omega,fun H3 p3 hp3 k3 hT3=>?_⟩
   walk_at "rd"
   refine ⟨by decide,fun p4 hp4=>?_⟩
   have k23:Kp [] H H3:=k.trans k3
   have k4:Kp [] H (upd H3 p4 (HO.lst [])):=k23.trans (Kp.new hp4)
   have hp0:H p4=none:=k23.free (by simp) hp4
   have hD4:upd H3 p4 (HO.lst []) D=some (.lst (lV (paraTk wo f0 e0))):=(Kp.new (S:=[]) hp4) _ _ (k3 _ _ hD2 (by simp)) (by simp)
   have hT4:TailsAt (upd H3 p4 (HO.lst [])) p3 wo.set.width (paraTk wo f0 e0):=hT3.keepW (Kp.new (S:=[]) hp4).kw
   refine ⟨_,rfl,_,rfl,_,rfl,wk,wo,hb,true,rfl,hw0.keep k4,hI,D,p3,paraTk wo f0 e0,wo.set.width - wo.set.indent,wo.set.width,rfl,hD4,hT4,by omega,by omega,by omega,fun H5 p5 hp5 k5 hl5=>?_⟩
   have hsum:=broken_sum (wo.set.width - wo.set.indent) wo.set.width (paraTk wo f0 e0) (by omega)
   have hpos:=broken_pos (wo.set.width - wo.set.indent) wo.set.width (paraTk wo f0 e0) (by omega)
   rw [hpl] at hsum
   have k45:=k4.trans k5
   have hp45:H5 p4=some (.lst []):=k5 _ _ upd_same (by simp)
   have hD5:H5 D=some (.lst (lV (paraTk wo f0 e0))):=k5 _ _ hD4 (by simp)
   have p45:p5≠p4:=fun z=>by rw [z,upd_same] at hp5; cases hp5
   have p4D:D≠p4:=fun z=>by rw [← z,k3 _ _ hD2 (by simp)] at hp4; cases hp4
   generalize VhPage.broken (wo.set.width - wo.set.indent) wo.set.width (paraTk wo f0 e0)=br at *
   obtain ⟨Pv,hPv⟩:∃ Pv:WT,Pv=fun i σ H'=>∃ o o2:Option V,σ=[some (.ref wk),some (.int (f0:Int)),some (.int (e0:Int)),some (.ref D),none,some (.ref p3),some (.ref p4),some (.int (upTo br i:Nat)),o,o2]∧Kp [] H H'∧Kp [p4] H5 H'∧∃ us,H' p4=some (.lst us)∧Paired (fun x v=>LineI a H' wo x v∧∀ l,v=.ref l→H l=none) ((VhPage.rowLines f0 true br).take i) us∧us.Nodup:=⟨_,rfl⟩
   refine ⟨p5,rfl,⟨_,.inl (.inl hl5)⟩,for_list (xs:=lV (sums 0 br)) Pv ?_ ?_ ?_ ?_⟩
   ·rw [hPv]
    exact ⟨none,none,rfl,k45,Kp.refl,[],hp45,.nil,List.nodup_nil⟩
   ·intro i σ H' _ hw'
    rw [hPv] at hw'
    obtain ⟨o,o2,rfl,k,k',_⟩:=hw'
    exact .inl (.inl (k' _ _ hl5 (by simp [p45])))
   ·intro i v σ H7 hi hw'
    rw [hPv] at hw'
    obtain ⟨o,o2,rfl,k7,k7',us,hus,hP,hnd⟩:=hw'
    obtain ⟨e,he',rfl⟩:=lV_get hi
    have hib:i < br.length:=by
     have:=(List.getElem?_eq_some_iff.mp he').1
     rw [sums_len] at this; exact this
    obtain ⟨c,hc⟩:∃ c,br[i]?=some c:=⟨br[i],List.getElem?_eq_getElem hib⟩
    rw [sums_get br 0 i hib,Nat.zero_add] at he'
    have he2:upTo br (i + 1)=e:=by simpa using he'
    have hsu:=upTo_succ br hc
    have hul:=upTo_le br (i + 1)
    have hcp:=hpos c (List.mem_of_getElem? hc)
    have hD7:H7 D=some (.lst (lV (paraTk wo f0 e0))):=k7' _ _ hD5 (by simp [p4D])
    have hul2:upTo br i≤upTo br (i + 1):=by omega
    have hge:=upTo_ge hpos (i:=i) (by omega)
    have hga:=upTo_last hpos (i:=i + 1) (by omega)
    have h9:=upTo_ge hpos (i:=br.length) (Nat.le_refl _)
    have h10:=upTo_le br br.length
    walk_at "rd"
    refine ⟨_,.inl (.inl hD7),fun p8 hp8=>?_⟩
    rw [cut_mid (lV (paraTk wo f0 e0)) (x:=upTo br i) (y:=e) (by rw [lV_len]; omega) (by omega)]
    have el:((lV (paraTk wo f0 e0)).drop (upTo br i)).take (e - upTo br i)=((((paraTk wo f0 e0).drop (upTo br i)).take c).map fun (n:Nat)=>(n:Int)).map V.int:=by
     unfold lV
     rw [← List.map_drop,← List.map_take,List.map_map,show e - upTo br i=c by omega]; rfl
    rw [el]
    have k8:Kp [] H7 (upd H7 p8 (HO.lst (((((paraTk wo f0 e0).drop (upTo br i)).take c).map fun (n:Nat)=>(n:Int)).map V.int))):=Kp.new hp8
    refine ⟨p8,_,rfl,.inl (.inl upd_same),?_⟩
    generalize upd H7 p8 (HO.lst (((((paraTk wo f0 e0).drop (upTo br i)).take c).map fun (n:Nat)=>(n:Int)).map V.int))=H8 at *
    have hus8:H8 p4=some (.lst us):=k8 _ _ hus (by simp)
    refine ⟨_,rfl,.inl ⟨rfl,_,.inl (.inl hus8)⟩,fun x dx hx hdx hxd=>?_⟩
    have ef:(f0:Int) + (e:Int)=((f0 + e:Nat):Int):=by omega
    have ef2:(f0:Int) + (upTo br i:Nat)=((f0 + upTo br i:Nat):Int):=by omega
    have d1:decide (((upTo br i:Nat):Int)=0)=(if i=0 then true else false):=by
     by_cases z:i=0
     ·subst z; simp [upTo]
     ·rw [if_neg z]; exact decide_eq_false (by omega)
    have d2:decide (((f0 + e:Nat):Int)=(e0:Int))=decide (i + 1=br.length):=decide_eq_decide.mpr (by
     rw [← hga]; omega)
    have htk:lineTk wo ⟨f0 + upTo br i,c,(if i=0 then true else false),decide (i + 1=br.length)⟩=(((paraTk wo f0 e0).drop (upTo br i)).take c).sum + (c - 1):=by
     unfold lineTk VhPage.takes
     rw [spots_para wo f0 e0 (upTo br i) c _ _ (by omega),List.length_take,List.length_drop,hpl,show min c (e0 - f0 - upTo br i)=c by omega]
    rw [ef,ef2,sum_cast,d1,d2]
    have et:(((((paraTk wo f0 e0).drop (upTo br i)).take c).sum:Nat):Int) + (e:Int) - (upTo br i:Nat) - 1=((lineTk wo ⟨f0 + upTo br i,c,(if i=0 then true else false),decide (i + 1=br.length)⟩:Nat):Int):=by
     rw [htk]; omega
    rw [et]
    have x4:p4≠x:=ne_of_none hus8 hx
    have dx4:p4≠dx:=ne_of_none hus8 hdx
    have k78:=k7.trans k8
    have hx0:H x=none:=k78.free (by simp) hx
    refine ⟨x,dx,f0 + upTo br i,f0 + e,_,_,_,rfl,upd_same,rfl,us,?_,?_,?_⟩
    ·rw [upd_upd,upd_ne x4,upd_ne dx4]; exact hus8
    ·have:=Paired.length hP
     rw [List.length_take,rowLines_len] at this
     have hz:sizeLine=16777216:=by decide
     omega
    ·rw [upd_upd]
     generalize hN:HO.ins a.CL dx (lnf (f0 + upTo br i) (f0 + e) (if i=0 then true else false) (decide (i + 1=br.length)) (lineTk wo ⟨f0 + upTo br i,c,(if i=0 then true else false),decide (i + 1=br.length)⟩) .non)=N
     have hk:Kp [] H8 (upd (upd H8 dx (HO.own x)) x N):=fun b o hb' _=>by
      rw [upd_ne (ne_of_none hb' hx),upd_ne (ne_of_none hb' hdx)]; exact hb'
     have hxl:upd (upd H8 dx (HO.own x)) x N x=some N:=upd_same
     generalize upd (upd H8 dx (HO.own x)) x N=H9 at *
     rw [hPv]
     refine ⟨_,_,by rw [he2],(k78.trans hk).put2 (.inr hp0),(k7'.trans ((k8.trans hk).mono (by simp))).put2 (.inl (by simp)),us ++ [V.ref x],upd_same,?_,?_⟩
     ·rw [take_snoc' (rowLines_get br f0 true i c hc)]
      refine Paired.snoc (Paired.mono (fun y v z=>?_) hP) ⟨⟨x,dx,rfl,?_⟩,fun l z=>by cases z; exact hx0⟩
      ·obtain ⟨⟨l,d,e1,e2⟩,nl⟩:=z
       exact ⟨⟨l,d,e1,by rw [upd_ne (fun z=>by rw [z,hus] at e2; cases e2)]; exact hk _ _ (k8 _ _ e2 (by simp)) (by simp)⟩,nl⟩
      ·rw [upd_ne (Ne.symm x4),hxl,← hN]
       have e3:f0 + upTo br i + c=f0 + e:=by omega
       simp only [e3]
     ·rw [List.nodup_append]
      refine ⟨hnd,by simp,fun b hb' y hy=>?_⟩
      have ey:y=V.ref x:=by simpa using hy
      subst ey
      intro z
      subst z
      obtain ⟨j,hj⟩:=List.mem_iff_getElem?.mp hb'
      obtain ⟨y,_,⟨l,d,e1,e2⟩,_⟩:=Paired.get hP hj
      cases e1
      rw [k8 _ _ e2 (by simp)] at hx; cases hx
   ·intro σ H7 hw'
    rw [hPv] at hw'
    obtain ⟨o,o2,rfl,k7,k7',us,hus,hP,hnd⟩:=hw'
    rw [lV_len,sums_len,List.take_of_length_le (by rw [rowLines_len]; exact Nat.le_refl _)] at hP
    walk_at "rd"
    exact q H7 p4 us hp0 k7 hus hP hnd
end
section
variable {P:Program} {w:World} {K:PySem.W.Frag} {mg:Str→Option Value} {base:Heap} {a:Ad}
def thingsIn (wo:VhPage.Work) (es:List VhPage.Entry) (k:Nat):List (List Nat):=(es.filter fun e=>VhPage.lineOf (lnl wo) e.first == k).flatMap fun e=>keyL wo.paras.flatten ((VhPage.laid wo).line k).first (((VhPage.laid wo).line k).first + ((VhPage.laid wo).line k).count) e.first e.count :: e.toks
def thingsOf (wo:VhPage.Work) (k:Nat):List (List Nat):=thingsIn wo wo.entries k
theorem things_same (wo:VhPage.Work) (es:List VhPage.Entry) {k:Nat} (e:VhPage.Entry) (h:VhPage.lineOf (lnl wo) e.first=k):thingsIn wo (es ++ [e]) k=thingsIn wo es k ++ (keyL wo.paras.flatten ((VhPage.laid wo).line k).first (((VhPage.laid wo).line k).first + ((VhPage.laid wo).line k).count) e.first e.count :: e.toks):=by
 unfold thingsIn
 rw [List.filter_append,List.flatMap_append]
 simp [h]
theorem things_ne (wo:VhPage.Work) (es:List VhPage.Entry) {k:Nat} (e:VhPage.Entry) (h:VhPage.lineOf (lnl wo) e.first≠k):thingsIn wo (es ++ [e]) k=thingsIn wo es k:=by
 unfold thingsIn
 rw [List.filter_append,List.flatMap_append]
 simp [h]
theorem key_same (wo:VhPage.Work) (k:Nat) (e:VhPage.Entry):(VhPage.laid wo).key k e=keyL wo.paras.flatten ((VhPage.laid wo).line k).first (((VhPage.laid wo).line k).first + ((VhPage.laid wo).line k).count) e.first e.count:=by
 have hs:(VhPage.laid wo).words.size=wo.paras.flatten.length:=by rw [laid_words]; simp
 unfold VhPage.Laid.key keyL VhPage.Laid.which whichL sameL VhPage.Line.spots
 simp only [hs,laid_word,Nat.add_sub_cancel_left]
theorem things_nil (wo:VhPage.Work) (k:Nat):thingsOf wo k=[]↔(wo.entries.filter fun e=>VhPage.lineOf (lnl wo) e.first == k)=[]:=by
 unfold thingsOf thingsIn
 constructor
 ·intro h
  cases z:(wo.entries.filter fun e=>VhPage.lineOf (lnl wo) e.first == k) with
  | nil=>rfl
  | cons e es=>rw [z] at h; simp at h
 ·intro h; rw [h]; rfl
theorem note_same (wo:VhPage.Work) {k:Nat} (hk:k < (lnl wo).length) (n:Nat):(VhPage.laid wo).note k n=if thingsOf wo k=[] then [] else (35 :: VhPage.num10 n) :: thingsOf wo k:=by
 unfold VhPage.Laid.note
 simp only []
 rw [laid_entries wo hk]
 by_cases h:thingsOf wo k=[]
 ·rw [if_pos h,(things_nil wo k).mp h]; rfl
 ·rw [if_neg h,if_neg (by rw [List.isEmpty_iff]; exact fun z=>h ((things_nil wo k).mpr z))]
  congr 1
  unfold thingsOf thingsIn
  congr 1
  funext e
  rw [key_same]
theorem own_same (wo:VhPage.Work) {k:Nat} (hk:k < (lnl wo).length) (i:Nat):ownN (VhPage.laid wo) i k=if thingsOf wo k=[] then 0 else (footN wo (thingsOf wo k) ((VhPage.laid wo).numberOf i k)).length:=by
 unfold ownN VhPage.Laid.footOf
 simp only []
 rw [cutLen,note_same wo hk,laid_work]
 split
 ·rfl
 ·rfl
theorem things_len (wo:VhPage.Work):∀ (es:List VhPage.Entry) (k:Nat),(thingsIn wo es k).length≤(es.map fun e=>e.toks.length + 2).sum
 | [],k=>Nat.le_refl _
 | e :: es,k=>by
  have ih:=things_len wo es k
  unfold thingsIn at *
  rw [List.filter_cons,List.map_cons,List.sum_cons]
  split
  ·rw [List.flatMap_cons,List.length_append,List.length_cons]; omega
  ·omega
theorem key_len (wds:List (List Nat)) (h5:∀ x ∈ wds,x.length≤64) (lf le f m:Nat) (h:le - lf≤8192) (hm:m≤8192):(keyL wds lf le f m).length≤1000:=by
 have w1:=wd_len h5 f
 have w2:=which_len wds lf le f h
 have w3:=wd_len h5 (f + m - 1)
 have w4:=num10_len (n:=m) (k:=5) (by decide) (by omega)
 unfold keyL
 have h1:(if m=0 then [43] else []:List Nat).length≤1:=by split <;> simp
 have h2:(if f < wds.length then wds.getD f [] ++ whichL wds lf le f else []).length≤70:=by
  split
  ·rw [List.length_append]; omega
  ·simp
 have h3:(if 2≤m then 126 :: (VhPage.num10 m ++ 126 :: wds.getD (f + m - 1) []) else []).length≤100:=by
  split
  ·simp only [List.length_append,List.length_cons]; omega
  ·simp
 simp only [List.length_append,List.length_cons,List.length_nil]
 omega
theorem line_bounds {wo:VhPage.Work} (ok:WOk wo) {k:Nat} {x:VhPage.Line} (h:(lnl wo)[k]?=some x):1≤x.count∧x.first + x.count≤wo.paras.flatten.length:=by
 have:=chain_get (chain_lnl ok) h
 omega
theorem things_small {wo:VhPage.Work} (ok:WOk wo) {k:Nat} (hk:k < (lnl wo).length):∀ t ∈ thingsOf wo k,t.length≤1048576:=by
 intro t ht
 unfold thingsOf thingsIn at ht
 obtain ⟨e,he,ht⟩:=List.mem_flatMap.mp ht
 have he:=(List.mem_filter.mp he).1
 have:=ok.ent e he
 have hz:=ok.size
 have hx:(lnl wo)[k]?=some (lnl wo)[k]:=List.getElem?_eq_getElem hk
 have hb:=line_bounds ok hx
 rcases List.mem_cons.mp ht with rfl | ht
 ·rw [laid_line wo hx]
  refine Nat.le_trans (key_len _ (fun x hx=>?_) _ _ _ _ (by omega) (by omega)) (by decide)
  obtain ⟨q,hq,hx⟩:=List.mem_flatten.mp hx
  exact ((ok.para q hq).2 x hx).2.1
 ·exact Nat.le_trans (this.2.2.2 t ht).2.1 (by decide)
theorem words_small {wo:VhPage.Work} (ok:WOk wo):∀ x ∈ wo.paras.flatten,x.length≤64:=fun x hx=>by
 obtain ⟨q,hq,hx⟩:=List.mem_flatten.mp hx
 exact ((ok.para q hq).2 x hx).2.1
theorem ent_line {wo:VhPage.Work} (ok:WOk wo) (he:wo.entries≠[]):0 < (lnl wo).length:=by
 obtain ⟨e,es,h⟩:∃ e es,wo.entries=e :: es:=by
  cases z:wo.entries with
  | nil=>exact absurd z he
  | cons e es=>exact ⟨e,es,rfl⟩
 have:=(ok.ent e (by rw [h]; simp)).2.1
 have hc:=chain_lnl ok
 cases z:lnl wo with
 | nil=>rw [z] at hc; have:0=wo.paras.flatten.length:=hc; omega
 | cons x l=>simp
theorem test_go {t:TT} {σ:L2.St} {H:Hp} {Q:Bool→Hp→Prop} (b:Bool) (h:∀ Q:Bool→Hp→Prop,Q b H→t σ H Q) (q:Q b H):t σ H Q:=h Q q
theorem fldIx_go {p q:Nat} {f:Str} {σ:L2.St} {H:Hp} {Q:VK} {ll l C d:Addr} {us:List V} {fs:List (Str × V)} {j:Nat} {v:V} (h1:σ[p]?=some (some (.ref ll))) (h2:σ[q]?=some (some (.int (j:Int)))) (h3:H ll=some (.lst us)) (h4:us[j]?=some (.ref l)) (h5:H l=some (.ins C d fs)) (c:Cls K C) (n:NoAttr K C f) (h6:fs.lookup f=some v) (hq:Q v H):tFld K (tOp (rIxL K) (tVar p) (tVar q)) f σ H Q :=
 ⟨_,h1,_,h2,ixL_go h3 h4 ⟨l,C,d,fs,v,rfl,h5,c,n,h6,hq⟩⟩
def ThAt (H H':Hp) (gs:List Addr) (wo:VhPage.Work) (es:List VhPage.Entry):Prop:=∀ k g,gs[k]?=some g→∃ ts,H' g=some (.lst ts)∧Paired (fun y v=>LI H' y v∧∀ g' ∈ gs,v≠.ref g') (thingsIn wo es k) ts
def LinesI (a:Ad) (H:Hp) (wo:VhPage.Work) (ll:Addr) (us:List V):Prop:=H ll=some (.lst us)∧Paired (LineI a H wo) (lnl wo) us
def sp_things_of_notes (K:PySem.W.Frag) (a:Ad):Sp:=fun vs H Q _=>∃ (wk ll:Addr) (wo:VhPage.Work) (hb:List UInt8) (us:List V),vs=[.ref wk,.ref ll]∧WkR a H wk wo hb∧WOk wo∧LinesI a H wo ll us ∧
 ∀ H' p (gs:List Addr),H p=none→Kp [] H H'→H' p=some (.lst (gs.map V.ref))→gs.length=(lnl wo).length→(∀ k g,gs[k]?=some g→WordsAt H' g (thingsOf wo k))→Q (.ref p) H'
abbrev s_things_of_notes:Stmt:=top 28
theorem sc_things_of_notes:FnScope ["work","lines","things","line","at","entry"] ["work","lines"] (defScope s_things_of_notes):=⟨rfl,rfl,rfl,by decide +kernel,rfl,by decide +kernel,by decide +kernel⟩
theorem bk_things_of_notes_0:BlkOk ["work","lines","things","line","at","entry"] (defScope s_things_of_notes) (lcSc (stVal (stI (defBody s_things_of_notes) 0))) [("line",3)]:=⟨rfl,by decide +kernel,by decide +kernel,by decide +kernel,by decide +kernel⟩
theorem ok_things_of_notes {f:Addr} {fd:FuncData} (F:Fun K "things_of_notes" "things_of_notes" s_things_of_notes f fd) (T:Txt K mg a) (c_key_of:FnC P w K mg base CX0 2 "key_of" ["words","line_first","line_end","f","m"] (sp_key_of K a)):FnOk P w K mg base CX0 3 f fd ["work","lines"] (sp_things_of_notes K a):=by
 refine F.ok sc_things_of_notes (fun vs H Q E h=>?_) (fun cdv A outer s H vs Q E hr h=>?_)
 ·obtain ⟨wk,ll,wo,hb,us,rfl,hw,ok,hL,q⟩:=h
  rfl
 ·obtain ⟨wk,ll,wo,hb,us,rfl,hw,ok,hL,q⟩:=h
  have nd:=sc_things_of_notes.nd
  refine ⟨_,(pss_cons (ps_setLc (i:=2) rfl nd rfl rfl (sw_true rfl rfl rfl rfl) (pi_list (pv 1)) bk_things_of_notes_0 (fun _ _ _ _ _=>(pg_name (i:=3) nd rfl (Or.inl rfl))) (fun _ _ _ _ _=>pts_nil) (fun _ _ _ _ _=>(pe_lst pa_nil))) (pss_cons (ps_set (i:=4) nd rfl (Or.inl rfl) pe_int) (pss_cons (ps_for PassesOwn.never rfl (pi_list (pe_fld (pv 0) rfl)) (pg_name (i:=5) nd rfl (Or.inl rfl)) (pss_cons (ps_while PassesOwn.never (PW.pt (pw_and (pt_cmpR op_lt (pv 4) (pe_op op_sub (pe_callB call_len_seq rfl T.len PySem.boot_len (pa_cons (pv 1) pa_nil)) pe_int) (nomark _)) (pw_and1 (pt_cmpR op_ge (pe_ix ix_tup (pv 5) pe_int (fun _ _=>rfl)) (pe_fld (pe_ix ix_list (pv 1) (pv 4) (fun _ _=>rfl)) rfl) (nomark _))))) (pss_one (ps_aug (i:=4) nd rfl (Or.inl rfl) pe_int ip_add))) (pss_cons (ps_expr (pe_bm PySem.F.plainAttrs_list PySem.F.slot_list_append PySem.F.type_list_append mt_append (pe_ix ix_list (pv 2) (pv 4) (fun _ _=>rfl)) (pa_cons (pe_callC c_key_of hr pass0 (pa_cons (pe_fld (pv 0) rfl) (pa_cons (pe_fld (pe_ix ix_list (pv 1) (pv 4) (fun _ _=>rfl)) rfl) (pa_cons (pe_fld (pe_ix ix_list (pv 1) (pv 4) (fun _ _=>rfl)) rfl) (pa_cons (pe_ix ix_tup (pv 5) pe_int (fun _ _=>rfl)) (pa_cons (pe_ix ix_tup (pv 5) pe_int (fun _ _=>rfl)) pa_nil)))))) pa_nil))) (pss_one (ps_expr (pe_bm PySem.F.plainAttrs_list PySem.F.slot_list_extend PySem.F.type_list_extend mt_extend (pe_ix ix_list (pv 2) (pv 4) (fun _ _=>rfl)) (pa_cons (pe_ix ix_tup (pv 5) pe_int (fun _ _=>rfl)) pa_nil))))))) (pss_one (ps_ret (pv 2)))))),?_⟩
  have hw0:=hw
  obtain ⟨⟨dw,aR,aH,aP,aW,aS,aE,rs,ps,ws,gs0,es,hWk0,h2,h3,h4,h5,h6,h7,h8,h9,h10,h11,h12,h13⟩,rok,hl⟩:=hw
  have hlu:=Paired.length hL.2
  have hn8:=ok.size
  have hll:=lnl_len ok
  have hz:sizeLine=16777216:=by decide
  refine ⟨_,rfl,ll,rfl,⟨_,.inl (.inl hL.1)⟩,fun D hD=>?_⟩
  obtain ⟨Pv,hPv⟩:∃ Pv:Nat→Hp→Prop,Pv=fun i H'=>∃ gs:List Addr,gs.length=i∧H' D=some (.lst (gs.map V.ref))∧Kp [] H H'∧(∀ g ∈ gs,H g=none∧H' g=some (.lst [])∧g≠D)∧gs.Nodup:=⟨_,rfl⟩
  refine lc_list (xs:=us) Pv ?_ ?_ ?_ ?_
  ·rw [hPv]
   exact ⟨[],rfl,upd_same,Kp.new hD,fun g hg=>absurd hg (by simp),List.nodup_nil⟩
  ·intro i H' _ hw
   rw [hPv] at hw
   obtain ⟨gs,_,_,k,_⟩:=hw
   exact .inl (.inl (k _ _ hL.1 (by simp)))
  ·intro i x H2 hi hw
   rw [hPv] at hw
   obtain ⟨gs,hg1,hg2,k,hg3,hg4⟩:=hw
   refine ⟨rfl,?_⟩
   simp only [tYes]
   walk_at "rd"
   refine ⟨Nat.zero_le _,fun g hg=>?_⟩
   have gD:D≠g:=ne_of_none hg2 hg
   refine ⟨gs.map V.ref,by rw [upd_ne gD]; exact hg2,?_,?_⟩
   ·have:=(List.getElem?_eq_some_iff.mp hi).1
    rw [List.length_map]; omega
   rw [hPv]
   have hg0:H g=none:=k.free (by simp) hg
   refine ⟨gs ++ [g],by simp [hg1],by rw [upd_same]; simp,(k.trans (Kp.new hg)).put2 (.inr hD),fun c hc=>?_,?_⟩
   ·rcases List.mem_append.mp hc with h | h
    ·obtain ⟨h1,h2,h3⟩:=hg3 c h
     exact ⟨h1,by rw [upd_ne h3,upd_ne (ne_of_none h2 hg)]; exact h2,h3⟩
    ·have e:c=g:=by simpa using h
     subst e
     exact ⟨hg0,by rw [upd_ne (Ne.symm gD),upd_same],Ne.symm gD⟩
   ·rw [List.nodup_append]
    refine ⟨hg4,by simp,fun b hb c hc=>?_⟩
    have e:c=g:=by simpa using hc
    subst e
    exact ne_of_none (hg3 b hb).2.1 hg
  ·intro H2 hw
   rw [hPv] at hw
   obtain ⟨gs,hg1,hg2,k2,hg3,hg4⟩:=hw
   clear hPv Pv
   have hWk:=k2 _ _ hWk0 (by simp)
   have hWk2:=hWk
   have hR:=hWk
   have hR2:=hWk
   have hE2:=k2 _ _ h12 (by simp)
   walk_at "wk"
   obtain ⟨Pv,hPv⟩:∃ Pv:WT,Pv=fun i σ H'=>∃ (A:Nat) (o:Option V),σ=[some (.ref wk),some (.ref ll),some (.ref D),none,some (.int (A:Int)),o]∧Kp [] H H'∧H' D=some (.lst (gs.map V.ref))∧ThAt H H' gs wo (wo.entries.take i)∧(A=0∨A < (lnl wo).length)∧∀ t x,t < A→(lnl wo)[t]?=some x→∀ e ∈ wo.entries.drop i,x.first + x.count≤e.first:=⟨_,rfl⟩
   refine ⟨_,rfl,wk,a.CW,dw,_,_,rfl,hWk,T.clWork,T.n_entries,wf_entries wo.set aR aH aP aW aS aE,aE,rfl,⟨_,.inl (.inl hE2)⟩,for_list (xs:=es) Pv ?_ ?_ ?_ ?_⟩
   ·rw [hPv]
    exact ⟨0,none,rfl,k2,hg2,fun j g hg=>⟨[],(hg3 g (List.mem_of_getElem? hg)).2.1,.nil⟩,.inl rfl,fun t x ht=>by omega⟩
   ·intro i σ H' _ hw'
    rw [hPv] at hw'
    obtain ⟨A,o,rfl,k,_⟩:=hw'
    exact .inl (.inl (k _ _ h12 (by simp)))
   ·intro i v σ H3 hi hw'
    rw [hPv] at hw'
    obtain ⟨A,o,rfl,k3,hD3,hT3,hA,hB⟩:=hw'
    obtain ⟨en,hen,t,tl,tv,rfl,ht,htl,htv⟩:=Paired.get h13 hi
    have hmem:en ∈ wo.entries:=List.mem_of_getElem? hen
    have hne:0 < (lnl wo).length:=ent_line ok (fun z=>by rw [z] at hmem; simp at hmem)
    have hdr:wo.entries.drop i=en :: wo.entries.drop (i + 1):=by
     obtain ⟨hx,ex⟩:=List.getElem?_eq_some_iff.mp hen
     rw [List.drop_eq_getElem_cons hx,ex]
    walk_at "rd"
    have hB0:∀ t x,t < A→(lnl wo)[t]?=some x→x.first + x.count≤en.first:=fun t x h1 h2=>hB t x h1 h2 en (by rw [hdr]; simp)
    obtain ⟨W,hW⟩:∃ W:WT,W=fun m σ H'=>H'=H3∧∃ (A':Nat),σ=[some (.ref wk),some (.ref ll),some (.ref D),none,some (.int (A':Int)),some (.ref t)]∧m=(lnl wo).length - A'∧A' < (lnl wo).length∧∀ t x,t < A'→(lnl wo)[t]?=some x→x.first + x.count≤en.first:=⟨_,rfl⟩
    refine ⟨W,⟨_,by rw [hW]; exact ⟨rfl,A,rfl,rfl,by omega,hB0⟩⟩,fun m σ H4 hw4=>?_⟩
    rw [hW] at hw4
    obtain ⟨rfl,A',rfl,rfl,hA',hB'⟩:=hw4
    obtain ⟨x,hx⟩:∃ x,(lnl wo)[A']?=some x:=⟨_,List.getElem?_eq_getElem hA'⟩
    obtain ⟨v,hv,l,d,rfl,hl0⟩:=Paired.get2 hL.2 hx
    have hl4:=k3 _ _ hl0 (by simp)
    have hL4:=k3 _ _ hL.1 (by simp)
    have ht4:=k3 _ _ ht (by simp)
    refine test_go (t:=tAnd _ _) (decide (A' + 1 < (lnl wo).length∧x.first + x.count≤en.first)) (fun Q0 hQ=>?_) ?_
    ·walk_at "rd"
     refine ⟨_,.inl (.inl (.inl hL4)),?_⟩
     rw [← hlu]
     by_cases hn1:A' + 1 < (lnl wo).length
     ·rw [if_pos (by omega)]
      refine ixT_go 0 ht4 rfl (fldIx_go rfl rfl hL4 hv hl4 T.clLine T.nL_end (lnf_end _ _ _ _ _ _) ⟨_,rfl,_,rfl,?_⟩)
      have e1:decide (((x.first + x.count:Nat):Int)≤(en.first:Int))=decide (A' + 1 < (lnl wo).length∧x.first + x.count≤en.first):=decide_eq_decide.mpr (by omega)
      rw [e1]; exact hQ
     ·rw [if_neg (by omega)]
      have e1:decide (A' + 1 < (lnl wo).length∧x.first + x.count≤en.first)=false:=decide_eq_false (by omega)
      rw [e1] at hQ; exact hQ
    ·by_cases hd:A' + 1 < (lnl wo).length∧x.first + x.count≤en.first
     ·rw [if_pos (by simpa using hd)]
      refine ⟨fun σ' H'=>∃ m',m' < (lnl wo).length - A'∧W m' σ' H',fun _ _ z=>z,?_⟩
      walk_at "rd"
      refine ⟨(lnl wo).length - (A' + 1),by omega,?_⟩
      rw [hW]
      refine ⟨rfl,A' + 1,rfl,rfl,by omega,fun t y ht hy=>?_⟩
      by_cases z:t=A'
      ·subst z
       rw [hx] at hy
       cases hy
       exact hd.2
      ·exact hB' t y (by omega) hy
     ·rw [if_neg (by simpa using hd)]
      have hlo:VhPage.lineOf (lnl wo) en.first=A':=lineOf_at (lnl wo) 0 _ A' (chain_lnl ok) (Nat.zero_le _) hA' hB' (by
       by_cases z:A' + 1=(lnl wo).length
       ·exact .inl z
       ·exact .inr ⟨x,hx,by omega⟩)
      have hxb:=line_bounds ok hx
      have hxl:=laid_line wo hx
      have hoe:=ok.ent en hmem
      have hcg:=chain_get (chain_lnl ok) hx
      obtain ⟨g,hg⟩:∃ g,gs[A']?=some g:=⟨_,List.getElem?_eq_getElem (by omega)⟩
      have hgm:g ∈ gs:=List.mem_of_getElem? hg
      obtain ⟨ts,hts,hPts⟩:=hT3 A' g hg
      have hW4:=k3 _ _ h7 (by simp)
      have hwk4:=k3 _ _ hWk0 (by simp)
      have hxf:x.first≤en.first:=by
       cases A' with
       | zero=>rw [chain_zero (chain_lnl ok) hx]; omega
       | succ B' =>
        have hy:(lnl wo)[B']?=some (lnl wo)[B']:=List.getElem?_eq_getElem (by omega)
        rw [chain_next (chain_lnl ok) hy hx]
        exact hB' B' _ (by omega) hy
      have hxe:en.first < wo.paras.flatten.length→en.first < x.first + x.count:=fun hf=>by
       by_cases z:A' + 1=(lnl wo).length
       ·rw [chain_last (chain_lnl ok) hx z]; exact hf
       ·omega
      have htl2:ts.length≤73728:=by
       rw [← Paired.length hPts]
       refine Nat.le_trans (things_len wo _ _) (Nat.le_trans ?_ (toks_le ok))
       have:=List.take_append_drop i wo.entries
       have e2:((wo.entries.take i ++ wo.entries.drop i).map fun e=>e.toks.length + 2).sum=(wo.entries.map fun e=>e.toks.length + 2).sum:=by rw [this]
       rw [List.map_append,List.sum_append] at e2
       omega
      obtain ⟨hgn,_,hgD⟩:=hg3 g hgm
      walk_at "rd"
      refine ixL_go (v:=V.ref g) hD3 (j:=A') (by rw [List.getElem?_map,hg]; rfl) ⟨.inl ⟨rfl,_,.inl (.inl hts)⟩,?_⟩
      refine ⟨_,rfl,wk,a.CW,dw,_,_,rfl,hwk4,T.clWork,T.n_words,wf_words wo.set aR aH aP aW aS aE,?_⟩
      refine fldIx_go rfl rfl hL4 hv hl4 T.clLine T.nL_first (lnf_first _ _ _ _ _ _) ?_
      refine fldIx_go rfl rfl hL4 hv hl4 T.clLine T.nL_end (lnf_end _ _ _ _ _ _) ?_
      refine ixT_go 0 ht4 rfl (ixT_go 1 ht4 rfl ?_)
      refine ⟨aW,wo.paras.flatten,x.first,x.first + x.count,en.first,en.count,rfl,WordsAt.keep ⟨ws,h7,h8⟩ k3,hoe.1,fun hf=>⟨hxf,hxe hf⟩,hxb.2,hn8,words_small ok,fun H5 p5 hp5 k5 hl5=>?_⟩
      have k35:=k3.trans k5
      have hts5:=k5 _ _ hts (by simp)
      have p5g:p5≠g:=fun z=>by rw [z,hts] at hp5; cases hp5
      refine ⟨g,rfl,ts,hts5,by omega,?_⟩
      have tg:t≠g:=ne_of_none ht hgn
      have tlg:tl≠g:=ne_of_none htl hgn
      have htvl:=Paired.length htv
      refine ixL_go (v:=V.ref g) (p:=D) (xs:=gs.map V.ref) (j:=A') (by rw [upd_ne (Ne.symm hgD)]; exact k5 _ _ hD3 (by simp)) (by rw [List.getElem?_map,hg]; rfl) ⟨.inl ⟨rfl,_,.inl (.inl upd_same)⟩,?_⟩
      refine ixT_go 2 (by rw [upd_ne tg]; exact k35 _ _ ht (by simp)) rfl ⟨g,rfl,tl,rfl,_,upd_same,tv,by rw [upd_ne tlg]; exact k35 _ _ htl (by simp),by simp only [List.length_append,List.length_cons,List.length_nil]; omega,?_⟩
      rw [upd_upd,hPv]
      have kF:Kp [] H (upd H5 g (HO.lst (ts ++ [V.ref p5] ++ tv))):=k35.put2 (.inr hgn)
      have up:∀ b o,H5 b=some o→b≠g→upd H5 g (HO.lst (ts ++ [V.ref p5] ++ tv)) b=some o:=fun b o e n1=>by rw [upd_ne n1]; exact e
      have keepL:∀ (y:List Nat) (v:V),(LI H4 y v∧∀ g' ∈ gs,v≠.ref g')→LI (upd H5 g (HO.lst (ts ++ [V.ref p5] ++ tv))) y v∧∀ g' ∈ gs,v≠.ref g':=by
       rintro y v ⟨⟨b,rfl,hb⟩,nb⟩
       exact ⟨⟨b,rfl,up _ _ (k5 _ _ hb (by simp)) (fun z=>nb g hgm (by rw [z]))⟩,nb⟩
      refine ⟨A',_,rfl,kF,up _ _ (k5 _ _ hD3 (by simp)) (Ne.symm hgD),?_,.inr hA',?_⟩
      ·intro k' g' hg'
       have hgm':g' ∈ gs:=List.mem_of_getElem? hg'
       obtain ⟨ts',hts',hP'⟩:=hT3 k' g' hg'
       rw [take_snoc' hen]
       by_cases hk:k'=A'
       ·subst hk
        have e:g'=g:=Option.some.inj (hg'.symm.trans hg)
        subst e
        refine ⟨ts ++ [.ref p5] ++ tv,upd_same,?_⟩
        rw [things_same wo _ en hlo,hxl,List.append_cons (thingsIn wo (wo.entries.take i) k')]
        refine Paired.app (Paired.snoc (Paired.mono keepL hPts) ⟨⟨p5,rfl,up _ _ hl5 p5g⟩,fun g2 hg2 z=>?_⟩) (Paired.mono (fun y v z=>?_) htv)
        ·obtain ⟨i2,hi2⟩:=List.getElem?_of_mem hg2
         obtain ⟨t2,ht2,_⟩:=hT3 i2 g2 hi2
         have z:p5=g2:=V.ref.inj z
         rw [z,ht2] at hp5
         cases hp5
        ·obtain ⟨b,rfl,hb⟩:=z
         refine ⟨⟨b,rfl,up _ _ (k35 _ _ hb (by simp)) (ne_of_none hb hgn)⟩,fun g2 hg2 z=>?_⟩
         have z:b=g2:=V.ref.inj z
         rw [z,(hg3 g2 hg2).1] at hb
         cases hb
       ·have ne:g'≠g:=fun z=>hk (nd_ix hg4 hg' (by rw [z]; exact hg))
        refine ⟨ts',up _ _ (k5 _ _ hts' (by simp)) ne,?_⟩
        rw [things_ne wo _ en (by rw [hlo]; exact Ne.symm hk)]
        exact Paired.mono keepL hP'
      ·intro t' y ht' hy e he
       have h1:=hB' t' y ht' hy
       have h2:(wo.entries.drop i).Pairwise (fun x y=>x.first≤y.first):=List.Pairwise.sublist (List.drop_sublist i _) ok.rise
       rw [hdr,List.pairwise_cons] at h2
       have:=h2.1 e he
       omega
   ·intro σ H3 hw'
    rw [hPv] at hw'
    obtain ⟨A,o,rfl,k3,hD3,hT3,hA,hB⟩:=hw'
    walk_at "rd"
    refine q H3 D gs hD k3 hD3 (by omega) fun j g hg=>?_
    obtain ⟨ts,t1,t2⟩:=hT3 j g hg
    rw [List.take_of_length_le (by rw [Paired.length h13]; exact Nat.le_refl _)] at t2
    exact ⟨ts,t1,Paired.mono (fun x v z=>z.1) t2⟩
end
section
variable {P:Program} {w:World} {K:PySem.W.Frag} {mg:Str→Option Value} {base:Heap} {a:Ad}
def NoteV (a:Ad) (H:Hp) (wo:VhPage.Work) (k:Nat) (v:V):Prop:=(thingsOf wo k=[]∧v=.non)∨(thingsOf wo k≠[]∧∃ nt,v=.ref nt∧NoteAt a H nt wo (thingsOf wo k))
def LinesAt (a:Ad) (H:Hp) (ll:Addr) (wo:VhPage.Work):Prop:=∃ us,H ll=some (.lst us)∧us.length=(lnl wo).length∧∀ k x,(lnl wo)[k]?=some x→∃ l d nv,us[k]?=some (V.ref l)∧H l=some (.ins a.CL d (lnf x.first (x.first + x.count) x.begins x.ends (lineTk wo x) nv))∧NoteV a H wo k nv
theorem NoteV.keep {H H':Hp} {wo:VhPage.Work} {k:Nat} {v:V} (h:NoteV a H wo k v) (kp:Kp [] H H'):NoteV a H' wo k v:=by
 rcases h with h | ⟨h1,nt,e,h2⟩
 ·exact .inl h
 ·exact .inr ⟨h1,nt,e,h2.keep kp⟩
theorem linesFrom_snoc (s:VhPage.Settings) (q:List Vh.Letters):∀ (ps:List (List Vh.Letters)) (b:Nat) (t:List Nat),VhPage.linesFrom s b t (ps ++ [q])=VhPage.linesFrom s b t ps ++ VhPage.rowLines (b + ps.flatten.length) true (VhPage.broken (s.width - s.indent) s.width ((t.drop ps.flatten.length).take q.length))
 | [],b,t=>by simp [VhPage.linesFrom]
 | p :: ps,b,t=>by
  rw [List.cons_append,VhPage.linesFrom,linesFrom_snoc s q ps,VhPage.linesFrom,List.append_assoc,List.drop_drop,List.flatten_cons,List.length_append,Nat.add_assoc]
theorem spans_get:∀ (ps:List (List Vh.Letters)) (b i:Nat) (q:List Vh.Letters),ps[i]?=some q→(spans b ps)[i]?=some (b + (ps.take i).flatten.length,b + (ps.take i).flatten.length + q.length)
 | [],b,i,q,h=>by simp at h
 | p :: ps,b,0,q,h=>by simp at h; subst h; simp [spans]
 | p :: ps,b,i + 1,q,h=>by
  rw [spans,List.getElem?_cons_succ,spans_get ps (b + p.length) i q (by simpa using h),List.take_succ_cons,List.flatten_cons,List.length_append,Nat.add_assoc]
theorem paraTk_eq (wo:VhPage.Work) {f e:Nat} (h:e≤wo.paras.flatten.length):paraTk wo f e=((tkl wo).drop f).take (e - f):=by
 apply List.ext_getElem?
 intro k
 unfold paraTk
 by_cases hk:k < e - f
 ·rw [List.getElem?_take_of_lt hk,List.getElem?_map,List.getElem?_range hk,List.getElem?_drop,tkl_get wo (by omega)]; rfl
 ·rw [List.getElem?_eq_none (by rw [List.length_map,List.length_range]; omega),List.getElem?_eq_none (by rw [List.length_take]; omega)]
theorem take_flat (ps:List (List Vh.Letters)) {i:Nat} {q:List Vh.Letters} (h:ps[i]?=some q):(ps.take i).flatten.length + q.length≤ps.flatten.length:=by
 have e:ps=ps.take i ++ q :: ps.drop (i + 1):=by
  obtain ⟨hx,ex⟩:=List.getElem?_eq_some_iff.mp h
  have:=List.take_append_drop i ps
  rw [List.drop_eq_getElem_cons hx,ex] at this
  exact this.symm
 conv=>rhs; rw [e]
 simp only [List.flatten_append,List.flatten_cons,List.length_append]
 omega
theorem nWk_ln {C d:Addr} (f e:Nat) (o c:Bool) (t:Nat) (n:V):¬ isWk (.ins C d (lnf f e o c t n)):=fun z=>by
 obtain ⟨s,r,h,p,w,g,e',z⟩:=z _ _ _ rfl
 have:=congrArg List.length z
 rw [wf_length] at this
 cases this
theorem nf_ne_ln {C d C' d':Addr} (x y z:Addr) (f e:Nat) (o c:Bool) (t:Nat) (n:V):(HO.ins C d (nf x y z))≠.ins C' d' (lnf f e o c t n):=fun q=>by
 injection q with _ _ q
 have:=congrArg List.length q
 cases this
def sp_lines_of (K:PySem.W.Frag) (a:Ad):Sp:=fun vs H Q _=>∃ (wk:Addr) (wo:VhPage.Work) (hb:List UInt8),vs=[.ref wk]∧WkR a H wk wo hb∧WOk wo ∧
 ∀ H' p,H p=none→Kp [] H H'→LinesAt a H' p wo→Q (.ref p) H'
abbrev s_lines_of:Stmt:=top 29
theorem sc_lines_of:FnScope ["work","lines","paragraph","things","k","line"] ["work"] (defScope s_lines_of):=⟨rfl,rfl,rfl,by decide +kernel,rfl,by decide +kernel,by decide +kernel⟩
theorem ok_lines_of {f:Addr} {fd:FuncData} (F:Fun K "lines_of" "lines_of" s_lines_of f fd) (T:Txt K mg a) (c_things_of_notes:FnC P w K mg base CX0 3 "things_of_notes" ["work","lines"] (sp_things_of_notes K a)) (c_lines_of_paragraph:FnC P w K mg base CX0 4 "lines_of_paragraph" ["work","first","end"] (sp_lines_of_paragraph K a)) (c_Note_init:MakeC P w K mg base CX0 4 a.CN "Note" ["self","work","things"] (sp_Note_init K a)):FnOk P w K mg base CX0 6 f fd ["work"] (sp_lines_of K a):=by
 refine F.ok sc_lines_of (fun vs H Q E h=>?_) (fun cdv A outer s H vs Q E hr h=>?_)
 ·obtain ⟨wk,wo,hb,rfl,hw,ok,q⟩:=h
  rfl
 ·obtain ⟨wk,wo,hb,rfl,hw,ok,q⟩:=h
  have nd:=sc_lines_of.nd
  refine ⟨_,(pss_cons (ps_set (i:=1) nd rfl (Or.inl rfl) (pe_lst pa_nil)) (pss_cons (ps_for PassesOwn.never rfl (pi_list (pe_fld (pv 0) rfl)) (pg_name (i:=2) nd rfl (Or.inl rfl)) (pss_one (ps_expr (pe_bm PySem.F.plainAttrs_list PySem.F.slot_list_extend PySem.F.type_list_extend mt_extend (pv 1) (pa_cons (pe_callC c_lines_of_paragraph hr pass0 (pa_cons (pv 0) (pa_cons (pe_ix ix_tup (pv 2) pe_int (fun _ _=>rfl)) (pa_cons (pe_ix ix_tup (pv 2) pe_int (fun _ _=>rfl)) pa_nil)))) pa_nil))))) (pss_cons (ps_set (i:=3) nd rfl (Or.inl rfl) (pe_callC c_things_of_notes hr pass0 (pa_cons (pv 0) (pa_cons (pv 1) pa_nil)))) (pss_cons (ps_for PassesOwn.never rfl (pi_range1 rfl T.range (pa_cons (pe_callB call_len_seq rfl T.len PySem.boot_len (pa_cons (pv 1) pa_nil)) pa_nil)) (pg_name (i:=4) nd rfl (Or.inl rfl)) (pss_one (ps_if (pt_cmpR op_gt (pe_callB call_len_seq rfl T.len PySem.boot_len (pa_cons (pe_ix ix_list (pv 3) (pv 4) (fun _ _=>rfl)) pa_nil)) pe_int (nomark _)) (pss_cons (ps_set (i:=5) nd rfl (Or.inl rfl) (pe_ix ix_list (pv 1) (pv 4) (fun _ _=>rfl))) (pss_one (ps_fld (pv 5) (pe_makeC c_Note_init hr pass0 (pa_cons (pv 0) (pa_cons (pe_ix ix_list (pv 3) (pv 4) (fun _ _=>rfl)) pa_nil))) rfl))) pss_nil))) (pss_one (ps_ret (pv 1))))))),?_⟩
  have hw0:=hw
  obtain ⟨⟨dw,aR,aH,aP,aW,aS,aE,rs,ps,ws,gs0,es,hWk0,h2,h3,h4,h5,h6,h7,h8,h9,h10,h11,h12,h13⟩,rok,hl⟩:=hw
  have hz:sizeLine=16777216:=by decide
  have hn8:=ok.size
  have hll:=lnl_len ok
  have hsb:=set_bounds ok.set
  walk_at "rd"
  refine ⟨by decide,fun p hp=>?_⟩
  have kp:Kp [] H (upd H p (HO.lst [])):=Kp.new hp
  obtain ⟨Pv,hPv⟩:∃ Pv:WT,Pv=fun i σ H'=>∃ o:Option V,σ=[some (.ref wk),some (.ref p),o,none,none,none]∧Kp [] H H'∧∃ us,H' p=some (.lst us)∧Paired (fun x v=>LineI a H' wo x v∧∀ l,v=.ref l→H l=none) (VhPage.linesFrom wo.set 0 (tkl wo) (wo.paras.take i)) us∧us.Nodup:=⟨_,rfl⟩
  refine ⟨_,rfl,wk,a.CW,dw,_,_,rfl,kp _ _ hWk0 (by simp),T.clWork,T.n_paragraphs,wf_paragraphs wo.set aR aH aP aW aS aE,aP,rfl,⟨_,.inl (.inl (kp _ _ h5 (by simp)))⟩,for_list (xs:=ps) Pv ?_ ?_ ?_ ?_⟩
  ·rw [hPv]
   exact ⟨none,rfl,kp,[],upd_same,.nil,List.nodup_nil⟩
  ·intro i σ H' _ hw'
   rw [hPv] at hw'
   obtain ⟨o,rfl,k,_⟩:=hw'
   exact .inl (.inl (k _ _ h5 (by simp)))
  ·intro i v σ H3 hi hw'
   rw [hPv] at hw'
   obtain ⟨o,rfl,k3,us,hus,hP3,hnd⟩:=hw'
   obtain ⟨sp,hsp,t,rfl,ht⟩:=Paired.get h6 hi
   have hil:i < wo.paras.length:=by
    have:=(List.getElem?_eq_some_iff.mp hsp).1
    rw [spans_len] at this; exact this
   obtain ⟨pq,hpq⟩:∃ pq,wo.paras[i]?=some pq:=⟨_,List.getElem?_eq_getElem hil⟩
   rw [spans_get _ 0 i pq hpq,Nat.zero_add] at hsp
   cases hsp
   have hpn:0 < pq.length:=List.length_pos_iff.mpr (ok.para pq (List.mem_of_getElem? hpq)).1
   have htf:=take_flat wo.paras hpq
   have ht3:=k3 _ _ ht (by simp)
   walk_at "rd"
   refine ⟨.inl ⟨rfl,_,.inl (.inl hus)⟩,ixT_go 0 ht3 rfl (ixT_go 1 ht3 rfl ?_)⟩
   refine ⟨wk,wo,hb,_,_,rfl,hw0.keep k3,by omega,htf,hn8,words_small ok,by omega,by omega,fun H4 p4 us4 hp4 k4 hl4 hP4 hn4=>?_⟩
   have p4p:p4≠p:=fun z=>by rw [z,hus] at hp4; cases hp4
   have e1:paraTk wo (wo.paras.take i).flatten.length ((wo.paras.take i).flatten.length + pq.length)=((tkl wo).drop (wo.paras.take i).flatten.length).take pq.length:=by
    rw [paraTk_eq wo htf,Nat.add_sub_cancel_left]
   rw [e1] at hP4
   have e2:=linesFrom_snoc wo.set pq (wo.paras.take i) 0 (tkl wo)
   rw [Nat.zero_add,← take_snoc' hpq] at e2
   have hus4:=k4 _ _ hus (by simp)
   refine ⟨p4,rfl,us,hus4,us4,hl4,?_,?_⟩
   ·have h1:=Paired.length hP3
    have h2:=Paired.length hP4
    have h3:(VhPage.linesFrom wo.set 0 (tkl wo) (wo.paras.take (i + 1))).length=us.length + us4.length:=by rw [e2,List.length_append,h1,h2]
    have h4:=chain_len (chain_lines wo.set (wo.paras.take (i + 1)) 0 (tkl wo) (fun q hq=>(ok.para q (List.mem_of_mem_take hq)).1) (by
     rw [tkl_len,take_snoc' hpq,List.flatten_append,List.length_append]; simpa using htf))
    rw [take_snoc' hpq,List.flatten_append,List.length_append] at h4
    rw [take_snoc' hpq] at h3
    have h5:[pq].flatten.length=pq.length:=by simp
    omega
   ·rw [hPv]
    refine ⟨_,rfl,(k3.trans k4).put2 (.inr hp),us ++ us4,upd_same,?_,?_⟩
    ·rw [e2]
     refine Paired.app (Paired.mono (fun x v z=>?_) hP3) (Paired.mono (fun x v z=>?_) hP4)
     ·obtain ⟨⟨l,d,e,h⟩,f⟩:=z
      exact ⟨⟨l,d,e,by rw [upd_ne (fun z=>by rw [z,hus] at h; cases h)]; exact k4 _ _ h (by simp)⟩,f⟩
     ·obtain ⟨⟨l,d,e,h⟩,f⟩:=z
      refine ⟨⟨l,d,e,by rw [upd_ne (fun z=>by rw [z,hus4] at h; cases h)]; exact h⟩,fun l' e'=>?_⟩
      exact k3.free (by simp) (f l' e')
    ·rw [List.nodup_append]
     refine ⟨hnd,hn4,fun b hb y hy z=>?_⟩
     subst z
     obtain ⟨j,hj⟩:=List.mem_iff_getElem?.mp hb
     obtain ⟨j',hj'⟩:=List.mem_iff_getElem?.mp hy
     obtain ⟨x,_,⟨l,d,e,h⟩,_⟩:=Paired.get hP3 hj
     obtain ⟨x',_,_,f⟩:=Paired.get hP4 hj'
     rw [f l e] at h; cases h
  ·intro σ H3 hw'
   rw [hPv] at hw'
   obtain ⟨o,rfl,k3,us,hus,hP3,hnd⟩:=hw'
   have hpl:ps.length=wo.paras.length:=by rw [← Paired.length h6,spans_len]
   rw [hpl,List.take_of_length_le (Nat.le_refl _)] at hP3
   have hP3:Paired (fun x v=>LineI a H3 wo x v∧∀ l,v=.ref l→H l=none) (lnl wo) us:=hP3
   clear hPv Pv
   have hLI:LinesI a H3 wo p us:=⟨hus,Paired.mono (fun x v z=>z.1) hP3⟩
   have hul:=Paired.length hP3
   walk_at "rd"
   refine ⟨wk,p,wo,hb,us,rfl,hw0.keep k3,ok,hLI,fun H4 tp gs htp k4 htg hgl hgw=>?_⟩
   have k34:=k3.trans k4
   have tpp:tp≠p:=fun z=>by rw [z,hus] at htp; cases htp
   obtain ⟨Pv,hPv⟩:∃ Pv:WT,Pv=fun i σ H'=>∃ o1 o2:Option V,σ=[some (.ref wk),some (.ref p),o,some (.ref tp),o1,o2]∧Kp [] H H'∧H' p=some (.lst us)∧H' tp=some (.lst (gs.map V.ref))∧(∀ k g,gs[k]?=some g→WordsAt H' g (thingsOf wo k))∧∀ k x,(lnl wo)[k]?=some x→∃ l d nv,us[k]?=some (V.ref l)∧H' l=some (.ins a.CL d (lnf x.first (x.first + x.count) x.begins x.ends (lineTk wo x) nv))∧H l=none∧(k < i→NoteV a H' wo k nv)∧(i≤k→nv=.non):=⟨_,rfl⟩
   refine ⟨_,rfl,p,rfl,us,.inl (.inl (.inl (k4 _ _ hus (by simp)))),_,rfl,?_,?_,for_range (n:=us.length) Pv ?_ ?_ ?_⟩
   ·omega
   ·omega
   ·rw [hPv]
    refine ⟨none,none,rfl,k34,k4 _ _ hus (by simp),htg,hgw,fun k x hx=>?_⟩
    obtain ⟨v,hv,⟨l,d,rfl,hl⟩,hf⟩:=Paired.get2 hP3 hx
    exact ⟨l,d,_,hv,k4 _ _ hl (by simp),hf l rfl,fun z=>by omega,fun _=>rfl⟩
   ·intro i σ H5 hi hw'
    rw [hPv] at hw'
    obtain ⟨o1,o2,rfl,k5,hus5,htg5,hgw5,hLn⟩:=hw'
    have ei:(0:Int) + (i:Int)=((i:Nat):Int):=by omega
    rw [ei]
    obtain ⟨x,hx⟩:∃ x,(lnl wo)[i]?=some x:=⟨_,List.getElem?_eq_getElem (by omega)⟩
    obtain ⟨l,d,nv,hv,hl5,hl0,_,hnv⟩:=hLn i x hx
    have hnv:=hnv (Nat.le_refl _)
    subst hnv
    obtain ⟨g,hg⟩:∃ g,gs[i]?=some g:=⟨_,List.getElem?_eq_getElem (by omega)⟩
    obtain ⟨tv,htv,hPt⟩:=hgw5 i g hg
    have htl:=Paired.length hPt
    have hwi:=Kp.trans (S:=[]) k5 Kp.refl
    walk_at "rd"
    refine ixL_go htg5 (v:=V.ref g) (by rw [List.getElem?_map,hg]; rfl) ⟨g,rfl,_,.inl (.inl (.inl htv)),?_⟩
    by_cases hts:thingsOf wo i=[]
    ·rw [if_neg (by rw [← htl,hts]; simp),hPv]
     refine ⟨_,_,rfl,k5,hus5,htg5,hgw5,fun k y hy=>?_⟩
     obtain ⟨l',d',nv',a1,a2,a3,a4,a5⟩:=hLn k y hy
     refine ⟨l',d',nv',a1,a2,a3,fun h=>?_,fun h=>a5 (by omega)⟩
     by_cases z:k=i
     ·subst z; exact .inl ⟨hts,a5 (Nat.le_refl _)⟩
     ·exact a4 (by omega)
    ·have hpos:=List.length_pos_iff.mpr hts
     rw [if_pos (by omega)]
     refine ixL_go hus5 hv ?_
     refine ⟨_,rfl,_,rfl,_,rfl,ixL_go htg5 (v:=V.ref g) (by rw [List.getElem?_map,hg]; rfl) ?_⟩
     intro nx ndx hnx hndx hnn
     have k6:Kp [] H5 (upd (upd H5 ndx (HO.own nx)) nx (HO.ins a.CN ndx [])):=fun c o e _=>by
      rw [upd_ne (ne_of_none e hnx),upd_ne (ne_of_none e hndx)]; exact e
     have hx6:upd (upd H5 ndx (HO.own nx)) nx (HO.ins a.CN ndx []) nx=some (HO.ins a.CN ndx []):=upd_same
     generalize upd (upd H5 ndx (HO.own nx)) nx (HO.ins a.CN ndx [])=H6 at *
     have tl1:=things_len wo wo.entries i
     have tl2:=toks_le ok
     refine ⟨nx,ndx,wk,g,wo,hb,thingsOf wo i,rfl,hx6,(hw0.keep k5).keep k6,by omega,WordsAt.keep ⟨tv,htv,hPt⟩ k6,Nat.le_trans tl1 (by omega),things_small ok (by omega),fun H7 k7 hN7=>⟨rfl,?_⟩⟩
     have k57:Kp [] H5 H7:=fun b o e _=>k7 _ _ (k6 _ _ e (by simp)) (by simp [ne_of_none e hnx])
     have hl7:=k57 _ _ hl5 (by simp)
     have lnx:nx≠l:=fun z=>by rw [z,hl5] at hnx; cases hnx
     have pl:p≠l:=ne_of hus5 hl5 (by intro z; cases z)
     have tpl:tp≠l:=ne_of htg5 hl5 (by intro z; cases z)
     refine ⟨_,rfl,l,a.CL,d,_,rfl,hl7,T.clLine,T.nL_note,(show (6:Nat) < 1000 by decide),?_⟩
     rw [lnf_put,hPv]
     have kwF:KW H5 (upd H7 l (HO.ins a.CL d (lnf x.first (x.first + x.count) x.begins x.ends (lineTk wo x) (.ref nx)))):=fun b o e i'=>by
      have bl:b≠l:=fun z=>by
       rw [z,hl5] at e
       cases e
       exact nWk_ln _ _ _ _ _ _ i'
      rw [upd_ne bl]
      exact k57 _ _ e (by simp)
     have kw7:KW H7 (upd H7 l (HO.ins a.CL d (lnf x.first (x.first + x.count) x.begins x.ends (lineTk wo x) (.ref nx)))):=fun b o e i'=>by
      have bl:b≠l:=fun z=>by
       rw [z,hl7] at e
       cases e
       exact nWk_ln _ _ _ _ _ _ i'
      rw [upd_ne bl]
      exact e
     refine ⟨_,_,rfl,(k5.trans k57).put2 (.inr hl0),by rw [upd_ne pl]; exact k57 _ _ hus5 (by simp),by rw [upd_ne tpl]; exact k57 _ _ htg5 (by simp),fun k g' hg'=>(hgw5 k g' hg').keepW kwF,fun k y hy=>?_⟩
     obtain ⟨l',d',nv',a1,a2,a3,a4,a5⟩:=hLn k y hy
     by_cases z:k=i
     ·subst z
      rw [hx] at hy
      cases hy
      refine ⟨l,d,.ref nx,hv,upd_same,hl0,fun _=>.inr ⟨hts,nx,rfl,hN7.keepW kw7 (by rw [upd_ne lnx])⟩,fun h=>by omega⟩
     ·have ll':l'≠l:=fun e=>z (nd_ix hnd a1 (by rw [e]; exact hv))
      refine ⟨l',d',nv',a1,by rw [upd_ne ll']; exact k57 _ _ a2 (by simp),a3,fun h=>?_,fun h=>a5 (by omega)⟩
      rcases a4 (by omega) with b1 | ⟨b1,nt,b2,b3⟩
      ·exact .inl b1
      ·refine .inr ⟨b1,nt,b2,?_⟩
       obtain ⟨dn,x1,x2,x3,b4,_⟩:=id b3
       have ntl:nt≠l:=ne_of b4 hl5 (nf_ne_ln _ _ _ _ _ _ _ _ _)
       exact b3.keepW kwF (by rw [upd_ne ntl,k57 _ _ b4 (by simp),b4])
   ·intro σ H5 hw'
    rw [hPv] at hw'
    obtain ⟨o1,o2,rfl,k5,hus5,htg5,hgw5,hLn⟩:=hw'
    walk_at "rd"
    refine q H5 p hp k5 ⟨us,hus5,hul.symm,fun k x hx=>?_⟩
    obtain ⟨l,d,nv,hv,hl5,hl0,hN,_⟩:=hLn k x hx
    exact ⟨l,d,nv,hv,hl5,hN (by have:=(List.getElem?_eq_some_iff.mp hx).1; omega)⟩
end
section
variable {P:Program} {w:World} {K:PySem.W.Frag} {mg:Str→Option Value} {base:Heap} {a:Ad}
def pgf (k f e c o r t:Nat):List (Str × V):=[("kind",.int (k:Int)),("first",.int (f:Int)),("end",.int (e:Int)),("came",.int (c:Int)),("own",.int (o:Int)),("rest",.int (r:Int)),("cost",.int (t:Int))]
theorem pgf_end (k f e c o r t:Nat):(pgf k f e c o r t).lookup ("end":Str)=some (.int (e:Int)):=by rfl
theorem pgf_came (k f e c o r t:Nat):(pgf k f e c o r t).lookup ("came":Str)=some (.int (c:Int)):=by rfl
theorem pgf_own (k f e c o r t:Nat):(pgf k f e c o r t).lookup ("own":Str)=some (.int (o:Int)):=by rfl
theorem pgf_rest (k f e c o r t:Nat):(pgf k f e c o r t).lookup ("rest":Str)=some (.int (r:Int)):=by rfl
theorem pgf_cost (k f e c o r t:Nat):(pgf k f e c o r t).lookup ("cost":Str)=some (.int (t:Int)):=by rfl
theorem pgf_putCame (k f e c o r t n:Nat):putF "came" (.int (n:Int)) (pgf k f e c o r t)=pgf k f e n o r t:=by rfl
theorem pgf_putOwn (k f e c o r t n:Nat):putF "own" (.int (n:Int)) (pgf k f e c o r t)=pgf k f e c n r t:=by rfl
theorem pgf_putRest (k f e c o r t n:Nat):putF "rest" (.int (n:Int)) (pgf k f e c o r t)=pgf k f e c o n t:=by rfl
theorem pgf_putCost (k f e c o r t n:Nat):putF "cost" (.int (n:Int)) (pgf k f e c o r t)=pgf k f e c o r n:=by rfl
theorem pgf_length (k f e c o r t:Nat):(pgf k f e c o r t).length < 1000:=by show (7:Nat) < 1000; decide
def PageAt (a:Ad) (H:Hp) (x:Addr) (p:VhPage.Page) (t:Nat):Prop:=∃ d,H x=some (.ins a.CP d (pgf (VhG.kindOf p) p.first (p.first + p.lines) p.before p.own p.on.length t))
def sp_Page_init (K:PySem.W.Frag) (a:Ad):Sp:=fun vs H Q _=>∃ (x dx:Addr) (k f e:Nat),vs=[.ref x,.int (k:Int),.int (f:Int),.int (e:Int)]∧H x=some (.ins a.CP dx [])∧Q .non (upd H x (.ins a.CP dx (pgf k f e 0 0 0 0)))
abbrev s_Page_init:Stmt:=inClass (top 34) 0
theorem sc_Page_init:FnScope ["self","kind","first","end"] ["self","kind","first","end"] (defScope s_Page_init):=⟨rfl,rfl,rfl,by decide +kernel,rfl,by decide +kernel,by decide +kernel⟩
theorem ok_Page_init {f:Addr} {fd:FuncData} (F:Fun K "__init__" "Page.__init__" s_Page_init f fd) (T:Txt K mg a):FnOk P w K mg base CX0 1 f fd ["self","kind","first","end"] (sp_Page_init K a):=by
 refine F.ok sc_Page_init (fun vs H Q E h=>?_) (fun cdv A outer s H vs Q E hr h=>?_)
 ·obtain ⟨x,dx,k,f,e,rfl,hR,q⟩:=h
  rfl
 ·obtain ⟨x,dx,k,f,e,rfl,hR,q⟩:=h
  have nd:=sc_Page_init.nd
  refine ⟨_,(pss_cons (ps_fld (pv 0) (pv 1) rfl) (pss_cons (ps_fld (pv 0) (pv 2) rfl) (pss_cons (ps_fld (pv 0) (pv 3) rfl) (pss_cons (ps_fld (pv 0) pe_int rfl) (pss_cons (ps_fld (pv 0) pe_int rfl) (pss_cons (ps_fld (pv 0) pe_int rfl) (pss_one (ps_fld (pv 0) pe_int rfl)))))))),?_⟩
  have hR2:=hR
  have hWk:=hR
  have hWk2:=hR
  walk_at "wk"
  refine ⟨T.clPage,T.nP_kind,(show (0:Nat) < 1000 by decide),T.clPage,T.nP_first,(show (1:Nat) < 1000 by decide),T.clPage,T.nP_end,(show (2:Nat) < 1000 by decide),T.clPage,T.nP_came,(show (3:Nat) < 1000 by decide),T.clPage,T.nP_own,(show (4:Nat) < 1000 by decide),T.clPage,T.nP_rest,(show (5:Nat) < 1000 by decide),T.clPage,T.nP_cost,(show (6:Nat) < 1000 by decide),?_⟩
  simp only [upd_upd]
  exact q
def PgR (a:Ad) (H:Hp) (wk ll:Addr) (wo:VhPage.Work):Prop:=(∃ hb,WkR a H wk wo hb)∧WOk wo∧LinesAt a H ll wo
theorem PgR.keep {H H':Hp} {wk ll:Addr} {wo:VhPage.Work} (h:PgR a H wk ll wo) (k:Kp [] H H'):PgR a H' wk ll wo:=by
 obtain ⟨⟨hb,h1⟩,h2,us,h3,h4,h5⟩:=h
 refine ⟨⟨hb,h1.keep k⟩,h2,us,k _ _ h3 (by simp),h4,fun j x hx=>?_⟩
 obtain ⟨l,d,nv,a1,a2,a3⟩:=h5 j x hx
 exact ⟨l,d,nv,a1,k _ _ a2 (by simp),a3.keep k⟩
theorem PgR.get {H:Hp} {wk ll:Addr} {wo:VhPage.Work} (h:PgR a H wk ll wo) {k:Nat} (hk:k < (lnl wo).length):∃ us l d nv x,H ll=some (.lst us)∧us.length=(lnl wo).length∧us[k]?=some (V.ref l)∧(lnl wo)[k]?=some x∧(VhPage.laid wo).line k=x∧H l=some (.ins a.CL d (lnf x.first (x.first + x.count) x.begins x.ends (lineTk wo x) nv))∧NoteV a H wo k nv:=by
 obtain ⟨_,_,us,h3,h4,h5⟩:=h
 have hx:(lnl wo)[k]?=some (lnl wo)[k]:=List.getElem?_eq_getElem hk
 obtain ⟨l,d,nv,a1,a2,a3⟩:=h5 k _ hx
 exact ⟨us,l,d,nv,_,h3,h4,a1,hx,laid_line wo hx,a2,a3⟩
theorem PgR.len {H:Hp} {wk ll:Addr} {wo:VhPage.Work} (h:PgR a H wk ll wo):∃ us,H ll=some (.lst us)∧us.length=(lnl wo).length:=by
 obtain ⟨_,_,us,h3,h4,_⟩:=h
 exact ⟨us,h3,h4⟩
theorem cells_two {wo:VhPage.Work} (ok:WOk wo) (c:Nat):cellsR wo.widths c≤2:=by
 unfold cellsR
 split
 ·omega
 ·split
  ·rename_i x hx
   exact (ok.row x (List.mem_of_find?_eq_some hx)).2.2.2
  ·omega
theorem takes_two {wo:VhPage.Work} (ok:WOk wo):∀ l:List Nat,takesR wo.widths l≤2 * l.length
 | []=>Nat.le_refl _
 | c :: l=>by
  have h1:=takes_two ok l
  have h2:=cells_two ok c
  unfold takesR at *
  rw [List.map_cons,List.sum_cons,List.length_cons]; omega
theorem num_room {wo:VhPage.Work} (ok:WOk wo) {n:Nat} (h:n < 100000):takesR wo.widths (35 :: VhPage.num10 n)≤wo.set.width:=by
 have h1:=takes_two ok (35 :: VhPage.num10 n)
 have w4:=num10_len (n:=n) (k:=5) (by decide) (by omega)
 have:=set_bounds ok.set
 rw [List.length_cons] at h1
 omega
def sp_number_of_line (K:PySem.W.Frag) (a:Ad):Sp:=fun vs H Q _=>∃ (wk:Addr) (wo:VhPage.Work) (hb:List UInt8) (k i:Nat),vs=[.ref wk,.int (k:Int),.int (i:Int)]∧WkR a H wk wo hb∧i≤k∧wo.set.anew≤1∧Q (.int ((VhPage.laid wo).numberOf i k:Nat)) H
abbrev s_number_of_line:Stmt:=top 35
theorem sc_number_of_line:FnScope ["work","k","page_first"] ["work","k","page_first"] (defScope s_number_of_line):=⟨rfl,rfl,rfl,by decide +kernel,rfl,by decide +kernel,by decide +kernel⟩
theorem ok_number_of_line {f:Addr} {fd:FuncData} (F:Fun K "number_of_line" "number_of_line" s_number_of_line f fd) (T:Txt K mg a):FnOk P w K mg base CX0 1 f fd ["work","k","page_first"] (sp_number_of_line K a):=by
 refine F.ok sc_number_of_line (fun vs H Q E h=>?_) (fun cdv A outer s H vs Q E hr h=>?_)
 ·obtain ⟨wk,wo,hb,k,i,rfl,hw,hik,hA,q⟩:=h
  rfl
 ·obtain ⟨wk,wo,hb,k,i,rfl,hw,hik,hA,q⟩:=h
  have nd:=sc_number_of_line.nd
  refine ⟨_,(pss_cons (ps_if (pt_cmpR op_eq (pe_fld (pv 0) rfl) pe_int (nomark _)) (pss_one (ps_ret (pe_op op_sub (pe_op op_add (pv 1) pe_int) (pv 2)))) pss_nil) (pss_one (ps_ret (pe_op op_add (pv 1) pe_int)))),?_⟩
  obtain ⟨⟨dw,aR,aH,aP,aW,aS,aE,rs,ps,ws,gs,es,hWk,_⟩,_⟩:=hw
  have hWk2:=hWk
  have hR:=hWk
  have hR2:=hWk
  have e0:(VhPage.laid wo).numberOf i k=if wo.set.anew=0 then k + 1 else k - i + 1:=rfl
  rw [e0] at q
  walk_at "wk"
  refine ⟨_,rfl,rfl,?_⟩
  have ea:(V.int (wo.set.anew:Int)=V.int 1)↔wo.set.anew=1:=⟨fun z=>by injection z with z; omega,fun z=>by rw [z]; rfl⟩
  by_cases h:wo.set.anew=1
  ·rw [if_pos (ea.mpr h)]
   rw [if_neg (by omega)] at q
   have e1:(k:Int) + 1 - (i:Int)=((k - i + 1:Nat):Int):=by omega
   rw [e1]; exact q
  ·rw [if_neg (fun z=>h (ea.mp z))]
   rw [if_pos (by omega)] at q
   exact q
theorem number_small {wo:VhPage.Work} (ok:WOk wo) {i k:Nat} (hk:k < (lnl wo).length):(VhPage.laid wo).numberOf i k < 100000:=by
 have e0:(VhPage.laid wo).numberOf i k=if wo.set.anew=0 then k + 1 else k - i + 1:=rfl
 have:=lnl_len ok
 have:=ok.size
 rw [e0]; split <;> omega
def sp_own_foot_lines (K:PySem.W.Frag) (a:Ad):Sp:=fun vs H Q _=>∃ (wk ll:Addr) (wo:VhPage.Work) (k i:Nat),vs=[.ref wk,.ref ll,.int (k:Int),.int (i:Int)]∧PgR a H wk ll wo∧i≤k∧k < (lnl wo).length∧∀ H',Kp [] H H'→Q (.int (ownN (VhPage.laid wo) i k:Nat)) H'
abbrev s_own_foot_lines:Stmt:=top 36
theorem sc_own_foot_lines:FnScope ["work","lines","k","page_first"] ["work","lines","k","page_first"] (defScope s_own_foot_lines):=⟨rfl,rfl,rfl,by decide +kernel,rfl,by decide +kernel,by decide +kernel⟩
theorem ok_own_foot_lines {f:Addr} {fd:FuncData} (F:Fun K "own_foot_lines" "own_foot_lines" s_own_foot_lines f fd) (T:Txt K mg a) (c_count_foot_lines:FnC P w K mg base CX0 4 "count_foot_lines" ["work","note","number"] (sp_count_foot_lines K a)) (c_number_of_line:FnC P w K mg base CX0 1 "number_of_line" ["work","k","page_first"] (sp_number_of_line K a)):FnOk P w K mg base CX0 5 f fd ["work","lines","k","page_first"] (sp_own_foot_lines K a):=by
 refine F.ok sc_own_foot_lines (fun vs H Q E h=>?_) (fun cdv A outer s H vs Q E hr h=>?_)
 ·obtain ⟨wk,ll,wo,k,i,rfl,hP,hik,hk,q⟩:=h
  rfl
 ·obtain ⟨wk,ll,wo,k,i,rfl,hP,hik,hk,q⟩:=h
  have nd:=sc_own_foot_lines.nd
  refine ⟨_,(pss_cons (ps_if (pt_cmpR op_isN (pe_fld (pe_ix ix_list (pv 1) (pv 2) (fun _ _=>rfl)) rfl) pe_non (nomark _)) (pss_one (ps_ret pe_int)) pss_nil) (pss_one (ps_ret (pe_callC c_count_foot_lines hr pass0 (pa_cons (pv 0) (pa_cons (pe_fld (pe_ix ix_list (pv 1) (pv 2) (fun _ _=>rfl)) rfl) (pa_cons (pe_callC c_number_of_line hr pass0 (pa_cons (pv 0) (pa_cons (pv 2) (pa_cons (pv 3) pa_nil)))) pa_nil))))))),?_⟩
  obtain ⟨us,l,d,nv,x,h1,h2,h3,h4,h5,hR,h7⟩:=hP.get hk
  obtain ⟨⟨hb,hw⟩,ok,_⟩:=hP
  rw [own_same wo hk] at q
  have hR2:=hR
  have hWk:=hR
  have hWk2:=hR
  have hA:=set_bounds ok.set
  walk_at "rd"
  have hns:=number_small ok (i:=i) hk
  have hnr:=num_room ok hns
  refine fldIx_go rfl rfl h1 h3 hR T.clLine T.nL_note (lnf_note _ _ _ _ _ _) ?_
  rcases h7 with ⟨h7,rfl⟩ | ⟨h7,nt,rfl,hN⟩
  ·rw [if_pos h7] at q
   rw [if_pos rfl]
   exact q H Kp.refl
  ·rw [if_neg h7] at q
   rw [if_neg (by intro z; cases z)]
   refine fldIx_go rfl rfl h1 h3 hR T.clLine T.nL_note (lnf_note _ _ _ _ _ _) ?_
   refine ⟨wk,wo,hb,k,i,rfl,hw,hik,by omega,wk,nt,wo,hb,thingsOf wo k,_,rfl,hw,by omega,hN,hns,hnr,fun H' k'=>?_⟩
   exact q H' k'
def sp_wanted (K:PySem.W.Frag) (a:Ad):Sp:=fun vs H Q _=>∃ (c f:Nat),vs=[.int (c:Int),.int (f:Int)]∧Q (.int (VhPage.wantsOf c f:Nat)) H
abbrev s_wanted:Stmt:=top 37
theorem sc_wanted:FnScope ["count","foot_count"] ["count","foot_count"] (defScope s_wanted):=⟨rfl,rfl,rfl,by decide +kernel,rfl,by decide +kernel,by decide +kernel⟩
theorem ok_wanted {f:Addr} {fd:FuncData} (F:Fun K "wanted" "wanted" s_wanted f fd) (T:Txt K mg a):FnOk P w K mg base CX0 1 f fd ["count","foot_count"] (sp_wanted K a):=by
 refine F.ok sc_wanted (fun vs H Q E h=>?_) (fun cdv A outer s H vs Q E hr h=>?_)
 ·obtain ⟨c,f,rfl,q⟩:=h
  rfl
 ·obtain ⟨c,f,rfl,q⟩:=h
  have nd:=sc_wanted.nd
  refine ⟨_,(pss_cons (ps_if (pt_cmpR op_gt (pv 1) pe_int (nomark _)) (pss_one (ps_ret (pe_op op_add (pe_op op_add (pv 0) (pv 1)) pe_int))) pss_nil) (pss_one (ps_ret (pv 0)))),?_⟩
  unfold VhPage.wantsOf at q
  walk_at "rd"
  split
  ·rename_i h
   rw [if_neg (by omega)] at q
   have e:(c:Int) + (f:Int) + 1=((c + f + 1:Nat):Int):=by omega
   rw [e]; exact q
  ·rename_i h
   have hf:f=0:=by omega
   subst hf
   exact q
end
section
variable {P:Program} {w:World} {K:PySem.W.Frag} {mg:Str→Option Value} {base:Heap} {a:Ad}
theorem fldIx_go2 {p:Nat} {ti:TE} {f:Str} {σ:L2.St} {H:Hp} {Q:VK} {ll l C d:Addr} {us:List V} {fs:List (Str × V)} {j:Nat} {v:V} (h1:σ[p]?=some (some (.ref ll))) (h2:∀ Q:VK,Q (.int (j:Int)) H→ti σ H Q) (h3:H ll=some (.lst us)) (h4:us[j]?=some (.ref l)) (h5:H l=some (.ins C d fs)) (c:Cls K C) (n:NoAttr K C f) (h6:fs.lookup f=some v) (hq:Q v H):tFld K (tOp (rIxL K) (tVar p) ti) f σ H Q :=
 ⟨_,h1,h2 _ (ixL_go h3 h4 ⟨l,C,d,fs,v,rfl,h5,c,n,h6,hq⟩)⟩
theorem int_go {Q:VK} {i j:Int} {H:Hp} (e:j=i) (q:Q (.int i) H):Q (.int j) H:=by rw [e]; exact q
def WhI (H:Hp) (i:Nat) (p:VhPage.Page) (v:V):Prop:=∃ t,v=.ref t∧H t=some (.tup [.int (i + p.lines:Nat),.int (p.wants:Nat)])
def sp_whole_pages (K:PySem.W.Frag) (a:Ad):Sp:=fun vs H Q _=>∃ (wk ll:Addr) (wo:VhPage.Work) (i:Nat) (c:List (List Vh.Letters)),vs=[.ref wk,.ref ll,.int (i:Int),.int (c.length:Nat)]∧PgR a H wk ll wo∧i≤(lnl wo).length ∧
 ∀ H' p us,H p=none→Kp [] H H'→H' p=some (.lst us)→Paired (WhI H' i) (wl (VhPage.laid wo) i c) us→Q (.ref p) H'
abbrev s_whole_pages:Stmt:=top 38
theorem sc_whole_pages:FnScope ["work","lines","first","carried","found","foot_count","k","wants"] ["work","lines","first","carried"] (defScope s_whole_pages):=⟨rfl,rfl,rfl,by decide +kernel,rfl,by decide +kernel,by decide +kernel⟩
theorem ok_whole_pages {f:Addr} {fd:FuncData} (F:Fun K "whole_pages" "whole_pages" s_whole_pages f fd) (T:Txt K mg a) (c_own_foot_lines:FnC P w K mg base CX0 5 "own_foot_lines" ["work","lines","k","page_first"] (sp_own_foot_lines K a)) (c_wanted:FnC P w K mg base CX0 1 "wanted" ["count","foot_count"] (sp_wanted K a)):FnOk P w K mg base CX0 6 f fd ["work","lines","first","carried"] (sp_whole_pages K a):=by
 refine F.ok sc_whole_pages (fun vs H Q E h=>?_) (fun cdv A outer s H vs Q E hr h=>?_)
 ·obtain ⟨wk,ll,wo,i,c,rfl,hP,hi,q⟩:=h
  rfl
 ·obtain ⟨wk,ll,wo,i,c,rfl,hP,hi,q⟩:=h
  have nd:=sc_whole_pages.nd
  refine ⟨_,(pss_cons (ps_set (i:=4) nd rfl (Or.inl rfl) (pe_lst pa_nil)) (pss_cons (ps_set (i:=5) nd rfl (Or.inl rfl) (pv 3)) (pss_cons (ps_for PassesOwn.never rfl (pi_range2 rfl T.range (pa_cons (pv 2) (pa_cons (pe_callB call_len_seq rfl T.len PySem.boot_len (pa_cons (pv 1) pa_nil)) pa_nil))) (pg_name (i:=6) nd rfl (Or.inl rfl)) (pss_cons (ps_aug (i:=5) nd rfl (Or.inl rfl) (pe_callC c_own_foot_lines hr pass0 (pa_cons (pv 0) (pa_cons (pv 1) (pa_cons (pv 6) (pa_cons (pv 2) pa_nil))))) ip_add) (pss_cons (ps_set (i:=7) nd rfl (Or.inl rfl) (pe_callC c_wanted hr pass0 (pa_cons (pe_op op_sub (pe_op op_add (pv 6) pe_int) (pv 2)) (pa_cons (pv 5) pa_nil)))) (pss_cons (ps_if (pt_cmpR op_gt (pv 7) (pe_fld (pv 0) rfl) (nomark _)) (pss_one ps_break) pss_nil) (pss_one (ps_expr (pe_bm PySem.F.plainAttrs_list PySem.F.slot_list_append PySem.F.type_list_append mt_append (pv 4) (pa_cons (pe_tup (pa_cons (pe_op op_add (pv 6) pe_int) (pa_cons (pv 7) pa_nil))) pa_nil)))))))) (pss_one (ps_ret (pv 4)))))),?_⟩
  obtain ⟨us,h1,h2⟩:=hP.len
  have hP0:=hP
  obtain ⟨⟨hb,hw⟩,ok,_⟩:=hP
  have hz:sizeLine=16777216:=by decide
  have hn:=lnl_len ok
  have hn8:=ok.size
  have hsz:=laid_size wo
  walk_at "rd"
  refine ⟨by decide,fun p hp=>?_⟩
  have kp:Kp [] H (upd H p (HO.lst [])):=Kp.new hp
  have hsb:=set_bounds ok.set
  have hfin:∀ (d:Nat) (H':Hp) (fs:List V),Kp [] H H'→H' p=some (.lst fs)→Paired (WhI H' i) ((List.range d).map fun e=>whole (VhPage.laid wo) i c (i + e)) fs→i + d≤(lnl wo).length→(∀ e,e < d→wantK (VhPage.laid wo) i c.length (i + e)≤wo.set.height)→((lnl wo).length≤i + d∨wo.set.height < wantK (VhPage.laid wo) i c.length (i + d))→Q (.ref p) H':=fun d H' fs k1 h1 h2 h3 h4 h5=>by
   refine q H' p fs hp k1 h1 ?_
   rw [wl_eq (VhPage.laid wo) i c d (by omega) h4 (by rw [hsz]; exact h5)]
   exact h2
  obtain ⟨Pv,hPv⟩:∃ Pv:WT,Pv=fun d σ H'=>∃ o1 o2:Option V,σ=[some (.ref wk),some (.ref ll),some (.int (i:Int)),some (.int (c.length:Nat)),some (.ref p),some (.int (c.length + ownS (VhPage.laid wo) i (i + d):Nat)),o1,o2]∧Kp [] H H'∧∃ fs,H' p=some (.lst fs)∧Paired (WhI H' i) ((List.range d).map fun e=>whole (VhPage.laid wo) i c (i + e)) fs∧∀ e,e < d→wantK (VhPage.laid wo) i c.length (i + e)≤wo.set.height:=⟨_,rfl⟩
  have en:Int.toNat ((us.length:Int) - (i:Int))=(lnl wo).length - i:=by omega
  refine ⟨_,rfl,_,rfl,ll,rfl,us,.inl (.inl (.inl (kp _ _ h1 (by simp)))),_,_,rfl,⟨by omega,by omega,by omega,by omega⟩,?_⟩
  rw [en]
  refine for_range Pv ?_ ?_ ?_
  ·rw [hPv]
   exact ⟨none,none,by rw [Nat.add_zero,ownS_nil]; rfl,kp,[],upd_same,.nil,fun e he=>by omega⟩
  ·intro d σ H3 hd hw'
   rw [hPv] at hw'
   obtain ⟨o1,o2,rfl,k3,fs,hfs,hPf,hwk⟩:=hw'
   have ei:(i:Int) + (d:Int)=((i + d:Nat):Int):=by omega
   rw [ei]
   walk_at "rd"
   refine ⟨wk,ll,wo,i + d,i,rfl,hP0.keep k3,by omega,by omega,fun H4 k4=>?_⟩
   have k34:=k3.trans k4
   obtain ⟨⟨dw,aR,aH,aP,aW,aS,aE,rs,ps,ws,gs,es,hWk0,_⟩,_⟩:=hw.keep k34
   have eo:((c.length + ownS (VhPage.laid wo) i (i + d):Nat):Int) + (ownN (VhPage.laid wo) i (i + d):Nat)=((c.length + ownS (VhPage.laid wo) i (i + (d + 1)):Nat):Int):=by
    have:=ownS_succ (VhPage.laid wo) (i:=i) (k:=i + d) (by omega)
    rw [← Nat.add_assoc,this]; omega
   have ek:((i + d:Nat):Int) + 1 - (i:Int)=((d + 1:Nat):Int):=by omega
   have ew:VhPage.wantsOf (d + 1) (c.length + ownS (VhPage.laid wo) i (i + (d + 1)))=wantK (VhPage.laid wo) i c.length (i + d):=by
    unfold wantK
    rw [show i + d + 1 - i=d + 1 by omega,Nat.add_assoc]
   refine ⟨_,rfl,?_⟩
   rw [eo,ek]
   refine ⟨d + 1,_,rfl,?_⟩
   rw [ew]
   refine ⟨_,rfl,wk,a.CW,dw,_,_,rfl,hWk0,T.clWork,T.n_height,rfl,_,rfl,_,rfl,?_⟩
   have hfs4:=k4 _ _ hfs (by simp)
   have hPf4:Paired (WhI H4 i) ((List.range d).map fun e=>whole (VhPage.laid wo) i c (i + e)) fs:=Paired.mono (fun x v ⟨t,e,ht⟩=>⟨t,e,k4 _ _ ht (by simp)⟩) hPf
   have hfl:=Paired.length hPf
   rw [List.length_map,List.length_range] at hfl
   by_cases hbig:wo.set.height < wantK (VhPage.laid wo) i c.length (i + d)
   ·rw [if_pos (by omega)]
    simp only [tBreak]
    walk_at "rd"
    exact hfin d H4 fs k34 hfs4 hPf4 (by omega) hwk (.inr hbig)
   ·rw [if_neg (by omega)]
    refine ⟨.inl ⟨rfl,_,.inl (.inl hfs4)⟩,by decide,fun t ht=>?_⟩
    have pt:p≠t:=ne_of_none hfs4 ht
    have kt:Kp [] H4 (upd H4 t (HO.tup [V.int (((i + d:Nat):Int) + 1),V.int (wantK (VhPage.laid wo) i c.length (i + d):Nat)])):=Kp.new ht
    have ht5:upd H4 t (HO.tup [V.int (((i + d:Nat):Int) + 1),V.int (wantK (VhPage.laid wo) i c.length (i + d):Nat)]) t=some (HO.tup [V.int (((i + d:Nat):Int) + 1),V.int (wantK (VhPage.laid wo) i c.length (i + d):Nat)]):=upd_same
    generalize upd H4 t (HO.tup [V.int (((i + d:Nat):Int) + 1),V.int (wantK (VhPage.laid wo) i c.length (i + d):Nat)])=H5 at *
    have hfs5:=kt _ _ hfs4 (by simp)
    refine ⟨fs,hfs5,by omega,?_⟩
    rw [hPv]
    refine ⟨_,_,rfl,(k34.trans kt).put2 (.inr hp),fs ++ [.ref t],upd_same,?_,fun e he=>?_⟩
    ·rw [List.range_succ,List.map_append]
     have up:∀ b xs,H5 b=some (.tup xs)→upd H5 p (HO.lst (fs ++ [V.ref t])) b=some (.tup xs):=fun b xs h=>by rw [upd_ne (ne_of h hfs5 (by intro z; cases z))]; exact h
     refine Paired.snoc (Paired.mono (fun x v ⟨t',e,ht'⟩=>⟨t',e,up _ _ (kt _ _ ht' (by simp))⟩) hPf4) ⟨t,rfl,up _ _ ?_⟩
     rw [ht5,whole_wants]
     have e5:i + (whole (VhPage.laid wo) i c (i + d)).lines=i + d + 1:=by show i + (i + d + 1 - i)=_; omega
     rw [e5]; rfl
    ·by_cases z:e=d
     ·subst z; omega
     ·exact hwk e (by omega)
  ·intro σ H3 hw'
   rw [hPv] at hw'
   obtain ⟨o1,o2,rfl,k3,fs,hfs,hPf,hwk⟩:=hw'
   walk_at "rd"
   exact hfin _ H3 fs k3 hfs hPf (by omega) hwk (.inl (by omega))
def sp_may_be_whole (K:PySem.W.Frag) (a:Ad):Sp:=fun vs H Q _=>∃ (wk ll:Addr) (wo:VhPage.Work) (i:Nat) (c:List (List Vh.Letters)),vs=[.ref wk,.ref ll,.int (i:Int),.int (c.length:Nat)]∧PgR a H wk ll wo∧i≤(lnl wo).length∧∀ H',Kp [] H H'→Q (.bl (!(wl (VhPage.laid wo) i c).isEmpty)) H'
abbrev s_may_be_whole:Stmt:=top 39
theorem sc_may_be_whole:FnScope ["work","lines","first","carried"] ["work","lines","first","carried"] (defScope s_may_be_whole):=⟨rfl,rfl,rfl,by decide +kernel,rfl,by decide +kernel,by decide +kernel⟩
theorem ok_may_be_whole {f:Addr} {fd:FuncData} (F:Fun K "may_be_whole" "may_be_whole" s_may_be_whole f fd) (T:Txt K mg a) (c_wanted:FnC P w K mg base CX0 1 "wanted" ["count","foot_count"] (sp_wanted K a)) (c_own_foot_lines:FnC P w K mg base CX0 5 "own_foot_lines" ["work","lines","k","page_first"] (sp_own_foot_lines K a)):FnOk P w K mg base CX0 6 f fd ["work","lines","first","carried"] (sp_may_be_whole K a):=by
 refine F.ok sc_may_be_whole (fun vs H Q E h=>?_) (fun cdv A outer s H vs Q E hr h=>?_)
 ·obtain ⟨wk,ll,wo,i,c,rfl,hP,hi,q⟩:=h
  rfl
 ·obtain ⟨wk,ll,wo,i,c,rfl,hP,hi,q⟩:=h
  have nd:=sc_may_be_whole.nd
  refine ⟨_,(pss_cons (ps_if (pt_cmpR op_eq (pv 2) (pe_callB call_len_seq rfl T.len PySem.boot_len (pa_cons (pv 1) pa_nil)) (nomark _)) (pss_one (ps_ret pe_bl)) pss_nil) (pss_one (ps_ret (pe_cmpR op_le (pe_callC c_wanted hr pass0 (pa_cons pe_int (pa_cons (pe_op op_add (pv 3) (pe_callC c_own_foot_lines hr pass0 (pa_cons (pv 0) (pa_cons (pv 1) (pa_cons (pv 2) (pa_cons (pv 2) pa_nil)))))) pa_nil))) (pe_fld (pv 0) rfl) (nomark _))))),?_⟩
  obtain ⟨us,h1,h2⟩:=hP.len
  have hP0:=hP
  obtain ⟨⟨hb,hw⟩,ok,_⟩:=hP
  have hsz:=laid_size wo
  have hw':wl (VhPage.laid wo) i c=[]↔((lnl wo).length≤i∨wo.set.height < wantK (VhPage.laid wo) i c.length i):=by
   have:=wl_nil (VhPage.laid wo) i c (by omega)
   rw [hsz] at this
   exact this
  have heq:(!(wl (VhPage.laid wo) i c).isEmpty)=decide (¬ ((lnl wo).length≤i∨wo.set.height < wantK (VhPage.laid wo) i c.length i)):=by
   by_cases z:wl (VhPage.laid wo) i c=[]
   ·rw [decide_eq_false (fun y=>y (hw'.mp z)),z]; rfl
   ·rw [decide_eq_true (p:=¬ ((lnl wo).length≤i∨wo.set.height < wantK (VhPage.laid wo) i c.length i)) (fun y=>z (hw'.mpr y))]
    cases y:wl (VhPage.laid wo) i c with
    | nil=>exact absurd y z
    | cons p l=>rfl
  rw [heq] at q
  walk_at "rd"
  refine ⟨_,.inl (.inl (.inl h1)),?_⟩
  by_cases hin:i=us.length
  ·rw [if_pos (by omega)]
   rw [decide_eq_false (fun y=>y (.inl (by omega)))] at q
   exact q H Kp.refl
  ·rw [if_neg (by omega)]
   refine ⟨wk,ll,wo,i,i,rfl,hP0,Nat.le_refl _,by omega,fun H2 k2=>⟨_,rfl,1,c.length + ownN (VhPage.laid wo) i i,?_,?_⟩⟩
   ·have e1:(c.length:Int) + (ownN (VhPage.laid wo) i i:Nat)=((c.length + ownN (VhPage.laid wo) i i:Nat):Int):=by omega
    rw [e1]; rfl
   ·obtain ⟨⟨dw,aR,aH,aP,aW,aS,aE,rs,ps,ws,gs,es,hWk0,_⟩,_⟩:=hw.keep k2
    refine ⟨_,rfl,wk,a.CW,dw,_,_,rfl,hWk0,T.clWork,T.n_height,rfl,_,rfl,_,rfl,?_⟩
    have e2:VhPage.wantsOf 1 (c.length + ownN (VhPage.laid wo) i i)=wantK (VhPage.laid wo) i c.length i:=by
     unfold wantK
     rw [show i + 1 - i=1 by omega,ownS_one]
    have e3:decide (((VhPage.wantsOf 1 (c.length + ownN (VhPage.laid wo) i i):Nat):Int)≤(wo.set.height:Int))=decide (¬ ((lnl wo).length≤i∨wo.set.height < wantK (VhPage.laid wo) i c.length i)):=decide_eq_decide.mpr (by
     rw [e2]; omega)
    rw [e3]
    exact q H2 k2
def sp_loose_cost (K:PySem.W.Frag) (a:Ad):Sp:=fun vs H Q _=>∃ (wk ll:Addr) (wo:VhPage.Work) (i e:Nat),vs=[.ref wk,.ref ll,.int (i:Int),.int (e:Int)]∧PgR a H wk ll wo∧i < e∧e≤(lnl wo).length∧Q (.int (looseC (VhPage.laid wo) i e:Nat)) H
abbrev s_loose_cost:Stmt:=top 40
theorem sc_loose_cost:FnScope ["work","lines","first","end","cost"] ["work","lines","first","end"] (defScope s_loose_cost):=⟨rfl,rfl,rfl,by decide +kernel,rfl,by decide +kernel,by decide +kernel⟩
theorem ok_loose_cost {f:Addr} {fd:FuncData} (F:Fun K "loose_cost" "loose_cost" s_loose_cost f fd) (T:Txt K mg a):FnOk P w K mg base CX0 1 f fd ["work","lines","first","end"] (sp_loose_cost K a):=by
 refine F.ok sc_loose_cost (fun vs H Q E h=>?_) (fun cdv A outer s H vs Q E hr h=>?_)
 ·obtain ⟨wk,ll,wo,i,e,rfl,hP,hie,he,q⟩:=h
  rfl
 ·obtain ⟨wk,ll,wo,i,e,rfl,hP,hie,he,q⟩:=h
  have nd:=sc_loose_cost.nd
  refine ⟨_,(pss_cons (ps_set (i:=4) nd rfl (Or.inl rfl) pe_int) (pss_cons (ps_if (PW.pt (pw_and (pt_truth (pe_fld (pe_ix ix_list (pv 1) (pe_op op_sub (pv 3) pe_int) (fun _ _=>rfl)) rfl) (fun _=>rfl)) (pw_and1 (pt_not (pt_truth (pe_fld (pe_ix ix_list (pv 1) (pe_op op_sub (pv 3) pe_int) (fun _ _=>rfl)) rfl) (fun _=>rfl)))))) (pss_one (ps_aug (i:=4) nd rfl (Or.inl rfl) (pe_fld (pv 0) rfl) ip_add)) pss_nil) (pss_cons (ps_if (PW.pt (pw_and (pt_truth (pe_fld (pe_ix ix_list (pv 1) (pv 2) (fun _ _=>rfl)) rfl) (fun _=>rfl)) (pw_and1 (pt_not (pt_truth (pe_fld (pe_ix ix_list (pv 1) (pv 2) (fun _ _=>rfl)) rfl) (fun _=>rfl)))))) (pss_one (ps_aug (i:=4) nd rfl (Or.inl rfl) (pe_fld (pv 0) rfl) ip_add)) pss_nil) (pss_one (ps_ret (pv 4)))))),?_⟩
  obtain ⟨us,l,d,nv,x,h1,h2,h3,h4,h5,h6,h7⟩:=hP.get (k:=e - 1) (by omega)
  obtain ⟨us',l',d',nv',x',g1,g2,g3,g4,g5,g6,g7⟩:=hP.get (k:=i) (by omega)
  obtain ⟨⟨hb,hw⟩,ok,_⟩:=hP
  obtain ⟨⟨dw,aR,aH,aP,aW,aS,aE,rs,ps,ws,gs,es,hWk0,_⟩,_⟩:=hw
  have hix:∀ (σ:L2.St),σ[3]?=some (some (.int (e:Int)))→∀ Q:VK,Q (.int ((e - 1:Nat):Int)) H→tOp (rI0 fun i j=>V.int (i - j)) (tVar 3) (tC (V.int 1)) σ H Q:=fun σ hσ Q hQ=>by
   refine ⟨_,hσ,_,_,rfl,rfl,?_⟩
   show Q (.int ((e:Int) - 1)) H
   rw [show (e:Int) - 1=((e - 1:Nat):Int) by omega]; exact hQ
  unfold looseC at q
  rw [h5,g5,laid_work] at q
  walk_at "rd"
  refine fldIx_go2 rfl (hix _ rfl) h1 h3 h6 T.clLine T.nL_opens (lnf_opens _ _ _ _ _ _) ⟨x.begins,rfl,?_⟩
  by_cases hA:x.begins=true
  case' neg =>
   rw [if_neg hA]
   rw [if_neg (fun z=>hA z.1)] at q
  case' pos =>
   rw [if_pos hA]
   refine fldIx_go2 rfl (hix _ rfl) h1 h3 h6 T.clLine T.nL_closes (lnf_closes _ _ _ _ _ _) ⟨x.ends,rfl,?_⟩
   by_cases hB:x.ends=false
   case' pos =>
    rw [if_pos hB]
    refine ⟨_,rfl,wk,a.CW,dw,_,_,rfl,hWk0,T.clWork,T.n_loose,rfl,_,rfl,?_⟩
    rw [if_pos ⟨hA,hB⟩] at q
   case' neg =>
    rw [if_neg hB]
    rw [if_neg (fun z=>hB z.2)] at q
  all_goals
   refine fldIx_go rfl rfl g1 g3 g6 T.clLine T.nL_closes (lnf_closes _ _ _ _ _ _) ⟨x'.ends,rfl,?_⟩
   by_cases hC:x'.ends=true
   ·rw [if_pos hC]
    refine fldIx_go rfl rfl g1 g3 g6 T.clLine T.nL_opens (lnf_opens _ _ _ _ _ _) ⟨x'.begins,rfl,?_⟩
    by_cases hD:x'.begins=false
    ·rw [if_pos hD]
     refine ⟨_,rfl,wk,a.CW,dw,_,_,rfl,hWk0,T.clWork,T.n_loose,rfl,_,rfl,?_⟩
     rw [if_pos ⟨hC,hD⟩] at q
     exact int_go (by omega) q
    ·rw [if_neg hD]
     rw [if_neg (fun z=>hD z.2)] at q
     exact int_go (by omega) q
   ·rw [if_neg hC]
    rw [if_neg (fun z=>hC z.1)] at q
    exact int_go (by omega) q
def sp_whole_cost (K:PySem.W.Frag) (a:Ad):Sp:=fun vs H Q _=>∃ (wk ll:Addr) (wo:VhPage.Work) (i e n:Nat),vs=[.ref wk,.ref ll,.int (i:Int),.int (e:Int),.int (n:Int)]∧PgR a H wk ll wo∧i < e∧e≤(lnl wo).length∧n≤wo.set.height∧Q (.int (wcost (VhPage.laid wo) i e n:Nat)) H
abbrev s_whole_cost:Stmt:=top 41
theorem sc_whole_cost:FnScope ["work","lines","first","end","wants","cost"] ["work","lines","first","end","wants"] (defScope s_whole_cost):=⟨rfl,rfl,rfl,by decide +kernel,rfl,by decide +kernel,by decide +kernel⟩
theorem ok_whole_cost {f:Addr} {fd:FuncData} (F:Fun K "whole_cost" "whole_cost" s_whole_cost f fd) (T:Txt K mg a) (c_loose_cost:FnC P w K mg base CX0 1 "loose_cost" ["work","lines","first","end"] (sp_loose_cost K a)):FnOk P w K mg base CX0 2 f fd ["work","lines","first","end","wants"] (sp_whole_cost K a):=by
 refine F.ok sc_whole_cost (fun vs H Q E h=>?_) (fun cdv A outer s H vs Q E hr h=>?_)
 ·obtain ⟨wk,ll,wo,i,e,n,rfl,hP,hie,he,hn,q⟩:=h
  rfl
 ·obtain ⟨wk,ll,wo,i,e,n,rfl,hP,hie,he,hn,q⟩:=h
  have nd:=sc_whole_cost.nd
  refine ⟨_,(pss_cons (ps_set (i:=5) nd rfl (Or.inl rfl) (pe_callC c_loose_cost hr pass0 (pa_cons (pv 0) (pa_cons (pv 1) (pa_cons (pv 2) (pa_cons (pv 3) pa_nil)))))) (pss_cons (ps_if (pt_cmpR op_lt (pv 3) (pe_callB call_len_seq rfl T.len PySem.boot_len (pa_cons (pv 1) pa_nil)) (nomark _)) (pss_one (ps_aug (i:=5) nd rfl (Or.inl rfl) (pe_op op_pow (pe_op op_sub (pe_fld (pv 0) rfl) (pv 4)) pe_int) ip_add)) pss_nil) (pss_one (ps_ret (pv 5))))),?_⟩
  obtain ⟨us,h1,h2⟩:=hP.len
  have hP0:=hP
  obtain ⟨⟨hb,hw⟩,ok,_⟩:=hP
  obtain ⟨⟨dw,aR,aH,aP,aW,aS,aE,rs,ps,ws,gs,es,hWk0,_⟩,_⟩:=hw
  have hsb:=set_bounds ok.set
  unfold wcost at q
  rw [laid_size,laid_work] at q
  walk_at "rd"
  refine ⟨wk,ll,wo,i,e,rfl,hP0,hie,he,_,.inl (.inl (.inl h1)),?_⟩
  by_cases hen:e < (lnl wo).length
  ·rw [if_pos (by omega)]
   rw [if_pos hen] at q
   refine ⟨_,rfl,wk,a.CW,dw,_,_,rfl,hWk0,T.clWork,T.n_height,rfl,_,rfl,⟨by decide,by decide,by omega⟩,_,rfl,?_⟩
   have e1:((wo.set.height:Int) - (n:Int)) ^ Int.toNat 2=(((wo.set.height - n) ^ 2:Nat):Int):=by
    have e1:((wo.set.height:Int) - (n:Int))=((wo.set.height - n:Nat):Int):=by omega
    rw [e1,Int.natCast_pow]; rfl
   rw [e1]
   exact int_go (by omega) q
  ·rw [if_neg (by omega)]
   rw [if_neg hen] at q
   exact q
end
section
variable {P:Program} {w:World} {K:PySem.W.Frag} {mg:Str→Option Value} {base:Heap} {a:Ad}
abbrev bst1 (wo:VhPage.Work) (j:Nat):Nat:=(best (VhPage.laid wo) (noteB wo) j []).1
def CostsAt (us:List V) (wo:VhPage.Work) (i:Nat):Prop:=us.length=(lnl wo).length + 1∧∀ j,i < j→j≤(lnl wo).length→us[j]?=some (.int (bst1 wo j:Nat))
def sp_best_whole (K:PySem.W.Frag) (a:Ad):Sp:=fun vs H Q _=>∃ (wk ll cs:Addr) (wo:VhPage.Work) (i:Nat) (c:List (List Vh.Letters)) (us:List V),vs=[.ref wk,.ref ll,.ref cs,.int (i:Int),.int (c.length:Nat)]∧PgR a H wk ll wo∧i≤(lnl wo).length∧H cs=some (.lst us)∧CostsAt us wo i∧wl (VhPage.laid wo) i c≠[] ∧
 ∀ H' t p,Kp [] H H'→bestP (VhPage.laid wo) (noteB wo) i (wl (VhPage.laid wo) i c)=some (cst (VhPage.laid wo) (noteB wo) i p,p)→H' t=some (.tup [.int (cst (VhPage.laid wo) (noteB wo) i p:Nat),.int (i + p.lines:Nat)])→Q (.ref t) H'
abbrev s_best_whole:Stmt:=top 42
theorem sc_best_whole:FnScope ["work","lines","costs","first","carried","best","found","end","cost"] ["work","lines","costs","first","carried"] (defScope s_best_whole):=⟨rfl,rfl,rfl,by decide +kernel,rfl,by decide +kernel,by decide +kernel⟩
theorem ok_best_whole {f:Addr} {fd:FuncData} (F:Fun K "best_whole" "best_whole" s_best_whole f fd) (T:Txt K mg a) (c_whole_pages:FnC P w K mg base CX0 6 "whole_pages" ["work","lines","first","carried"] (sp_whole_pages K a)) (c_whole_cost:FnC P w K mg base CX0 2 "whole_cost" ["work","lines","first","end","wants"] (sp_whole_cost K a)):FnOk P w K mg base CX0 7 f fd ["work","lines","costs","first","carried"] (sp_best_whole K a):=by
 refine F.ok sc_best_whole (fun vs H Q E h=>?_) (fun cdv A outer s H vs Q E hr h=>?_)
 ·obtain ⟨wk,ll,cs,wo,i,c,us,rfl,hP,hi,hcs,hC,hne,q⟩:=h
  rfl
 ·obtain ⟨wk,ll,cs,wo,i,c,us,rfl,hP,hi,hcs,hC,hne,q⟩:=h
  have nd:=sc_best_whole.nd
  refine ⟨_,(pss_cons (ps_set (i:=5) nd rfl (Or.inl rfl) pe_non) (pss_cons (ps_for PassesOwn.never rfl (pi_list (pe_callC c_whole_pages hr pass0 (pa_cons (pv 0) (pa_cons (pv 1) (pa_cons (pv 3) (pa_cons (pv 4) pa_nil)))))) (pg_name (i:=6) nd rfl (Or.inl rfl)) (pss_cons (ps_set (i:=7) nd rfl (Or.inl rfl) (pe_ix ix_tup (pv 6) pe_int (fun _ _=>rfl))) (pss_cons (ps_set (i:=8) nd rfl (Or.inl rfl) (pe_op op_add (pe_callC c_whole_cost hr pass0 (pa_cons (pv 0) (pa_cons (pv 1) (pa_cons (pv 3) (pa_cons (pv 7) (pa_cons (pe_ix ix_tup (pv 6) pe_int (fun _ _=>rfl)) pa_nil)))))) (pe_ix ix_list (pv 2) (pv 7) (fun _ _=>rfl)))) (pss_one (ps_if (PW.pt (pw_or (pt_cmpR op_isN (pv 5) pe_non (nomark _)) (pw_or1 (pt_cmpR op_le (pv 8) (pe_ix ix_tup (pv 5) pe_int (fun _ _=>rfl)) (nomark _))))) (pss_one (ps_set (i:=5) nd rfl (Or.inl rfl) (pe_tup (pa_cons (pv 8) (pa_cons (pv 7) pa_nil))))) pss_nil))))) (pss_one (ps_ret (pv 5))))),?_⟩
  have hsz:=laid_size wo
  obtain ⟨_,ok,_⟩:=id hP
  walk_at "rd"
  obtain ⟨Wl,hWl⟩:∃ Wl,Wl=wl (VhPage.laid wo) i c:=⟨_,rfl⟩
  obtain ⟨bv,hbv⟩:∃ bv:Hp→Option (Nat × VhPage.Page)→V→Prop,bv=fun H' b v=>match b with
   | none=>v=.non
   | some y=>∃ t,v=.ref t∧H' t=some (.tup [.int (y.1:Nat),.int (i + y.2.lines:Nat)]):=⟨_,rfl⟩
  refine ⟨_,rfl,_,rfl,_,rfl,_,rfl,wk,ll,wo,i,c,rfl,hP,hi,fun H1 p1 us1 hp1 k1 hl1 hW1=>?_⟩
  rw [← hWl] at hW1 hne q
  obtain ⟨Pv,hPv⟩:∃ Pv:WT,Pv=fun d σ H'=>∃ (v:V) (o1 o2 o3:Option V),σ=[some (.ref wk),some (.ref ll),some (.ref cs),some (.int (i:Int)),some (.int (c.length:Nat)),some v,o1,o2,o3]∧Kp [] H1 H'∧bv H' (bestP (VhPage.laid wo) (noteB wo) i (Wl.take d)) v:=⟨_,rfl⟩
  refine ⟨p1,rfl,⟨_,.inl (.inl hl1)⟩,for_list (xs:=us1) Pv ?_ ?_ ?_ ?_⟩
  ·rw [hPv]
   refine ⟨.non,none,none,none,rfl,Kp.refl,?_⟩
   rw [hbv]; rfl
  ·intro d σ H' _ hw'
   rw [hPv] at hw'
   obtain ⟨v,o1,o2,o3,rfl,k,_⟩:=hw'
   exact .inl (.inl (k _ _ hl1 (by simp)))
  ·intro d v σ H3 hd hw'
   rw [hPv] at hw'
   obtain ⟨bvv,o1,o2,o3,rfl,k3,hbest⟩:=hw'
   obtain ⟨pg,hpg,t,rfl,ht⟩:=Paired.get hW1 hd
   have hmem:pg ∈ wl (VhPage.laid wo) i c:=by rw [← hWl]; exact List.mem_of_getElem? hpg
   obtain ⟨k,hik,hkn,hpk,hwk⟩:=wl_mem (VhPage.laid wo) i c (by omega) hmem
   have hlines:i + pg.lines=k + 1:=by rw [hpk]; show i + (k + 1 - i)=k + 1; omega
   have hwants:pg.wants≤wo.set.height:=by rw [hpk,whole_wants]; exact hwk
   have ht3:=k3 _ _ ht (by simp)
   rw [hlines] at ht3
   have hcs3:=k3 _ _ (k1 _ _ hcs (by simp)) (by simp)
   have hcst:cst (VhPage.laid wo) (noteB wo) i pg=wcost (VhPage.laid wo) i (k + 1) pg.wants + bst1 wo (k + 1):=by
    unfold cst; rw [hlines]
   walk_at "rd"
   refine ixT_go 0 ht3 rfl (ixT_go 1 ht3 rfl ⟨wk,ll,wo,i,k + 1,pg.wants,rfl,(hP.keep k1).keep k3,by omega,by omega,hwants,?_⟩)
   refine ixL_go hcs3 (hC.2 (k + 1) (by omega) (by omega)) ⟨_,rfl,_,rfl,?_⟩
   have ec:((wcost (VhPage.laid wo) i (k + 1) pg.wants:Nat):Int) + (bst1 wo (k + 1):Nat)=((cst (VhPage.laid wo) (noteB wo) i pg:Nat):Int):=by rw [hcst]; omega
   rw [ec]
   have hsn:=bestP_snoc (VhPage.laid wo) (noteB wo) i (Wl.take d) pg
   rw [← take_snoc' hpg] at hsn
   rw [hbv] at hbest
   have new:bestP (VhPage.laid wo) (noteB wo) i (Wl.take (d + 1))=some (cst (VhPage.laid wo) (noteB wo) i pg,pg)→∀ p,H3 p=none→Pv (d + 1) [some (V.ref wk),some (V.ref ll),some (V.ref cs),some (V.int (i:Int)),some (V.int (c.length:Nat)),some (V.ref p),some (V.ref t),some (V.int (k + 1:Nat)),some (V.int (cst (VhPage.laid wo) (noteB wo) i pg:Nat))] (upd H3 p (HO.tup [V.int (cst (VhPage.laid wo) (noteB wo) i pg:Nat),V.int (k + 1:Nat)])):=fun hn p hp=>by
    rw [hPv]
    refine ⟨.ref p,_,_,_,rfl,k3.trans (Kp.new hp),?_⟩
    rw [hn,hbv]
    exact ⟨p,rfl,by rw [upd_same,hlines]⟩
   cases hbp:bestP (VhPage.laid wo) (noteB wo) i (Wl.take d) with
   | none =>
    rw [hbp] at hsn hbest
    have hbest:bvv=.non:=hbest
    rw [if_pos hbest]
    exact ⟨by decide,new hsn⟩
   | some y =>
    rw [hbp] at hsn hbest
    obtain ⟨t',rfl,ht'⟩:=hbest
    rw [if_neg (by intro z; cases z)]
    refine ixT_go 0 ht' rfl ⟨_,rfl,?_⟩
    by_cases hle:cst (VhPage.laid wo) (noteB wo) i pg≤y.1
    ·rw [if_pos (by omega)]
     simp only [] at hsn
     rw [if_pos hle] at hsn
     exact ⟨by decide,new hsn⟩
    ·rw [if_neg (by omega),hPv]
     simp only [] at hsn
     rw [if_neg hle] at hsn
     refine ⟨.ref t',_,_,_,rfl,k3,?_⟩
     rw [hsn,hbv]
     exact ⟨t',rfl,ht'⟩
  ·intro σ H3 hw'
   rw [hPv] at hw'
   obtain ⟨bvv,o1,o2,o3,rfl,k3,hbest⟩:=hw'
   rw [← Paired.length hW1,List.take_of_length_le (Nat.le_refl _)] at hbest
   obtain ⟨pg,hpg,hb⟩:=bestP_some (VhPage.laid wo) (noteB wo) i Wl hne
   rw [hbv,hb] at hbest
   obtain ⟨t,rfl,ht⟩:=hbest
   walk_at "rd"
   exact q H3 t pg (k1.trans k3) hb ht
theorem ownS_sum (L:VhPage.Laid) (i k:Nat):((List.range (k - i)).map fun e=>ownN L i (i + e)).sum=ownS L i k:=by
 unfold ownS VhPage.Laid.ownFoot ownN
 rw [List.length_flatMap]
theorem lV_ints (l:List Nat):lV l=(l.map fun (n:Nat)=>(n:Int)).map V.int:=by
 unfold lV
 rw [List.map_map]; rfl
def sp_whole_page (K:PySem.W.Frag) (a:Ad):Sp:=fun vs H Q _=>∃ (wk ll:Addr) (wo:VhPage.Work) (i k:Nat) (c:List (List Vh.Letters)),vs=[.ref wk,.ref ll,.int (i:Int),.int (k + 1:Nat),.int (c.length:Nat)]∧PgR a H wk ll wo∧i≤k∧k < (lnl wo).length∧wantK (VhPage.laid wo) i c.length k≤wo.set.height ∧
 ∀ H' x,H x=none→Kp [] H H'→PageAt a H' x (whole (VhPage.laid wo) i c k) (wcost (VhPage.laid wo) i (k + 1) (wantK (VhPage.laid wo) i c.length k))→Q (.ref x) H'
abbrev s_whole_page:Stmt:=top 43
theorem sc_whole_page:FnScope ["work","lines","first","end","carried","page","k"] ["work","lines","first","end","carried"] (defScope s_whole_page):=⟨rfl,rfl,rfl,by decide +kernel,rfl,by decide +kernel,by decide +kernel⟩
theorem bk_whole_page_0:BlkOk ["work","lines","first","end","carried","page","k"] (defScope s_whole_page) (lcSc (exArg (stVal (stI (defBody s_whole_page) 2)) 0)) [("k",6)]:=⟨rfl,by decide +kernel,by decide +kernel,by decide +kernel,by decide +kernel⟩
theorem ok_whole_page {f:Addr} {fd:FuncData} (F:Fun K "whole_page" "whole_page" s_whole_page f fd) (T:Txt K mg a) (c_Page_init:MakeC P w K mg base CX0 1 a.CP "Page" ["self","kind","first","end"] (sp_Page_init K a)) (c_whole_cost:FnC P w K mg base CX0 2 "whole_cost" ["work","lines","first","end","wants"] (sp_whole_cost K a)) (c_wanted:FnC P w K mg base CX0 1 "wanted" ["count","foot_count"] (sp_wanted K a)) (c_own_foot_lines:FnC P w K mg base CX0 5 "own_foot_lines" ["work","lines","k","page_first"] (sp_own_foot_lines K a)):FnOk P w K mg base CX0 6 f fd ["work","lines","first","end","carried"] (sp_whole_page K a):=by
 refine F.ok sc_whole_page (fun vs H Q E h=>?_) (fun cdv A outer s H vs Q E hr h=>?_)
 ·obtain ⟨wk,ll,wo,i,k,c,rfl,hP,hik,hk,hw,q⟩:=h
  rfl
 ·obtain ⟨wk,ll,wo,i,k,c,rfl,hP,hik,hk,hw,q⟩:=h
  have nd:=sc_whole_page.nd
  refine ⟨_,(pss_cons (ps_set (i:=5) nd rfl (Or.inl rfl) (pe_makeC c_Page_init hr pass0 (pa_cons (pe_gint T.cWHOLE) (pa_cons (pv 2) (pa_cons (pv 3) pa_nil))))) (pss_cons (ps_fld (pv 5) (pv 4) rfl) (pss_cons (ps_fld (pv 5) (pe_callB (cr_sum rfl) rfl T.sum boot_sum (pa_cons (pe_lc rfl nd (pi_range2 rfl T.range (pa_cons (pv 2) (pa_cons (pv 3) pa_nil))) bk_whole_page_0 (fun _ _ _ _ _=>(pg_name (i:=6) nd rfl (Or.inl rfl))) (fun _ _ _ _ _=>pts_nil) (fun _ _ _ _ _=>(pe_callC c_own_foot_lines hr pass0 (pa_cons (pv 0) (pa_cons (pv 1) (pa_cons (pv 6) (pa_cons (pv 2) pa_nil))))))) pa_nil)) rfl) (pss_cons (ps_fld (pv 5) (pe_callC c_whole_cost hr pass0 (pa_cons (pv 0) (pa_cons (pv 1) (pa_cons (pv 2) (pa_cons (pv 3) (pa_cons (pe_callC c_wanted hr pass0 (pa_cons (pe_op op_sub (pv 3) (pv 2)) (pa_cons (pe_op op_add (pe_fld (pv 5) rfl) (pe_fld (pv 5) rfl)) pa_nil))) pa_nil)))))) rfl) (pss_one (ps_ret (pv 5))))))),?_⟩
  have ok:=hP.2.1
  have hll:=lnl_len ok
  have hn8:=ok.size
  have hz:sizeLine=16777216:=by decide
  walk_at "rd"
  intro x dx hx hdx hxd
  refine ⟨x,dx,0,i,k + 1,rfl,upd_same,rfl,?_⟩
  rw [upd_upd]
  have k1:Kp [] H (upd (upd H dx (HO.own x)) x (HO.ins a.CP dx (pgf 0 i (k + 1) 0 0 0 0))):=fun b o e _=>by
   rw [upd_ne (ne_of_none e hx),upd_ne (ne_of_none e hdx)]; exact e
  have hx1:upd (upd H dx (HO.own x)) x (HO.ins a.CP dx (pgf 0 i (k + 1) 0 0 0 0)) x=some (HO.ins a.CP dx (pgf 0 i (k + 1) 0 0 0 0)):=upd_same
  generalize upd (upd H dx (HO.own x)) x (HO.ins a.CP dx (pgf 0 i (k + 1) 0 0 0 0))=H1 at *
  refine ⟨_,rfl,_,rfl,x,a.CP,dx,_,rfl,hx1,T.clPage,T.nP_came,pgf_length _ _ _ _ _ _ _,?_⟩
  rw [pgf_putCame]
  have k2:Kp [] H (upd H1 x (HO.ins a.CP dx (pgf 0 i (k + 1) c.length 0 0 0))):=k1.put2 (.inr hx)
  have hx2:upd H1 x (HO.ins a.CP dx (pgf 0 i (k + 1) c.length 0 0 0)) x=some (HO.ins a.CP dx (pgf 0 i (k + 1) c.length 0 0 0)):=upd_same
  generalize upd H1 x (HO.ins a.CP dx (pgf 0 i (k + 1) c.length 0 0 0))=H2 at *
  have en:Int.toNat (((k + 1:Nat):Int) - (i:Int))=k + 1 - i:=by omega
  refine ⟨_,rfl,_,rfl,_,_,rfl,⟨by omega,by omega,by omega,by omega⟩,fun D hD=>?_⟩
  rw [en]
  have xD:x≠D:=ne_of_none hx2 hD
  obtain ⟨Pv,hPv⟩:∃ Pv:Nat→Hp→Prop,Pv=fun d H'=>Kp [] H2 H'∧H' D=some (.lst (lV ((List.range d).map fun e=>ownN (VhPage.laid wo) i (i + e)))):=⟨_,rfl⟩
  refine lc_range Pv ?_ ?_ ?_
  ·rw [hPv]
   exact ⟨Kp.new hD,upd_same⟩
  ·intro d H3 hd hw'
   rw [hPv] at hw'
   obtain ⟨k3,hD3⟩:=hw'
   refine ⟨rfl,?_⟩
   have ei:(i:Int) + (d:Int)=((i + d:Nat):Int):=by omega
   rw [ei]
   simp only [tYes]
   refine ⟨_,rfl,_,rfl,_,rfl,_,rfl,wk,ll,wo,i + d,i,rfl,hP.keep (k2.trans k3),by omega,by omega,fun H4 k4=>?_⟩
   refine ⟨_,k4 _ _ hD3 (by simp),by rw [lV_len,List.length_map,List.length_range]; omega,?_⟩
   rw [hPv]
   refine ⟨(k3.trans k4).put2 (.inr hD),?_⟩
   rw [upd_same,List.range_succ,List.map_append]
   unfold lV
   rw [List.map_append]; rfl
  ·intro H3 hw'
   rw [hPv] at hw'
   obtain ⟨k3,hD3⟩:=hw'
   clear hPv Pv
   have hx3:=k3 _ _ hx2 (by simp)
   rw [lV_ints] at hD3
   refine ⟨D,_,rfl,.inl (.inl hD3),_,rfl,x,a.CP,dx,_,rfl,hx3,T.clPage,T.nP_own,pgf_length _ _ _ _ _ _ _,?_⟩
   rw [sum_cast,ownS_sum,pgf_putOwn]
   have k4:Kp [] H (upd H3 x (HO.ins a.CP dx (pgf 0 i (k + 1) c.length (ownS (VhPage.laid wo) i (k + 1)) 0 0))):=(k2.trans k3).put2 (.inr hx)
   have hx4:upd H3 x (HO.ins a.CP dx (pgf 0 i (k + 1) c.length (ownS (VhPage.laid wo) i (k + 1)) 0 0)) x=some (HO.ins a.CP dx (pgf 0 i (k + 1) c.length (ownS (VhPage.laid wo) i (k + 1)) 0 0)):=upd_same
   generalize upd H3 x (HO.ins a.CP dx (pgf 0 i (k + 1) c.length (ownS (VhPage.laid wo) i (k + 1)) 0 0))=H4 at *
   refine ⟨_,rfl,_,rfl,_,rfl,_,rfl,_,rfl,_,rfl,_,_,rfl,rfl,_,rfl,x,a.CP,dx,_,_,rfl,hx4,T.clPage,T.nP_came,pgf_came _ _ _ _ _ _ _,_,rfl,x,a.CP,dx,_,_,rfl,hx4,T.clPage,T.nP_own,pgf_own _ _ _ _ _ _ _,_,_,rfl,rfl,?_⟩
   refine ⟨k + 1 - i,c.length + ownS (VhPage.laid wo) i (k + 1),?_,?_⟩
   ·have e1:((k + 1:Nat):Int) - (i:Int)=((k + 1 - i:Nat):Int):=by omega
    have e2:(c.length:Int) + (ownS (VhPage.laid wo) i (k + 1):Nat)=((c.length + ownS (VhPage.laid wo) i (k + 1):Nat):Int):=by omega
    show [V.int (((k + 1:Nat):Int) - (i:Int)),V.int ((c.length:Int) + (ownS (VhPage.laid wo) i (k + 1):Nat))]=_
    rw [e1,e2]
   ·refine ⟨wk,ll,wo,i,k + 1,wantK (VhPage.laid wo) i c.length k,rfl,hP.keep k4,by omega,by omega,hw,?_⟩
    refine ⟨_,rfl,x,a.CP,dx,_,rfl,hx4,T.clPage,T.nP_cost,pgf_length _ _ _ _ _ _ _,?_⟩
    rw [pgf_putCost]
    refine ⟨_,rfl,q _ x hx (k4.put2 (.inr hx)) ⟨dx,?_⟩⟩
    rw [upd_same]
    have e3:(whole (VhPage.laid wo) i c k).first + (whole (VhPage.laid wo) i c k).lines=k + 1:=by show i + (k + 1 - i)=k + 1; omega
    rw [e3]; rfl
def sp_cut_page (K:PySem.W.Frag) (a:Ad):Sp:=fun vs H Q _=>∃ (wk ll:Addr) (wo:VhPage.Work) (i:Nat) (c:List (List Vh.Letters)),vs=[.ref wk,.ref ll,.int (i:Int),.int (c.length:Nat)]∧PgR a H wk ll wo∧i < (lnl wo).length∧c.length + 3≤wo.set.height∧wl (VhPage.laid wo) i c=[] ∧
 ∀ H' x,H x=none→Kp [] H H'→PageAt a H' x ((VhPage.laid wo).cutPage i c) 0→Q (.ref x) H'
abbrev s_cut_page:Stmt:=top 44
theorem sc_cut_page:FnScope ["work","lines","first","carried","page"] ["work","lines","first","carried"] (defScope s_cut_page):=⟨rfl,rfl,rfl,by decide +kernel,rfl,by decide +kernel,by decide +kernel⟩
theorem ok_cut_page {f:Addr} {fd:FuncData} (F:Fun K "cut_page" "cut_page" s_cut_page f fd) (T:Txt K mg a) (c_Page_init:MakeC P w K mg base CX0 1 a.CP "Page" ["self","kind","first","end"] (sp_Page_init K a)) (c_own_foot_lines:FnC P w K mg base CX0 5 "own_foot_lines" ["work","lines","k","page_first"] (sp_own_foot_lines K a)):FnOk P w K mg base CX0 6 f fd ["work","lines","first","carried"] (sp_cut_page K a):=by
 refine F.ok sc_cut_page (fun vs H Q E h=>?_) (fun cdv A outer s H vs Q E hr h=>?_)
 ·obtain ⟨wk,ll,wo,i,c,rfl,hP,hi,hc,hw,q⟩:=h
  rfl
 ·obtain ⟨wk,ll,wo,i,c,rfl,hP,hi,hc,hw,q⟩:=h
  have nd:=sc_cut_page.nd
  refine ⟨_,(pss_cons (ps_set (i:=4) nd rfl (Or.inl rfl) (pe_makeC c_Page_init hr pass0 (pa_cons (pe_gint T.cCUT) (pa_cons (pv 2) (pa_cons (pe_op op_add (pv 2) pe_int) pa_nil))))) (pss_cons (ps_fld (pv 4) (pv 3) rfl) (pss_cons (ps_fld (pv 4) (pe_op op_sub (pe_op op_sub (pe_fld (pv 0) rfl) pe_int) (pv 3)) rfl) (pss_cons (ps_fld (pv 4) (pe_op op_sub (pe_callC c_own_foot_lines hr pass0 (pa_cons (pv 0) (pa_cons (pv 1) (pa_cons (pv 2) (pa_cons (pv 2) pa_nil))))) (pe_fld (pv 4) rfl)) rfl) (pss_one (ps_ret (pv 4))))))),?_⟩
  have ok:=hP.2.1
  obtain ⟨hb,hwk⟩:=hP.1
  have hbig:wo.set.height < wantK (VhPage.laid wo) i c.length i:=by
   have:=(wl_nil (VhPage.laid wo) i c (by rw [laid_size]; omega)).mp hw
   rw [laid_size,laid_work] at this
   omega
  unfold wantK at hbig
  rw [ownS_one,show i + 1 - i=1 by omega] at hbig
  unfold VhPage.wantsOf at hbig
  have hbig2:wo.set.height - 2 < c.length + ownN (VhPage.laid wo) i i:=by
   split at hbig <;> omega
  walk_at "rd"
  intro x dx hx hdx hxd
  have ei1:(i:Int) + 1=((i + 1:Nat):Int):=by omega
  rw [ei1]
  refine ⟨x,dx,1,i,i + 1,rfl,upd_same,rfl,?_⟩
  rw [upd_upd]
  have k1:Kp [] H (upd (upd H dx (HO.own x)) x (HO.ins a.CP dx (pgf 1 i (i + 1) 0 0 0 0))):=fun b o e _=>by
   rw [upd_ne (ne_of_none e hx),upd_ne (ne_of_none e hdx)]; exact e
  have hx1:upd (upd H dx (HO.own x)) x (HO.ins a.CP dx (pgf 1 i (i + 1) 0 0 0 0)) x=some (HO.ins a.CP dx (pgf 1 i (i + 1) 0 0 0 0)):=upd_same
  generalize upd (upd H dx (HO.own x)) x (HO.ins a.CP dx (pgf 1 i (i + 1) 0 0 0 0))=H1 at *
  refine ⟨_,rfl,_,rfl,x,a.CP,dx,_,rfl,hx1,T.clPage,T.nP_came,pgf_length _ _ _ _ _ _ _,?_⟩
  rw [pgf_putCame]
  have k2:Kp [] H (upd H1 x (HO.ins a.CP dx (pgf 1 i (i + 1) c.length 0 0 0))):=k1.put2 (.inr hx)
  have hx2:upd H1 x (HO.ins a.CP dx (pgf 1 i (i + 1) c.length 0 0 0)) x=some (HO.ins a.CP dx (pgf 1 i (i + 1) c.length 0 0 0)):=upd_same
  generalize upd H1 x (HO.ins a.CP dx (pgf 1 i (i + 1) c.length 0 0 0))=H2 at *
  obtain ⟨⟨dw,aR,aH,aP,aW,aS,aE,rs,ps,ws,gs,es,hWk2,_⟩,_⟩:=hwk.keep k2
  refine ⟨_,rfl,wk,a.CW,dw,_,_,rfl,hWk2,T.clWork,T.n_height,rfl,_,_,rfl,rfl,_,rfl,_,_,rfl,rfl,_,rfl,x,a.CP,dx,_,rfl,hx2,T.clPage,T.nP_own,pgf_length _ _ _ _ _ _ _,?_⟩
  have eo:(wo.set.height:Int) - 2 - (c.length:Nat)=((wo.set.height - 2 - c.length:Nat):Int):=by omega
  simp only []
  rw [eo,pgf_putOwn]
  have k3:Kp [] H (upd H2 x (HO.ins a.CP dx (pgf 1 i (i + 1) c.length (wo.set.height - 2 - c.length) 0 0))):=k2.put2 (.inr hx)
  have hx3:upd H2 x (HO.ins a.CP dx (pgf 1 i (i + 1) c.length (wo.set.height - 2 - c.length) 0 0)) x=some (HO.ins a.CP dx (pgf 1 i (i + 1) c.length (wo.set.height - 2 - c.length) 0 0)):=upd_same
  generalize upd H2 x (HO.ins a.CP dx (pgf 1 i (i + 1) c.length (wo.set.height - 2 - c.length) 0 0))=H3 at *
  refine ⟨_,rfl,_,rfl,_,rfl,_,rfl,wk,ll,wo,i,i,rfl,hP.keep k3,Nat.le_refl _,hi,fun H4 k4=>?_⟩
  have hx4:=k4 _ _ hx3 (by simp)
  refine ⟨_,rfl,x,a.CP,dx,_,_,rfl,hx4,T.clPage,T.nP_own,pgf_own _ _ _ _ _ _ _,_,_,rfl,rfl,_,rfl,x,a.CP,dx,_,rfl,hx4,T.clPage,T.nP_rest,pgf_length _ _ _ _ _ _ _,?_⟩
  have er:((ownN (VhPage.laid wo) i i:Nat):Int) - (wo.set.height - 2 - c.length:Nat)=((c.length + ownN (VhPage.laid wo) i i - (wo.set.height - 2):Nat):Int):=by omega
  simp only []
  rw [er,pgf_putRest]
  refine ⟨_,rfl,q _ x hx ((k3.trans k4).put2 (.inr hx)) ⟨dx,?_⟩⟩
  rw [upd_same]
  have e1:((VhPage.laid wo).cutPage i c).on.length=c.length + ownN (VhPage.laid wo) i i - (wo.set.height - 2):=by
   have:((VhPage.laid wo).cutPage i c).on=(c ++ (VhPage.laid wo).ownFoot i (i + 1)).drop (wo.set.height - 2):=rfl
   rw [this,List.length_drop,List.length_append,← ownS_one]; rfl
  rw [e1]; rfl
def sp_foot_alone (K:PySem.W.Frag) (a:Ad):Sp:=fun vs H Q _=>∃ (wk:Addr) (wo:VhPage.Work) (hb:List UInt8) (i:Nat) (c:List (List Vh.Letters)),vs=[.ref wk,.int (i:Int),.int (c.length:Nat)]∧WkR a H wk wo hb∧6≤wo.set.height ∧
 ∀ H' x,H x=none→Kp [] H H'→PageAt a H' x ((VhPage.laid wo).alonePage i c) 0→Q (.ref x) H'
abbrev s_foot_alone:Stmt:=top 45
theorem sc_foot_alone:FnScope ["work","first","carried","page"] ["work","first","carried"] (defScope s_foot_alone):=⟨rfl,rfl,rfl,by decide +kernel,rfl,by decide +kernel,by decide +kernel⟩
theorem ok_foot_alone {f:Addr} {fd:FuncData} (F:Fun K "foot_alone" "foot_alone" s_foot_alone f fd) (T:Txt K mg a) (c_Page_init:MakeC P w K mg base CX0 1 a.CP "Page" ["self","kind","first","end"] (sp_Page_init K a)):FnOk P w K mg base CX0 3 f fd ["work","first","carried"] (sp_foot_alone K a):=by
 refine F.ok sc_foot_alone (fun vs H Q E h=>?_) (fun cdv A outer s H vs Q E hr h=>?_)
 ·obtain ⟨wk,wo,hb,i,c,rfl,hw,hh,q⟩:=h
  rfl
 ·obtain ⟨wk,wo,hb,i,c,rfl,hw,hh,q⟩:=h
  have nd:=sc_foot_alone.nd
  refine ⟨_,(pss_cons (ps_set (i:=3) nd rfl (Or.inl rfl) (pe_makeC c_Page_init hr pass0 (pa_cons (pe_gint T.cFOOT_ALONE) (pa_cons (pv 1) (pa_cons (pv 1) pa_nil))))) (pss_cons (ps_fld (pv 3) (pe_callB (call_min2 rfl) rfl T.min boot_min (pa_cons (pv 2) (pa_cons (pe_op op_sub (pe_fld (pv 0) rfl) pe_int) pa_nil))) rfl) (pss_cons (ps_fld (pv 3) (pe_op op_sub (pv 2) (pe_fld (pv 3) rfl)) rfl) (pss_one (ps_ret (pv 3)))))),?_⟩
  walk_at "rd"
  intro x dx hx hdx hxd
  refine ⟨x,dx,2,i,i,rfl,upd_same,rfl,?_⟩
  rw [upd_upd]
  have k1:Kp [] H (upd (upd H dx (HO.own x)) x (HO.ins a.CP dx (pgf 2 i i 0 0 0 0))):=fun b o e _=>by
   rw [upd_ne (ne_of_none e hx),upd_ne (ne_of_none e hdx)]; exact e
  have hx1:upd (upd H dx (HO.own x)) x (HO.ins a.CP dx (pgf 2 i i 0 0 0 0)) x=some (HO.ins a.CP dx (pgf 2 i i 0 0 0 0)):=upd_same
  generalize upd (upd H dx (HO.own x)) x (HO.ins a.CP dx (pgf 2 i i 0 0 0 0))=H1 at *
  obtain ⟨⟨dw,aR,aH,aP,aW,aS,aE,rs,ps,ws,gs,es,hWk1,_⟩,_⟩:=hw.keep k1
  refine ⟨_,rfl,_,rfl,wk,a.CW,dw,_,_,rfl,hWk1,T.clWork,T.n_height,rfl,_,_,rfl,rfl,_,_,rfl,_,rfl,x,a.CP,dx,_,rfl,hx1,T.clPage,T.nP_came,pgf_length _ _ _ _ _ _ _,?_⟩
  have eo:(if (wo.set.height:Int) - 1 < (c.length:Nat) then (wo.set.height:Int) - 1 else (c.length:Nat))=((min c.length (wo.set.height - 1):Nat):Int):=by
   split <;> omega
  rw [eo,pgf_putCame]
  have k2:Kp [] H (upd H1 x (HO.ins a.CP dx (pgf 2 i i (min c.length (wo.set.height - 1)) 0 0 0))):=k1.put2 (.inr hx)
  have hx2:upd H1 x (HO.ins a.CP dx (pgf 2 i i (min c.length (wo.set.height - 1)) 0 0 0)) x=some (HO.ins a.CP dx (pgf 2 i i (min c.length (wo.set.height - 1)) 0 0 0)):=upd_same
  generalize upd H1 x (HO.ins a.CP dx (pgf 2 i i (min c.length (wo.set.height - 1)) 0 0 0))=H2 at *
  refine ⟨_,rfl,_,rfl,x,a.CP,dx,_,_,rfl,hx2,T.clPage,T.nP_came,pgf_came _ _ _ _ _ _ _,_,_,rfl,rfl,_,rfl,x,a.CP,dx,_,rfl,hx2,T.clPage,T.nP_rest,pgf_length _ _ _ _ _ _ _,?_⟩
  have er:((c.length:Nat):Int) - (min c.length (wo.set.height - 1):Nat)=((c.length - (wo.set.height - 1):Nat):Int):=by omega
  simp only []
  rw [er,pgf_putRest]
  refine ⟨_,rfl,q _ x hx (k2.put2 (.inr hx)) ⟨dx,?_⟩⟩
  rw [upd_same]
  have e1:((VhPage.laid wo).alonePage i c).on.length=c.length - (wo.set.height - 1):=by
   have:((VhPage.laid wo).alonePage i c).on=c.drop (wo.set.height - 1):=rfl
   rw [this,List.length_drop]
  rw [e1]; rfl
def sp_forced_page (K:PySem.W.Frag) (a:Ad):Sp:=fun vs H Q _=>∃ (wk ll:Addr) (wo:VhPage.Work) (i:Nat) (c:List (List Vh.Letters)),vs=[.ref wk,.ref ll,.int (i:Int),.int (c.length:Nat)]∧PgR a H wk ll wo∧i≤(lnl wo).length∧wl (VhPage.laid wo) i c=[] ∧
 ∀ H' x,H x=none→Kp [] H H'→PageAt a H' x (forced (VhPage.laid wo) i c) 0→Q (.ref x) H'
abbrev s_forced_page:Stmt:=top 46
theorem sc_forced_page:FnScope ["work","lines","first","carried"] ["work","lines","first","carried"] (defScope s_forced_page):=⟨rfl,rfl,rfl,by decide +kernel,rfl,by decide +kernel,by decide +kernel⟩
theorem ok_forced_page {f:Addr} {fd:FuncData} (F:Fun K "forced_page" "forced_page" s_forced_page f fd) (T:Txt K mg a) (c_foot_alone:FnC P w K mg base CX0 3 "foot_alone" ["work","first","carried"] (sp_foot_alone K a)) (c_cut_page:FnC P w K mg base CX0 6 "cut_page" ["work","lines","first","carried"] (sp_cut_page K a)):FnOk P w K mg base CX0 7 f fd ["work","lines","first","carried"] (sp_forced_page K a):=by
 refine F.ok sc_forced_page (fun vs H Q E h=>?_) (fun cdv A outer s H vs Q E hr h=>?_)
 ·obtain ⟨wk,ll,wo,i,c,rfl,hP,hi,hw,q⟩:=h
  rfl
 ·obtain ⟨wk,ll,wo,i,c,rfl,hP,hi,hw,q⟩:=h
  have nd:=sc_forced_page.nd
  refine ⟨_,(pss_cons (ps_if (PW.pt (pw_and (pt_cmpR op_lt (pv 2) (pe_callB call_len_seq rfl T.len PySem.boot_len (pa_cons (pv 1) pa_nil)) (nomark _)) (pw_and1 (pt_cmpR op_le (pv 3) (pe_op op_sub (pe_fld (pv 0) rfl) pe_int) (nomark _))))) (pss_one (ps_ret (pe_callC c_cut_page hr pass0 (pa_cons (pv 0) (pa_cons (pv 1) (pa_cons (pv 2) (pa_cons (pv 3) pa_nil))))))) pss_nil) (pss_one (ps_ret (pe_callC c_foot_alone hr pass0 (pa_cons (pv 0) (pa_cons (pv 2) (pa_cons (pv 3) pa_nil))))))),?_⟩
  obtain ⟨us,h1,h2⟩:=hP.len
  have hP0:=hP
  obtain ⟨⟨hb,hwk⟩,ok,_⟩:=hP
  have hwk0:=hwk
  obtain ⟨⟨dw,aR,aH,aP,aW,aS,aE,rs,ps,ws,gs,es,hWk0,_⟩,_⟩:=hwk
  have hsb:=set_bounds ok.set
  unfold forced at q
  rw [laid_size,laid_work] at q
  walk_at "rd"
  refine ⟨_,.inl (.inl (.inl h1)),?_⟩
  by_cases hin:i < (lnl wo).length
  ·rw [if_pos (by omega)]
   refine ⟨_,rfl,wk,a.CW,dw,_,_,rfl,hWk0,T.clWork,T.n_height,rfl,_,rfl,?_⟩
   by_cases hc:c.length + 3≤wo.set.height
   ·rw [if_pos (by omega)]
    rw [if_pos ⟨hin,hc⟩] at q
    exact ⟨wk,ll,wo,i,c,rfl,hP0,hin,hc,hw,q⟩
   ·rw [if_neg (by omega)]
    rw [if_neg (fun z=>hc z.2)] at q
    exact ⟨wk,wo,hb,i,c,rfl,hwk0,by omega,q⟩
  ·rw [if_neg (by omega)]
   rw [if_neg (fun z=>hin z.1)] at q
   exact ⟨wk,wo,hb,i,c,rfl,hwk0,by omega,q⟩
end
section
variable {P:Program} {w:World} {K:PySem.W.Frag} {mg:Str→Option Value} {base:Heap} {a:Ad}
theorem test_goK {t:TT} {σ:L2.St} {H:Hp} {Q:Bool→Hp→Prop} (b:Bool) (h:∀ Q:Bool→Hp→Prop,(∀ H',Kp [] H H'→Q b H')→t σ H Q) (q:∀ H',Kp [] H H'→Q b H'):t σ H Q:=h Q q
theorem CostsAt.mono {us:List V} {wo:VhPage.Work} {i j:Nat} (h:CostsAt us wo i) (hij:i≤j):CostsAt us wo j:=⟨h.1,fun e h1 h2=>h.2 e (by omega) h2⟩
def sp_cost_from (K:PySem.W.Frag) (a:Ad):Sp:=fun vs H Q _=>∃ (wk ll cs:Addr) (wo:VhPage.Work) (i:Nat) (us:List V),vs=[.ref wk,.ref ll,.ref cs,.int (i:Int)]∧PgR a H wk ll wo∧i < (lnl wo).length∧H cs=some (.lst us)∧CostsAt us wo i∧∀ H',Kp [] H H'→Q (.int (bst1 wo i:Nat)) H'
abbrev s_cost_from:Stmt:=top 47
theorem sc_cost_from:FnScope ["work","lines","costs","first","carried","page"] ["work","lines","costs","first"] (defScope s_cost_from):=⟨rfl,rfl,rfl,by decide +kernel,rfl,by decide +kernel,by decide +kernel⟩
theorem ok_cost_from {f:Addr} {fd:FuncData} (F:Fun K "cost_from" "cost_from" s_cost_from f fd) (T:Txt K mg a) (c_forced_page:FnC P w K mg base CX0 7 "forced_page" ["work","lines","first","carried"] (sp_forced_page K a)) (c_best_whole:FnC P w K mg base CX0 7 "best_whole" ["work","lines","costs","first","carried"] (sp_best_whole K a)) (c_may_be_whole:FnC P w K mg base CX0 6 "may_be_whole" ["work","lines","first","carried"] (sp_may_be_whole K a)):FnOk P w K mg base CX0 8 f fd ["work","lines","costs","first"] (sp_cost_from K a):=by
 refine F.ok sc_cost_from (fun vs H Q E h=>?_) (fun cdv A outer s H vs Q E hr h=>?_)
 ·obtain ⟨wk,ll,cs,wo,i0,us,rfl,hP,hi,hcs,hC,q⟩:=h
  rfl
 ·obtain ⟨wk,ll,cs,wo,i0,us,rfl,hP,hi,hcs,hC,q⟩:=h
  have nd:=sc_cost_from.nd
  refine ⟨_,(pss_cons (ps_set (i:=4) nd rfl (Or.inl rfl) pe_int) (pss_cons (ps_while PassesOwn.never (PW.pt (pw_and (PW.pt (pw_or (pt_cmpR op_lt (pv 3) (pe_callB call_len_seq rfl T.len PySem.boot_len (pa_cons (pv 1) pa_nil)) (nomark _)) (pw_or1 (pt_cmpR op_gt (pv 4) pe_int (nomark _))))) (pw_and1 (pt_not (pt_val (pe_callC c_may_be_whole hr pass0 (pa_cons (pv 0) (pa_cons (pv 1) (pa_cons (pv 3) (pa_cons (pv 4) pa_nil)))))))))) (pss_cons (ps_set (i:=5) nd rfl (Or.inl rfl) (pe_callC c_forced_page hr pass0 (pa_cons (pv 0) (pa_cons (pv 1) (pa_cons (pv 3) (pa_cons (pv 4) pa_nil)))))) (pss_cons (ps_set (i:=3) nd rfl (Or.inl rfl) (pe_fld (pv 5) rfl)) (pss_one (ps_set (i:=4) nd rfl (Or.inl rfl) (pe_fld (pv 5) rfl)))))) (pss_cons (ps_if (pt_cmpR op_eq (pv 3) (pe_callB call_len_seq rfl T.len PySem.boot_len (pa_cons (pv 1) pa_nil)) (nomark _)) (pss_one (ps_ret pe_int)) pss_nil) (pss_one (ps_ret (pe_ix ix_tup (pe_callC c_best_whole hr pass0 (pa_cons (pv 0) (pa_cons (pv 1) (pa_cons (pv 2) (pa_cons (pv 3) (pa_cons (pv 4) pa_nil)))))) pe_int (fun _ _=>rfl))))))),?_⟩
  obtain ⟨_,ok,_⟩:=id hP
  have hF:=fits_laid ok
  have hsz:=laid_size wo
  walk_at "rd"
  obtain ⟨W,hW⟩:∃ W:WT,W=fun m σ H'=>Kp [] H H'∧∃ (i:Nat) (c:List (List Vh.Letters)) (o:Option V),σ=[some (.ref wk),some (.ref ll),some (.ref cs),some (.int (i:Int)),some (.int (c.length:Nat)),o]∧m=meas (VhPage.laid wo) (noteB wo) i c∧i0≤i∧i≤(lnl wo).length∧(best (VhPage.laid wo) (noteB wo) i c).1=bst1 wo i0:=⟨_,rfl⟩
  refine ⟨W,⟨_,by rw [hW]; exact ⟨Kp.refl,i0,[],none,rfl,rfl,Nat.le_refl _,by omega,rfl⟩⟩,fun m σ H2 hw2=>?_⟩
  rw [hW] at hw2
  obtain ⟨k2,i,c,o,rfl,rfl,hi0,hin,hbest⟩:=hw2
  obtain ⟨lv,hl1,hl2⟩:=(hP.keep k2).len
  refine test_goK (t:=tAnd _ _) (decide (i < (lnl wo).length∨0 < c.length) && (wl (VhPage.laid wo) i c).isEmpty) (fun Q0 hQ=>?_) (fun H3 k3=>?_)
  ·walk_at "rd"
   refine ⟨_,.inl (.inl (.inl hl1)),?_⟩
   rw [hl2]
   have hmay:(i < (lnl wo).length∨0 < c.length)→sp_may_be_whole K a [V.ref wk,V.ref ll,V.int (i:Int),V.int (c.length:Nat)] H2 (fun x H1=>∃ c,x=V.bl c∧Q0 (!c) H1) E0:=fun hh=>by
    refine ⟨wk,ll,wo,i,c,rfl,hP.keep k2,hin,fun H3 k3=>⟨_,rfl,?_⟩⟩
    have:=hQ H3 k3
    rw [decide_eq_true hh,Bool.true_and] at this
    rw [Bool.not_not]; exact this
   by_cases h1:i < (lnl wo).length
   ·rw [if_pos (by omega)]
    exact hmay (.inl h1)
   ·rw [if_neg (by omega)]
    by_cases h2:0 < c.length
    ·rw [if_pos (by omega)]
     exact hmay (.inr h2)
    ·rw [if_neg (by omega)]
     have:=hQ H2 Kp.refl
     rw [decide_eq_false (by omega),Bool.false_and] at this
     exact this
  ·have k23:=k2.trans k3
   obtain ⟨lv3,hl3,hl4⟩:=(hP.keep k23).len
   by_cases hh:i < (lnl wo).length∨0 < c.length
   ·by_cases hwl:wl (VhPage.laid wo) i c=[]
    ·have hc':i < (VhPage.laid wo).lines.size∨c≠[]:=by
      rcases hh with h | h
      ·exact .inl (by omega)
      ·exact .inr (List.length_pos_iff.mp h)
     rw [if_pos (by rw [decide_eq_true hh,hwl]; rfl)]
     refine ⟨fun σ' H'=>∃ m',m' < meas (VhPage.laid wo) (noteB wo) i c∧W m' σ' H',fun _ _ z=>z,?_⟩
     walk_at "rd"
     refine ⟨wk,ll,wo,i,c,rfl,hP.keep k23,hin,hwl,fun H4 x hx k4 hpg=>?_⟩
     obtain ⟨d,hpg⟩:=hpg
     refine ⟨_,rfl,x,a.CP,d,_,_,rfl,hpg,T.clPage,T.nP_end,pgf_end _ _ _ _ _ _ _,?_⟩
     refine ⟨_,rfl,x,a.CP,d,_,_,rfl,hpg,T.clPage,T.nP_rest,pgf_rest _ _ _ _ _ _ _,?_⟩
     have hm:=forced_meas hF (by omega) hwl hc'
     refine ⟨_,hm,?_⟩
     rw [hW]
     have hfl:=forced_lines (L:=VhPage.laid wo) (c:=c) (i:=i) (by omega)
     refine ⟨k23.trans k4,i + (forced (VhPage.laid wo) i c).lines,(forced (VhPage.laid wo) i c).on,_,by rw [forced_first],rfl,by omega,by omega,?_⟩
     rw [← hbest]
     conv=>rhs; rw [best_forced hF hwl hc']
    ·have hin':i < (lnl wo).length:=by
      have:¬ (VhPage.laid wo).lines.size≤i:=fun z=>hwl ((wl_nil (VhPage.laid wo) i c (by omega)).mpr (.inl z))
      omega
     rw [if_neg (by
      cases z:wl (VhPage.laid wo) i c with
      | nil=>exact absurd z hwl
      | cons p l=>simp)]
     walk_at "rd"
     refine ⟨_,.inl (.inl (.inl hl3)),?_⟩
     rw [hl4,if_neg (by intro z; injection z with z; omega)]
     refine ⟨wk,ll,cs,wo,i,c,us,rfl,hP.keep k23,hin,k23 _ _ hcs (by simp),hC.mono hi0,hwl,fun H4 t p k4 hbp ht=>?_⟩
     obtain ⟨p',_,hb1,hb2⟩:=best_whole hF (by omega) hwl
     rw [hb1] at hbp
     have hpp:p'=p:=by
      have:=Option.some.inj hbp
      exact (Prod.mk.inj this).2
     subst hpp
     refine ixT_go 0 ht rfl ?_
     have e1:cst (VhPage.laid wo) (noteB wo) i p'=bst1 wo i0:=by rw [← hbest,hb2]
     rw [e1]
     exact q H4 (k23.trans k4)
   ·have hc0:c=[]:=List.length_eq_zero_iff.mp (by omega)
    have hin':i=(lnl wo).length:=by omega
    rw [if_neg (by rw [decide_eq_false hh]; simp)]
    walk_at "rd"
    refine ⟨_,.inl (.inl (.inl hl3)),?_⟩
    rw [hl4,if_pos (by rw [hin'])]
    subst hc0
    rw [best_end (VhPage.laid wo) (noteB wo) (by omega)] at hbest
    have:=q H3 k23
    rw [← hbest] at this
    exact this
def sp_costs_of (K:PySem.W.Frag) (a:Ad):Sp:=fun vs H Q _=>∃ (wk ll:Addr) (wo:VhPage.Work),vs=[.ref wk,.ref ll]∧PgR a H wk ll wo ∧
 ∀ H' p us,H p=none→Kp [] H H'→H' p=some (.lst us)→us.length=(lnl wo).length + 1→(∀ j,j≤(lnl wo).length→us[j]?=some (.int (bst1 wo j:Nat)))→Q (.ref p) H'
abbrev s_costs_of:Stmt:=top 48
theorem sc_costs_of:FnScope ["work","lines","costs","k","first"] ["work","lines"] (defScope s_costs_of):=⟨rfl,rfl,rfl,by decide +kernel,rfl,by decide +kernel,by decide +kernel⟩
theorem bk_costs_of_0:BlkOk ["work","lines","costs","k","first"] (defScope s_costs_of) (lcSc (stVal (stI (defBody s_costs_of) 0))) [("k",3)]:=⟨rfl,by decide +kernel,by decide +kernel,by decide +kernel,by decide +kernel⟩
theorem ok_costs_of {f:Addr} {fd:FuncData} (F:Fun K "costs_of" "costs_of" s_costs_of f fd) (T:Txt K mg a) (c_cost_from:FnC P w K mg base CX0 8 "cost_from" ["work","lines","costs","first"] (sp_cost_from K a)):FnOk P w K mg base CX0 9 f fd ["work","lines"] (sp_costs_of K a):=by
 refine F.ok sc_costs_of (fun vs H Q E h=>?_) (fun cdv A outer s H vs Q E hr h=>?_)
 ·obtain ⟨wk,ll,wo,rfl,hP,q⟩:=h
  rfl
 ·obtain ⟨wk,ll,wo,rfl,hP,q⟩:=h
  have nd:=sc_costs_of.nd
  refine ⟨_,(pss_cons (ps_setLc (i:=2) rfl nd rfl rfl (sw_true rfl rfl rfl rfl) (pi_range1 rfl T.range (pa_cons (pe_op op_add (pe_callB call_len_seq rfl T.len PySem.boot_len (pa_cons (pv 1) pa_nil)) pe_int) pa_nil)) bk_costs_of_0 (fun _ _ _ _ _=>(pg_name (i:=3) nd rfl (Or.inl rfl))) (fun _ _ _ _ _=>pts_nil) (fun _ _ _ _ _=>pe_int)) (pss_cons (ps_for PassesOwn.never rfl (pi_range3 rfl T.range (pa_cons (pe_op op_sub (pe_callB call_len_seq rfl T.len PySem.boot_len (pa_cons (pv 1) pa_nil)) pe_int) (pa_cons (pe_un un_neg pe_int) (pa_cons (pe_un un_neg pe_int) pa_nil)))) (pg_name (i:=4) nd rfl (Or.inl rfl)) (pss_one (ps_asg (pe_callC c_cost_from hr pass0 (pa_cons (pv 0) (pa_cons (pv 1) (pa_cons (pv 2) (pa_cons (pv 4) pa_nil))))) (pg_sub (pv 2) (pv 4) set_list)))) (pss_one (ps_ret (pv 2))))),?_⟩
  obtain ⟨lv,hl1,hl2⟩:=hP.len
  obtain ⟨_,ok,_⟩:=id hP
  have hll:=lnl_len ok
  have hn8:=ok.size
  have hz:sizeLine=16777216:=by decide
  have hsz:=laid_size wo
  refine ⟨_,rfl,ll,_,rfl,.inl (.inl (.inl hl1)),_,_,rfl,rfl,_,rfl,by omega,by omega,fun D hD=>?_⟩
  have en:Int.toNat ((lv.length:Int) + 1)=(lnl wo).length + 1:=by omega
  rw [en]
  obtain ⟨Pv,hPv⟩:∃ Pv:Nat→Hp→Prop,Pv=fun i H'=>Kp [] H H'∧H' D=some (.lst (List.replicate i (V.int 0))):=⟨_,rfl⟩
  refine lc_range Pv ?_ ?_ ?_
  ·rw [hPv]
   exact ⟨Kp.new hD,upd_same⟩
  ·intro i H2 hi hw
   rw [hPv] at hw
   obtain ⟨k,hD2⟩:=hw
   refine ⟨rfl,?_⟩
   simp only [tYes]
   walk_at "rd"
   refine ⟨_,hD2,by rw [List.length_replicate]; omega,?_⟩
   rw [hPv]
   refine ⟨k.put2 (.inr hD),?_⟩
   rw [upd_same,← List.replicate_succ']
  ·intro H2 hw
   rw [hPv] at hw
   obtain ⟨k2,hD2⟩:=hw
   clear hPv Pv
   have hl1':=k2 _ _ hl1 (by simp)
   walk_at "rd"
   obtain ⟨Pv,hPv⟩:∃ Pv:WT,Pv=fun i σ H'=>Kp [] H H'∧∃ (o:Option V) (us:List V),σ=[some (.ref wk),some (.ref ll),some (.ref D),none,o]∧us.length=(lnl wo).length + 1∧H' D=some (.lst us)∧∀ j,(lnl wo).length≤j + i→j≤(lnl wo).length→us[j]?=some (.int (bst1 wo j:Nat)):=⟨_,rfl⟩
   refine ⟨_,rfl,ll,rfl,_,.inl (.inl (.inl hl1')),_,_,rfl,rfl,_,rfl,_,rfl,_,_,_,_,rfl,RgC.neg (by omega) (by omega) (by omega) (by omega),for_rangeC Pv ?_ ?_ ?_⟩
   ·rw [hPv]
    refine ⟨k2,none,_,rfl,List.length_replicate ..,hD2,fun j h1 h2=>?_⟩
    have:j=(lnl wo).length:=by omega
    subst this
    have e0:bst1 wo (lnl wo).length=0:=by
     unfold bst1
     rw [best_end (VhPage.laid wo) (noteB wo) (by omega)]
    rw [List.getElem?_replicate,if_pos (by omega),e0]; rfl
   ·intro i σ H3 hi hw
    rw [hPv] at hw
    obtain ⟨k3,o,us,rfl,hul,hD3,hT3⟩:=hw
    have hst:(lv.length:Int) - 1 + (i:Int) * -1=(((lnl wo).length - 1 - i:Nat):Int):=by omega
    rw [hst]
    obtain ⟨st,hst'⟩:∃ st,st=(lnl wo).length - 1 - i:=⟨_,rfl⟩
    rw [← hst']
    walk_at "rd"
    refine ⟨wk,ll,D,wo,st,us,rfl,hP.keep k3,by omega,hD3,⟨hul,fun j h1 h2=>hT3 j (by omega) h2⟩,fun H4 k4=>?_⟩
    have hD4:=k4 _ _ hD3 (by simp)
    refine ⟨_,rfl,_,rfl,D,us,(st:Int),st,rfl,rfl,hD4,?_,?_⟩
    ·unfold ixN
     rw [if_pos (by omega),if_pos (by omega)]; simp
    ·rw [hPv]
     refine ⟨(k3.trans k4).put2 (.inr hD),_,us.set st (.int (bst1 wo st:Nat)),rfl,by rw [List.length_set]; exact hul,upd_same,fun j h1 h2=>?_⟩
     by_cases z:j=st
     ·subst z
      rw [List.getElem?_set_self (by omega)]
     ·rw [List.getElem?_set_ne (Ne.symm z)]
      exact hT3 j (by omega) h2
   ·intro σ H3 hw
    rw [hPv] at hw
    obtain ⟨k3,o,us,rfl,hul,hD3,hT3⟩:=hw
    walk_at "rd"
    exact q H3 D us hD k3 hD3 hul (fun j hj=>hT3 j (by omega) hj)
def PagesI (a:Ad) (H:Hp) (x:VhPage.Page × Nat) (v:V):Prop:=∃ l,v=.ref l∧PageAt a H l x.1 x.2
def sp_pages_of (K:PySem.W.Frag) (a:Ad):Sp:=fun vs H Q _=>∃ (wk ll:Addr) (wo:VhPage.Work),vs=[.ref wk,.ref ll]∧PgR a H wk ll wo ∧
 ∀ H' p us,H p=none→Kp [] H H'→H' p=some (.lst us)→Paired (PagesI a H') (withC (VhPage.laid wo) (VhPage.laid wo).pages) us→Q (.ref p) H'
abbrev s_pages_of:Stmt:=top 49
theorem sc_pages_of:FnScope ["work","lines","costs","pages","first","carried","page"] ["work","lines"] (defScope s_pages_of):=⟨rfl,rfl,rfl,by decide +kernel,rfl,by decide +kernel,by decide +kernel⟩
theorem ok_pages_of {f:Addr} {fd:FuncData} (F:Fun K "pages_of" "pages_of" s_pages_of f fd) (T:Txt K mg a) (c_costs_of:FnC P w K mg base CX0 9 "costs_of" ["work","lines"] (sp_costs_of K a)) (c_may_be_whole:FnC P w K mg base CX0 6 "may_be_whole" ["work","lines","first","carried"] (sp_may_be_whole K a)) (c_whole_page:FnC P w K mg base CX0 6 "whole_page" ["work","lines","first","end","carried"] (sp_whole_page K a)) (c_forced_page:FnC P w K mg base CX0 7 "forced_page" ["work","lines","first","carried"] (sp_forced_page K a)) (c_best_whole:FnC P w K mg base CX0 7 "best_whole" ["work","lines","costs","first","carried"] (sp_best_whole K a)):FnOk P w K mg base CX0 10 f fd ["work","lines"] (sp_pages_of K a):=by
 refine F.ok sc_pages_of (fun vs H Q E h=>?_) (fun cdv A outer s H vs Q E hr h=>?_)
 ·obtain ⟨wk,ll,wo,rfl,hP,q⟩:=h
  rfl
 ·obtain ⟨wk,ll,wo,rfl,hP,q⟩:=h
  have nd:=sc_pages_of.nd
  refine ⟨_,(pss_cons (ps_set (i:=2) nd rfl (Or.inl rfl) (pe_callC c_costs_of hr pass0 (pa_cons (pv 0) (pa_cons (pv 1) pa_nil)))) (pss_cons (ps_set (i:=3) nd rfl (Or.inl rfl) (pe_lst pa_nil)) (pss_cons (ps_set (i:=4) nd rfl (Or.inl rfl) pe_int) (pss_cons (ps_set (i:=5) nd rfl (Or.inl rfl) pe_int) (pss_cons (ps_while PassesOwn.never (PW.pt (pw_or (pt_cmpR op_lt (pv 4) (pe_callB call_len_seq rfl T.len PySem.boot_len (pa_cons (pv 1) pa_nil)) (nomark _)) (pw_or1 (pt_cmpR op_gt (pv 5) pe_int (nomark _))))) (pss_cons (ps_if (pt_val (pe_callC c_may_be_whole hr pass0 (pa_cons (pv 0) (pa_cons (pv 1) (pa_cons (pv 4) (pa_cons (pv 5) pa_nil)))))) (pss_one (ps_set (i:=6) nd rfl (Or.inl rfl) (pe_callC c_whole_page hr pass0 (pa_cons (pv 0) (pa_cons (pv 1) (pa_cons (pv 4) (pa_cons (pe_ix ix_tup (pe_callC c_best_whole hr pass0 (pa_cons (pv 0) (pa_cons (pv 1) (pa_cons (pv 2) (pa_cons (pv 4) (pa_cons (pv 5) pa_nil)))))) pe_int (fun _ _=>rfl)) (pa_cons (pv 5) pa_nil)))))))) (pss_one (ps_set (i:=6) nd rfl (Or.inl rfl) (pe_callC c_forced_page hr pass0 (pa_cons (pv 0) (pa_cons (pv 1) (pa_cons (pv 4) (pa_cons (pv 5) pa_nil)))))))) (pss_cons (ps_expr (pe_bm PySem.F.plainAttrs_list PySem.F.slot_list_append PySem.F.type_list_append mt_append (pv 3) (pa_cons (pv 6) pa_nil))) (pss_cons (ps_set (i:=4) nd rfl (Or.inl rfl) (pe_fld (pv 6) rfl)) (pss_one (ps_set (i:=5) nd rfl (Or.inl rfl) (pe_fld (pv 6) rfl))))))) (pss_one (ps_ret (pv 3)))))))),?_⟩
  obtain ⟨_,ok,_⟩:=id hP
  have hF:=fits_laid ok
  have hsz:=laid_size wo
  have hms:=meas_small ok
  have hz:sizeLine=16777216:=by decide
  walk_at "rd"
  refine ⟨wk,ll,wo,rfl,hP,fun H1 cs cu hcs0 k1 hcs hcl hcu=>⟨by decide,fun p hp=>?_⟩⟩
  have hpH:H p=none:=k1.free (by simp) hp
  have kp:Kp [] H1 (upd H1 p (HO.lst [])):=Kp.new hp
  obtain ⟨W,hW⟩:∃ W:WT,W=fun m σ H'=>Kp [] H1 H'∧∃ (i:Nat) (c:List (List Vh.Letters)) (o:Option V) (us:List V) (dn:List (VhPage.Page × Nat)),σ=[some (.ref wk),some (.ref ll),some (.ref cs),some (.ref p),some (.int (i:Int)),some (.int (c.length:Nat)),o]∧m=meas (VhPage.laid wo) (noteB wo) i c∧i≤(lnl wo).length∧H' p=some (.lst us)∧Paired (PagesI a H') dn us∧withC (VhPage.laid wo) (VhPage.laid wo).pages=dn ++ withC (VhPage.laid wo) (best (VhPage.laid wo) (noteB wo) i c).2∧us.length + meas (VhPage.laid wo) (noteB wo) i c≤meas (VhPage.laid wo) (noteB wo) 0 []:=⟨_,rfl⟩
  refine ⟨W,⟨_,by
   rw [hW]
   exact ⟨kp,0,[],none,[],[],rfl,rfl,Nat.zero_le _,upd_same,.nil,by rw [← pages_best hF]; rfl,by simp⟩⟩,fun m σ H2 hw2=>?_⟩
  rw [hW] at hw2
  obtain ⟨k2,i,c,o,us,dn,rfl,rfl,hin,hus,hPg,hall,hmeas⟩:=hw2
  have k12:=k1.trans k2
  have hPk:=hP.keep k12
  obtain ⟨lv,hl1,hl2⟩:=hPk.len
  refine test_go (t:=tOr _ _) (decide (i < (lnl wo).length∨0 < c.length)) (fun Q0 hQ=>?_) ?_
  ·walk_at "rd"
   refine ⟨_,.inl (.inl (.inl hl1)),?_⟩
   rw [hl2]
   by_cases h1:i < (lnl wo).length
   ·rw [if_pos (by omega)]
    rw [decide_eq_true (.inl h1)] at hQ
    exact hQ
   ·rw [if_neg (by omega)]
    have e1:decide ((0:Int) < (c.length:Nat))=decide (i < (lnl wo).length∨0 < c.length):=decide_eq_decide.mpr (by omega)
    rw [e1]; exact hQ
  ·by_cases hh:i < (lnl wo).length∨0 < c.length
   ·rw [if_pos (by simpa using hh)]
    refine ⟨fun σ' H'=>∃ m',m' < meas (VhPage.laid wo) (noteB wo) i c∧W m' σ' H',fun _ _ z=>z,?_⟩
    have hc':i < (VhPage.laid wo).lines.size∨c≠[]:=by
     rcases hh with h | h
     ·exact .inl (by omega)
     ·exact .inr (List.length_pos_iff.mp h)
    walk_at "rd"
    refine ⟨wk,ll,wo,i,c,rfl,hPk,hin,fun H3 k3=>⟨_,rfl,?_⟩⟩
    have hPk3:=hPk.keep k3
    have k23:=k2.trans k3
    have hpl:=Paired.length hPg
    by_cases hwl:wl (VhPage.laid wo) i c=[]
    ·rw [if_neg (by rw [hwl]; simp)]
     refine ⟨wk,ll,wo,i,c,rfl,hPk3,hin,hwl,fun H5 x hx k5 hpg=>?_⟩
     have hm:=forced_meas hF (by omega) hwl hc'
     have hfl:=forced_lines (L:=VhPage.laid wo) (c:=c) (i:=i) (by omega)
     have hwc:=withC_forced hF hwl hc'
     have k25:=k23.trans k5
     have hpg0:=hpg
     obtain ⟨d,hpg⟩:=hpg
     have hus5:=k5 _ _ (k3 _ _ hus (by simp)) (by simp)
     have xp:x≠p:=fun z=>by rw [z,hus5] at hpg; cases hpg
     refine ⟨.inl ⟨rfl,_,.inl (.inl hus5)⟩,us,hus5,by omega,?_⟩
     have hpg6:upd H5 p (HO.lst (us ++ [V.ref x])) x=some (HO.ins a.CP d (pgf (VhG.kindOf (forced (VhPage.laid wo) i c)) (forced (VhPage.laid wo) i c).first ((forced (VhPage.laid wo) i c).first + (forced (VhPage.laid wo) i c).lines) (forced (VhPage.laid wo) i c).before (forced (VhPage.laid wo) i c).own (forced (VhPage.laid wo) i c).on.length 0)):=by rw [upd_ne xp]; exact hpg
     refine ⟨_,rfl,x,a.CP,d,_,_,rfl,hpg6,T.clPage,T.nP_end,pgf_end _ _ _ _ _ _ _,?_⟩
     refine ⟨_,rfl,x,a.CP,d,_,_,rfl,hpg6,T.clPage,T.nP_rest,pgf_rest _ _ _ _ _ _ _,?_⟩
     refine ⟨_,hm,?_⟩
     rw [hW]
     refine ⟨k25.put2 (.inr hp),i + (forced (VhPage.laid wo) i c).lines,(forced (VhPage.laid wo) i c).on,_,us ++ [.ref x],dn ++ [(forced (VhPage.laid wo) i c,0)],by rw [forced_first],rfl,by omega,upd_same,?_,?_,?_⟩
     ·refine Paired.snoc (Paired.mono (fun y v z=>?_) hPg) ⟨x,rfl,d,hpg6⟩
      obtain ⟨l,e,d',h⟩:=z
      exact ⟨l,e,d',by rw [upd_ne (ne_of h hus (by intro z; cases z))]; exact k5 _ _ (k3 _ _ h (by simp)) (by simp)⟩
     ·rw [hall,hwc,List.append_assoc]; rfl
     ·rw [List.length_append]; simp only [List.length_cons,List.length_nil]; omega
    ·have hin':i < (lnl wo).length:=by
      have:¬ (VhPage.laid wo).lines.size≤i:=fun z=>hwl ((wl_nil (VhPage.laid wo) i c (by omega)).mpr (.inl z))
      omega
     rw [if_pos (by
      cases z:wl (VhPage.laid wo) i c with
      | nil=>exact absurd z hwl
      | cons p l=>simp)]
     refine ⟨wk,ll,cs,wo,i,c,cu,rfl,hPk3,hin,k23 _ _ hcs (by simp),⟨hcl,fun j _ hj=>hcu j hj⟩,hwl,fun H4 t pg k4 hbp ht=>?_⟩
     obtain ⟨p',hmem,hb1,hb2⟩:=best_whole hF (by omega) hwl
     rw [hb1] at hbp
     have hpp:p'=pg:=by
      have:=Option.some.inj hbp
      exact (Prod.mk.inj this).2
     subst hpp
     obtain ⟨k,hik,hkn,rfl,hwk⟩:=wl_mem (VhPage.laid wo) i c (by omega) hmem
     have e4:i + (whole (VhPage.laid wo) i c k).lines=k + 1:=by show i + (k + 1 - i)=k + 1; omega
     rw [e4] at ht
     have k24:=k23.trans k4
     refine ixT_go 1 ht rfl ⟨wk,ll,wo,i,k,c,rfl,hPk3.keep k4,hik,by omega,hwk,fun H5 x hx k5 hpg=>?_⟩
     have hm:=whole_meas (L:=VhPage.laid wo) (B:=noteB wo) (c:=c) hik hkn
     have hwc:=withC_whole hF (by omega) hik hb2
     have k25:=k24.trans k5
     obtain ⟨d,hpg⟩:=hpg
     have hus5:=k5 _ _ (k4 _ _ (k3 _ _ hus (by simp)) (by simp)) (by simp)
     have xp:x≠p:=fun z=>by rw [z,hus5] at hpg; cases hpg
     refine ⟨.inl ⟨rfl,_,.inl (.inl hus5)⟩,us,hus5,by omega,?_⟩
     have hpg6:upd H5 p (HO.lst (us ++ [V.ref x])) x=some (HO.ins a.CP d (pgf (VhG.kindOf (whole (VhPage.laid wo) i c k)) (whole (VhPage.laid wo) i c k).first ((whole (VhPage.laid wo) i c k).first + (whole (VhPage.laid wo) i c k).lines) (whole (VhPage.laid wo) i c k).before (whole (VhPage.laid wo) i c k).own (whole (VhPage.laid wo) i c k).on.length (wcost (VhPage.laid wo) i (k + 1) (wantK (VhPage.laid wo) i c.length k)))):=by rw [upd_ne xp]; exact hpg
     refine ⟨_,rfl,x,a.CP,d,_,_,rfl,hpg6,T.clPage,T.nP_end,pgf_end _ _ _ _ _ _ _,?_⟩
     refine ⟨_,rfl,x,a.CP,d,_,_,rfl,hpg6,T.clPage,T.nP_rest,pgf_rest _ _ _ _ _ _ _,?_⟩
     refine ⟨_,hm,?_⟩
     rw [hW]
     refine ⟨k25.put2 (.inr hp),k + 1,[],some (.ref x),us ++ [.ref x],dn ++ [(whole (VhPage.laid wo) i c k,wcost (VhPage.laid wo) i (k + 1) (wantK (VhPage.laid wo) i c.length k))],?_,rfl,by omega,upd_same,?_,?_,?_⟩
     ·have e5:(whole (VhPage.laid wo) i c k).first + (whole (VhPage.laid wo) i c k).lines=k + 1:=e4
      rw [e5]; rfl
     ·refine Paired.snoc (Paired.mono (fun y v z=>?_) hPg) ⟨x,rfl,d,hpg6⟩
      obtain ⟨l,e,d',h⟩:=z
      exact ⟨l,e,d',by rw [upd_ne (ne_of h hus (by intro z; cases z))]; exact k5 _ _ (k4 _ _ (k3 _ _ h (by simp)) (by simp)) (by simp)⟩
     ·rw [hall,hwc,List.append_assoc]; rfl
     ·rw [List.length_append]; simp only [List.length_cons,List.length_nil]; omega
   ·rw [if_neg (by simpa using hh)]
    walk_at "rd"
    have hc0:c=[]:=List.length_eq_zero_iff.mp (by omega)
    subst hc0
    rw [best_end (VhPage.laid wo) (noteB wo) (by omega)] at hall
    refine q H2 p us hpH k12 hus ?_
    rw [hall]
    have:dn ++ withC (VhPage.laid wo) (((0,[]):Nat × List VhPage.Page).2)=dn:=List.append_nil dn
    rw [this]; exact hPg
end
section
variable {P:Program} {w:World} {K:PySem.W.Frag} {mg:Str→Option Value} {base:Heap} {a:Ad}
def sp_cost_of_line (K:PySem.W.Frag) (a:Ad):Sp:=fun vs H Q _=>∃ (wk l d:Addr) (wo:VhPage.Work) (hb:List UInt8) (f e:Nat) (o c:Bool) (t:Nat) (nv:V),vs=[.ref wk,.ref l]∧WkR a H wk wo hb∧wo.set.indent≤wo.set.width∧wo.set.width≤240∧H l=some (.ins a.CL d (lnf f e o c t nv))∧Q (.int (VhPage.lineCost (roomN wo o) t c:Nat)) H
abbrev s_cost_of_line:Stmt:=top 26
theorem sc_cost_of_line:FnScope ["work","line"] ["work","line"] (defScope s_cost_of_line):=⟨rfl,rfl,rfl,by decide +kernel,rfl,by decide +kernel,by decide +kernel⟩
theorem ok_cost_of_line {f:Addr} {fd:FuncData} (F:Fun K "cost_of_line" "cost_of_line" s_cost_of_line f fd) (T:Txt K mg a) (c_line_cost:FnC P w K mg base CX0 1 "line_cost" ["taken","room","is_last"] (sp_line_cost K a)) (c_room_of:FnC P w K mg base CX0 1 "room_of" ["work","opens"] (sp_room_of K a)):FnOk P w K mg base CX0 2 f fd ["work","line"] (sp_cost_of_line K a):=by
 refine F.ok sc_cost_of_line (fun vs H Q E h=>?_) (fun cdv A outer s H vs Q E hr h=>?_)
 ·obtain ⟨wk,l,d,wo,hb,f,e,o,c,t,nv,rfl,hw,hI,hW,hR,q⟩:=h
  rfl
 ·obtain ⟨wk,l,d,wo,hb,f,e,o,c,t,nv,rfl,hw,hI,hW,hR,q⟩:=h
  have nd:=sc_cost_of_line.nd
  refine ⟨_,(pss_one (ps_ret (pe_callC c_line_cost hr pass0 (pa_cons (pe_fld (pv 1) rfl) (pa_cons (pe_callC c_room_of hr pass0 (pa_cons (pv 0) (pa_cons (pe_fld (pv 1) rfl) pa_nil))) (pa_cons (pe_fld (pv 1) rfl) pa_nil)))))),?_⟩
  have hR2:=hR
  have hWk:=hR
  have hWk2:=hR
  walk_at "wk"
  refine ⟨T.clLine,T.nL_taken,_,lnf_taken f e o c t nv,T.clLine,T.nL_opens,_,lnf_opens f e o c t nv,?_⟩
  refine ⟨wk,wo,hb,o,rfl,hw,hI,_,_,_,hR,T.clLine,T.nL_closes,_,lnf_closes f e o c t nv,t,roomN wo o,c,rfl,?_,q⟩
  unfold roomN
  split <;> omega
end
section
variable {P:Program} {w:World} {K:PySem.W.Frag} {mg:Str→Option Value} {base:Heap} {a:Ad}
def costV (wo:VhPage.Work):List V:=[.int ((VhPage.laid wo).pages.length:Nat),.int (VhG.linesCost wo.set (tkl wo) wo.paras:Nat),.int ((VhPage.laid wo).pagesCost (VhPage.laid wo).pages:Nat)]
def sp_numbers_of_cost (K:PySem.W.Frag) (a:Ad):Sp:=fun vs H Q _=>∃ (wk:Addr) (wo:VhPage.Work) (hb:List UInt8),vs=[.ref wk]∧WkR a H wk wo hb∧WOk wo∧∀ H' p,H' p=some (.lst (costV wo))→Q (.ref p) H'
abbrev s_numbers_of_cost:Stmt:=top 51
theorem sc_numbers_of_cost:FnScope ["work","lines","pages","line_costs","line","page"] ["work"] (defScope s_numbers_of_cost):=⟨rfl,rfl,rfl,by decide +kernel,rfl,by decide +kernel,by decide +kernel⟩
theorem bk_numbers_of_cost_0:BlkOk ["work","lines","pages","line_costs","line","page"] (defScope s_numbers_of_cost) (lcSc (exArg (exElt (stVal (stI (defBody s_numbers_of_cost) 3)) 2) 0)) [("page",5)]:=⟨rfl,by decide +kernel,by decide +kernel,by decide +kernel,by decide +kernel⟩
theorem bk_numbers_of_cost_1:BlkOk ["work","lines","pages","line_costs","line","page"] (defScope s_numbers_of_cost) (lcSc (stVal (stI (defBody s_numbers_of_cost) 2))) [("line",4)]:=⟨rfl,by decide +kernel,by decide +kernel,by decide +kernel,by decide +kernel⟩
theorem ok_numbers_of_cost {f:Addr} {fd:FuncData} (F:Fun K "numbers_of_cost" "numbers_of_cost" s_numbers_of_cost f fd) (T:Txt K mg a) (c_lines_of:FnC P w K mg base CX0 6 "lines_of" ["work"] (sp_lines_of K a)) (c_pages_of:FnC P w K mg base CX0 10 "pages_of" ["work","lines"] (sp_pages_of K a)) (c_cost_of_line:FnC P w K mg base CX0 2 "cost_of_line" ["work","line"] (sp_cost_of_line K a)):FnOk P w K mg base CX0 11 f fd ["work"] (sp_numbers_of_cost K a):=by
 refine F.ok sc_numbers_of_cost (fun vs H Q E h=>?_) (fun cdv A outer s H vs Q E hr h=>?_)
 ·obtain ⟨wk,wo,hb,rfl,hw,ok,q⟩:=h
  rfl
 ·obtain ⟨wk,wo,hb,rfl,hw,ok,q⟩:=h
  have nd:=sc_numbers_of_cost.nd
  refine ⟨_,(pss_cons (ps_set (i:=1) nd rfl (Or.inl rfl) (pe_callC c_lines_of hr pass0 (pa_cons (pv 0) pa_nil))) (pss_cons (ps_set (i:=2) nd rfl (Or.inl rfl) (pe_callC c_pages_of hr pass0 (pa_cons (pv 0) (pa_cons (pv 1) pa_nil)))) (pss_cons (ps_setLc (i:=3) rfl nd rfl rfl (sw_true rfl rfl rfl rfl) (pi_list (pv 1)) bk_numbers_of_cost_1 (fun _ _ _ _ _=>(pg_name (i:=4) nd rfl (Or.inl rfl))) (fun _ _ _ _ _=>pts_nil) (fun _ _ _ _ _=>(pe_callC c_cost_of_line hr pass0 (pa_cons (pv 0) (pa_cons (pv 4) pa_nil))))) (pss_one (ps_ret (pe_lst (pa_cons (pe_callB call_len_seq rfl T.len PySem.boot_len (pa_cons (pv 2) pa_nil)) (pa_cons (pe_callB (cr_sum rfl) rfl T.sum boot_sum (pa_cons (pv 3) pa_nil)) (pa_cons (pe_callB (cr_sum rfl) rfl T.sum boot_sum (pa_cons (pe_lc rfl nd (pi_list (pv 2)) bk_numbers_of_cost_0 (fun _ _ _ _ _=>(pg_name (i:=5) nd rfl (Or.inl rfl))) (fun _ _ _ _ _=>pts_nil) (fun _ _ _ _ _=>(k_pe_fld (K:=K) rfl (pv 5) rfl))) pa_nil)) pa_nil))))))))),?_⟩
  have hsb:=set_bounds ok.set
  have hfew:=pages_few ok
  have hll:=lnl_len ok
  have hn8:=ok.size
  have hz:sizeLine=16777216:=by decide
  walk_at "rd"
  refine ⟨wk,wo,hb,rfl,hw,ok,fun H1 p1 hp1 k1 hL1=>?_⟩
  have hP1:PgR a H1 wk p1 wo:=⟨⟨hb,hw.keep k1⟩,ok,hL1⟩
  refine ⟨wk,p1,wo,rfl,hP1,fun H2 p2 us2 hp2 k2 hl2 hPg=>?_⟩
  obtain ⟨⟨hb2,hw2⟩,_,lv,hl,hlen,hget⟩:=hP1.keep k2
  refine ⟨_,rfl,p1,rfl,⟨_,.inl (.inl hl)⟩,fun D hD=>?_⟩
  obtain ⟨Pv,hPv⟩:∃ Pv:Nat→Hp→Prop,Pv=fun i H'=>Kp [] H2 H'∧H' D=some (.lst (lV (((lnl wo).map (costL wo)).take i))):=⟨_,rfl⟩
  refine lc_list (xs:=lv) Pv ?_ ?_ ?_ ?_
  ·rw [hPv]
   exact ⟨Kp.new hD,upd_same⟩
  ·intro i H' _ hw'
   rw [hPv] at hw'
   exact .inl (.inl (hw'.1 _ _ hl (by simp)))
  ·intro i v H3 hi hw'
   rw [hPv] at hw'
   obtain ⟨k3,hD3⟩:=hw'
   have hil:=(List.getElem?_eq_some_iff.mp hi).1
   obtain ⟨x,hx⟩:∃ x,(lnl wo)[i]?=some x:=⟨_,List.getElem?_eq_getElem (by omega)⟩
   obtain ⟨l,d,nv,hv,hlx,_⟩:=hget i x hx
   rw [hi] at hv
   cases hv
   refine ⟨rfl,?_⟩
   simp only [tYes]
   refine ⟨_,rfl,_,rfl,wk,l,d,wo,hb2,_,_,_,_,_,_,rfl,hw2.keep k3,by omega,by omega,k3 _ _ hlx (by simp),?_⟩
   refine ⟨_,hD3,by rw [lV_len,List.length_take,List.length_map]; omega,?_⟩
   rw [hPv]
   refine ⟨k3.put2 (.inr hD),?_⟩
   rw [upd_same,take_snoc' (x:=costL wo x) (by rw [List.getElem?_map,hx]; rfl)]
   unfold lV
   rw [List.map_append]; rfl
  ·intro H3 hw'
   rw [hPv] at hw'
   obtain ⟨k3,hD3⟩:=hw'
   clear hPv Pv
   rw [hlen,List.take_of_length_le (by rw [List.length_map]; exact Nat.le_refl _),lV_ints] at hD3
   have hl3:=k3 _ _ hl2 (by simp)
   have hpl:=Paired.length hPg
   rw [withC_len] at hpl
   walk_at "rd"
   refine ⟨us2,.inl (.inl (.inl hl3)),D,_,rfl,.inl (.inl hD3),?_⟩
   refine ⟨_,rfl,p2,rfl,⟨_,.inl (.inl hl3)⟩,fun D2 hD2=>?_⟩
   obtain ⟨Pv,hPv⟩:∃ Pv:Nat→Hp→Prop,Pv=fun i H'=>Kp [] H3 H'∧H' D2=some (.lst (lV (((withC (VhPage.laid wo) (VhPage.laid wo).pages).map fun x=>x.2).take i))):=⟨_,rfl⟩
   refine lc_list (xs:=us2) Pv ?_ ?_ ?_ ?_
   ·rw [hPv]
    exact ⟨Kp.new hD2,upd_same⟩
   ·intro i H' _ hw'
    rw [hPv] at hw'
    exact .inl (.inl (hw'.1 _ _ hl3 (by simp)))
   ·intro i v H4 hi hw'
    rw [hPv] at hw'
    obtain ⟨k4,hD4⟩:=hw'
    obtain ⟨y,hy,l,rfl,d,hpg⟩:=Paired.get hPg hi
    refine ⟨rfl,?_⟩
    simp only [tYes]
    refine ⟨_,rfl,l,a.CP,d,_,_,rfl,k4 _ _ (k3 _ _ hpg (by simp)) (by simp),T.clPage,T.nP_cost,pgf_cost _ _ _ _ _ _ _,?_⟩
    refine ⟨_,hD4,?_,?_⟩
    ·have:=hfew
     rw [lV_len,List.length_take,List.length_map,withC_len]; omega
    rw [hPv]
    refine ⟨k4.put2 (.inr hD2),?_⟩
    rw [upd_same,take_snoc' (x:=y.2) (by rw [List.getElem?_map,hy]; rfl)]
    unfold lV
    rw [List.map_append]; rfl
   ·intro H4 hw'
    rw [hPv] at hw'
    obtain ⟨k4,hD4⟩:=hw'
    rw [← hpl,List.take_of_length_le (by rw [List.length_map,withC_len]; exact Nat.le_refl _),lV_ints] at hD4
    walk_at "rd"
    refine ⟨D2,_,rfl,.inl (.inl hD4),by decide,fun p hp=>q _ p ?_⟩
    rw [upd_same,sum_cast,sum_cast,lnl_cost ok,withC_sum,← hpl]
    rfl
def ansV (bs:List UInt8):List V:=match VhPage.readWork bs with
 | .ok wo=>costV wo
 | .error _=>[.int (-6)]
def sp_answered_of_work (K:PySem.W.Frag) (a:Ad):Sp:=fun vs H Q _=>∃ (ta:Addr) (bs:List UInt8),vs=[.ref ta,.ref a.F_numbers_of_cost]∧SqL K H ta (bsV bs)∧bs.length≤8191∧∀ H' p,H' p=some (.lst (ansV bs))→Q (.ref p) H'
abbrev s_answered_of_work:Stmt:=top 82
theorem sc_answered_of_work:FnScope ["t","answer","work"] ["t","answer"] (defScope s_answered_of_work):=⟨rfl,rfl,rfl,by decide +kernel,rfl,by decide +kernel,by decide +kernel⟩
theorem ok_answered_of_work {f:Addr} {fd:FuncData} (F:Fun K "answered_of_work" "answered_of_work" s_answered_of_work f fd) (T:Txt K mg a) (c_numbers_of_cost:FnC P w K mg base CX0 11 "numbers_of_cost" ["work"] (sp_numbers_of_cost K a)) (c_read_work:FnC P w K mg base (CX1 P w a.CE) 7 "read_work" ["reader"] (sp_read_work K a)) (c_Reader_init:MakeC P w K mg base CX0 1 a.CR "Reader" ["self","t"] (sp_Reader_init K a)):FnOk P w K mg base CX0 12 f fd ["t","answer"] (sp_answered_of_work K a):=by
 refine F.ok sc_answered_of_work (fun vs H Q E h=>?_) (fun cdv A outer s H vs Q E hr h=>?_)
 ·obtain ⟨ta,bs,rfl,hS,hlen,q⟩:=h
  rfl
 ·obtain ⟨ta,bs,rfl,hS,hlen,q⟩:=h
  have nd:=sc_answered_of_work.nd
  refine ⟨_,(pss_cons (ps_if (pt_cmpR op_gt (pe_callB call_len_seq rfl T.len PySem.boot_len (pa_cons (pv 0) pa_nil)) (pe_gint T.cMOST_TEXT_BYTES) (nomark _)) (pss_one (ps_ret (pe_lst (pa_cons (pe_un un_neg pe_int) pa_nil)))) pss_nil) (pss_cons (by refine' ps_try (C:=a.CE) ?eT ?eg ?eb ?es; (case eT=>exact T.exc); (case eg=>exact rfl); (case eb=>exact (pxs_set (i:=2) nd rfl (Or.inl rfl) (px_callC c_read_work hr (pa_cons (pe_makeC c_Reader_init hr pass0 (pa_cons (pv 0) pa_nil)) pa_nil)))); (case es=>exact fun _=>(pss_one (ps_ret (pe_lst (pa_cons (pe_un un_neg pe_int) pa_nil)))))) (pss_one (ps_ret (pe_callL 1 c_numbers_of_cost T.f_numbers_of_cost hr pass0 (pa_cons (pv 2) pa_nil)))))),?_⟩
  obtain ⟨ot,hta⟩:=SqL.is T hS
  walk_at "rd"
  refine ⟨_,.inl hS,?_⟩
  rw [bsV_len,if_neg (by omega)]
  simp only [tCallX]
  walk_at "rd"
  intro x dx nx ndx nex
  have tax:ta≠x:=ne_of_none hta nx
  have tadx:ta≠dx:=ne_of_none hta ndx
  have k0:Kp [] H (upd (upd H dx (HO.own x)) x (HO.ins a.CR dx [])):=fun c o e _=>by
   rw [upd_ne (ne_of_none e nx),upd_ne (ne_of_none e ndx)]; exact e
  refine ⟨x,dx,ta,bs,rfl,upd_same,k0.seq (by simp) hS,tax,fun H2 k2 R2=>⟨rfl,?_⟩⟩
  refine ⟨x,ta,bs,rfl,R2,fun wo hb wk H3 e3 _ _ k3 hw=>?_,fun p3 H3 e3 R3=>?_⟩
  ·simp only [tCallL]
   walk_at "rd"
   obtain ⟨_,ok⟩:=read_back e3
   refine ⟨wk,wo,hb,rfl,⟨hw,rows_ok ok,ok.rows⟩,ok,fun H' p hp=>q H' p ?_⟩
   rw [hp]
   unfold ansV
   rw [e3]
  ·intro ea
   walk_at "rd"
   refine ⟨by decide,fun l hl=>q _ l ?_⟩
   rw [upd_same]
   unfold ansV
   rw [e3]
def sp_cost (K:PySem.W.Frag) (a:Ad):Sp:=fun vs H Q _=>∃ (ta:Addr) (bs:List UInt8),vs=[.ref ta]∧SqL K H ta (bsV bs)∧bs.length≤8191∧∀ H' p,H' p=some (.lst (ansV bs))→Q (.ref p) H'
abbrev s_cost:Stmt:=top 83
theorem sc_cost:FnScope ["t"] ["t"] (defScope s_cost):=⟨rfl,rfl,rfl,by decide +kernel,rfl,by decide +kernel,by decide +kernel⟩
theorem ok_cost {f:Addr} {fd:FuncData} (F:Fun K "cost" "cost" s_cost f fd) (T:Txt K mg a) (c_answered_of_work:FnC P w K mg base CX0 12 "answered_of_work" ["t","answer"] (sp_answered_of_work K a)):FnOk P w K mg base CX0 13 f fd ["t"] (sp_cost K a):=by
 refine F.ok sc_cost (fun vs H Q E h=>?_) (fun cdv A outer s H vs Q E hr h=>?_)
 ·obtain ⟨ta,bs,rfl,hS,hlen,q⟩:=h
  rfl
 ·obtain ⟨ta,bs,rfl,hS,hlen,q⟩:=h
  have nd:=sc_cost.nd
  refine ⟨_,(pss_one (ps_ret (pe_callC c_answered_of_work hr pass0 (pa_cons (pv 0) (pa_cons (pe_gref T.f_numbers_of_cost) pa_nil))))),?_⟩
  walk_at "rd"
  exact ⟨ta,bs,rfl,hS,hlen,q⟩
end
end Vp
end
section
set_option maxRecDepth 100000
set_option maxHeartbeats 4000000
namespace Vp
open PySem PySem.Spec PyProof.Rows L2
open PySem.W (Codec)
theorem sqT_of {K:PySem.W.Frag} {a:Addr} {d:Option Addr} {its:Array Value} {n:Nat} {sl:Array (Option Value)} {xs:List V} (l:K.lookup a=some ⟨.type "tuple",d,.seq its n,sl⟩) (hz:its.size≤1000) (v:Vals xs its.toList) (H:Hp):SqT K H a xs :=
 .inr ⟨_,its,n,l,rfl,rfl,Nat.le_trans hz (by decide),v⟩
theorem mem_lk {b:Addr} {o:Obj}:∀ {K:PySem.W.Frag},K.lookup b=some o→(b,o) ∈ K
 | [],h=>by cases h
 | (c,u) :: r,h=>by
  rw [List.lookup_cons] at h
  cases e:b == c with
  | true =>
   rw [e] at h
   have h':u=o:=Option.some.inj h
   rw [← h',eq_of_beq e]
   exact List.mem_cons_self
  | false =>
   rw [e] at h
   exact List.mem_cons_of_mem _ (mem_lk h)
def ad0:Ad:=⟨0,0,0,0,0,0,0,0,0,0⟩
theorem all_mk {P:Program} {w:World} {K:PySem.W.Frag} {h:Heap} {mg:Str→Option Value} {fa:Addr} {CE CR CW CL CN CP f0 f1 f2 f3 f4 f5 f6 f7 f8 f9 f10 f11 f12 f13 f14 f15 f16 f17 f18 f19 f20 f21 f22 f23 f24 f25 f26 f27 f28 f29 f30 f31 f32 f33 f34 f35 f36 f37 f38 f39 f40 f41 f42 f43 f44 f45 f46 f47 f48 f49 f50 f51 f52 f53 f54 f55 f56 f57 f58 f59 f60 f61 f62 aMARKS aSETTING_BOUNDS aCARET bSETTING_BOUNDS0 bSETTING_BOUNDS1 bSETTING_BOUNDS2 bSETTING_BOUNDS3 bSETTING_BOUNDS4 bSETTING_BOUNDS5:Addr} {tBLANK tFIRST_LETTER tLAST_CHARACTER tWHOLE tCUT tFOOT_ALONE tNO_BYTE tMOST_ROWS tMOST_PARAGRAPHS tMOST_WORDS tMOST_SIGNS tMOST_ENTRIES tMOST_TOKENS tMOST_TOKENS_OF_ENTRY tMOST_LETTERS tMOST_SIGN_THINGS tMOST_SIGN_CHARACTERS tMOST_TEXT_BYTES uMARKS0 uMARKS1 uMARKS2 uMARKS3 uMARKS4 uMARKS5 uMARKS6 uMARKS7 uMARKS8 uMARKS9 uMARKS10 uMARKS11 uMARKS12 uMARKS13 uMARKS14 uMARKS15 uSETTING_BOUNDS0_0 uSETTING_BOUNDS0_1 uSETTING_BOUNDS1_0 uSETTING_BOUNDS1_1 uSETTING_BOUNDS2_0 uSETTING_BOUNDS2_1 uSETTING_BOUNDS3_0 uSETTING_BOUNDS3_1 uSETTING_BOUNDS4_0 uSETTING_BOUNDS4_1 uSETTING_BOUNDS5_0 uSETTING_BOUNDS5_1 uCARET0:Tok} {od0 od1 od2 od3 od4 od5 od6 od7 od8 od9 od10 od11 od12 od13 od14 od15 od16 od17 od18 od19 od20 od21 od22 od23 od24 od25 od26 od27 od28 od29 od30 od31 od32 od33 od34 od35 od36 od37 od38 od39 od40 od41 od42 od43 od44 od45 od46 od47 od48 od49 od50 od51 od52 od53 od54 od55 od56 od57 od58 od59 od60 od61 od62 an0 an1 an2 an3 an4 an5 an6 an7 an8 an9 an10 an11 an12 an13 an14 an15 an16 an17 an18 an19 an20 an21 an22 an23 an24 an25 an26 an27 an28 an29 an30 an31 an32 an33 an34 an35 an36 an37 an38 an39 an40 an41 an42 an43 an44 an45 an46 an47 an48 an49 an50 an51 an52 an53 an54 an55 an56 an57 an58 an59 an60 an61 an62 dMARKS dSETTING_BOUNDS dSETTING_BOUNDS0 dSETTING_BOUNDS1 dSETTING_BOUNDS2 dSETTING_BOUNDS3 dSETTING_BOUNDS4 dSETTING_BOUNDS5 dCARET:Option Addr} {sl0 sl1 sl2 sl3 sl4 sl5 sl6 sl7 sl8 sl9 sl10 sl11 sl12 sl13 sl14 sl15 sl16 sl17 sl18 sl19 sl20 sl21 sl22 sl23 sl24 sl25 sl26 sl27 sl28 sl29 sl30 sl31 sl32 sl33 sl34 sl35 sl36 sl37 sl38 sl39 sl40 sl41 sl42 sl43 sl44 sl45 sl46 sl47 sl48 sl49 sl50 sl51 sl52 sl53 sl54 sl55 sl56 sl57 sl58 sl59 sl60 sl61 sl62 sMARKS sSETTING_BOUNDS sSETTING_BOUNDS0 sSETTING_BOUNDS1 sSETTING_BOUNDS2 sSETTING_BOUNDS3 sSETTING_BOUNDS4 sSETTING_BOUNDS5 sCARET:Array (Option Value)} {nMARKS nSETTING_BOUNDS nSETTING_BOUNDS0 nSETTING_BOUNDS1 nSETTING_BOUNDS2 nSETTING_BOUNDS3 nSETTING_BOUNDS4 nSETTING_BOUNDS5 nCARET:Nat} {oc0 kV0 dc0 pm0 cd0 ct0 oc1 kV1 dc1 pm1 cd1 ct1 oc2 kV2 dc2 pm2 cd2 ct2 oc3 kV3 dc3 pm3 cd3 ct3 oc4 kV4 dc4 pm4 cd4 ct4 oc5 kV5 dc5 pm5 cd5 ct5 oc6 kV6 dc6 pm6 cd6 ct6 oc7 kV7 dc7 pm7 cd7 ct7 oc8 kV8 dc8 pm8 cd8 ct8 oc9 kV9 dc9 pm9 cd9 ct9 oc10 kV10 dc10 pm10 cd10 ct10 oc11 kV11 dc11 pm11 cd11 ct11 oc12 kV12 dc12 pm12 cd12 ct12 oc13 kV13 dc13 pm13 cd13 ct13 oc14 kV14 dc14 pm14 cd14 ct14 oc15 kV15 dc15 pm15 cd15 ct15 oc16 kV16 dc16 pm16 cd16 ct16 oc17 kV17 dc17 pm17 cd17 ct17 oc18 kV18 dc18 pm18 cd18 ct18 oc19 kV19 dc19 pm19 cd19 ct19 oc20 kV20 dc20 pm20 cd20 ct20 oc21 kV21 dc21 pm21 cd21 ct21 oc22 kV22 dc22 pm22 cd22 ct22 oc23 kV23 dc23 pm23 cd23 ct23 oc24 kV24 dc24 pm24 cd24 ct24 oc25 kV25 dc25 pm25 cd25 ct25 oc26 kV26 dc26 pm26 cd26 ct26 oc27 kV27 dc27 pm27 cd27 ct27 oc28 kV28 dc28 pm28 cd28 ct28 oc29 kV29 dc29 pm29 cd29 ct29 oc30 kV30 dc30 pm30 cd30 ct30 oc31 kV31 dc31 pm31 cd31 ct31 oc32 kV32 dc32 pm32 cd32 ct32 oc33 kV33 dc33 pm33 cd33 ct33 oc34 kV34 dc34 pm34 cd34 ct34 oc35 kV35 dc35 pm35 cd35 ct35 oc36 kV36 dc36 pm36 cd36 ct36 oc37 kV37 dc37 pm37 cd37 ct37 oc38 kV38 dc38 pm38 cd38 ct38 oc39 kV39 dc39 pm39 cd39 ct39 oc40 kV40 dc40 pm40 cd40 ct40 oc41 kV41 dc41 pm41 cd41 ct41 oc42 kV42 dc42 pm42 cd42 ct42 oc43 kV43 dc43 pm43 cd43 ct43 oc44 kV44 dc44 pm44 cd44 ct44 oc45 kV45 dc45 pm45 cd45 ct45 oc46 kV46 dc46 pm46 cd46 ct46 oc47 kV47 dc47 pm47 cd47 ct47 oc48 kV48 dc48 pm48 cd48 ct48 oc49 kV49 dc49 pm49 cd49 ct49 oc50 kV50 dc50 pm50 cd50 ct50 oc51 kV51 dc51 pm51 cd51 ct51 oc52 kV52 dc52 pm52 cd52 ct52 oc53 kV53 dc53 pm53 cd53 ct53 oc54 kV54 dc54 pm54 cd54 ct54 oc55 kV55 dc55 pm55 cd55 ct55 oc56 kV56 dc56 pm56 cd56 ct56 oc57 kV57 dc57 pm57 cd57 ct57 oc58 kV58 dc58 pm58 cd58 ct58 oc59 kV59 dc59 pm59 cd59 ct59 oc60 kV60 dc60 pm60 cd60 ct60 oc61 kV61 dc61 pm61 cd61 ct61 oc62 kV62 dc62 pm62 cd62 ct62:Value} (X:K.In h) (G:h.Ns mainGlobals mg) (hfa:mg "cost"=some (.ref fa)) (qCE:PySem.W.excIn K CE [.type "ValueError",.type "Exception",.type "BaseException",.type "object"] "ValueError.__new__"=true) (nl:(K.all fun p=>!(p.2.cls == .type "list"))=true)
  (aCR:PySem.W.nsIn K mainGlobals "Reader"=some (some (.ref CR)))
  (pgR:PySem.W.plainGet K CR Str.empty=true)
  (hdR:PySem.W.hasDictIn K CR=true)
  (poR:PySem.W.plainOver K CR=true)
  (saR:PySem.W.findIn K (.ref CR) "__setattr__"=some (some (.builtin "object.__setattr__")))
  (mkR:PySem.W.makesIn K CR=true)
  (kcR:PySem.W.keepIn K (.ref CR)=true)
  (nR_t:PySem.W.findIn K (.ref CR) "t"=some none)
  (nR_at:PySem.W.findIn K (.ref CR) "at"=some none)
  (aCW:PySem.W.nsIn K mainGlobals "Work"=some (some (.ref CW)))
  (pgW:PySem.W.plainGet K CW Str.empty=true)
  (hdW:PySem.W.hasDictIn K CW=true)
  (poW:PySem.W.plainOver K CW=true)
  (saW:PySem.W.findIn K (.ref CW) "__setattr__"=some (some (.builtin "object.__setattr__")))
  (mkW:PySem.W.makesIn K CW=true)
  (kcW:PySem.W.keepIn K (.ref CW)=true)
  (nW_width:PySem.W.findIn K (.ref CW) "width"=some none)
  (nW_height:PySem.W.findIn K (.ref CW) "height"=some none)
  (nW_indent:PySem.W.findIn K (.ref CW) "indent"=some none)
  (nW_every:PySem.W.findIn K (.ref CW) "every"=some none)
  (nW_anew:PySem.W.findIn K (.ref CW) "anew"=some none)
  (nW_loose:PySem.W.findIn K (.ref CW) "loose"=some none)
  (nW_rows:PySem.W.findIn K (.ref CW) "rows"=some none)
  (nW_head:PySem.W.findIn K (.ref CW) "head"=some none)
  (nW_paragraphs:PySem.W.findIn K (.ref CW) "paragraphs"=some none)
  (nW_words:PySem.W.findIn K (.ref CW) "words"=some none)
  (nW_signs:PySem.W.findIn K (.ref CW) "signs"=some none)
  (nW_entries:PySem.W.findIn K (.ref CW) "entries"=some none)
  (aCL:PySem.W.nsIn K mainGlobals "Line"=some (some (.ref CL)))
  (pgL:PySem.W.plainGet K CL Str.empty=true)
  (hdL:PySem.W.hasDictIn K CL=true)
  (poL:PySem.W.plainOver K CL=true)
  (saL:PySem.W.findIn K (.ref CL) "__setattr__"=some (some (.builtin "object.__setattr__")))
  (mkL:PySem.W.makesIn K CL=true)
  (kcL:PySem.W.keepIn K (.ref CL)=true)
  (nL_first:PySem.W.findIn K (.ref CL) "first"=some none)
  (nL_end:PySem.W.findIn K (.ref CL) "end"=some none)
  (nL_opens:PySem.W.findIn K (.ref CL) "opens"=some none)
  (nL_closes:PySem.W.findIn K (.ref CL) "closes"=some none)
  (nL_taken:PySem.W.findIn K (.ref CL) "taken"=some none)
  (nL_note:PySem.W.findIn K (.ref CL) "note"=some none)
  (aCN:PySem.W.nsIn K mainGlobals "Note"=some (some (.ref CN)))
  (pgN:PySem.W.plainGet K CN Str.empty=true)
  (hdN:PySem.W.hasDictIn K CN=true)
  (poN:PySem.W.plainOver K CN=true)
  (saN:PySem.W.findIn K (.ref CN) "__setattr__"=some (some (.builtin "object.__setattr__")))
  (mkN:PySem.W.makesIn K CN=true)
  (kcN:PySem.W.keepIn K (.ref CN)=true)
  (nN_things:PySem.W.findIn K (.ref CN) "things"=some none)
  (nN_takes:PySem.W.findIn K (.ref CN) "takes"=some none)
  (nN_tails:PySem.W.findIn K (.ref CN) "tails"=some none)
  (aCP:PySem.W.nsIn K mainGlobals "Page"=some (some (.ref CP)))
  (pgP:PySem.W.plainGet K CP Str.empty=true)
  (hdP:PySem.W.hasDictIn K CP=true)
  (poP:PySem.W.plainOver K CP=true)
  (saP:PySem.W.findIn K (.ref CP) "__setattr__"=some (some (.builtin "object.__setattr__")))
  (mkP:PySem.W.makesIn K CP=true)
  (kcP:PySem.W.keepIn K (.ref CP)=true)
  (nP_kind:PySem.W.findIn K (.ref CP) "kind"=some none)
  (nP_first:PySem.W.findIn K (.ref CP) "first"=some none)
  (nP_end:PySem.W.findIn K (.ref CP) "end"=some none)
  (nP_came:PySem.W.findIn K (.ref CP) "came"=some none)
  (nP_own:PySem.W.findIn K (.ref CP) "own"=some none)
  (nP_rest:PySem.W.findIn K (.ref CP) "rest"=some none)
  (nP_cost:PySem.W.findIn K (.ref CP) "cost"=some none)
  (aCE:PySem.W.nsIn K mainGlobals "NoText"=some (some (.ref CE)))
  (iBLANK:PySem.W.nsIn K mainGlobals "BLANK"=some (some (.int 32 tBLANK)))
  (iFIRST_LETTER:PySem.W.nsIn K mainGlobals "FIRST_LETTER"=some (some (.int 33 tFIRST_LETTER)))
  (iLAST_CHARACTER:PySem.W.nsIn K mainGlobals "LAST_CHARACTER"=some (some (.int 1114111 tLAST_CHARACTER)))
  (iWHOLE:PySem.W.nsIn K mainGlobals "WHOLE"=some (some (.int 0 tWHOLE)))
  (iCUT:PySem.W.nsIn K mainGlobals "CUT"=some (some (.int 1 tCUT)))
  (iFOOT_ALONE:PySem.W.nsIn K mainGlobals "FOOT_ALONE"=some (some (.int 2 tFOOT_ALONE)))
  (iNO_BYTE:PySem.W.nsIn K mainGlobals "NO_BYTE"=some (some (.int 256 tNO_BYTE)))
  (iMOST_ROWS:PySem.W.nsIn K mainGlobals "MOST_ROWS"=some (some (.int 64 tMOST_ROWS)))
  (iMOST_PARAGRAPHS:PySem.W.nsIn K mainGlobals "MOST_PARAGRAPHS"=some (some (.int 4096 tMOST_PARAGRAPHS)))
  (iMOST_WORDS:PySem.W.nsIn K mainGlobals "MOST_WORDS"=some (some (.int 8192 tMOST_WORDS)))
  (iMOST_SIGNS:PySem.W.nsIn K mainGlobals "MOST_SIGNS"=some (some (.int 4096 tMOST_SIGNS)))
  (iMOST_ENTRIES:PySem.W.nsIn K mainGlobals "MOST_ENTRIES"=some (some (.int 4096 tMOST_ENTRIES)))
  (iMOST_TOKENS:PySem.W.nsIn K mainGlobals "MOST_TOKENS"=some (some (.int 65536 tMOST_TOKENS)))
  (iMOST_TOKENS_OF_ENTRY:PySem.W.nsIn K mainGlobals "MOST_TOKENS_OF_ENTRY"=some (some (.int 1024 tMOST_TOKENS_OF_ENTRY)))
  (iMOST_LETTERS:PySem.W.nsIn K mainGlobals "MOST_LETTERS"=some (some (.int 64 tMOST_LETTERS)))
  (iMOST_SIGN_THINGS:PySem.W.nsIn K mainGlobals "MOST_SIGN_THINGS"=some (some (.int 4 tMOST_SIGN_THINGS)))
  (iMOST_SIGN_CHARACTERS:PySem.W.nsIn K mainGlobals "MOST_SIGN_CHARACTERS"=some (some (.int 16 tMOST_SIGN_CHARACTERS)))
  (iMOST_TEXT_BYTES:PySem.W.nsIn K mainGlobals "MOST_TEXT_BYTES"=some (some (.int 1048576 tMOST_TEXT_BYTES)))
  (gMARKS:PySem.W.nsIn K mainGlobals "MARKS"=some (some (.ref aMARKS)))
  (lMARKS:K.lookup aMARKS=some ⟨.type "tuple",dMARKS,.seq #[.int 124 uMARKS0,.int 47 uMARKS1,.int 40 uMARKS2,.int 41 uMARKS3,.int 91 uMARKS4,.int 93 uMARKS5,.int 60 uMARKS6,.int 62 uMARKS7,.int 123 uMARKS8,.int 125 uMARKS9,.int 61 uMARKS10,.int 43 uMARKS11,.int 126 uMARKS12,.int 94 uMARKS13,.int 35 uMARKS14,.int 34 uMARKS15] nMARKS,sMARKS⟩)
  (gSETTING_BOUNDS:PySem.W.nsIn K mainGlobals "SETTING_BOUNDS"=some (some (.ref aSETTING_BOUNDS)))
  (lSETTING_BOUNDS:K.lookup aSETTING_BOUNDS=some ⟨.type "tuple",dSETTING_BOUNDS,.seq #[.ref bSETTING_BOUNDS0,.ref bSETTING_BOUNDS1,.ref bSETTING_BOUNDS2,.ref bSETTING_BOUNDS3,.ref bSETTING_BOUNDS4,.ref bSETTING_BOUNDS5] nSETTING_BOUNDS,sSETTING_BOUNDS⟩)
  (lSETTING_BOUNDS0:K.lookup bSETTING_BOUNDS0=some ⟨.type "tuple",dSETTING_BOUNDS0,.seq #[.int 20 uSETTING_BOUNDS0_0,.int 240 uSETTING_BOUNDS0_1] nSETTING_BOUNDS0,sSETTING_BOUNDS0⟩)
  (lSETTING_BOUNDS1:K.lookup bSETTING_BOUNDS1=some ⟨.type "tuple",dSETTING_BOUNDS1,.seq #[.int 6 uSETTING_BOUNDS1_0,.int 240 uSETTING_BOUNDS1_1] nSETTING_BOUNDS1,sSETTING_BOUNDS1⟩)
  (lSETTING_BOUNDS2:K.lookup bSETTING_BOUNDS2=some ⟨.type "tuple",dSETTING_BOUNDS2,.seq #[.int 1 uSETTING_BOUNDS2_0,.int 16 uSETTING_BOUNDS2_1] nSETTING_BOUNDS2,sSETTING_BOUNDS2⟩)
  (lSETTING_BOUNDS3:K.lookup bSETTING_BOUNDS3=some ⟨.type "tuple",dSETTING_BOUNDS3,.seq #[.int 1 uSETTING_BOUNDS3_0,.int 100 uSETTING_BOUNDS3_1] nSETTING_BOUNDS3,sSETTING_BOUNDS3⟩)
  (lSETTING_BOUNDS4:K.lookup bSETTING_BOUNDS4=some ⟨.type "tuple",dSETTING_BOUNDS4,.seq #[.int 0 uSETTING_BOUNDS4_0,.int 1 uSETTING_BOUNDS4_1] nSETTING_BOUNDS4,sSETTING_BOUNDS4⟩)
  (lSETTING_BOUNDS5:K.lookup bSETTING_BOUNDS5=some ⟨.type "tuple",dSETTING_BOUNDS5,.seq #[.int 0 uSETTING_BOUNDS5_0,.int 10000 uSETTING_BOUNDS5_1] nSETTING_BOUNDS5,sSETTING_BOUNDS5⟩)
  (gCARET:PySem.W.nsIn K mainGlobals "CARET"=some (some (.ref aCARET)))
  (lCARET:K.lookup aCARET=some ⟨.type "tuple",dCARET,.seq #[.int 94 uCARET0] nCARET,sCARET⟩)
  (bl_len:PySem.W.nsIn K mainGlobals "len"=some none)
  (bl_ord:PySem.W.nsIn K mainGlobals "ord"=some none)
  (bl_min:PySem.W.nsIn K mainGlobals "min"=some none)
  (bl_max:PySem.W.nsIn K mainGlobals "max"=some none)
  (bl_range:PySem.W.nsIn K mainGlobals "range"=some none)
  (bl_enumerate:PySem.W.nsIn K mainGlobals "enumerate"=some none)
  (bl_str:PySem.W.nsIn K mainGlobals "str"=some none)
  (bl_list:PySem.W.nsIn K mainGlobals "list"=some none)
  (bl_sum:PySem.W.nsIn K mainGlobals "sum"=some none)
  (a_is_letter:PySem.W.nsIn K mainGlobals "is_letter"=some (some (.ref f0)))
  (l_is_letter:K.lookup f0=some ⟨oc0,od0,.func (PySem.W.fnOf "is_letter" "is_letter" (defArgs s_is_letter) (defBody s_is_letter) (defScope s_is_letter) .none kV0 dc0 pm0 an0 cd0 ct0),sl0⟩)
  (c_is_letter:PySem.W.codeIn K cd0 "is_letter"=true)
  (k_is_letter:PySem.W.keepIn K (.ref f0)=true)
  (a_begins_some:PySem.W.nsIn K mainGlobals "begins_some"=some (some (.ref f1)))
  (l_begins_some:K.lookup f1=some ⟨oc1,od1,.func (PySem.W.fnOf "begins_some" "begins_some" (defArgs s_begins_some) (defBody s_begins_some) (defScope s_begins_some) .none kV1 dc1 pm1 an1 cd1 ct1),sl1⟩)
  (c_begins_some:PySem.W.codeIn K cd1 "begins_some"=true)
  (k_begins_some:PySem.W.keepIn K (.ref f1)=true)
  (a_size_by_lead:PySem.W.nsIn K mainGlobals "size_by_lead"=some (some (.ref f2)))
  (l_size_by_lead:K.lookup f2=some ⟨oc2,od2,.func (PySem.W.fnOf "size_by_lead" "size_by_lead" (defArgs s_size_by_lead) (defBody s_size_by_lead) (defScope s_size_by_lead) .none kV2 dc2 pm2 an2 cd2 ct2),sl2⟩)
  (c_size_by_lead:PySem.W.codeIn K cd2 "size_by_lead"=true)
  (k_size_by_lead:PySem.W.keepIn K (.ref f2)=true)
  (a_bounds_behind:PySem.W.nsIn K mainGlobals "bounds_behind"=some (some (.ref f3)))
  (l_bounds_behind:K.lookup f3=some ⟨oc3,od3,.func (PySem.W.fnOf "bounds_behind" "bounds_behind" (defArgs s_bounds_behind) (defBody s_bounds_behind) (defScope s_bounds_behind) .none kV3 dc3 pm3 an3 cd3 ct3),sl3⟩)
  (c_bounds_behind:PySem.W.codeIn K cd3 "bounds_behind"=true)
  (k_bounds_behind:PySem.W.keepIn K (.ref f3)=true)
  (a_Reader_init:PySem.W.findIn K (.ref CR) "__init__"=some (some (.ref f4)))
  (i_Reader_init:PySem.W.isFn K (.ref f4)=true)
  (l_Reader_init:K.lookup f4=some ⟨oc4,od4,.func (PySem.W.fnOf "__init__" "Reader.__init__" (defArgs s_Reader_init) (defBody s_Reader_init) (defScope s_Reader_init) .none kV4 dc4 pm4 an4 cd4 ct4),sl4⟩)
  (c_Reader_init:PySem.W.codeIn K cd4 "Reader.__init__"=true)
  (k_Reader_init:PySem.W.keepIn K (.ref f4)=true)
  (a_Reader_peek:PySem.W.findIn K (.ref CR) "peek"=some (some (.ref f5)))
  (i_Reader_peek:PySem.W.isFn K (.ref f5)=true)
  (l_Reader_peek:K.lookup f5=some ⟨oc5,od5,.func (PySem.W.fnOf "peek" "Reader.peek" (defArgs s_Reader_peek) (defBody s_Reader_peek) (defScope s_Reader_peek) .none kV5 dc5 pm5 an5 cd5 ct5),sl5⟩)
  (c_Reader_peek:PySem.W.codeIn K cd5 "Reader.peek"=true)
  (k_Reader_peek:PySem.W.keepIn K (.ref f5)=true)
  (a_Reader_sees:PySem.W.findIn K (.ref CR) "sees"=some (some (.ref f6)))
  (i_Reader_sees:PySem.W.isFn K (.ref f6)=true)
  (l_Reader_sees:K.lookup f6=some ⟨oc6,od6,.func (PySem.W.fnOf "sees" "Reader.sees" (defArgs s_Reader_sees) (defBody s_Reader_sees) (defScope s_Reader_sees) .none kV6 dc6 pm6 an6 cd6 ct6),sl6⟩)
  (c_Reader_sees:PySem.W.codeIn K cd6 "Reader.sees"=true)
  (k_Reader_sees:PySem.W.keepIn K (.ref f6)=true)
  (a_Reader_take:PySem.W.findIn K (.ref CR) "take"=some (some (.ref f7)))
  (i_Reader_take:PySem.W.isFn K (.ref f7)=true)
  (l_Reader_take:K.lookup f7=some ⟨oc7,od7,.func (PySem.W.fnOf "take" "Reader.take" (defArgs s_Reader_take) (defBody s_Reader_take) (defScope s_Reader_take) .none kV7 dc7 pm7 an7 cd7 ct7),sl7⟩)
  (c_Reader_take:PySem.W.codeIn K cd7 "Reader.take"=true)
  (k_Reader_take:PySem.W.keepIn K (.ref f7)=true)
  (a_Reader_take_end:PySem.W.findIn K (.ref CR) "take_end"=some (some (.ref f8)))
  (i_Reader_take_end:PySem.W.isFn K (.ref f8)=true)
  (l_Reader_take_end:K.lookup f8=some ⟨oc8,od8,.func (PySem.W.fnOf "take_end" "Reader.take_end" (defArgs s_Reader_take_end) (defBody s_Reader_take_end) (defScope s_Reader_take_end) .none kV8 dc8 pm8 an8 cd8 ct8),sl8⟩)
  (c_Reader_take_end:PySem.W.codeIn K cd8 "Reader.take_end"=true)
  (k_Reader_take_end:PySem.W.keepIn K (.ref f8)=true)
  (a_Reader_take_digit:PySem.W.findIn K (.ref CR) "take_digit"=some (some (.ref f9)))
  (i_Reader_take_digit:PySem.W.isFn K (.ref f9)=true)
  (l_Reader_take_digit:K.lookup f9=some ⟨oc9,od9,.func (PySem.W.fnOf "take_digit" "Reader.take_digit" (defArgs s_Reader_take_digit) (defBody s_Reader_take_digit) (defScope s_Reader_take_digit) .none kV9 dc9 pm9 an9 cd9 ct9),sl9⟩)
  (c_Reader_take_digit:PySem.W.codeIn K cd9 "Reader.take_digit"=true)
  (k_Reader_take_digit:PySem.W.keepIn K (.ref f9)=true)
  (a_Reader_take_number:PySem.W.findIn K (.ref CR) "take_number"=some (some (.ref f10)))
  (i_Reader_take_number:PySem.W.isFn K (.ref f10)=true)
  (l_Reader_take_number:K.lookup f10=some ⟨oc10,od10,.func (PySem.W.fnOf "take_number" "Reader.take_number" (defArgs s_Reader_take_number) (defBody s_Reader_take_number) (defScope s_Reader_take_number) .none kV10 dc10 pm10 an10 cd10 ct10),sl10⟩)
  (c_Reader_take_number:PySem.W.codeIn K cd10 "Reader.take_number"=true)
  (k_Reader_take_number:PySem.W.keepIn K (.ref f10)=true)
  (a_Reader_take_long_letter:PySem.W.findIn K (.ref CR) "take_long_letter"=some (some (.ref f11)))
  (i_Reader_take_long_letter:PySem.W.isFn K (.ref f11)=true)
  (l_Reader_take_long_letter:K.lookup f11=some ⟨oc11,od11,.func (PySem.W.fnOf "take_long_letter" "Reader.take_long_letter" (defArgs s_Reader_take_long_letter) (defBody s_Reader_take_long_letter) (defScope s_Reader_take_long_letter) .none kV11 dc11 pm11 an11 cd11 ct11),sl11⟩)
  (c_Reader_take_long_letter:PySem.W.codeIn K cd11 "Reader.take_long_letter"=true)
  (k_Reader_take_long_letter:PySem.W.keepIn K (.ref f11)=true)
  (a_Reader_take_character:PySem.W.findIn K (.ref CR) "take_character"=some (some (.ref f12)))
  (i_Reader_take_character:PySem.W.isFn K (.ref f12)=true)
  (l_Reader_take_character:K.lookup f12=some ⟨oc12,od12,.func (PySem.W.fnOf "take_character" "Reader.take_character" (defArgs s_Reader_take_character) (defBody s_Reader_take_character) (defScope s_Reader_take_character) .none kV12 dc12 pm12 an12 cd12 ct12),sl12⟩)
  (c_Reader_take_character:PySem.W.codeIn K cd12 "Reader.take_character"=true)
  (k_Reader_take_character:PySem.W.keepIn K (.ref f12)=true)
  (a_Reader_take_thing:PySem.W.findIn K (.ref CR) "take_thing"=some (some (.ref f13)))
  (i_Reader_take_thing:PySem.W.isFn K (.ref f13)=true)
  (l_Reader_take_thing:K.lookup f13=some ⟨oc13,od13,.func (PySem.W.fnOf "take_thing" "Reader.take_thing" (defArgs s_Reader_take_thing) (defBody s_Reader_take_thing) (defScope s_Reader_take_thing) .none kV13 dc13 pm13 an13 cd13 ct13),sl13⟩)
  (c_Reader_take_thing:PySem.W.codeIn K cd13 "Reader.take_thing"=true)
  (k_Reader_take_thing:PySem.W.keepIn K (.ref f13)=true)
  (a_Reader_take_things:PySem.W.findIn K (.ref CR) "take_things"=some (some (.ref f14)))
  (i_Reader_take_things:PySem.W.isFn K (.ref f14)=true)
  (l_Reader_take_things:K.lookup f14=some ⟨oc14,od14,.func (PySem.W.fnOf "take_things" "Reader.take_things" (defArgs s_Reader_take_things) (defBody s_Reader_take_things) (defScope s_Reader_take_things) .none kV14 dc14 pm14 an14 cd14 ct14),sl14⟩)
  (c_Reader_take_things:PySem.W.codeIn K cd14 "Reader.take_things"=true)
  (k_Reader_take_things:PySem.W.keepIn K (.ref f14)=true)
  (a_joined:PySem.W.nsIn K mainGlobals "joined"=some (some (.ref f15)))
  (l_joined:K.lookup f15=some ⟨oc15,od15,.func (PySem.W.fnOf "joined" "joined" (defArgs s_joined) (defBody s_joined) (defScope s_joined) .none kV15 dc15 pm15 an15 cd15 ct15),sl15⟩)
  (c_joined:PySem.W.codeIn K cd15 "joined"=true)
  (k_joined:PySem.W.keepIn K (.ref f15)=true)
  (a_Work_init:PySem.W.findIn K (.ref CW) "__init__"=some (some (.ref f16)))
  (i_Work_init:PySem.W.isFn K (.ref f16)=true)
  (l_Work_init:K.lookup f16=some ⟨oc16,od16,.func (PySem.W.fnOf "__init__" "Work.__init__" (defArgs s_Work_init) (defBody s_Work_init) (defScope s_Work_init) .none kV16 dc16 pm16 an16 cd16 ct16),sl16⟩)
  (c_Work_init:PySem.W.codeIn K cd16 "Work.__init__"=true)
  (k_Work_init:PySem.W.keepIn K (.ref f16)=true)
  (a_read_settings:PySem.W.nsIn K mainGlobals "read_settings"=some (some (.ref f17)))
  (l_read_settings:K.lookup f17=some ⟨oc17,od17,.func (PySem.W.fnOf "read_settings" "read_settings" (defArgs s_read_settings) (defBody s_read_settings) (defScope s_read_settings) .none kV17 dc17 pm17 an17 cd17 ct17),sl17⟩)
  (c_read_settings:PySem.W.codeIn K cd17 "read_settings"=true)
  (k_read_settings:PySem.W.keepIn K (.ref f17)=true)
  (a_read_rows:PySem.W.nsIn K mainGlobals "read_rows"=some (some (.ref f18)))
  (l_read_rows:K.lookup f18=some ⟨oc18,od18,.func (PySem.W.fnOf "read_rows" "read_rows" (defArgs s_read_rows) (defBody s_read_rows) (defScope s_read_rows) .none kV18 dc18 pm18 an18 cd18 ct18),sl18⟩)
  (c_read_rows:PySem.W.codeIn K cd18 "read_rows"=true)
  (k_read_rows:PySem.W.keepIn K (.ref f18)=true)
  (a_read_paragraphs:PySem.W.nsIn K mainGlobals "read_paragraphs"=some (some (.ref f19)))
  (l_read_paragraphs:K.lookup f19=some ⟨oc19,od19,.func (PySem.W.fnOf "read_paragraphs" "read_paragraphs" (defArgs s_read_paragraphs) (defBody s_read_paragraphs) (defScope s_read_paragraphs) .none kV19 dc19 pm19 an19 cd19 ct19),sl19⟩)
  (c_read_paragraphs:PySem.W.codeIn K cd19 "read_paragraphs"=true)
  (k_read_paragraphs:PySem.W.keepIn K (.ref f19)=true)
  (a_read_tokens:PySem.W.nsIn K mainGlobals "read_tokens"=some (some (.ref f20)))
  (l_read_tokens:K.lookup f20=some ⟨oc20,od20,.func (PySem.W.fnOf "read_tokens" "read_tokens" (defArgs s_read_tokens) (defBody s_read_tokens) (defScope s_read_tokens) .none kV20 dc20 pm20 an20 cd20 ct20),sl20⟩)
  (c_read_tokens:PySem.W.codeIn K cd20 "read_tokens"=true)
  (k_read_tokens:PySem.W.keepIn K (.ref f20)=true)
  (a_read_entries:PySem.W.nsIn K mainGlobals "read_entries"=some (some (.ref f21)))
  (l_read_entries:K.lookup f21=some ⟨oc21,od21,.func (PySem.W.fnOf "read_entries" "read_entries" (defArgs s_read_entries) (defBody s_read_entries) (defScope s_read_entries) .none kV21 dc21 pm21 an21 cd21 ct21),sl21⟩)
  (c_read_entries:PySem.W.codeIn K cd21 "read_entries"=true)
  (k_read_entries:PySem.W.keepIn K (.ref f21)=true)
  (a_read_signs:PySem.W.nsIn K mainGlobals "read_signs"=some (some (.ref f22)))
  (l_read_signs:K.lookup f22=some ⟨oc22,od22,.func (PySem.W.fnOf "read_signs" "read_signs" (defArgs s_read_signs) (defBody s_read_signs) (defScope s_read_signs) .none kV22 dc22 pm22 an22 cd22 ct22),sl22⟩)
  (c_read_signs:PySem.W.codeIn K cd22 "read_signs"=true)
  (k_read_signs:PySem.W.keepIn K (.ref f22)=true)
  (a_read_work:PySem.W.nsIn K mainGlobals "read_work"=some (some (.ref f23)))
  (l_read_work:K.lookup f23=some ⟨oc23,od23,.func (PySem.W.fnOf "read_work" "read_work" (defArgs s_read_work) (defBody s_read_work) (defScope s_read_work) .none kV23 dc23 pm23 an23 cd23 ct23),sl23⟩)
  (c_read_work:PySem.W.codeIn K cd23 "read_work"=true)
  (k_read_work:PySem.W.keepIn K (.ref f23)=true)
  (a_cells:PySem.W.nsIn K mainGlobals "cells"=some (some (.ref f24)))
  (l_cells:K.lookup f24=some ⟨oc24,od24,.func (PySem.W.fnOf "cells" "cells" (defArgs s_cells) (defBody s_cells) (defScope s_cells) .none kV24 dc24 pm24 an24 cd24 ct24),sl24⟩)
  (c_cells:PySem.W.codeIn K cd24 "cells"=true)
  (k_cells:PySem.W.keepIn K (.ref f24)=true)
  (a_cells_of_thing:PySem.W.nsIn K mainGlobals "cells_of_thing"=some (some (.ref f25)))
  (l_cells_of_thing:K.lookup f25=some ⟨oc25,od25,.func (PySem.W.fnOf "cells_of_thing" "cells_of_thing" (defArgs s_cells_of_thing) (defBody s_cells_of_thing) (defScope s_cells_of_thing) .none kV25 dc25 pm25 an25 cd25 ct25),sl25⟩)
  (c_cells_of_thing:PySem.W.codeIn K cd25 "cells_of_thing"=true)
  (k_cells_of_thing:PySem.W.keepIn K (.ref f25)=true)
  (a_characters_of:PySem.W.nsIn K mainGlobals "characters_of"=some (some (.ref f26)))
  (l_characters_of:K.lookup f26=some ⟨oc26,od26,.func (PySem.W.fnOf "characters_of" "characters_of" (defArgs s_characters_of) (defBody s_characters_of) (defScope s_characters_of) .none kV26 dc26 pm26 an26 cd26 ct26),sl26⟩)
  (c_characters_of:PySem.W.codeIn K cd26 "characters_of"=true)
  (k_characters_of:PySem.W.keepIn K (.ref f26)=true)
  (a_line_cost:PySem.W.nsIn K mainGlobals "line_cost"=some (some (.ref f27)))
  (l_line_cost:K.lookup f27=some ⟨oc27,od27,.func (PySem.W.fnOf "line_cost" "line_cost" (defArgs s_line_cost) (defBody s_line_cost) (defScope s_line_cost) .none kV27 dc27 pm27 an27 cd27 ct27),sl27⟩)
  (c_line_cost:PySem.W.codeIn K cd27 "line_cost"=true)
  (k_line_cost:PySem.W.keepIn K (.ref f27)=true)
  (a_best_from:PySem.W.nsIn K mainGlobals "best_from"=some (some (.ref f28)))
  (l_best_from:K.lookup f28=some ⟨oc28,od28,.func (PySem.W.fnOf "best_from" "best_from" (defArgs s_best_from) (defBody s_best_from) (defScope s_best_from) .none kV28 dc28 pm28 an28 cd28 ct28),sl28⟩)
  (c_best_from:PySem.W.codeIn K cd28 "best_from"=true)
  (k_best_from:PySem.W.keepIn K (.ref f28)=true)
  (a_tails_of:PySem.W.nsIn K mainGlobals "tails_of"=some (some (.ref f29)))
  (l_tails_of:K.lookup f29=some ⟨oc29,od29,.func (PySem.W.fnOf "tails_of" "tails_of" (defArgs s_tails_of) (defBody s_tails_of) (defScope s_tails_of) .none kV29 dc29 pm29 an29 cd29 ct29),sl29⟩)
  (c_tails_of:PySem.W.codeIn K cd29 "tails_of"=true)
  (k_tails_of:PySem.W.keepIn K (.ref f29)=true)
  (a_ends_of:PySem.W.nsIn K mainGlobals "ends_of"=some (some (.ref f30)))
  (l_ends_of:K.lookup f30=some ⟨oc30,od30,.func (PySem.W.fnOf "ends_of" "ends_of" (defArgs s_ends_of) (defBody s_ends_of) (defScope s_ends_of) .none kV30 dc30 pm30 an30 cd30 ct30),sl30⟩)
  (c_ends_of:PySem.W.codeIn K cd30 "ends_of"=true)
  (k_ends_of:PySem.W.keepIn K (.ref f30)=true)
  (a_place_among_like:PySem.W.nsIn K mainGlobals "place_among_like"=some (some (.ref f31)))
  (l_place_among_like:K.lookup f31=some ⟨oc31,od31,.func (PySem.W.fnOf "place_among_like" "place_among_like" (defArgs s_place_among_like) (defBody s_place_among_like) (defScope s_place_among_like) .none kV31 dc31 pm31 an31 cd31 ct31),sl31⟩)
  (c_place_among_like:PySem.W.codeIn K cd31 "place_among_like"=true)
  (k_place_among_like:PySem.W.keepIn K (.ref f31)=true)
  (a_key_of:PySem.W.nsIn K mainGlobals "key_of"=some (some (.ref f32)))
  (l_key_of:K.lookup f32=some ⟨oc32,od32,.func (PySem.W.fnOf "key_of" "key_of" (defArgs s_key_of) (defBody s_key_of) (defScope s_key_of) .none kV32 dc32 pm32 an32 cd32 ct32),sl32⟩)
  (c_key_of:PySem.W.codeIn K cd32 "key_of"=true)
  (k_key_of:PySem.W.keepIn K (.ref f32)=true)
  (a_number_thing:PySem.W.nsIn K mainGlobals "number_thing"=some (some (.ref f33)))
  (l_number_thing:K.lookup f33=some ⟨oc33,od33,.func (PySem.W.fnOf "number_thing" "number_thing" (defArgs s_number_thing) (defBody s_number_thing) (defScope s_number_thing) .none kV33 dc33 pm33 an33 cd33 ct33),sl33⟩)
  (c_number_thing:PySem.W.codeIn K cd33 "number_thing"=true)
  (k_number_thing:PySem.W.keepIn K (.ref f33)=true)
  (a_first_room:PySem.W.nsIn K mainGlobals "first_room"=some (some (.ref f34)))
  (l_first_room:K.lookup f34=some ⟨oc34,od34,.func (PySem.W.fnOf "first_room" "first_room" (defArgs s_first_room) (defBody s_first_room) (defScope s_first_room) .none kV34 dc34 pm34 an34 cd34 ct34),sl34⟩)
  (c_first_room:PySem.W.codeIn K cd34 "first_room"=true)
  (k_first_room:PySem.W.keepIn K (.ref f34)=true)
  (a_Note_init:PySem.W.findIn K (.ref CN) "__init__"=some (some (.ref f35)))
  (i_Note_init:PySem.W.isFn K (.ref f35)=true)
  (l_Note_init:K.lookup f35=some ⟨oc35,od35,.func (PySem.W.fnOf "__init__" "Note.__init__" (defArgs s_Note_init) (defBody s_Note_init) (defScope s_Note_init) .none kV35 dc35 pm35 an35 cd35 ct35),sl35⟩)
  (c_Note_init:PySem.W.codeIn K cd35 "Note.__init__"=true)
  (k_Note_init:PySem.W.keepIn K (.ref f35)=true)
  (a_count_foot_lines:PySem.W.nsIn K mainGlobals "count_foot_lines"=some (some (.ref f36)))
  (l_count_foot_lines:K.lookup f36=some ⟨oc36,od36,.func (PySem.W.fnOf "count_foot_lines" "count_foot_lines" (defArgs s_count_foot_lines) (defBody s_count_foot_lines) (defScope s_count_foot_lines) .none kV36 dc36 pm36 an36 cd36 ct36),sl36⟩)
  (c_count_foot_lines:PySem.W.codeIn K cd36 "count_foot_lines"=true)
  (k_count_foot_lines:PySem.W.keepIn K (.ref f36)=true)
  (a_Line_init:PySem.W.findIn K (.ref CL) "__init__"=some (some (.ref f37)))
  (i_Line_init:PySem.W.isFn K (.ref f37)=true)
  (l_Line_init:K.lookup f37=some ⟨oc37,od37,.func (PySem.W.fnOf "__init__" "Line.__init__" (defArgs s_Line_init) (defBody s_Line_init) (defScope s_Line_init) .none kV37 dc37 pm37 an37 cd37 ct37),sl37⟩)
  (c_Line_init:PySem.W.codeIn K cd37 "Line.__init__"=true)
  (k_Line_init:PySem.W.keepIn K (.ref f37)=true)
  (a_word_takes:PySem.W.nsIn K mainGlobals "word_takes"=some (some (.ref f38)))
  (l_word_takes:K.lookup f38=some ⟨oc38,od38,.func (PySem.W.fnOf "word_takes" "word_takes" (defArgs s_word_takes) (defBody s_word_takes) (defScope s_word_takes) .none kV38 dc38 pm38 an38 cd38 ct38),sl38⟩)
  (c_word_takes:PySem.W.codeIn K cd38 "word_takes"=true)
  (k_word_takes:PySem.W.keepIn K (.ref f38)=true)
  (a_room_of:PySem.W.nsIn K mainGlobals "room_of"=some (some (.ref f39)))
  (l_room_of:K.lookup f39=some ⟨oc39,od39,.func (PySem.W.fnOf "room_of" "room_of" (defArgs s_room_of) (defBody s_room_of) (defScope s_room_of) .none kV39 dc39 pm39 an39 cd39 ct39),sl39⟩)
  (c_room_of:PySem.W.codeIn K cd39 "room_of"=true)
  (k_room_of:PySem.W.keepIn K (.ref f39)=true)
  (a_lines_of_paragraph:PySem.W.nsIn K mainGlobals "lines_of_paragraph"=some (some (.ref f40)))
  (l_lines_of_paragraph:K.lookup f40=some ⟨oc40,od40,.func (PySem.W.fnOf "lines_of_paragraph" "lines_of_paragraph" (defArgs s_lines_of_paragraph) (defBody s_lines_of_paragraph) (defScope s_lines_of_paragraph) .none kV40 dc40 pm40 an40 cd40 ct40),sl40⟩)
  (c_lines_of_paragraph:PySem.W.codeIn K cd40 "lines_of_paragraph"=true)
  (k_lines_of_paragraph:PySem.W.keepIn K (.ref f40)=true)
  (a_things_of_notes:PySem.W.nsIn K mainGlobals "things_of_notes"=some (some (.ref f41)))
  (l_things_of_notes:K.lookup f41=some ⟨oc41,od41,.func (PySem.W.fnOf "things_of_notes" "things_of_notes" (defArgs s_things_of_notes) (defBody s_things_of_notes) (defScope s_things_of_notes) .none kV41 dc41 pm41 an41 cd41 ct41),sl41⟩)
  (c_things_of_notes:PySem.W.codeIn K cd41 "things_of_notes"=true)
  (k_things_of_notes:PySem.W.keepIn K (.ref f41)=true)
  (a_lines_of:PySem.W.nsIn K mainGlobals "lines_of"=some (some (.ref f42)))
  (l_lines_of:K.lookup f42=some ⟨oc42,od42,.func (PySem.W.fnOf "lines_of" "lines_of" (defArgs s_lines_of) (defBody s_lines_of) (defScope s_lines_of) .none kV42 dc42 pm42 an42 cd42 ct42),sl42⟩)
  (c_lines_of:PySem.W.codeIn K cd42 "lines_of"=true)
  (k_lines_of:PySem.W.keepIn K (.ref f42)=true)
  (a_Page_init:PySem.W.findIn K (.ref CP) "__init__"=some (some (.ref f43)))
  (i_Page_init:PySem.W.isFn K (.ref f43)=true)
  (l_Page_init:K.lookup f43=some ⟨oc43,od43,.func (PySem.W.fnOf "__init__" "Page.__init__" (defArgs s_Page_init) (defBody s_Page_init) (defScope s_Page_init) .none kV43 dc43 pm43 an43 cd43 ct43),sl43⟩)
  (c_Page_init:PySem.W.codeIn K cd43 "Page.__init__"=true)
  (k_Page_init:PySem.W.keepIn K (.ref f43)=true)
  (a_number_of_line:PySem.W.nsIn K mainGlobals "number_of_line"=some (some (.ref f44)))
  (l_number_of_line:K.lookup f44=some ⟨oc44,od44,.func (PySem.W.fnOf "number_of_line" "number_of_line" (defArgs s_number_of_line) (defBody s_number_of_line) (defScope s_number_of_line) .none kV44 dc44 pm44 an44 cd44 ct44),sl44⟩)
  (c_number_of_line:PySem.W.codeIn K cd44 "number_of_line"=true)
  (k_number_of_line:PySem.W.keepIn K (.ref f44)=true)
  (a_own_foot_lines:PySem.W.nsIn K mainGlobals "own_foot_lines"=some (some (.ref f45)))
  (l_own_foot_lines:K.lookup f45=some ⟨oc45,od45,.func (PySem.W.fnOf "own_foot_lines" "own_foot_lines" (defArgs s_own_foot_lines) (defBody s_own_foot_lines) (defScope s_own_foot_lines) .none kV45 dc45 pm45 an45 cd45 ct45),sl45⟩)
  (c_own_foot_lines:PySem.W.codeIn K cd45 "own_foot_lines"=true)
  (k_own_foot_lines:PySem.W.keepIn K (.ref f45)=true)
  (a_wanted:PySem.W.nsIn K mainGlobals "wanted"=some (some (.ref f46)))
  (l_wanted:K.lookup f46=some ⟨oc46,od46,.func (PySem.W.fnOf "wanted" "wanted" (defArgs s_wanted) (defBody s_wanted) (defScope s_wanted) .none kV46 dc46 pm46 an46 cd46 ct46),sl46⟩)
  (c_wanted:PySem.W.codeIn K cd46 "wanted"=true)
  (k_wanted:PySem.W.keepIn K (.ref f46)=true)
  (a_whole_pages:PySem.W.nsIn K mainGlobals "whole_pages"=some (some (.ref f47)))
  (l_whole_pages:K.lookup f47=some ⟨oc47,od47,.func (PySem.W.fnOf "whole_pages" "whole_pages" (defArgs s_whole_pages) (defBody s_whole_pages) (defScope s_whole_pages) .none kV47 dc47 pm47 an47 cd47 ct47),sl47⟩)
  (c_whole_pages:PySem.W.codeIn K cd47 "whole_pages"=true)
  (k_whole_pages:PySem.W.keepIn K (.ref f47)=true)
  (a_may_be_whole:PySem.W.nsIn K mainGlobals "may_be_whole"=some (some (.ref f48)))
  (l_may_be_whole:K.lookup f48=some ⟨oc48,od48,.func (PySem.W.fnOf "may_be_whole" "may_be_whole" (defArgs s_may_be_whole) (defBody s_may_be_whole) (defScope s_may_be_whole) .none kV48 dc48 pm48 an48 cd48 ct48),sl48⟩)
  (c_may_be_whole:PySem.W.codeIn K cd48 "may_be_whole"=true)
  (k_may_be_whole:PySem.W.keepIn K (.ref f48)=true)
  (a_loose_cost:PySem.W.nsIn K mainGlobals "loose_cost"=some (some (.ref f49)))
  (l_loose_cost:K.lookup f49=some ⟨oc49,od49,.func (PySem.W.fnOf "loose_cost" "loose_cost" (defArgs s_loose_cost) (defBody s_loose_cost) (defScope s_loose_cost) .none kV49 dc49 pm49 an49 cd49 ct49),sl49⟩)
  (c_loose_cost:PySem.W.codeIn K cd49 "loose_cost"=true)
  (k_loose_cost:PySem.W.keepIn K (.ref f49)=true)
  (a_whole_cost:PySem.W.nsIn K mainGlobals "whole_cost"=some (some (.ref f50)))
  (l_whole_cost:K.lookup f50=some ⟨oc50,od50,.func (PySem.W.fnOf "whole_cost" "whole_cost" (defArgs s_whole_cost) (defBody s_whole_cost) (defScope s_whole_cost) .none kV50 dc50 pm50 an50 cd50 ct50),sl50⟩)
  (c_whole_cost:PySem.W.codeIn K cd50 "whole_cost"=true)
  (k_whole_cost:PySem.W.keepIn K (.ref f50)=true)
  (a_best_whole:PySem.W.nsIn K mainGlobals "best_whole"=some (some (.ref f51)))
  (l_best_whole:K.lookup f51=some ⟨oc51,od51,.func (PySem.W.fnOf "best_whole" "best_whole" (defArgs s_best_whole) (defBody s_best_whole) (defScope s_best_whole) .none kV51 dc51 pm51 an51 cd51 ct51),sl51⟩)
  (c_best_whole:PySem.W.codeIn K cd51 "best_whole"=true)
  (k_best_whole:PySem.W.keepIn K (.ref f51)=true)
  (a_whole_page:PySem.W.nsIn K mainGlobals "whole_page"=some (some (.ref f52)))
  (l_whole_page:K.lookup f52=some ⟨oc52,od52,.func (PySem.W.fnOf "whole_page" "whole_page" (defArgs s_whole_page) (defBody s_whole_page) (defScope s_whole_page) .none kV52 dc52 pm52 an52 cd52 ct52),sl52⟩)
  (c_whole_page:PySem.W.codeIn K cd52 "whole_page"=true)
  (k_whole_page:PySem.W.keepIn K (.ref f52)=true)
  (a_cut_page:PySem.W.nsIn K mainGlobals "cut_page"=some (some (.ref f53)))
  (l_cut_page:K.lookup f53=some ⟨oc53,od53,.func (PySem.W.fnOf "cut_page" "cut_page" (defArgs s_cut_page) (defBody s_cut_page) (defScope s_cut_page) .none kV53 dc53 pm53 an53 cd53 ct53),sl53⟩)
  (c_cut_page:PySem.W.codeIn K cd53 "cut_page"=true)
  (k_cut_page:PySem.W.keepIn K (.ref f53)=true)
  (a_foot_alone:PySem.W.nsIn K mainGlobals "foot_alone"=some (some (.ref f54)))
  (l_foot_alone:K.lookup f54=some ⟨oc54,od54,.func (PySem.W.fnOf "foot_alone" "foot_alone" (defArgs s_foot_alone) (defBody s_foot_alone) (defScope s_foot_alone) .none kV54 dc54 pm54 an54 cd54 ct54),sl54⟩)
  (c_foot_alone:PySem.W.codeIn K cd54 "foot_alone"=true)
  (k_foot_alone:PySem.W.keepIn K (.ref f54)=true)
  (a_forced_page:PySem.W.nsIn K mainGlobals "forced_page"=some (some (.ref f55)))
  (l_forced_page:K.lookup f55=some ⟨oc55,od55,.func (PySem.W.fnOf "forced_page" "forced_page" (defArgs s_forced_page) (defBody s_forced_page) (defScope s_forced_page) .none kV55 dc55 pm55 an55 cd55 ct55),sl55⟩)
  (c_forced_page:PySem.W.codeIn K cd55 "forced_page"=true)
  (k_forced_page:PySem.W.keepIn K (.ref f55)=true)
  (a_cost_from:PySem.W.nsIn K mainGlobals "cost_from"=some (some (.ref f56)))
  (l_cost_from:K.lookup f56=some ⟨oc56,od56,.func (PySem.W.fnOf "cost_from" "cost_from" (defArgs s_cost_from) (defBody s_cost_from) (defScope s_cost_from) .none kV56 dc56 pm56 an56 cd56 ct56),sl56⟩)
  (c_cost_from:PySem.W.codeIn K cd56 "cost_from"=true)
  (k_cost_from:PySem.W.keepIn K (.ref f56)=true)
  (a_costs_of:PySem.W.nsIn K mainGlobals "costs_of"=some (some (.ref f57)))
  (l_costs_of:K.lookup f57=some ⟨oc57,od57,.func (PySem.W.fnOf "costs_of" "costs_of" (defArgs s_costs_of) (defBody s_costs_of) (defScope s_costs_of) .none kV57 dc57 pm57 an57 cd57 ct57),sl57⟩)
  (c_costs_of:PySem.W.codeIn K cd57 "costs_of"=true)
  (k_costs_of:PySem.W.keepIn K (.ref f57)=true)
  (a_pages_of:PySem.W.nsIn K mainGlobals "pages_of"=some (some (.ref f58)))
  (l_pages_of:K.lookup f58=some ⟨oc58,od58,.func (PySem.W.fnOf "pages_of" "pages_of" (defArgs s_pages_of) (defBody s_pages_of) (defScope s_pages_of) .none kV58 dc58 pm58 an58 cd58 ct58),sl58⟩)
  (c_pages_of:PySem.W.codeIn K cd58 "pages_of"=true)
  (k_pages_of:PySem.W.keepIn K (.ref f58)=true)
  (a_cost_of_line:PySem.W.nsIn K mainGlobals "cost_of_line"=some (some (.ref f59)))
  (l_cost_of_line:K.lookup f59=some ⟨oc59,od59,.func (PySem.W.fnOf "cost_of_line" "cost_of_line" (defArgs s_cost_of_line) (defBody s_cost_of_line) (defScope s_cost_of_line) .none kV59 dc59 pm59 an59 cd59 ct59),sl59⟩)
  (c_cost_of_line:PySem.W.codeIn K cd59 "cost_of_line"=true)
  (k_cost_of_line:PySem.W.keepIn K (.ref f59)=true)
  (a_numbers_of_cost:PySem.W.nsIn K mainGlobals "numbers_of_cost"=some (some (.ref f60)))
  (l_numbers_of_cost:K.lookup f60=some ⟨oc60,od60,.func (PySem.W.fnOf "numbers_of_cost" "numbers_of_cost" (defArgs s_numbers_of_cost) (defBody s_numbers_of_cost) (defScope s_numbers_of_cost) .none kV60 dc60 pm60 an60 cd60 ct60),sl60⟩)
  (c_numbers_of_cost:PySem.W.codeIn K cd60 "numbers_of_cost"=true)
  (k_numbers_of_cost:PySem.W.keepIn K (.ref f60)=true)
  (a_answered_of_work:PySem.W.nsIn K mainGlobals "answered_of_work"=some (some (.ref f61)))
  (l_answered_of_work:K.lookup f61=some ⟨oc61,od61,.func (PySem.W.fnOf "answered_of_work" "answered_of_work" (defArgs s_answered_of_work) (defBody s_answered_of_work) (defScope s_answered_of_work) .none kV61 dc61 pm61 an61 cd61 ct61),sl61⟩)
  (c_answered_of_work:PySem.W.codeIn K cd61 "answered_of_work"=true)
  (k_answered_of_work:PySem.W.keepIn K (.ref f61)=true)
  (a_cost:PySem.W.nsIn K mainGlobals "cost"=some (some (.ref f62)))
  (l_cost:K.lookup f62=some ⟨oc62,od62,.func (PySem.W.fnOf "cost" "cost" (defArgs s_cost) (defBody s_cost) (defScope s_cost) .none kV62 dc62 pm62 an62 cd62 ct62),sl62⟩)
  (c_cost:PySem.W.codeIn K cd62 "cost"=true)
  (k_cost:PySem.W.keepIn K (.ref f62)=true) :
  ∃ fd:FuncData,(∀ (s:Shared) (us:List Value),us.length=(["t"]:List Str).length→BindsTo s fd ⟨us,[]⟩ ((["t"]:List Str).zip us))∧∀ base:Heap,K.In base→base.Ns mainGlobals mg→FnOk P w K mg base CX0 13 fa fd ["t"] (sp_cost K ad0):=by
 have e:=hfa.symm.trans (PySem.W.mg_of X G a_cost)
 cases e
 have nl':∀ b o,K.lookup b=some o→o.cls≠.type "list":=fun b o hb z=>by
  have q:=List.all_eq_true.mp nl _ (mem_lk hb)
  rw [z] at q
  exact absurd q (by decide)
 have T:Txt K mg ⟨CE,CR,CW,CL,CN,CP,aMARKS,aSETTING_BOUNDS,aCARET,f60⟩:={
  exc:=⟨PySem.W.mg_of X G aCE,qCE⟩
  clReader:=⟨pgR,hdR,poR,saR⟩
  clWork:=⟨pgW,hdW,poW,saW⟩
  clLine:=⟨pgL,hdL,poL,saL⟩
  clNote:=⟨pgN,hdN,poN,saN⟩
  clPage:=⟨pgP,hdP,poP,saP⟩
  n_t:=nR_t
  n_at:=nR_at
  n_width:=nW_width
  n_height:=nW_height
  n_indent:=nW_indent
  n_every:=nW_every
  n_anew:=nW_anew
  n_loose:=nW_loose
  n_rows:=nW_rows
  n_head:=nW_head
  n_paragraphs:=nW_paragraphs
  n_words:=nW_words
  n_signs:=nW_signs
  n_entries:=nW_entries
  nL_first:=nL_first
  nL_end:=nL_end
  nL_opens:=nL_opens
  nL_closes:=nL_closes
  nL_taken:=nL_taken
  nL_note:=nL_note
  nN_things:=nN_things
  nN_takes:=nN_takes
  nN_tails:=nN_tails
  nP_kind:=nP_kind
  nP_first:=nP_first
  nP_end:=nP_end
  nP_came:=nP_came
  nP_own:=nP_own
  nP_rest:=nP_rest
  nP_cost:=nP_cost
  nl:=nl'
  len:=PySem.W.ns_none_of X G bl_len
  ord:=PySem.W.ns_none_of X G bl_ord
  min:=PySem.W.ns_none_of X G bl_min
  max:=PySem.W.ns_none_of X G bl_max
  range:=PySem.W.ns_none_of X G bl_range
  enumerate:=PySem.W.ns_none_of X G bl_enumerate
  str:=PySem.W.ns_none_of X G bl_str
  list:=PySem.W.ns_none_of X G bl_list
  sum:=PySem.W.ns_none_of X G bl_sum
  cBLANK:=⟨tBLANK,PySem.W.mg_of X G iBLANK⟩
  cFIRST_LETTER:=⟨tFIRST_LETTER,PySem.W.mg_of X G iFIRST_LETTER⟩
  cLAST_CHARACTER:=⟨tLAST_CHARACTER,PySem.W.mg_of X G iLAST_CHARACTER⟩
  cWHOLE:=⟨tWHOLE,PySem.W.mg_of X G iWHOLE⟩
  cCUT:=⟨tCUT,PySem.W.mg_of X G iCUT⟩
  cFOOT_ALONE:=⟨tFOOT_ALONE,PySem.W.mg_of X G iFOOT_ALONE⟩
  cNO_BYTE:=⟨tNO_BYTE,PySem.W.mg_of X G iNO_BYTE⟩
  cMOST_ROWS:=⟨tMOST_ROWS,PySem.W.mg_of X G iMOST_ROWS⟩
  cMOST_PARAGRAPHS:=⟨tMOST_PARAGRAPHS,PySem.W.mg_of X G iMOST_PARAGRAPHS⟩
  cMOST_WORDS:=⟨tMOST_WORDS,PySem.W.mg_of X G iMOST_WORDS⟩
  cMOST_SIGNS:=⟨tMOST_SIGNS,PySem.W.mg_of X G iMOST_SIGNS⟩
  cMOST_ENTRIES:=⟨tMOST_ENTRIES,PySem.W.mg_of X G iMOST_ENTRIES⟩
  cMOST_TOKENS:=⟨tMOST_TOKENS,PySem.W.mg_of X G iMOST_TOKENS⟩
  cMOST_TOKENS_OF_ENTRY:=⟨tMOST_TOKENS_OF_ENTRY,PySem.W.mg_of X G iMOST_TOKENS_OF_ENTRY⟩
  cMOST_LETTERS:=⟨tMOST_LETTERS,PySem.W.mg_of X G iMOST_LETTERS⟩
  cMOST_SIGN_THINGS:=⟨tMOST_SIGN_THINGS,PySem.W.mg_of X G iMOST_SIGN_THINGS⟩
  cMOST_SIGN_CHARACTERS:=⟨tMOST_SIGN_CHARACTERS,PySem.W.mg_of X G iMOST_SIGN_CHARACTERS⟩
  cMOST_TEXT_BYTES:=⟨tMOST_TEXT_BYTES,PySem.W.mg_of X G iMOST_TEXT_BYTES⟩
  f_numbers_of_cost:=PySem.W.mg_of X G a_numbers_of_cost
  cMARKS:=PySem.W.mg_of X G gMARKS
  tMARKS:=sqT_of lMARKS (by simp) (by first | exact .nil | (repeat (first | exact .nil | refine .cons ⟨_,rfl⟩ ?_ | refine .cons rfl ?_)))
  cSETTING_BOUNDS:=PySem.W.mg_of X G gSETTING_BOUNDS
  tSB:=⟨bSETTING_BOUNDS0,bSETTING_BOUNDS1,bSETTING_BOUNDS2,bSETTING_BOUNDS3,bSETTING_BOUNDS4,bSETTING_BOUNDS5,sqT_of lSETTING_BOUNDS (by simp) (by first | exact .nil | (repeat (first | exact .nil | refine .cons ⟨_,rfl⟩ ?_ | refine .cons rfl ?_))),sqT_of lSETTING_BOUNDS0 (by simp) (by first | exact .nil | (repeat (first | exact .nil | refine .cons ⟨_,rfl⟩ ?_ | refine .cons rfl ?_))),sqT_of lSETTING_BOUNDS1 (by simp) (by first | exact .nil | (repeat (first | exact .nil | refine .cons ⟨_,rfl⟩ ?_ | refine .cons rfl ?_))),sqT_of lSETTING_BOUNDS2 (by simp) (by first | exact .nil | (repeat (first | exact .nil | refine .cons ⟨_,rfl⟩ ?_ | refine .cons rfl ?_))),sqT_of lSETTING_BOUNDS3 (by simp) (by first | exact .nil | (repeat (first | exact .nil | refine .cons ⟨_,rfl⟩ ?_ | refine .cons rfl ?_))),sqT_of lSETTING_BOUNDS4 (by simp) (by first | exact .nil | (repeat (first | exact .nil | refine .cons ⟨_,rfl⟩ ?_ | refine .cons rfl ?_))),sqT_of lSETTING_BOUNDS5 (by simp) (by first | exact .nil | (repeat (first | exact .nil | refine .cons ⟨_,rfl⟩ ?_ | refine .cons rfl ?_)))⟩
  cCARET:=PySem.W.mg_of X G gCARET
  tCARET:=sqT_of lCARET (by simp) (by first | exact .nil | (repeat (first | exact .nil | refine .cons ⟨_,rfl⟩ ?_ | refine .cons rfl ?_))) }
 have F0:=fun_mk (st:=s_is_letter) l_is_letter c_is_letter k_is_letter
 have b0:=F0.binds (ps:=["character"]) fun _ _ _ _ _ _ us hl=>match us,hl with | [_],_=>rfl
 have F1:=fun_mk (st:=s_begins_some) l_begins_some c_begins_some k_begins_some
 have b1:=F1.binds (ps:=["value","low","high"]) fun _ _ _ _ _ _ us hl=>match us,hl with | [_,_,_],_=>rfl
 have F2:=fun_mk (st:=s_size_by_lead) l_size_by_lead c_size_by_lead k_size_by_lead
 have b2:=F2.binds (ps:=["lead"]) fun _ _ _ _ _ _ us hl=>match us,hl with | [_],_=>rfl
 have F3:=fun_mk (st:=s_bounds_behind) l_bounds_behind c_bounds_behind k_bounds_behind
 have b3:=F3.binds (ps:=["lead"]) fun _ _ _ _ _ _ us hl=>match us,hl with | [_],_=>rfl
 have F4:=fun_mk (st:=s_Reader_init) l_Reader_init c_Reader_init k_Reader_init
 have b4:=F4.binds (ps:=["self","t"]) fun _ _ _ _ _ _ us hl=>match us,hl with | [_,_],_=>rfl
 have F5:=fun_mk (st:=s_Reader_peek) l_Reader_peek c_Reader_peek k_Reader_peek
 have b5:=F5.binds (ps:=["self"]) fun _ _ _ _ _ _ us hl=>match us,hl with | [_],_=>rfl
 have F6:=fun_mk (st:=s_Reader_sees) l_Reader_sees c_Reader_sees k_Reader_sees
 have b6:=F6.binds (ps:=["self","sign"]) fun _ _ _ _ _ _ us hl=>match us,hl with | [_,_],_=>rfl
 have F7:=fun_mk (st:=s_Reader_take) l_Reader_take c_Reader_take k_Reader_take
 have b7:=F7.binds (ps:=["self","sign"]) fun _ _ _ _ _ _ us hl=>match us,hl with | [_,_],_=>rfl
 have F8:=fun_mk (st:=s_Reader_take_end) l_Reader_take_end c_Reader_take_end k_Reader_take_end
 have b8:=F8.binds (ps:=["self"]) fun _ _ _ _ _ _ us hl=>match us,hl with | [_],_=>rfl
 have F9:=fun_mk (st:=s_Reader_take_digit) l_Reader_take_digit c_Reader_take_digit k_Reader_take_digit
 have b9:=F9.binds (ps:=["self","value","low","high"]) fun _ _ _ _ _ _ us hl=>match us,hl with | [_,_,_,_],_=>rfl
 have F10:=fun_mk (st:=s_Reader_take_number) l_Reader_take_number c_Reader_take_number k_Reader_take_number
 have b10:=F10.binds (ps:=["self","low","high"]) fun _ _ _ _ _ _ us hl=>match us,hl with | [_,_,_],_=>rfl
 have F11:=fun_mk (st:=s_Reader_take_long_letter) l_Reader_take_long_letter c_Reader_take_long_letter k_Reader_take_long_letter
 have b11:=F11.binds (ps:=["self","lead","size"]) fun _ _ _ _ _ _ us hl=>match us,hl with | [_,_,_],_=>rfl
 have F12:=fun_mk (st:=s_Reader_take_character) l_Reader_take_character c_Reader_take_character k_Reader_take_character
 have b12:=F12.binds (ps:=["self","marks"]) fun _ _ _ _ _ _ us hl=>match us,hl with | [_,_],_=>rfl
 have F13:=fun_mk (st:=s_Reader_take_thing) l_Reader_take_thing c_Reader_take_thing k_Reader_take_thing
 have b13:=F13.binds (ps:=["self","most","marks"]) fun _ _ _ _ _ _ us hl=>match us,hl with | [_,_,_],_=>rfl
 have F14:=fun_mk (st:=s_Reader_take_things) l_Reader_take_things c_Reader_take_things k_Reader_take_things
 have b14:=F14.binds (ps:=["self","most_things","most","marks"]) fun _ _ _ _ _ _ us hl=>match us,hl with | [_,_,_,_],_=>rfl
 have F15:=fun_mk (st:=s_joined) l_joined c_joined k_joined
 have b15:=F15.binds (ps:=["things","between"]) fun _ _ _ _ _ _ us hl=>match us,hl with | [_,_],_=>rfl
 have F16:=fun_mk (st:=s_Work_init) l_Work_init c_Work_init k_Work_init
 have b16:=F16.binds (ps:=["self","settings"]) fun _ _ _ _ _ _ us hl=>match us,hl with | [_,_],_=>rfl
 have F17:=fun_mk (st:=s_read_settings) l_read_settings c_read_settings k_read_settings
 have b17:=F17.binds (ps:=["reader"]) fun _ _ _ _ _ _ us hl=>match us,hl with | [_],_=>rfl
 have F18:=fun_mk (st:=s_read_rows) l_read_rows c_read_rows k_read_rows
 have b18:=F18.binds (ps:=["reader","work"]) fun _ _ _ _ _ _ us hl=>match us,hl with | [_,_],_=>rfl
 have F19:=fun_mk (st:=s_read_paragraphs) l_read_paragraphs c_read_paragraphs k_read_paragraphs
 have b19:=F19.binds (ps:=["reader","work"]) fun _ _ _ _ _ _ us hl=>match us,hl with | [_,_],_=>rfl
 have F20:=fun_mk (st:=s_read_tokens) l_read_tokens c_read_tokens k_read_tokens
 have b20:=F20.binds (ps:=["reader","most"]) fun _ _ _ _ _ _ us hl=>match us,hl with | [_,_],_=>rfl
 have F21:=fun_mk (st:=s_read_entries) l_read_entries c_read_entries k_read_entries
 have b21:=F21.binds (ps:=["reader","work"]) fun _ _ _ _ _ _ us hl=>match us,hl with | [_,_],_=>rfl
 have F22:=fun_mk (st:=s_read_signs) l_read_signs c_read_signs k_read_signs
 have b22:=F22.binds (ps:=["reader","work"]) fun _ _ _ _ _ _ us hl=>match us,hl with | [_,_],_=>rfl
 have F23:=fun_mk (st:=s_read_work) l_read_work c_read_work k_read_work
 have b23:=F23.binds (ps:=["reader"]) fun _ _ _ _ _ _ us hl=>match us,hl with | [_],_=>rfl
 have F24:=fun_mk (st:=s_cells) l_cells c_cells k_cells
 have b24:=F24.binds (ps:=["rows","character"]) fun _ _ _ _ _ _ us hl=>match us,hl with | [_,_],_=>rfl
 have F25:=fun_mk (st:=s_cells_of_thing) l_cells_of_thing c_cells_of_thing k_cells_of_thing
 have b25:=F25.binds (ps:=["rows","thing"]) fun _ _ _ _ _ _ us hl=>match us,hl with | [_,_],_=>rfl
 have F26:=fun_mk (st:=s_characters_of) l_characters_of c_characters_of k_characters_of
 have b26:=F26.binds (ps:=["text"]) fun _ _ _ _ _ _ us hl=>match us,hl with | [_],_=>rfl
 have F27:=fun_mk (st:=s_line_cost) l_line_cost c_line_cost k_line_cost
 have b27:=F27.binds (ps:=["taken","room","is_last"]) fun _ _ _ _ _ _ us hl=>match us,hl with | [_,_,_],_=>rfl
 have F28:=fun_mk (st:=s_best_from) l_best_from c_best_from k_best_from
 have b28:=F28.binds (ps:=["takes","tails","start","room"]) fun _ _ _ _ _ _ us hl=>match us,hl with | [_,_,_,_],_=>rfl
 have F29:=fun_mk (st:=s_tails_of) l_tails_of c_tails_of k_tails_of
 have b29:=F29.binds (ps:=["takes","room"]) fun _ _ _ _ _ _ us hl=>match us,hl with | [_,_],_=>rfl
 have F30:=fun_mk (st:=s_ends_of) l_ends_of c_ends_of k_ends_of
 have b30:=F30.binds (ps:=["takes","tails","first_room"]) fun _ _ _ _ _ _ us hl=>match us,hl with | [_,_,_],_=>rfl
 have F31:=fun_mk (st:=s_place_among_like) l_place_among_like c_place_among_like k_place_among_like
 have b31:=F31.binds (ps:=["words","line_first","line_end","f"]) fun _ _ _ _ _ _ us hl=>match us,hl with | [_,_,_,_],_=>rfl
 have F32:=fun_mk (st:=s_key_of) l_key_of c_key_of k_key_of
 have b32:=F32.binds (ps:=["words","line_first","line_end","f","m"]) fun _ _ _ _ _ _ us hl=>match us,hl with | [_,_,_,_,_],_=>rfl
 have F33:=fun_mk (st:=s_number_thing) l_number_thing c_number_thing k_number_thing
 have b33:=F33.binds (ps:=["number"]) fun _ _ _ _ _ _ us hl=>match us,hl with | [_],_=>rfl
 have F34:=fun_mk (st:=s_first_room) l_first_room c_first_room k_first_room
 have b34:=F34.binds (ps:=["work","number"]) fun _ _ _ _ _ _ us hl=>match us,hl with | [_,_],_=>rfl
 have F35:=fun_mk (st:=s_Note_init) l_Note_init c_Note_init k_Note_init
 have b35:=F35.binds (ps:=["self","work","things"]) fun _ _ _ _ _ _ us hl=>match us,hl with | [_,_,_],_=>rfl
 have F36:=fun_mk (st:=s_count_foot_lines) l_count_foot_lines c_count_foot_lines k_count_foot_lines
 have b36:=F36.binds (ps:=["work","note","number"]) fun _ _ _ _ _ _ us hl=>match us,hl with | [_,_,_],_=>rfl
 have F37:=fun_mk (st:=s_Line_init) l_Line_init c_Line_init k_Line_init
 have b37:=F37.binds (ps:=["self","first","end","opens","closes","taken"]) fun _ _ _ _ _ _ us hl=>match us,hl with | [_,_,_,_,_,_],_=>rfl
 have F38:=fun_mk (st:=s_word_takes) l_word_takes c_word_takes k_word_takes
 have b38:=F38.binds (ps:=["work","k"]) fun _ _ _ _ _ _ us hl=>match us,hl with | [_,_],_=>rfl
 have F39:=fun_mk (st:=s_room_of) l_room_of c_room_of k_room_of
 have b39:=F39.binds (ps:=["work","opens"]) fun _ _ _ _ _ _ us hl=>match us,hl with | [_,_],_=>rfl
 have F40:=fun_mk (st:=s_lines_of_paragraph) l_lines_of_paragraph c_lines_of_paragraph k_lines_of_paragraph
 have b40:=F40.binds (ps:=["work","first","end"]) fun _ _ _ _ _ _ us hl=>match us,hl with | [_,_,_],_=>rfl
 have F41:=fun_mk (st:=s_things_of_notes) l_things_of_notes c_things_of_notes k_things_of_notes
 have b41:=F41.binds (ps:=["work","lines"]) fun _ _ _ _ _ _ us hl=>match us,hl with | [_,_],_=>rfl
 have F42:=fun_mk (st:=s_lines_of) l_lines_of c_lines_of k_lines_of
 have b42:=F42.binds (ps:=["work"]) fun _ _ _ _ _ _ us hl=>match us,hl with | [_],_=>rfl
 have F43:=fun_mk (st:=s_Page_init) l_Page_init c_Page_init k_Page_init
 have b43:=F43.binds (ps:=["self","kind","first","end"]) fun _ _ _ _ _ _ us hl=>match us,hl with | [_,_,_,_],_=>rfl
 have F44:=fun_mk (st:=s_number_of_line) l_number_of_line c_number_of_line k_number_of_line
 have b44:=F44.binds (ps:=["work","k","page_first"]) fun _ _ _ _ _ _ us hl=>match us,hl with | [_,_,_],_=>rfl
 have F45:=fun_mk (st:=s_own_foot_lines) l_own_foot_lines c_own_foot_lines k_own_foot_lines
 have b45:=F45.binds (ps:=["work","lines","k","page_first"]) fun _ _ _ _ _ _ us hl=>match us,hl with | [_,_,_,_],_=>rfl
 have F46:=fun_mk (st:=s_wanted) l_wanted c_wanted k_wanted
 have b46:=F46.binds (ps:=["count","foot_count"]) fun _ _ _ _ _ _ us hl=>match us,hl with | [_,_],_=>rfl
 have F47:=fun_mk (st:=s_whole_pages) l_whole_pages c_whole_pages k_whole_pages
 have b47:=F47.binds (ps:=["work","lines","first","carried"]) fun _ _ _ _ _ _ us hl=>match us,hl with | [_,_,_,_],_=>rfl
 have F48:=fun_mk (st:=s_may_be_whole) l_may_be_whole c_may_be_whole k_may_be_whole
 have b48:=F48.binds (ps:=["work","lines","first","carried"]) fun _ _ _ _ _ _ us hl=>match us,hl with | [_,_,_,_],_=>rfl
 have F49:=fun_mk (st:=s_loose_cost) l_loose_cost c_loose_cost k_loose_cost
 have b49:=F49.binds (ps:=["work","lines","first","end"]) fun _ _ _ _ _ _ us hl=>match us,hl with | [_,_,_,_],_=>rfl
 have F50:=fun_mk (st:=s_whole_cost) l_whole_cost c_whole_cost k_whole_cost
 have b50:=F50.binds (ps:=["work","lines","first","end","wants"]) fun _ _ _ _ _ _ us hl=>match us,hl with | [_,_,_,_,_],_=>rfl
 have F51:=fun_mk (st:=s_best_whole) l_best_whole c_best_whole k_best_whole
 have b51:=F51.binds (ps:=["work","lines","costs","first","carried"]) fun _ _ _ _ _ _ us hl=>match us,hl with | [_,_,_,_,_],_=>rfl
 have F52:=fun_mk (st:=s_whole_page) l_whole_page c_whole_page k_whole_page
 have b52:=F52.binds (ps:=["work","lines","first","end","carried"]) fun _ _ _ _ _ _ us hl=>match us,hl with | [_,_,_,_,_],_=>rfl
 have F53:=fun_mk (st:=s_cut_page) l_cut_page c_cut_page k_cut_page
 have b53:=F53.binds (ps:=["work","lines","first","carried"]) fun _ _ _ _ _ _ us hl=>match us,hl with | [_,_,_,_],_=>rfl
 have F54:=fun_mk (st:=s_foot_alone) l_foot_alone c_foot_alone k_foot_alone
 have b54:=F54.binds (ps:=["work","first","carried"]) fun _ _ _ _ _ _ us hl=>match us,hl with | [_,_,_],_=>rfl
 have F55:=fun_mk (st:=s_forced_page) l_forced_page c_forced_page k_forced_page
 have b55:=F55.binds (ps:=["work","lines","first","carried"]) fun _ _ _ _ _ _ us hl=>match us,hl with | [_,_,_,_],_=>rfl
 have F56:=fun_mk (st:=s_cost_from) l_cost_from c_cost_from k_cost_from
 have b56:=F56.binds (ps:=["work","lines","costs","first"]) fun _ _ _ _ _ _ us hl=>match us,hl with | [_,_,_,_],_=>rfl
 have F57:=fun_mk (st:=s_costs_of) l_costs_of c_costs_of k_costs_of
 have b57:=F57.binds (ps:=["work","lines"]) fun _ _ _ _ _ _ us hl=>match us,hl with | [_,_],_=>rfl
 have F58:=fun_mk (st:=s_pages_of) l_pages_of c_pages_of k_pages_of
 have b58:=F58.binds (ps:=["work","lines"]) fun _ _ _ _ _ _ us hl=>match us,hl with | [_,_],_=>rfl
 have F59:=fun_mk (st:=s_cost_of_line) l_cost_of_line c_cost_of_line k_cost_of_line
 have b59:=F59.binds (ps:=["work","line"]) fun _ _ _ _ _ _ us hl=>match us,hl with | [_,_],_=>rfl
 have F60:=fun_mk (st:=s_numbers_of_cost) l_numbers_of_cost c_numbers_of_cost k_numbers_of_cost
 have b60:=F60.binds (ps:=["work"]) fun _ _ _ _ _ _ us hl=>match us,hl with | [_],_=>rfl
 have F61:=fun_mk (st:=s_answered_of_work) l_answered_of_work c_answered_of_work k_answered_of_work
 have b61:=F61.binds (ps:=["t","answer"]) fun _ _ _ _ _ _ us hl=>match us,hl with | [_,_],_=>rfl
 have F62:=fun_mk (st:=s_cost) l_cost c_cost k_cost
 have b62:=F62.binds (ps:=["t"]) fun _ _ _ _ _ _ us hl=>match us,hl with | [_],_=>rfl
 refine ⟨PySem.W.fnOf "cost" "cost" (defArgs s_cost) (defBody s_cost) (defScope s_cost) .none kV62 dc62 pm62 an62 cd62 ct62,fun s us hu=>match us,hu with | [_],_=>.of_eq rfl,fun base _ _=>?_⟩
 have C_is_letter:FnC P w K mg base CX0 1 "is_letter" ["character"] (sp_is_letter K ⟨CE,CR,CW,CL,CN,CP,aMARKS,aSETTING_BOUNDS,aCARET,f60⟩):=⟨⟨f0,_,PySem.W.mg_of X G a_is_letter,k_is_letter,b0,(ok_is_letter F0 T)⟩⟩
 have C_begins_some:FnC P w K mg base CX0 1 "begins_some" ["value","low","high"] (sp_begins_some K ⟨CE,CR,CW,CL,CN,CP,aMARKS,aSETTING_BOUNDS,aCARET,f60⟩):=⟨⟨f1,_,PySem.W.mg_of X G a_begins_some,k_begins_some,b1,(ok_begins_some F1 T)⟩⟩
 have C_size_by_lead:FnC P w K mg base CX0 1 "size_by_lead" ["lead"] (sp_size_by_lead K ⟨CE,CR,CW,CL,CN,CP,aMARKS,aSETTING_BOUNDS,aCARET,f60⟩):=⟨⟨f2,_,PySem.W.mg_of X G a_size_by_lead,k_size_by_lead,b2,(ok_size_by_lead F2 T)⟩⟩
 have C_bounds_behind:FnC P w K mg base CX0 1 "bounds_behind" ["lead"] (sp_bounds_behind K ⟨CE,CR,CW,CL,CN,CP,aMARKS,aSETTING_BOUNDS,aCARET,f60⟩):=⟨⟨f3,_,PySem.W.mg_of X G a_bounds_behind,k_bounds_behind,b3,(ok_bounds_behind F3 T)⟩⟩
 have C_Reader_init:MakeC P w K mg base CX0 1 CR "Reader" ["self","t"] (sp_Reader_init K ⟨CE,CR,CW,CL,CN,CP,aMARKS,aSETTING_BOUNDS,aCARET,f60⟩):=⟨⟨f4,_,PySem.W.mg_of X G aCR,⟨mkR,a_Reader_init,i_Reader_init,kcR⟩,b4,(ok_Reader_init F4 T)⟩⟩
 have C_Reader_peek:MethC P w K mg base CX0 1 CR "peek" ["self"] (sp_Reader_peek K ⟨CE,CR,CW,CL,CN,CP,aMARKS,aSETTING_BOUNDS,aCARET,f60⟩):=⟨⟨f5,_,⟨a_Reader_peek,i_Reader_peek,k_Reader_peek⟩,b5,(ok_Reader_peek F5 T)⟩⟩
 have C_Reader_sees:MethC P w K mg base CX0 2 CR "sees" ["self","sign"] (sp_Reader_sees K ⟨CE,CR,CW,CL,CN,CP,aMARKS,aSETTING_BOUNDS,aCARET,f60⟩):=⟨⟨f6,_,⟨a_Reader_sees,i_Reader_sees,k_Reader_sees⟩,b6,(ok_Reader_sees F6 T C_Reader_peek)⟩⟩
 have C_Reader_take:MethC P w K mg base (CX1 P w CE) 3 CR "take" ["self","sign"] (sp_Reader_take K ⟨CE,CR,CW,CL,CN,CP,aMARKS,aSETTING_BOUNDS,aCARET,f60⟩):=⟨⟨f7,_,⟨a_Reader_take,i_Reader_take,k_Reader_take⟩,b7,(ok_Reader_take F7 T C_Reader_sees)⟩⟩
 have C_Reader_take_end:MethC P w K mg base (CX1 P w CE) 2 CR "take_end" ["self"] (sp_Reader_take_end K ⟨CE,CR,CW,CL,CN,CP,aMARKS,aSETTING_BOUNDS,aCARET,f60⟩):=⟨⟨f8,_,⟨a_Reader_take_end,i_Reader_take_end,k_Reader_take_end⟩,b8,(ok_Reader_take_end F8 T C_Reader_peek)⟩⟩
 have C_Reader_take_digit:MethC P w K mg base (CX1 P w CE) 2 CR "take_digit" ["self","value","low","high"] (sp_Reader_take_digit K ⟨CE,CR,CW,CL,CN,CP,aMARKS,aSETTING_BOUNDS,aCARET,f60⟩):=⟨⟨f9,_,⟨a_Reader_take_digit,i_Reader_take_digit,k_Reader_take_digit⟩,b9,(ok_Reader_take_digit F9 T C_Reader_peek C_begins_some)⟩⟩
 have C_Reader_take_number:MethC P w K mg base (CX1 P w CE) 3 CR "take_number" ["self","low","high"] (sp_Reader_take_number K ⟨CE,CR,CW,CL,CN,CP,aMARKS,aSETTING_BOUNDS,aCARET,f60⟩):=⟨⟨f10,_,⟨a_Reader_take_number,i_Reader_take_number,k_Reader_take_number⟩,b10,(ok_Reader_take_number F10 T C_Reader_take_digit C_Reader_peek)⟩⟩
 have C_Reader_take_long_letter:MethC P w K mg base (CX1 P w CE) 2 CR "take_long_letter" ["self","lead","size"] (sp_Reader_take_long_letter K ⟨CE,CR,CW,CL,CN,CP,aMARKS,aSETTING_BOUNDS,aCARET,f60⟩):=⟨⟨f11,_,⟨a_Reader_take_long_letter,i_Reader_take_long_letter,k_Reader_take_long_letter⟩,b11,(ok_Reader_take_long_letter F11 T C_bounds_behind C_Reader_peek C_is_letter)⟩⟩
 have C_Reader_take_character:MethC P w K mg base (CX1 P w CE) 3 CR "take_character" ["self","marks"] (sp_Reader_take_character K ⟨CE,CR,CW,CL,CN,CP,aMARKS,aSETTING_BOUNDS,aCARET,f60⟩):=⟨⟨f12,_,⟨a_Reader_take_character,i_Reader_take_character,k_Reader_take_character⟩,b12,(ok_Reader_take_character F12 T C_Reader_peek C_size_by_lead C_Reader_take_long_letter C_is_letter)⟩⟩
 have C_Reader_take_thing:MethC P w K mg base (CX1 P w CE) 4 CR "take_thing" ["self","most","marks"] (sp_Reader_take_thing K ⟨CE,CR,CW,CL,CN,CP,aMARKS,aSETTING_BOUNDS,aCARET,f60⟩):=⟨⟨f13,_,⟨a_Reader_take_thing,i_Reader_take_thing,k_Reader_take_thing⟩,b13,(ok_Reader_take_thing F13 T C_Reader_take_character C_Reader_sees)⟩⟩
 have C_Reader_take_things:MethC P w K mg base (CX1 P w CE) 5 CR "take_things" ["self","most_things","most","marks"] (sp_Reader_take_things K ⟨CE,CR,CW,CL,CN,CP,aMARKS,aSETTING_BOUNDS,aCARET,f60⟩):=⟨⟨f14,_,⟨a_Reader_take_things,i_Reader_take_things,k_Reader_take_things⟩,b14,(ok_Reader_take_things F14 T C_Reader_take_thing C_Reader_sees C_Reader_take)⟩⟩
 have C_joined:FnC P w K mg base CX0 1 "joined" ["things","between"] (sp_joined K ⟨CE,CR,CW,CL,CN,CP,aMARKS,aSETTING_BOUNDS,aCARET,f60⟩):=⟨⟨f15,_,PySem.W.mg_of X G a_joined,k_joined,b15,(ok_joined F15 T)⟩⟩
 have C_Work_init:MakeC P w K mg base CX0 1 CW "Work" ["self","settings"] (sp_Work_init K ⟨CE,CR,CW,CL,CN,CP,aMARKS,aSETTING_BOUNDS,aCARET,f60⟩):=⟨⟨f16,_,PySem.W.mg_of X G aCW,⟨mkW,a_Work_init,i_Work_init,kcW⟩,b16,(ok_Work_init F16 T)⟩⟩
 have C_read_settings:FnC P w K mg base (CX1 P w CE) 4 "read_settings" ["reader"] (sp_read_settings K ⟨CE,CR,CW,CL,CN,CP,aMARKS,aSETTING_BOUNDS,aCARET,f60⟩):=⟨⟨f17,_,PySem.W.mg_of X G a_read_settings,k_read_settings,b17,(ok_read_settings F17 T C_Reader_take C_Reader_take_number)⟩⟩
 have C_read_rows:FnC P w K mg base (CX1 P w CE) 4 "read_rows" ["reader","work"] (sp_read_rows K ⟨CE,CR,CW,CL,CN,CP,aMARKS,aSETTING_BOUNDS,aCARET,f60⟩):=⟨⟨f18,_,PySem.W.mg_of X G a_read_rows,k_read_rows,b18,(ok_read_rows F18 T C_Reader_sees C_Reader_take C_Reader_take_number)⟩⟩
 have C_read_paragraphs:FnC P w K mg base (CX1 P w CE) 6 "read_paragraphs" ["reader","work"] (sp_read_paragraphs K ⟨CE,CR,CW,CL,CN,CP,aMARKS,aSETTING_BOUNDS,aCARET,f60⟩):=⟨⟨f19,_,PySem.W.mg_of X G a_read_paragraphs,k_read_paragraphs,b19,(ok_read_paragraphs F19 T C_Reader_sees C_Reader_take C_Reader_take_things)⟩⟩
 have C_read_tokens:FnC P w K mg base (CX1 P w CE) 5 "read_tokens" ["reader","most"] (sp_read_tokens K ⟨CE,CR,CW,CL,CN,CP,aMARKS,aSETTING_BOUNDS,aCARET,f60⟩):=⟨⟨f20,_,PySem.W.mg_of X G a_read_tokens,k_read_tokens,b20,(ok_read_tokens F20 T C_Reader_sees C_Reader_take C_Reader_take_thing)⟩⟩
 have C_read_entries:FnC P w K mg base (CX1 P w CE) 6 "read_entries" ["reader","work"] (sp_read_entries K ⟨CE,CR,CW,CL,CN,CP,aMARKS,aSETTING_BOUNDS,aCARET,f60⟩):=⟨⟨f21,_,PySem.W.mg_of X G a_read_entries,k_read_entries,b21,(ok_read_entries F21 T C_Reader_sees C_Reader_take C_Reader_take_number C_read_tokens)⟩⟩
 have C_read_signs:FnC P w K mg base (CX1 P w CE) 6 "read_signs" ["reader","work"] (sp_read_signs K ⟨CE,CR,CW,CL,CN,CP,aMARKS,aSETTING_BOUNDS,aCARET,f60⟩):=⟨⟨f22,_,PySem.W.mg_of X G a_read_signs,k_read_signs,b22,(ok_read_signs F22 T C_Reader_sees C_Reader_take C_Reader_take_number C_Reader_take_things C_joined)⟩⟩
 have C_read_work:FnC P w K mg base (CX1 P w CE) 7 "read_work" ["reader"] (sp_read_work K ⟨CE,CR,CW,CL,CN,CP,aMARKS,aSETTING_BOUNDS,aCARET,f60⟩):=⟨⟨f23,_,PySem.W.mg_of X G a_read_work,k_read_work,b23,(ok_read_work F23 T C_Work_init C_read_rows C_read_paragraphs C_read_signs C_read_entries C_Reader_take_end C_read_settings)⟩⟩
 have C_cells:FnC P w K mg base CX0 1 "cells" ["rows","character"] (sp_cells K ⟨CE,CR,CW,CL,CN,CP,aMARKS,aSETTING_BOUNDS,aCARET,f60⟩):=⟨⟨f24,_,PySem.W.mg_of X G a_cells,k_cells,b24,(ok_cells F24 T)⟩⟩
 have C_cells_of_thing:FnC P w K mg base CX0 2 "cells_of_thing" ["rows","thing"] (sp_cells_of_thing K ⟨CE,CR,CW,CL,CN,CP,aMARKS,aSETTING_BOUNDS,aCARET,f60⟩):=⟨⟨f25,_,PySem.W.mg_of X G a_cells_of_thing,k_cells_of_thing,b25,(ok_cells_of_thing F25 T C_cells)⟩⟩
 have C_characters_of:FnC P w K mg base CX0 1 "characters_of" ["text"] (sp_characters_of K ⟨CE,CR,CW,CL,CN,CP,aMARKS,aSETTING_BOUNDS,aCARET,f60⟩):=⟨⟨f26,_,PySem.W.mg_of X G a_characters_of,k_characters_of,b26,(ok_characters_of F26 T)⟩⟩
 have C_line_cost:FnC P w K mg base CX0 1 "line_cost" ["taken","room","is_last"] (sp_line_cost K ⟨CE,CR,CW,CL,CN,CP,aMARKS,aSETTING_BOUNDS,aCARET,f60⟩):=⟨⟨f27,_,PySem.W.mg_of X G a_line_cost,k_line_cost,b27,(ok_line_cost F27 T)⟩⟩
 have C_best_from:FnC P w K mg base CX0 2 "best_from" ["takes","tails","start","room"] (sp_best_from K ⟨CE,CR,CW,CL,CN,CP,aMARKS,aSETTING_BOUNDS,aCARET,f60⟩):=⟨⟨f28,_,PySem.W.mg_of X G a_best_from,k_best_from,b28,(ok_best_from F28 T C_line_cost)⟩⟩
 have C_tails_of:FnC P w K mg base CX0 3 "tails_of" ["takes","room"] (sp_tails_of K ⟨CE,CR,CW,CL,CN,CP,aMARKS,aSETTING_BOUNDS,aCARET,f60⟩):=⟨⟨f29,_,PySem.W.mg_of X G a_tails_of,k_tails_of,b29,(ok_tails_of F29 T C_best_from)⟩⟩
 have C_ends_of:FnC P w K mg base CX0 3 "ends_of" ["takes","tails","first_room"] (sp_ends_of K ⟨CE,CR,CW,CL,CN,CP,aMARKS,aSETTING_BOUNDS,aCARET,f60⟩):=⟨⟨f30,_,PySem.W.mg_of X G a_ends_of,k_ends_of,b30,(ok_ends_of F30 T C_best_from)⟩⟩
 have C_place_among_like:FnC P w K mg base CX0 1 "place_among_like" ["words","line_first","line_end","f"] (sp_place_among_like K ⟨CE,CR,CW,CL,CN,CP,aMARKS,aSETTING_BOUNDS,aCARET,f60⟩):=⟨⟨f31,_,PySem.W.mg_of X G a_place_among_like,k_place_among_like,b31,(ok_place_among_like F31 T)⟩⟩
 have C_key_of:FnC P w K mg base CX0 2 "key_of" ["words","line_first","line_end","f","m"] (sp_key_of K ⟨CE,CR,CW,CL,CN,CP,aMARKS,aSETTING_BOUNDS,aCARET,f60⟩):=⟨⟨f32,_,PySem.W.mg_of X G a_key_of,k_key_of,b32,(ok_key_of F32 T C_characters_of C_place_among_like)⟩⟩
 have C_number_thing:FnC P w K mg base CX0 2 "number_thing" ["number"] (sp_number_thing K ⟨CE,CR,CW,CL,CN,CP,aMARKS,aSETTING_BOUNDS,aCARET,f60⟩):=⟨⟨f33,_,PySem.W.mg_of X G a_number_thing,k_number_thing,b33,(ok_number_thing F33 T C_characters_of)⟩⟩
 have C_first_room:FnC P w K mg base CX0 3 "first_room" ["work","number"] (sp_first_room K ⟨CE,CR,CW,CL,CN,CP,aMARKS,aSETTING_BOUNDS,aCARET,f60⟩):=⟨⟨f34,_,PySem.W.mg_of X G a_first_room,k_first_room,b34,(ok_first_room F34 T C_cells_of_thing C_number_thing)⟩⟩
 have C_Note_init:MakeC P w K mg base CX0 4 CN "Note" ["self","work","things"] (sp_Note_init K ⟨CE,CR,CW,CL,CN,CP,aMARKS,aSETTING_BOUNDS,aCARET,f60⟩):=⟨⟨f35,_,PySem.W.mg_of X G aCN,⟨mkN,a_Note_init,i_Note_init,kcN⟩,b35,(ok_Note_init F35 T C_tails_of C_cells_of_thing)⟩⟩
 have C_count_foot_lines:FnC P w K mg base CX0 4 "count_foot_lines" ["work","note","number"] (sp_count_foot_lines K ⟨CE,CR,CW,CL,CN,CP,aMARKS,aSETTING_BOUNDS,aCARET,f60⟩):=⟨⟨f36,_,PySem.W.mg_of X G a_count_foot_lines,k_count_foot_lines,b36,(ok_count_foot_lines F36 T C_best_from C_first_room)⟩⟩
 have C_Line_init:MakeC P w K mg base CX0 1 CL "Line" ["self","first","end","opens","closes","taken"] (sp_Line_init K ⟨CE,CR,CW,CL,CN,CP,aMARKS,aSETTING_BOUNDS,aCARET,f60⟩):=⟨⟨f37,_,PySem.W.mg_of X G aCL,⟨mkL,a_Line_init,i_Line_init,kcL⟩,b37,(ok_Line_init F37 T)⟩⟩
 have C_word_takes:FnC P w K mg base CX0 3 "word_takes" ["work","k"] (sp_word_takes K ⟨CE,CR,CW,CL,CN,CP,aMARKS,aSETTING_BOUNDS,aCARET,f60⟩):=⟨⟨f38,_,PySem.W.mg_of X G a_word_takes,k_word_takes,b38,(ok_word_takes F38 T C_cells_of_thing)⟩⟩
 have C_room_of:FnC P w K mg base CX0 1 "room_of" ["work","opens"] (sp_room_of K ⟨CE,CR,CW,CL,CN,CP,aMARKS,aSETTING_BOUNDS,aCARET,f60⟩):=⟨⟨f39,_,PySem.W.mg_of X G a_room_of,k_room_of,b39,(ok_room_of F39 T)⟩⟩
 have C_lines_of_paragraph:FnC P w K mg base CX0 4 "lines_of_paragraph" ["work","first","end"] (sp_lines_of_paragraph K ⟨CE,CR,CW,CL,CN,CP,aMARKS,aSETTING_BOUNDS,aCARET,f60⟩):=⟨⟨f40,_,PySem.W.mg_of X G a_lines_of_paragraph,k_lines_of_paragraph,b40,(ok_lines_of_paragraph F40 T C_tails_of C_ends_of C_word_takes C_room_of C_Line_init)⟩⟩
 have C_things_of_notes:FnC P w K mg base CX0 3 "things_of_notes" ["work","lines"] (sp_things_of_notes K ⟨CE,CR,CW,CL,CN,CP,aMARKS,aSETTING_BOUNDS,aCARET,f60⟩):=⟨⟨f41,_,PySem.W.mg_of X G a_things_of_notes,k_things_of_notes,b41,(ok_things_of_notes F41 T C_key_of)⟩⟩
 have C_lines_of:FnC P w K mg base CX0 6 "lines_of" ["work"] (sp_lines_of K ⟨CE,CR,CW,CL,CN,CP,aMARKS,aSETTING_BOUNDS,aCARET,f60⟩):=⟨⟨f42,_,PySem.W.mg_of X G a_lines_of,k_lines_of,b42,(ok_lines_of F42 T C_things_of_notes C_lines_of_paragraph C_Note_init)⟩⟩
 have C_Page_init:MakeC P w K mg base CX0 1 CP "Page" ["self","kind","first","end"] (sp_Page_init K ⟨CE,CR,CW,CL,CN,CP,aMARKS,aSETTING_BOUNDS,aCARET,f60⟩):=⟨⟨f43,_,PySem.W.mg_of X G aCP,⟨mkP,a_Page_init,i_Page_init,kcP⟩,b43,(ok_Page_init F43 T)⟩⟩
 have C_number_of_line:FnC P w K mg base CX0 1 "number_of_line" ["work","k","page_first"] (sp_number_of_line K ⟨CE,CR,CW,CL,CN,CP,aMARKS,aSETTING_BOUNDS,aCARET,f60⟩):=⟨⟨f44,_,PySem.W.mg_of X G a_number_of_line,k_number_of_line,b44,(ok_number_of_line F44 T)⟩⟩
 have C_own_foot_lines:FnC P w K mg base CX0 5 "own_foot_lines" ["work","lines","k","page_first"] (sp_own_foot_lines K ⟨CE,CR,CW,CL,CN,CP,aMARKS,aSETTING_BOUNDS,aCARET,f60⟩):=⟨⟨f45,_,PySem.W.mg_of X G a_own_foot_lines,k_own_foot_lines,b45,(ok_own_foot_lines F45 T C_count_foot_lines C_number_of_line)⟩⟩
 have C_wanted:FnC P w K mg base CX0 1 "wanted" ["count","foot_count"] (sp_wanted K ⟨CE,CR,CW,CL,CN,CP,aMARKS,aSETTING_BOUNDS,aCARET,f60⟩):=⟨⟨f46,_,PySem.W.mg_of X G a_wanted,k_wanted,b46,(ok_wanted F46 T)⟩⟩
 have C_whole_pages:FnC P w K mg base CX0 6 "whole_pages" ["work","lines","first","carried"] (sp_whole_pages K ⟨CE,CR,CW,CL,CN,CP,aMARKS,aSETTING_BOUNDS,aCARET,f60⟩):=⟨⟨f47,_,PySem.W.mg_of X G a_whole_pages,k_whole_pages,b47,(ok_whole_pages F47 T C_own_foot_lines C_wanted)⟩⟩
 have C_may_be_whole:FnC P w K mg base CX0 6 "may_be_whole" ["work","lines","first","carried"] (sp_may_be_whole K ⟨CE,CR,CW,CL,CN,CP,aMARKS,aSETTING_BOUNDS,aCARET,f60⟩):=⟨⟨f48,_,PySem.W.mg_of X G a_may_be_whole,k_may_be_whole,b48,(ok_may_be_whole F48 T C_wanted C_own_foot_lines)⟩⟩
 have C_loose_cost:FnC P w K mg base CX0 1 "loose_cost" ["work","lines","first","end"] (sp_loose_cost K ⟨CE,CR,CW,CL,CN,CP,aMARKS,aSETTING_BOUNDS,aCARET,f60⟩):=⟨⟨f49,_,PySem.W.mg_of X G a_loose_cost,k_loose_cost,b49,(ok_loose_cost F49 T)⟩⟩
 have C_whole_cost:FnC P w K mg base CX0 2 "whole_cost" ["work","lines","first","end","wants"] (sp_whole_cost K ⟨CE,CR,CW,CL,CN,CP,aMARKS,aSETTING_BOUNDS,aCARET,f60⟩):=⟨⟨f50,_,PySem.W.mg_of X G a_whole_cost,k_whole_cost,b50,(ok_whole_cost F50 T C_loose_cost)⟩⟩
 have C_best_whole:FnC P w K mg base CX0 7 "best_whole" ["work","lines","costs","first","carried"] (sp_best_whole K ⟨CE,CR,CW,CL,CN,CP,aMARKS,aSETTING_BOUNDS,aCARET,f60⟩):=⟨⟨f51,_,PySem.W.mg_of X G a_best_whole,k_best_whole,b51,(ok_best_whole F51 T C_whole_pages C_whole_cost)⟩⟩
 have C_whole_page:FnC P w K mg base CX0 6 "whole_page" ["work","lines","first","end","carried"] (sp_whole_page K ⟨CE,CR,CW,CL,CN,CP,aMARKS,aSETTING_BOUNDS,aCARET,f60⟩):=⟨⟨f52,_,PySem.W.mg_of X G a_whole_page,k_whole_page,b52,(ok_whole_page F52 T C_Page_init C_whole_cost C_wanted C_own_foot_lines)⟩⟩
 have C_cut_page:FnC P w K mg base CX0 6 "cut_page" ["work","lines","first","carried"] (sp_cut_page K ⟨CE,CR,CW,CL,CN,CP,aMARKS,aSETTING_BOUNDS,aCARET,f60⟩):=⟨⟨f53,_,PySem.W.mg_of X G a_cut_page,k_cut_page,b53,(ok_cut_page F53 T C_Page_init C_own_foot_lines)⟩⟩
 have C_foot_alone:FnC P w K mg base CX0 3 "foot_alone" ["work","first","carried"] (sp_foot_alone K ⟨CE,CR,CW,CL,CN,CP,aMARKS,aSETTING_BOUNDS,aCARET,f60⟩):=⟨⟨f54,_,PySem.W.mg_of X G a_foot_alone,k_foot_alone,b54,(ok_foot_alone F54 T C_Page_init)⟩⟩
 have C_forced_page:FnC P w K mg base CX0 7 "forced_page" ["work","lines","first","carried"] (sp_forced_page K ⟨CE,CR,CW,CL,CN,CP,aMARKS,aSETTING_BOUNDS,aCARET,f60⟩):=⟨⟨f55,_,PySem.W.mg_of X G a_forced_page,k_forced_page,b55,(ok_forced_page F55 T C_foot_alone C_cut_page)⟩⟩
 have C_cost_from:FnC P w K mg base CX0 8 "cost_from" ["work","lines","costs","first"] (sp_cost_from K ⟨CE,CR,CW,CL,CN,CP,aMARKS,aSETTING_BOUNDS,aCARET,f60⟩):=⟨⟨f56,_,PySem.W.mg_of X G a_cost_from,k_cost_from,b56,(ok_cost_from F56 T C_forced_page C_best_whole C_may_be_whole)⟩⟩
 have C_costs_of:FnC P w K mg base CX0 9 "costs_of" ["work","lines"] (sp_costs_of K ⟨CE,CR,CW,CL,CN,CP,aMARKS,aSETTING_BOUNDS,aCARET,f60⟩):=⟨⟨f57,_,PySem.W.mg_of X G a_costs_of,k_costs_of,b57,(ok_costs_of F57 T C_cost_from)⟩⟩
 have C_pages_of:FnC P w K mg base CX0 10 "pages_of" ["work","lines"] (sp_pages_of K ⟨CE,CR,CW,CL,CN,CP,aMARKS,aSETTING_BOUNDS,aCARET,f60⟩):=⟨⟨f58,_,PySem.W.mg_of X G a_pages_of,k_pages_of,b58,(ok_pages_of F58 T C_costs_of C_may_be_whole C_whole_page C_forced_page C_best_whole)⟩⟩
 have C_cost_of_line:FnC P w K mg base CX0 2 "cost_of_line" ["work","line"] (sp_cost_of_line K ⟨CE,CR,CW,CL,CN,CP,aMARKS,aSETTING_BOUNDS,aCARET,f60⟩):=⟨⟨f59,_,PySem.W.mg_of X G a_cost_of_line,k_cost_of_line,b59,(ok_cost_of_line F59 T C_line_cost C_room_of)⟩⟩
 have C_numbers_of_cost:FnC P w K mg base CX0 11 "numbers_of_cost" ["work"] (sp_numbers_of_cost K ⟨CE,CR,CW,CL,CN,CP,aMARKS,aSETTING_BOUNDS,aCARET,f60⟩):=⟨⟨f60,_,PySem.W.mg_of X G a_numbers_of_cost,k_numbers_of_cost,b60,(ok_numbers_of_cost F60 T C_lines_of C_pages_of C_cost_of_line)⟩⟩
 have C_answered_of_work:FnC P w K mg base CX0 12 "answered_of_work" ["t","answer"] (sp_answered_of_work K ⟨CE,CR,CW,CL,CN,CP,aMARKS,aSETTING_BOUNDS,aCARET,f60⟩):=⟨⟨f61,_,PySem.W.mg_of X G a_answered_of_work,k_answered_of_work,b61,(ok_answered_of_work F61 T C_numbers_of_cost C_read_work C_Reader_init)⟩⟩
 have fin:=ok_cost (P:=P) (w:=w) (base:=base) F62 T C_answered_of_work
 exact fin
end Vp
theorem Vp.ans_cost (l:List Int) (h:(PageNeutral.text l).length≤8191):(PyWqasbc.cost l).map L2.V.int=Vp.ansV (PageNeutral.text l):=by
 have e:PyWqasbc.cost l=PageNeutral.shown (VhG.answer (.cost (PageNeutral.text l))):=rfl
 rw [e]
 unfold VhG.answer VhG.ofWork Vp.ansV
 dsimp only
 rw [if_neg (show ¬ VhPage.MOST < (PageNeutral.text l).length by unfold VhPage.MOST; omega)]
 cases VhPage.readWork (PageNeutral.text l) with
 | error i=>rfl
 | ok w=>rfl
theorem Vp.u8_map (l:List Int) (h:∀ x ∈ l,0≤x∧x≤255):l.map L2.V.int=Vp.bsV (PageNeutral.text l):=by
 unfold Vp.bsV PageNeutral.text
 rw [List.map_map]
 refine List.map_congr_left fun x hx=>?_
 have b:=h x hx
 show L2.V.int x=L2.V.int ((UInt8.ofNat x.toNat).toNat:Int)
 rw [UInt8.toNat_ofNat',Nat.mod_eq_of_lt (by omega),Int.toNat_of_nonneg b.1]
open PySem PySem.W PyProof.Rows
set_option maxRecDepth 100000 in
set_option maxHeartbeats 0 in
theorem PySem.Challenge.cw_vellumpages_s05_cost_holds : PySem.Challenge.rw_vellumpages_s05_cost.Holds := by
 w_on; k_headS; (case hw=>exact ⟨[.list []],by decide +kernel,by decide +kernel⟩)
 k_fillS
 refine L2.walk_specK (r:=PySem.Challenge.rw_vellumpages_s05_cost) (k:=13) (CX:=L2.CX0) (ps:=["t"]) (sp:=fun K=>Vp.sp_cost K Vp.ad0) (by decide +kernel) rfl rfl ⟨rfl,by decide,by decide⟩ (fun w h Y=>PySem.W.kIn_of Y) ?F ?S (fun _ _ _ _ z=>z)
 case F =>
  intro w mg fa h Y KX G hmg
  refine' Vp.all_mk KX G hmg ?qCE ?nl ?aCR ?pgR ?hdR ?poR ?saR ?mkR ?kcR ?nR_t ?nR_at ?aCW ?pgW ?hdW ?poW ?saW ?mkW ?kcW ?nW_width ?nW_height ?nW_indent ?nW_every ?nW_anew ?nW_loose ?nW_rows ?nW_head ?nW_paragraphs ?nW_words ?nW_signs ?nW_entries ?aCL ?pgL ?hdL ?poL ?saL ?mkL ?kcL ?nL_first ?nL_end ?nL_opens ?nL_closes ?nL_taken ?nL_note ?aCN ?pgN ?hdN ?poN ?saN ?mkN ?kcN ?nN_things ?nN_takes ?nN_tails ?aCP ?pgP ?hdP ?poP ?saP ?mkP ?kcP ?nP_kind ?nP_first ?nP_end ?nP_came ?nP_own ?nP_rest ?nP_cost ?aCE ?iBLANK ?iFIRST_LETTER ?iLAST_CHARACTER ?iWHOLE ?iCUT ?iFOOT_ALONE ?iNO_BYTE ?iMOST_ROWS ?iMOST_PARAGRAPHS ?iMOST_WORDS ?iMOST_SIGNS ?iMOST_ENTRIES ?iMOST_TOKENS ?iMOST_TOKENS_OF_ENTRY ?iMOST_LETTERS ?iMOST_SIGN_THINGS ?iMOST_SIGN_CHARACTERS ?iMOST_TEXT_BYTES ?gMARKS ?lMARKS ?gSETTING_BOUNDS ?lSETTING_BOUNDS ?lSETTING_BOUNDS0 ?lSETTING_BOUNDS1 ?lSETTING_BOUNDS2 ?lSETTING_BOUNDS3 ?lSETTING_BOUNDS4 ?lSETTING_BOUNDS5 ?gCARET ?lCARET ?bl_len ?bl_ord ?bl_min ?bl_max ?bl_range ?bl_enumerate ?bl_str ?bl_list ?bl_sum ?a_is_letter ?l_is_letter ?c_is_letter ?k_is_letter ?a_begins_some ?l_begins_some ?c_begins_some ?k_begins_some ?a_size_by_lead ?l_size_by_lead ?c_size_by_lead ?k_size_by_lead ?a_bounds_behind ?l_bounds_behind ?c_bounds_behind ?k_bounds_behind ?a_Reader_init ?i_Reader_init ?l_Reader_init ?c_Reader_init ?k_Reader_init ?a_Reader_peek ?i_Reader_peek ?l_Reader_peek ?c_Reader_peek ?k_Reader_peek ?a_Reader_sees ?i_Reader_sees ?l_Reader_sees ?c_Reader_sees ?k_Reader_sees ?a_Reader_take ?i_Reader_take ?l_Reader_take ?c_Reader_take ?k_Reader_take ?a_Reader_take_end ?i_Reader_take_end ?l_Reader_take_end ?c_Reader_take_end ?k_Reader_take_end ?a_Reader_take_digit ?i_Reader_take_digit ?l_Reader_take_digit ?c_Reader_take_digit ?k_Reader_take_digit ?a_Reader_take_number ?i_Reader_take_number ?l_Reader_take_number ?c_Reader_take_number ?k_Reader_take_number ?a_Reader_take_long_letter ?i_Reader_take_long_letter ?l_Reader_take_long_letter ?c_Reader_take_long_letter ?k_Reader_take_long_letter ?a_Reader_take_character ?i_Reader_take_character ?l_Reader_take_character ?c_Reader_take_character ?k_Reader_take_character ?a_Reader_take_thing ?i_Reader_take_thing ?l_Reader_take_thing ?c_Reader_take_thing ?k_Reader_take_thing ?a_Reader_take_things ?i_Reader_take_things ?l_Reader_take_things ?c_Reader_take_things ?k_Reader_take_things ?a_joined ?l_joined ?c_joined ?k_joined ?a_Work_init ?i_Work_init ?l_Work_init ?c_Work_init ?k_Work_init ?a_read_settings ?l_read_settings ?c_read_settings ?k_read_settings ?a_read_rows ?l_read_rows ?c_read_rows ?k_read_rows ?a_read_paragraphs ?l_read_paragraphs ?c_read_paragraphs ?k_read_paragraphs ?a_read_tokens ?l_read_tokens ?c_read_tokens ?k_read_tokens ?a_read_entries ?l_read_entries ?c_read_entries ?k_read_entries ?a_read_signs ?l_read_signs ?c_read_signs ?k_read_signs ?a_read_work ?l_read_work ?c_read_work ?k_read_work ?a_cells ?l_cells ?c_cells ?k_cells ?a_cells_of_thing ?l_cells_of_thing ?c_cells_of_thing ?k_cells_of_thing ?a_characters_of ?l_characters_of ?c_characters_of ?k_characters_of ?a_line_cost ?l_line_cost ?c_line_cost ?k_line_cost ?a_best_from ?l_best_from ?c_best_from ?k_best_from ?a_tails_of ?l_tails_of ?c_tails_of ?k_tails_of ?a_ends_of ?l_ends_of ?c_ends_of ?k_ends_of ?a_place_among_like ?l_place_among_like ?c_place_among_like ?k_place_among_like ?a_key_of ?l_key_of ?c_key_of ?k_key_of ?a_number_thing ?l_number_thing ?c_number_thing ?k_number_thing ?a_first_room ?l_first_room ?c_first_room ?k_first_room ?a_Note_init ?i_Note_init ?l_Note_init ?c_Note_init ?k_Note_init ?a_count_foot_lines ?l_count_foot_lines ?c_count_foot_lines ?k_count_foot_lines ?a_Line_init ?i_Line_init ?l_Line_init ?c_Line_init ?k_Line_init ?a_word_takes ?l_word_takes ?c_word_takes ?k_word_takes ?a_room_of ?l_room_of ?c_room_of ?k_room_of ?a_lines_of_paragraph ?l_lines_of_paragraph ?c_lines_of_paragraph ?k_lines_of_paragraph ?a_things_of_notes ?l_things_of_notes ?c_things_of_notes ?k_things_of_notes ?a_lines_of ?l_lines_of ?c_lines_of ?k_lines_of ?a_Page_init ?i_Page_init ?l_Page_init ?c_Page_init ?k_Page_init ?a_number_of_line ?l_number_of_line ?c_number_of_line ?k_number_of_line ?a_own_foot_lines ?l_own_foot_lines ?c_own_foot_lines ?k_own_foot_lines ?a_wanted ?l_wanted ?c_wanted ?k_wanted ?a_whole_pages ?l_whole_pages ?c_whole_pages ?k_whole_pages ?a_may_be_whole ?l_may_be_whole ?c_may_be_whole ?k_may_be_whole ?a_loose_cost ?l_loose_cost ?c_loose_cost ?k_loose_cost ?a_whole_cost ?l_whole_cost ?c_whole_cost ?k_whole_cost ?a_best_whole ?l_best_whole ?c_best_whole ?k_best_whole ?a_whole_page ?l_whole_page ?c_whole_page ?k_whole_page ?a_cut_page ?l_cut_page ?c_cut_page ?k_cut_page ?a_foot_alone ?l_foot_alone ?c_foot_alone ?k_foot_alone ?a_forced_page ?l_forced_page ?c_forced_page ?k_forced_page ?a_cost_from ?l_cost_from ?c_cost_from ?k_cost_from ?a_costs_of ?l_costs_of ?c_costs_of ?k_costs_of ?a_pages_of ?l_pages_of ?c_pages_of ?k_pages_of ?a_cost_of_line ?l_cost_of_line ?c_cost_of_line ?k_cost_of_line ?a_numbers_of_cost ?l_numbers_of_cost ?c_numbers_of_cost ?k_numbers_of_cost ?a_answered_of_work ?l_answered_of_work ?c_answered_of_work ?k_answered_of_work ?a_cost ?l_cost ?c_cost ?k_cost
  (case aCR=>k_is)
  (case pgR=>k_is)
  (case hdR=>k_is)
  (case poR=>k_is)
  (case saR=>k_is)
  (case mkR=>k_is)
  (case kcR=>k_is)
  (case nR_t=>k_is)
  (case nR_at=>k_is)
  (case aCW=>k_is)
  (case pgW=>k_is)
  (case hdW=>k_is)
  (case poW=>k_is)
  (case saW=>k_is)
  (case mkW=>k_is)
  (case kcW=>k_is)
  (case nW_width=>k_is)
  (case nW_height=>k_is)
  (case nW_indent=>k_is)
  (case nW_every=>k_is)
  (case nW_anew=>k_is)
  (case nW_loose=>k_is)
  (case nW_rows=>k_is)
  (case nW_head=>k_is)
  (case nW_paragraphs=>k_is)
  (case nW_words=>k_is)
  (case nW_signs=>k_is)
  (case nW_entries=>k_is)
  (case aCL=>k_is)
  (case pgL=>k_is)
  (case hdL=>k_is)
  (case poL=>k_is)
  (case saL=>k_is)
  (case mkL=>k_is)
  (case kcL=>k_is)
  (case nL_first=>k_is)
  (case nL_end=>k_is)
  (case nL_opens=>k_is)
  (case nL_closes=>k_is)
  (case nL_taken=>k_is)
  (case nL_note=>k_is)
  (case aCN=>k_is)
  (case pgN=>k_is)
  (case hdN=>k_is)
  (case poN=>k_is)
  (case saN=>k_is)
  (case mkN=>k_is)
  (case kcN=>k_is)
  (case nN_things=>k_is)
  (case nN_takes=>k_is)
  (case nN_tails=>k_is)
  (case aCP=>k_is)
  (case pgP=>k_is)
  (case hdP=>k_is)
  (case poP=>k_is)
  (case saP=>k_is)
  (case mkP=>k_is)
  (case kcP=>k_is)
  (case nP_kind=>k_is)
  (case nP_first=>k_is)
  (case nP_end=>k_is)
  (case nP_came=>k_is)
  (case nP_own=>k_is)
  (case nP_rest=>k_is)
  (case nP_cost=>k_is)
  (case aCE=>k_is)
  (case iBLANK=>k_is)
  (case iFIRST_LETTER=>k_is)
  (case iLAST_CHARACTER=>k_is)
  (case iWHOLE=>k_is)
  (case iCUT=>k_is)
  (case iFOOT_ALONE=>k_is)
  (case iNO_BYTE=>k_is)
  (case iMOST_ROWS=>k_is)
  (case iMOST_PARAGRAPHS=>k_is)
  (case iMOST_WORDS=>k_is)
  (case iMOST_SIGNS=>k_is)
  (case iMOST_ENTRIES=>k_is)
  (case iMOST_TOKENS=>k_is)
  (case iMOST_TOKENS_OF_ENTRY=>k_is)
  (case iMOST_LETTERS=>k_is)
  (case iMOST_SIGN_THINGS=>k_is)
  (case iMOST_SIGN_CHARACTERS=>k_is)
  (case iMOST_TEXT_BYTES=>k_is)
  (case gMARKS=>k_is)
  (case lMARKS=>k_is)
  (case gSETTING_BOUNDS=>k_is)
  (case lSETTING_BOUNDS=>k_is)
  (case lSETTING_BOUNDS0=>k_is)
  (case lSETTING_BOUNDS1=>k_is)
  (case lSETTING_BOUNDS2=>k_is)
  (case lSETTING_BOUNDS3=>k_is)
  (case lSETTING_BOUNDS4=>k_is)
  (case lSETTING_BOUNDS5=>k_is)
  (case gCARET=>k_is)
  (case lCARET=>k_is)
  (case bl_len=>k_is)
  (case bl_ord=>k_is)
  (case bl_min=>k_is)
  (case bl_max=>k_is)
  (case bl_range=>k_is)
  (case bl_enumerate=>k_is)
  (case bl_str=>k_is)
  (case bl_list=>k_is)
  (case bl_sum=>k_is)
  (case a_is_letter=>k_is)
  (case l_is_letter=>k_is)
  (case c_is_letter=>k_is)
  (case k_is_letter=>k_is)
  (case a_begins_some=>k_is)
  (case l_begins_some=>k_is)
  (case c_begins_some=>k_is)
  (case k_begins_some=>k_is)
  (case a_size_by_lead=>k_is)
  (case l_size_by_lead=>k_is)
  (case c_size_by_lead=>k_is)
  (case k_size_by_lead=>k_is)
  (case a_bounds_behind=>k_is)
  (case l_bounds_behind=>k_is)
  (case c_bounds_behind=>k_is)
  (case k_bounds_behind=>k_is)
  (case a_Reader_init=>k_is)
  (case i_Reader_init=>k_is)
  (case l_Reader_init=>k_is)
  (case c_Reader_init=>k_is)
  (case k_Reader_init=>k_is)
  (case a_Reader_peek=>k_is)
  (case i_Reader_peek=>k_is)
  (case l_Reader_peek=>k_is)
  (case c_Reader_peek=>k_is)
  (case k_Reader_peek=>k_is)
  (case a_Reader_sees=>k_is)
  (case i_Reader_sees=>k_is)
  (case l_Reader_sees=>k_is)
  (case c_Reader_sees=>k_is)
  (case k_Reader_sees=>k_is)
  (case a_Reader_take=>k_is)
  (case i_Reader_take=>k_is)
  (case l_Reader_take=>k_is)
  (case c_Reader_take=>k_is)
  (case k_Reader_take=>k_is)
  (case a_Reader_take_end=>k_is)
  (case i_Reader_take_end=>k_is)
  (case l_Reader_take_end=>k_is)
  (case c_Reader_take_end=>k_is)
  (case k_Reader_take_end=>k_is)
  (case a_Reader_take_digit=>k_is)
  (case i_Reader_take_digit=>k_is)
  (case l_Reader_take_digit=>k_is)
  (case c_Reader_take_digit=>k_is)
  (case k_Reader_take_digit=>k_is)
  (case a_Reader_take_number=>k_is)
  (case i_Reader_take_number=>k_is)
  (case l_Reader_take_number=>k_is)
  (case c_Reader_take_number=>k_is)
  (case k_Reader_take_number=>k_is)
  (case a_Reader_take_long_letter=>k_is)
  (case i_Reader_take_long_letter=>k_is)
  (case l_Reader_take_long_letter=>k_is)
  (case c_Reader_take_long_letter=>k_is)
  (case k_Reader_take_long_letter=>k_is)
  (case a_Reader_take_character=>k_is)
  (case i_Reader_take_character=>k_is)
  (case l_Reader_take_character=>k_is)
  (case c_Reader_take_character=>k_is)
  (case k_Reader_take_character=>k_is)
  (case a_Reader_take_thing=>k_is)
  (case i_Reader_take_thing=>k_is)
  (case l_Reader_take_thing=>k_is)
  (case c_Reader_take_thing=>k_is)
  (case k_Reader_take_thing=>k_is)
  (case a_Reader_take_things=>k_is)
  (case i_Reader_take_things=>k_is)
  (case l_Reader_take_things=>k_is)
  (case c_Reader_take_things=>k_is)
  (case k_Reader_take_things=>k_is)
  (case a_joined=>k_is)
  (case l_joined=>k_is)
  (case c_joined=>k_is)
  (case k_joined=>k_is)
  (case a_Work_init=>k_is)
  (case i_Work_init=>k_is)
  (case l_Work_init=>k_is)
  (case c_Work_init=>k_is)
  (case k_Work_init=>k_is)
  (case a_read_settings=>k_is)
  (case l_read_settings=>k_is)
  (case c_read_settings=>k_is)
  (case k_read_settings=>k_is)
  (case a_read_rows=>k_is)
  (case l_read_rows=>k_is)
  (case c_read_rows=>k_is)
  (case k_read_rows=>k_is)
  (case a_read_paragraphs=>k_is)
  (case l_read_paragraphs=>k_is)
  (case c_read_paragraphs=>k_is)
  (case k_read_paragraphs=>k_is)
  (case a_read_tokens=>k_is)
  (case l_read_tokens=>k_is)
  (case c_read_tokens=>k_is)
  (case k_read_tokens=>k_is)
  (case a_read_entries=>k_is)
  (case l_read_entries=>k_is)
  (case c_read_entries=>k_is)
  (case k_read_entries=>k_is)
  (case a_read_signs=>k_is)
  (case l_read_signs=>k_is)
  (case c_read_signs=>k_is)
  (case k_read_signs=>k_is)
  (case a_read_work=>k_is)
  (case l_read_work=>k_is)
  (case c_read_work=>k_is)
  (case k_read_work=>k_is)
  (case a_cells=>k_is)
  (case l_cells=>k_is)
  (case c_cells=>k_is)
  (case k_cells=>k_is)
  (case a_cells_of_thing=>k_is)
  (case l_cells_of_thing=>k_is)
  (case c_cells_of_thing=>k_is)
  (case k_cells_of_thing=>k_is)
  (case a_characters_of=>k_is)
  (case l_characters_of=>k_is)
  (case c_characters_of=>k_is)
  (case k_characters_of=>k_is)
  (case a_line_cost=>k_is)
  (case l_line_cost=>k_is)
  (case c_line_cost=>k_is)
  (case k_line_cost=>k_is)
  (case a_best_from=>k_is)
  (case l_best_from=>k_is)
  (case c_best_from=>k_is)
  (case k_best_from=>k_is)
  (case a_tails_of=>k_is)
  (case l_tails_of=>k_is)
  (case c_tails_of=>k_is)
  (case k_tails_of=>k_is)
  (case a_ends_of=>k_is)
  (case l_ends_of=>k_is)
  (case c_ends_of=>k_is)
  (case k_ends_of=>k_is)
  (case a_place_among_like=>k_is)
  (case l_place_among_like=>k_is)
  (case c_place_among_like=>k_is)
  (case k_place_among_like=>k_is)
  (case a_key_of=>k_is)
  (case l_key_of=>k_is)
  (case c_key_of=>k_is)
  (case k_key_of=>k_is)
  (case a_number_thing=>k_is)
  (case l_number_thing=>k_is)
  (case c_number_thing=>k_is)
  (case k_number_thing=>k_is)
  (case a_first_room=>k_is)
  (case l_first_room=>k_is)
  (case c_first_room=>k_is)
  (case k_first_room=>k_is)
  (case a_Note_init=>k_is)
  (case i_Note_init=>k_is)
  (case l_Note_init=>k_is)
  (case c_Note_init=>k_is)
  (case k_Note_init=>k_is)
  (case a_count_foot_lines=>k_is)
  (case l_count_foot_lines=>k_is)
  (case c_count_foot_lines=>k_is)
  (case k_count_foot_lines=>k_is)
  (case a_Line_init=>k_is)
  (case i_Line_init=>k_is)
  (case l_Line_init=>k_is)
  (case c_Line_init=>k_is)
  (case k_Line_init=>k_is)
  (case a_word_takes=>k_is)
  (case l_word_takes=>k_is)
  (case c_word_takes=>k_is)
  (case k_word_takes=>k_is)
  (case a_room_of=>k_is)
  (case l_room_of=>k_is)
  (case c_room_of=>k_is)
  (case k_room_of=>k_is)
  (case a_lines_of_paragraph=>k_is)
  (case l_lines_of_paragraph=>k_is)
  (case c_lines_of_paragraph=>k_is)
  (case k_lines_of_paragraph=>k_is)
  (case a_things_of_notes=>k_is)
  (case l_things_of_notes=>k_is)
  (case c_things_of_notes=>k_is)
  (case k_things_of_notes=>k_is)
  (case a_lines_of=>k_is)
  (case l_lines_of=>k_is)
  (case c_lines_of=>k_is)
  (case k_lines_of=>k_is)
  (case a_Page_init=>k_is)
  (case i_Page_init=>k_is)
  (case l_Page_init=>k_is)
  (case c_Page_init=>k_is)
  (case k_Page_init=>k_is)
  (case a_number_of_line=>k_is)
  (case l_number_of_line=>k_is)
  (case c_number_of_line=>k_is)
  (case k_number_of_line=>k_is)
  (case a_own_foot_lines=>k_is)
  (case l_own_foot_lines=>k_is)
  (case c_own_foot_lines=>k_is)
  (case k_own_foot_lines=>k_is)
  (case a_wanted=>k_is)
  (case l_wanted=>k_is)
  (case c_wanted=>k_is)
  (case k_wanted=>k_is)
  (case a_whole_pages=>k_is)
  (case l_whole_pages=>k_is)
  (case c_whole_pages=>k_is)
  (case k_whole_pages=>k_is)
  (case a_may_be_whole=>k_is)
  (case l_may_be_whole=>k_is)
  (case c_may_be_whole=>k_is)
  (case k_may_be_whole=>k_is)
  (case a_loose_cost=>k_is)
  (case l_loose_cost=>k_is)
  (case c_loose_cost=>k_is)
  (case k_loose_cost=>k_is)
  (case a_whole_cost=>k_is)
  (case l_whole_cost=>k_is)
  (case c_whole_cost=>k_is)
  (case k_whole_cost=>k_is)
  (case a_best_whole=>k_is)
  (case l_best_whole=>k_is)
  (case c_best_whole=>k_is)
  (case k_best_whole=>k_is)
  (case a_whole_page=>k_is)
  (case l_whole_page=>k_is)
  (case c_whole_page=>k_is)
  (case k_whole_page=>k_is)
  (case a_cut_page=>k_is)
  (case l_cut_page=>k_is)
  (case c_cut_page=>k_is)
  (case k_cut_page=>k_is)
  (case a_foot_alone=>k_is)
  (case l_foot_alone=>k_is)
  (case c_foot_alone=>k_is)
  (case k_foot_alone=>k_is)
  (case a_forced_page=>k_is)
  (case l_forced_page=>k_is)
  (case c_forced_page=>k_is)
  (case k_forced_page=>k_is)
  (case a_cost_from=>k_is)
  (case l_cost_from=>k_is)
  (case c_cost_from=>k_is)
  (case k_cost_from=>k_is)
  (case a_costs_of=>k_is)
  (case l_costs_of=>k_is)
  (case c_costs_of=>k_is)
  (case k_costs_of=>k_is)
  (case a_pages_of=>k_is)
  (case l_pages_of=>k_is)
  (case c_pages_of=>k_is)
  (case k_pages_of=>k_is)
  (case a_cost_of_line=>k_is)
  (case l_cost_of_line=>k_is)
  (case c_cost_of_line=>k_is)
  (case k_cost_of_line=>k_is)
  (case a_numbers_of_cost=>k_is)
  (case l_numbers_of_cost=>k_is)
  (case c_numbers_of_cost=>k_is)
  (case k_numbers_of_cost=>k_is)
  (case a_answered_of_work=>k_is)
  (case l_answered_of_work=>k_is)
  (case c_answered_of_work=>k_is)
  (case k_answered_of_work=>k_is)
  (case a_cost=>k_is)
  (case l_cost=>k_is)
  (case c_cost=>k_is)
  (case k_cost=>k_is)
  (case qCE=>kernel_rfl)
  (case nl=>kernel_rfl)
 case S =>
  intro K H xs a hO hwi hask hx
  cases hx with
  | cons h1 h2 =>
   cases h2
   cases h1 with
   | lst hs ha =>
    have e:=L2.ints_dw a.1 _ ha
    subst e
    have q:((Codec.inLen 0 8191 a.1 && a.1.all (Codec.inInt 0 255)) && true)=true:=hwi
    rw [Bool.and_eq_true,Bool.and_eq_true] at q
    have hin:∀ x ∈ a.1,0≤x∧x≤255:=fun x hx=>Codec.inInt_iff.mp (List.all_eq_true.mp q.1.2 x hx)
    rw [Vp.u8_map _ hin] at hs
    refine ⟨_,PageNeutral.text a.1,rfl,hs,?_,fun H' p hp=>.lst (L2.SqL.of hp) ?_⟩
    ·unfold PageNeutral.text
     rw [List.length_map]
     exact (Codec.inNat_iff.mp q.1.1).2
    ·have ee:=Vp.ans_cost a.1 (show (PageNeutral.text a.1).length≤8191 by unfold PageNeutral.text; rw [List.length_map]; exact (Codec.inNat_iff.mp q.1.1).2)
     rw [← ee]
     exact L2.dw_ints _
end
