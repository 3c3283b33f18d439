import PyProof.Rows.All
import Wide.All
import OpenK.AllK
import Wide.FinOn
import PyProof.EqAt
import PyProof.EqKinds
import PyProof.TupleCall
import KE.BitLaws
import Open.SpecLaws
import KE.OsHead
import KE.OsGo
import PyProof.Rows.FStr
import PyProof.Rows.StrIntSpec
import PyProof.Rows.StrPadWhole
import PyProof.StrCalls
import PyProof.StrOps2
import PyProof.Draws
import PyProof.EnumMake
import PyProof.EnumFor
import PyProof.CallType
import PyProof.Rows.CallKwBuiltin
import KE.KDictLaws
import KE.KDictList
import KE.KSortTupG
import PySem.Challenge.RW_vellumpages_s02_pages
set_option compiler.extract_closed false
set_option bootstrap.genMatcherCode false
set_option Elab.async false
set_option linter.all false
open PySem.W (Frag findIn nsIn keepIn fnOf mg_of plainGet codeIn ns_none_of hasDictIn makesIn envX kla_obj plainOver isFn)
open VhPage (laid Work Settings Entry someChars_ broken readWork widths_ rowLines LARGEST paras_ entries_ signs_ lineOf linesFrom)
def q_10(_:0=0:=by rfl):=Nat
def q_1:=q_10._auto_1
def q_20(_:0=0:=by decide):=Nat
def q_2:=q_20._auto_1
def q_30(_:0=0:=by first | exact .inl rfl | exact .inr rfl | assumption):=Nat
def q_3:=q_30._auto_1
def q_40(_:0=0:=by intro _;rfl):=Nat
def q_4:=q_40._auto_1
def q_50(_:0=0:=by first | exact Or.inl rfl | exact Or.inr (Or.inl rfl) | exact Or.inr (Or.inr rfl)):=Nat
def q_5:=q_50._auto_1
def y01:=@List.length_append
def y02:=@List.length_cons
def y03:=@List.length_map
def y04:=@List.length_nil
def y05:=@List.map_cons
def y06:=@List.sum_cons
def y07:=@List.map_append
def y08:=@List.append_nil
def y09:=@List.getElem?_eq_getElem
def y0a:=@List.getElem?_eq_some_iff
def y0b:=@List.mem_cons
def y0c:=@List.mem_cons_of_mem
def y0d:=@List.mem_append
def y0e:=@List.take_of_length_le
def y0f:=@List.mem_of_getElem?
def y0g:=@List.length_replicate
def y0h:=@List.length_take
def y0i:=@List.length_drop
def y0j:=@List.append_assoc
def y0k:=@List.mem_map
def y0l:=@List.getElem?_map
def y0m:=@List.flatMap_cons
def y0n:=@List.mem_cons_self
def y0o:=@List.sum_append
def y0p:=@List.getElem?_eq_none
def y0q:=@Nat.le_trans
def y0r:=@Nat.le_refl
def y0s:=@Nat.lt_of_le_of_lt
def y0t:=@Nat.lt_of_lt_of_le
def y0u:=@Nat.zero_le
def y0v:=@PySem.Heap.get?_push_of_some
def y0w:=@PySem.Heap.get?_push_size
def y0x:=@PySem.Heap.lt_size
def y0y:=@PySem.F.plainAttrs_list
def y0z:=@PySem.F.slot_list_extend
def y10:=@PySem.F.type_list_extend
def y11:=@PySem.F.slot_list_append
def y12:=@PySem.F.type_list_append
def y13:=@PySem.boot_len
section
set_option maxRecDepth 100000
namespace L2
open PySem PySem.Spec PyProof.Rows
abbrev Key:=Sum Int Str
noncomputable def ZhY:Key->Value->Bool
 | .inl k,v=>Value.isInt k v
 | .inr x,v=>Value.isStrOf x v
noncomputable def keyH (w:World):Key->Int
 | .inl k=>hashInt k
 | .inr x=>hashStr w x
theorem Yh:∀{k:Key}{v:Value},ZhY k v=true->(∃i t,k=Sum.inl i/\v=Value.int i t)\/(∃x t,k=Sum.inr x/\v=Value.str x t)
 | .inl i,v,h=>by
  obtain⟨t,e⟩:=Value.isInt_shape (k:=i) (v:=v) h;exact .inl ⟨i,t,rfl,e⟩
 | .inr x,v,h=>by
  obtain⟨t,e⟩:=Value.isStrOf_shape (x:=x) (v:=v) h;exact .inr ⟨x,t,rfl,e⟩
def ZiR (i:Int)(t:Tok):ZhY (.inl i) (.int i t)=true:=by simp[ZhY,Value.isInt]
def ZiQ (x:Str)(t:Tok):ZhY (.inr x) (.str x t)=true:=by simp[ZhY,Value.isStrOf]
def Zmv (a b:Int):decide ((Sum.inl a:Key)=Sum.inl b)=(a==b):=by
 by_cases e:a=b
 ·subst e;simp
 ·have h:¬ (Sum.inl a:Key)=Sum.inl b:=fun q=>e (Sum.inl.inj q)
  rw[decide_eq_false h];exact(beq_eq_false_iff_ne.mpr e).symm
def Zms (a b:Str):decide ((Sum.inr a:Key)=Sum.inr b)=decide (a=b):=by
 by_cases e:a=b
 ·subst e;simp
 ·have h:¬ (Sum.inr a:Key)=Sum.inr b:=fun q=>e (Sum.inr.inj q)
  rw[decide_eq_false h,decide_eq_false e]
def Zmu (a:Int)(b:Str):decide ((Sum.inl a:Key)=Sum.inr b)=false:=decide_eq_false (fun q=>nomatch q)
def Zmt (a:Str)(b:Int):decide ((Sum.inr a:Key)=Sum.inl b)=false:=decide_eq_false (fun q=>nomatch q)
noncomputable def V7 (prog:Program)(w:World):PySem.KeyKind prog w Key where
 is:=ZhY
 hash:=keyH w
 inj:=fun v a b ha hb=>by
  rcases Yh ha with⟨i,t,rfl,rfl⟩ | ⟨x,t,rfl,rfl⟩
  ·rcases Yh hb with⟨j,u,rfl,e⟩ | ⟨y,u,rfl,e⟩
   ·injection e with e1 _;rw[e1]
   ·exact nomatch e
  ·rcases Yh hb with⟨j,u,rfl,e⟩ | ⟨y,u,rfl,e⟩
   ·exact nomatch e
   ·injection e with e1 _;rw[e1]
 byValue:=fun k v h=>by
  rcases Yh h with⟨i,t,rfl,rfl⟩ | ⟨x,t,rfl,rfl⟩ <;> rfl
 pyHash:=fun hv h=>by
  rcases Yh hv with⟨i,t,rfl,rfl⟩ | ⟨x,t,rfl,rfl⟩
  ·exact wpAny_pyHash_int h
  ·exact wpAny_pyHash_str h
 eqBool:=fun hu hv h=>by
  rcases Yh hu with⟨i,t,rfl,rfl⟩ | ⟨x,t,rfl,rfl⟩
  ·rcases Yh hv with⟨j,u,rfl,rfl⟩ | ⟨y,u,rfl,rfl⟩
   ·rw[Zmv] at h;exact wpAny_eqBool_int h
   ·rw[Zmu] at h;exact SeqAt.EqAt.int_str i t y u _ _ _ _ h
  ·rcases Yh hv with⟨j,u,rfl,rfl⟩ | ⟨y,u,rfl,rfl⟩
   ·rw[Zmt] at h;exact SeqAt.EqAt.str_int x t j u _ _ _ _ h
   ·rw[Zms] at h;exact wpAny_eqBool_str h
 «strs»:=fun k x t v h=>by
  rcases Yh h with⟨i,u,rfl,e⟩ | ⟨y,u,rfl,e⟩
  ·exact nomatch e
  ·injection e with e1 _;subst e1;cases v <;> rfl
def Zgm (prog:Program)(w:World)(i:Int)(t:Tok):(V7 prog w).is (.inl i) (.int i t)=true:=ZiR i t
def Zgl (prog:Program)(w:World)(x:Str)(t:Tok):(V7 prog w).is (.inr x) (.str x t)=true:=ZiQ x t
inductive V where
 | non | bl (b:Bool) | int (i:Int) | str (x:Str) | byt (b:Array UInt8) | flt (b:UInt64) | ref (a:Addr) | ty (n:String)
 deriving DecidableEq
def RelV:V->Value->Prop
 | .non,u=>u=Value.none
 | .bl b,u=>u=Value.bool b
 | .int i,u=>∃t,u=Value.int i t
 | .str x,u=>∃t,u=Value.str x t
 | .byt b,u=>∃t,u=Value.bytes b t
 | .flt b,u=>∃t,u=Value.float b t
 | .ref a,u=>u=Value.ref a
 | .ty n,u=>u=Value.type n
abbrev Vals:List V->List Value->Prop:=Paired RelV
theorem Vals.length {xs:List V}{us:List Value}(r:Vals xs us):xs.length=us.length:=Paired.length r
theorem Vals.get:∀{xs:List V}{us:List Value}{i:Nat}{x:V},Vals xs us->xs[i]?=some x->∃u,us[i]?=some u/\RelV x u
 | _,_,_,_,.nil,e=>by simp at e
 | _,_,0,_,.cons r _,e=>by simp at e;subst e;exact⟨_,rfl,r⟩
 | _,_,i+1,x,.cons _ t,e=>by
  obtain⟨u,h1,h2⟩:=Vals.get (i:=i) (x:=x) t (by simpa using e);exact⟨u,by simpa using h1,h2⟩
theorem Vals.set {x:V}{u:Value}(r:RelV x u):∀{xs:List V}{us:List Value} (i:Nat),Vals xs us->Vals (xs.set i x) (us.set i u)
 | _,_,_,.nil=>.nil
 | _,_,0,.cons _ t=>.cons r t
 | _,_,i+1,.cons q t=>.cons q (Vals.set r i t)
theorem Vals.append:∀{xs ys:List V}{us ws:List Value},Vals xs us->Vals ys ws->Vals (xs++ys) (us++ws)
 | _,_,_,_,.nil,s=>s
 | _,_,_,_,.cons r t,s=>.cons r (Vals.append t s)
theorem Vals.take:∀{xs:List V}{us:List Value} (n:Nat),Vals xs us->Vals (xs.take n) (us.take n)
 | _,_,0,_=>.nil
 | _,_,_+1,.nil=>.nil
 | _,_,n+1,.cons r t=>.cons r (Vals.take n t)
theorem Vals.drop:∀{xs:List V}{us:List Value} (n:Nat),Vals xs us->Vals (xs.drop n) (us.drop n)
 | _,_,0,r=>r
 | _,_,_+1,.nil=>.nil
 | _,_,n+1,.cons _ t=>Vals.drop n t
def RelO:Option V->Option Value->Prop
 | some v,some u=>RelV v u
 | none,none=>True
 | _,_=>False
def KV {κ:Type}:List (κ×V)->List (κ×Value)->Prop:=Paired fun(p:κ×V) (q:κ×Value)=>p.1=q.1/\RelV p.2 q.2
noncomputable def kV:Key->V
 | .inl i=>.int i
 | .inr x=>.str x
inductive HO where
 /-- a list -/
 | lst (xs:List V)
 /-- a tuple (never changes) -/
 | tup (xs:List V)
 /-- a dict whose keys are ints and texts;one whose keys are tuples of ints and texts (the empty one is both) -/
 | dK (kvs:List (Key×V)) | dT (kvs:List (List Key×V))
 /-- a set of ints: its members,its size -/
 | set (S:Int->Bool) (n:Nat)
 /-- an instance of the class at C,its dict at dx,its attributes -/
 | ins (C dx:Addr) (fs:List (Str×V))
 /-- the dict of the instance at x -/
 | own (x:Addr)
 /-- the dict of an exception -/
 | xd (fs:List (Str×V))
 /-- a bound method,f of x -/
 | met (f x:Addr)
 /-- a range object lo,lo+1,.. below hi -/
 | rng (lo hi:Int)
 /-- a thing that is known to the object (the script;a dict while a loop walks it): read,never written while it is so -/
 | frz (o:Obj) (u:HO)
 /-- a code object's table -/
 | tbl (ps:Array Value)
 /-- any other thing,by what is true of its one object (a def of one's own: SetO a S n:=HO.ext fun h=>..) -/
 | ext (φ:Heap->Prop)
abbrev Hp:=Addr->Option HO
noncomputable def upd (H:Hp)(a:Addr)(o:HO):Hp:=fun b=>if b=a then some o else H b
def Zd {H:Hp}{a:Addr}{o:HO}:upd H a o a=some o:=by unfold upd;rw[if_pos rfl]
def Zk {H:Hp}{a b:Addr}{o:HO}(h:b≠a):upd H a o b=H b:=by unfold upd;rw[if_neg h]
def WP {H:Hp}{a:Addr}{o u:HO}:upd (upd H a o) a u=upd H a u:=by
 funext b;unfold upd;split <;> rfl
def WM {H:Hp}{a b:Addr}{o u:HO}(h:H a=some o)(h':H b=some u)(d:o≠u):a≠b:=by
 intro e;subst e;rw[h] at h';exact d (Option.some.inj h')
def Zf {H:Hp}{a b:Addr}{o:HO}(h:H a=some o)(h':H b=none):a≠b:=by
 intro e;subst e;rw[h] at h';cases h'
section
variable (P:Program)(w:World)
def Wd (H:Hp)(h:Heap)(a:Addr):HO->Prop
 | .lst xs=>xs.length<=sizeLine/\∃(its:List Value) (n:Nat),Vals xs its/\h.get? a=some { cls:=.type "list",data:=.seq its.toArray n }
 | .tup xs=>xs.length<=sizeLine/\∃its:List Value,Vals xs its/\IsTup h a its.toArray
 | .dK kvs=>kvs.length<=sizeLine/\(a==sysModules)=false/\∃vs,KV kvs vs/\h.DictOf (V7 P w) a vs
 | .dT kvs=>kvs.length<=sizeLine/\(a==sysModules)=false/\∃xs:List (List Key×Addr×Value),
   Paired (fun(p:List Key×V) (q:List Key×Addr×Value)=>p.1=q.1/\H q.2.1=some (.tup (p.1.map kV))/\RelV p.2 q.2.2) kvs xs /\
   ∃o es ep,h.get? a=some o/\o.ExactDict/\o.data=.dict es ep/\es.toList=xs.map (entryOfKey (tupleKind (V7 P w)))/\(xs.map (·.1)).Nodup
 | .set S n=>h.SetOf (intKind P w) a S n
 | .ins C dx fs=>H dx=some (.own a)/\fs.length<=1000/\dx≠a/\h.get? a=some (PySem.W.instObj C dx) /\
   ∃mA,h.Ns1 dx mA/\(∀f,RelO (fs.lookup f) (mA f))/\PySem.Within mA (fs.map (·.1))
 | .own _=>∃o,h.get? a=some o
 | .xd fs=>∃mA,h.Ns1 a mA/\∀f,RelO (fs.lookup f) (mA f)
 | .rng lo hi=>∃t u v,h.get? a=some { cls:=.type "range",data:=.fields #[.int lo t,.int hi u,.int 1 v] }
 | .frz o u=>h.get? a=some o/\Wd H h a u
 | .tbl ps=>h.get? a=some { cls:=.none,data:=.fields ps }
 | .met f x=>h.get? a=some (PySem.W.methodObj (.ref f) (.ref x))
 | .ext φ=>φ h/\(∃o,h.get? a=some o)/\∀h1 h2:Heap,φ h1->(∀o,h1.get? a=some o->h2.get? a=some o)->φ h2
def HOk (H:Hp)(h:Heap):Prop:=∀a o,H a=some o->Wd P w H h a o
end
section
variable {P:Program}{w:World}{H H':Hp}{h h':Heap}{a:Addr}{o:HO}
theorem Wd.lt (x:Wd P w H h a o):a<h.objs.size:=by
 cases o with
 | lst xs=>obtain⟨_,_,_,_,e⟩:=x;exact y0x e
 | tup xs=>obtain⟨_,_,_,p⟩:=x;exact p.lt
 | dK kvs=>obtain⟨_,_,_,_,o,_,_,e,_⟩:=x;exact y0x e
 | dT kvs=>obtain⟨_,_,_,_,o,_,_,e,_⟩:=x;exact y0x e
 | set S n=>obtain⟨o,_,_,_,e,_⟩:=x;exact y0x e
 | ins C dx fs=>obtain⟨_,_,_,e,_⟩:=x;exact y0x e
 | own y=>obtain⟨_,e⟩:=x;exact y0x e
 | xd fs=>obtain⟨_,⟨_,_,_,e,_⟩,_⟩:=x;exact y0x e
 | rng lo hi=>obtain⟨_,_,_,e⟩:=x;exact y0x e
 | frz ob u=>obtain⟨e,_⟩:=x;exact y0x e
 | tbl ps=>exact y0x (show h.get? a=some _ from x)
 | met f y=>exact y0x (show h.get? a=some _ from x)
 | ext φ=>obtain⟨_,⟨_,e⟩,_⟩:=x;exact y0x e
theorem Paired.mapP {α β:Type}{F G:α->β->Prop}:∀{l₁:List α}{l₂:List β},Paired F l₁ l₂->(∀a b,F a b->G a b)->Paired G l₁ l₂
 | _,_,.nil,_=>.nil
 | _,_,.cons r t,f=>.cons (f _ _ r) (Paired.mapP t f)
theorem Wd.stay (x:Wd P w H h a o)(k:∀b u,(b=a\/H b=some (.own a))->h.get? b=some u->h'.get? b=some u)
  (ho:∀b,H b=some (.own a)->H' b=some (.own a)) (ht:∀b xs,H b=some (.tup xs)->H' b=some (.tup xs)):Wd P w H' h' a o:=by
 induction o with
 | lst xs=>obtain⟨z,its,n,r,e⟩:=x;exact⟨z,its,n,r,k _ _ (.inl rfl) e⟩
 | tup xs=>obtain⟨z,its,r,ob,e,c⟩:=x;exact⟨z,its,r,ob,k _ _ (.inl rfl) e,c⟩
 | dK kvs=>obtain⟨z,y,vs,r,ob,es,ep,e,c⟩:=x;exact⟨z,y,vs,r,ob,es,ep,k _ _ (.inl rfl) e,c⟩
 | dT kvs =>
  obtain⟨z,y,xs,r,ob,es,ep,e,c⟩:=x;exact⟨z,y,xs,Paired.mapP r fun p q z=>⟨z.1,ht _ _ z.2.1,z.2.2⟩,ob,es,ep,k _ _ (.inl rfl) e,c⟩
 | set S n=>obtain⟨ob,es,ep,t,e,c⟩:=x;exact⟨ob,es,ep,t,k _ _ (.inl rfl) e,c⟩
 | ins C dx fs =>
  obtain⟨d,z,ne,e,mA,⟨od,es,ep,e2,c⟩,r⟩:=x;exact⟨ho _ d,z,ne,k _ _ (.inl rfl) e,mA,⟨od,es,ep,k _ _ (.inr d) e2,c⟩,r⟩
 | own y=>obtain⟨ob,e⟩:=x;exact⟨ob,k _ _ (.inl rfl) e⟩
 | xd fs=>obtain⟨mA,⟨od,es,ep,e,c⟩,r⟩:=x;exact⟨mA,⟨od,es,ep,k _ _ (.inl rfl) e,c⟩,r⟩
 | rng lo hi=>obtain⟨t,u,v,e⟩:=x;exact⟨t,u,v,k _ _ (.inl rfl) e⟩
 | frz ob u ih=>obtain⟨e,q⟩:=x;exact⟨k _ _ (.inl rfl) e,ih q⟩
 | tbl ps =>
  have e:h.get? a=some { cls:=.none,data:=.fields ps }:=x;show h'.get? a=some { cls:=.none,data:=.fields ps };exact k a _ (.inl rfl) e
 | met f y =>
  have e:h.get? a=some (PySem.W.methodObj (.ref f) (.ref y)):=x;show h'.get? a=some (PySem.W.methodObj (.ref f) (.ref y));exact k a _ (.inl rfl) e
 | ext φ=>obtain⟨p,⟨o,e⟩,st⟩:=x;exact⟨st _ _ p fun o q=>k _ _ (.inl rfl) q,⟨o,k _ _ (.inl rfl) e⟩,st⟩
theorem HOk.lt (x:HOk P w H h)(e:H a=some o):a<h.objs.size:=(x a o e).lt
theorem HOk.fresh (x:HOk P w H h)(e:h.objs.size<=a):H a=none:=by
 cases q:H a with
 | none=>rfl
 | some u=>exact absurd (y0t (x.lt q) e) (Nat.lt_irrefl _)
theorem HOk.kept (x:HOk P w H h)(k:∀b u,h.get? b=some u->h'.get? b=some u):HOk P w H h':=fun a o e =>
 (x a o e).stay (fun b u _ q=>k b u q) (fun _ q=>q) fun _ _ q=>q
theorem HOk.laid (x:HOk P w H h)(k:∀b u,h.get? b=some u->h'.get? b=some u)(hp:h.objs.size<=a)(new:Wd P w (upd H a o) h' a o):HOk P w (upd H a o) h':=fun b u e=>by
 have hn:=x.fresh hp;by_cases hb:b=a
 ·subst hb;rw[Zd] at e;cases e;exact new
 ·rw[Zk hb] at e;exact(x b u e).stay (fun c v _ q=>k c v q) (fun c q=>by rw[Zk (Zf q hn)];exact q) fun c xs q=>by rw[Zk (Zf q hn)];exact q
end
def Rd (H:Hp)(a:Addr)(u:HO):Prop:=H a=some u\/∃o,H a=some (.frz o u)
theorem Rd.ok {P:Program}{w:World}{H:Hp}{h:Heap}{a:Addr}{u:HO}(r:Rd H a u)(x:HOk P w H h):Wd P w H h a u:=by
 rcases r with r | ⟨o,r⟩
 ·exact x a u r
 ·obtain⟨_,q⟩:=x a _ r;exact q
def Mut:Option HO->Prop
 | some (.lst _)=>True
 | some (.dK _)=>True
 | some (.dT _)=>True
 | some (.set _ _)=>True
 | some (.ins _ _ _)=>True
 | some (.ext _)=>True
 | _=>False
section
variable {P:Program}{w:World}{H:Hp}{h h':Heap}{x e:Addr}{o':HO}
theorem HOk.write (ok:HOk P w H h)(mu:Mut (H x))(he:e=x\/H e=some (.own x))(k:∀b u,b≠e->h.get? b=some u->h'.get? b=some u)(heo:∃u,h'.get? e=some u)
  (new:Wd P w (upd H x o') h' x o'):HOk P w (upd H x o') h':=fun b u q=>by
 have nown:∀c y,H c=some (.own y)->c≠x:=fun c y r z=>by subst z;rw[r] at mu;exact mu
 have ntup:∀c xs,H c=some (.tup xs)->c≠x:=fun c xs r z=>by subst z;rw[r] at mu;exact mu
 by_cases hb:b=x
 ·subst hb;rw[Zd] at q;cases q;exact new
 ·rw[Zk hb] at q;by_cases hbe:b=e
  ·have q':H b=some (.own x):=by
    rcases he with z | z
    ·exact absurd (hbe.trans z) hb
    ·rw[hbe];exact z
   rw[q] at q';cases q';obtain⟨v,hv⟩:=heo;exact⟨v,by rw[hbe];exact hv⟩
  ·refine(ok b u q).stay (fun c v hc r=>k c v ?_ r) (fun c r=>by rw[Zk (nown c b r)];exact r) fun c xs r=>by rw[Zk (ntup c xs r)];exact r
   rcases hc with rfl | hc
   ·exact hbe
   ·rintro rfl;rcases he with z | z
    ·exact nown c b hc z
    ·rw[hc] at z;cases z;exact hb rfl
end
structure Un (fs ex:List Addr)(H H':Hp)(h h':Heap):Prop where
 keep:∀b o,h.get? b=some o->H b=none->b ∉ fs->b ∉ ex->h'.get? b=some o
 slot:∀b o,h.get? b=some o->H b=none->b∈fs->b ∉ ex->∃sl,h'.get? b=some { o with slots:=sl }
 free:∀b o,h.get? b=some o->H b=none->b ∉ ex->H' b=none
 there:∀b o,h.get? b=some o->b ∉ ex->∃o',h'.get? b=some o'
 tups:∀b xs,H b=some (.tup xs)->H' b=some (.tup xs)
 frzs:∀b o u,H b=some (.frz o u)->H' b=some (.frz o u)
 tbls:∀b ps,H b=some (.tbl ps)->∃more,H' b=some (.tbl (ps++more))
section
variable {fs fs' ex ex':List Addr}{H H1 H2:Hp}{h h1 h2 h':Heap}{a x e:Addr}{o:HO}
theorem Un.any (u:Un fs ex H H1 h h1){b:Addr}{ob:Obj}(q:h.get? b=some ob)(n:H b=none)(hx:b ∉ ex):∃sl,h1.get? b=some { ob with slots:=sl }:=by
 by_cases hb:b∈fs
 ·exact u.slot b ob q n hb hx
 ·exact⟨ob.slots,u.keep b ob q n hb hx⟩
theorem Un.kept (k:∀b u,h.get? b=some u->h'.get? b=some u):Un fs ex H H h h' :=
 ⟨fun b ob q _ _ _=>k b ob q,fun b ob q _ _ _=>⟨ob.slots,k b ob q⟩,fun _ _ _ n _=>n,fun b ob q _=>⟨ob,k b ob q⟩,fun _ _ q=>q,fun _ _ _ q=>q,fun _ ps q=>⟨#[],by rw[q];simp⟩⟩
theorem Un.refl:Un fs ex H H h h:=Un.kept fun _ _ q=>q
theorem Un.laid (k:∀b u,h.get? b=some u->h'.get? b=some u)(hp:h.objs.size<=a)(hn:H a=none):Un fs ex H (upd H a o) h h' where
 keep:=fun b u q _ _ _=>k b u q
 slot:=fun b u q _ _ _=>⟨u.slots,k b u q⟩
 free:=fun b u q n _=>by rw[Zk (Nat.ne_of_lt (y0t (y0x q) hp))];exact n
 there:=fun b u q _=>⟨u,k b u q⟩
 tups:=fun b xs q=>by rw[Zk (Zf q hn)];exact q
 frzs:=fun b u xs q=>by rw[Zk (Zf q hn)];exact q
 tbls:=fun b ps q=>⟨#[],by rw[Zk (Zf q hn),q];simp⟩
theorem Un.write (mu:Mut (H x))(he:e=x\/H e=some (.own x))(k:∀b u,b≠e->h.get? b=some u->h'.get? b=some u)(heo:∃u,h'.get? e=some u):Un fs ex H (upd H x o) h h':=by
 have hx:∀b,H b=none->b≠x:=fun b n z=>by subst z;rw[n] at mu;exact mu
 have hb:∀b,H b=none->b≠e:=fun b n z=>by
  subst z;rcases he with r | r
  ·exact hx b n r
  ·rw[n] at r;cases r
 have hm:∀b u,H b=some u->¬ Mut (some u)->b≠x:=fun b u q nm z=>by subst z;rw[q] at mu;exact nm mu
 refine⟨fun b u q n _ _=>k b u (hb b n) q,fun b u q n _ _=>⟨u.slots,k b u (hb b n) q⟩,fun b u q n _=>by rw[Zk (hx b n)];exact n,fun b u q _=>?_,
  fun b xs q=>by rw[Zk (hm b _ q fun z=>z)];exact q,fun b u xs q=>by rw[Zk (hm b _ q fun z=>z)];exact q,fun b ps q=>⟨#[],by rw[Zk (hm b _ q fun z=>z),q];simp⟩⟩
 by_cases hbe:b=e
 ·subst hbe;exact heo
 ·exact⟨u,k b u hbe q⟩
end
noncomputable def trk (h:Heap)(H:Hp):List Addr:=(List.range h.objs.size).filter fun a=>(H a).isSome
noncomputable def hidT (h:Heap)(H:Hp):Heap:=PySem.W.hideAll h (trk h H)
def ZiV (h:Heap)(H:Hp):(hidT h H).objs.size=h.objs.size:=PySem.W.hideAll_size _ _
def Zkc {h:Heap}{H:Hp}{b:Addr}{o:Obj}(e:h.get? b=some o)(n:H b=none):(hidT h H).get? b=some o :=
 PySem.W.hideAll_get _ e fun hm=>by
  have q:(H b).isSome=true:=(List.mem_filter.mp hm).2;rw[n] at q;simp at q
def Zln {h:Heap}{H:Hp}{b:Addr}{o:Obj}(e:(hidT h H).get? b=some o):h.get? b=some o/\H b=none:=by
 have e':h.get? b=some o:=PySem.W.of_hideAll (trk h H) e;refine⟨e',?_⟩;cases q:H b with
 | none=>rfl
 | some x =>
  have hm:b∈trk h H:=List.mem_filter.mpr ⟨List.mem_range.mpr (y0x e'),by simp[q]⟩;have z:(hidT h H).get? b=none:=PySem.W.hideAll_none (trk h H) hm;rw[z] at e;cases e
noncomputable def Zl1 (g h:Heap)(L:Addr):List (Addr×Obj):=(List.range h.objs.size).filterMap fun a=>if a=L\/(g.get? a).isSome=true then none else(h.get? a).map fun o=>(a,o)
noncomputable def rest (g h:Heap)(L d:Addr):List (Addr×Obj):=(Zl1 g h L).filter fun p=>decide (p.1≠d)
structure Mod (K:Frag)(mg:Str->Option Value)(base:Heap):Prop where
 kin:K.In base
 glob:base.Ns mainGlobals mg
 blt:∃mb,base.Ns builtinsNs mb/\∀x:Str,x≠"__name__"->mb x=bootBuiltins x
 nolimit:base.NoLimit
structure Cx where
 prog:Program
 w:World
 K:Frag
 mg:Str->Option Value
 base:Heap
 A:Around
 N:List Str
 s_0:Shared
 H_0:Hp
 env:Env
 outer:List Env
 stack:List Env
 ex:List Addr
 fn:Str->Bool
 calm:Bool
 pn:List (Addr×Obj)
 xe:Value->Shared->Prop
noncomputable def frs (l:List Env):List Addr:=l.filterMap (·.frame)
noncomputable abbrev Cx.fs (X:Cx):List Addr:=frs X.outer
def Vis (sc:Scope)(x:Str):Prop:=sc.names.lookup x=some .local\/sc.names.lookup x=some .cell\/sc.names.lookup x=some .free
def Loc (sc:Scope)(x:Str):Prop:=sc.names.lookup x=some .local\/sc.names.lookup x=some .cell
def Look (env:Env)(h:Heap)(m:Str->Option Value)(x:Str)(u:Value):Prop :=
 (env.kindOf x=some .local/\m x=some u)\/((env.kindOf x=some .cell\/env.kindOf x=some .free)/\∃c,env.cells.lookup x=some c/\h.IsCell c (some u))
structure Cx.Ok (X:Cx):Prop where
 mod:Mod X.K X.mg X.base
 kind:X.env.scope.kind=.function
 glob:X.env.globals=mainGlobals
 blt:X.env.builtins=builtinsNs
 above:X.s_0.heap.objs.size<=X.env.locals
 inj:∀x y c,X.env.cells.lookup x=some c->X.env.cells.lookup y=some c->x=y
 has:∀x,(X.env.kindOf x=some .cell\/X.env.kindOf x=some .free)->∃c,X.env.cells.lookup x=some c
 cab:∀x c,X.fn x=true->X.env.cells.lookup x=some c->X.s_0.heap.objs.size<=c
 hd:X.calm=true->X.A.handled=none
 frames:X.A.frames=some X.stack
 stk:X.stack=X.outer\/(X.stack=X.env::X.outer/\X.env.frame=some X.env.locals)
 exf:∀b∈X.ex,b≠X.env.locals/\∀x c,X.env.cells.lookup x=some c->c≠b
 bs:∀b o,X.base.get? b=some o->X.s_0.heap.get? b=some o/\X.H_0 b=none
 bsz:X.base.objs.size<=X.s_0.heap.objs.size
 noex:∀b o,X.base.get? b=some o->b ∉ X.ex
 exfs:∀b∈X.ex,b ∉ X.fs
 funs:X.s_0.heap.FunFrames X.base X.outer
 frf:∀b∈X.fs,X.H_0 b=none
structure Inv (X:Cx)(pins:List (Addr×Obj))(σ:List (Option V))(H:Hp)(s:Shared):Prop where
 ok:X.Ok
 os:s.os=X.s_0.os
 bare:AllBare s.gens
 base:Un X.fs X.ex X.H_0 H X.s_0.heap s.heap
 loc:∃m,s.heap.Ns X.env.locals m/\∀(i:Nat) (x:Str) (v:V),X.N[i]?=some x->σ[i]?=some (some v)->Vis X.env.scope x->∃u,RelV v u/\Look X.env s.heap m x u
 cell:∀x c,X.env.cells.lookup x=some c->∃v,s.heap.IsCell c v
 free:H X.env.locals=none
 freeC:∀x c,X.env.cells.lookup x=some c->H c=none
 pin:∀p∈X.pn++pins,s.heap.get? p.1=some p.2/\H p.1=none/\p.1≠X.env.locals/\p.1 ∉ X.fs/\∀v,p.2.data≠.cell v
 hok:HOk X.prog X.w H s.heap
 len:σ.length=X.N.length
section
variable {X:Cx}{pins:List (Addr×Obj)}{σ:List (Option V)}{H H':Hp}{s:Shared}{h':Heap}
theorem Cx.Ok.nofr (ok:X.Ok){b:Addr}{o:Obj}(e:X.base.get? b=some o):b ∉ X.fs:=fun hb=>by
 have:=(ok.funs.mem hb).1;rw[e] at this;cases this
theorem Inv.bs (I:Inv X pins σ H s):∀b o,X.base.get? b=some o->s.heap.get? b=some o/\H b=none:=fun b o e =>
 ⟨I.base.keep b o (I.ok.bs b o e).1 (I.ok.bs b o e).2 (I.ok.nofr e) (I.ok.noex b o e),I.base.free b o (I.ok.bs b o e).1 (I.ok.bs b o e).2 (I.ok.noex b o e)⟩
theorem Inv.bk (I:Inv X pins σ H s):∀b o,X.base.get? b=some o->s.heap.get? b=some o:=fun b o e=>(I.bs b o e).1
theorem Inv.mod (I:Inv X pins σ H s):Mod X.K X.mg X.base:=I.ok.mod
theorem Inv.kIn (I:Inv X pins σ H s):X.K.In s.heap:=I.ok.mod.kin.keeps I.bk
theorem Inv.fr (I:Inv X pins σ H s):∃m,Fr X.base X.env.locals s.heap m :=
 let ⟨m,hn,_⟩:=I.loc
 ⟨m,hn,I.bk,y0q I.ok.bsz I.ok.above⟩
theorem Inv.lt (I:Inv X pins σ H s):X.env.locals<s.heap.objs.size:=let ⟨_,hn,_⟩:=I.loc;hn.lt
theorem Inv.sz (I:Inv X pins σ H s):X.s_0.heap.objs.size<=s.heap.objs.size:=y0q I.ok.above (Nat.le_of_lt I.lt)
theorem Inv.nofs (I:Inv X pins σ H s){a:Addr}(h:s.heap.objs.size<=a):a ∉ X.fs:=fun hb=>by
 obtain⟨_,o,ho,_⟩:=I.ok.funs.mem hb;exact absurd (y0t (y0x ho) (y0q I.sz h)) (Nat.lt_irrefl _)
theorem Inv.cne (I:Inv X pins σ H s):∀x c,X.env.cells.lookup x=some c->c≠X.env.locals:=fun x c e z=>by
 obtain⟨v,o,ho,hd⟩:=I.cell x c e;obtain⟨m,⟨o',es,ep,ho',hd',_⟩,_⟩:=I.loc;rw[z,ho'] at ho;cases ho;rw[hd'] at hd;cases hd
theorem Inv.funs (I:Inv X pins σ H s):s.heap.FunFrames X.base X.outer:=by
 have all:∀(l:List Env),(∀b∈frs l,b∈X.fs)->X.s_0.heap.FunFrames X.base l->s.heap.FunFrames X.base l:=by
  intro l
  induction l with
  | nil=>intro _ _;trivial
  | cons env r ih =>
   intro hs hl;obtain⟨hk,⟨L,o,hf,hn,ho,hd⟩,hr⟩:=hl;have hL:L∈X.fs:=hs L (by unfold frs;rw[List.filterMap_cons,hf];exact y0n);obtain⟨sl,e⟩:=I.base.slot L o ho (I.ok.frf L hL) hL fun z=>I.ok.exfs L z hL
   exact⟨hk,⟨L,_,hf,hn,e,hd⟩,ih (fun b hb=>hs b (by unfold frs;rw[List.filterMap_cons,hf];exact y0c _ hb)) hr⟩
 exact all X.outer (fun _ hb=>hb) I.ok.funs
theorem Inv.stack (I:Inv X pins σ H s):s.heap.FunFrames X.base X.stack:=by
 rcases I.ok.stk with e | ⟨e,hf⟩
 ·rw[e];exact I.funs
 ·rw[e];obtain⟨m,hn,_⟩:=I.loc;refine .cons (by rw[I.ok.kind];decide) hf hn ?_ I.funs;exact Heap.get?_none_of_le (y0q I.ok.bsz I.ok.above)
theorem Inv.stkSub (I:Inv X pins σ H s):∀b∈frs X.stack,b∈X.env.locals::X.fs:=fun b hb=>by
 rcases I.ok.stk with e | ⟨e,hf⟩
 ·rw[e] at hb;exact y0c _ hb
 ·rw[e] at hb;unfold frs at hb;rw[List.filterMap_cons,hf] at hb;exact hb
theorem Inv.stkFree (I:Inv X pins σ H s):∀b∈frs X.stack,H b=none:=fun b hb=>by
 rcases y0b.mp (I.stkSub b hb) with e | hb
 ·rw[e];exact I.free
 ·obtain⟨_,o,ho,_⟩:=I.ok.funs.mem hb;exact I.base.free b o ho (I.ok.frf b hb) fun z=>I.ok.exfs b z hb
theorem Inv.step {g':Array GenState}{t':Nat}{d':Drawn}{ch:List Addr}(I:Inv X pins σ H s)
  (hch:∀b∈ch,(b∈X.ex\/X.s_0.heap.objs.size<=b)/\b≠X.env.locals/\(∀x c,X.env.cells.lookup x=some c->c≠b)/\∀p∈X.pn++pins,p.1≠b)
  (keep:∀b o,b≠X.env.locals->b ∉ X.fs->b ∉ ch->s.heap.get? b=some o->H b=none->h'.get? b=some o)
  (slot:∀b o,b≠X.env.locals->b∈X.fs->b ∉ ch->s.heap.get? b=some o->H b=none->∃sl,h'.get? b=some { o with slots:=sl }) (free:∀b o,b ∉ ch->s.heap.get? b=some o->H b=none->H' b=none)
  (there:∀b o,b ∉ ch->s.heap.get? b=some o->∃o',h'.get? b=some o')
  (tups:∀b xs,H b=some (.tup xs)->H' b=some (.tup xs)) (frzs:∀b o u,H b=some (.frz o u)->H' b=some (.frz o u)) (tbls:∀b ps,H b=some (.tbl ps)->∃more,H' b=some (.tbl (ps++more)))
  (ns:∀m,s.heap.Ns X.env.locals m->h'.Ns X.env.locals m) (hok:HOk X.prog X.w H' h') (hg:AllBare g') :
  Inv X pins σ H' { s with heap:=h',gens:=g',drawn:=d',toks:=t' }:=by
 have neL:∀b o,X.s_0.heap.get? b=some o->b≠X.env.locals:=fun b o e=>Nat.ne_of_lt (y0t (y0x e) I.ok.above)
 have neC:∀b o,X.s_0.heap.get? b=some o->b ∉ X.ex->b ∉ ch:=fun b o e hx hb=>by
  rcases(hch b hb).1 with z | z
  ·exact hx z
  ·exact absurd (y0t (y0x e) z) (Nat.lt_irrefl _)
 have cellK:∀x c,X.env.cells.lookup x=some c->∀v,s.heap.IsCell c v->h'.IsCell c v:=fun x c e v ⟨o,ho,hd⟩=>by
  have nch:c ∉ ch:=fun z=>(hch c z).2.2.1 x c e rfl
  by_cases hc:c∈X.fs
  ·obtain⟨sl,q⟩:=slot c o (I.cne x c e) hc nch ho (I.freeC x c e);exact⟨_,q,hd⟩
  ·exact⟨o,keep c o (I.cne x c e) hc nch ho (I.freeC x c e),hd⟩
 refine⟨I.ok,I.os,hg,⟨fun b o e n hb hx=>?_,fun b o e n hb hx=>?_,fun b o e n hx=>?_,fun b o e hx=>?_,fun b xs e=>tups b xs (I.base.tups b xs e),fun b o xs e=>frzs b o xs (I.base.frzs b o xs e),fun b ps e=>?_⟩,?_,fun x c e=>?_,?_,fun x c e=>?_,fun p hp=>?_,hok,I.len⟩
 ·exact keep b o (neL b o e) hb (neC b o e hx) (I.base.keep b o e n hb hx) (I.base.free b o e n hx)
 ·obtain⟨sl,e1⟩:=I.base.slot b o e n hb hx;obtain⟨sl',e2⟩:=slot b _ (neL b o e) hb (neC b o e hx) e1 (I.base.free b o e n hx);exact⟨sl',e2⟩
 ·obtain⟨o',e1⟩:=I.base.there b o e hx;exact free b o' (neC b o e hx) e1 (I.base.free b o e n hx)
 ·obtain⟨o',e1⟩:=I.base.there b o e hx;exact there b o' (neC b o e hx) e1
 ·obtain⟨m1,e1⟩:=I.base.tbls b ps e;obtain⟨m2,e2⟩:=tbls b _ e1;exact⟨m1++m2,by rw[e2,Array.append_assoc]⟩
 ·obtain⟨m,hn,hl⟩:=I.loc;refine⟨m,ns m hn,fun i x v e1 e2 e3=>?_⟩;obtain⟨u,r,l⟩:=hl i x v e1 e2 e3;refine⟨u,r,?_⟩;rcases l with l | ⟨k,c,e,z⟩
  ·exact .inl l
  ·exact .inr ⟨k,c,e,cellK x c e _ z⟩
 ·obtain⟨v,z⟩:=I.cell x c e;exact⟨v,cellK x c e v z⟩
 ·obtain⟨m,⟨o,_,_,ho,_⟩,_⟩:=I.loc;exact free _ o (fun z=>(hch _ z).2.1 rfl) ho I.free
 ·obtain⟨v,o,ho,hd⟩:=I.cell x c e;exact free c o (fun z=>(hch c z).2.2.1 x c e rfl) ho (I.freeC x c e)
 ·obtain⟨e,n,ne,nf,d⟩:=I.pin p hp;have nch:p.1 ∉ ch:=fun z=>(hch p.1 z).2.2.2 p hp rfl
  exact⟨keep p.1 p.2 ne nf nch e n,free p.1 p.2 nch e n,ne,nf,d⟩
theorem Inv.un {t':Nat}(I:Inv X pins σ H s)(u:Un X.fs [] H H' s.heap h')(hok:HOk X.prog X.w H' h'):Inv X pins σ H' { s with heap:=h',toks:=t' }:=by
 obtain⟨m,⟨o,es,ep,ho,r⟩,_⟩:=id I.loc;obtain⟨sl,hL⟩:=u.any ho I.free (by simp);exact I.step (g':=s.gens) (d':=s.drawn) (ch:=[]) (fun _ z=>nomatch z) (fun b o _ hb _ e n=>u.keep b o e n hb (by simp)) (fun b o _ hb _ e n=>u.slot b o e n hb (by simp)) (fun b o _ e n=>u.free b o e n (by simp)) (fun b o _ e=>u.there b o e (by simp)) u.tups u.frzs u.tbls (fun m' hm=>by
  obtain⟨o',es',ep',ho',r'⟩:=hm;rw[ho] at ho';cases ho';exact⟨_,es',ep',hL,r'⟩) hok I.bare
theorem Inv.call {g':Array GenState}{t':Nat}{d':Drawn}{ch:List Addr}(I:Inv X pins σ H s)(u:Un (frs X.stack) ch H H' s.heap h')(hok:HOk X.prog X.w H' h')(hg:AllBare g')
  (hch:∀b∈ch,(b∈X.ex\/X.s_0.heap.objs.size<=b)/\b≠X.env.locals/\(∀x c,X.env.cells.lookup x=some c->c≠b)/\∀p∈X.pn++pins,p.1≠b) :
  Inv X pins σ H' { s with heap:=h',gens:=g',drawn:=d',toks:=t' }:=by
 obtain⟨m,⟨o,es,ep,ho,r⟩,_⟩:=id I.loc;obtain⟨sl,hL⟩:=u.any ho I.free fun z=>(hch _ z).2.1 rfl
 exact I.step (ch:=ch) hch (fun b o hL hb hc e n=>u.keep b o e n (fun z=>(y0b.mp (I.stkSub b z)).elim hL hb) hc) (fun b o _ _ hc e n=>u.any e n hc) (fun b o hc e n=>u.free b o e n hc) (fun b o hc e=>u.there b o e hc) u.tups u.frzs u.tbls (fun m' hm=>by
  obtain⟨o',es',ep',ho',r'⟩:=hm;rw[ho] at ho';cases ho';exact⟨_,es',ep',hL,r'⟩) hok hg
theorem Inv.turned {t':Nat}{it:Addr}(I:Inv X pins σ H s)(k:∀b o,b≠it->s.heap.get? b=some o->h'.get? b=some o)(hn:H it=none)(hL:it≠X.env.locals)
  (h1:it∈X.ex\/X.s_0.heap.objs.size<=it) (h2:∀x c,X.env.cells.lookup x=some c->c≠it) (h3:∀p∈X.pn++pins,p.1≠it):Inv X pins σ H { s with heap:=h',toks:=t' }:=by
 have nit:∀b u,H b=some u->b≠it:=fun b u e z=>by rw[z,hn] at e;cases e
 refine I.step (g':=s.gens) (d':=s.drawn) (ch:=[it]) (fun b hb=>?_) (fun b o _ _ hc e _=>k b o (fun z=>hc (by simp[z])) e) (fun b o _ _ hc e _=>⟨o.slots,k b o (fun z=>hc (by simp[z])) e⟩) (fun _ _ _ _ n=>n)
  (fun b o hc e=>⟨o,k b o (fun z=>hc (by simp[z])) e⟩) (fun _ _ e=>e) (fun _ _ _ e=>e) (fun b ps e=>⟨#[],by rw[e];simp⟩) (fun m hm=>?_) (fun b u e=>?_) I.bare
 ·have e:b=it:=by simpa using hb
  subst e;exact⟨h1,hL,h2,h3⟩
 ·obtain⟨o,es,ep,ho,r⟩:=hm;exact⟨o,es,ep,k _ o (Ne.symm hL) ho,r⟩
 ·refine(I.hok b u e).stay (fun c v hc q=>k c v ?_ q) (fun _ q=>q) fun _ _ q=>q
  rcases hc with z | z
  ·rw[z];exact nit b u e
  ·exact nit c _ z
theorem Inv.tok (I:Inv X pins σ H s)(t:Nat):Inv X pins σ H { s with toks:=t }:=I.un (h':=s.heap) (t':=t) Un.refl I.hok
theorem Inv.kept {t':Nat}(I:Inv X pins σ H s)(k:∀b u,s.heap.get? b=some u->h'.get? b=some u):Inv X pins σ H { s with heap:=h',toks:=t' }:=I.un (Un.kept k) (I.hok.kept k)
theorem Inv.laid {a:Addr}{o:HO}{t':Nat}(I:Inv X pins σ H s)(k:∀b u,s.heap.get? b=some u->h'.get? b=some u)(hp:s.heap.objs.size<=a)(new:Wd X.prog X.w (upd H a o) h' a o):
  Inv X pins σ (upd H a o) { s with heap:=h',toks:=t' }:=I.un (Un.laid k hp (I.hok.fresh hp)) (I.hok.laid k hp new)
theorem Inv.write {x e:Addr}{o:HO}{t':Nat}(I:Inv X pins σ H s)(mu:Mut (H x))(he:e=x\/H e=some (.own x))(k:∀b u,b≠e->s.heap.get? b=some u->h'.get? b=some u)(heo:∃u,h'.get? e=some u)
  (new:Wd X.prog X.w (upd H x o) h' x o):Inv X pins σ (upd H x o) { s with heap:=h',toks:=t' }:=I.un (Un.write mu he k heo) (I.hok.write mu he k heo new)
theorem Inv.weak {σ':List (Option V)}(I:Inv X pins σ H s)(hl:σ'.length=σ.length)(w:∀(i:Nat) v,σ'[i]?=some (some v)->σ[i]?=some (some v)):Inv X pins σ' H s :=
 ⟨I.ok,I.os,I.bare,I.base,let ⟨m,hn,hl'⟩:=I.loc;⟨m,hn,fun i x v e1 e2 e3=>hl' i x v e1 (w i v e2) e3⟩,I.cell,I.free,I.freeC,I.pin,I.hok,hl.trans I.len⟩
theorem Inv.pins_of {pins':List (Addr×Obj)}(I:Inv X pins σ H s)(h:∀p∈pins',s.heap.get? p.1=some p.2/\H p.1=none/\p.1≠X.env.locals/\p.1 ∉ X.fs/\∀v,p.2.data≠.cell v):Inv X pins' σ H s :=
 ⟨I.ok,I.os,I.bare,I.base,I.loc,I.cell,I.free,I.freeC,fun p hp=>(y0d.mp hp).elim (fun z=>I.pin p (List.mem_append_left _ z)) (h p),I.hok,I.len⟩
def Zec {N:List Str}(hN:N.Nodup){i j:Nat}{x:Str}(a:N[i]?=some x)(b:N[j]?=some x):i=j:=by
 obtain⟨h1,e1⟩:=y0a.mp a;obtain⟨h2,e2⟩:=y0a.mp b;exact(List.getElem_inj hN).mp (e1.trans e2.symm)
def ZeC {M:Model}{A:Around}{E:Value->Shared->Prop}{i:Nat}{x:Str}{v:V}{u:Value}{Q:Unit->Shared->Prop}(I:Inv X pins σ H s)(hN:X.N.Nodup)(hi:X.N[i]?=some x)(hx:Loc X.env.scope x)(r:RelV v u)
  (h:∀s',Inv X pins (σ.set i (some v)) H s'->(∃a,Heap.SameBut a s.heap s'.heap/\(a=X.env.locals\/X.env.cells.lookup x=some a))->Q () s') (hf:autoParam (X.fn x=true\/X.env.scope.names.lookup x=some .local) q_3):wpAny M A (storeName X.env x u) Q E s:=by
 obtain⟨m,hn,hl⟩:=id I.loc;have hcls:(X.env.scope.kind==.class || (X.env.scope.kind==.module && X.env.locals != X.env.globals))=false:=by rw[I.ok.kind];rfl
 have hiσ:i<σ.length:=by rw[I.len];exact(y0a.mp hi).1
 have cne:=I.cne;have tracked:∀{a:Addr}{h':Heap},(∃o,s.heap.get? a=some o/\H a=none)->Heap.SameBut a s.heap h'->HOk X.prog X.w H h':=fun {a h'} ha hs b ob e=>by
  obtain⟨_,_,hfree⟩:=ha;refine(I.hok b ob e).stay (fun c w' hc q=>(hs.2 c ?_).trans q) (fun _ q=>q) fun _ _ q=>q
  rintro rfl;rcases hc with rfl | hc
  ·rw[hfree] at e;cases e
  ·rw[hfree] at hc;cases hc
 rcases hx with hk | hk
 ·refine wpAny_storeName_local hk hn (fun h' hn' hs=>?_) hcls;obtain⟨oL,_,_,hoL,_⟩:=id hn;refine h _ ⟨I.ok,I.os,I.bare,⟨fun b o e n hb hx=>?_,fun b o e n hb hx=>?_,I.base.free,fun b o e hx=>?_,I.base.tups,I.base.frzs,I.base.tbls⟩,⟨_,hn',fun j y v' e1 e2 e3=>?_⟩,fun y c e=>?_,I.free,I.freeC,fun p hp=>?_,tracked ⟨oL,hoL,I.free⟩ hs,by simpa using I.len⟩ ⟨_,hs,.inl rfl⟩
  ·exact(hs.2 b (Nat.ne_of_lt (y0t (y0x e) I.ok.above))).trans (I.base.keep b o e n hb hx)
  ·obtain⟨sl,e1⟩:=I.base.slot b o e n hb hx;exact⟨sl,(hs.2 b (Nat.ne_of_lt (y0t (y0x e) I.ok.above))).trans e1⟩
  ·obtain⟨o',e1⟩:=I.base.there b o e hx;exact⟨o',(hs.2 b (Nat.ne_of_lt (y0t (y0x e) I.ok.above))).trans e1⟩
  ·by_cases hj:j=i
   ·subst hj;rw[hi] at e1;cases e1;rw[List.getElem?_set_self hiσ] at e2;cases e2;exact⟨u,r,.inl ⟨hk,by simp⟩⟩
   ·rw[List.getElem?_set_ne (Ne.symm hj)] at e2;obtain⟨u',r',q⟩:=hl j y v' e1 e2 e3;refine⟨u',r',?_⟩;rcases q with⟨k,e⟩ | ⟨k,c,e,z⟩
    ·refine .inl ⟨k,?_⟩;have:y≠x:=fun e=>hj (Zec hN e1 (e ▸ hi))
     simp[this,e]
    ·exact .inr ⟨k,c,e,z.sameBut hs (cne y c e)⟩
  ·obtain⟨w',z⟩:=I.cell y c e;exact⟨w',z.sameBut hs (cne y c e)⟩
  ·obtain⟨e,n,ne,nf,d⟩:=I.pin p hp;exact⟨(hs.2 p.1 ne).trans e,n,ne,nf,d⟩
 ·have hfn:X.fn x=true:=by
   rcases hf with z | z
   ·exact z
   ·rw[z] at hk;cases hk
  obtain⟨c,hc⟩:=I.ok.has x (.inl hk);obtain⟨w',z⟩:=I.cell x c hc;refine wpAny_storeName_cell I.ok.kind hk hc z (fun h' hc' hs=>?_);obtain⟨oc,hoc,hocd⟩:=id z;refine h { s with heap:=h' } ⟨I.ok,I.os,I.bare,⟨fun b o e n hb hx=>?_,fun b o e n hb hx=>?_,I.base.free,fun b o e hx=>?_,I.base.tups,I.base.frzs,I.base.tbls⟩,⟨m,hn.sameBut hs (Ne.symm (cne x c hc)),fun j y v' e1 e2 e3=>?_⟩,fun y c' e=>?_,I.free,I.freeC,fun p hp=>?_,tracked ⟨oc,hoc,I.freeC x c hc⟩ hs,by simpa using I.len⟩ ⟨c,hs,.inr hc⟩
  ·exact(hs.2 b (Nat.ne_of_lt (y0t (y0x e) (I.ok.cab x c hfn hc)))).trans (I.base.keep b o e n hb hx)
  ·obtain⟨sl,e1⟩:=I.base.slot b o e n hb hx;exact⟨sl,(hs.2 b (Nat.ne_of_lt (y0t (y0x e) (I.ok.cab x c hfn hc)))).trans e1⟩
  ·obtain⟨o',e1⟩:=I.base.there b o e hx;exact⟨o',(hs.2 b (Nat.ne_of_lt (y0t (y0x e) (I.ok.cab x c hfn hc)))).trans e1⟩
  ·by_cases hj:j=i
   ·subst hj;rw[hi] at e1;cases e1;rw[List.getElem?_set_self hiσ] at e2;cases e2;exact⟨u,r,.inr ⟨.inl hk,c,hc,hc'⟩⟩
   ·rw[List.getElem?_set_ne (Ne.symm hj)] at e2;obtain⟨u',r',q⟩:=hl j y v' e1 e2 e3;refine⟨u',r',?_⟩;rcases q with q | ⟨k,c',e,z'⟩
    ·exact .inl q
    ·refine .inr ⟨k,c',e,z'.sameBut hs ?_⟩;rintro rfl;exact hj (Zec hN e1 (I.ok.inj _ _ _ e hc ▸ hi))
  ·by_cases hcc:c'=c
   ·subst hcc;exact⟨_,hc'⟩
   ·obtain⟨w2,z2⟩:=I.cell y c' e;exact⟨w2,z2.sameBut hs hcc⟩
  ·obtain⟨e,n,ne,nf,d⟩:=I.pin p hp;refine⟨(hs.2 p.1 ?_).trans e,n,ne,nf,d⟩;intro q;rw[q,hoc] at e;have q':oc=p.2:=Option.some.inj e;exact d w' (by rw[<- q'];exact hocd)
def Zby {M:Model}{A:Around}{E:Value->Shared->Prop}{i:Nat}{x:Str}{v:V}{u:Value}{Q:Unit->Shared->Prop}(I:Inv X pins σ H s)(hN:X.N.Nodup)(hi:X.N[i]?=some x)(hx:Loc X.env.scope x)(r:RelV v u)
  (h:∀s',Inv X pins (σ.set i (some v)) H s'->Q () s') (hf:autoParam (X.fn x=true\/X.env.scope.names.lookup x=some .local) q_3):wpAny M A (storeName X.env x u) Q E s :=
 ZeC I hN hi hx r (fun s' I' _=>h s' I') hf
theorem Inv.call' {s':Shared}{ch:List Addr}(I:Inv X pins σ H s)(ho:s'.os=s.os)(u:Un (frs X.stack) ch H H' s.heap s'.heap)(hok:HOk X.prog X.w H' s'.heap)(hg:AllBare s'.gens)
  (hch:∀b∈ch,(b∈X.ex\/X.s_0.heap.objs.size<=b)/\b≠X.env.locals/\(∀x c,X.env.cells.lookup x=some c->c≠b)/\∀p∈X.pn++pins,p.1≠b):Inv X pins σ H' s':=by
 obtain⟨h',g',d',t',o'⟩:=s';have e:o'=s.os:=ho;subst e;exact I.call (g':=g') (t':=t') (d':=d') u hok hg hch
end
abbrev XK:=Value->Option Addr->Hp->Prop
abbrev St:=List (Option V)
abbrev VK:=V->Hp->Prop
abbrev TE:=St->Hp->VK->Prop
abbrev TT:=St->Hp->(Bool->Hp->Prop)->Prop
abbrev TA:=St->Hp->(List V->Hp->Prop)->Prop
structure Ends where
 nx:St->Hp->Prop
 rt:VK
 bk:St->Hp->Prop:=fun _ _=>False
 ct:St->Hp->Prop:=fun _ _=>False
abbrev TS:=Ends->St->Hp->Prop
def EP (X:Cx)(pins:List (Addr×Obj))(σ:St)(Q:VK)(u:Value)(s':Shared):Prop:=∃v H',Inv X pins σ H' s'/\RelV v u/\Q v H'
def TP (X:Cx)(pins:List (Addr×Obj))(σ:St)(Q:Bool->Hp->Prop)(b:Bool)(s':Shared):Prop:=∃H',Inv X pins σ H' s'/\Q b H'
def AP (X:Cx)(pins:List (Addr×Obj))(σ:St)(Q:List V->Hp->Prop)(us:List Value)(s':Shared):Prop:=∃vs H',Inv X pins σ H' s'/\Vals vs us/\Q vs H'
def SP (X:Cx)(pins:List (Addr×Obj))(D:Ends)(f:Flow)(s':Shared):Prop :=
 match f with
 | .next=>∃σ' H',Inv X pins σ' H' s'/\D.nx σ' H'
 | .brk=>∃σ' H',Inv X pins σ' H' s'/\D.bk σ' H'
 | .cont=>∃σ' H',Inv X pins σ' H' s'/\D.ct σ' H'
 | .ret u=>∃v σ' H',Inv X pins σ' H' s'/\RelV v u/\D.rt v H'
def PE (X:Cx)(e:Expr)(t:TE):Prop :=
 ∀(pins:List (Addr×Obj)) (s:Shared) (σ:St) (H:Hp) (Q:VK),Inv X pins σ H s->t σ H Q->wpAny (model X.prog X.w) X.A (eval e X.env) (EP X pins σ Q) X.xe s
def PT (X:Cx)(e:Expr)(t:TT):Prop :=
 ∀(pins:List (Addr×Obj)) (s:Shared) (σ:St) (H:Hp) (Q:Bool->Hp->Prop),Inv X pins σ H s->t σ H Q->wpAny (model X.prog X.w) X.A (isTrue e X.env (eval e X.env)) (TP X pins σ Q) X.xe s
def PW (X:Cx)(e:Expr)(t:TT):Prop :=
 ∀(whole:Sem Value) (pins:List (Addr×Obj)) (s:Shared) (σ:St) (H:Hp) (Q:Bool->Hp->Prop),Inv X pins σ H s->t σ H Q->wpAny (model X.prog X.w) X.A (isTrue e X.env whole) (TP X pins σ Q) X.xe s
theorem PW.pt {X:Cx}{e:Expr}{t:TT}(h:PW X e t):PT X e t:=h _
def PA (X:Cx)(es:List Expr)(t:TA):Prop :=
 ∀(pos:Pos) (pins:List (Addr×Obj)) (s:Shared) (σ:St) (H:Hp) (Q:List V->Hp->Prop),Inv X pins σ H s->t σ H Q->wpAny (model X.prog X.w) X.A (spliced (backTo pos (starEach es X.env))) (AP X pins σ Q) X.xe s
def PS (X:Cx)(st:Stmt)(t:TS):Prop :=
 ∀(pins:List (Addr×Obj)) (s:Shared) (σ:St) (H:Hp) (D:Ends),Inv X pins σ H s->t D σ H->wpAny (model X.prog X.w) X.A (exec st X.env) (SP X pins D) X.xe s
def PSs (X:Cx)(st:List Stmt)(t:TS):Prop :=
 ∀(pins:List (Addr×Obj)) (s:Shared) (σ:St) (H:Hp) (D:Ends),Inv X pins σ H s->t D σ H->wpAny (model X.prog X.w) X.A (execs st X.env) (SP X pins D) X.xe s
def thn {α:Type}{t:Sem α}{Q Q':α->Shared->Prop}{M:Model}{A:Around}{E:Value->Shared->Prop}{s:Shared}(h:wpAny M A t Q E s)(hQ:∀a s,Q a s->Q' a s):wpAny M A t Q' E s:=wpAny_mono h hQ fun _ _ x=>x
section
variable {X:Cx}
def bin {a b:Expr}{ta tb:TE}(ha:PE X a ta)(hb:PE X b tb){pins:List (Addr×Obj)}{s:Shared}{σ:St}{H:Hp}{R:V->V->Hp->Prop}(I:Inv X pins σ H s)(h:ta σ H fun x H1=>tb σ H1 fun y H2=>R x y H2)
  {α:Type}{Q:α->Shared->Prop}{f:Value->Value->Sem α}
  (hf:∀v u s2 x y H2,Inv X pins σ H2 s2->RelV x v->RelV y u->R x y H2->wpAny (model X.prog X.w) X.A (f v u) Q X.xe s2) :
  wpAny (model X.prog X.w) X.A (eval a X.env) (fun v s₁=>wpAny (model X.prog X.w) X.A (eval b X.env) (fun u s₂=>wpAny (model X.prog X.w) X.A (f v u) Q X.xe s₂) X.xe s₁) X.xe s:=by
 refine thn (ha pins s σ H _ I h) fun v s1 ⟨x,H1,I1,r1,q1⟩=>?_
 refine thn (hb pins s1 σ H1 _ I1 q1) fun u s2 ⟨y,H2,I2,r2,q2⟩=>?_
 exact hf v u s2 x y H2 I2 r1 r2 q2
def tVar (i:Nat):TE:=fun σ H Q=>∃v,σ[i]?=some (some v)/\Q v H
def tC (v:V):TE:=fun _ H Q=>Q v H
def ZgV {i:Nat}{x:Str}{pos:Pos}(hN:X.N[i]?=some x)(hv:Vis X.env.scope x)(hd:autoParam ((x==("__debug__":Str))=false) q_2)(hcd:autoParam ((x==("__classdict__":Str))=false) q_2):PE X (.Name x pos) (tVar i):=by
 intro pins s σ H Q I h;obtain⟨v,e,h⟩:=h;obtain⟨m,hn,hl⟩:=I.loc;obtain⟨u,r,l⟩:=hl i x v hN e hv;have fin:EP X pins σ Q u s:=⟨v,H,I,r,h⟩;rcases l with⟨hk,hm⟩ | ⟨hk,c,hc,hcell⟩
 ·exact wpAny_Name (wpAny_loadName_local I.ok.kind hk hn hm fin) hd
 ·rcases hk with hk | hk
  ·exact wpAny_Name (wpAny_loadName_cell I.ok.kind hk hc hcell fin) hd
  ·exact wpAny_Name (wpAny_loadName_free I.ok.kind hk hc hcell fin hcd) hd
def Zg {i j pos}:PE X (.Constant (.int i) j pos) (tC (.int i)):=fun _ _ _ H _ I h=>wpAny_Constant_int ⟨.int i,H,I.tok _,⟨_,rfl⟩,h⟩
def ZhL {b j pos}:PE X (.Constant (.bool b) j pos) (tC (.bl b)):=fun _ _ _ H _ I h=>Constant_bool ⟨.bl b,H,I,rfl,h⟩
def ZeX {j pos}:PE X (.Constant .none j pos) (tC .non):=fun _ _ _ H _ I h=>Constant_none ⟨.non,H,I,rfl,h⟩
def ZB {x j pos}:PE X (.Constant (.str x) j pos) (tC (.str x)):=fun _ _ _ H _ I h=>Calls.Constant_str ⟨.str x,H,I.tok _,⟨_,rfl⟩,h⟩
def Gl (X:Cx)(x:Str):Prop:=X.env.kindOf x=some .globalImplicit
def Jj {E:Value->Shared->Prop}{pins:List (Addr×Obj)}{s:Shared}{σ:St}{H:Hp}{x:Str}{u:Value}{pos:Pos}{Q:Value->Shared->Prop}(I:Inv X pins σ H s)(hg:Gl X x)(hm:X.mg x=some u)(h:Q u s)
  (hd:autoParam ((x==("__debug__":Str))=false) q_2):wpAny (model X.prog X.w) X.A (eval (.Name x pos) X.env) Q E s :=
 Calls.Name_function_global I.ok.kind hg (Calls.loadGlobal_global (by rw[I.ok.glob];exact I.mod.glob.keeps I.bk) hm h) hd
def Zcp {E:Value->Shared->Prop}{pins:List (Addr×Obj)}{s:Shared}{σ:St}{H:Hp}{x:Str}{u:Value}{pos:Pos}{Q:Value->Shared->Prop}(I:Inv X pins σ H s)(hg:Gl X x)(hm:X.mg x=none)(hv:bootBuiltins x=some u)(h:Q u s)
  (hn:autoParam (x≠"__name__") q_2) (hd:autoParam ((x==("__debug__":Str))=false) q_2):wpAny (model X.prog X.w) X.A (eval (.Name x pos) X.env) Q E s:=by
 obtain⟨mb,h1,h2⟩:=I.mod.blt;exact Calls.Name_function_global I.ok.kind hg (Calls.loadGlobal_builtin (by rw[I.ok.glob];exact I.mod.glob.keeps I.bk) hm (by rw[I.ok.blt];exact h1.keeps I.bk) ((h2 x hn).trans hv) h) hd
def ZiB {x:Str}{v:V}{u:Value}{pos:Pos}(hg:Gl X x)(hm:X.mg x=some u)(r:RelV v u)(hd:autoParam ((x==("__debug__":Str))=false) q_2):PE X (.Name x pos) (tC v) :=
 fun _ _ _ H _ I h=>Jj I hg hm ⟨v,H,I,r,h⟩ hd
variable {a b:Expr}{ta tb:TE}{pos:Pos}
def PC (X:Cx)(op:CmpOp)(a b:Expr)(t:TE):Prop :=
 ∀(pins:List (Addr×Obj)) (s:Shared) (σ:St) (H:Hp) (Q:VK),Inv X pins σ H s->t σ H Q ->
  wpAny (model X.prog X.w) X.A (eval a X.env) (fun v s₁=>wpAny (model X.prog X.w) X.A (eval b X.env) (fun u s₂=>wpAny (model X.prog X.w) X.A (compareOp op v u) (EP X pins σ Q) X.xe s₂) X.xe s₁) X.xe s
def ZjW (b:Expr){op:CmpOp}(h:op≠.In)(h2:op≠.NotIn):behindInMarks op b=false:=by
 have e1:(op==CmpOp.In)=false:=by cases op <;> first | rfl | exact absurd rfl h
 have e2:(op==CmpOp.NotIn)=false:=by cases op <;> first | rfl | exact absurd rfl h2
 cases b <;> simp[behindInMarks,e1,e2]
def tB (t:TE):TT:=fun σ H Q=>t σ H fun x H1=>∃c,x=.bl c/\Q c H1
def ZnG {op:CmpOp}{t:TE}(h:PC X op a b t)(h1:behindInMarks op b=false:=by first | exact ZjW _ (by decide) (by decide) | rfl):PT X (.Compare a [op] [b] pos) (tB t):=by
 intro pins s σ H Q I hw;refine wpAny_isTrue_Compare1 (thn (h pins s σ H _ I hw) fun v s1 h1=>thn h1 fun u s2 h2=>thn h2 fun c s3 ⟨x,H1,I1,r1,q1⟩=>?_) h1;obtain⟨d,rfl,q⟩:=q1;cases r1;exact wpAny_truthy_bool ⟨H1,I1,q⟩
def X1 {e:Expr}{t:TE}(h:PE X e t)(he:autoParam (∀whole,isTrue e X.env whole=(do let v <- whole;standAt e.pos;holding [v] (truthy v))) q_4):PT X e (tB t):=by
 intro pins s σ H Q I hw;refine isTrue_plain (thn (h pins s σ H _ I hw) fun v s1 ⟨x,H1,I1,r1,q1⟩=>?_) (he _);obtain⟨d,rfl,q⟩:=q1;cases r1;exact wpAny_truthy_bool ⟨H1,I1,q⟩
variable {tA tB':TT}{rest:List Expr}
def tAnd (t u:TT):TT:=fun σ H Q=>t σ H fun c H1=>if c=true then u σ H1 Q else Q false H1
def tOr (t u:TT):TT:=fun σ H Q=>t σ H fun c H1=>if c=true then Q true H1 else u σ H1 Q
def tNot (t:TT):TT:=fun σ H Q=>t σ H fun c H1=>Q (!c) H1
def YQ (ha:PT X a tA):PW X (.BoolOp .And [a] pos) tA:=by
 intro wh pins s σ H Q I h;refine isTrue_and (thn (ha pins s σ H Q I h) fun c s1 e=>?_);cases c with
 | true=>exact isTrue_and_nil e
 | false=>exact e
def JU (ha:PT X a tA):PW X (.BoolOp .Or [a] pos) tA:=by
 intro wh pins s σ H Q I h;refine isTrue_or (thn (ha pins s σ H Q I h) fun c s1 e=>?_);cases c with
 | false=>exact isTrue_or_nil e
 | true=>exact e
def YV (ha:PT X a tA)(hb:PW X (.BoolOp .And (b::rest) pos) tB'):PW X (.BoolOp .And (a::b::rest) pos) (tAnd tA tB'):=by
 intro wh pins s σ H Q I h;refine isTrue_and (thn (ha pins s σ H _ I h) fun c s1 ⟨H1,I1,q1⟩=>?_);cases c with
 | true=>exact hb wh pins s1 σ H1 Q I1 q1
 | false=>exact⟨H1,I1,q1⟩
def ZcL (ha:PT X a tA)(hb:PW X (.BoolOp .Or (b::rest) pos) tB'):PW X (.BoolOp .Or (a::b::rest) pos) (tOr tA tB'):=by
 intro wh pins s σ H Q I h;refine isTrue_or (thn (ha pins s σ H _ I h) fun c s1 ⟨H1,I1,q1⟩=>?_);cases c with
 | true=>exact⟨H1,I1,q1⟩
 | false=>exact hb wh pins s1 σ H1 Q I1 q1
def UO (ha:PT X a tA):PT X (.UnaryOp .Not a pos) (tNot tA):=by
 intro pins s σ H Q I h;exact isTrue_not (ha pins s σ H (fun c H1=>Q (!c) H1) I h)
def Ziq (ta tb:TE):TE:=fun σ H Q=>ta σ H fun x H1=>∃c,x=.bl c/\if c=true then tb σ H1 Q else Q (.bl false) H1
def tOrV (ta tb:TE):TE:=fun σ H Q=>ta σ H fun x H1=>∃c,x=.bl c/\if c=true then Q (.bl true) H1 else tb σ H1 Q
def ZjA (ta:TE):TE:=fun σ H Q=>ta σ H fun x H1=>∃c,x=.bl c/\Q (.bl (!c)) H1
def ZkO {op}{t:TE}(h:PE X a t):PE X (.BoolOp op [a] pos) t:=fun pins s σ H Q I hw=>BoolOp_one (h pins s σ H Q I hw)
def Zmi (ha:PE X a ta)(hb:PE X (.BoolOp .And (b::rest) pos) tb):PE X (.BoolOp .And (a::b::rest) pos) (Ziq ta tb):=by
 intro pins s σ H Q I h;refine BoolOp_and (thn (ha pins s σ H _ I h) fun v s1 ⟨x,H1,I1,r1,q1⟩=>?_);obtain⟨c,rfl,q1⟩:=q1;cases r1;refine wpAny_truthy_bool ?_;cases c with
 | true=>exact hb pins s1 σ H1 Q I1 q1
 | false=>exact⟨.bl false,H1,I1,rfl,q1⟩
def Zm7 (ha:PE X a ta)(hb:PE X (.BoolOp .Or (b::rest) pos) tb):PE X (.BoolOp .Or (a::b::rest) pos) (tOrV ta tb):=by
 intro pins s σ H Q I h;refine BoolOp_or (thn (ha pins s σ H _ I h) fun v s1 ⟨x,H1,I1,r1,q1⟩=>?_);obtain⟨c,rfl,q1⟩:=q1;cases r1;refine wpAny_truthy_bool ?_;cases c with
 | false=>exact hb pins s1 σ H1 Q I1 q1
 | true=>exact⟨.bl true,H1,I1,rfl,q1⟩
def tIf (t:TT)(ta tb:TE):TE:=fun σ H Q=>t σ H fun c H1=>if c=true then ta σ H1 Q else tb σ H1 Q
def Zd1 {c:Expr}(hc:PT X c tA)(ha:PE X a ta)(hb:PE X b tb):PE X (.IfExp c a b pos) (tIf tA ta tb):=by
 intro pins s σ H Q I h;refine wpAny_IfExp (thn (hc pins s σ H _ I h) fun d s1 ⟨H1,I1,q1⟩=>?_);cases d with
 | true=>exact ha pins s1 σ H1 Q I1 q1
 | false=>exact hb pins s1 σ H1 Q I1 q1
end
def SqL (K:Frag)(H:Hp)(a:Addr)(xs:List V):Prop :=
 Rd H a (.lst xs) \/
  ∃(o:Obj) (its:Array Value) (n:Nat),K.lookup a=some o/\o.cls=.type "list"/\o.dict=none/\o.data=.seq its n/\its.size<=sizeLine/\Vals xs its.toList
def SqT (K:Frag)(H:Hp)(a:Addr)(xs:List V):Prop :=
 Rd H a (.tup xs) \/
  ∃(o:Obj) (its:Array Value) (n:Nat),K.lookup a=some o/\o.cls=.type "tuple"/\o.data=.seq its n/\its.size<=sizeLine/\Vals xs its.toList
noncomputable def absV:Value->Option V
 | .none=>some .non
 | .bool b=>some (.bl b)
 | .int i _=>some (.int i)
 | .str x _=>some (.str x)
 | .bytes b _=>some (.byt b)
 | .float b _=>some (.flt b)
 | .ref a=>some (.ref a)
 | .type n=>some (.ty n)
 | _=>none
theorem RelV.abs {x:V}{u:Value}(r:RelV x u):absV u=some x:=by
 cases x with
 | non=>cases r;rfl
 | bl _=>cases r;rfl
 | int _=>obtain⟨t,rfl⟩:=r;rfl
 | str _=>obtain⟨t,rfl⟩:=r;rfl
 | byt _=>obtain⟨t,rfl⟩:=r;rfl
 | flt _=>obtain⟨t,rfl⟩:=r;rfl
 | ref _=>cases r;rfl
 | ty _=>cases r;rfl
theorem RelV.inj {x y:V}{u:Value}(r:RelV x u)(q:RelV y u):x=y:=Option.some.inj (r.abs.symm.trans q.abs)
theorem Vals.inj:∀{xs ys:List V}{us:List Value},Vals xs us->Vals ys us->xs=ys
 | _,_,_,.nil,.nil=>rfl
 | _,_,_,.cons r t,.cons r' t'=>by rw[r.inj r',Vals.inj t t']
section
variable {X:Cx}{pins:List (Addr×Obj)}{σ:St}{H:Hp}{s:Shared}{a:Addr}{xs ys:List V}
theorem SqL.of {K:Frag}(h:H a=some (.lst xs)):SqL K H a xs:=.inl (.inl h)
theorem Inv.list (I:Inv X pins σ H s)(h:SqL X.K H a xs):∃its:List Value,Vals xs its/\PlainL s.heap a its.toArray/\xs.length<=sizeLine:=by
 rcases h with h | ⟨o,its,n,hk,hc,hd,hs,hz,r⟩
 ·obtain⟨z,its,n,r,e⟩:=h.ok I.hok;exact⟨its,r,⟨_,n,e,rfl,rfl,rfl⟩,z⟩
 ·refine⟨its.toList,r,⟨o,n,I.kIn a o hk,hc,hd,by simpa using hs⟩,?_⟩;have e:=r.length;simp only[Array.length_toList] at e;omega
theorem Inv.tuple (I:Inv X pins σ H s)(h:SqT X.K H a xs):∃its:List Value,Vals xs its/\IsTup s.heap a its.toArray/\xs.length<=sizeLine:=by
 rcases h with h | ⟨o,its,n,hk,hc,hs,hz,r⟩
 ·obtain⟨z,its,r,p⟩:=h.ok I.hok;exact⟨its,r,p,z⟩
 ·refine⟨its.toList,r,⟨o,I.kIn a o hk,hc,n,by simpa using hs⟩,?_⟩;have e:=r.length;simp only[Array.length_toList] at e;omega
theorem Inv.list_inj (I:Inv X pins σ H s)(h:SqL X.K H a xs)(h':SqL X.K H a ys):xs=ys:=by
 obtain⟨its,r,⟨o,n,e,_,_,d⟩,_⟩:=I.list h;obtain⟨its',r',⟨o',n',e',_,_,d'⟩,_⟩:=I.list h';rw[e] at e';cases e';rw[d] at d';injection d' with d1 _;have:its=its':=by simpa using congrArg Array.toList d1
 subst this;exact r.inj r'
theorem Inv.tuple_inj (I:Inv X pins σ H s)(h:SqT X.K H a xs)(h':SqT X.K H a ys):xs=ys:=by
 obtain⟨its,r,⟨o,e,_,n,d⟩,_⟩:=I.tuple h;obtain⟨its',r',⟨o',e',_,n',d'⟩,_⟩:=I.tuple h';rw[e] at e';cases e';rw[d] at d';injection d' with d1 _;have:its=its':=by simpa using congrArg Array.toList d1
 subst this;exact r.inj r'
end
noncomputable abbrev Cx.wish (X:Cx)(E:Value->Shared->Prop):Cx:={ X with xe:=E }
noncomputable abbrev Cx.nox (X:Cx):Cx:=X.wish fun _ _=>False
theorem Cx.Ok.wish {X:Cx}(ok:X.Ok)(E:Value->Shared->Prop):(X.wish E).Ok :=
 ⟨ok.mod,ok.kind,ok.glob,ok.blt,ok.above,ok.inj,ok.has,ok.cab,ok.hd,ok.frames,ok.stk,ok.exf,ok.bs,ok.bsz,ok.noex,ok.exfs,ok.funs,ok.frf⟩
theorem Cx.Ok.unwish {X:Cx}{E:Value->Shared->Prop}(ok:(X.wish E).Ok):X.Ok :=
 ⟨ok.mod,ok.kind,ok.glob,ok.blt,ok.above,ok.inj,ok.has,ok.cab,ok.hd,ok.frames,ok.stk,ok.exf,ok.bs,ok.bsz,ok.noex,ok.exfs,ok.funs,ok.frf⟩
section
variable {X:Cx}{pins:List (Addr×Obj)}{σ:St}{H:Hp}{s:Shared}{E:Value->Shared->Prop}
theorem Inv.wish (I:Inv X pins σ H s)(E:Value->Shared->Prop):Inv (X.wish E) pins σ H s:=⟨I.ok.wish E,I.os,I.bare,I.base,I.loc,I.cell,I.free,I.freeC,I.pin,I.hok,I.len⟩
theorem Inv.unwish (I:Inv (X.wish E) pins σ H s):Inv X pins σ H s:=⟨I.ok.unwish,I.os,I.bare,I.base,I.loc,I.cell,I.free,I.freeC,I.pin,I.hok,I.len⟩
theorem SP.unwish {D:Ends}{f:Flow}{s':Shared}(h:SP (X.wish E) pins D f s'):SP X pins D f s':=by
 cases f with
 | next=>obtain⟨σ',H',I,q⟩:=h;exact⟨σ',H',I.unwish,q⟩
 | brk=>obtain⟨σ',H',I,q⟩:=h;exact⟨σ',H',I.unwish,q⟩
 | cont=>obtain⟨σ',H',I,q⟩:=h;exact⟨σ',H',I.unwish,q⟩
 | ret u=>obtain⟨v,σ',H',I,r,q⟩:=h;exact⟨v,σ',H',I.unwish,r,q⟩
theorem PSs.nox {st:List Stmt}{t:TS}(h:PSs X.nox st t):PSs X st t:=fun pins s σ H D I hw =>
 wpAny_mono (h pins s σ H D (I.wish _) hw) (fun _ _ q=>q.unwish) fun _ _ z=>False.elim z
end
section
variable {X:Cx}{st:Stmt}{rest:List Stmt}{t u:TS}{e:Expr}{te:TE}{pos:Pos}
def Zhx:TS:=fun D σ H=>D.nx σ H
def tSeq (t u:TS):TS:=fun D σ H=>t { D with nx:=u D } σ H
def Zv:PSs X [] Zhx:=fun _ _ σ H _ I h=>wpAny_execs_nil ⟨σ,H,I,h⟩
def Zb (h1:PS X st t)(h2:PSs X rest u):PSs X (st::rest) (tSeq t u):=by
 intro pins s σ H D I h;refine wpAny_execs_cons (thn (h1 pins s σ H { D with nx:=u D } I h) fun f s1 q=>?_);cases f with
 | next =>
  obtain⟨σ',H',I',q⟩:=q;exact h2 pins s1 σ' H' D I' q
 | ret v=>exact q
 | brk=>exact q
 | cont=>exact q
def Ze (h1:PS X st t):PSs X [st] t:=by
 intro pins s σ H D I h;refine wpAny_execs_cons (thn (h1 pins s σ H D I h) fun f s1 q=>?_);cases f with
 | next=>exact wpAny_execs_nil q
 | ret v=>exact q
 | brk=>exact q
 | cont=>exact q
def Zip:TS:=fun D σ H=>D.bk σ H
def ZgS:PS X (.Break pos) Zip:=fun _ _ σ H _ I h=>wpAny_Break ⟨σ,H,I,h⟩
theorem Inv.quiet {pins:List (Addr×Obj)}{σ:St}{H:Hp}{s:Shared}(I:Inv X pins σ H s):interactive X.env=false:=by simp[interactive,I.ok.kind]
def Zhy (te:TE):TS:=fun D σ H=>te σ H fun _ H1=>D.nx σ H1
def Zr (he:PE X e te)(hs:autoParam (swapsWith e none pos.line X.env=pure false) q_1):PS X (.Expr e pos) (Zhy te):=by
 intro pins s σ H D I h;exact wpAny_Expr_any (thn (he pins s σ H _ I h) fun v s1 ⟨x,H1,I1,r1,q1⟩=>⟨σ,H1,I1,q1⟩) I.quiet hs
def tRet (te:TE):TS:=fun D σ H=>te σ H D.rt
def Zo (he:PE X e te):PS X (.Return (some e) pos) (tRet te):=by
 intro pins s σ H D I h;exact wpAny_Return_some (thn (he pins s σ H _ I h) fun v s1 ⟨x,H1,I1,r1,q1⟩=>⟨x,σ,H1,I1,r1,q1⟩)
def Zjz:TS:=fun D _ H=>D.rt .non H
def tIfS (c:TT)(t u:TS):TS:=fun D σ H=>c σ H fun b H1=>if b=true then t D σ H1 else u D σ H1
def ZV {c:Expr}{a b:List Stmt}{tc:TT}(hc:PT X c tc)(ha:PSs X a t)(hb:PSs X b u):PS X (.If c a b pos) (tIfS tc t u):=by
 intro pins s σ H D I h;refine wpAny_If (thn (hc pins s σ H _ I h) fun d s1 ⟨H1,I1,q1⟩=>?_);cases d with
 | true=>exact ha pins s1 σ H1 D I1 q1
 | false=>exact hb pins s1 σ H1 D I1 q1
end
abbrev TG:=V->St->Hp->(St->Hp->Prop)->Prop
abbrev TGs:=List V->St->Hp->(St->Hp->Prop)->Prop
def PG (X:Cx)(target:Expr)(t:TG):Prop :=
 ∀(pins:List (Addr×Obj)) (s:Shared) (σ:St) (H:Hp) (v:V) (u:Value) (Q:St->Hp->Prop),Inv X pins σ H s->RelV v u->t v σ H Q ->
  wpAny (model X.prog X.w) X.A (assign target X.env u) (fun _ s'=>∃σ' H',Inv X pins σ' H' s'/\Q σ' H') X.xe s
def PGs (X:Cx)(ts:List Expr)(t:TGs):Prop :=
 ∀(pins:List (Addr×Obj)) (s:Shared) (σ:St) (H:Hp) (vs:List V) (us:List Value) (Q:St->Hp->Prop),Inv X pins σ H s->Vals vs us->t vs σ H Q ->
  wpAny (model X.prog X.w) X.A (assignInOrder ((assignEach ts X.env).map (·.2)) us) (fun _ s'=>∃σ' H',Inv X pins σ' H' s'/\Q σ' H') X.xe s
abbrev TSet:=V->V->V->Hp->(Hp->Prop)->Prop
def PSet (X:Cx)(t:TSet):Prop :=
 ∀(pins:List (Addr×Obj)) (s:Shared) (σ:St) (H:Hp) (o i v:V) (ov iv u:Value) (Q:Hp->Prop),Inv X pins σ H s->RelV o ov->RelV i iv->RelV v u->t o i v H Q ->
  wpAny (model X.prog X.w) X.A (setItem ov iv u) (fun _ s'=>∃H',Inv X pins σ H' s'/\Q H') X.xe s
abbrev TIp:=V->V->Hp->VK->Prop
def PIp (X:Cx)(op:Operator)(t:TIp):Prop :=
 ∀(pins:List (Addr×Obj)) (s:Shared) (σ:St) (H:Hp) (x y:V) (v u:Value) (Q:VK),Inv X pins σ H s->RelV x v->RelV y u->t x y H Q ->
  wpAny (model X.prog X.w) X.A (inplaceOp op v u) (EP X pins σ Q) X.xe s
section
variable {X:Cx}{pos:Pos}
def VB (i:Nat):TG:=fun v σ H Q=>Q (σ.set i (some v)) H
def ZK {i:Nat}{x:Str}(hN:X.N.Nodup)(hi:X.N[i]?=some x)(hx:Loc X.env.scope x)(hf:autoParam (X.fn x=true\/X.env.scope.names.lookup x=some .local) q_3):PG X (.Name x pos) (VB i):=by
 intro pins s σ H v u Q I r h;exact wpAny_assign_Name (Zby I hN hi hx r (fun s' I'=>⟨_,H,I',h⟩) hf)
def gNil:TGs:=fun vs σ H Q=>vs=[]/\Q σ H
def Zh0 (t:TG)(u:TGs):TGs:=fun vs σ H Q=>∃v r,vs=v::r/\t v σ H fun σ' H'=>u r σ' H' Q
def Ziz:PGs X [] gNil:=by
 intro pins s σ H vs us Q I r h;obtain⟨e,h⟩:=h;subst e;cases r;exact assignInOrder_nil ⟨σ,H,I,h⟩
def ZbA {e:Expr}{es:List Expr}{t:TG}{u:TGs}(h1:PG X e t)(h2:PGs X es u)
  (hs:autoParam ((assignEach (e::es) X.env).map (·.2)=assign e X.env::(assignEach es X.env).map (·.2)) q_1):PGs X (e::es) (Zh0 t u):=by
 intro pins s σ H vs us Q I r h;obtain⟨v,vr,e1,h⟩:=h;subst e1;cases r with
 | cons r rr =>
  rw[hs];refine assignInOrder_cons (thn (h1 pins s σ H _ _ _ I r h) fun _ s1 ⟨σ1,H1,I1,q1⟩=>?_);exact h2 pins s1 σ1 H1 _ _ Q I1 rr q1
def gTup (K:Frag)(n:Nat)(t:TGs):TG:=fun v σ H Q=>∃a xs,v=.ref a/\SqT K H a xs/\xs.length=n/\t xs σ H Q
def ZkM {es:List Expr}{k:Nat}{t:TGs}{n:Nat}(hc:X.calm=true)(h:PGs X es t)
  (hn:autoParam ((assignEach es X.env).length=n) q_1) (hst:autoParam ((assignEach es X.env).findIdx? (·.1)=none) q_1):PG X (.Tuple es k pos) (gTup X.K n t):=by
 intro pins s σ H v u Q I r hw;obtain⟨a,xs,e1,hq,hl,hw⟩:=hw;subst e1;cases r;obtain⟨its,rv,ht,hz⟩:=I.tuple hq;refine assign_Tuple_tuple (I.ok.hd hc) ht (by simp[hn,<- hl,rv.length]) hst fun h' hx=>?_
 have I1:Inv X pins σ H { s with heap:=h' }:=I.kept (t':=s.toks) fun b o e=>hx b o (Nat.ne_of_lt (y0x e)) e
 exact h pins _ σ H xs _ Q I1 (by simpa using rv) hw
def gSub (to ti:TE)(t:TSet):TG:=fun v σ H Q=>to σ H fun o H1=>ti σ H1 fun i H2=>t o i v H2 fun H3=>Q σ H3
def ZkN {o i:Expr}{to ti:TE}{t:TSet}(ho:PE X o to)(hi:PE X i ti)(hs:PSet X t)
  (ha:autoParam (∀v,assign (.Subscript o i pos) X.env v=(do
   let ov <- holding [v] (eval o X.env)
   let iv <- holding [v,ov] (eval i X.env)
   standAt pos
   holding [v,ov,iv] (setItem ov iv v)
   release [v,ov,iv] [])) q_4):PG X (.Subscript o i pos) (gSub to ti t):=by
 intro pins s σ H v u Q I r h;rw[ha];refine wpAny_bind (wpAny_holding (thn (ho pins s σ H _ I h) fun ov s1 ⟨x,H1,I1,r1,q1⟩=>?_));refine wpAny_bind (wpAny_holding (thn (hi pins s1 σ H1 _ I1 q1) fun iv s2 ⟨y,H2,I2,r2,q2⟩=>?_));refine wpAny_bind (wpAny_standAt (wpAny_bind (wpAny_holding (thn (hs pins s2 σ H2 x y v ov iv u _ I2 r1 r2 r q2) fun _ s3 ⟨H3,I3,q3⟩=>?_))));exact wpAny_release ⟨σ,H3,I3,q3⟩
def tAsg (te:TE)(g:TG):TS:=fun D σ H=>te σ H fun x H1=>g x σ H1 D.nx
def ZkL {tg e:Expr}{te:TE}{g:TG}(he:PE X e te)(hg:PG X tg g)(hs:autoParam (swapsWithSole [tg] e pos.line X.env=pure false) q_1)(hw:autoParam (swappedStores [tg] e X.env=pure none) q_1)
  (h1:autoParam ((assignEach [tg] X.env).map (·.2)=[assign tg X.env]) q_1):PS X (.Assign [tg] e pos) (tAsg te g):=by
 intro pins s σ H D I h;refine wpAny_Assign_stores (thn (he pins s σ H _ I h) fun v s1 ⟨x,H1,I1,r1,q1⟩=>?_) hs hw;rw[h1];exact thn (hg pins s1 σ H1 x v _ I1 r1 q1) fun _ s2 q=>q
def Zl {i:Nat}{x:Str}{e:Expr}{te:TE}{pos':Pos}(hN:X.N.Nodup)(hi:X.N[i]?=some x)(hx:Loc X.env.scope x)(he:PE X e te)(hs:autoParam (swapsWith e (some (.Name x pos')) pos.line X.env=pure false) q_1)(hf:autoParam (X.fn x=true\/X.env.scope.names.lookup x=some .local) q_3):
  PS X (.Assign [.Name x pos'] e pos) (tAsg te (VB i)):=by
 intro pins s σ H D I h;refine wpAny_Assign_Name (thn (he pins s σ H _ I h) fun v s1 ⟨y,H1,I1,r1,q1⟩=>?_) hs;exact Zby I1 hN hi hx r1 (fun s2 I2=>⟨_,H1,I2,q1⟩) hf
def tAug (i:Nat)(te:TE)(ti:TIp):TS:=fun D σ H=>∃x,σ[i]?=some (some x)/\te σ H fun y H1=>ti x y H1 fun z H2=>D.nx (σ.set i (some z)) H2
def JW {i:Nat}{x:Str}{e:Expr}{te:TE}{op:Operator}{ti:TIp}{pos':Pos}(hN:X.N.Nodup)(hi:X.N[i]?=some x)(hx:Loc X.env.scope x)(he:PE X e te)(ho:PIp X op ti)(hf:autoParam (X.fn x=true\/X.env.scope.names.lookup x=some .local) q_3):
  PS X (.AugAssign (.Name x pos') op e pos) (tAug i te ti):=by
 intro pins s σ H D I h;obtain⟨v,e1,h⟩:=h;obtain⟨m,hn,hl⟩:=I.loc;have vis:Vis X.env.scope x:=by rcases hx with k | k;exact .inl k;exact .inr (.inl k)
 obtain⟨u,r,l⟩:=hl i x v hi e1 vis;refine wpAny_AugAssign_Name ?_;have go:wpAny (model X.prog X.w) X.A (eval e X.env) (fun w s₂=>wpAny (model X.prog X.w) X.A (inplaceOp op u w) (fun r s₃=>wpAny (model X.prog X.w) X.A (storeName X.env x r) (fun _=>SP X pins D .next) X.xe s₃) X.xe s₂) X.xe s:=by
  refine thn (he pins s σ H _ I h) fun w s1 ⟨y,H1,I1,r1,q1⟩=>?_
  refine thn (ho pins s1 σ H1 v y u w _ I1 r r1 q1) fun z s2 ⟨zv,H2,I2,r2,q2⟩=>?_
  exact Zby I2 hN hi hx r2 (fun s3 I3=>⟨_,H2,I3,q2⟩) hf
 rcases l with⟨hk,hm⟩ | ⟨hk,c,hc,hcell⟩
 ·exact wpAny_loadName_local I.ok.kind hk hn hm go
 ·rcases hk with hk | hk
  ·exact wpAny_loadName_cell I.ok.kind hk hc hcell go
  ·rcases hx with k | k
   ·have:X.env.scope.names.lookup x=some .free:=hk;rw[k] at this;cases this
   ·have:X.env.scope.names.lookup x=some .free:=hk;rw[k] at this;cases this
def ipI (f:Int->Int->Int):TIp:=fun x y H Q=>∃i j,x=.int i/\y=.int j/\Q (.int (f i j)) H
def Zbg:PIp X .Add (ipI fun i j=>i+j):=by
 intro pins s σ H x y v u Q I r1 r2 h;obtain⟨i,j,e1,e2,q⟩:=h;subst e1;subst e2;obtain⟨t,rfl⟩:=r1;obtain⟨t',rfl⟩:=r2;exact iadd_int ⟨.int _,H,I.tok _,⟨_,rfl⟩,q⟩
def Zmx:PIp X .Sub (ipI fun i j=>i-j):=by
 intro pins s σ H x y v u Q I r1 r2 h;obtain⟨i,j,e1,e2,q⟩:=h;subst e1;subst e2;obtain⟨t,rfl⟩:=r1;obtain⟨t',rfl⟩:=r2;exact isub_int ⟨.int _,H,I.tok _,⟨_,rfl⟩,q⟩
def Zl8 (c:TT)(tb:TS):TS:=fun D σ H=>∃W:Nat->St->Hp->Prop,(∃m,W m σ H)/\∀m σ H,W m σ H ->
 c σ H fun b H1=>if b=true then ∃N:St->Hp->Prop,(∀σ' H',N σ' H'->∃m',m' < m/\W m' σ' H')/\tb { D with nx:=N,ct:=N,bk:=D.nx } σ H1 else D.nx σ H1
def Yg {c:Expr}{body:List Stmt}{tc:TT}{tb:TS}(hp:PassesOwn (model X.prog X.w) X.A X.env X.xe)(hc:PT X c tc)(hb:PSs X body tb):PS X (.While c body [] pos) (Zl8 tc tb):=by
 intro pins s σ H D I h;obtain⟨W,⟨m0,w0⟩,turn⟩:=h;refine wpAny_While (codeAny_whileLoop (fun n s'=>∃σ' H',Inv X pins σ' H' s'/\W n σ' H') ?_ m0 ⟨σ,H,I,w0⟩);rintro n s1 ⟨σ1,H1,I1,w1⟩;refine wpAny_passesOwn hp (thn (hc pins s1 σ1 H1 _ I1 (turn n σ1 H1 w1)) fun b s2 ⟨H2,I2,q2⟩=>?_);cases b with
 | true =>
  obtain⟨N,hN,q2⟩:=q2;rw[if_pos rfl];refine wpAny_passesOwn hp (thn (hb pins s2 σ1 H2 _ I2 q2) fun f s3 q3=>?_);cases f with
  | next =>
   obtain⟨σ3,H3,I3,n3⟩:=q3;obtain⟨m',hm,w3⟩:=hN σ3 H3 n3;exact⟨m',hm,σ3,H3,I3,w3⟩
  | cont =>
   obtain⟨σ3,H3,I3,n3⟩:=q3;obtain⟨m',hm,w3⟩:=hN σ3 H3 n3;exact⟨m',hm,σ3,H3,I3,w3⟩
  | brk=>exact q3
  | ret v=>exact q3
 | false =>
  rw[if_neg Bool.false_ne_true];exact wpAny_execs_nil ⟨σ1,H2,I2,q2⟩
end
structure It where
 go:Nat->Hp->Prop
 yld:Nat->Hp->V->Hp->Prop
 stop:Nat->Hp->Prop
def FpOk (X:Cx)(pins:List (Addr×Obj))(H:Hp)(b:Addr):Prop :=
 H b=none/\b≠X.env.locals/\b ∉ X.fs/\(b∈X.ex\/X.s_0.heap.objs.size<=b)/\(∀x c,X.env.cells.lookup x=some c->c≠b)/\∀p∈X.pn++pins,p.1≠b
theorem Inv.fpOk {X:Cx}{pins:List (Addr×Obj)}{σ:St}{H H':Hp}{s:Shared}{b:Addr}(I:Inv X pins σ H s)(hb:s.heap.objs.size<=b)(hn:H' b=none):FpOk X pins H' b:=by
 refine⟨hn,Nat.ne_of_gt (y0t I.lt hb),I.nofs hb,.inr (y0q I.sz hb),fun x c e z=>?_,fun p hp z=>?_⟩
 ·obtain⟨v,q⟩:=I.cell x c e;exact absurd (y0t q.lt (by rw[z];exact hb)) (Nat.lt_irrefl _)
 ·exact absurd (y0t (y0x (I.pin p hp).1) (by rw[z];exact hb)) (Nat.lt_irrefl _)
structure Turn (P:Program)(w:World)(K:Frag)(tg:Expr)(J:It)(fp:List Addr)(it:Addr)(tn:Nat->Heap->Prop):Prop where
 mem:it∈fp
 obj:∀i h,tn i h->∀b∈fp,∃o,h.get? b=some o/\∀v,o.data≠.cell v
 keep:∀i h h',tn i h->(∀b∈fp,∀o,h.get? b=some o->h'.get? b=some o)->tn i h'
 item:∀(X:Cx),X.prog=P->X.w=w->X.K=K->X.calm=true->∀(i:Nat) (pins:List (Addr×Obj)) (s:Shared) (σ:St) (H:Hp) (E:Value->Shared->Prop),Inv X pins σ H s->(∀b∈fp,FpOk X pins H b)->tn i s.heap->J.go i H ->
  wpAny (model P w) X.A (pyNext (.ref it)) (fun r s1=>∃u,r=some u /\
   wpAny (model P w) X.A (letOwnedTupleGo tg (.ref it) u) (fun _ s2=>∃x H',Inv X pins σ H' s2/\RelV x u/\J.yld i H x H'/\tn (i+1) s2.heap/\∀b∈fp,H' b=none) E s1) E s
 done:∀(X:Cx),X.prog=P->X.w=w->X.K=K->X.calm=true->∀(i:Nat) (pins:List (Addr×Obj)) (s:Shared) (σ:St) (H:Hp) (E:Value->Shared->Prop),Inv X pins σ H s->(∀b∈fp,FpOk X pins H b)->tn i s.heap->J.stop i H ->
  wpAny (model P w) X.A (pyNext (.ref it)) (fun r s1=>r=none/\Inv X pins σ H s1) E s
 self:∀(A:Around) (i:Nat) (s:Shared) (Q:Value->Shared->Prop) (E:Value->Shared->Prop),tn i s.heap->Q (.ref it) s->wpAny (model P w) A (pyIter (.ref it)) Q E s
abbrev TI:=St->Hp->(It->Hp->Prop)->Prop
def PIE (X:Cx)(pins:List (Addr×Obj))(σ:St)(tg:Expr)(R:It->Hp->Prop)(itv:Value)(s2:Shared):Prop :=
 ∃(it:Addr) (fp:List Addr) (tn:Nat->Heap->Prop) (J:It) (H':Hp),itv=.ref it/\Inv X pins σ H' s2/\Turn X.prog X.w X.K tg J fp it tn/\tn 0 s2.heap/\(∀b∈fp,FpOk X pins H' b)/\R J H'
def PI (X:Cx)(tg iter:Expr)(wi:TI):Prop :=
 ∀(pins:List (Addr×Obj)) (s:Shared) (σ:St) (H:Hp) (R:It->Hp->Prop),Inv X pins σ H s->wi σ H R ->
  wpAny (model X.prog X.w) X.A (eval iter X.env) (fun v s1=>wpAny (model X.prog X.w) X.A (pyIter v) (PIE X pins σ tg R) X.xe s1) X.xe s
def ZiY {M:Model}{A:Around}{E:Value->Shared->Prop}{s:Shared}{tg:Expr}{it:Addr}{u:Value}{o:Obj}{n:String}{vs:Array Value}{Q:Unit->Shared->Prop}(ho:s.heap.get? it=some o)(hc:o.cls=.type n)(hd:o.data=.fields vs)
    (hn:["enumerate","zip","dict_itemiterator","dict_reverseitemiterator","odict_iterator","itertools.zip_longest","itertools.pairwise"].contains n=false) (hQ:Q () s):wpAny M A (letOwnedTupleGo tg (.ref it) u) Q E s:=by
  unfold letOwnedTupleGo;cases tg <;> first
    | exact wpAny_pure hQ
    | (cases u <;> first
        | exact wpAny_pure hQ
        | (refine wpAny_bind (wpAny_load ho ?_)
           rw[hc,hd];show wpAny M A (if (["enumerate","zip","dict_itemiterator","dict_reverseitemiterator","odict_iterator","itertools.zip_longest","itertools.pairwise"].contains n && vs[0]?==some (rawInt _))=true then _ else _) Q E s;rw[if_neg (by intro h;rw[hn,Bool.false_and] at h;cases h)];exact wpAny_pure hQ))
noncomputable def Itl (K:Frag)(a:Addr):It :=
 ⟨fun i H=>∃xs x,SqL K H a xs/\xs[i]?=some x,fun i H x H'=>H'=H/\∀xs,SqL K H a xs->xs[i]?=some x,fun i H=>∃xs,SqL K H a xs/\xs.length<=i⟩
noncomputable def Itt (K:Frag)(a:Addr):It :=
 ⟨fun i H=>∃xs x,SqT K H a xs/\xs[i]?=some x,fun i H x H'=>H'=H/\∀xs,SqT K H a xs->xs[i]?=some x,fun i H=>∃xs,SqT K H a xs/\xs.length<=i⟩
noncomputable def Itr (lo:Int)(n:Nat):It:=⟨fun i _=>i<n,fun i H x H'=>H'=H/\x=.int (lo+i),fun i _=>n<=i⟩
theorem Zie {P:Program}{w:World}{K:Frag}{tg:Expr}(a it:Addr):Turn P w K tg (Itl K a) [it] it (fun i h=>h.IsListIter it a i) where
 mem:=by simp
 obj:=fun i h st b hb=>by
  have e:b=it:=by simpa using hb
  subst e;obtain⟨o,e,c,d⟩:=st;exact⟨o,e,fun v z=>by rw[d] at z;cases z⟩
 keep:=fun i h h' st k=>st.at fun o e=>k it (by simp) o e
 item:=by
  intro X hP hw hK hc i pins s σ H E I hf st hg;subst hP hw hK;obtain⟨xs,x,hq,hx⟩:=hg;obtain⟨its,rv,p,hz⟩:=I.list hq;obtain⟨u,hu,ru⟩:=rv.get hx;obtain⟨f0,f1,f2,f3,f4,f5⟩:=hf it (by simp);refine wpAny_pyNext_list_item st p.isList (x:=u) (by simpa using hu) fun h' st' sb=>?_
  have I1:Inv X pins σ H { s with heap:=h' }:=I.turned (t':=s.toks) (fun b o hb e=>(sb.2 b hb).trans e) f0 f1 f3 f4 f5;obtain⟨o,e,c,d⟩:=id st';exact⟨u,rfl,ZiY (s:={ s with heap:=h' }) e c d (by decide) ⟨x,H,I1,ru,⟨rfl,fun ys hy=>by rw[I.list_inj hy hq];exact hx⟩,st',fun b hb=>(hf b hb).1⟩⟩
 done:=by
  intro X hP hw hK hc i pins s σ H E I hf st hg;subst hP hw hK;obtain⟨xs,hq,hx⟩:=hg;obtain⟨its,rv,p,hz⟩:=I.list hq;obtain⟨f0,f1,f2,f3,f4,f5⟩:=hf it (by simp);have hl:=rv.length;exact wpAny_pyNext_list_end (I.ok.hd hc) st p.isList (by simp;omega) fun h' eb=>⟨rfl,I.turned (t':=s.toks) (fun b o hb e=>eb b o hb e) f0 f1 f3 f4 f5⟩
 self:=fun _ _ _ _ _ st h=>wpAny_pyIter_listiter st h
def Zht {P:Program}{w:World}{K:Frag}{tg:Expr}(a it:Addr):Turn P w K tg (Itt K a) [it] it (fun i h=>h.IsTupleIter it a i) where
 mem:=by simp
 obj:=fun i h st b hb=>by
  have e:b=it:=by simpa using hb
  subst e;obtain⟨o,e,c,d⟩:=st;exact⟨o,e,fun v z=>by rw[d] at z;cases z⟩
 keep:=fun i h h' st k=>st.at fun o e=>k it (by simp) o e
 item:=by
  intro X hP hw hK hc i pins s σ H E I hf st hg;subst hP hw hK;obtain⟨xs,x,hq,hx⟩:=hg;obtain⟨its,rv,p,hz⟩:=I.tuple hq;obtain⟨u,hu,ru⟩:=rv.get hx;obtain⟨f0,f1,f2,f3,f4,f5⟩:=hf it (by simp);refine wpAny_pyNext_tuple_item st (show s.heap.IsTuple a its.toArray from p) (x:=u) (by simpa using hu) fun h' st' sb=>?_
  have I1:Inv X pins σ H { s with heap:=h' }:=I.turned (t':=s.toks) (fun b o hb e=>(sb.2 b hb).trans e) f0 f1 f3 f4 f5;obtain⟨o,e,c,d⟩:=id st';exact⟨u,rfl,ZiY (s:={ s with heap:=h' }) e c d (by decide) ⟨x,H,I1,ru,⟨rfl,fun ys hy=>by rw[I.tuple_inj hy hq];exact hx⟩,st',fun b hb=>(hf b hb).1⟩⟩
 done:=by
  intro X hP hw hK hc i pins s σ H E I hf st hg;subst hP hw hK;obtain⟨xs,hq,hx⟩:=hg;obtain⟨its,rv,p,hz⟩:=I.tuple hq;obtain⟨f0,f1,f2,f3,f4,f5⟩:=hf it (by simp);have hl:=rv.length;exact wpAny_pyNext_tuple_end (I.ok.hd hc) st (show s.heap.IsTuple a its.toArray from p) (by simp;omega) fun h' eb=>⟨rfl,I.turned (t':=s.toks) (fun b o hb e=>eb b o hb e) f0 f1 f3 f4 f5⟩
 self:=fun _ _ _ _ _ st h=>wpAny_pyIter_tupleiter st h
theorem Zhu {P:Program}{w:World}{K:Frag}{tg:Expr}(it:Addr)(lo:Int)(n:Nat):Turn P w K tg (Itr lo n) [it] it (fun i h=>IsRangeIter h it (lo+(i:Nat) * 1) ((n:Int)-(i:Nat)) 1) where
 mem:=by simp
 obj:=fun i h st b hb=>by
  have e:b=it:=by simpa using hb
  subst e;exact⟨_,st,fun v z=>by
   have z':Data.fields _=Data.cell v:=z;cases z'⟩
 keep:=fun i h h' st k=>k it (by simp) _ st
 item:=by
  intro X hP hw hK hc i pins s σ H E I hf st hg;subst hP hw hK;obtain⟨f0,f1,f2,f3,f4,f5⟩:=hf it (by simp);have W:=Walks.range (prog:=X.prog) (w:=X.w) (I.ok.hd hc) it lo 1 n;refine W.item i s _ _ hg st fun v h' tk hv st' kk=>?_
  obtain⟨t,rfl⟩:=hv;have I1:Inv X pins σ H { s with heap:=h',toks:=tk }:=I.turned (fun b o hb e=>kk b o (by simpa using hb) e) f0 f1 f3 f4 f5;refine⟨_,rfl,ZiY (s:={ s with heap:=h',toks:=tk }) (n:="range_iterator") st' rfl rfl (by decide) ⟨.int (lo+i),H,I1,⟨t,?_⟩,⟨rfl,rfl⟩,st',fun b hb=>(hf b hb).1⟩⟩;rw[Int.mul_one]
 done:=by
  intro X hP hw hK hc i pins s σ H E I hf st hg;subst hP hw hK;obtain⟨f0,f1,f2,f3,f4,f5⟩:=hf it (by simp);exact wpAny_pyNext_range_end (I.ok.hd hc) st (by have:n<=i:=hg;omega) fun h' eb=>⟨rfl,I.turned (t':=s.toks) (fun b o hb e=>eb b o hb e) f0 f1 f3 f4 f5⟩
 self:=fun _ _ _ _ _ st h=>wpAny_pyIter_rangeiter st h
section
variable {X:Cx}{tg:Expr}
def ZlE (K:Frag)(tl:TE):TI:=fun σ H R=>tl σ H fun x H1=>∃a,x=.ref a/\(∃xs,SqL K H1 a xs)/\R (Itl K a) H1
def iTup (K:Frag)(tl:TE):TI:=fun σ H R=>tl σ H fun x H1=>∃a,x=.ref a/\(∃xs,SqT K H1 a xs)/\R (Itt K a) H1
def Xz {l:Expr}{tl:TE}(hl:PE X l tl):PI X tg l (ZlE X.K tl):=by
 intro pins s σ H R I h;refine thn (hl pins s σ H _ I h) fun v s1 ⟨x,H1,I1,r1,q1⟩=>?_
 obtain⟨a,e,⟨xs,hq⟩,q⟩:=q1;subst e;cases r1;obtain⟨its,rv,p,hz⟩:=I1.list hq;refine wpAny_pyIter_list p.isList ?_;refine⟨s1.heap.objs.size,[s1.heap.objs.size],_,_,H1,rfl,I1.kept (t':=s1.toks) fun b o e=>y0v _ e,Zie a _,⟨_,y0w _ rfl,rfl,rfl⟩,fun b hb=>?_,q⟩;have e:b=s1.heap.objs.size:=by simpa using hb
 subst e;exact I1.fpOk (y0r _) (I1.hok.fresh (y0r _))
def Zmg {l:Expr}{tl:TE}(hl:PE X l tl):PI X tg l (iTup X.K tl):=by
 intro pins s σ H R I h;refine thn (hl pins s σ H _ I h) fun v s1 ⟨x,H1,I1,r1,q1⟩=>?_
 obtain⟨a,e,⟨xs,hq⟩,q⟩:=q1;subst e;cases r1;obtain⟨its,rv,p,hz⟩:=I1.tuple hq;refine wpAny_pyIter_tuple (show s1.heap.IsTuple a its.toArray from p) ?_;refine⟨s1.heap.objs.size,[s1.heap.objs.size],_,_,H1,rfl,I1.kept (t':=s1.toks) fun b o e=>y0v _ e,Zht a _,⟨_,y0w _ rfl,rfl,rfl⟩,fun b hb=>?_,q⟩;have e:b=s1.heap.objs.size:=by simpa using hb
 subst e;exact I1.fpOk (y0r _) (I1.hok.fresh (y0r _))
theorem ZgR {pins:List (Addr×Obj)}{σ:St}{H:Hp}{s:Shared}{R:It->Hp->Prop}{E:Value->Shared->Prop}{lo hi:Int}{t u v:Tok}{tk:Nat}(I:Inv X pins σ H s)(h1:-(2 ^ 62)<=lo)(h2:lo<2 ^ 62)(h3:-(2 ^ 62)<=hi)(h4:hi<2 ^ 62)
  (q:R (Itr lo (hi-lo).toNat) H):wpAny (model X.prog X.w) X.A (pyIter (.ref s.heap.objs.size)) (PIE X pins σ tg R) E { s with heap:=s.heap.push { cls:=.type "range",data:=.fields #[.int lo t,.int hi u,.int 1 v] },toks:=tk }:=by
 refine wpAny_pyIter_range (IsRange.new ..) (small_one h1 h2 h3 h4) ?_;have I1:Inv X pins σ H { s with heap:=s.heap.push { cls:=.type "range",data:=.fields #[.int lo t,.int hi u,.int 1 v] },toks:=tk }:=I.kept fun b o e=>y0v _ e
 refine⟨(s.heap.push { cls:=.type "range",data:=.fields #[.int lo t,.int hi u,.int 1 v] }).objs.size,[(s.heap.push { cls:=.type "range",data:=.fields #[.int lo t,.int hi u,.int 1 v] }).objs.size],_,_,H,rfl,
  I1.kept (t':=tk) fun b o e=>y0v _ e,Zhu _ lo (hi-lo).toNat,?_,fun b hb=>?_,q⟩
 ·have e1:lo+((0:Nat):Int) * 1=lo:=by simp
  have e2:(((hi-lo).toNat:Nat):Int)-((0:Nat):Int)=Builtin.Range.rangeSize lo hi 1:=by rw[rangeSize_one];split <;> omega
  show IsRangeIter _ _ (lo+((0:Nat):Int) * 1) ((((hi-lo).toNat:Nat):Int)-((0:Nat):Int)) 1;rw[e1,e2];exact y0w _ rfl
 ·have e:b=(s.heap.push { cls:=.type "range",data:=.fields #[.int lo t,.int hi u,.int 1 v] }).objs.size:=by simpa using hb
  subst e;exact I1.fpOk (y0r _) (I1.hok.fresh (y0r _))
def Zng (ta:TA):TI:=fun σ H R=>ta σ H fun vs H1=>∃j:Int,vs=[.int j]/\-(2 ^ 62)<=j/\j<2 ^ 62/\R (Itr 0 j.toNat) H1
def Znf (ta:TA):TI:=fun σ H R=>ta σ H fun vs H1=>∃i j:Int,vs=[.int i,.int j]/\(-(2 ^ 62)<=i/\i<2 ^ 62/\-(2 ^ 62)<=j/\j<2 ^ 62)/\R (Itr i (j-i).toNat) H1
theorem Zb8 {a:Expr}{ta:TA}{p pos:Pos}(hg:Gl X "range")(hm:X.mg "range"=none)(ha:PA X [a] ta)(hs:autoParam (starEach [a] X.env=[(false,eval a X.env)]) q_1):PI X tg (.Call (.Name "range" p) [a] [] pos) (Zng ta):=by
 intro pins s σ H R I h;refine Call_ (Zcp I hg hm boot_range (PyProof.Rows.callWith_type1 (thn (ha pos pins s σ H _ I h) fun us s1 ⟨vs,H1,I1,r1,q1⟩=>?_) hs rfl));obtain⟨j,e,q1,q2,q⟩:=q1;subst e;cases r1 with
 | cons r rr =>
  cases rr;obtain⟨t,rfl⟩:=r;exact call_range_1 (ZgR I1 (by omega) (by omega) q1 q2 (by simpa using q))
def X2 {a b:Expr}{ta:TA}{p pos:Pos}(hg:Gl X "range")(hm:X.mg "range"=none)(ha:PA X [a,b] ta)(hs:autoParam (starEach [a,b] X.env=[(false,eval a X.env),(false,eval b X.env)]) q_1)(hs2:autoParam (starEach [b] X.env=[(false,eval b X.env)]) q_1):
  PI X tg (.Call (.Name "range" p) [a,b] [] pos) (Znf ta):=by
 intro pins s σ H R I h;refine Call_ (Zcp I hg hm boot_range (PyProof.Rows.callWith_type1 (thn (ha pos pins s σ H _ I h) fun us s1 ⟨vs,H1,I1,r1,q1⟩=>?_) (by rw[hs,hs2]) (by rw[hs2];rfl)));obtain⟨i,j,e,⟨q1,q2,q3,q4⟩,q⟩:=q1;subst e;cases r1 with
 | cons r rr =>
  cases rr with
  | cons r' rr =>
   cases rr;obtain⟨t,rfl⟩:=r;obtain⟨t',rfl⟩:=r';exact call_range_2 (ZgR I1 q1 q2 q3 q4 q)
def tFor (wi:TI)(g:TG)(tb:TS):TS:=fun D σ H=>wi σ H fun J H1=>∃W:Nat->Nat->St->Hp->Prop,(∃m,W 0 m σ H1)/\∀i m σ H,W i m σ H ->
 (J.stop i H/\D.nx σ H)\/(J.go i H/\∃N:St->Hp->Prop,(∀σ' H',N σ' H'->∃m',m' < m/\W (i+1) m' σ' H')/\∀x H',J.yld i H x H'->g x σ H' fun σ2 H2=>tb { D with nx:=N,ct:=N,bk:=D.nx } σ2 H2)
noncomputable def ZeU (fp:List Addr)(h:Heap):List (Addr×Obj):=fp.filterMap fun b=>(h.get? b).map fun o=>(b,o)
def ZaD {fp:List Addr}{h:Heap}{b:Addr}{o:Obj}(hb:b∈fp)(e:h.get? b=some o):(b,o)∈ZeU fp h:=List.mem_filterMap.mpr ⟨b,hb,by rw[e];rfl⟩
def ZiG {fp:List Addr}{h:Heap}{p:Addr×Obj}(hp:p∈ZeU fp h):p.1∈fp/\h.get? p.1=some p.2:=by
 obtain⟨b,hb,e⟩:=List.mem_filterMap.mp hp;cases q:h.get? b with
 | none=>rw[q] at e;cases e
 | some o =>
  rw[q] at e;have e':(b,o)=p:=Option.some.inj e;subst e';exact⟨hb,q⟩
theorem Inv.pinned {pins:List (Addr×Obj)}{σ:St}{H:Hp}{s:Shared}{fp:List Addr}(I:Inv X pins σ H s)(hf:∀b∈fp,FpOk X pins H b)(ho:∀b∈fp,∃o,s.heap.get? b=some o/\∀v,o.data≠.cell v):Inv X (pins++ZeU fp s.heap) σ H s :=
 I.pins_of fun p hp=>(y0d.mp hp).elim (fun z=>I.pin p (List.mem_append_right _ z)) fun z=>by
  obtain⟨hb,e⟩:=ZiG z;obtain⟨f0,f1,f2,_⟩:=hf p.1 hb;obtain⟨o,e',d⟩:=ho p.1 hb;rw[e] at e';cases e';exact⟨e,f0,f1,f2,d⟩
theorem Inv.unpinned {pins pl:List (Addr×Obj)}{σ:St}{H:Hp}{s:Shared}(I:Inv X (pins++pl) σ H s):Inv X pins σ H s:=I.pins_of fun p hp=>I.pin p (List.mem_append_right _ (List.mem_append_left _ hp))
def Y7 {iter:Expr}{body:List Stmt}{wi:TI}{g:TG}{tb:TS}{pos:Pos}(hp:PassesOwn (model X.prog X.w) X.A X.env X.xe)(hc:X.calm=true)(hi:PI X tg iter wi)(hg:PG X tg g)(hb:PSs X body tb)
  (hs:autoParam (∀x,foldedSetIterable iter X.env x=pure x) q_4):PS X (.For tg iter body [] pos) (tFor wi g tb):=by
 intro pins s σ H D I h;refine wpAny_For (thn (hi pins s σ H _ I h) fun v s1 h1=>thn h1 fun itv s2 h2=>?_) hs;obtain⟨it,fp,tn,J,H2,e,I2,T,st2,f2,W,⟨m0,w0⟩,turn⟩:=h2;subst e
 -- what stays true of the iterator's objects through the loop
 have stat:∀{H':Hp},(∀b∈fp,H' b=none)->∀b∈fp,FpOk X pins H' b:=fun hn b hb=>⟨hn b hb,(f2 b hb).2⟩
 refine codeAny_forLoop_any (fun n s'=>∃i σ' H',Inv X pins σ' H' s'/\tn i s'.heap/\(∀b∈fp,H' b=none)/\W i n σ' H') ?_ m0 ⟨0,σ,H2,I2,st2,fun b hb=>(f2 b hb).1,w0⟩;rintro n s3 ⟨i,σ3,H3,I3,st3,fr3,w3⟩;rcases turn i n σ3 H3 w3 with⟨stop,qn⟩ | ⟨go,N,hN,step⟩
 ·refine wpAny_passesOwn hp (thn (T.done X rfl rfl rfl hc i pins s3 σ3 H3 X.xe I3 (stat fr3) st3 stop) fun r s4 ⟨hr,I4⟩=>?_);subst hr;exact wpAny_execs_nil ⟨σ3,H3,I4,qn⟩
 ·refine wpAny_passesOwn hp (thn (T.item X rfl rfl rfl hc i pins s3 σ3 H3 X.xe I3 (stat fr3) st3 go) fun r s4 ⟨u,hr,h4⟩=>?_);subst hr;refine wpAny_passesOwn hp (thn h4 fun _ s5 ⟨x,H5,I5,r5,y5,st5,fr5⟩=>?_);have I5':=I5.pinned (stat fr5) (T.obj _ _ st5);refine wpAny_passesOwn hp (thn (hg _ s5 σ3 H5 x u _ I5' r5 (step x H5 y5)) fun _ s6 ⟨σ6,H6,I6,q6⟩=>?_);refine wpAny_passesOwn hp (thn (hb _ s6 σ6 H6 _ I6 q6) fun f s7 q7=>?_);have again:∀{σ7:St}{H7:Hp},Inv X (pins++ZeU fp s5.heap) σ7 H7 s7->N σ7 H7->∃m,m<n/\∃i σ' H',Inv X pins σ' H' s7/\tn i s7.heap/\(∀b∈fp,H' b=none)/\W i m σ' H':=fun {σ7 H7} I7 n7=>by
   obtain⟨m',hm,w7⟩:=hN σ7 H7 n7;refine⟨m',hm,i+1,σ7,H7,I7.unpinned,T.keep _ _ _ st5 fun b hb o e=>(I7.pin (b,o) (List.mem_append_right _ (List.mem_append_right _ (ZaD hb e)))).1,fun b hb=>?_,w7⟩;obtain⟨o,e,d⟩:=T.obj _ _ st5 b hb;exact(I7.pin (b,o) (List.mem_append_right _ (List.mem_append_right _ (ZaD hb e)))).2.1
  cases f with
  | next=>obtain⟨σ7,H7,I7,n7⟩:=q7;exact again I7 n7
  | cont=>obtain⟨σ7,H7,I7,n7⟩:=q7;exact again I7 n7
  | brk=>obtain⟨σ7,H7,I7,q7⟩:=q7;exact⟨σ7,H7,I7.unpinned,q7⟩
  | ret v=>obtain⟨x7,σ7,H7,I7,r7,q7⟩:=q7;exact⟨x7,σ7,H7,I7.unpinned,r7,q7⟩
end
theorem W9 {K:Frag}{a:Addr}{xs:List V}{g:TG}{tb:TS}{D:Ends}{σ:St}{H:Hp}(Pv:Nat->St->Hp->Prop)(h0:Pv 0 σ H)(hl:∀i σ H,i<=xs.length->Pv i σ H->SqL K H a xs)
  (hs:∀i x σ H,xs[i]?=some x->Pv i σ H->g x σ H fun σ2 H2=>tb { D with nx:=Pv (i+1),ct:=Pv (i+1),bk:=D.nx } σ2 H2) (hd:∀σ H,Pv xs.length σ H->D.nx σ H) :
  ∃W:Nat->Nat->St->Hp->Prop,(∃m,W 0 m σ H)/\∀i m σ H,W i m σ H ->
   ((Itl K a).stop i H/\D.nx σ H)\/((Itl K a).go i H/\∃N:St->Hp->Prop,(∀σ' H',N σ' H'->∃m',m' < m/\W (i+1) m' σ' H')/\∀x H',(Itl K a).yld i H x H'->g x σ H' fun σ2 H2=>tb { D with nx:=N,ct:=N,bk:=D.nx } σ2 H2):=by
 refine⟨fun i m σ H=>m=xs.length-i/\i<=xs.length/\Pv i σ H,⟨xs.length,by simp,y0u _,h0⟩,?_⟩;rintro i m σ H ⟨rfl,hi,p⟩;have q:=hl i σ H hi p;by_cases hlt:i<xs.length
 ·refine .inr ⟨⟨xs,xs[i],q,by simp[hlt]⟩,Pv (i+1),fun σ' H' p'=>⟨xs.length-(i+1),by omega,rfl,hlt,p'⟩,fun x H' y=>?_⟩;obtain⟨e,y⟩:=y;subst e;exact hs i x σ _ (y xs q) p
 ·have e:i=xs.length:=by omega
  subst e;exact .inl ⟨⟨xs,q,y0r _⟩,hd σ H p⟩
def ZlK {K:Frag}{a:Addr}{xs:List V}{g:TG}{tb:TS}{D:Ends}{σ:St}{H:Hp}(Pv:Nat->St->Hp->Prop)(h0:Pv 0 σ H)(hl:∀i σ H,i<=xs.length->Pv i σ H->SqT K H a xs)
  (hs:∀i x σ H,xs[i]?=some x->Pv i σ H->g x σ H fun σ2 H2=>tb { D with nx:=Pv (i+1),ct:=Pv (i+1),bk:=D.nx } σ2 H2) (hd:∀σ H,Pv xs.length σ H->D.nx σ H) :
  ∃W:Nat->Nat->St->Hp->Prop,(∃m,W 0 m σ H)/\∀i m σ H,W i m σ H ->
   ((Itt K a).stop i H/\D.nx σ H)\/((Itt K a).go i H/\∃N:St->Hp->Prop,(∀σ' H',N σ' H'->∃m',m' < m/\W (i+1) m' σ' H')/\∀x H',(Itt K a).yld i H x H'->g x σ H' fun σ2 H2=>tb { D with nx:=N,ct:=N,bk:=D.nx } σ2 H2):=by
 refine⟨fun i m σ H=>m=xs.length-i/\i<=xs.length/\Pv i σ H,⟨xs.length,by simp,y0u _,h0⟩,?_⟩;rintro i m σ H ⟨rfl,hi,p⟩;have q:=hl i σ H hi p;by_cases hlt:i<xs.length
 ·refine .inr ⟨⟨xs,xs[i],q,by simp[hlt]⟩,Pv (i+1),fun σ' H' p'=>⟨xs.length-(i+1),by omega,rfl,hlt,p'⟩,fun x H' y=>?_⟩;obtain⟨e,y⟩:=y;subst e;exact hs i x σ _ (y xs q) p
 ·have e:i=xs.length:=by omega
  subst e;exact .inl ⟨⟨xs,q,y0r _⟩,hd σ H p⟩
theorem Ue {lo:Int}{n:Nat}{g:TG}{tb:TS}{D:Ends}{σ:St}{H:Hp}(Pv:Nat->St->Hp->Prop)(h0:Pv 0 σ H)
  (hs:∀i σ H,i<n->Pv i σ H->g (.int (lo+i)) σ H fun σ2 H2=>tb { D with nx:=Pv (i+1),ct:=Pv (i+1),bk:=D.nx } σ2 H2) (hd:∀σ H,Pv n σ H->D.nx σ H) :
  ∃W:Nat->Nat->St->Hp->Prop,(∃m,W 0 m σ H)/\∀i m σ H,W i m σ H ->
   ((Itr lo n).stop i H/\D.nx σ H)\/((Itr lo n).go i H/\∃N:St->Hp->Prop,(∀σ' H',N σ' H'->∃m',m' < m/\W (i+1) m' σ' H')/\∀x H',(Itr lo n).yld i H x H'->g x σ H' fun σ2 H2=>tb { D with nx:=N,ct:=N,bk:=D.nx } σ2 H2):=by
 refine⟨fun i m σ H=>m=n-i/\i<=n/\Pv i σ H,⟨n,by simp,y0u _,h0⟩,?_⟩;rintro i m σ H ⟨rfl,hi,p⟩;by_cases hlt:i<n
 ·refine .inr ⟨hlt,Pv (i+1),fun σ' H' p'=>⟨n-(i+1),by omega,rfl,hlt,p'⟩,fun x H' y=>?_⟩;obtain⟨e,y⟩:=y;subst e y;exact hs i σ _ hlt p
 ·have e:i=n:=by omega
  subst e;exact .inl ⟨y0r _,hd σ H p⟩
abbrev R2:=V->V->Hp->VK->Prop
def OpR (X:Cx)(f:Value->Value->Sem Value)(r:R2):Prop :=
 ∀(pins:List (Addr×Obj)) (s:Shared) (σ:St) (H:Hp) (x y:V) (v u:Value) (Q:VK),Inv X pins σ H s->RelV x v->RelV y u->r x y H Q ->
  wpAny (model X.prog X.w) X.A (f v u) (EP X pins σ Q) X.xe s
def UnR (X:Cx)(f:Value->Sem Value)(r:V->Hp->VK->Prop):Prop :=
 ∀(pins:List (Addr×Obj)) (s:Shared) (σ:St) (H:Hp) (x:V) (v:Value) (Q:VK),Inv X pins σ H s->RelV x v->r x H Q ->
  wpAny (model X.prog X.w) X.A (f v) (EP X pins σ Q) X.xe s
def Zep (X:Cx)(f:Value)(r:List V->Hp->VK->Prop):Prop :=
 ∀(pins:List (Addr×Obj)) (s:Shared) (σ:St) (H:Hp) (xs:List V) (us:List Value) (Q:VK),Inv X pins σ H s->Vals xs us->r xs H Q ->
  wpAny (model X.prog X.w) X.A (call f us) (EP X pins σ Q) X.xe s
def TruR (X:Cx)(r:V->Hp->(Bool->Hp->Prop)->Prop):Prop :=
 ∀(pins:List (Addr×Obj)) (s:Shared) (σ:St) (H:Hp) (x:V) (v:Value) (Q:Bool->Hp->Prop),Inv X pins σ H s->RelV x v->r x H Q ->
  wpAny (model X.prog X.w) X.A (truthy v) (TP X pins σ Q) X.xe s
def tOp (r:R2)(ta tb:TE):TE:=fun σ H Q=>ta σ H fun x H1=>tb σ H1 fun y H2=>r x y H2 Q
def tUn (r:V->Hp->VK->Prop)(ta:TE):TE:=fun σ H Q=>ta σ H fun x H1=>r x H1 Q
def rI (C:Int->Int->Prop)(g:Int->Int->V):R2:=fun x y H Q=>∃i j,x=.int i/\y=.int j/\C i j/\Q (g i j) H
def rI0 (g:Int->Int->V):R2:=fun x y H Q=>∃i j,x=.int i/\y=.int j/\Q (g i j) H
def rU (g:Int->V):V->Hp->VK->Prop:=fun x H Q=>∃i,x=.int i/\Q (g i) H
section
variable {X:Cx}{a b c:Expr}{ta tb tc:TE}{pos:Pos}
def binT (ha:PE X a ta)(hb:PE X b tb){pins:List (Addr×Obj)}{s:Shared}{σ:St}{H:Hp}{R:V->V->Hp->Prop}(I:Inv X pins σ H s)
  (h:ta σ H fun x H1=>tb σ H1 fun y H2=>R x y H2) {Q:Value->Shared->Prop}{f:Value->Value->Sem Value}
  (hf:∀v u s2 x y H2,Inv X pins σ H2 s2->RelV x v->RelV y u->R x y H2->wpAny (model X.prog X.w) X.A (f v u) Q X.xe s2) :
  wpAny (model X.prog X.w) X.A (eval a X.env) (fun v s₁=>wpAny (model X.prog X.w) X.A (eval b X.env) (fun u s₂=>wpAny (model X.prog X.w) X.A (f v u) Q X.xe s₂) X.xe s₁) X.xe s:=by
 refine thn (ha pins s σ H _ I h) fun v s1 ⟨x,H1,I1,r1,q1⟩=>?_
 refine thn (hb pins s1 σ H1 _ I1 q1) fun u s2 ⟨y,H2,I2,r2,q2⟩=>?_
 exact hf v u s2 x y H2 I2 r1 r2 q2
def Zw {op:Operator}{r:R2}(ho:OpR X (binaryOp op) r)(ha:PE X a ta)(hb:PE X b tb):PE X (.BinOp a op b pos) (tOp r ta tb):=by
 intro pins s σ H Q I h;exact wpAny_BinOp (binT ha hb I h fun v u s2 x y H2 I2 rx ry q=>ho pins s2 σ H2 x y v u Q I2 rx ry q)
def ZeW {op:UnaryOp}{r:V->Hp->VK->Prop}(ho:UnR X (unaryOp op) r)(ha:PE X a ta):PE X (.UnaryOp op a pos) (tUn r ta):=by
 intro pins s σ H Q I h;exact UnaryOp_ (thn (ha pins s σ H _ I h) fun v s1 ⟨x,H1,I1,r1,q1⟩=>ho pins s1 σ H1 x v Q I1 r1 q1)
def opI {f:Value->Value->Sem Value}{C:Int->Int->Prop}{g:Int->Int->Int}
  (rule:∀(i j:Int) (t u:Tok) (s:Shared) (Q:Value->Shared->Prop) (E:Value->Shared->Prop),C i j->Q (.int (g i j) s.toks) { s with toks:=s.toks+1 }->wpAny (model X.prog X.w) X.A (f (.int i t) (.int j u)) Q E s) :
  OpR X f (rI C fun i j=>.int (g i j)):=by
 intro pins s σ H x y v u Q I rx ry h;obtain⟨i,j,rfl,rfl,hc,q⟩:=h;obtain⟨t,rfl⟩:=rx;obtain⟨t',rfl⟩:=ry;exact rule i j t t' s _ _ hc ⟨.int (g i j),H,I.tok _,⟨_,rfl⟩,q⟩
def opI0 {f:Value->Value->Sem Value}{g:Int->Int->Int}
  (rule:∀(i j:Int) (t u:Tok) (s:Shared) (Q:Value->Shared->Prop) (E:Value->Shared->Prop),Q (.int (g i j) s.toks) { s with toks:=s.toks+1 }->wpAny (model X.prog X.w) X.A (f (.int i t) (.int j u)) Q E s) :
  OpR X f (rI0 fun i j=>.int (g i j)):=by
 intro pins s σ H x y v u Q I rx ry h;obtain⟨i,j,rfl,rfl,q⟩:=h;obtain⟨t,rfl⟩:=rx;obtain⟨t',rfl⟩:=ry;exact rule i j t t' s _ _ ⟨.int (g i j),H,I.tok _,⟨_,rfl⟩,q⟩
def opB0 {f:Value->Value->Sem Value}{g:Int->Int->Bool}
  (rule:∀(i j:Int) (t u:Tok) (s:Shared) (Q:Value->Shared->Prop) (E:Value->Shared->Prop),Q (.bool (g i j)) s->wpAny (model X.prog X.w) X.A (f (.int i t) (.int j u)) Q E s) :
  OpR X f (rI0 fun i j=>.bl (g i j)):=by
 intro pins s σ H x y v u Q I rx ry h;obtain⟨i,j,rfl,rfl,q⟩:=h;obtain⟨t,rfl⟩:=rx;obtain⟨t',rfl⟩:=ry;exact rule i j t t' s _ _ ⟨.bl (g i j),H,I,rfl,q⟩
def CDiv (i j:Int):Prop:=0<j/\j<1073741824
def CPow (i j:Int):Prop:=0<=j/\j<=1000000/\i.natAbs<2 ^ 64
def CMul (i j:Int):Prop:=(-(2 ^ 64)<i/\i<2 ^ 64)\/(-(2 ^ 64)<j/\j<2 ^ 64)
theorem CMul.ok {i j:Int}(h:CMul i j):IntMulOk i j:=by
 rcases h with⟨h1,h2⟩ | ⟨h1,h2⟩
 ·exact .of_left (intBits_le_64 h1 h2)
 ·exact .of_right (intBits_le_64 h1 h2)
def ZS:OpR X (binaryOp .Add) (rI0 fun i j=>.int (i+j)):=opI0 fun _ _ _ _ _ _ _ q=>add_int q
def Z6:OpR X (binaryOp .Sub) (rI0 fun i j=>.int (i-j)):=opI0 fun _ _ _ _ _ _ _ q=>sub_int q
def Ze1:OpR X (binaryOp .Mult) (rI CMul fun i j=>.int (i * j)):=opI fun _ _ _ _ _ _ _ hc q=>mul_int q hc.ok
theorem Zay:OpR X (binaryOp .FloorDiv) (rI CDiv fun i j=>.int (i / j)):=opI fun i j _ _ _ _ _ hc q=>by
 have h1:(0:Int)<j:=hc.1;have h2:j<1073741824:=hc.2;exact floordiv_int (by omega) (by rw[Int.fdiv_eq_ediv_of_nonneg i (by omega)];exact q) (.inl (PyProof.noPylong_small (by omega)))
theorem Ze2:OpR X (binaryOp .Mod) (rI (fun _ j=>0<j) fun i j=>.int (i % j)):=opI fun i j _ _ _ _ _ hc q=>by
 have h1:(0:Int)<j:=hc;exact mod_int' (by omega) (by rw[Int.fmod_eq_emod_of_nonneg i (by omega)];exact q)
def ZkP:OpR X (binaryOp .Pow) (rI CPow fun i j=>.int (i ^ j.toNat)):=opI fun _ _ _ _ _ _ _ hc q=>pow_int_small hc.1 hc.2.1 hc.2.2 q
def unI {f:Value->Sem Value}{g:Int->Int}
  (rule:∀(i:Int) (t:Tok) (s:Shared) (Q:Value->Shared->Prop) (E:Value->Shared->Prop),Q (.int (g i) s.toks) { s with toks:=s.toks+1 }->wpAny (model X.prog X.w) X.A (f (.int i t)) Q E s) :
  UnR X f (rU fun i=>.int (g i)):=by
 intro pins s σ H x v Q I rx h;obtain⟨i,rfl,q⟩:=h;obtain⟨t,rfl⟩:=rx;exact rule i t s _ _ ⟨.int (g i),H,I.tok _,⟨_,rfl⟩,q⟩
def ZaN:UnR X (unaryOp .USub) (rU fun i=>.int (-i)):=unI fun _ _ _ _ _ q=>neg_int q
end
noncomputable def scal:V->V->Bool
 | .non,.non=>true | .non,.int _=>true | .int _,.non=>true | .non,.bl _=>true | .bl _,.non=>true | .non,.str _=>true | .str _,.non=>true
 | .int _,.int _=>true | .bl _,.bl _=>true | .str _,.str _=>true | .byt _,.byt _=>true
 | .int _,.str _=>true | .str _,.int _=>true | .bl _,.str _=>true | .str _,.bl _=>true
 | _,_=>false
def rEq:R2:=fun x y H Q=>scal x y=true/\Q (.bl (decide (x=y))) H
def rNe:R2:=fun x y H Q=>scal x y=true/\Q (.bl (!decide (x=y))) H
def Zjd {i j:Int}:decide (V.int i=V.int j)=(i==j):=by
 rw[Bool.eq_iff_iff];simp
def ZkW {i j:Bool}:decide (V.bl i=V.bl j)=(i==j):=by
 rw[Bool.eq_iff_iff];simp
def Zjc {i j:Str}:decide (V.str i=V.str j)=(i==j):=by
 rw[Bool.eq_iff_iff];simp
def Zje {i j:Array UInt8}:decide (V.byt i=V.byt j)=(i.toList==j.toList):=by
 rw[Bool.eq_iff_iff];cases i;cases j;simp
section
variable {X:Cx}{a b c:Expr}{ta tb tc:TE}{pos:Pos}
def Z4 {pins:List (Addr×Obj)}{σ:St}{H:Hp}{s:Shared}{Q:VK}{k k':Bool}(I:Inv X pins σ H s)(q:Q (.bl k) H)(e:k=k'):EP X pins σ Q (.bool k') s:=by
 subst e;exact⟨.bl k,H,I,rfl,q⟩
def Wb:OpR X (compareOp .Eq) rEq:=by
 intro pins s σ H x y v u Q I rx ry h;obtain⟨hs,q⟩:=h;cases x with
 | non =>
  cases rx;cases y with
  | non=>cases ry;exact PySem.EqNone.eq_none_none (Z4 I q (by simp))
  | bl j=>cases ry;exact PySem.EqNone.eq_none_bool (Z4 I q (by simp))
  | int j=>obtain⟨t',rfl⟩:=ry;exact PySem.EqNone.eq_none_int (Z4 I q (by simp))
  | str j=>obtain⟨t',rfl⟩:=ry;exact PySem.EqNone.eq_none_str (Z4 I q (by simp))
  | _=>exact absurd (show false=true from hs) Bool.false_ne_true
 | bl i =>
  cases rx;cases y with
  | non=>cases ry;exact PySem.EqNone.eq_bool_none (Z4 I q (by simp))
  | bl j=>cases ry;exact eq_bool (Z4 I q ZkW)
  | str j=>obtain⟨t',rfl⟩:=ry;exact PySem.EqMixed.eq_bool_str (Z4 I q (by simp))
  | _=>exact absurd (show false=true from hs) Bool.false_ne_true
 | int i =>
  obtain⟨t,rfl⟩:=rx;cases y with
  | non=>cases ry;exact PySem.EqNone.eq_int_none (Z4 I q (by simp))
  | int j=>obtain⟨t',rfl⟩:=ry;exact eq_int (Z4 I q Zjd)
  | str j=>obtain⟨t',rfl⟩:=ry;exact PySem.EqMixed.eq_int_str (Z4 I q (by simp))
  | _=>exact absurd (show false=true from hs) Bool.false_ne_true
 | str i =>
  obtain⟨t,rfl⟩:=rx;cases y with
  | non=>cases ry;exact PySem.EqNone.eq_str_none (Z4 I q (by simp))
  | bl j=>cases ry;exact PySem.EqMixed.eq_str_bool (Z4 I q (by simp))
  | int j=>obtain⟨t',rfl⟩:=ry;exact PySem.EqMixed.eq_str_int (Z4 I q (by simp))
  | str j=>obtain⟨t',rfl⟩:=ry;exact eq_str (Z4 I q Zjc)
  | _=>exact absurd (show false=true from hs) Bool.false_ne_true
 | byt i =>
  obtain⟨t,rfl⟩:=rx;cases y with
  | byt j=>obtain⟨t',rfl⟩:=ry;exact PySem.W.eq_bytes (Z4 I q Zje)
  | _=>exact absurd (show false=true from hs) Bool.false_ne_true
 | _=>cases y <;> exact absurd (show false=true from hs) Bool.false_ne_true
def Zm9:OpR X (compareOp .NotEq) rNe:=by
 intro pins s σ H x y v u Q I rx ry h;obtain⟨hs,q⟩:=h;cases x with
 | non =>
  cases rx;cases y with
  | non=>cases ry;exact PySem.EqNone.ne_none_none (Z4 I q (by simp))
  | bl j=>cases ry;exact PySem.EqNone.ne_none_bool (Z4 I q (by simp))
  | int j=>obtain⟨t',rfl⟩:=ry;exact PySem.EqNone.ne_none_int (Z4 I q (by simp))
  | str j=>obtain⟨t',rfl⟩:=ry;exact PySem.EqNone.ne_none_str (Z4 I q (by simp))
  | _=>exact absurd (show false=true from hs) Bool.false_ne_true
 | bl i =>
  cases rx;cases y with
  | non=>cases ry;exact PySem.EqNone.ne_bool_none (Z4 I q (by simp))
  | bl j=>cases ry;exact ne_bool (Z4 I q (congrArg not ZkW))
  | str j=>obtain⟨t',rfl⟩:=ry;exact PySem.EqMixed.ne_bool_str (Z4 I q (by simp))
  | _=>exact absurd (show false=true from hs) Bool.false_ne_true
 | int i =>
  obtain⟨t,rfl⟩:=rx;cases y with
  | non=>cases ry;exact PySem.EqNone.ne_int_none (Z4 I q (by simp))
  | int j=>obtain⟨t',rfl⟩:=ry;exact ne_int (Z4 I q (congrArg not Zjd))
  | str j=>obtain⟨t',rfl⟩:=ry;exact PySem.EqMixed.ne_int_str (Z4 I q (by simp))
  | _=>exact absurd (show false=true from hs) Bool.false_ne_true
 | str i =>
  obtain⟨t,rfl⟩:=rx;cases y with
  | non=>cases ry;exact PySem.EqNone.ne_str_none (Z4 I q (by simp))
  | bl j=>cases ry;exact PySem.EqMixed.ne_str_bool (Z4 I q (by simp))
  | int j=>obtain⟨t',rfl⟩:=ry;exact PySem.EqMixed.ne_str_int (Z4 I q (by simp))
  | str j=>obtain⟨t',rfl⟩:=ry;exact ne_str (Z4 I q (congrArg not Zjc))
  | _=>exact absurd (show false=true from hs) Bool.false_ne_true
 | byt i =>
  obtain⟨t,rfl⟩:=rx;cases y with
  | byt j=>obtain⟨t',rfl⟩:=ry;exact PySem.W.ne_bytes (Z4 I q (congrArg not Zje))
  | _=>exact absurd (show false=true from hs) Bool.false_ne_true
 | _=>cases y <;> exact absurd (show false=true from hs) Bool.false_ne_true
def Xp:OpR X (compareOp .Lt) (rI0 fun i j=>.bl (decide (i<j))):=opB0 fun _ _ _ _ _ _ _ q=>lt_int q
def WC:OpR X (compareOp .LtE) (rI0 fun i j=>.bl (decide (i<=j))):=opB0 fun _ _ _ _ _ _ _ q=>le_int q
def Jc:OpR X (compareOp .Gt) (rI0 fun i j=>.bl (decide (j<i))):=opB0 fun _ _ _ _ _ _ _ q=>gt_int q
def Zlm:OpR X (compareOp .GtE) (rI0 fun i j=>.bl (decide (j<=i))):=opB0 fun _ _ _ _ _ _ _ q=>ge_int q
def ZkQ:OpR X (compareOp .Is) (fun x y H Q=>y=.non/\Q (.bl (decide (x=.non))) H):=by
 intro pins s σ H x y v u Q I rx ry h;obtain⟨rfl,q⟩:=h;cases ry;refine is_none_gen (Z4 I q ?_);cases x <;> first
  | (cases rx;rfl)
  | (obtain⟨t,rfl⟩:=rx;rfl)
def Zll:OpR X (compareOp .IsNot) (fun x y H Q=>y=.non/\Q (.bl (!decide (x=.non))) H):=by
 intro pins s σ H x y v u Q I rx ry h;obtain⟨rfl,q⟩:=h;cases ry;refine isnot_none_gen (Z4 I q ?_);cases x <;> first
  | (cases rx;rfl)
  | (obtain⟨t,rfl⟩:=rx;rfl)
def Zs (b:Expr){op:CmpOp}(h:autoParam (op≠.In) q_2)(h2:autoParam (op≠.NotIn) q_2):behindInMarks op b=false:=ZjW b h h2
def X4 {op:CmpOp}{r:R2}(ho:OpR X (compareOp op) r)(ha:PE X a ta)(hb:PE X b tb)(hm:behindInMarks op b=false):PE X (.Compare a [op] [b] pos) (tOp r ta tb):=by
 intro pins s σ H Q I h;exact wpAny_Compare1 (binT ha hb I h fun v u s2 x y H2 I2 rx ry q=>ho pins s2 σ H2 x y v u Q I2 rx ry q) hm
def ZfW (t:TE):TT:=fun σ H Q=>t σ H fun x H'=>∃k,x=.bl k/\Q k H'
def Zn {op:CmpOp}{r:R2}(ho:OpR X (compareOp op) r)(ha:PE X a ta)(hb:PE X b tb)(hm:behindInMarks op b=false):PT X (.Compare a [op] [b] pos) (ZfW (tOp r ta tb)):=by
 intro pins s σ H Q I h;refine wpAny_isTrue_Compare1 (thn (ha pins s σ H _ I h) fun v s1 ⟨x,H1,I1,r1,q1⟩=>thn (hb pins s1 σ H1 _ I1 q1) fun u s2 ⟨y,H2,I2,r2,q2⟩ =>
  thn (ho pins s2 σ H2 x y v u _ I2 r1 r2 q2) fun c s3 ⟨z,H3,I3,r3,k,e,q3⟩=>?_) hm
 subst e;cases r3;exact wpAny_truthy_bool ⟨H3,I3,q3⟩
def Zc5 (r r':R2)(ta tb tc:TE):TE:=fun σ H Q=>ta σ H fun x H1=>tb σ H1 fun y H2=>r x y H2 fun z H3=>∃k,z=.bl k /\
 (if k=true then tc σ H3 fun w' H4=>r' y w' H4 Q else Q (.bl false) H3)
def W4 {op op':CmpOp}{r r':R2}(ho:OpR X (compareOp op) r)(ho':OpR X (compareOp op') r')(ha:PE X a ta)(hb:PE X b tb)(hc:PE X c tc)
  (hm:lastMarks [op,op'] [b,c]=false:=by with_unfolding_all rfl):PT X (.Compare a [op,op'] [b,c] pos) (ZfW (Zc5 r r' ta tb tc)):=by
 intro pins s σ H Q I h;refine isTrue_chain (thn (ha pins s σ H _ I h) fun v s1 ⟨x,H1,I1,r1,q1⟩=>test_link (thn (hb pins s1 σ H1 _ I1 q1) fun u s2 ⟨y,H2,I2,r2,q2⟩ =>
  thn (ho pins s2 σ H2 x y v u _ I2 r1 r2 q2) fun d s3 ⟨z,H3,I3,r3,k,e,q3⟩=>?_)) hm
 subst e;cases r3;refine wpAny_truthy_bool ?_;cases k with
 | false =>
  obtain⟨k',e',q'⟩:=q3;cases e';exact ite_ff ⟨H3,I3,q'⟩
 | true =>
  refine ite_tt (test_last (thn (hc pins s3 σ H3 _ I3 q3) fun w' s4 ⟨z',H4,I4,r4,q4⟩=>thn (ho' pins s4 σ H4 y z' u w' _ I4 r2 r4 q4) fun d' s5 ⟨z2,H5,I5,r5,k2,e2,q5⟩=>?_));subst e2;cases r5;exact wpAny_truthy_bool ⟨H5,I5,q5⟩
def TruV (K:Frag)(x:V)(H:Hp)(k:Bool):Prop :=
 match x with
 | .non=>k=false
 | .bl b=>k=b
 | .int i=>k=(i != 0)
 | .str y=>y.length<=sizeLine/\k=((y.length:Int) != 0)
 | .byt y=>y.size<=sizeLine/\k=((y.size:Int) != 0)
 | .ref p=>(∃xs,SqL K H p xs/\k=!xs.isEmpty)\/(∃xs,SqT K H p xs/\k=!xs.isEmpty)\/∃kvs,H p=some (.dK kvs)/\k=!kvs.isEmpty
 | _=>False
def ZhZ {κ:Type}{kvs:List (κ×V)}{vs:List (κ×Value)}(r:KV kvs vs):(!vs.isEmpty)=!kvs.isEmpty:=by
 cases r <;> rfl
def Zdn {xs:List V}{its:List Value}(r:Vals xs its):(!its.toArray.isEmpty)=!xs.isEmpty:=by
 cases r <;> simp
def Zfi:(sizeLine:Nat)<2 ^ 63:=by rw[sizeLine_eq];decide
theorem Zl6:TruR X (fun x H Q=>∃k,TruV X.K x H k/\Q k H):=by
 intro pins s σ H x v Q I rx h;obtain⟨k,e,q⟩:=h;have hl:=Zfi;have hs:sizeLine=16777216:=sizeLine_eq;cases x with
 | non =>
  cases rx;have e':k=false:=e;subst e';exact truthy_none ⟨H,I,q⟩
 | bl b =>
  cases rx;have e':k=b:=e;subst e';exact wpAny_truthy_bool ⟨H,I,q⟩
 | int i =>
  obtain⟨t,rfl⟩:=rx;have e':k=(i != 0):=e;subst e';exact PySem.P.truthy_int ⟨H,I,q⟩
 | str y =>
  obtain⟨t,rfl⟩:=rx;obtain⟨hy,e'⟩:y.length<=sizeLine/\k=((y.length:Int) != 0):=e;subst e';exact PySem.P.truthy_str (by omega) ⟨H,I.tok _,q⟩
 | byt y =>
  obtain⟨t,rfl⟩:=rx;obtain⟨hy,e'⟩:y.size<=sizeLine/\k=((y.size:Int) != 0):=e;subst e';exact PySem.W.truthy_bytes (by omega) ⟨H,I.tok _,q⟩
 | ref p =>
  cases rx;have e':(∃xs,SqL X.K H p xs/\k=!xs.isEmpty)\/(∃xs,SqT X.K H p xs/\k=!xs.isEmpty)\/∃kvs,H p=some (.dK kvs)/\k=!kvs.isEmpty:=e
  rcases e' with⟨xs,hx,e'⟩ | ⟨xs,hx,e'⟩ | ⟨kvs,hx,e'⟩
  ·subst e';obtain⟨its,r,pl,hz⟩:=I.list hx;have hlen:=r.length;exact wpAny_truthy_list pl.isList (by simp only[List.size_toArray];omega) ⟨H,I.tok _,by rw[Zdn r];exact q⟩
  ·subst e';obtain⟨its,r,pl,hz⟩:=I.tuple hx;have hlen:=r.length;exact truthy_tuple pl (by simp only[List.size_toArray];omega) ⟨H,I.tok _,by rw[Zdn r];exact q⟩
  ·subst e';obtain⟨hz,hS,vs,r,m⟩:kvs.length<=sizeLine/\(p==sysModules)=false/\∃vs,KV kvs vs/\s.heap.DictOf (V7 X.prog X.w) p vs:=I.hok p _ hx
   have hlen:kvs.length=vs.length:=Paired.length r;exact wpAny_truthy_dict hS m (by omega) ⟨H,I.tok _,by rw[ZhZ r];exact q⟩
 | _=>exact(show False from e).elim
def W3 (ha:PE X a ta)(he:∀whole,isTrue a X.env whole=(do let v <- whole;standAt a.pos;holding [v] (truthy v))):
  PT X a (fun σ H Q=>ta σ H fun x H'=>∃k,TruV X.K x H' k/\Q k H'):=by
 intro pins s σ H Q I h;exact isTrue_plain (thn (ha pins s σ H _ I h) fun v s1 ⟨x,H1,I1,r1,q1⟩=>Zl6 pins s1 σ H1 x v Q I1 r1 q1) (he _)
def Zaz:OpR X (binaryOp .Add) (fun x y H Q=>∃i j,x=.str i/\y=.str j/\i.length+j.length<=sizeLine/\Q (.str (i++j)) H):=by
 intro pins s σ H x y v u Q I rx ry h;obtain⟨i,j,rfl,rfl,hz,q⟩:=h;obtain⟨t,rfl⟩:=rx;obtain⟨t',rfl⟩:=ry;exact add_str (fun t' tk=>⟨.str (i++j),H,I.tok _,⟨_,rfl⟩,q⟩) hz
def Zib {x:V}{us:List Value}(r:Vals [x] us):∃u,us=[u]/\RelV x u:=by
 cases r with
 | cons r1 r2=>cases r2;exact⟨_,rfl,r1⟩
def Zm4 {x y:V}{us:List Value}(r:Vals [x,y] us):∃u w',us=[u,w']/\RelV x u/\RelV y w':=by
 cases r with
 | cons r1 r2 =>
  cases r2 with
  | cons r3 r4=>cases r4;exact⟨_,_,rfl,r1,r3⟩
def ZfB (hc:X.calm=true):Zep X (.builtin "min") (fun xs H Q=>∃i j,xs=[.int i,.int j]/\Q (.int (if j<i then j else i)) H):=by
 intro pins s σ H xs us Q I r h;obtain⟨i,j,rfl,q⟩:=h;obtain⟨u,w',rfl,⟨t,rfl⟩,⟨t',rfl⟩⟩:=Zm4 r;refine min_two_ints (I.ok.hd hc) fun h' tk k=>⟨_,H,I.kept k,?_,q⟩
 by_cases hj:j<i
 ·rw[if_pos hj,if_pos hj];exact⟨_,rfl⟩
 ·rw[if_neg hj,if_neg hj];exact⟨_,rfl⟩
def Zbi:Zep X (.type "str") (fun xs H Q=>∃i,xs=[.int i]/\i.natAbs.log2<1920/\Q (.str (toString i)) H):=by
 intro pins s σ H xs us Q I r h;obtain⟨i,rfl,hz,q⟩:=h;obtain⟨u,rfl,t,rfl⟩:=Zib r;exact PySem.P.str_of_int hz ⟨.str _,H,I.tok _,⟨_,rfl⟩,q⟩
def Zhp:Zep X (.builtin "ord") (fun xs H Q=>∃x,xs=[.str x]/\x.length=1/\Q (.int (x.cps.getD 0 0:Nat)) H):=by
 intro pins s σ H xs us Q I r h;obtain⟨x,rfl,hz,q⟩:=h;obtain⟨u,rfl,t,rfl⟩:=Zib r;exact ord_of_one hz ⟨.int _,H,I.tok _,⟨_,rfl⟩,q⟩
end
structure ObjM (h:Heap)(x dx C:Addr)(mA:Str->Option Value):Prop where
 obj:h.get? x=some (PySem.W.instObj C dx)
 ns:h.Ns1 dx mA
 ne:dx≠x
def ZiK {h:Heap}{dx:Addr}{mA:Str->Option Value}(n:h.Ns1 dx mA):∃od,h.get? dx=some od/\∀name,PySem.W.lookIn name od=some (mA name):=by
 obtain⟨o,es,ep,ho,hd,hk,_,hm⟩:=n;refine⟨o,ho,fun name=>?_⟩;have e:=hm name;unfold nsFind findBy at e;rw[<- Array.find?_toList] at e;unfold PySem.W.lookIn;rw[hd];dsimp only;split
 ·rename_i y q;rw[q] at e;exact congrArg some e
 ·rename_i q;rw[q] at e;have a:es.toList.any (·.refKey)=false:=by
   rw[List.any_eq_false];intro y hy;obtain⟨z,t,hkey⟩:=hk y (Array.mem_toList_iff.mp hy);simp[DictEntry.refKey,hkey]
  have a':¬ es.toList.any (·.refKey)=true:=by rw[a];exact Bool.false_ne_true
  rw[if_neg a'];exact congrArg some e
theorem ObjM.look {h:Heap}{x dx C:Addr}{mA:Str->Option Value}(I:ObjM h x dx C mA):∃od,PySem.W.InstAt h x (PySem.W.instObj C dx) C (some od)/\∀name,PySem.W.lookIn name od=some (mA name) :=
 let ⟨od,ho,hl⟩:=ZiK I.ns
 ⟨od,⟨I.obj,rfl,rfl,ho⟩,hl⟩
section
variable {prog:Program}{w:World}{A:Around}{E:Value->Shared->Prop}{s:Shared}{K:Frag}{x dx C f:Addr}{mA:Str->Option Value}{name:Str}{v:Value}
def ZlG {expr:Bool}{Q:Value->Shared->Prop}(X:K.In s.heap)(I:ObjM s.heap x dx C mA)(hg:plainGet K C name=true)(hh:hasDictIn K C=true)
  (ha:findIn K (.ref C) name=some none) (hv:mA name=some v) (hv':PySem.W.handedIn v=true) (h:Q v { s with toks:=s.toks+1 }) :
  wpAny (model prog w) A (getAttr (.ref x) name expr) Q E s:=by
 obtain⟨od,J,hl⟩:=I.look;exact PySem.W.get_value X J (PySem.W.plainGet_of hg).1 (PySem.W.findObj_own hh ha rfl (by rw[hl,hv])) hv' h
def Zkf {pl:Sem Bool}{Q:Value×List Value->Shared->Prop}(X:K.In s.heap)(I:ObjM s.heap x dx C mA)(hg:plainGet K C name=true)
  (hf:findIn K (.ref C) name=some (some (.ref f))) (ht:isFn K (.ref f)=true) (hv:mA name=none) (h:Q (.ref f,[.ref x]) s) :
  wpAny (model prog w) A (getMethod (.ref x) name pl) Q E s:=by
 obtain⟨od,J,hl⟩:=I.look;exact PySem.W.method_fn X J (PySem.W.plainGet_of hg).1 (PySem.W.plainGet_of hg).2 hf (beq_iff_eq.mp ht) (by show(PySem.W.lookIn name od).map (·.isSome)=some false;rw[hl,hv];rfl) h
theorem Zk9 {ns:List Str}{Q:Unit->Shared->Prop}(X:K.In s.heap)(I:ObjM s.heap x dx C mA)
  (hs:findIn K (.ref C) "__setattr__"=some (some (.builtin "object.__setattr__"))) (hp:plainOver K C=true) (ht:PySem.W.takerIn K C name=some none) (hh:hasDictIn K C=true)
  (hw:PySem.Within mA ns) (hsz:ns.length<=sizeLine)
  (h:∀h',ObjM h' x dx C (fun y=>if y=name then some v else mA y)->Heap.SameBut dx s.heap h'->Q () { s with heap:=h',toks:=s.toks+2 }) :
  wpAny (model prog w) A (setAttr (.ref x) name v) Q E s:=by
 obtain⟨od,J,hl⟩:=I.look;refine PySem.W.set_plain X J hs (PySem.W.osa_open (s:={ s with toks:=s.toks+1 }) (r:=none) X J hp ht fun b=>?_);obtain⟨cd,hc,hd'⟩:=PySem.W.any_some hh;have hx:s.heap.get? x=some ⟨.ref C,some dx,.plain,#[]⟩:=I.obj;refine wpAny_bind (wpAny_pure (wpAny_bind (wpAny_bind (wpAny_loadPart hx (wpAny_bind (PySem.W.Looks.here (s:={ s with toks:=s.toks+1 }) (PySem.W.looks_clsIn X hc) ?_))))));rw[hd'];refine wpAny_pure (a:=some dx) (wpAny_bind (wpAny_pure (wpAny_bind ?_)));refine wpAny_nsSet1 (s:={ s with toks:=s.toks+1 }) I.ns fun h' hn2 hs2=>?_
 obtain⟨oD,esD,epD,hoD,hdD,hcD⟩:=hn2.count (PySem.Within.cons name v hw);refine wpAny_bind (wpAny_lookBehind hoD (by rw[hdD];exact pastItsLine_dict (y0q hcD (by rw[y02];omega))) ?_);exact wpAny_pure (h _ ⟨(hs2.2 _ (Ne.symm I.ne)).trans I.obj,hn2,I.ne⟩ hs2)
def Zj2 {R:Result->Shared->Prop}{vs:List Value}{kw:List (Str×Value)}(X:K.In s.heap)(hm:makesIn K C=true)
  (hi:findIn K (.ref C) "__init__"=some (some (.ref f))) (hf:PySem.W.typeIn K (.ref f)=some (.type "function"))
  (h:codeAny (model prog w) (A.under (.builtin "type.__call__" ⟨.ref C::vs,kw⟩)) (.call (.ref f) ⟨.ref (s.heap.objs.size+1)::vs,kw⟩) (PySem.W.InitBack (s.heap.objs.size+1) R)
   { s with heap:=(s.heap.push PySem.W.emptyDict).push (PySem.W.instObj C s.heap.objs.size) }) :
  codeAny (model prog w) A (.call (.ref C) ⟨vs,kw⟩) R s:=by
 obtain⟨hh,g,d,t,os⟩:=s;exact PySem.W.make_core (PySem.W.makes_of X hm) (PySem.W.looks_findIn X hi) (fun self=>PySem.W.bind_fn X self hf) (.inl rfl) h
end
noncomputable def putF (f:Str)(v:V):List (Str×V)->List (Str×V)
 | []=>[(f,v)]
 | (g,x)::r=>if g=f then(g,v)::r else(g,x)::putF f v r
theorem Zcj (f g:Str)(v:V):∀fs:List (Str×V),(putF f v fs).lookup g=if g=f then some v else fs.lookup g
 | []=>by
  show List.lookup g [(f,v)]=_;by_cases h:g=f
  ·have hb:(g==f)=true:=beq_iff_eq.mpr h;simp only[List.lookup,hb,if_pos h]
  ·have hb:(g==f)=false:=beq_eq_false_iff_ne.mpr h;simp only[List.lookup,hb,if_neg h]
 | (k,x)::r=>by
  have ih:=Zcj f g v r;rw[show putF f v ((k,x)::r)=(if k=f then(k,v)::r else(k,x)::putF f v r) from rfl];by_cases hk:k=f
  ·rw[if_pos hk];by_cases h:g=k
   ·have hb:(g==k)=true:=beq_iff_eq.mpr h;simp only[List.lookup,hb,if_pos (h.trans hk)]
   ·have hb:(g==k)=false:=beq_eq_false_iff_ne.mpr h;simp only[List.lookup,hb,if_neg (fun e:g=f=>h (e.trans hk.symm))]
  ·rw[if_neg hk];by_cases h:g=k
   ·have hb:(g==k)=true:=beq_iff_eq.mpr h;simp only[List.lookup,hb,if_neg (fun e:g=f=>hk (h.symm.trans e))]
   ·have hb:(g==k)=false:=beq_eq_false_iff_ne.mpr h;simp only[List.lookup,hb];exact ih
theorem Zcr (f:Str)(v:V):∀fs:List (Str×V),f∈(putF f v fs).map (·.1)/\∀g,g∈fs.map (·.1)->g∈(putF f v fs).map (·.1)
 | []=>⟨by simp[putF],fun g h=>by simp at h⟩
 | (k,x)::r=>by
  obtain⟨i1,i2⟩:=Zcr f v r;rw[show putF f v ((k,x)::r)=(if k=f then(k,v)::r else(k,x)::putF f v r) from rfl];by_cases hk:k=f
  ·rw[if_pos hk];subst hk;exact⟨by simp,fun g h=>by simpa using h⟩
  ·rw[if_neg hk];refine⟨?_,fun g h=>?_⟩
   ·rw[y05];exact y0c _ i1
   ·rw[y05] at h ⊢;rcases y0b.mp h with e | e
    ·exact y0b.mpr (.inl e)
    ·exact y0c _ (i2 g e)
theorem Ji (f:Str)(v:V):∀fs:List (Str×V),(putF f v fs).length<=fs.length+1
 | []=>by simp[putF]
 | (k,x)::r=>by
  have ih:=Ji f v r;rw[show putF f v ((k,x)::r)=(if k=f then(k,v)::r else(k,x)::putF f v r) from rfl];by_cases hk:k=f
  ·rw[if_pos hk,y02,y02];omega
  ·rw[if_neg hk,y02,y02];omega
theorem RelO.some_of {v:V}{o:Option Value}(r:RelO (some v) o):∃u,o=some u/\RelV v u:=by
 cases o with
 | none=>exact(show False from r).elim
 | some u=>exact⟨u,rfl,r⟩
theorem RelO.none_of {o:Option Value}(r:RelO none o):o=none:=by
 cases o with
 | none=>rfl
 | some u=>exact(show False from r).elim
def ZiX {v:V}{u:Value}(r:RelV v u):PySem.W.handedIn u=true:=by
 cases v with
 | non=>cases (show u=Value.none from r);rfl
 | bl b=>cases (show u=Value.bool b from r);rfl
 | int i=>obtain⟨t,e⟩:=(show ∃t,u=Value.int i t from r);cases e;rfl
 | str x=>obtain⟨t,e⟩:=(show ∃t,u=Value.str x t from r);cases e;rfl
 | byt b=>obtain⟨t,e⟩:=(show ∃t,u=Value.bytes b t from r);cases e;rfl
 | flt b=>obtain⟨t,e⟩:=(show ∃t,u=Value.float b t from r);cases e;rfl
 | ref a=>cases (show u=Value.ref a from r);rfl
 | ty n=>cases (show u=Value.type n from r);rfl
section
variable {P:Program}{w:World}{H H':Hp}{h h':Heap}{a C dx:Addr}{fs fs':List (Str×V)}
def Zgs (hok:HOk P w H h)(e:H a=some (.ins C dx fs)):∃mA,ObjM h a dx C mA/\(∀f,RelO (fs.lookup f) (mA f))/\PySem.Within mA (fs.map (·.1))/\fs.length<=1000/\H dx=some (.own a):=by
 obtain⟨d,z,ne,ob,mA,n,r,q⟩:=(show Wd P w H h a (.ins C dx fs) from hok a _ e);exact⟨mA,⟨ob,n,ne⟩,r,q,z,d⟩
end
structure Cls (K:Frag)(C:Addr):Prop where
 pg:plainGet K C Str.empty=true
 hd:hasDictIn K C=true
 po:plainOver K C=true
 sa:findIn K (.ref C) "__setattr__"=some (some (.builtin "object.__setattr__"))
theorem Cls.get {K:Frag}{C:Addr}(c:Cls K C)(f:Str):plainGet K C f=true:=c.pg
def ZC (K:Frag)(C:Addr)(f:Str):Prop:=findIn K (.ref C) f=some none
theorem ZC.taker {K:Frag}{C:Addr}{f:Str}(n:ZC K C f):PySem.W.takerIn K C f=some none:=by
 unfold PySem.W.takerIn;rw[show findIn K (.ref C) f=some none from n];rfl
structure Meth (K:Frag)(C:Addr)(m:Str)(f:Addr):Prop where
 at_:findIn K (.ref C) m=some (some (.ref f))
 fn:isFn K (.ref f)=true
 kp:keepIn K (.ref f)=true
section
variable {X:Cx}{pins:List (Addr×Obj)}{σ:St}{H:Hp}{s:Shared}{a C dx:Addr}{fs:List (Str×V)}{f:Str}{v:V}{A:Around}{E:Value->Shared->Prop}
def Zdp {b:Bool}{Q:Value->Shared->Prop}(I:Inv X pins σ H s)(e:H a=some (.ins C dx fs))(c:Cls X.K C)(n:ZC X.K C f)(l:fs.lookup f=some v)
  (h:∀u s',Inv X pins σ H s'->RelV v u->Q u s'):wpAny (model X.prog X.w) A (getAttr (.ref a) f b) Q E s:=by
 obtain⟨mA,O,r,_,_,_⟩:=Zgs I.hok e;obtain⟨u,hu,ru⟩:=RelO.some_of (v:=v) (o:=mA f) (by rw[<- l];exact r f);exact ZlG I.kIn O (c.get f) c.hd n hu (ZiX ru) (h u _ (I.tok _) ru)
def ZaI {m:Str}{g:Addr}{pl:Sem Bool}{Q:Value×List Value->Shared->Prop}(I:Inv X pins σ H s)(e:H a=some (.ins C dx fs))(c:Cls X.K C)(k:Meth X.K C m g)(l:fs.lookup m=none)
  (h:Q (.ref g,[.ref a]) s):wpAny (model X.prog X.w) A (getMethod (.ref a) m pl) Q E s:=by
 obtain⟨mA,O,r,_,_,_⟩:=Zgs I.hok e;have hn:mA m=none:=RelO.none_of (by rw[<- l];exact r m);exact Zkf I.kIn O (c.get m) k.at_ k.fn hn h
theorem Zdb {y:V}{u:Value}{Q:Unit->Shared->Prop}(I:Inv X pins σ H s)(e:H a=some (.ins C dx fs))(c:Cls X.K C)(n:ZC X.K C f)(hl:fs.length<1000)(ry:RelV y u)
  (h:∀s',Inv X pins σ (upd H a (.ins C dx (putF f y fs))) s'->Q () s'):wpAny (model X.prog X.w) A (setAttr (.ref a) f u) Q E s:=by
 obtain⟨mA,O,r,wi,_,ho⟩:=Zgs I.hok e;have hz:(fs.map (·.1)).length<=sizeLine:=by rw[y03,sizeLine_eq];omega
 refine Zk9 I.kIn O c.sa c.po n.taker c.hd wi hz fun h' O' sb=>h _ ?_
 have hd:∃o,h'.get? dx=some o:=let ⟨o,_,_,e',_⟩:=O'.ns;⟨o,e'⟩
 refine I.write (x:=a) (e:=dx) (by rw[e];exact True.intro) (.inr ho) (fun b q hb z=>(sb.2 b hb).trans z) hd ?_;refine⟨by rw[Zk O.ne];exact ho,?_,O.ne,O'.obj,_,O'.ns,fun g=>?_,fun g hg=>?_⟩
 ·have:=Ji f y fs;omega
 ·show RelO ((putF f y fs).lookup g) (if g=f then some u else mA g);rw[Zcj];by_cases q:g=f
  ·rw[if_pos q,if_pos q];exact ry
  ·rw[if_neg q,if_neg q];exact r g
 ·by_cases q:g=f
  ·rw[q];exact(Zcr f y fs).1
  ·refine(Zcr f y fs).2 g (wi g fun z=>hg ?_);show(if g=f then some u else mA g)=none;rw[if_neg q];exact z
theorem Inv.made (I:Inv X pins σ H s):Inv X pins σ (upd (upd H s.heap.objs.size (.own (s.heap.objs.size+1))) (s.heap.objs.size+1) (.ins C s.heap.objs.size []))
  { s with heap:=(s.heap.push PySem.W.emptyDict).push (PySem.W.instObj C s.heap.objs.size) }:=by
 have e1:(s.heap.push PySem.W.emptyDict).get? s.heap.objs.size=some PySem.W.emptyDict:=y0w s.heap rfl;have e2:((s.heap.push PySem.W.emptyDict).push (PySem.W.instObj C s.heap.objs.size)).get? (s.heap.objs.size+1)=some (PySem.W.instObj C s.heap.objs.size):=by
  have:=y0w (s.heap.push PySem.W.emptyDict) (o:=PySem.W.instObj C s.heap.objs.size) rfl
  rwa [Heap.size_push] at this
 have e3:(s.heap.push PySem.W.emptyDict).Ns s.heap.objs.size (fun _=>none):=⟨PySem.W.emptyDict,#[],_,e1,rfl,(fun e he=>absurd he (by simp)),fun _=>rfl⟩;have I1:=I.laid (a:=s.heap.objs.size) (o:=.own (s.heap.objs.size+1)) (h':=s.heap.push PySem.W.emptyDict) (t':=s.toks) (fun b u q=>y0v _ q) (y0r _) ⟨_,e1⟩;refine I1.laid (a:=s.heap.objs.size+1) (o:=.ins C s.heap.objs.size []) (t':=s.toks) (fun b u q=>y0v _ q) (Nat.le_of_eq (Heap.size_push _ _)) ?_;have ne:s.heap.objs.size≠s.heap.objs.size+1:=Nat.ne_of_lt (Nat.lt_succ_self _);refine⟨by rw[Zk ne,Zd],y0u _,ne,e2,fun _=>none,(Heap.Ns1.of_empty e3).at fun o q=>y0v _ q,fun _=>True.intro,fun y hy=>absurd rfl hy⟩
def ZlZ {prog:Program}{w:World}{env:Env}{e:Expr}{f:Str}{pos:Pos}{s:Shared}{Q:Value->Shared->Prop}(hb:attributeBase e f env (eval e env)=eval e env)
  (h:wpAny (model prog w) A (eval e env) (fun o s₁=>wpAny (model prog w) A (getAttr o f true) Q E s₁) E s):wpAny (model prog w) A (eval (.Attribute e f pos) env) Q E s :=
 Attribute_any_ h (by rw[arm_eval_Attribute,hb])
end
def tFld (K:Frag)(ta:TE)(f:Str):TE:=fun σ H Q=>ta σ H fun x H1=>∃a C dx fs v,x=.ref a/\H1 a=some (.ins C dx fs)/\Cls K C/\ZC K C f/\fs.lookup f=some v/\Q v H1
def sFld (K:Frag)(ta tv:TE)(f:Str):TS:=fun D σ H=>tv σ H fun y H1=>ta σ H1 fun x H2=>∃a C dx fs,x=.ref a/\H2 a=some (.ins C dx fs)/\Cls K C/\ZC K C f/\fs.length<1000 /\
 D.nx σ (upd H2 a (.ins C dx (putF f y fs)))
def InOp (X:Cx)(op:Operator)(rd:V->V->Hp->VK->Prop):Prop :=
 ∀(pins:List (Addr×Obj)) (s:Shared) (σ:St) (H:Hp) (x y:V) (u v:Value) (Q:VK),Inv X pins σ H s->RelV x u->RelV y v->rd x y H Q->wpAny (model X.prog X.w) X.A (inplaceOp op u v) (EP X pins σ Q) X.xe s
def Zb5 (K:Frag)(ta tv:TE)(rd:V->V->Hp->VK->Prop)(f:Str):TS:=fun D σ H=>ta σ H fun x H1=>∃a C dx fs v,x=.ref a/\H1 a=some (.ins C dx fs)/\Cls K C/\ZC K C f/\fs.lookup f=some v /\
 tv σ H1 fun y H2=>rd v y H2 fun z H3=>∃dx' fs',H3 a=some (.ins C dx' fs')/\fs'.length<1000/\D.nx σ (upd H3 a (.ins C dx' (putF f z fs')))
section
variable {X:Cx}{o e value:Expr}{f:Str}{pos pos' tpos:Pos}{ta tv:TE}
def Zq (he:PE X e ta)(hb:attributeBase e f X.env (eval e X.env)=eval e X.env):PE X (.Attribute e f pos) (tFld X.K ta f):=by
 intro pins s σ H Q I h;refine ZlZ hb (thn (he pins s σ H _ I h) fun u s1 ⟨x,H1,I1,rx,a,C,dx,fs,v,ex,ea,c,n,l,q⟩=>?_);subst ex;obtain rfl:u=Value.ref a:=rx;exact Zdp I1 ea c n l fun u' s2 I2 ru=>⟨v,H1,I2,ru,q⟩
def ZM (ha:PE X o ta)(hv:PE X value tv)(hs:swapsWith value (some (.Attribute o f pos')) pos.line X.env=pure false):PS X (.Assign [.Attribute o f pos'] value pos) (sFld X.K ta tv f):=by
 intro pins s σ H D I h;refine plainObj_wpAny_Assign_Attribute (thn (hv pins s σ H _ I h) fun u s1 ⟨y,H1,I1,ry,q⟩=>thn (ha pins s1 σ H1 _ I1 q) fun ov s2 ⟨x,H2,I2,rx,a,C,dx,fs,ex,ea,c,n,l,q2⟩=>?_) hs;subst ex;obtain rfl:ov=Value.ref a:=rx;exact Zdb I2 ea c n l ry fun s3 I3=>⟨σ,_,I3,q2⟩
def V0 {op:Operator}{rd:V->V->Hp->VK->Prop}(ha:PE X o ta)(hv:PE X value tv)(hop:InOp X op rd):PS X (.AugAssign (.Attribute o f tpos) op value pos) (Zb5 X.K ta tv rd f):=by
 intro pins s σ H D I h;refine wpAny_AugAssign_AttributeAny (thn (ha pins s σ H _ I h) fun ov s1 ⟨x,H1,I1,rx,a,C,dx,fs,v,ex,ea,c,n,l,q⟩=>?_);subst ex;obtain rfl:ov=Value.ref a:=rx;refine Zdp I1 ea c n l fun u s2 I2 ru=>thn (hv pins s2 σ H1 _ I2 q) fun w3 s3 ⟨y,H2,I3,ry,q3⟩=>thn (hop pins s3 σ H2 v y u w3 _ I3 ru ry q3) fun w4 s4 ⟨z,H3,I4,rz,dx',fs',ea',l',q4⟩=>?_
 exact Zdb I4 ea' c n l' rz fun s5 I5=>⟨σ,_,I5,q4⟩
def rAdd:V->V->Hp->VK->Prop:=fun x y H Q=>∃i j,x=.int i/\y=.int j/\Q (.int (i+j)) H
def Zfo:InOp X .Add rAdd:=by
 rintro pins s σ H x y u v Q I rx ry ⟨i,j,rfl,rfl,q⟩;obtain⟨t,rfl⟩:=(show ∃t,u=Value.int i t from rx);obtain⟨t',rfl⟩:=(show ∃t',v=Value.int j t' from ry);exact PyProof.Rows.iadd_int ⟨.int (i+j),H,I.tok _,⟨_,rfl⟩,q⟩
def Zlu {pl:Sem Bool}{m:Str}{apos:Pos}{args:List Expr}{pins:List (Addr×Obj)}{s:Shared}{σ:St}{H:Hp}{Q:Value->Shared->Prop}{te:TE}(he:PE X e te)(I:Inv X pins σ H s)
  (h:te σ H fun x H1=>∃a C dx fs g,x=.ref a/\H1 a=some (.ins C dx fs)/\Cls X.K C/\Meth X.K C m g/\fs.lookup m=none /\
   ∀s1,Inv X pins σ H1 s1->wpAny (model X.prog X.w) X.A (callWith pos (.ref g) [.ref a] (backTo pos (starEach args X.env)) (backToKw pos (keywordEach [] X.env))) Q X.xe s1)
  (ht:eval (.Call (.Attribute e m apos) args [] pos) X.env=(do
   let ov <- eval e X.env
   standAt apos.atName
   let (f,first) <- holding [ov] (getMethod ov m pl)
   callWith pos f first (backTo pos (starEach args X.env)) (backToKw pos (keywordEach [] X.env)))) :
  wpAny (model X.prog X.w) X.A (eval (.Call (.Attribute e m apos) args [] pos) X.env) Q X.xe s:=by
 refine PySem.W.methodCall_KW (pl:=pl) (thn (he pins s σ H _ I h) fun u s1 ⟨x,H1,I1,rx,a,C,dx,fs,g,ex,ea,c,k,l,q⟩=>?_) ht;subst ex;obtain rfl:u=Value.ref a:=rx;exact ZaI I1 ea c k l (q s1 I1)
end
structure Room (k:Nat)(A:Around):Prop where
 hd:A.handled=none
 dp:A.depth+3 * k+5<recursionLimit
 un:A.units+16 * k+200<cLine
theorem Room.mono {j k:Nat}{A:Around}(r:Room k A)(h:j<=k):Room j A:=⟨r.hd,by have:=r.dp;omega,by have:=r.un;omega⟩
theorem Room.deeper {k:Nat}{A:Around}(r:Room (k+1) A)(env:Env):Room k (A.deeper env) :=
 ⟨r.hd,by have:=r.dp;show A.depth+1+3 * k+5<_;omega,by have:=r.un;show A.units+3+16 * k+200<_;omega⟩
def ZhU {A:Around}{C:Addr}{us:List Value}{kw:List (Str×Value)}:(A.under (.builtin "type.__call__" ⟨.ref C::us,kw⟩)).depth=A.depth+1:=by
 first | rfl | simp[Around.under,Code.weight,Code.isCreation,Code.isGuard,Code.isCaller,Code.frames,Code.isFrame,guardIds]
def ZhT {A:Around}{C:Addr}{us:List Value}{kw:List (Str×Value)}:(A.under (.builtin "type.__call__" ⟨.ref C::us,kw⟩)).units=A.units+1:=by
 first | rfl | simp[Around.under,Code.cUnits,Code.frames,Code.isFrame]
theorem Room.make {k:Nat}{A:Around}(r:Room (k+1) A)(C:Addr)(us:List Value)(kw:List (Str×Value)):Room k (A.under (.builtin "type.__call__" ⟨.ref C::us,kw⟩)) :=
 ⟨r.hd,by have:=r.dp;rw[ZhU];omega,by have:=r.un;rw[ZhT];omega⟩
theorem Room.depth {k:Nat}{A:Around}(r:Room k A):A.depth<recursionLimit:=by have:=r.dp;omega
theorem Room.units {k:Nat}{A:Around}(r:Room k A):A.units+64<cLine:=by have:=r.un;omega
def tNil:TA:=fun _ H Q=>Q [] H
def Zhz (ta:TE)(tr:TA):TA:=fun σ H Q=>ta σ H fun x H1=>tr σ H1 fun xs H2=>Q (x::xs) H2
section
variable {X:Cx}{e:Expr}{es:List Expr}{te:TE}{t:TA}{pos:Pos}
def Zc:PA X [] tNil:=fun _ _ _ _ H Q I h=>Calls.spliced_nil ⟨[],H,I,.nil,h⟩
def Za (ha:PE X e te)(hr:PA X es t)(hs:autoParam (starEach (e::es) X.env=(false,eval e X.env)::starEach es X.env) q_1):PA X (e::es) (Zhz te t):=by
 intro pos pins s σ H Q I h;rw[hs];show wpAny _ _ (spliced ((false,eval e X.env)::backTo pos (starEach es X.env))) _ _ s;refine Calls.spliced_cons (thn (ha pins s σ H _ I h) fun u s1 ⟨x,H1,I1,r1,q1⟩=>?_);exact thn (hr pos pins s1 σ H1 _ I1 q1) fun us s2 ⟨xs,H2,I2,r2,q2⟩=>⟨x::xs,H2,I2,.cons r1 r2,q2⟩
def tTup (t:TA):TE:=fun σ H Q=>t σ H fun xs H1=>xs.length<=sizeLine/\∀p,H1 p=none->Q (.ref p) (upd H1 p (.tup xs))
def tLst (t:TA):TE:=fun σ H Q=>t σ H fun xs H1=>xs.length<=sizeLine/\∀p,H1 p=none->Q (.ref p) (upd H1 p (.lst xs))
def X3 {x1}(h:PA X es t):PE X (.Tuple es x1 pos) (tTup t):=by
 intro pins s σ H Q I hq;refine wpAny_Tuple_spliced (thn (h pos pins s σ H _ I hq) fun us s1 ⟨xs,H1,I1,r,z,q⟩=>⟨by rw[<- r.length];exact z,?_⟩);have hf:H1 s1.heap.objs.size=none:=I1.hok.fresh (y0r _);refine⟨.ref s1.heap.objs.size,upd H1 s1.heap.objs.size (.tup xs),I1.laid (t':=s1.toks) (fun b u e=>y0v _ e) (y0r _) ?_,rfl,q _ hf⟩;exact⟨z,us,r,⟨_,y0w _ rfl,rfl,_,rfl⟩⟩
def ZW (h:PA X es t):PE X (.List es pos) (tLst t):=by
 intro pins s σ H Q I hq;refine wpAny_List_spliced (thn (h pos pins s σ H _ I hq) fun us s1 ⟨xs,H1,I1,r,z,q⟩=>⟨by rw[<- r.length];exact z,?_⟩);have hf:H1 s1.heap.objs.size=none:=I1.hok.fresh (y0r _);refine⟨.ref s1.heap.objs.size,upd H1 s1.heap.objs.size (.lst xs),I1.laid (t':=s1.toks) (fun b u e=>y0v _ e) (y0r _) ?_,rfl,q _ hf⟩;exact⟨z,us,0,r,y0w _ rfl⟩
end
abbrev Sp:=List V->Hp->VK->XK->Prop
abbrev CXT:=List Env->Hp->Shared->XK->Value->Shared->Prop
structure Env0 (P:Program)(w:World)(K:Frag)(mg:Str->Option Value)(base:Heap)(A:Around)(outer:List Env)(s:Shared)(H:Hp):Prop where
 frames:A.frames=some outer
 mod:Mod K mg base
 bs:∀b o,base.get? b=some o->s.heap.get? b=some o/\H b=none
 bsz:base.objs.size<=s.heap.objs.size
 funs:s.heap.FunFrames base outer
 frf:∀b∈frs outer,H b=none
 hok:HOk P w H s.heap
 bare:AllBare s.gens
def CE (outer:List Env)(P:Program)(w:World)(H:Hp)(s:Shared)(Q:VK)(u:Value)(s':Shared):Prop :=
 ∃v H',s'.os=s.os/\AllBare s'.gens/\Un (frs outer) [] H H' s.heap s'.heap/\HOk P w H' s'.heap/\RelV v u/\Q v H'
def CR (CX:CXT)(outer:List Env)(P:Program)(w:World)(H:Hp)(s:Shared)(Q:VK)(E:XK)(r:Result)(s':Shared):Prop :=
 match r with
 | .ok (.ret u)=>CE outer P w H s Q u s'
 | .ok _=>False
 | .error e=>CX outer H s E e s'
structure FnOk (P:Program)(w:World)(K:Frag)(mg:Str->Option Value)(base:Heap)(CX:CXT)(k:Nat)(f:Addr)(fd:FuncData)(ps:List Str)(sp:Sp):Prop where
 len:∀vs H Q E,sp vs H Q E->vs.length=ps.length
 run:∀(A:Around) (outer:List Env) (s:Shared) (H:Hp) (args:Args) (us:List Value) (vs:List V) (Q:VK) (E:XK),Room k A->Env0 P w K mg base A outer s H->BindsTo s fd args (ps.zip us)->Vals vs us->sp vs H Q E ->
  codeAny (model P w) A (.call (.ref f) args) (CR CX outer P w H s Q E) s
theorem Env0.make {P:Program}{w:World}{K:Frag}{mg:Str->Option Value}{base:Heap}{A:Around}{outer:List Env}{s:Shared}{H:Hp}(e:Env0 P w K mg base A outer s H)(C:Addr)(us:List Value)(kw:List (Str×Value)):
  Env0 P w K mg base (A.under (.builtin "type.__call__" ⟨.ref C::us,kw⟩)) outer s H:=⟨by first | exact e.frames | (simpa[Around.under,Code.envs,Code.isFrame,pushEnvs] using e.frames),e.mod,e.bs,e.bsz,e.funs,e.frf,e.hok,e.bare⟩
section
variable {X:Cx}{pins:List (Addr×Obj)}{σ:St}{H:Hp}{s s':Shared}
theorem Inv.env0 (I:Inv X pins σ H s):Env0 X.prog X.w X.K X.mg X.base X.A X.stack s H :=
 ⟨I.ok.frames,I.ok.mod,I.bs,y0q I.ok.bsz I.sz,I.stack,I.stkFree,I.hok,I.bare⟩
theorem Inv.after {Q:VK}{u:Value}(I:Inv X pins σ H s)(h:CE X.stack X.prog X.w H s Q u s'):EP X pins σ Q u s':=by
 obtain⟨v,H',os,bare,un,hok,r,q⟩:=h;obtain⟨hh,g,d,t,os'⟩:=s';obtain rfl:os'=s.os:=os;exact⟨v,H',I.call (h':=hh) (g':=g) (d':=d) (t':=t) (ch:=[]) un hok bare (fun b z=>absurd z (by simp)),r,q⟩
end
def ZcK (sp:Sp)(dvs:List V)(E:XK)(t:TA):TE:=fun σ H Q=>t σ H fun vs H1=>sp (vs++dvs) H1 Q E
def ZdG (C:Addr)(m:Str)(sp:Sp)(dvs:List V)(E:XK)(ta:TE)(t:TA):TE:=fun σ H Q=>ta σ H fun x H1=>∃a dx fs,x=.ref a/\H1 a=some (.ins C dx fs)/\fs.lookup m=none /\
 t σ H1 fun vs H2=>sp (x::(vs++dvs)) H2 Q E
def ZeB (C:Addr)(sp:Sp)(dvs:List V)(E:XK)(t:TA):TE:=fun σ H Q=>t σ H fun vs H1=>∀x dx,H1 x=none->H1 dx=none->dx≠x ->
 sp (.ref x::(vs++dvs)) (upd (upd H1 dx (.own x)) x (.ins C dx [])) (fun v H2=>v=.non/\Q (.ref x) H2) E
def We (K:Frag)(fd:FuncData)(ps:List Str)(ds:List Value):Prop :=
 ∀(s:Shared) (us:List Value),K.In s.heap->(us++ds).length=ps.length->BindsTo s fd ⟨us,[]⟩ (ps.zip (us++ds))
theorem We.all {K:Frag}{fd:FuncData}{ps:List Str}(h:∀us:List Value,us.length=ps.length->bindArgs fd ⟨us,[]⟩=pure (ps.zip us)):We K fd ps []:=fun s us _ hl=>by
 rw[y08] at hl ⊢;exact .of_eq (h us hl)
def Wq (CX:CXT)(X:Cx)(E:XK):Prop:=∀(pins:List (Addr×Obj)) (σ:St) (H:Hp) (s:Shared) (e:Value) (s':Shared),Inv X pins σ H s->CX X.stack H s E e s'->X.xe e s'
section
variable {X:Cx}{CX:CXT}{k:Nat}{f C:Addr}{fd:FuncData}{ps:List Str}{sp:Sp}{dvs:List V}{ds:List Value}{E:XK}{x m:Str}{p pos apos:Pos}{e o:Expr}{es:List Expr}{ta:TE}{t:TA}
def Ziu {pins:List (Addr×Obj)}{σ:St}{H:Hp}{s:Shared}{Q:VK}{us:List Value}{vs:List V}(F:FnOk X.prog X.w X.K X.mg X.base CX k f fd ps sp)(hr:Room k X.A)(hb:We X.K fd ps ds)(hd:Vals dvs ds)(hx:Wq CX X E)
  (I:Inv X pins σ H s) (r:Vals vs us) (h:sp (vs++dvs) H Q E):wpAny (model X.prog X.w) X.A (call (.ref f) us) (EP X pins σ Q) X.xe s:=by
 have r2:Vals (vs++dvs) (us++ds):=r.append hd;have hl:(us++ds).length=ps.length:=by rw[<- r2.length];exact F.len _ _ _ _ h
 refine wpAny_call (codeAny_mono (F.run X.A X.stack s H ⟨us,[]⟩ (us++ds) (vs++dvs) Q E hr I.env0 (hb s us I.kIn hl) r2 h) fun r s' hq=>?_);cases r with
 | error e=>exact hx pins σ H s e s' I hq
 | ok fl =>
  cases fl with
  | ret u=>exact I.after hq
  | next=>exact False.elim hq
  | brk=>exact False.elim hq
  | cont=>exact False.elim hq
def Zlj (F:FnOk X.prog X.w X.K X.mg X.base CX k f fd ps sp)(hr:Room k X.A)(hg:Gl X x)(hm:X.mg x=some (.ref f))(hk:keepIn X.K (.ref f)=true)(hb:We X.K fd ps ds)(hd:Vals dvs ds)(hx:Wq CX X E)
  (ha:PA X (e::es) t) (hdb:autoParam ((x==("__debug__":Str))=false) q_2) (he:autoParam (starEach (e::es) X.env=(false,eval e X.env)::starEach es X.env) q_1) (hpl:autoParam ((backTo pos (starEach es X.env)).any (·.1)=false) q_1) :
  PE X (.Call (.Name x p) (e::es) [] pos) (ZcK sp dvs E t):=by
 intro pins s σ H Q I h;refine wpAny_Call_Name_kw (Jj I hg hm ?_ hdb);refine PySem.W.callWith_K (h₀:=X.base) I.ok.mod.kin hk (thn (ha pos pins s σ H _ I h) fun us s1 ⟨vs,H1,I1,r,q⟩=>⟨I1.kIn,?_⟩) he hpl;exact Ziu F hr hb hd hx I1 r q
def Zlg {pl:Sem Bool}(he:PE X o ta)(c:Cls X.K C)(hm:Meth X.K C m f)(F:FnOk X.prog X.w X.K X.mg X.base CX k f fd ps sp)(hr:Room k X.A)(hb:We X.K fd ps ds)(hd:Vals dvs ds)(hx:Wq CX X E)(ha:PA X (e::es) t)
  (hst:autoParam (starEach (e::es) X.env=(false,eval e X.env)::starEach es X.env) q_1) (hpl:autoParam ((backTo pos (starEach es X.env)).any (·.1)=false) q_1)
  (ht:eval (.Call (.Attribute o m apos) (e::es) [] pos) X.env=(do
   let ov <- eval o X.env
   standAt apos.atName
   let (f,first) <- holding [ov] (getMethod ov m pl)
   callWith pos f first (backTo pos (starEach (e::es) X.env)) (backToKw pos (keywordEach [] X.env))):=by rfl) :
  PE X (.Call (.Attribute o m apos) (e::es) [] pos) (ZdG C m sp dvs E ta t):=by
 intro pins s σ H Q I h;refine PySem.W.methodCall_KW (pl:=pl) (thn (he pins s σ H _ I h) fun u s1 ⟨x,H1,I1,rx,a,dx,fs,ex,ea,l,q⟩=>?_) ht;subst ex;obtain rfl:u=Value.ref a:=rx;refine ZaI I1 ea c hm l ?_;refine PySem.W.callWith_K (first:=[.ref a]) (h₀:=X.base) I.ok.mod.kin hm.kp (thn (ha pos pins s1 σ H1 _ I1 q) fun us s2 ⟨vs,H2,I2,r,q2⟩=>⟨I2.kIn,?_⟩) hst hpl;exact Ziu (us:=.ref a::us) (vs:=.ref a::vs) F hr hb hd hx I2 (.cons rfl r) q2
def ZjL {pl:Sem Bool}(he:PE X o ta)(c:Cls X.K C)(hm:Meth X.K C m f)(F:FnOk X.prog X.w X.K X.mg X.base CX k f fd ps sp)(hr:Room k X.A)(hb:We X.K fd ps ds)(hd:Vals dvs ds)(hx:Wq CX X E)
  (ht:autoParam (eval (.Call (.Attribute o m apos) [] [] pos) X.env=(do
   let ov <- eval o X.env
   standAt apos.atName
   let (f,first) <- holding [ov] (getMethod ov m pl)
   callWith pos f first (backTo pos (starEach [] X.env)) (backToKw pos (keywordEach [] X.env)))) q_1) :
  PE X (.Call (.Attribute o m apos) [] [] pos) (ZdG C m sp dvs E ta tNil):=by
 intro pins s σ H Q I h;refine PySem.W.methodCall_KW (pl:=pl) (thn (he pins s σ H _ I h) fun u s1 ⟨x,H1,I1,rx,a,dx,fs,ex,ea,l,q⟩=>?_) ht;subst ex;obtain rfl:u=Value.ref a:=rx;refine ZaI I1 ea c hm l ?_;exact PySem.W.callWith_K0 (first:=[.ref a]) I1.kIn hm.kp (Ziu (us:=[.ref a]) (vs:=[.ref a]) F hr hb hd hx I1 (.cons rfl .nil) q)
structure Mk (K:Frag)(C f:Addr):Prop where
 makes:makesIn K C=true
 init:findIn K (.ref C) "__init__"=some (some (.ref f))
 fn:isFn K (.ref f)=true
 kp:keepIn K (.ref C)=true
def ZjF {pins:List (Addr×Obj)}{σ:St}{H:Hp}{s:Shared}{Q:VK}{us:List Value}{vs:List V}(M:Mk X.K C f)(F:FnOk X.prog X.w X.K X.mg X.base CX k f fd ps sp)(hr:Room (k+1) X.A)(hb:We X.K fd ps ds)(hd:Vals dvs ds)
  (hx:Wq CX X E) (I:Inv X pins σ H s) (r:Vals vs us)
  (h:∀x dx,H x=none->H dx=none->dx≠x->sp (.ref x::(vs++dvs)) (upd (upd H dx (.own x)) x (.ins C dx [])) (fun v H2=>v=.non/\Q (.ref x) H2) E) :
  wpAny (model X.prog X.w) X.A (call (.ref C) us) (EP X pins σ Q) X.xe s:=by
 have hq:=h (s.heap.objs.size+1) s.heap.objs.size (I.hok.fresh (Nat.le_succ _)) (I.hok.fresh (y0r _)) (Nat.ne_of_lt (Nat.lt_succ_self _));have I2:=Inv.made (C:=C) I;have r2:Vals (V.ref (s.heap.objs.size+1)::(vs++dvs)) (Value.ref (s.heap.objs.size+1)::(us++ds)):=.cons rfl (r.append hd);have hl:(Value.ref (s.heap.objs.size+1)::us++ds).length=ps.length:=by
  have e:=r2.length;rw[F.len _ _ _ _ hq] at e;exact e.symm
 refine wpAny_call (Zj2 (f:=f) I.kIn M.makes M.init (beq_iff_eq.mp M.fn) (codeAny_mono (F.run _ X.stack _ _ ⟨Value.ref (s.heap.objs.size+1)::us,[]⟩ (Value.ref (s.heap.objs.size+1)::(us++ds)) _ _ E (hr.make C us [])
  (I2.env0.make C us []) (hb _ (Value.ref (s.heap.objs.size+1)::us) I2.kIn hl) r2 hq) fun r s' hq'=>?_))
 cases r with
 | error e=>exact hx pins σ _ _ e s' I2 hq'
 | ok fl =>
  cases fl with
  | ret u =>
   obtain⟨v,H',I3,rv,ev,q3⟩:=I2.after hq';subst ev;exact⟨rv,⟨V.ref (s.heap.objs.size+1),H',I3,rfl,q3⟩⟩
  | next=>exact False.elim hq'
  | brk=>exact False.elim hq'
  | cont=>exact False.elim hq'
def Zlh (M:Mk X.K C f)(F:FnOk X.prog X.w X.K X.mg X.base CX k f fd ps sp)(hr:Room (k+1) X.A)(hg:Gl X x)(hm:X.mg x=some (.ref C))(hb:We X.K fd ps ds)(hd:Vals dvs ds)(hx:Wq CX X E)
  (ha:PA X (e::es) t) (hdb:autoParam ((x==("__debug__":Str))=false) q_2) (he:autoParam (starEach (e::es) X.env=(false,eval e X.env)::starEach es X.env) q_1) (hpl:autoParam ((backTo pos (starEach es X.env)).any (·.1)=false) q_1) :
  PE X (.Call (.Name x p) (e::es) [] pos) (ZeB C sp dvs E t):=by
 intro pins s σ H Q I h;refine wpAny_Call_Name_kw (Jj I hg hm ?_ hdb);refine PySem.W.callWith_K (h₀:=X.base) I.ok.mod.kin M.kp (thn (ha pos pins s σ H _ I h) fun us s1 ⟨vs,H1,I1,r,q⟩=>⟨I1.kIn,?_⟩) he hpl;exact ZjF M F hr hb hd hx I1 r q
end
structure Zm (N P:List Str)(sc:Scope):Prop where
 kind:sc.kind=.function
 co:sc.isCoroutine=false
 gen:sc.isGenerator=false
 nd:N.Nodup
 pre:N.take P.length=P
 par:∀x∈P,sc.names.lookup x=some .local\/sc.names.lookup x=some .cell
 nofree:∀y∈sc.names,y.2≠.free
theorem ZfD {kindOf:Str->Option NameKind}{x:Str}:∀{binds:List (Str×Value)}{m:Str->Option Value},(∀v,(x,v) ∉ binds)->bindL kindOf binds m x=m x
 | [],_,_=>rfl
 | (n,v)::r,m,h=>by
  unfold bindL;rw[ZfD fun w hw=>h w (y0c _ hw)];split
  ·have:x≠n:=by rintro rfl;exact h v y0n
   simp[this]
  ·rfl
theorem ZfF {kindOf:Str->Option NameKind}{x:Str}:∀{binds:List (Str×Value)}{m:Str->Option Value},(∀v,(x,v) ∉ binds)->bindC kindOf binds m x=m x
 | [],_,_=>rfl
 | (n,v)::r,m,h=>by
  unfold bindC;rw[ZfF fun w hw=>h w (y0c _ hw)];split
  ·rfl
  ·have:x≠n:=by rintro rfl;exact h v y0n
   simp[this]
theorem ZfE {kindOf:Str->Option NameKind}{x:Str}{v:Value}:∀{P:List Str}{vs:List Value}{i:Nat}{m:Str->Option Value},P.Nodup->P[i]?=some x->vs[i]?=some v->kindOf x=some .local ->
  bindL kindOf (P.zip vs) m x=some v
 | [],_,_,_,_,h,_,_=>by simp at h
 | _::_,[],_,_,_,_,h,_=>by simp at h
 | p::P,w::vs,0,m,nd,h1,h2,hk=>by
  simp at h1 h2;subst h1;subst h2;show bindL kindOf ((p,w)::P.zip vs) m p=_;unfold bindL;rw[ZfD fun v hv=>(List.nodup_cons.mp nd).1 (List.of_mem_zip hv).1,if_pos hk];simp
 | p::P,w::vs,i+1,m,nd,h1,h2,hk=>by
  show bindL kindOf ((p,w)::P.zip vs) m x=_;unfold bindL;exact ZfE (i:=i) (List.nodup_cons.mp nd).2 (by simpa using h1) (by simpa using h2) hk
theorem ZfG {kindOf:Str->Option NameKind}{x:Str}{v:Value}:∀{P:List Str}{vs:List Value}{i:Nat}{m:Str->Option Value},P.Nodup->P[i]?=some x->vs[i]?=some v->kindOf x≠some .local ->
  bindC kindOf (P.zip vs) m x=some v
 | [],_,_,_,_,h,_,_=>by simp at h
 | _::_,[],_,_,_,_,h,_=>by simp at h
 | p::P,w::vs,0,m,nd,h1,h2,hk=>by
  simp at h1 h2;subst h1;subst h2;show bindC kindOf ((p,w)::P.zip vs) m p=_;unfold bindC;rw[ZfF fun v hv=>(List.nodup_cons.mp nd).1 (List.of_mem_zip hv).1,if_neg hk];simp
 | p::P,w::vs,i+1,m,nd,h1,h2,hk=>by
  show bindC kindOf ((p,w)::P.zip vs) m x=_;unfold bindC;exact ZfG (i:=i) (List.nodup_cons.mp nd).2 (by simpa using h1) (by simpa using h2) hk
noncomputable def start (N:List Str)(vs:List V):St:=vs.map some++List.replicate (N.length-vs.length) none
noncomputable def cxOf (CX:CXT)(P:Program)(w:World)(K:Frag)(mg:Str->Option Value)(base:Heap)(N:List Str)(qual:Str)(scope:Scope)(f:Addr)(cd:Value)(A:Around)(outer:List Env)(s:Shared)(H:Hp)(E:XK):Cx where
 prog:=P
 w:=w
 K:=K
 mg:=mg
 base:=base
 A:=A.deeper (envOfC qual scope s.heap.objs.size f cd)
 N:=N
 s_0:=s
 H_0:=H
 env:=envOfC qual scope s.heap.objs.size f cd
 outer:=outer
 stack:=envOfC qual scope s.heap.objs.size f cd::outer
 ex:=[]
 calm:=true
 fn:=fun _=>true
 pn:=[]
 xe:=fun e s'=>wpAny (model P w) (A.deeper (envOfC qual scope s.heap.objs.size f cd)) (leaving (envOfC qual scope s.heap.objs.size f cd) e) (fun _ s''=>CX outer H s E e s'') (fun e' s''=>CX outer H s E e' s'') s'
def Zho {sc:Scope}{n:Nat}{x:Str}(h:sc.names.lookup x=some .cell):∃c,(cellsFrom n sc.names []).lookup x=some c:=by
 have q:=PySem.W.cellsFrom_some sc.names n [] (.inl h);exact Option.isSome_iff_exists.mp q
theorem ZiU {CX:CXT}{P:Program}{w:World}{K:Frag}{mg:Str->Option Value}{base:Heap}{N ps:List Str}{qual:Str}{scope:Scope}{f:Addr}{cd:Value}{A:Around}{outer:List Env}{s s1:Shared}{H:Hp}{E:XK}{us:List Value}{vs:List V}
  (S:Zm N ps scope) (hd:A.handled=none) (e0:Env0 P w K mg base A outer s H) (hl:vs.length=ps.length) (r:Vals vs us)
  (x:InCallC s s.heap.objs.size (bindL (envOfC qual scope s.heap.objs.size f cd).kindOf (ps.zip us) fun _=>none) (cellsFrom (s.heap.objs.size+1) scope.names []) (bindC (envOfC qual scope s.heap.objs.size f cd).kindOf (ps.zip us) fun _=>none) s1) :
  Inv (cxOf CX P w K mg base N qual scope f cd A outer s H E) [] (start N vs) H s1:=by
 have hpl:ps.length<=N.length:=by have:=congrArg List.length S.pre;rw[y0h] at this;omega
 obtain⟨h1,tk,rfl,hk⟩:=x.done;have noA:∀b:Addr,b ∉ (cxOf CX P w K mg base N qual scope f cd A outer s H E).ex:=fun b z=>absurd (show b∈([]:List Addr) from z) (by simp)
 refine⟨⟨e0.mod,S.kind,rfl,rfl,y0r _,fun y z c h1 h2=>?_,fun y hy=>?_,fun y c _ h=>?_,fun _=>hd,Around.frames_deeper e0.frames,.inr ⟨rfl,rfl⟩,fun b z=>absurd z (noA b),e0.bs,e0.bsz,fun b _ _=>noA b,fun b z=>absurd z (noA b),e0.funs,e0.frf⟩,
  rfl,e0.bare,Un.kept hk,⟨_,x.toInCall.ns,fun i y v h1 h2 h3=>?_⟩,fun y c h=>⟨_,x.cell y c h⟩,e0.hok.fresh (y0r _),fun y c h=>?_,fun p hp=>absurd (show p∈([]:List (Addr×Obj)) from hp) (by simp),e0.hok.kept hk,?_⟩
 ·exact name_of_addr x.apart (PySem.mem_of_lookup h1) (PySem.mem_of_lookup h2)
 ·have hy:scope.names.lookup y=some .cell\/scope.names.lookup y=some .free:=hy;rcases hy with hy | hy
  ·exact Zho hy
  ·exact absurd rfl (S.nofree _ (PySem.mem_of_lookup hy))
 ·exact Nat.le_of_lt (x.above y c (PySem.mem_of_lookup h))
 ·have hi:i<vs.length:=by
   unfold start at h2;by_cases hi:i<vs.length
   ·exact hi
   ·rw[List.getElem?_append_right (by simpa using hi)] at h2;rw[List.getElem?_replicate] at h2;split at h2 <;> cases h2
  have ha:vs[i]?=some v:=by
   unfold start at h2;rw[List.getElem?_append_left (by simpa using hi),y0l] at h2;cases e:vs[i]? with
   | none=>rw[e] at h2;cases h2
   | some a=>rw[e] at h2;cases h2;rfl
  obtain⟨u,hu,rv⟩:=r.get ha;have hp:ps[i]?=some y:=by
   rw[<- S.pre,List.getElem?_take_of_lt (by omega)];exact h1
  have ndP:ps.Nodup:=by rw[<- S.pre];exact S.nd.sublist (List.take_sublist _ _)
  refine⟨u,rv,?_⟩;rcases S.par y (y0f hp) with k | k
  ·exact .inl ⟨k,ZfE ndP hp hu k⟩
  ·obtain⟨c,e⟩:=Zho (n:=s.heap.objs.size+1) k;refine .inr ⟨.inl k,c,e,?_⟩;have q:=x.cell y c e;rw[ZfG ndP hp hu (by show scope.names.lookup y≠_;rw[k];decide)] at q;exact q
 ·exact e0.hok.fresh (Nat.le_of_lt (x.above y c (PySem.mem_of_lookup h)))
 ·unfold start;show _=N.length;rw[y01,y03,y0g];omega
def ZlN {CX:CXT}{P:Program}{w:World}{K:Frag}{mg:Str->Option Value}{base:Heap}{k:Nat}{f:Addr}{name qual:Str}{params:Arguments}{body:List Stmt}{scope:Scope}{dV kV doc pm cdv ct oc:Value}{an od:Option Addr}
  {osl:Array (Option Value)}{N ps:List Str}{sp:Sp} (lk:K.lookup f=some ⟨oc,od,.func (fnOf name qual params body scope dV kV doc pm an cdv ct),osl⟩) (hcd:codeIn K cdv qual=true) (S:Zm N ps scope)
  (len:∀vs H Q E,sp vs H Q E->vs.length=ps.length)
  (hbody:∀(A:Around) (outer:List Env) (s:Shared) (H:Hp) (vs:List V) (Q:VK) (E:XK),Room k (A.deeper (envOfC qual scope s.heap.objs.size f cdv))->sp vs H Q E ->
   ∃t,PSs (cxOf CX P w K mg base N qual scope f cdv A outer s H E) body t/\t { nx:=fun _ H'=>Q .non H',rt:=Q } (start N vs) H) :
  FnOk P w K mg base CX (k+1) f (fnOf name qual params body scope dV kV doc pm an cdv ct) ps sp:=by
 refine⟨len,fun A outer s H args us vs Q E hr e0 hb r hsp=>?_⟩;have hl:=len _ _ _ _ hsp;have KX:K.In s.heap:=e0.mod.kin.keeps fun b o e=>(e0.bs b o e).1
 have lim:s.heap.NoLimit:=e0.mod.nolimit.keeps fun b o e=>(e0.bs b o e).1
 have hkind:∀y∈ps.zip us,scope.names.lookup y.1=some .local\/(scope.names.lookup y.1=some .cell/\((cellsFrom (s.heap.objs.size+1) scope.names []).lookup y.1).isSome=true):=fun⟨n,v⟩ hy=>by
  rcases S.par n (List.of_mem_zip hy).1 with q | q
  ·exact .inl q
  ·exact .inr ⟨q,PySem.W.cellsFrom_some _ _ _ (.inl q)⟩
 refine codeAny_call_function hr.depth (KX _ _ lk) rfl S.co S.gen rfl (PySem.W.codeRec_of KX hcd) (hb _ _ _ _ ?_);refine wpAny_newFunctionEnv_cells S.kind hkind fun env he s1 x=>?_
 subst he;refine⟨lim.keeps x.toInCall.keep,codeAny_func ?_⟩;obtain⟨t,ht,hq⟩:=hbody A outer s H vs Q E (hr.deeper _) hsp;have I:Inv (cxOf CX P w K mg base N qual scope f cdv A outer s H E) [] (start N vs) H s1:=ZiU S hr.hd e0 hl r x;refine wpAny_mono (ht [] s1 (start N vs) H _ I hq) (fun fl s' hs=>?_) fun e s' hs=>hs
 have fin:∀{σ':St}{H':Hp}{v:V}{u:Value},Inv (cxOf CX P w K mg base N qual scope f cdv A outer s H E) [] σ' H' s'->RelV v u->Q v H'->CE outer P w H s Q u s' :=
  fun {σ' H' v u} J rv q=>⟨v,H',J.os,J.bare,J.base,J.hok,rv,q⟩
 cases fl with
 | ret u =>
  obtain⟨v,σ',H',J,rv,q⟩:=hs;exact fin J rv q
 | next =>
  obtain⟨σ',H',J,q⟩:=hs;exact fin (v:=V.non) (u:=Value.none) J rfl q
 | brk =>
  obtain⟨_,_,_,q⟩:=hs;exact False.elim q
 | cont =>
  obtain⟨_,_,_,q⟩:=hs;exact False.elim q
section
variable {X:Cx}{x:Str}{p pos:Pos}{e:Expr}{es:List Expr}{t:TA}{id T:String}{r:List V->Hp->VK->Prop}
def tCB (r:List V->Hp->VK->Prop)(t:TA):TE:=fun σ H Q=>t σ H fun vs H1=>r vs H1 Q
def Zp (hc:Zep X (.builtin id) r)(hg:Gl X x)(hm:X.mg x=none)(hv:bootBuiltins x=some (.builtin id))(ha:PA X (e::es) t)(hn:autoParam (x≠"__name__") q_2)(hdb:autoParam ((x==("__debug__":Str))=false) q_2)
  (he:autoParam (starEach (e::es) X.env=(false,eval e X.env)::starEach es X.env) q_1) (hpl:autoParam ((backTo pos (starEach es X.env)).any (·.1)=false) q_1):PE X (.Call (.Name x p) (e::es) [] pos) (tCB r t):=by
 intro pins s σ H Q I h;refine wpAny_Call_Name_kw (Zcp I hg hm hv ?_ hn hdb);exact PyProof.Rows.callWith_builtin1 (thn (ha pos pins s σ H _ I h) fun us s1 ⟨vs,H1,I1,r1,q1⟩=>hc pins s1 σ H1 vs us Q I1 r1 q1) he hpl
def Zca (hc:Zep X (.type T) r)(hg:Gl X x)(hm:X.mg x=none)(hv:bootBuiltins x=some (.type T))(ha:PA X (e::es) t)(hn:autoParam (x≠"__name__") q_2)(hdb:autoParam ((x==("__debug__":Str))=false) q_2)
  (he:autoParam (starEach (e::es) X.env=(false,eval e X.env)::starEach es X.env) q_1) (hpl:autoParam ((backTo pos (starEach es X.env)).any (·.1)=false) q_1):PE X (.Call (.Name x p) (e::es) [] pos) (tCB r t):=by
 intro pins s σ H Q I h;refine wpAny_Call_Name_kw (Zcp I hg hm hv ?_ hn hdb);exact PyProof.Rows.callWith_type1 (thn (ha pos pins s σ H _ I h) fun us s1 ⟨vs,H1,I1,r1,q1⟩=>hc pins s1 σ H1 vs us Q I1 r1 q1) he hpl
end
end L2
namespace HT
open PySem PyProof.Rows
section
variable {prog:Program}{w:World}{A:Around}{E:Value->Shared->Prop}{s:Shared}
noncomputable def sIx (n d:Nat):Option Int->Nat
 | none=>d
 | some v=>if v<0 then(v+(n:Int)).toNat else min v.toNat n
def sIx_none (n d:Nat):sIx n d none=d:=rfl
theorem sIx_nat (n d k:Nat):sIx n d (some (k:Int))=min k n:=by
 show(if (k:Int)<0 then((k:Int)+(n:Int)).toNat else min (k:Int).toNat n)=min k n;rw[if_neg (by omega),Int.toNat_natCast]
end
end HT
namespace L2
open PySem PySem.Spec PyProof.Rows
abbrev TO:=St->Hp->(Option Int->Hp->Prop)->Prop
def PO (X:Cx)(e:Option Expr)(t:TO):Prop :=
 ∀(pins:List (Addr×Obj)) (s:Shared) (σ:St) (H:Hp) (Q:Option Int->Hp->Prop),Inv X pins σ H s->t σ H Q ->
  wpAny (model X.prog X.w) X.A (evalPart e X.env) (fun u s'=>∃o H',Inv X pins σ H' s'/\IsPart u o/\Q o H') X.xe s
def Zan:TO:=fun _ H Q=>Q none H
def Zhw (t:TE):TO:=fun σ H Q=>t σ H fun x H1=>∃i,x=.int i/\Q (some i) H1
section
variable {X:Cx}{e:Expr}{te:TE}{lo hi:Option Expr}{tl th:TO}{pos p2:Pos}
def Zf5:PO X none Zan:=by
 intro pins s σ H Q I h;rw[evalPart_none];exact wpAny_pure ⟨none,H,I,.none,h⟩
def U8 (h:PE X e te):PO X (some e) (Zhw te):=by
 intro pins s σ H Q I hw;rw[evalPart_some];refine thn (h pins s σ H _ I hw) fun u s1 ⟨x,H1,I1,r1,q1⟩=>?_
 obtain⟨i,rfl,q⟩:=q1;obtain⟨t,rfl⟩:=r1;exact⟨some i,H1,I1,.int i t,q⟩
def SlR (X:Cx)(r:V->Option Int->Option Int->Hp->VK->Prop):Prop :=
 ∀(pins:List (Addr×Obj)) (s:Shared) (σ:St) (H:Hp) (x:V) (v vl vu:Value) (lo hi:Option Int) (sl:Addr) (Q:VK),Inv X pins σ H s->RelV x v->s.heap.IsSliceOf sl vl vu .none->IsPart vl lo->IsPart vu hi->r x lo hi H Q ->
  ∃T id,typeLookup (.type T) "__getitem__"=pure (some (.builtin id))/\s.TypeIs v T/\wpAny (model X.prog X.w) X.A (getItem v (.ref sl)) (EP X pins σ Q) X.xe s
def tSl (r:V->Option Int->Option Int->Hp->VK->Prop)(te:TE)(tl th:TO):TE:=fun σ H Q=>te σ H fun x H1=>tl σ H1 fun l H2=>th σ H2 fun u H3=>r x l u H3 Q
def JY {r:V->Option Int->Option Int->Hp->VK->Prop}(hr:SlR X r)(he:PE X e te)(hl:PO X lo tl)(hu:PO X hi th):PE X (.Subscript e (.Slice lo hi none p2) pos) (tSl r te tl th):=by
 intro pins s σ H Q I h;refine Subscript_ (thn (he pins s σ H _ I h) fun v s1 ⟨x,H1,I1,r1,q1⟩=>?_);refine wpAny_Slice (thn (hl pins s1 σ H1 _ I1 q1) fun vl s2 ⟨l,H2,I2,pl,q2⟩=>thn (hu pins s2 σ H2 _ I2 q2) fun vu s3 ⟨u,H3,I3,pu,q3⟩=>?_);rw[evalPart_none];refine wpAny_pure ?_;have I4:Inv X pins σ H3 { s3 with heap:=s3.heap.push { cls:=.type "slice",data:=.fields #[vl,vu,.none] } }:=I3.kept (t':=s3.toks) fun b ob q=>y0v _ q
 obtain⟨T,id,hT,ht,hg⟩:=hr pins { s3 with heap:=s3.heap.push { cls:=.type "slice",data:=.fields #[vl,vu,.none] } } σ H3 x v vl vu l u s3.heap.objs.size Q I4 r1 (Heap.IsSliceOf.new ..) pl pu q3;show wpAny (model X.prog X.w) X.A (subscriptTail e (.Slice lo hi none p2) v (.ref s3.heap.objs.size)) (EP X pins σ Q) X.xe { s3 with heap:=s3.heap.push { cls:=.type "slice",data:=.fields #[vl,vu,.none] } };exact tail_any (ops:=[.ref s3.heap.objs.size,v]) ht hT hg (by with_unfolding_all rfl)
noncomputable def cutV (xs:List V)(lo hi:Option Int):List V:=(xs.drop (HT.sIx xs.length 0 lo)).take (HT.sIx xs.length xs.length hi-HT.sIx xs.length 0 lo)
theorem ZgA (xs:List V)(lo hi:Option Int):(cutV xs lo hi).length<=xs.length:=by
 unfold cutV;rw[y0h,y0i];omega
end
noncomputable def ixN (n:Nat)(i:Int):Option Nat:=if 0<=i then(if i<n then some i.toNat else none) else if -(n:Int)<=i then some (i+n).toNat else none
noncomputable def atI {α:Type}(xs:List α)(i:Int):Option α:=(ixN xs.length i).bind fun j=>xs[j]?
theorem ZiS {n:Nat}{i:Int}{j:Nat}(h:ixN n i=some j):seqIndex? i n=some j/\j<n/\-(n:Int)<=i/\i<n:=by
 unfold ixN at h;by_cases h0:0<=i
 ·rw[if_pos h0] at h;by_cases h1:i<n
  ·rw[if_pos h1] at h;have e:i.toNat=j:=Option.some.inj h;exact⟨by rw[seqIndex_of h0 h1,e],by omega,by omega,h1⟩
  ·rw[if_neg h1] at h;cases h
 ·rw[if_neg h0] at h;by_cases h1:-(n:Int)<=i
  ·rw[if_pos h1] at h;have e:(i+n).toNat=j:=Option.some.inj h;exact⟨by rw[seqIndex_neg (by omega) h1,e],by omega,h1,by omega⟩
  ·rw[if_neg h1] at h;cases h
def Zjn {α:Type}{xs:List α}{i:Int}{v:α}(h:atI xs i=some v):∃j,seqIndex? i xs.length=some j/\xs[j]?=some v/\j<xs.length/\-(xs.length:Int)<=i/\i<xs.length:=by
 unfold atI at h;cases e:ixN xs.length i with
 | none=>rw[e] at h;cases h
 | some j =>
  rw[e] at h;obtain⟨h1,h2,h3,h4⟩:=ZiS e;exact⟨j,h1,h,h2,h3,h4⟩
theorem XA {α:Type}{xs:List α}{j:Nat}{v:α}(h:xs[j]?=some v):atI xs (j:Int)=some v:=by
 have hj:j<xs.length:=(y0a.mp h).1;have e:ixN xs.length (j:Int)=some j:=by
  unfold ixN;rw[if_pos (by omega),if_pos (by omega)];simp
 unfold atI;rw[e];exact h
def Zl3 (b:Expr):Prop:=∀o i,subscripted b false o i=operate [o,i] (getItem o i)
def IxR (X:Cx)(r:R2):Prop :=
 ∀(value slice:Expr) (pins:List (Addr×Obj)) (s:Shared) (σ:St) (H:Hp) (x y:V) (v u:Value) (Q:VK),Inv X pins σ H s->RelV x v->RelV y u->r x y H Q ->
  subscripted slice false v u=operate [v,u] (getItem v u)->wpAny (model X.prog X.w) X.A (subscriptTail value slice v u) (EP X pins σ Q) X.xe s
def MtR (X:Cx)(id:String)(r:V->List V->Hp->VK->Prop):Prop :=
 ∀(pins:List (Addr×Obj)) (s:Shared) (σ:St) (H:Hp) (x:V) (xs:List V) (v:Value) (us:List Value) (Q:VK),Inv X pins σ H s->RelV x v->Vals xs us->r x xs H Q ->
  wpAny (model X.prog X.w) X.A (call (.builtin id) (v::us)) (EP X pins σ Q) X.xe s
section
variable {X:Cx}{a b:Expr}{ta tb:TE}{pos:Pos}
def ZE {r:R2}(hr:IxR X r)(ha:PE X a ta)(hb:PE X b tb)(hs:Zl3 b):PE X (.Subscript a b pos) (tOp r ta tb):=by
 intro pins s σ H Q I h;exact Subscript_ (binT ha hb I h fun v u s2 x y H2 I2 rx ry q=>hr a b pins s2 σ H2 x y v u Q I2 rx ry q (hs _ _))
def rIxL (K:Frag):R2:=fun x y H Q=>∃p xs i v,x=.ref p/\y=.int i/\SqL K H p xs/\atI xs i=some v/\Q v H
def rIxT (K:Frag):R2:=fun x y H Q=>∃p xs i v,x=.ref p/\y=.int i/\SqT K H p xs/\atI xs i=some v/\Q v H
theorem ZA:IxR X (rIxL X.K):=by
 intro value slice pins s σ H x y v u Q I rx ry h hs;obtain⟨p,xs,i,z,rfl,rfl,hq,he,q⟩:=h;cases rx;obtain⟨t,rfl⟩:=ry;obtain⟨its,r,pl,hz⟩:=I.list hq;obtain⟨j,h1,h2,h3,h4,h5⟩:=Zjn he;obtain⟨w,ew,rw'⟩:=r.get h2;have hl:=r.length;have hn:=Zfi;have fin:EP X pins σ Q w s:=⟨z,H,I,rw',q⟩;by_cases h0:0<=i
 ·have hj:i.toNat=j:=by
   rw[seqIndex_of h0 h5] at h1;exact Option.some.inj h1
  exact item_listR pl.isList h0 (by omega) (by rw[hj];simpa using ew) fin hs
 ·have hj:(i+(its.toArray.size:Int)).toNat=j:=by
   rw[seqIndex_neg (by omega) h4] at h1;rw[List.size_toArray,<- hl];exact Option.some.inj h1
  exact subscriptTail_builtinR (x:=w) pl.isList.typeIs slot_list_getitem.lookup
   (wpAny_getItem_list_neg (Q:=fun r s'=>r=w/\EP X pins σ Q r s') pl.isList (by omega) (by rw[List.size_toArray] <;> omega) (by omega) (by rw[hj];simpa using ew) ⟨rfl,fin⟩) hs
theorem Yl:IxR X (rIxT X.K):=by
 intro value slice pins s σ H x y v u Q I rx ry h hs;obtain⟨p,xs,i,z,rfl,rfl,hq,he,q⟩:=h;cases rx;obtain⟨t,rfl⟩:=ry;obtain⟨its,r,pl,hz⟩:=I.tuple hq;obtain⟨j,h1,h2,h3,h4,h5⟩:=Zjn he;obtain⟨w,ew,rw'⟩:=r.get h2;have hl:=r.length;have hn:=Zfi;have fin:EP X pins σ Q w s:=⟨z,H,I,rw',q⟩;exact subscriptTail_builtinR (x:=w) pl.typeIs slot_tuple_getitem.lookup
  (getItem_tuple (j:=j) (Q:=fun r s'=>r=w/\EP X pins σ Q r s') pl (by omega) (by omega) (by rw[List.size_toArray,<- hl];exact h1) (by simpa using ew) ⟨rfl,fin⟩) hs
def ZhS (its:List Value)(n j:Nat)(u:Value):Obj.mapSeq (·.setIfInBounds j u) { cls:=.type "list",data:=.seq its.toArray n }={ cls:=.type "list",data:=.seq (its.set j u).toArray n }:=by
 simp[Obj.mapSeq]
theorem Inv.lst {pins:List (Addr×Obj)}{σ:St}{H:Hp}{s:Shared}{p:Addr}{xs:List V}(I:Inv X pins σ H s)(h:H p=some (.lst xs)):
  ∃(its:List Value) (n:Nat),Vals xs its/\s.heap.get? p=some { cls:=.type "list",data:=.seq its.toArray n }/\xs.length<=sizeLine:=by
 obtain⟨z,its,n,r,e⟩:=I.hok p _ h;exact⟨its,n,r,e,z⟩
theorem Inv.lstUpd {pins:List (Addr×Obj)}{σ:St}{H:Hp}{s:Shared}{p:Addr}{xs ys:List V}{its its':List Value}{n n':Nat}{f:Obj->Obj}(I:Inv X pins σ H s)(h:H p=some (.lst xs))
  (ho:s.heap.get? p=some { cls:=.type "list",data:=.seq its.toArray n }) (hf:f { cls:=.type "list",data:=.seq its.toArray n }={ cls:=.type "list",data:=.seq its'.toArray n' }) (r:Vals ys its') (hz:ys.length<=sizeLine) (t:Nat) :
  Inv X pins σ (upd H p (.lst ys)) { s with heap:=s.heap.update p f,toks:=t }:=by
 have e:(s.heap.update p f).get? p=some { cls:=.type "list",data:=.seq its'.toArray n' }:=by
  rw[Heap.get?_update_self f ho (by rw[hf] <;> rfl),hf]
 refine I.write (x:=p) (e:=p) (by rw[h];trivial) (.inl rfl) (fun b u hb q=>(Heap.get?_update_other _ _ (Ne.symm hb)).trans q) ⟨_,e⟩ ?_;exact⟨hz,its',n',r,e⟩
def Zm5:V->V->V->Hp->(Hp->Prop)->Prop:=fun o i v H Q=>∃p xs k j,o=.ref p/\i=.int k/\H p=some (.lst xs)/\ixN xs.length k=some j/\Q (upd H p (.lst (xs.set j v)))
theorem ZgN:PSet X Zm5:=by
 intro pins s σ H o i v ov iv u Q I ro ri rv h;obtain⟨p,xs,k,j,rfl,rfl,hp,hj,q⟩:=h;cases ro;obtain⟨t,rfl⟩:=ri;obtain⟨its,n,r,ho,hz⟩:=I.lst hp;obtain⟨h1,h2,h3,h4⟩:=ZiS hj;have hl:=r.length;have hn:=Zfi;have I':Inv X pins σ (upd H p (.lst (xs.set j v))) { s with heap:=s.heap.update p (Obj.mapSeq (·.setIfInBounds j u)) } :=
  I.lstUpd hp ho (ZhS its n j u) (r.set rv j) (by rw[List.length_set];exact hz) s.toks
 by_cases h0:0<=k
 ·have hk:k.toNat=j:=by
   rw[seqIndex_of h0 h4] at h1;exact Option.some.inj h1
  exact PySem.W.ki_setAt ho h0 (by omega) (by rw[List.size_toArray,<- hl];exact h4) (by rw[hk];exact⟨_,I',q⟩)
 ·have hk:(k+(its.toArray.size:Int)).toNat=j:=by
   rw[seqIndex_neg (by omega) h3] at h1;rw[List.size_toArray,<- hl];exact Option.some.inj h1
  exact PySem.W.ki_setBack ho (by omega) (by rw[List.size_toArray,<- hl];exact h3) (by omega) (by rw[hk];exact⟨_,I',q⟩)
theorem ZeK (lo hi:Option Int)(n:Nat):(sliceBounds lo hi none n).1=((HT.sIx n 0 lo:Nat):Int)/\(sliceBounds lo hi none n).2.1=((HT.sIx n n hi:Nat):Int)/\(sliceBounds lo hi none n).2.2=1:=by
 refine⟨?_,?_,rfl⟩
 ·cases lo with
  | none=>simp[sliceBounds,HT.sIx]
  | some i =>
   simp only[sliceBounds,HT.sIx,Option.getD_none,show(1:Int) > 0 by decide,if_true];by_cases h:i<0
   ·simp only[h,if_true] <;> omega
   ·simp only[h,if_false] <;> omega
 ·cases hi with
  | none=>simp[sliceBounds,HT.sIx]
  | some i =>
   simp only[sliceBounds,HT.sIx,Option.getD_none,show(1:Int) > 0 by decide,if_true];by_cases h:i<0
   ·simp only[h,if_true] <;> omega
   ·simp only[h,if_false] <;> omega
def ZdL (its:List Value)(lo hi:Option Int):slicePick its.toArray lo hi none=((its.drop (HT.sIx its.length 0 lo)).take (HT.sIx its.length its.length hi-HT.sIx its.length 0 lo)).toArray:=by
 obtain⟨h1,h2,h3⟩:=ZeK lo hi its.toArray.size;unfold slicePick;rw[h1,h2,h3];simp only[sliceRange_one,pick_run,List.size_toArray] <;> rfl
def rSlL (K:Frag):V->Option Int->Option Int->Hp->VK->Prop:=fun x lo hi H Q=>∃a xs,x=.ref a/\SqL K H a xs/\∀p,H p=none->Q (.ref p) (upd H p (.lst (cutV xs lo hi)))
theorem ZbV:SlR X (rSlL X.K):=by
 intro pins s σ H x v vl vu lo hi sl Q I rx hs pl pu h;obtain⟨a,xs,rfl,hx,q⟩:=h;cases rx;obtain⟨its,r,ht,hz⟩:=I.list hx;have hlen:=r.length;refine⟨"list",_,slot_list_getitem.lookup,ht.isList.typeIs,?_⟩;refine wpAny_getItem_list_slice ht.isList hs pl pu .none (by simp) ?_ (by rw[List.size_toArray] <;> omega);rw[ZdL,<- hlen];refine⟨.ref s.heap.objs.size,_,I.laid (t':=s.toks) (o:=.lst (cutV xs lo hi)) (fun b ob q=>y0v _ q) (y0r _) ?_,rfl,q _ (I.hok.fresh (y0r _))⟩;exact⟨y0q (ZgA xs lo hi) hz,_,0,(r.drop (HT.sIx xs.length 0 lo)).take (HT.sIx xs.length xs.length hi-HT.sIx xs.length 0 lo),y0w _ rfl⟩
noncomputable def Ug:V->Bool
 | .non=>true
 | .bl _=>true
 | .int _=>true
 | .str _=>true
 | _=>false
noncomputable def eqV:V->V->Bool
 | .non,.non=>true
 | .bl a,.bl b=>a==b
 | .bl a,.int b=>(if a then 1 else 0)==b
 | .int a,.bl b=>a==(if b then 1 else 0)
 | .int a,.int b=>a==b
 | .str a,.str b=>a==b
 | _,_=>false
def ZmR {A:Around}{s:Shared}{y x:V}{u v:Value}(ry:RelV y u)(rx:RelV x v)(fy:Ug y=true)(fx:Ug x=true):SeqAt.EqAt A s u v (eqV y x):=by
 cases y with
 | non =>
  cases ry;cases x with
  | non=>cases rx;exact SeqAt.EqAt.same _
  | bl b=>cases rx;exact SeqAt.EqAt.none_bool b
  | int b=>obtain⟨t,rfl⟩:=rx;exact SeqAt.EqAt.none_int b t
  | str b=>obtain⟨t,rfl⟩:=rx;exact SeqAt.EqAt.none_str b t
  | _=>exact absurd (show false=true from fx) Bool.false_ne_true
 | bl a =>
  cases ry;cases x with
  | non=>cases rx;exact SeqAt.EqAt.bool_none a
  | bl b=>cases rx;exact SeqAt.EqAt.bool_bool a b
  | int b=>obtain⟨t,rfl⟩:=rx;exact SeqAt.EqAt.bool_int a b t
  | str b=>obtain⟨t,rfl⟩:=rx;exact SeqAt.EqAt.bool_str a b t
  | _=>exact absurd (show false=true from fx) Bool.false_ne_true
 | int a =>
  obtain⟨t',rfl⟩:=ry;cases x with
  | non=>cases rx;exact SeqAt.EqAt.int_none a t'
  | bl b=>cases rx;exact SeqAt.EqAt.int_bool a t' b
  | int b=>obtain⟨t,rfl⟩:=rx;exact SeqAt.EqAt.int_int a t' b t
  | str b=>obtain⟨t,rfl⟩:=rx;exact SeqAt.EqAt.int_str a t' b t
  | _=>exact absurd (show false=true from fx) Bool.false_ne_true
 | str a =>
  obtain⟨t',rfl⟩:=ry;cases x with
  | non=>cases rx;exact SeqAt.EqAt.str_none a t'
  | bl b=>cases rx;exact SeqAt.EqAt.str_bool a t' b
  | int b=>obtain⟨t,rfl⟩:=rx;exact SeqAt.EqAt.str_int a t' b t
  | str b=>obtain⟨t,rfl⟩:=rx;exact SeqAt.EqAt.str_str a t' b t
  | _=>exact absurd (show false=true from fx) Bool.false_ne_true
 | _=>exact absurd (show false=true from fy) Bool.false_ne_true
noncomputable def eqU (x:V)(u:Value):Bool:=match u with
 | .none=>eqV .non x
 | .bool b=>eqV (.bl b) x
 | .int i _=>eqV (.int i) x
 | .str z _=>eqV (.str z) x
 | _=>false
def Zhe {x y:V}{u:Value}(r:RelV y u)(f:Ug y=true):eqU x u=eqV y x:=by
 cases y with
 | non=>cases r;rfl
 | bl b=>cases r;rfl
 | int i=>obtain⟨t,rfl⟩:=r;rfl
 | str z=>obtain⟨t,rfl⟩:=r;rfl
 | _=>exact absurd (show false=true from f) Bool.false_ne_true
theorem ZcH {x:V}:∀{xs:List V}{us:List Value},Vals xs us->xs.all Ug=true->us.any (eqU x)=xs.any fun y=>eqV y x
 | _,_,.nil,_=>rfl
 | y::xs,u::us,.cons r t,f=>by
  rw[List.all_cons,Bool.and_eq_true] at f;rw[List.any_cons,List.any_cons,Zhe r f.1,ZcH t f.2]
theorem Ut {A:Around}{s:Shared}{x:V}{v:Value}(rx:RelV x v)(fx:Ug x=true):∀{xs:List V}{us:List Value},Vals xs us->xs.all Ug=true->∀u∈us,SeqAt.EqAt A s u v (eqU x u)
 | _,_,.nil,_=>fun u hu=>by cases hu
 | y::xs,u::us,.cons r t,f=>fun u' hu=>by
  rw[List.all_cons,Bool.and_eq_true] at f;rcases y0b.mp hu with rfl | hu
  ·rw[Zhe r f.1];exact ZmR r rx f.1 fx
  ·exact Ut rx fx t f.2 u' hu
noncomputable def inV (x:V)(xs:List V):Bool:=xs.any fun y=>eqV y x
def rIn (K:Frag)(neg:Bool):R2:=fun x y H Q=>∃p xs,y=.ref p/\(SqL K H p xs\/SqT K H p xs)/\Ug x=true/\xs.all Ug=true/\Q (.bl (if neg then !inV x xs else inV x xs)) H
def JZ:OpR X (compareOp .In) (rIn X.K false):=by
 intro pins s σ H x y v u Q I rx ry h;obtain⟨p,xs,rfl,hq,fx,fs,q⟩:=h;cases ry;rcases hq with hq | hq
 ·obtain⟨its,r,pl,hz⟩:=I.list hq;refine SeqAt.in_listAt (eqU x) pl.isList (fun w hw=>Ut rx fx r fs w (by simpa using hw)) ⟨.bl _,H,I,rfl,?_⟩;rw[show its.toArray.any (eqU x)=its.any (eqU x) by simp,ZcH r fs];exact q
 ·obtain⟨its,r,pl,hz⟩:=I.tuple hq;refine SeqAt.in_tupleAt (eqU x) pl (fun w hw=>Ut rx fx r fs w (by simpa using hw)) ⟨.bl _,H,I,rfl,?_⟩;rw[show its.toArray.any (eqU x)=its.any (eqU x) by simp,ZcH r fs];exact q
def Zbe:OpR X (compareOp .NotIn) (rIn X.K true):=by
 intro pins s σ H x y v u Q I rx ry h;obtain⟨p,xs,rfl,hq,fx,fs,q⟩:=h;cases ry;rcases hq with hq | hq
 ·obtain⟨its,r,pl,hz⟩:=I.list hq;refine SeqAt.notIn_listAt (eqU x) pl.isList (fun w hw=>Ut rx fx r fs w (by simpa using hw)) ⟨.bl _,H,I,rfl,?_⟩;rw[show its.toArray.any (eqU x)=its.any (eqU x) by simp,ZcH r fs];exact q
 ·obtain⟨its,r,pl,hz⟩:=I.tuple hq;refine SeqAt.notIn_tupleAt (eqU x) pl (fun w hw=>Ut rx fx r fs w (by simpa using hw)) ⟨.bl _,H,I,rfl,?_⟩;rw[show its.toArray.any (eqU x)=its.any (eqU x) by simp,ZcH r fs];exact q
theorem Zj:Zep X (.builtin "len") (fun xs H Q=>∃p ys,xs=[.ref p]/\(SqL X.K H p ys\/SqT X.K H p ys)/\Q (.int ys.length) H):=by
 intro pins s σ H xs us Q I r h;obtain⟨p,ys,rfl,hq,q⟩:=h;obtain⟨u,rfl,rx⟩:=Zib r;cases rx;have hn:=Zfi;rcases hq with hq | hq
 ·obtain⟨its,r',pl,hz⟩:=I.list hq;have hlen:=r'.length;exact Calls.call_len_list pl.isList (by simp only[List.size_toArray] <;> omega) ⟨.int ys.length,H,I.tok _,⟨s.toks+1,by rw[List.size_toArray,hlen]⟩,q⟩
 ·obtain⟨its,r',pl,hz⟩:=I.tuple hq;have hlen:=r'.length;exact len_tuple pl (by simp only[List.size_toArray] <;> omega) ⟨.int ys.length,H,I.tok _,⟨s.toks+1,by rw[List.size_toArray,hlen]⟩,q⟩
def ZfC:Zep X (.type "list") (fun xs H Q=>∃p ys,xs=[.ref p]/\(SqL X.K H p ys\/SqT X.K H p ys)/\∀l,H l=none->Q (.ref l) (upd H l (.lst ys))):=by
 intro pins s σ H xs us Q I r h;obtain⟨p,ys,rfl,hq,q⟩:=h;obtain⟨u,rfl,rx⟩:=Zib r;cases rx;have fin:∀(its:List Value),Vals ys its->ys.length<=sizeLine->∀(h':Heap) (c':Nat),(∀b o',s.heap.get? b=some o'->h'.get? b=some o') ->
   h'.get? s.heap.objs.size=some { cls:=.type "list",dict:=none,data:=.seq its.toArray c',slots:=#[] }->EP X pins σ Q (.ref s.heap.objs.size) { s with heap:=h' }:=fun its r' hz h' c' kp e =>
  ⟨.ref s.heap.objs.size,_,I.laid (t':=s.toks) kp (y0r _) (show Wd X.prog X.w _ h' _ (.lst ys) from⟨hz,its,c',r',e⟩),rfl,q _ (I.hok.fresh (y0r _))⟩
 rcases hq with hq | hq
 ·obtain⟨its,r',pl,hz⟩:=I.list hq;have hlen:=r'.length;obtain⟨o,ho,hc,n,hd⟩:=pl.isList;exact call_list_seq p (.inl rfl) ho hc hd (fun h' c' kp e=>fin its r' hz h' c' kp e) (by simp only[List.size_toArray] <;> omega)
 ·obtain⟨its,r',pl,hz⟩:=I.tuple hq;have hlen:=r'.length;obtain⟨o,ho,hc,n,hd⟩:=pl;exact call_list_seq p (.inr rfl) ho hc hd (fun h' c' kp e=>fin its r' hz h' c' kp e) (by simp only[List.size_toArray] <;> omega)
def tyV (K:Frag)(T:String)(x:V)(H:Hp):Prop:=match x with
 | .str _=>T="str"
 | .int _=>T="int"
 | .ref p=>(T="list"/\∃xs,SqL K H p xs)\/(T="tuple"/\∃o,K.lookup p=some o/\o.cls=.type "tuple"/\o.dict=none) \/
   (T="dict"/\((∃kvs,H p=some (.dK kvs))\/∃kvs,H p=some (.dT kvs)))\/(T="set"/\∃S n,H p=some (.set S n))
 | _=>False
def Zl5 {pins:List (Addr×Obj)}{σ:St}{H:Hp}{s:Shared}{T:String}{x:V}{v:Value}(I:Inv X pins σ H s)(r:RelV x v)(ty:tyV X.K T x H):
  s.TypeIs v T/\∀a,v=.ref a->∃ob,s.heap.get? a=some ob/\ob.dict=none:=by
 cases x with
 | str z =>
  obtain⟨t,rfl⟩:=r;cases (show T="str" from ty);exact⟨typeIs_str s z t,fun _ e=>nomatch e⟩
 | int i =>
  obtain⟨t,rfl⟩:=r;cases (show T="int" from ty);exact⟨typeIs_int s i t,fun _ e=>nomatch e⟩
 | ref p =>
  cases r;rcases ty with⟨rfl,xs,hq⟩ | ⟨rfl,o,hk,hc,hd⟩ | ⟨rfl,hk⟩ | ⟨rfl,S,n,hk⟩
  ·obtain⟨its,_,pl,_⟩:=I.list hq;refine⟨pl.isList.typeIs,fun a e=>?_⟩;cases e;obtain⟨o,n,e,c,hd,_⟩:=pl;exact⟨o,e,hd⟩
  ·refine⟨⟨o,I.kIn p o hk,hc⟩,fun a e=>?_⟩;cases e;exact⟨o,I.kIn _ o hk,hd⟩
  ·have z:∃o,s.heap.get? p=some o/\o.ExactDict:=by
    rcases hk with⟨kvs,hk⟩ | ⟨kvs,hk⟩
    ·obtain⟨_,_,_,_,o,_,_,e,ex,_⟩:=I.hok p _ hk;exact⟨o,e,ex⟩
    ·obtain⟨_,_,_,_,o,_,_,e,ex,_⟩:=I.hok p _ hk;exact⟨o,e,ex⟩
   obtain⟨o,e,ex⟩:=z;refine⟨⟨o,e,ex.1⟩,fun a e2=>?_⟩;cases e2;exact⟨o,e,ex.2.1⟩
  ·obtain⟨o,_,_,_,e,ex,_⟩:=I.hok p _ hk;refine⟨⟨o,e,ex.1⟩,fun a e2=>?_⟩;cases e2;exact⟨o,e,ex.2.1⟩
 | _=>exact False.elim ty
def tBM (K:Frag)(T:String)(r:V->List V->Hp->VK->Prop)(to:TE)(t:TA):TE:=fun σ H Q=>to σ H fun x H1=>tyV K T x H1/\t σ H1 fun xs H2=>r x xs H2 Q
variable {o e:Expr}{es:List Expr}{to:TE}{t:TA}{name:Str}{apos cpos:Pos}{T id:String}{r:V->List V->Hp->VK->Prop}
def Yj (pa:PlainAttrs T)(slot:Slot T name id)(hty:typeOf (.builtin id)=pure (.type "method_descriptor"))(hm:MtR X id r)(ho:PE X o to)(ha:PA X (e::es) t)
  (hbase:autoParam (attributeBase o name X.env (eval o X.env)=eval o X.env) q_1)
  (hfew:((backTo cpos (starEach (e::es) X.env)).all (fun x=>!x.1) && (backToKw cpos (keywordEach [] X.env)).all (fun x=>x.1.isSome)
   && decide ((e::es).length+([]:List Keyword).length+(if ([]:List Keyword).isEmpty then 0 else 1)<30))=true:=by rfl)
  (hline:autoParam ((apos.endLine==cpos.line)=true) q_1) (hs:autoParam (starEach (e::es) X.env=(false,eval e X.env)::starEach es X.env) q_1) (hplain:autoParam ((backTo cpos (starEach es X.env)).any (·.1)=false) q_1) :
  PE X (.Call (.Attribute o name apos) (e::es) [] cpos) (tBM X.K T r to t):=by
 intro pins s σ H Q I h;refine wpAny_Call_method_late hbase hfew hline rfl (thn (ho pins s σ H _ I h) fun v s1 ⟨x,H1,I1,r1,ty,q1⟩=>?_);obtain⟨h1,h2⟩:=Zl5 I1 r1 ty;refine⟨T,id,pa,slot,hty,h1,h2,?_⟩;have hA:=ha cpos pins s1 σ H1 _ I1 q1;rw[hs] at hA ⊢;refine Calls.callWith_builtin (by show(false || (backTo cpos (starEach es X.env)).any (·.1))=false;rw[hplain] <;> rfl) (Calls.evalArgs_plain ?_);exact thn hA fun us s2 ⟨vs,H2,I2,r2,q2⟩=>hm pins s2 σ H2 x vs v us Q I2 r1 r2 q2
end
def MtM (X:Cx)(id:String)(r:V->List V->Hp->VK->Prop):Prop :=
 ∀(pins:List (Addr×Obj)) (s:Shared) (σ:St) (H:Hp) (x:V) (xs:List V) (v:Value) (us:List Value) (Q:VK),Inv X pins σ H s->RelV x v->Vals xs us->r x xs H Q ->
  wpAny (model X.prog X.w) X.A (call (.builtin id) (v::us)) (EP X pins σ Q) X.xe s
theorem Vals.one:∀{x:V}{us:List Value},Vals [x] us->∃u,us=[u]/\RelV x u
 | _,_,.cons r .nil=>⟨_,rfl,r⟩
section
variable {X:Cx}{pins:List (Addr×Obj)}{σ:St}{H:Hp}{s:Shared}{l b:Addr}{xs ys zs:List V}
theorem Inv.lset {its its':List Value}{n:Nat}{f:Array Value->Array Value}{t':Nat}(I:Inv X pins σ H s)(hH:H l=some (.lst xs))
  (e:s.heap.get? l=some { cls:=.type "list",data:=.seq its.toArray n }) (hf:f its.toArray=its'.toArray) (hv:Vals ys its') (hz:ys.length<=sizeLine) :
  Inv X pins σ (upd H l (.lst ys)) { s with heap:=s.heap.update l (Obj.mapSeq f),toks:=t' }:=by
 have q:=PySem.IsL.update e f;rw[hf] at q;refine I.write (x:=l) (e:=l) (by rw[hH];exact trivial) (.inl rfl) (fun b' u hb hu=>(Heap.get?_update_other s.heap (Obj.mapSeq f) (Ne.symm hb)).trans hu) ⟨_,q⟩ ?_;exact⟨hz,its',_,hv,q⟩
theorem Inv.lnew {its:List Value}{t':Nat}(I:Inv X pins σ H s)(hv:Vals ys its)(hz:ys.length<=sizeLine):
  Inv X pins σ (upd H s.heap.objs.size (.lst ys)) { s with heap:=s.heap.push { cls:=.type "list",data:=.seq its.toArray },toks:=t' } :=
 I.laid (fun _ _ q=>y0v _ q) (y0r _) ⟨hz,its,0,hv,y0w _ rfl⟩
theorem Inv.fresh (I:Inv X pins σ H s):H s.heap.objs.size=none:=I.hok.fresh (y0r _)
theorem Inv.lstM (I:Inv X pins σ H s)(hH:H l=some (.lst xs)):xs.length<=sizeLine/\∃(its:List Value) (n:Nat),Vals xs its/\xs.length=its.length/\s.heap.get? l=some { cls:=.type "list",data:=.seq its.toArray n }:=by
 obtain⟨z,its,n,r,e⟩:=I.hok l _ hH;exact⟨z,its,n,r,r.length,e⟩
theorem ZjV {n:Nat}(h:n<=sizeLine):Builtin.List.listTooLong n=false:=by
 unfold Builtin.List.listTooLong;exact decide_eq_false (by omega)
end
section
variable {X:Cx}
def U7:V->List V->Hp->VK->Prop:=fun x vs H Q=>∃l xs y,x=.ref l/\vs=[y]/\H l=some (.lst xs)/\xs.length<sizeLine/\Q .non (upd H l (.lst (xs++[y])))
theorem ZZ:MtM X "list.append" U7:=by
 intro pins s σ H x vs v us Q I rx rv h;obtain⟨l,xs,y,rfl,rfl,hH,hz,q⟩:=h;cases rx;obtain⟨u,rfl,ru⟩:=rv.one;obtain⟨z,its,n,r,hl,e⟩:=I.lstM hH;refine call_meets F.slot_list_append ⟨_,e,rfl⟩ F.entry_list_append (F.args_list_append_2 _ _) (PySem.list_append l its.toArray n u (by rw[List.size_toArray];omega)) ⟨e,?_⟩;refine⟨.non,_,I.lset (its':=its++[u]) hH e (by simp) (r.append (.cons ru .nil)) ?_,rfl,q⟩;rw[y01,List.length_singleton];omega
def Zaw:V->List V->Hp->VK->Prop:=fun x vs H Q=>∃l b xs zs,x=.ref l/\vs=[.ref b]/\H l=some (.lst xs)/\H b=some (.lst zs)/\xs.length+zs.length<=sizeLine/\Q .non (upd H l (.lst (xs++zs)))
theorem ZG:MtM X "list.extend" Zaw:=by
 intro pins s σ H x vs v us Q I rx rv h;obtain⟨l,b,xs,zs,rfl,rfl,hH,hB,hz,q⟩:=h;cases rx;obtain⟨u,rfl,ru⟩:=rv.one;cases ru;obtain⟨z,its,n,r,hl,e⟩:=I.lstM hH;obtain⟨z2,its2,n2,r2,hl2,e2⟩:=I.lstM hB;have hsz:its.toArray.size+its2.toArray.size<=sizeLine:=by rw[List.size_toArray,List.size_toArray];omega
 have hlong:¬ (!its.toArray.isEmpty && Builtin.List.listTooLong (its.toArray.size+its2.toArray.size))=true:=by
  rw[ZjV hsz,Bool.and_false];exact Bool.false_ne_true
 refine call_meets F.slot_list_extend ⟨_,e,rfl⟩ F.entry_list_extend (F.args_list_extend_2 _ _)
  (AutoSeq1.list_extend_list_list_0 l its.toArray n b its2.toArray n2 hlong (by rw[List.size_toArray];omega) (by omega)) ⟨e,e2,?_⟩
 refine⟨.non,_,I.lset (its':=its++its2) hH e (by simp) (r.append r2) ?_,rfl,q⟩;rw[y01];omega
def rCat:R2:=fun x y H Q=>∃l b xs zs,x=.ref l/\y=.ref b/\H l=some (.lst xs)/\H b=some (.lst zs)/\xs.length+zs.length<=sizeLine/\∀p,H p=none->Q (.ref p) (upd H p (.lst (xs++zs)))
def Zdh:OpR X (binaryOp .Add) rCat:=by
 intro pins s σ H x y v u Q I rx ry h;obtain⟨l,b,xs,zs,rfl,rfl,hH,hB,hz,q⟩:=h;cases rx;cases ry;obtain⟨z,its,n,r,hl,e⟩:=I.lstM hH;obtain⟨z2,its2,n2,r2,hl2,e2⟩:=I.lstM hB;refine PySem.P.add_list e e2 ?_ (by rw[List.size_toArray,List.size_toArray];omega);have ea:its.toArray++its2.toArray=(its++its2).toArray:=by simp
 rw[ea];exact⟨.ref _,_,I.lnew (t':=s.toks) (r.append r2) (by rw[y01];omega),rfl,q _ I.fresh⟩
end
theorem Vals.ints:∀{ns:List Int}{us:List Value},Vals (ns.map V.int) us->IntsAre us ns
 | [],us,h=>by
  rw[List.map_nil] at h;cases h;exact IntsAre.nil
 | n::ns,us,h=>by
  rw[y05] at h;cases h with
  | cons r t =>
   obtain⟨k,rfl⟩:=r;exact IntsAre.cons n k (Vals.ints t)
theorem Vals.ref1 {a:Addr}{us:List Value}(r:Vals [V.ref a] us):us=[Value.ref a]:=by
 cases r with
 | cons r t =>
  cases t;cases r;rfl
section
variable {prog:Program}{w:World}{A:Around}{E:Value->Shared->Prop}{s:Shared}{l:Addr}{its:List Value}{ns:List Int}{Q:Value->Shared->Prop}
def Zk7 (hh:A.handled=none)(hl:s.heap.IsList l its.toArray)(hi:IntsAre its ns)
  (h:∀h' tk t',(∀b o,s.heap.get? b=some o->h'.get? b=some o)->Q (.int ns.sum t') { s with heap:=h',toks:=tk }):wpAny (model prog w) A (call (.builtin "sum") [.ref l]) Q E s:=by
 obtain⟨xs,e⟩:=hi.allInts.items;have hn:numsOf (intItems xs).toList=ns:=by rw[<- e];exact hi.numsOf
 rw[nums_intItems] at hn;rw[e] at hl;refine PySem.sum_intListG hh hl fun h' tk t' hk=>?_
 have:=h h' tk t' hk;rw[preSum_eq,y0e (by simp),hn];exact this
end
section
variable {X:Cx}
def rSum (K:Frag):List V->Hp->VK->Prop:=fun vs H Q=>∃(a:Addr) (ns:List Int),vs=[V.ref a]/\SqL K H a (ns.map V.int)/\Q (.int ns.sum) H
def Zjg (hc:X.calm=true):Zep X (.builtin "sum") (rSum X.K):=by
 intro pins s σ H vs us Q I r h;obtain⟨a,ns,rfl,hs,q⟩:=h;obtain⟨its,rv,hl,_⟩:=I.list hs;rw[Vals.ref1 r];exact Zk7 (I.ok.hd hc) hl.isList rv.ints fun h' tk t' hk=>⟨.int _,H,I.kept hk,⟨_,rfl⟩,q⟩
def Zme (K:Frag):V->List V->Hp->VK->Prop:=fun x xs H Q=>∃(a:Addr) (ys:List V) (y:V) (j:Nat) (z:V),x=V.ref a/\xs=[y]/\SqL K H a ys/\Ug y=true/\ys.all Ug=true/\ys[j]?=some z/\eqV z y=true /\
 (∀(m:Nat) (z':V),m<j->ys[m]?=some z'->eqV z' y=false)/\Q (.int (j:Nat)) H
def Zi8 {ys:List V}(f:ys.all Ug=true){j:Nat}{z:V}(h:ys[j]?=some z):Ug z=true:=List.all_eq_true.mp f z (y0f h)
theorem Zj0:MtR X "list.index" (Zme X.K):=by
 intro pins s σ H x xs v us Q I rx rxs h;obtain⟨a,ys,y,j,z,rfl,rfl,hs,fy,fys,hz,hzj,hno,q⟩:=h;cases rx;cases rxs with
 | cons ry rt =>
  rename_i uy ut;cases rt;obtain⟨its,rv,⟨⟨cls,dd,data,sl⟩,n,ho,hc,hdn,hd⟩,hlen⟩:=I.list hs;simp only at hc hd;subst hc hd;obtain⟨u,hu,ru⟩:=rv.get hz;obtain⟨hjl,hje⟩:=y0a.mp hu;have hvl:=rv.length;have hj:j<its.toArray.size:=by simpa using hjl
  have hsl:=sizeLine_eq;refine call_meets PySem.F.slot_list_index ⟨_,ho,rfl⟩ PySem.F.entry_list_index (PySem.F.args_list_index_2 _ _)
   (SeqAt.list_indexAt a its.toArray n dd sl uy (eqU y) j hj (by omega) ?_ ?_) ⟨ho,fun u' hu'=>Ut ry fy rv fys u' (by simpa using hu'),?_⟩
  ·have e1:its.toArray[j]=u:=by simpa using hje
   rw[e1,Zhe ru (Zi8 fys hz)];exact hzj
  ·intro m hm hmj;have hml:m<its.length:=by simpa using hm
   have hmy:m<ys.length:=by omega
   have hy':ys[m]?=some ys[m]:=y09 hmy;obtain⟨u2,hu2,ru2⟩:=rv.get hy';obtain⟨_,hme⟩:=y0a.mp hu2;have e1:its.toArray[m]=u2:=by simpa using hme
   rw[e1,Zhe ru2 (Zi8 fys hy')];exact hno m _ hmj hy'
  ·exact⟨.int (j:Nat),H,I.tok _,⟨_,rfl⟩,q⟩
end
mutual
inductive Dp (K:Frag) (H:Hp):V->PyData->Prop
 | non:Dp K H .non .none
 | bl (b:Bool):Dp K H (.bl b) (.bool b)
 | int (i:Int):Dp K H (.int i) (.int i)
 | str (x:Str):Dp K H (.str x) (.str x)
 | lst {a:Addr}{xs:List V}{ds:List PyData}:SqL K H a xs->ZgE K H xs ds->Dp K H (.ref a) (.list ds)
 | tup {a:Addr}{xs:List V}{ds:List PyData}:SqT K H a xs->ZgE K H xs ds->Dp K H (.ref a) (.tuple ds)
inductive ZgE (K:Frag) (H:Hp):List V->List PyData->Prop
 | nil:ZgE K H [] []
 | cons {v:V}{vs:List V}{d:PyData}{ds:List PyData}:Dp K H v d->ZgE K H vs ds->ZgE K H (v::vs) (d::ds)
end
section
variable {X:Cx}{pins:List (Addr×Obj)}{σ:St}{H:Hp}{s:Shared}
mutual
theorem Dp.reads (I:Inv X pins σ H s):∀(d:PyData) (v:V) (u:Value),Dp X.K H v d->RelV v u->∃as,Reads s.heap u d as
 | .none,_,_,h,r=>by
  cases h;cases r;exact⟨_,Reads.none⟩
 | .bool b,_,_,h,r=>by
  cases h;cases r;exact⟨_,Reads.bool b⟩
 | .int i,_,_,h,r=>by
  cases h;obtain⟨t,rfl⟩:=r;exact⟨_,Reads.int i t⟩
 | .str x,_,_,h,r=>by
  cases h;obtain⟨t,rfl⟩:=r;exact⟨_,Reads.str x t⟩
 | .list ds,_,_,h,r=>by
  cases h with
  | lst hs ha =>
   cases r;obtain⟨its,rv,⟨o,n,ho,hc,_,hd⟩,_⟩:=I.list hs;obtain⟨as,hr⟩:=Dp.readsAll I ds _ its ha rv;exact⟨_,Reads.list ho hc hd hr⟩
 | .tuple ds,_,_,h,r=>by
  cases h with
  | tup hs ha =>
   cases r;obtain⟨its,rv,⟨o,ho,hc,n,hd⟩,_⟩:=I.tuple hs;obtain⟨as,hr⟩:=Dp.readsAll I ds _ its ha rv;exact⟨_,Reads.tuple ho hc hd hr⟩
 | .dict _,_,_,h,_=>by cases h
theorem Dp.readsAll (I:Inv X pins σ H s):∀(ds:List PyData) (vs:List V) (us:List Value),ZgE X.K H vs ds->Vals vs us->∃as,ReadsAll s.heap us ds as
 | [],_,_,h,r=>by
  cases h;cases r;exact⟨_,ReadsAll.nil⟩
 | d::ds,_,_,h,r=>by
  cases h with
  | cons h1 h2 =>
   cases r with
   | cons r1 r2 =>
    obtain⟨as,q1⟩:=Dp.reads I d _ _ h1 r1;obtain⟨bs,q2⟩:=Dp.readsAll I ds _ _ h2 r2;exact⟨_,ReadsAll.cons q1 q2⟩
end
end
section
variable {X:Cx}
def rEqD (K:Frag):R2:=fun x y H Q=>∃d e,Dp K H x d/\Dp K H y e/\SeqAt.shaped d=true/\SeqAt.shaped e=true/\Q (.bl (PyData.eqv d e)) H
def Zmk (hu:X.A.units+64<cLine):OpR X (compareOp .Eq) (rEqD X.K):=by
 intro pins s σ H x y v u Q I rx ry h;obtain⟨d,e,hd,he,sd,se,q⟩:=h;obtain⟨as,r1⟩:=Dp.reads I d x v hd rx;obtain⟨bs,r2⟩:=Dp.reads I e y u he ry;exact SeqAt.compareEq_shaped r1 r2 sd se hu ⟨.bl _,H,I,rfl,q⟩
end
abbrev ZkY (h:Heap)(c:Addr)(v:Option Value):Prop:=h.IsCell c v
noncomputable def relS (scope sc:Scope):Scope :=
 { scope with names:=scope.names.map fun(n,k)=>if (k==.free && sc.kind==.function && sc.names.lookup n==some .cell) then(n,.cell) else(n,k) }
noncomputable def Ya (cells:List (Str×Addr)):List (Str×NameKind)->List (Str×Addr)->List (Str×Addr)
 | [],acc=>acc
 | (n,k)::r,acc=>if k==.free then Ya cells r ((n,(cells.lookup n).getD 0)::acc) else Ya cells r acc
theorem Zbh (env:Env)(f:Str×NameKind->List (Str×Addr)->Sem (ForInStep (List (Str×Addr))))
  (hf:∀n k c,f (n,k) c=if k==.free then(do let a <- cellOf env n;pure (.yield ((n,a)::c))) else pure (.yield c)) :
  ∀(names:List (Str×NameKind)) (acc:List (Str×Addr)),(∀y∈names,y.2=.free->∃c,env.cells.lookup y.1=some c)->forIn names acc f=pure (Ya env.cells names acc)
 | [],acc,_=>by rw[List.forIn_nil];rfl
 | (n,k)::r,acc,h=>by
  rw[List.forIn_cons,hf];have ih:=fun acc=>Zbh env f hf r acc fun y hy=>h y (y0c _ hy)
  unfold Ya;by_cases hk:(k==NameKind.free)=true
  ·rw[if_pos hk,if_pos hk];obtain⟨c,hc⟩:=h (n,k) y0n (by simpa using hk);have e:cellOf env n=pure c:=by unfold cellOf;rw[hc]
   rw[e];have e2:(env.cells.lookup n).getD 0=c:=by rw[hc];rfl
   rw[e2];exact ih _
  ·rw[if_neg hk,if_neg hk];exact ih _
def Zh4 {scope:Scope}{env:Env}(h:∀y∈scope.names,y.2=.free->∃c,env.cells.lookup y.1=some c):closureFor scope env=pure (Ya env.cells scope.names []):=by
 simp only[closureFor];rw[Zbh env _ (fun n k c=>rfl) scope.names [] h];rfl
theorem ZaE {α:Type}:∀{l:List (Str×α)}{n:Str}{c:α},(n,c)∈l->∃c',l.lookup n=some c'
 | (k,v)::r,n,c,h=>by
  rw[List.lookup_cons];cases hb:n==k with
  | true=>exact⟨_,rfl⟩
  | false =>
   rcases y0b.mp h with e | h
   ·cases e;simp at hb
   ·exact ZaE h
theorem Vc {cells:List (Str×Addr)}:∀{names:List (Str×NameKind)}{acc:List (Str×Addr)}{n:Str}{c:Addr},(n,c)∈Ya cells names acc->(n,c)∈acc\/((n,.free)∈names/\c=(cells.lookup n).getD 0)
 | [],_,_,_,h=>.inl h
 | (m,k)::r,acc,n,c,h=>by
  unfold Ya at h;split at h
  ·rename_i hk;have hk:k=.free:=by simpa using hk
   rcases Vc h with h | ⟨h1,h2⟩
   ·rcases y0b.mp h with e | h
    ·cases e;exact .inr ⟨hk ▸ y0n,rfl⟩
    ·exact .inl h
   ·exact .inr ⟨y0c _ h1,h2⟩
  ·rcases Vc h with h | ⟨h1,h2⟩
   ·exact .inl h
   ·exact .inr ⟨y0c _ h1,h2⟩
theorem Jq {cells:List (Str×Addr)}:∀{names:List (Str×NameKind)}{acc:List (Str×Addr)}{p:Str×Addr},p∈acc->p∈Ya cells names acc
 | [],_,_,h=>h
 | (m,k)::r,acc,p,h=>by
  unfold Ya;split
  ·exact Jq (y0c _ h)
  ·exact Jq h
theorem Jp {cells:List (Str×Addr)}:∀{names:List (Str×NameKind)}{acc:List (Str×Addr)}{n:Str},(n,.free)∈names->(n,(cells.lookup n).getD 0)∈Ya cells names acc
 | (m,k)::r,acc,n,h=>by
  unfold Ya;rcases y0b.mp h with e | h
  ·cases e;exact Jq y0n
  ·split
   ·exact Jp h
   ·exact Jp h
theorem Uj:∀{names:List (Str×NameKind)}{h:Heap}{acc:List (Str×Addr)}{x:Str}{c:Addr},(x,c)∈cellsFrom h.objs.size names acc ->
  (x,c)∈acc\/((x,.cell)∈names/\h.objs.size<=c/\ZkY (pushCells h names) c none)
 | [],_,_,_,_,h=>.inl h
 | (n,k)::r,h,acc,x,c,hm=>by
  unfold cellsFrom at hm;unfold pushCells;split at hm
  ·rename_i hk;rw[if_pos hk];have hk:k=.cell:=by simpa using hk
   rw[<- Heap.size_push h { cls:=.type "cell",data:=.cell none }] at hm;rcases Uj hm with hm | ⟨h1,h2,h3⟩
   ·rcases y0b.mp hm with e | hm
    ·cases e;exact .inr ⟨hk ▸ y0n,y0r _,_,pushCells_keeps r _ _ _ (y0w _ rfl),rfl⟩
    ·exact .inl hm
   ·rw[Heap.size_push] at h2;exact .inr ⟨y0c _ h1,Nat.le_of_succ_le h2,h3⟩
  ·rename_i hk;rw[if_neg hk];rcases Uj hm with hm | ⟨h1,h2,h3⟩
   ·exact .inl hm
   ·exact .inr ⟨y0c _ h1,h2,h3⟩
theorem Zae:∀{names:List (Str×NameKind)}{n:Nat}{acc:List (Str×Addr)}{p:Str×Addr},p∈acc->p∈cellsFrom n names acc
 | [],_,_,_,h=>h
 | (m,k)::r,n,acc,p,h=>by
  unfold cellsFrom;split
  ·exact Zae (y0c _ h)
  ·exact Zae h
theorem ZcB:∀{names:List (Str×NameKind)}{n:Nat}{acc:List (Str×Addr)}{x:Str},(x,.cell)∈names->∃c,(x,c)∈cellsFrom n names acc
 | (m,k)::r,n,acc,x,h=>by
  unfold cellsFrom;rcases y0b.mp h with e | h
  ·cases e;exact⟨n,Zae y0n⟩
  ·split
   ·exact ZcB h
   ·exact ZcB h
theorem ZcA:∀{names:List (Str×NameKind)}{h:Heap}{acc:List (Str×Addr)}{x y:Str}{c:Addr},(∀p∈acc,p.2<h.objs.size)->(∀x y c,(x,c)∈acc->(y,c)∈acc->x=y) ->
  (x,c)∈cellsFrom h.objs.size names acc->(y,c)∈cellsFrom h.objs.size names acc->x=y
 | [],_,_,_,_,_,_,hi,h1,h2=>hi _ _ _ h1 h2
 | (n,k)::r,h,acc,x,y,c,hl,hi,h1,h2=>by
  unfold cellsFrom at h1 h2;split at h1
  ·rename_i hk;rw[if_pos hk] at h2;rw[<- Heap.size_push h { cls:=.type "cell",data:=.cell none }] at h1 h2;refine ZcA (h:=h.push _) (fun p hp=>?_) (fun x y c a b=>?_) h1 h2
   ·rw[Heap.size_push];rcases y0b.mp hp with rfl | hp
    ·exact Nat.lt_succ_self _
    ·exact Nat.lt_succ_of_lt (hl p hp)
   ·rcases y0b.mp a with e | a <;> rcases y0b.mp b with e' | b
    ·cases e;cases e';rfl
    ·cases e;exact absurd (hl _ b) (Nat.lt_irrefl _)
    ·cases e';exact absurd (hl _ a) (Nat.lt_irrefl _)
    ·exact hi _ _ _ a b
  ·rename_i hk;rw[if_neg hk] at h2;exact ZcA hl hi h1 h2
def Zgk {M:Model}{A:Around}{E:Value->Shared->Prop}{s:Shared}{scope:Scope}{globals:Addr}{closure:List (Str×Addr)}{qual:Str}{func:Option Addr}{code:Value}{around:Env}{builtins:Addr}{Q:Env->Shared->Prop}
  (h:Q (newEnv scope s.heap.objs.size globals (cellsFrom (s.heap.objs.size+1) scope.names closure) qual func code (some around) builtins)
   { s with heap:=pushCells (s.heap.push { cls:=.type "dict",data:=.dict #[] }) scope.names }) :
  wpAny M A (newFunctionEnv scope globals closure [] qual func code (some around) builtins) Q E s:=by
 simp only[newFunctionEnv,Option.isSome_some,if_true];refine wpAny_bind (wpAny_alloc ?_);refine wpAny_bind (wpAny_layCells _ (fun n k c=>rfl) scope.names closure _ _ ?_);rw[show({ s with heap:=s.heap.push { cls:=.type "dict",data:=.dict #[] } }:Shared).heap.objs.size=s.heap.objs.size+1 from Heap.size_push ..];rw[List.forIn_nil];exact wpAny_bind (wpAny_pure (wpAny_pure h))
theorem Jh {sc:Scope}:∀{names:List (Str×NameKind)}{x:Str}{k:NameKind},
  (names.map fun(n,k)=>if (k==NameKind.free && sc.kind==.function && sc.names.lookup n==some .cell) then(n,NameKind.cell) else(n,k)).lookup x=some k ->
  ∃k',names.lookup x=some k'/\(k=k'\/(k'=.free/\k=.cell))
 | [],_,_,h=>by simp at h
 | (n,k₀)::r,x,k,h=>by
  have ih:=@Jh sc r x k;have h':List.lookup x ((if (k₀==NameKind.free && sc.kind==.function && sc.names.lookup n==some .cell)=true then(n,NameKind.cell) else(n,k₀))::(r.map _))=some k:=h;cases hx:x==n with
  | true =>
   simp only[List.lookup_cons,hx];by_cases hc:(k₀==NameKind.free && sc.kind==.function && sc.names.lookup n==some .cell)=true
   ·rw[if_pos hc] at h';simp only[List.lookup_cons,hx] at h';cases h';simp only[Bool.and_eq_true,beq_iff_eq] at hc;exact⟨k₀,rfl,.inr ⟨hc.1.1,rfl⟩⟩
   ·rw[if_neg hc] at h';simp only[List.lookup_cons,hx] at h';cases h';exact⟨_,rfl,.inl rfl⟩
  | false =>
   simp only[List.lookup_cons,hx];by_cases hc:(k₀==NameKind.free && sc.kind==.function && sc.names.lookup n==some .cell)=true
   ·rw[if_pos hc] at h';simp only[List.lookup_cons,hx] at h';exact ih h'
   ·rw[if_neg hc] at h';simp only[List.lookup_cons,hx] at h';exact ih h'
structure Jv (N:List Str)(sc scope:Scope)(own:List (Str×Nat)):Prop where
 kind:scope.kind=.function
 uniq:∀y∈scope.names,scope.names.lookup y.1=some y.2
 ix:∀p∈own,N[p.2]?=some p.1
 free:∀y∈scope.names,y.2=.free->sc.names.lookup y.1=some .cell\/sc.names.lookup y.1=some .free
 own:∀y∈scope.names,y.2=.local\/y.2=.cell->y.1∈own.map (·.1)\/y.1 ∉ N
noncomputable def wipe (σ:St):List Nat->St
 | []=>σ
 | v::vs=>(wipe σ vs).set v none
theorem UU (σ:St):∀vs:List Nat,(wipe σ vs).length=σ.length
 | []=>rfl
 | v::vs=>by unfold wipe;rw[List.length_set,UU σ vs]
theorem ZbI {σ:St}{i:Nat}{x:V}:∀{vs:List Nat},(wipe σ vs)[i]?=some (some x)->σ[i]?=some (some x)/\i ∉ vs
 | [],h=>⟨h,by simp⟩
 | v::vs,h=>by
  unfold wipe at h;by_cases hi:v=i
  ·subst hi;by_cases hv:v<(wipe σ vs).length
   ·rw[List.getElem?_set_self hv] at h;cases h
   ·rw[y0p (by simpa using hv)] at h;cases h
  ·rw[List.getElem?_set_ne hi] at h;obtain⟨h1,h2⟩:=ZbI h;exact⟨h1,by simp only[y0b,not_or];exact⟨fun e=>hi e.symm,h2⟩⟩
noncomputable abbrev Cx.blk (X:Cx)(s:Shared)(H:Hp)(scope:Scope)(cenv:Env)(fp:List Addr):Cx:={ X with s_0:=s,H_0:=H,env:=cenv,outer:=X.stack,ex:=fp,fn:=fun x=>scope.names.lookup x==some .cell,pn:=[],xe:=fun _ _=>False }
section
variable {X:Cx}{pins:List (Addr×Obj)}{σ:St}{H:Hp}{s:Shared}
def ZgB {scope:Scope}{own:List (Str×Nat)}{fp:List Addr}(I:Inv X pins σ H s)(ok:Jv X.N X.env.scope scope own)(hN:X.N.Nodup)(hfp:∀b∈fp,FpOk X pins H b/\b<s.heap.objs.size):
  Inv (X.blk s H scope (compEnvC scope (cellsFrom (s.heap.objs.size+1) scope.names (Ya X.env.cells scope.names [])) s.heap.objs.size X.env) fp) [] (wipe σ (own.map (·.2))) H { s with heap:=pushCells (s.heap.push { cls:=.type "dict",data:=.dict #[] }) scope.names }:=by
 have hfree:∀y∈scope.names,y.2=.free->∃c,X.env.cells.lookup y.1=some c:=fun y hy e=>by
  rcases ok.free y hy e with k | k
  ·exact I.ok.has _ (.inl k)
  ·exact I.ok.has _ (.inr k)
 generalize hcenv:compEnvC scope (cellsFrom (s.heap.objs.size+1) scope.names (Ya X.env.cells scope.names [])) s.heap.objs.size X.env=cenv;have kp:∀b o,s.heap.get? b=some o->(pushCells (s.heap.push { cls:=.type "dict",data:=.dict #[] }) scope.names).get? b=some o:=fun b o e=>pushCells_keeps _ _ _ _ (y0v _ e)
 have hL:cenv.locals=s.heap.objs.size:=by rw[<- hcenv];rfl
 have hcl:cenv.cells=cellsFrom (s.heap.objs.size+1) scope.names (Ya X.env.cells scope.names []):=by rw[<- hcenv];rfl
 have hsc:cenv.scope=relS scope X.env.scope:=by rw[<- hcenv];rfl
 rw[<- Heap.size_push s.heap { cls:=.type "dict",data:=.dict #[] }] at hcl;have cm:∀{y c},(y,c)∈Ya X.env.cells scope.names []->X.env.cells.lookup y=some c/\c<s.heap.objs.size:=fun {y c} hm=>by
  rcases Vc hm with hm | ⟨h1,rfl⟩
  ·cases hm
  ·obtain⟨c,hc⟩:=hfree _ h1 rfl;rw[hc];obtain⟨w,z⟩:=I.cell _ _ hc;exact⟨rfl,z.lt⟩
 have mem:∀{y c},cenv.cells.lookup y=some c->(X.env.cells.lookup y=some c/\c<s.heap.objs.size)\/(s.heap.objs.size+1<=c/\ZkY (pushCells (s.heap.push { cls:=.type "dict",data:=.dict #[] }) scope.names) c none):=fun {y c} e=>by
  rw[hcl] at e;rcases Uj (PySem.mem_of_lookup e) with hm | ⟨_,h2,h3⟩
  ·exact .inl (cm hm)
  ·rw[Heap.size_push] at h2;exact .inr ⟨h2,h3⟩
 have look:∀{y},scope.names.lookup y=some .free->∃c,cenv.cells.lookup y=some c/\X.env.cells.lookup y=some c:=fun {y} hl=>by
  have hy:(y,NameKind.free)∈scope.names:=PySem.mem_of_lookup hl;obtain⟨c',e'⟩:=ZaE (Zae (names:=scope.names) (n:=(s.heap.push { cls:=.type "dict",data:=.dict #[] }).objs.size) (Jp (cells:=X.env.cells) (acc:=[]) hy));rw[<- hcl] at e';refine⟨c',e',?_⟩;rw[hcl] at e';rcases Uj (PySem.mem_of_lookup e') with hm | ⟨h1,_,_⟩
  ·exact(cm hm).1
  ·have:=ok.uniq _ h1;rw[hl] at this;cases this
 have okB:(X.blk s H scope cenv fp).Ok:=by
  refine⟨I.ok.mod,by show cenv.scope.kind=_;rw[hsc];exact ok.kind,by show cenv.globals=_;rw[<- hcenv];exact I.ok.glob,by show cenv.builtins=_;rw[<- hcenv];exact I.ok.blt,by show s.heap.objs.size<=cenv.locals;rw[hL];exact y0r _,
   fun y z c e1 e2=>?_,fun y hy=>?_,fun y c z e=>?_,I.ok.hd,I.ok.frames,.inl rfl,fun b hb=>⟨?_,fun y c e z=>?_⟩,I.bs,y0q I.ok.bsz I.sz,fun b o e hb=>?_,fun b hb z=>?_,I.stack,I.stkFree⟩
  ·have e1:cenv.cells.lookup y=some c:=e1;have e2:cenv.cells.lookup z=some c:=e2;rw[hcl] at e1 e2;refine ZcA (fun p hp=>?_) (fun y z c a b=>I.ok.inj y z c (cm a).1 (cm b).1) (PySem.mem_of_lookup e1) (PySem.mem_of_lookup e2);rw[Heap.size_push];exact Nat.lt_succ_of_lt (cm (y:=p.1) (c:=p.2) hp).2
  ·show ∃c,cenv.cells.lookup y=some c
   have key:∀k,cenv.kindOf y=some k->(k=.cell\/k=.free)->∃c,cenv.cells.lookup y=some c:=fun k hk hk'=>by
    unfold Env.kindOf at hk;rw[hsc] at hk;obtain⟨k',e,r⟩:=Jh hk;have:k'=.cell\/k'=.free:=by
     rcases r with rfl | ⟨rfl,_⟩
     ·exact hk'
     ·exact .inr rfl
    rcases this with rfl | rfl
    ·obtain⟨c,hm⟩:=ZcB (n:=(s.heap.push { cls:=.type "dict",data:=.dict #[] }).objs.size) (acc:=Ya X.env.cells scope.names []) (PySem.mem_of_lookup e);obtain⟨c',e'⟩:=ZaE hm;exact⟨c',by rw[hcl];exact e'⟩
    ·obtain⟨c,h1,_⟩:=look e;exact⟨c,h1⟩
   rcases hy with hy | hy
   ·exact key _ hy (.inl rfl)
   ·exact key _ hy (.inr rfl)
  ·have z:(scope.names.lookup y==some NameKind.cell)=true:=z;have z:scope.names.lookup y=some .cell:=by simpa using z
   have e:cenv.cells.lookup y=some c:=e;rw[hcl] at e;rcases Uj (PySem.mem_of_lookup e) with hm | ⟨_,h2,_⟩
   ·rcases Vc hm with hm | ⟨h1,_⟩
    ·cases hm
    ·have q:=ok.uniq _ h1;rw[z] at q;cases q
   ·rw[Heap.size_push] at h2;exact Nat.le_of_succ_le h2
  ·show b≠cenv.locals;rw[hL];exact Nat.ne_of_lt (hfp b hb).2
  ·have e:cenv.cells.lookup y=some c:=e;rcases mem e with⟨h1,_⟩ | ⟨h1,_⟩
   ·exact(hfp b hb).1.2.2.2.2.1 y c h1 z
   ·have h2:s.heap.objs.size+1<=b:=by rw[<- z];exact h1
    exact absurd (y0t (hfp b hb).2 (Nat.le_of_succ_le h2)) (Nat.lt_irrefl _)
  ·rcases(hfp b hb).1.2.2.2.1 with z | z
   ·exact I.ok.noex b o e z
   ·exact absurd (y0t (y0x e) (y0q I.ok.bsz z)) (Nat.lt_irrefl _)
  ·rcases y0b.mp (I.stkSub b z) with z | z
   ·exact(hfp b hb).1.2.1 z
   ·exact(hfp b hb).1.2.2.1 z
 refine⟨okB,rfl,I.bare,Un.kept kp,⟨fun _=>none,?_,fun i y av e1 e2 e3=>?_⟩,fun y c e=>?_,?_,fun y c e=>?_,fun p hp=>?_,I.hok.kept kp,by rw[UU];exact I.len⟩
 ·show Heap.Ns _ cenv.locals _;rw[hL];exact Heap.Ns.keeps (Heap.Ns.new ..) fun b o e=>pushCells_keeps _ _ _ _ e
 ·obtain⟨e2,hne⟩:=ZbI e2;have hfr:scope.names.lookup y=some .free/\(cenv.kindOf y=some .cell\/cenv.kindOf y=some .free):=by
   have key:∀k,cenv.scope.names.lookup y=some k->k=.local\/k=.cell\/k=.free->scope.names.lookup y=some .free/\(cenv.kindOf y=some .cell\/cenv.kindOf y=some .free):=fun k hk hk'=>by
    have hk0:=hk;rw[hsc] at hk;obtain⟨k',e,r⟩:=Jh hk;have no:¬ (k'=.local\/k'=.cell):=fun hh=>by
     rcases ok.own _ (PySem.mem_of_lookup e) hh with e' | e'
     ·obtain⟨p,hp,hpy⟩:=y0k.mp e';have e3:=ok.ix p hp;have:p.1=y:=hpy;rw[this] at e3;exact hne (y0k.mpr ⟨p,hp,Zec hN e3 e1⟩)
     ·exact e' (y0f e1)
    rcases r with rfl | ⟨rfl,rfl⟩
    ·rcases hk' with rfl | rfl | rfl
     ·exact absurd (.inl rfl) no
     ·exact absurd (.inr rfl) no
     ·exact⟨e,.inr hk0⟩
    ·exact⟨e,.inl hk0⟩
   have e3:Vis cenv.scope y:=e3;rcases e3 with e3 | e3 | e3
   ·exact key _ e3 (.inl rfl)
   ·exact key _ e3 (.inr (.inl rfl))
   ·exact key _ e3 (.inr (.inr rfl))
  obtain⟨m,hn,hl⟩:=I.loc;have hvis:Vis X.env.scope y:=(ok.free _ (PySem.mem_of_lookup hfr.1) rfl).elim (fun k=>.inr (.inl k)) (fun k=>.inr (.inr k));obtain⟨w,r,q⟩:=hl i y av e1 e2 hvis;refine⟨w,r,.inr ⟨hfr.2,?_⟩⟩;obtain⟨c,h1,h2⟩:=look hfr.1;rcases q with⟨k,_⟩ | ⟨_,c',e',z⟩
  ·have k:X.env.scope.names.lookup y=some .local:=k;rcases ok.free _ (PySem.mem_of_lookup hfr.1) rfl with k' | k' <;> rw[show X.env.scope.names.lookup y=_ from k'] at k <;> cases k
  ·rw[h2] at e';cases e';exact⟨c,h1,z.keeps kp⟩
 ·have e:cenv.cells.lookup y=some c:=e;rcases mem e with⟨h1,_⟩ | ⟨_,z⟩
  ·obtain⟨w,z⟩:=I.cell y c h1;exact⟨w,z.keeps kp⟩
  ·exact⟨_,z⟩
 ·show H cenv.locals=none;rw[hL];exact I.hok.fresh (y0r _)
 ·have e:cenv.cells.lookup y=some c:=e;rcases mem e with⟨h1,_⟩ | ⟨h1,_⟩
  ·exact I.freeC y c h1
  ·exact I.hok.fresh (Nat.le_of_succ_le h1)
 ·exact absurd (show p∈([]:List (Addr×Obj))++[] from hp) (by simp)
def ZmZ {E:Value->Shared->Prop}{D:Addr}{xs:List V}{y:V}{v:Value}{Q:Value->Shared->Prop}(I:Inv X pins σ H s)(hD:H D=some (.lst xs))(hz:xs.length<sizeLine)(r:RelV y v)
  (h:∀s',Inv X pins σ (upd H D (.lst (xs++[y]))) s'->Q .none s'):wpAny (model X.prog X.w) X.A (call (.builtin "list.append") [.ref D,v]) Q E s:=by
 obtain⟨hz',its,n,ri,e⟩:=I.hok D _ hD;have hl:=ri.length;refine append_at (hsz:=by rw[List.size_toArray];omega) e fun h' sb ho'=>?_
 refine h { s with heap:=h' } (I.write (t':=s.toks) (by rw[hD];trivial) (.inl rfl) (fun b u hb q=>(sb.2 b hb).trans q) ⟨_,ho'⟩ ⟨by rw[y01];exact hz,its++[v],n+1,ri.append (.cons r .nil),?_⟩);rw[ho'];simp
def PTs (X:Cx)(ifs:List Expr)(t:TT):Prop :=
 ∀(pins:List (Addr×Obj)) (s:Shared) (σ:St) (H:Hp) (Q:Bool->Hp->Prop),Inv X pins σ H s->t σ H Q ->
  wpAny (model X.prog X.w) X.A (forIn ifs true fun c r=>if r=true then do let ok <- isTrue c X.env (eval c X.env);pure (ForInStep.yield ok) else pure (ForInStep.yield r)) (TP X pins σ Q) X.xe s
def tYes:TT:=fun _ H Q=>Q true H
def WB:PTs X [] tYes:=fun _ _ _ H _ I h=>wpAny_tests_nil ⟨H,I,h⟩
def Zld {c:Expr}{t:TT}(h:PT X c t):PTs X [c] t:=fun pins s σ H Q I hw=>wpAny_tests_one (h pins s σ H Q I hw)
end
def thnF {α:Type}{t:Sem α}{Q Q':α->Shared->Prop}{M:Model}{A:Around}{E:Value->Shared->Prop}{s:Shared}(h:wpAny M A t Q (fun _ _=>False) s)(hQ:∀a s,Q a s->Q' a s):wpAny M A t Q' E s:=wpAny_mono h hQ fun _ _ z=>False.elim z
def Zfx {prog:Program}{w:World}{A:Around}{R:Result->Shared->Prop}{s:Shared}{elt target iter:Expr}{ifs:List Expr}{scope:Scope}{pos:Pos}{it acc:Value}{env:Env}(I:Nat->Shared->Prop)
  (turn:∀n s,I n s->wpAny (model prog w) A (pyNext it) (fun r s₁=>match r with
   | none=>R (.ok .next) s₁
   | some v=>wpAny (model prog w) A (letOwnedTupleGo target it v) (fun _ s₁'=>wpAny (model prog w) A (assign target env v) (fun _ s₂ =>
     wpAny (model prog w) A (forIn ifs true fun c r=>if r=true then do let ok <- isTrue c env (eval c env);pure (ForInStep.yield ok) else pure (ForInStep.yield r)) (fun ok s₃ =>
      if ok=true then wpAny (model prog w) A (eval elt env) (fun x s₄ =>
       wpAny (model prog w) A (call (.builtin "list.append") [acc,x]) (fun _ s₅=>∃m,m<n/\I m s₅) (notedBy (model prog w) A env fun e s'=>R (.error e) s') s₄) (notedBy (model prog w) A env fun e s'=>R (.error e) s') s₃
      else ∃m,m<n/\I m s₃) (notedBy (model prog w) A env fun e s'=>R (.error e) s') s₂) (notedBy (model prog w) A env fun e s'=>R (.error e) s') s₁') (notedBy (model prog w) A env fun e s'=>R (.error e) s') s₁) (notedBy (model prog w) A env fun e s'=>R (.error e) s') s)
  (n:Nat) (h:I n s) :
  codeAny (model prog w) A (.compLoop (.ListComp elt [⟨target,iter,ifs,0⟩] scope pos) 0 it acc env) R s:=by
 refine codeAny_loop rfl I (fun n s hI=>?_) n h;show wpAny _ A ((compTurn (.ListComp elt [⟨target,iter,ifs,0⟩] scope pos) 0 it acc env).onRaise (fun x=>do noteFrame x env;theTreesLotGoes x)) _ _ s;refine wpAny_noted ?_;rw[compTurn_list];refine wpAny_bind (wpAny_standAt (wpAny_bind (wpAny_mono (turn n s hI) (fun r s₁ h₁=>?_) fun _ _ h'=>h')));cases r with
 | none=>exact wpAny_pure h₁
 | some v =>
  refine wpAny_bind (wpAny_mono h₁ (fun _ s₁' h₁'=>?_) fun _ _ h'=>h');refine wpAny_bind (wpAny_mono h₁' (fun _ s₂ h₂=>wpAny_bind (wpAny_mono h₂ (fun ok s₃ h₃=>?_) fun _ _ h'=>h')) fun _ _ h'=>h');cases ok with
  | false=>exact wpAny_pure ⟨rfl,h₃⟩
  | true =>
   exact wpAny_bind (wpAny_bind (wpAny_mono h₃ (fun x s₄ h₄=>wpAny_bind (wpAny_mono h₄ (fun _ s₅ h₅=>wpAny_pure (wpAny_pure ⟨rfl,h₅⟩)) fun _ _ h'=>h')) fun _ _ h'=>h'))
section
variable {X:Cx}
def tLc (wi:TI)(g:TG)(tt:TT)(te:TE)(vs:List Nat):TE:=fun σ H Q=>wi σ H fun J H1=>∀D,H1 D=none->∃W:Nat->Nat->Hp->Prop,(∃m,W 0 m (upd H1 D (.lst [])))/\∀i m H,W i m H ->
 (J.stop i H/\Q (.ref D) H)\/(J.go i H/\∃Nx:Hp->Prop,(∀H',Nx H'->∃m',m' < m/\W (i+1) m' H')/\∀x H',J.yld i H x H'->g x (wipe σ vs) H' fun σ2 H2=>wipe σ2 vs=wipe σ vs/\tt σ2 H2 fun b H3 =>
  if b=true then te σ2 H3 fun y H4=>∃acc,H4 D=some (.lst acc)/\acc.length<sizeLine/\Nx (upd H4 D (.lst (acc++[y]))) else Nx H3)
def ZiM {pins:List (Addr×Obj)}{s:Shared}{σ:St}{H:Hp}{Q:VK}{elt tg iter:Expr}{ifs:List Expr}{scope:Scope}{own:List (Str×Nat)}{pos pos':Pos}{wi:TI}{g:TG}{tt:TT}{te:TE}{use:Option (Value->Sem Unit)}{Qf:Value->Shared->Prop}
  (hc:X.calm=true) (hN:X.N.Nodup) (I:Inv X pins σ H s) (hi:PI X tg iter wi) (ok:Jv X.N X.env.scope scope own)
  (hg:∀(s:Shared) (H:Hp) (C:Addr) (cl:List (Str×Addr)) (fp:List Addr),PG (X.blk s H scope (compEnvC scope cl C X.env) fp) tg g) (ht:∀(s:Shared) (H:Hp) (C:Addr) (cl:List (Str×Addr)) (fp:List Addr),PTs (X.blk s H scope (compEnvC scope cl C X.env) fp) ifs tt)
  (he:∀(s:Shared) (H:Hp) (C:Addr) (cl:List (Str×Addr)) (fp:List Addr),PE (X.blk s H scope (compEnvC scope cl C X.env) fp) elt te) (hs:∀x,foldedSetIterable iter X.env x=pure x)
  (h:tLc wi g tt te (own.map (·.2)) σ H Q)
  (hRR:∀D C s' m H',Inv X pins σ H' s'->Q (.ref D) H'->s'.heap.Ns C m->FpOk X pins H' C->compPost (model X.prog X.w) X.A X.xe use Qf (.ref D) C (.ok .next) s') :
  wpAny (model X.prog X.w) X.A (comprehension (.ListComp elt [⟨tg,iter,ifs,0⟩] scope pos) scope X.env pos' (newList []) false (eval iter X.env) use) Qf X.xe s:=by
 have hfree:∀y∈scope.names,y.2=.free->∃c,X.env.cells.lookup y.1=some c:=fun y hy e=>by
  rcases ok.free y hy e with k | k
  ·exact I.ok.has _ (.inl k)
  ·exact I.ok.has _ (.inr k)
 refine wpAny_comprehension_free (use:=use) rfl hs (Zh4 hfree) ok.kind (fun y hy e=>by rw[ok.uniq y hy,e])
  (thn (hi pins s σ H _ I h) fun xv s1 hx=>thn hx fun itv s2 h2=>?_)
 obtain⟨it,fp,tn,J,H2,e,I2,T,st2,f2,q⟩:=h2;subst e;refine wpAny_newObj_type (Zgk ?_) (by show 0<=sizeLine;decide);generalize hD:s2.heap.objs.size=D;have hDn:H2 D=none:=I2.hok.fresh (Nat.le_of_eq hD);obtain⟨W,⟨m0,w0⟩,turn⟩:=q D hDn
 -- the new list
 generalize hs3:({ s2 with heap:=s2.heap.push { cls:=.type "list",data:=.seq ([]:List Value).toArray } }:Shared)=s3;have I3:Inv X pins σ (upd H2 D (.lst [])) s3:=by
  rw[<- hs3];refine I2.laid (t':=s2.toks) (fun b o e=>y0v _ e) (Nat.le_of_eq hD) ⟨y0u _,[],0,.nil,?_⟩;rw[<- hD];exact y0w _ rfl
 have h3:s3.heap=s2.heap.push { cls:=.type "list",data:=.seq ([]:List Value).toArray }:=by rw[<- hs3]
 have sz:∀b∈fp,b<s2.heap.objs.size:=fun b hb=>by
  obtain⟨o,e,_⟩:=T.obj _ _ st2 b hb;exact y0x e
 have f3:∀b∈fp,FpOk X pins (upd H2 D (.lst [])) b/\b<s3.heap.objs.size:=fun b hb=>by
  have hlt:=sz b hb;refine⟨⟨?_,(f2 b hb).2⟩,by rw[h3,Heap.size_push];exact Nat.lt_succ_of_lt hlt⟩;rw[Zk (by rw[<- hD];exact Nat.ne_of_lt hlt)];exact(f2 b hb).1
 have st3:tn 0 s3.heap:=T.keep _ _ _ st2 fun b _ o e=>by rw[h3];exact y0v _ e
 have I4:=ZgB I3 ok hN f3;have pg:=hg s3 (upd H2 D (.lst [])) s3.heap.objs.size (cellsFrom (s3.heap.objs.size+1) scope.names (Ya X.env.cells scope.names [])) fp;have pt:=ht s3 (upd H2 D (.lst [])) s3.heap.objs.size (cellsFrom (s3.heap.objs.size+1) scope.names (Ya X.env.cells scope.names [])) fp;have pe:=he s3 (upd H2 D (.lst [])) s3.heap.objs.size (cellsFrom (s3.heap.objs.size+1) scope.names (Ya X.env.cells scope.names [])) fp;show codeAny _ _ (.compStart (.ListComp elt [⟨tg,iter,ifs,0⟩] scope pos) 0 (.ref it) (.ref D) (compEnvC scope (cellsFrom (s3.heap.objs.size+1) scope.names (Ya X.env.cells scope.names [])) s3.heap.objs.size X.env)) (compPost (model X.prog X.w) X.A X.xe use Qf (.ref D) s3.heap.objs.size) { s3 with heap:=pushCells (s3.heap.push { cls:=.type "dict",data:=.dict #[] }) scope.names };have nfp:∀b∈fp,(upd H2 D (.lst [])) b=none:=fun b hb=>(f3 b hb).1.1
 generalize hce:compEnvC scope (cellsFrom (s3.heap.objs.size+1) scope.names (Ya X.env.cells scope.names [])) s3.heap.objs.size X.env=ce at I4 pg pt pe ⊢;have cL:ce.locals=s3.heap.objs.size:=by subst hce;rfl
 generalize hH3:upd H2 D (.lst [])=H3 at I3 I4 pg pt pe w0 nfp f3;generalize hs4:({ s3 with heap:=pushCells (s3.heap.push { cls:=.type "dict",data:=.dict #[] }) scope.names }:Shared)=s4 at I4 ⊢;have st4:tn 0 s4.heap:=T.keep _ _ _ st3 fun b _ o e=>by rw[<- hs4];exact pushCells_keeps _ _ _ _ (y0v _ e)
 have stat:∀{σ':St}{H':Hp}{s':Shared},Inv (X.blk s3 H3 scope ce fp) [] σ' H' s'->(∀b∈fp,H' b=none)->∀b∈fp,FpOk (X.blk s3 H3 scope ce fp) [] H' b:=fun {σ' H' s'} I' hn b hb =>
  ⟨hn b hb,(I'.ok.exf b hb).1,I'.ok.exfs b hb,.inl hb,fun x c e=>(I'.ok.exf b hb).2 x c e,fun p hp=>absurd (show p∈([]:List (Addr×Obj))++[] from hp) (by simp)⟩
 have loop:codeAny (model X.prog X.w) X.A (.compLoop (.ListComp elt [⟨tg,iter,ifs,0⟩] scope pos) 0 (.ref it) (.ref D) ce) (compPost (model X.prog X.w) X.A X.xe use Qf (.ref D) s3.heap.objs.size) s4:=by
  refine Zfx (fun n s'=>∃i H',Inv (X.blk s3 H3 scope ce fp) [] (wipe σ (own.map (·.2))) H' s'/\tn i s'.heap/\(∀b∈fp,H' b=none)/\W i n H') ?_ m0 ⟨0,H3,I4,st4,nfp,w0⟩;rintro n s5 ⟨i,H5,I5,st5,n5,w5⟩;rcases turn i n H5 w5 with⟨stop,qq⟩ | ⟨go,Nx,hNx,step⟩
  ·have td:=T.done (X.blk s3 H3 scope ce fp) rfl rfl rfl hc i [] s5 _ H5 (fun _ _=>False) I5 (stat I5 n5) st5 stop;refine thnF td fun r s6 ⟨hr,I6⟩=>?_
   subst hr
   -- back in the def's context
   have I7:Inv X pins σ H5 s6:=I3.call' (ch:=fp) I6.os I6.base I6.hok I6.bare fun b hb=>⟨(f3 b hb).1.2.2.2.1,(f3 b hb).1.2.1,(f3 b hb).1.2.2.2.2.1,(f3 b hb).1.2.2.2.2.2⟩
   have nC:H5 s3.heap.objs.size=none:=by
    have z:H5 ce.locals=none:=I6.free;rw[cL] at z;exact z
   obtain⟨m,hn,_⟩:=I6.loc;have hn:s6.heap.Ns ce.locals m:=hn;rw[cL] at hn;exact hRR D s3.heap.objs.size s6 m H5 I7 qq hn (I3.fpOk (y0r _) nC)
  ·have ti:=T.item (X.blk s3 H3 scope ce fp) rfl rfl rfl hc i [] s5 _ H5 (fun _ _=>False) I5 (stat I5 n5) st5 go;refine thnF ti fun r s6 ⟨u,hr,h6⟩=>?_
   subst hr;refine thnF h6 fun _ s7 ⟨x,H7,I7,r7,y7,st7,n7⟩=>?_
   have I7':=I7.pinned (stat I7 n7) (T.obj _ _ st7);refine thnF (pg _ s7 _ H7 x u _ I7' r7 (step x H7 y7)) fun _ s8 ⟨σ8,H8,I8,hw8,q8⟩=>?_
   refine thnF (pt _ s8 σ8 H8 _ I8 q8) fun b s9 ⟨H9,I9,q9⟩=>?_
   -- the turn's end
   have fin:∀{s':Shared}{H':Hp},Inv (X.blk s3 H3 scope ce fp) ([]++ZeU fp s7.heap) σ8 H' s'->Nx H'->∃m,m<n/\∃i H',Inv (X.blk s3 H3 scope ce fp) [] (wipe σ (own.map (·.2))) H' s'/\tn i s'.heap/\(∀b∈fp,H' b=none)/\W i m H':=fun {s' H'} I' nx=>by
    obtain⟨m',hm,w'⟩:=hNx H' nx;have pin':∀b∈fp,∀o,s7.heap.get? b=some o->s'.heap.get? b=some o/\H' b=none:=fun b hb o e =>
     let z:=I'.pin (b,o) (List.mem_append_right _ (List.mem_append_right _ (ZaD hb e)))
     ⟨z.1,z.2.1⟩
    have hl:(wipe σ (own.map (·.2))).length=σ8.length:=by rw[<- hw8,UU]
    refine⟨m',hm,i+1,H',(I'.unpinned (pins:=[])).weak hl (fun j v e=>?_),T.keep _ _ _ st7 fun b hb o e=>(pin' b hb o e).1,fun b hb=>?_,w'⟩
    ·rw[<- hw8] at e;exact(ZbI e).1
    ·obtain⟨o,e,_⟩:=T.obj _ _ st7 b hb;exact(pin' b hb o e).2
   cases b with
   | false =>
    simp only[Bool.false_eq_true,if_false] at q9 ⊢;exact fin I9 q9
   | true =>
    simp only[if_true] at q9 ⊢;refine thnF (pe _ s9 σ8 H9 _ I9 q9) fun z s10 ⟨yv,H10,I10,r10,acc,hD10,hz10,nx⟩=>?_
    exact ZmZ (X:=X.blk s3 H3 scope ce fp) I10 hD10 hz10 r10 fun s11 I11=>fin I11 nx
 exact codeAny_compStart_list loop (T.self X.A 0 _ _ _ st4 loop)
def ZhK {elt tg iter:Expr}{ifs:List Expr}{scope:Scope}{own:List (Str×Nat)}{pos:Pos}{wi:TI}{g:TG}{tt:TT}{te:TE}(hc:X.calm=true)(hN:X.N.Nodup)(hi:PI X tg iter wi)(ok:Jv X.N X.env.scope scope own)
  (hg:∀(s:Shared) (H:Hp) (C:Addr) (cl:List (Str×Addr)) (fp:List Addr),PG (X.blk s H scope (compEnvC scope cl C X.env) fp) tg g) (ht:∀(s:Shared) (H:Hp) (C:Addr) (cl:List (Str×Addr)) (fp:List Addr),PTs (X.blk s H scope (compEnvC scope cl C X.env) fp) ifs tt)
  (he:∀(s:Shared) (H:Hp) (C:Addr) (cl:List (Str×Addr)) (fp:List Addr),PE (X.blk s H scope (compEnvC scope cl C X.env) fp) elt te) (hs:autoParam (∀x,foldedSetIterable iter X.env x=pure x) q_4) :
  PE X (.ListComp elt [⟨tg,iter,ifs,0⟩] scope pos) (tLc wi g tt te (own.map (·.2))):=by
 intro pins s σ H Q I h;rw[eval_ListComp];refine ZiM hc hN I hi ok hg ht he hs h fun D C s' m H' I' q hn f=>⟨m,hn,fun h'' sb=>?_⟩
 obtain⟨f0,f1,f2,f3,f4,f5⟩:=f;exact⟨.ref D,H',I'.turned (t':=s'.toks) (fun b o hb e=>(sb.2 b hb).trans e) f0 f1 f3 f4 f5,rfl,q⟩
def JV {i:Nat}{y:Str}{py:Pos}{elt tg iter:Expr}{ifs:List Expr}{scope:Scope}{own:List (Str×Nat)}{pos spos:Pos}{wi:TI}{g:TG}{tt:TT}{te:TE}(hc:X.calm=true)(hN:X.N.Nodup)(hy:X.N[i]?=some y)(hyl:X.env.scope.names.lookup y=some .local)
  (hsw:swapsWith (.ListComp elt [⟨tg,iter,ifs,0⟩] scope pos) (some (.Name y py)) spos.line X.env=pure true) (hi:PI X tg iter wi) (ok:Jv X.N X.env.scope scope own)
  (hg:∀(s:Shared) (H:Hp) (C:Addr) (cl:List (Str×Addr)) (fp:List Addr),PG (X.blk s H scope (compEnvC scope cl C X.env) fp) tg g) (ht:∀(s:Shared) (H:Hp) (C:Addr) (cl:List (Str×Addr)) (fp:List Addr),PTs (X.blk s H scope (compEnvC scope cl C X.env) fp) ifs tt)
  (he:∀(s:Shared) (H:Hp) (C:Addr) (cl:List (Str×Addr)) (fp:List Addr),PE (X.blk s H scope (compEnvC scope cl C X.env) fp) elt te) (hs:autoParam (∀x,foldedSetIterable iter X.env x=pure x) q_4) :
  PS X (.Assign [.Name y py] (.ListComp elt [⟨tg,iter,ifs,0⟩] scope pos) spos) (tAsg (tLc wi g tt te (own.map (·.2))) (VB i)):=by
 intro pins s σ H D I h;rw[exec_Assign_Name_used _ _ _ _ hsw];refine wpAny_bind (wpAny_standAt (wpAny_bind ?_));show wpAny _ X.A (do let _ <- comprehension (.ListComp elt [⟨tg,iter,ifs,0⟩] scope pos) scope X.env (firstIterPos [⟨tg,iter,ifs,0⟩] pos) (newList []) false (eval iter X.env) (some (assign (.Name y py) X.env))) _ _ s;have h:tLc wi g tt te (own.map (·.2)) σ H (fun x H1=>VB i x σ H1 D.nx):=h;refine wpAny_bind (thn (ZiM (Qf:=fun _ s'=>SP X pins D .next s') hc hN I hi ok hg ht he hs h fun L C s' m H' I' q hn f=>?_) fun _ s' hq=>wpAny_pure (wpAny_pure hq));show wpAny _ _ (assign (.Name y py) X.env (.ref L)) _ _ _;refine wpAny_assign_Name (ZeC (v:=V.ref L) I' hN hy (.inl hyl) rfl (fun s2 I2 ⟨a,sb,ha⟩=>?_) (.inr hyl));obtain⟨f0,f1,f2,f3,f4,f5⟩:=f;have haC:C≠a:=by
  rcases ha with z | z
  ·rw[z];exact f1
  ·exact fun e=>f4 y a z e.symm
 refine⟨m,hn.sameBut sb haC,fun h3 sb3=>?_⟩;exact⟨_,H',I2.turned (t':=s2.toks) (fun b o hb e=>(sb3.2 b hb).trans e) f0 f1 f3 f4 f5,q⟩
def ZbN {elt:Expr}{gs:List Comprehension}{scope:Scope}{pos py:Pos}{y:Str}{l:Nat}{env:Env}(hk:env.scope.kind=.function)(hy:env.scope.names.lookup y=some .local)(hl:(py.line==pos.line)=true)
  (ha:(scope.names.any fun(n,k)=>n==y && (k==.local || k==.cell))=false):swapsWith (.ListComp elt gs scope pos) (some (.Name y py)) l env=pure true:=by
 have ky:env.kindOf y=some .local:=hy;have hb:env.blockKind=.function:=by unfold Env.blockKind;rw[hk];rfl
 have hl:(py.line==(Expr.ListComp elt gs scope pos).pos.line)=true:=hl;unfold swapsWith;simp only[hb,ky,ha,hl];rfl
end
def J6 {lo:Int}{n:Nat}{g:TG}{tt:TT}{te:TE}{vs:List Nat}{σ:St}{H1:Hp}{D:Addr}{Qd:Hp->Prop}(Pv:Nat->Hp->Prop)(h0:Pv 0 (upd H1 D (.lst [])))
  (hs:∀i H,i<n->Pv i H->g (.int (lo+i)) (wipe σ vs) H fun σ2 H2=>wipe σ2 vs=wipe σ vs/\tt σ2 H2 fun b H3 =>
   if b=true then te σ2 H3 fun y H4=>∃acc,H4 D=some (.lst acc)/\acc.length<sizeLine/\Pv (i+1) (upd H4 D (.lst (acc++[y]))) else Pv (i+1) H3) (hd:∀H,Pv n H->Qd H) :
  ∃W:Nat->Nat->Hp->Prop,(∃m,W 0 m (upd H1 D (.lst [])))/\∀i m H,W i m H ->
   ((Itr lo n).stop i H/\Qd H)\/((Itr lo n).go i H/\∃Nx:Hp->Prop,(∀H',Nx H'->∃m',m' < m/\W (i+1) m' H')/\∀x H',(Itr lo n).yld i H x H'->g x (wipe σ vs) H' fun σ2 H2=>wipe σ2 vs=wipe σ vs/\tt σ2 H2 fun b H3 =>
    if b=true then te σ2 H3 fun y H4=>∃acc,H4 D=some (.lst acc)/\acc.length<sizeLine/\Nx (upd H4 D (.lst (acc++[y]))) else Nx H3):=by
 refine⟨fun i m H=>m=n-i/\i<=n/\Pv i H,⟨n,by simp,y0u _,h0⟩,?_⟩;rintro i m H ⟨rfl,hi,p⟩;by_cases hlt:i<n
 ·refine .inr ⟨hlt,Pv (i+1),fun H' p'=>⟨n-(i+1),by omega,rfl,hlt,p'⟩,fun x H' y=>?_⟩;obtain⟨e,y⟩:=y;subst e y;exact hs i _ hlt p
 ·have e:i=n:=by omega
  subst e;exact .inl ⟨y0r _,hd H p⟩
def Zcq {K:Frag}{a:Addr}{xs:List V}{g:TG}{tt:TT}{te:TE}{vs:List Nat}{σ:St}{H1:Hp}{D:Addr}{Qd:Hp->Prop}(Pv:Nat->Hp->Prop)(h0:Pv 0 (upd H1 D (.lst [])))(hl:∀i H,i<=xs.length->Pv i H->SqL K H a xs)
  (hs:∀i x H,xs[i]?=some x->Pv i H->g x (wipe σ vs) H fun σ2 H2=>wipe σ2 vs=wipe σ vs/\tt σ2 H2 fun b H3 =>
   if b=true then te σ2 H3 fun y H4=>∃acc,H4 D=some (.lst acc)/\acc.length<sizeLine/\Pv (i+1) (upd H4 D (.lst (acc++[y]))) else Pv (i+1) H3) (hd:∀H,Pv xs.length H->Qd H) :
  ∃W:Nat->Nat->Hp->Prop,(∃m,W 0 m (upd H1 D (.lst [])))/\∀i m H,W i m H ->
   ((Itl K a).stop i H/\Qd H)\/((Itl K a).go i H/\∃Nx:Hp->Prop,(∀H',Nx H'->∃m',m' < m/\W (i+1) m' H')/\∀x H',(Itl K a).yld i H x H'->g x (wipe σ vs) H' fun σ2 H2=>wipe σ2 vs=wipe σ vs/\tt σ2 H2 fun b H3 =>
    if b=true then te σ2 H3 fun y H4=>∃acc,H4 D=some (.lst acc)/\acc.length<sizeLine/\Nx (upd H4 D (.lst (acc++[y]))) else Nx H3):=by
 refine⟨fun i m H=>m=xs.length-i/\i<=xs.length/\Pv i H,⟨xs.length,by simp,y0u _,h0⟩,?_⟩;rintro i m H ⟨rfl,hi,p⟩;have q:=hl i H hi p;by_cases hlt:i<xs.length
 ·refine .inr ⟨⟨xs,xs[i],q,by simp[hlt]⟩,Pv (i+1),fun H' p'=>⟨xs.length-(i+1),by omega,rfl,hlt,p'⟩,fun x H' y=>?_⟩;obtain⟨e,y⟩:=y;subst e;exact hs i x _ (y xs q) p
 ·have e:i=xs.length:=by omega
  subst e;exact .inl ⟨⟨xs,q,y0r _⟩,hd H p⟩
def Znc {P:Program}{w:World}{k:Key}{u:Value}(r:RelV (kV k) u):(V7 P w).is k u=true:=by
 cases k with
 | inl i=>obtain⟨t,e⟩:=(show ∃t,u=Value.int i t from r);subst e;exact Zgm P w i t
 | inr x=>obtain⟨t,e⟩:=(show ∃t,u=Value.str x t from r);subst e;exact Zgl P w x t
theorem Zfn {P:Program}{w:World}:∀{ks:List Key}{us:List Value},Vals (ks.map kV) us->ItemsAre (V7 P w) ks us
 | [],_,r=>by rw[List.map_nil] at r;cases r;exact .nil
 | k::ks,_,r=>by
  rw[y05] at r;cases r with
  | cons h t=>exact .cons (Znc h) (Zfn t)
section
variable {P:Program}{w:World}{H:Hp}{h:Heap}{a:Addr}
def ZnH {ks:List Key}(ok:HOk P w H h)(e:H a=some (.tup (ks.map kV))):(tupleKind (V7 P w)).is h ks a:=by
 obtain⟨_,its,r,o,h1,h2,n,h3⟩:=(show Wd P w H h a (.tup (ks.map kV)) from ok a _ e);exact⟨o,its.toArray,n,h1,h2,h3,by simpa using Zfn r⟩
end
section
variable {X:Cx}{pins:List (Addr×Obj)}{σ:St}{H:Hp}{s:Shared}{h':Heap}
theorem Inv.turnedNew {t':Nat}{ch:List Addr}{T:Addr}{ob:HO}(I:Inv X pins σ H s)(k:∀b o,b ∉ ch->s.heap.get? b=some o->h'.get? b=some o)(hf:∀b∈ch,FpOk X pins H b)(hT:s.heap.objs.size<=T)
  (new:Wd X.prog X.w (upd H T ob) h' T ob):Inv X pins σ (upd H T ob) { s with heap:=h',toks:=t' }:=by
 have hn:H T=none:=I.hok.fresh hT;have nit:∀b u,H b=some u->b ∉ ch:=fun b u e z=>by
  have q:=(hf b z).1;rw[q] at e;cases e
 refine I.step (g':=s.gens) (d':=s.drawn) (ch:=ch) (fun b hb=>⟨(hf b hb).2.2.2.1,(hf b hb).2.1,(hf b hb).2.2.2.2.1,(hf b hb).2.2.2.2.2⟩) (fun b o _ _ hc e _=>k b o hc e) (fun b o _ _ hc e _=>⟨o.slots,k b o hc e⟩)
  (fun b o _ e n=>?_) (fun b o hc e=>⟨o,k b o hc e⟩) (fun b xs e=>?_) (fun b o u e=>?_) (fun b ps e=>⟨#[],?_⟩) (fun m hm=>?_) (fun b u e=>?_) I.bare
 ·rw[Zk (Nat.ne_of_lt (y0t (y0x e) hT))];exact n
 ·rw[Zk (Zf e hn)];exact e
 ·rw[Zk (Zf e hn)];exact e
 ·rw[Zk (Zf e hn),e];simp
 ·obtain⟨o,es,ep,ho,r⟩:=hm;exact⟨o,es,ep,k _ o (fun z=>(hf _ z).2.1 rfl) ho,r⟩
 ·by_cases hb:b=T
  ·subst hb;rw[Zd] at e;cases e;exact new
  ·rw[Zk hb] at e;refine(I.hok b u e).stay (fun c v hc q=>k c v ?_ q) (fun c q=>by rw[Zk (Zf q hn)];exact q) fun c xs q=>by rw[Zk (Zf q hn)];exact q
   rcases hc with z | z
   ·rw[z];exact nit b u e
   ·exact nit c _ z
end
section
variable {X:Cx}
def Ziy {tg:Expr}{pins:List (Addr×Obj)}{σ:St}{H:Hp}{s:Shared}{R:It->Hp->Prop}{J:It}{tn:Nat->Heap->Prop}{tk:Nat}(I:Inv X pins σ H s)(o:Obj)
  (T:Turn X.prog X.w X.K tg J [s.heap.objs.size] s.heap.objs.size tn) (st:tn 0 (s.heap.push o)) (q:R J H):PIE X pins σ tg R (.ref s.heap.objs.size) { s with heap:=s.heap.push o,toks:=tk }:=by
 refine⟨s.heap.objs.size,[s.heap.objs.size],tn,J,H,rfl,I.kept fun b ob e=>y0v _ e,T,st,fun b hb=>?_,q⟩;have e:b=s.heap.objs.size:=by simpa using hb
 subst e;exact I.fpOk (y0r _) (I.hok.fresh (y0r _))
end
noncomputable def Itc (lo c:Int)(n:Nat):It:=⟨fun i _=>i<n,fun i H x H'=>H'=H/\x=.int (lo+(i:Nat) * c),fun i _=>n<=i⟩
def ZfR {P:Program}{w:World}{K:Frag}{tg:Expr}(it:Addr)(lo c:Int)(n:Nat):Turn P w K tg (Itc lo c n) [it] it (fun i h=>IsRangeIter h it (lo+(i:Nat) * c) ((n:Int)-(i:Nat)) c) where
 mem:=by simp
 obj:=fun i h st b hb=>by
  have e:b=it:=by simpa using hb
  subst e;exact⟨_,st,fun v z=>nomatch z⟩
 keep:=fun i h h' st k=>k it (by simp) _ st
 item:=by
  intro X hP hw hK hc i pins s σ H E I hf st hg;subst hP hw hK;obtain⟨f0,f1,f2,f3,f4,f5⟩:=hf it (by simp);have W:=Walks.range (prog:=X.prog) (w:=X.w) (I.ok.hd hc) it lo c n;refine W.item i s _ _ hg st fun v h' tk hv st' kk=>?_
  obtain⟨t,rfl⟩:=hv;have I1:Inv X pins σ H { s with heap:=h',toks:=tk }:=I.turned (fun b o hb e=>kk b o (by simpa using hb) e) f0 f1 f3 f4 f5;exact⟨_,rfl,ZiY (s:={ s with heap:=h',toks:=tk }) (n:="range_iterator") st' rfl rfl (by decide) ⟨.int (lo+(i:Nat) * c),H,I1,⟨t,rfl⟩,⟨rfl,rfl⟩,st',fun b hb=>(hf b hb).1⟩⟩
 done:=by
  intro X hP hw hK hc i pins s σ H E I hf st hg;subst hP hw hK;obtain⟨f0,f1,f2,f3,f4,f5⟩:=hf it (by simp);exact wpAny_pyNext_range_end (I.ok.hd hc) st (by have:n<=i:=hg;omega) fun h' eb=>⟨rfl,I.turned (t':=s.toks) (fun b o hb e=>eb b o hb e) f0 f1 f3 f4 f5⟩
 self:=fun A i s Q E st h=>wpAny_pyIter_rangeiter st h
def RgC (i j c:Int)(n:Nat):Prop:=c≠0/\c.natAbs<1073741824/\Builtin.Range.small i j c=true/\Builtin.Range.rangeSize i j c=n
theorem RgC.neg {i j:Int}(ha:-(2 ^ 62)<=i)(ha':i<2 ^ 62)(hb:-(2 ^ 62)<=j)(hb':j<2 ^ 62):RgC i j (-1) (i-j).toNat :=
 ⟨by decide,by decide,PySem.W.small_down ha ha' hb hb',PySem.W.rangeSize_downNat i j⟩
def Zne (ta:TA):TI:=fun σ H R=>ta σ H fun vs H1=>∃(i j c:Int) (n:Nat),vs=[.int i,.int j,.int c]/\RgC i j c n/\R (Itc i c n) H1
section
variable {X:Cx}{tg:Expr}
def Zb7 {a b c:Expr}{ta:TA}{p pos:Pos}(hg:Gl X "range")(hm:X.mg "range"=none)(ha:PA X [a,b,c] ta)
  (hs:autoParam (starEach [a,b,c] X.env=(false,eval a X.env)::starEach [b,c] X.env) q_1) (hpl:autoParam ((backTo pos (starEach [b,c] X.env)).any (·.1)=false) q_1) :
  PI X tg (.Call (.Name "range" p) [a,b,c] [] pos) (Zne ta):=by
 intro pins s σ H R I h;refine Call_ (Zcp I hg hm boot_range (PyProof.Rows.callWith_type1 (thn (ha pos pins s σ H _ I h) fun us s1 ⟨vs,H1,I1,r1,q1⟩=>?_) hs hpl));obtain⟨i,j,k,n,e,⟨c0,c1,c2,c3⟩,q⟩:=q1;subst e;cases r1 with
 | cons r rr =>
  cases rr with
  | cons r' rr =>
   cases rr with
   | cons r'' rr =>
    cases rr;obtain⟨t,rfl⟩:=r;obtain⟨t',rfl⟩:=r';obtain⟨t'',rfl⟩:=r'';refine call_range_3 c0 ?_ (.inl (PyProof.noPylong_small c1));refine wpAny_pyIter_range (IsRange.new ..) c2 ?_;have I2:Inv X pins σ H1 { s1 with heap:=s1.heap.push { cls:=.type "range",data:=.fields #[.int i t,.int j t',.int k t''] } }:=I1.kept (t':=s1.toks) fun b o e=>y0v _ e
    refine Ziy (tk:=s1.toks) I2 _ (ZfR _ i k n) ?_ q;have e1:i+((0:Nat):Int) * k=i:=by simp
    have e2:(n:Int)-((0:Nat):Int)=Builtin.Range.rangeSize i j k:=by rw[c3];simp
    show IsRangeIter _ _ (i+((0:Nat):Int) * k) ((n:Int)-((0:Nat):Int)) k;rw[e1,e2];exact y0w _ rfl
end
def ZaJ {lo c:Int}{n:Nat}{g:TG}{tb:TS}{D:Ends}{σ:St}{H:Hp}(Pv:Nat->St->Hp->Prop)(h0:Pv 0 σ H)
  (hs:∀i σ H,i<n->Pv i σ H->g (.int (lo+(i:Nat) * c)) σ H fun σ2 H2=>tb { D with nx:=Pv (i+1),ct:=Pv (i+1),bk:=D.nx } σ2 H2) (hd:∀σ H,Pv n σ H->D.nx σ H) :
  ∃W:Nat->Nat->St->Hp->Prop,(∃m,W 0 m σ H)/\∀i m σ H,W i m σ H ->
   ((Itc lo c n).stop i H/\D.nx σ H)\/((Itc lo c n).go i H/\∃N:St->Hp->Prop,(∀σ' H',N σ' H'->∃m',m' < m/\W (i+1) m' σ' H')/\∀x H',(Itc lo c n).yld i H x H'->g x σ H' fun σ2 H2=>tb { D with nx:=N,ct:=N,bk:=D.nx } σ2 H2):=by
 refine⟨fun i m σ H=>m=n-i/\i<=n/\Pv i σ H,⟨n,by simp,y0u _,h0⟩,?_⟩;rintro i m σ H ⟨rfl,hi,p⟩;by_cases hlt:i<n
 ·refine .inr ⟨hlt,Pv (i+1),fun σ' H' p'=>⟨n-(i+1),by omega,rfl,hlt,p'⟩,fun x H' y=>?_⟩;obtain⟨e,y⟩:=y;subst e y;exact hs i σ _ hlt p
 ·have e:i=n:=by omega
  subst e;exact .inl ⟨y0r _,hd σ H p⟩
noncomputable def Its (x:Str):It:=⟨fun i _=>i<x.cps.size,fun i H v H'=>H'=H/\∃c,x.cps[i]?=some c/\v=.str ⟨#[c]⟩,fun i _=>x.cps.size<=i⟩
def ZgI {P:Program}{w:World}{K:Frag}{tg:Expr}(it:Addr)(x:Str)(t:Tok)(ty:String)(hty:ty="str_ascii_iterator"\/ty="str_iterator"):
  Turn P w K tg (Its x) [it] it (fun i h=>h.IsStrIter it ty x t i) where
 mem:=by simp
 obj:=fun i h st b hb=>by
  have e:b=it:=by simpa using hb
  subst e;obtain⟨o,e,c,d⟩:=st;exact⟨o,e,fun v z=>by rw[d] at z;cases z⟩
 keep:=fun i h h' st k=>let ⟨o,ho,r⟩:=st;⟨o,k it (by simp) o ho,r⟩
 item:=by
  intro X hP hw hK hc i pins s σ H E I hf st hg;subst hP hw hK;obtain⟨f0,f1,f2,f3,f4,f5⟩:=hf it (by simp);have W:Walks X.prog X.w X.A it [it] [it] x.cps.size (SignAt x) (fun i h=>h.IsStrIter it ty x t i):=by
   rcases hty with e | e
   ·rw[e];exact Walks.strAscii (I.ok.hd hc) it x t
   ·rw[e];exact Walks.strWide (I.ok.hd hc) it x t
  have hno:["enumerate","zip","dict_itemiterator","dict_reverseitemiterator","odict_iterator","itertools.zip_longest","itertools.pairwise"].contains ty=false:=by
   rcases hty with e | e
   ·rw[e];decide
   ·rw[e];decide
  refine W.item i s _ _ hg st fun v h' tk hv st' kk=>?_
  obtain⟨c,u,hcx,rfl⟩:=hv;have I1:Inv X pins σ H { s with heap:=h',toks:=tk }:=I.turned (fun b o hb e=>kk b o (by simpa using hb) e) f0 f1 f3 f4 f5;obtain⟨oi,e,cc,dd⟩:=id st';exact⟨_,rfl,ZiY (s:={ s with heap:=h',toks:=tk }) e cc dd hno ⟨.str ⟨#[c]⟩,H,I1,⟨u,rfl⟩,⟨rfl,c,hcx,rfl⟩,st',fun b hb=>(hf b hb).1⟩⟩
 done:=by
  intro X hP hw hK hc i pins s σ H E I hf st hg;subst hP hw hK;obtain⟨f0,f1,f2,f3,f4,f5⟩:=hf it (by simp);have hx:x.cps[i]?=none:=Array.getElem?_eq_none hg;rcases hty with e | e
  ·rw[e] at st;exact wpAny_pyNext_ascii_end (I.ok.hd hc) st hx fun h' eb=>⟨rfl,I.turned (t':=s.toks) (fun b o hb e=>eb b o hb e) f0 f1 f3 f4 f5⟩
  ·rw[e] at st;exact wpAny_pyNext_wide_end (I.ok.hd hc) st hx fun h' eb=>⟨rfl,I.turned (t':=s.toks) (fun b o hb e=>eb b o hb e) f0 f1 f3 f4 f5⟩
 self:=fun A i s Q E st h=>by
  rcases hty with e | e
  ·rw[e] at st;exact wpAny_pyIter_striter_ascii st h
  ·rw[e] at st;exact wpAny_pyIter_striter_wide st h
def iStr (te:TE):TI:=fun σ H R=>te σ H fun v H1=>∃x,v=.str x/\R (Its x) H1
def Zmh {X:Cx}{tg e:Expr}{te:TE}(he:PE X e te):PI X tg e (iStr te):=by
 intro pins s σ H R I h;refine thn (he pins s σ H _ I h) fun v s1 ⟨y,H1,I1,r1,x,ex,q⟩=>?_
 subst ex;obtain⟨t,rfl⟩:=r1;cases ha:x.cps.all (· < 128)
 ·exact wpAny_pyIter_wide ha (Ziy (tk:=s1.toks) I1 _ (ZgI _ x t "str_iterator" (.inr rfl)) ⟨_,y0w _ rfl,rfl,rfl⟩ q)
 ·exact wpAny_pyIter_ascii ha (Ziy (tk:=s1.toks) I1 _ (ZgI _ x t "str_ascii_iterator" (.inl rfl)) ⟨_,y0w _ rfl,rfl,rfl⟩ q)
noncomputable def Ite (K:Frag)(a:Addr):It :=
 ⟨fun i H=>∃(xs:List V) (x:V),SqL K H a xs/\xs[i]?=some x,fun i H v H'=>∃T x,v=.ref T/\H T=none/\H'=upd H T (.tup [.int (i:Nat),x])/\∀xs,SqL K H a xs->xs[i]?=some x,fun i H=>∃xs:List V,SqL K H a xs/\xs.length<=i⟩
theorem Zif {P:Program}{w:World}{K:Frag}{elts:List Expr}{kk:Nat}{tpos:Pos}(a e it:Addr):
  Turn P w K (.Tuple elts kk tpos) (Ite K a) [e,it] e (fun i h=>(∃old,IsEnum h e it ((i:Nat):Int) old)/\h.IsListIter it a i/\e≠it) where
 mem:=by simp
 obj:=fun i h st b hb=>by
  obtain⟨⟨old,he⟩,⟨o,ho,hc,hd⟩,_⟩:=st;have e':b=e\/b=it:=by simpa using hb
  rcases e' with z | z
  ·rw[z];exact⟨_,he,fun v q=>nomatch q⟩
  ·rw[z];exact⟨o,ho,fun v q=>by rw[hd] at q;cases q⟩
 keep:=fun i h h' st k=>let ⟨⟨old,he⟩,hi,hne⟩:=st;⟨⟨old,k e (by simp) _ he⟩,hi.at fun o q=>k it (by simp) o q,hne⟩
 item:=by
  intro X hP hw hK hc i pins s σ H E I hf st hg;subst hP hw hK;obtain⟨⟨old,he⟩,hit,hne⟩:=st;obtain⟨xs,x,hq,hx⟩:=hg;obtain⟨its,rv,p,hz⟩:=I.list hq;obtain⟨u,hu,ru⟩:=rv.get hx;have hel:e<s.heap.objs.size:=y0x he;have hil:it<s.heap.objs.size:=by obtain⟨_,q,_⟩:=hit;exact y0x q
  refine wpAny_pyNext_enum_item he hit p.isList (x:=u) (by simpa using hu) hne fun h' ho hit' hT hsz hk=>?_
  refine⟨_,rfl,wpAny_letOwnedTupleGo_enum (s:={ s with heap:=h',toks:=s.toks+1 }) ho fun h'' he' sb=>?_⟩;have hT2:h''.get? s.heap.objs.size=some { cls:=.type "tuple",data:=.seq #[.int i s.toks,u] }:=(sb.2 _ (Nat.ne_of_gt hel)).trans hT;have new:Wd X.prog X.w (upd H s.heap.objs.size (.tup [.int (i:Nat),x])) h'' s.heap.objs.size (.tup [.int (i:Nat),x]) :=
   ⟨by show 2<=sizeLine;decide,[.int i s.toks,u],.cons ⟨_,rfl⟩ (.cons ru .nil),⟨_,hT2,rfl,_,rfl⟩⟩
  have I1:Inv X pins σ (upd H s.heap.objs.size (.tup [.int (i:Nat),x])) { s with heap:=h'',toks:=s.toks+1 } :=
   I.turnedNew (ch:=[e,it]) (fun b ob hb q=>(sb.2 b (fun z=>hb (by simp[z]))).trans (hk b ob (fun z=>hb (by simp[z])) (fun z=>hb (by simp[z])) q)) hf (y0r _) new
  refine⟨.ref s.heap.objs.size,_,I1,rfl,⟨_,x,rfl,I.hok.fresh (y0r _),rfl,fun ys hy=>by rw[I.list_inj hy hq];exact hx⟩,⟨⟨u,?_⟩,hit'.at fun o q=>(sb.2 it (Ne.symm hne)).trans q,hne⟩,fun b hb=>?_⟩
  ·have e1:((i+1:Nat):Int)=(i:Int)+1:=by omega
   rw[e1];exact he'
  ·have hb':b<s.heap.objs.size:=by
    have e':b=e\/b=it:=by simpa using hb
    rcases e' with z | z
    ·rw[z];exact hel
    ·rw[z];exact hil
   rw[Zk (Nat.ne_of_lt hb')];exact(hf b hb).1
 done:=by
  intro X hP hw hK hc i pins s σ H E I hf st hg;subst hP hw hK;obtain⟨⟨old,he⟩,hit,hne⟩:=st;obtain⟨xs,hq,hx⟩:=hg;obtain⟨its,rv,p,hz⟩:=I.list hq;obtain⟨f0,f1,f2,f3,f4,f5⟩:=hf it (by simp);have hl:=rv.length;exact wpAny_pyNext_enum_end (I.ok.hd hc) he hit p.isList (by simp;omega) fun h' eb=>⟨rfl,I.turned (t':=s.toks) (fun b o hb q=>eb b o hb q) f0 f1 f3 f4 f5⟩
 self:=fun A i s Q E st h=>let ⟨⟨_,he⟩,_⟩:=st;wpAny_pyIter_enum he h
def Znh (K:Frag)(ta:TA):TI:=fun σ H R=>ta σ H fun vs H1=>∃a xs,vs=[.ref a]/\SqL K H1 a xs/\R (Ite K a) H1
def Zlf {X:Cx}{e:Expr}{ta:TA}{p pos tpos:Pos}{elts:List Expr}{kk:Nat}(hg:Gl X "enumerate")(hm:X.mg "enumerate"=none)(ha:PA X [e] ta)(hs:autoParam (starEach [e] X.env=[(false,eval e X.env)]) q_1):
  PI X (.Tuple elts kk tpos) (.Call (.Name "enumerate" p) [e] [] pos) (Znh X.K ta):=by
 intro pins s σ H R I h;refine Call_ (Zcp I hg hm boot_enumerate (PyProof.Rows.callWith_type1 (thn (ha pos pins s σ H _ I h) fun us s1 ⟨vs,H1,I1,r1,q1⟩=>?_) hs rfl));obtain⟨a,xs,ex,hq,q⟩:=q1;subst ex;cases r1 with
 | cons r rr =>
  cases rr;cases r;obtain⟨its,rv,p',hz⟩:=I1.list hq;refine call_enumerate_list p'.isList fun h' he hit hsz hk=>wpAny_pyIter_enum he ?_
  have I2:Inv X pins σ H1 { s1 with heap:=h' }:=I1.kept (t':=s1.toks) hk;refine⟨s1.heap.objs.size+1,[s1.heap.objs.size+1,s1.heap.objs.size],_,_,H1,rfl,I2,Zif a (s1.heap.objs.size+1) s1.heap.objs.size,⟨⟨.none,he⟩,hit,Nat.succ_ne_self _⟩,fun b hb=>?_,q⟩;have e':b=s1.heap.objs.size+1\/b=s1.heap.objs.size:=by simpa using hb
  have hle:s1.heap.objs.size<=b:=by
   rcases e' with z | z
   ·rw[z];exact Nat.le_add_right _ _
   ·rw[z];exact y0r _
  exact I1.fpOk hle (I1.hok.fresh hle)
end L2
section
namespace TL
open PySem PySem.Builtin PySem.Builtin.Str PySem.StrLaws
noncomputable abbrev tl (x:Str):List Nat:=x.cps.toList
noncomputable def pre (S l:List Nat):Bool:=l.take S.length==S
noncomputable def par (S:List Nat):List Nat->List Nat->Option (List Nat×List Nat)
 | _,[]=>none
 | acc,c::r=>if pre S (c::r)=true then some (acc,(c::r).drop S.length) else par S (acc++[c]) r
noncomputable def ZT (S:List Nat):List (List Nat)->List Nat
 | []=>[]
 | [p]=>p
 | p::q::r=>p++(S++ZT S (q::r))
end TL
end
namespace L2
open PySem PySem.Spec PyProof.Rows
section
variable {X:Cx}
theorem ZgF (x:Str):(Txt.words x).length<=x.length+1:=by
 have e1:=StrLaws.words_weight x;omega
end
section
variable {X:Cx}{o e:Expr}{to te:TE}
def tM1 (r:V->List V->Hp->VK->Prop)(to te:TE):TE:=fun σ H Q=>to σ H fun x H1=>(∃a,x=.str a)/\te σ H1 fun y H2=>r x [y] H2 Q
def Zm8 {id:String}{name:Str}{apos pos:Pos}{r:V->List V->Hp->VK->Prop}(slot:Slot "str" name id)(ty:typeOf (.builtin id)=pure (.type "method_descriptor"))(rule:MtR X id r)(ho:PE X o to)(he:PE X e te)
  (hs:autoParam (starEach [e] X.env=[(false,eval e X.env)]) q_1) (hbase:autoParam (attributeBase o name X.env (eval o X.env)=eval o X.env) q_1) (hline:autoParam ((apos.endLine==pos.line)=true) q_1) :
  PE X (.Call (.Attribute o name apos) [e] [] pos) (tM1 r to te):=by
 intro pins s σ H Q I h;refine PySem.Call_method1 hbase hs hline (thn (ho pins s σ H _ I h) fun v s1 ⟨x,H1,I1,r1,q1⟩=>?_);obtain⟨⟨a,rfl⟩,q1⟩:=q1;obtain⟨t,rfl⟩:=_root_.id r1;refine⟨"str",_,F.plainAttrs_str,slot,ty,typeIs_str _ _ _,(fun _ e=>nomatch e),Calls.callWith_builtin rfl (Calls.evalArgs_plain (Calls.spliced_cons ?_))⟩;exact thn (he pins s1 σ H1 _ I1 q1) fun u s2 ⟨y,H2,I2,r2,q2⟩=>Calls.spliced_nil (rule pins s2 σ H2 _ [y] _ [u] Q I2 r1 (.cons r2 .nil) q2)
end
noncomputable def Yv (s:Stmt)(j:Nat):Stmt:=match s with
 | .ClassDef _ _ _ body _ _ _ _ _ _ _=>body.getD j (.Pass ⟨0,0,0,0⟩)
 | _=>.Pass ⟨0,0,0,0⟩
noncomputable def Yo (s:Stmt):Arguments:=match s with
 | .FunctionDef _ a _ _ _ _ _ _ _ _=>a
 | _=>{ posonlyargs:=[],args:=[],vararg:=none,kwonlyargs:=[],kw_defaults:=[],kwarg:=none,defaults:=[] }
noncomputable def ZI (s:Stmt):List Stmt:=match s with
 | .FunctionDef _ _ b _ _ _ _ _ _ _=>b
 | _=>[]
noncomputable def Zh (s:Stmt):Scope:=match s with
 | .FunctionDef _ _ _ _ _ _ sc _ _ _=>sc
 | _=>{ kind:=.function,names:=[],isGenerator:=false,isCoroutine:=false }
abbrev CX0:CXT:=fun _ _ _ _ _ _=>False
abbrev E0:XK:=fun _ _ _=>False
def Zu {X:Cx}:Wq CX0 X E0:=fun _ _ _ _ _ _ _ h=>h.elim
structure Fun (K:Frag)(x qual:Str)(st:Stmt)(f:Addr)(fd:FuncData):Prop where
 ex:∃(oc:Value) (od:Option Addr) (kV doc pm:Value) (an:Option Addr) (cdv ct:Value) (osl:Array (Option Value)),
  fd=fnOf x qual (Yo st) (ZI st) (Zh st) .none kV doc pm an cdv ct/\K.lookup f=some ⟨oc,od,.func fd,osl⟩/\codeIn K cdv qual=true
 kp:keepIn K (.ref f)=true
section
variable {P:Program}{w:World}{K:Frag}{mg:Str->Option Value}{base:Heap}
theorem Fun.ok {x qual:Str}{st:Stmt}{f:Addr}{fd:FuncData}{N ps:List Str}{k:Nat}{sp:Sp}(F:Fun K x qual st f fd)(S:Zm N ps (Zh st))(len:∀vs H Q E,sp vs H Q E->vs.length=ps.length)
  (hbody:∀(cdv:Value) (A:Around) (outer:List Env) (s:Shared) (H:Hp) (vs:List V) (Q:VK) (E:XK),Room k (A.deeper (envOfC qual (Zh st) s.heap.objs.size f cdv))->sp vs H Q E ->
   ∃t,PSs (cxOf CX0 P w K mg base N qual (Zh st) f cdv A outer s H E).nox (ZI st) t/\t { nx:=fun _ H'=>Q .non H',rt:=Q } (start N vs) H):FnOk P w K mg base CX0 (k+1) f fd ps sp:=by
 obtain⟨oc,od,kV,doc,pm,an,cdv,ct,osl,rfl,lk,hcd⟩:=F.ex;refine ZlN lk hcd S len fun A outer s H vs Q E hr hsp=>?_
 obtain⟨t,h,q⟩:=hbody cdv A outer s H vs Q E hr hsp;exact⟨t,h.nox,q⟩
theorem Fun.binds {x qual:Str}{st:Stmt}{f:Addr}{fd:FuncData}{ps:List Str}(F:Fun K x qual st f fd)
  (h:∀(kV doc pm:Value) (an:Option Addr) (cdv ct:Value) (us:List Value),us.length=ps.length->bindArgs (fnOf x qual (Yo st) (ZI st) (Zh st) .none kV doc pm an cdv ct) ⟨us,[]⟩=pure (ps.zip us)):We K fd ps []:=by
 obtain⟨oc,od,kV,doc,pm,an,cdv,ct,osl,rfl,lk,hcd⟩:=F.ex;exact .all (h kV doc pm an cdv ct)
def Zi2 {x qual:Str}{st:Stmt}{f:Addr}{oc:Value}{od an:Option Addr}{osl:Array (Option Value)}{kV doc pm cdv ct:Value}(l:K.lookup f=some ⟨oc,od,.func (fnOf x qual (Yo st) (ZI st) (Zh st) .none kV doc pm an cdv ct),osl⟩)
  (c:codeIn K cdv qual=true) (k:keepIn K (.ref f)=true):Fun K x qual st f (fnOf x qual (Yo st) (ZI st) (Zh st) .none kV doc pm an cdv ct):=⟨⟨oc,od,kV,doc,pm,an,cdv,ct,osl,rfl,l,c⟩,k⟩
end
section
variable {X:Cx}
def pv (i:Nat){x:Str}{pos:Pos}(hN:autoParam (X.N[i]?=some x) q_1)(hv:autoParam (Vis X.env.scope x) q_5)(hd:autoParam ((x==("__debug__":Str))=false) q_2)
  (hcd:autoParam ((x==("__classdict__":Str))=false) q_2):PE X (.Name x pos) (tVar i):=ZgV hN hv hd hcd
end
def Zlr {α:Type}{l:List α}(hN:l.Nodup){i j:Nat}{x:α}(a:l[i]?=some x)(b:l[j]?=some x):i=j:=by
 obtain⟨h1,e1⟩:=y0a.mp a;obtain⟨h2,e2⟩:=y0a.mp b;exact(List.getElem_inj hN).mp (e1.trans e2.symm)
end L2
end
section
section
set_option maxRecDepth 100000
set_option maxHeartbeats 2000000
namespace L2
open PySem PySem.Spec PyProof.Rows
open PySem.W (WData Codec OpenSpec Well WellAll ReadsW ReadsAllW)
mutual
inductive Dw (K:Frag) (H:Hp):V->WData->Prop
 | non:Dw K H .non .none
 | bl (b:Bool):Dw K H (.bl b) (.bool b)
 | int (i:Int):Dw K H (.int i) (.int i)
 | str (x:Str):Dw K H (.str x) (.str x)
 | byt (b:Array UInt8):Dw K H (.byt b) (.bytes b.toList)
 | lst {a:Addr}{xs:List V}{ds:List WData}:SqL K H a xs->Vk K H xs ds->Dw K H (.ref a) (.list ds)
 | tup {a:Addr}{xs:List V}{ds:List WData}:SqT K H a xs->Vk K H xs ds->Dw K H (.ref a) (.tuple ds)
inductive Vk (K:Frag) (H:Hp):List V->List WData->Prop
 | nil:Vk K H [] []
 | cons {v:V}{vs:List V}{d:WData}{ds:List WData}:Dw K H v d->Vk K H vs ds->Vk K H (v::vs) (d::ds)
end
theorem dw_ints {K:Frag}{H:Hp}:∀ns:List Int,Vk K H (ns.map V.int) (ns.map WData.int)
 | []=>.nil
 | n::r=>.cons (.int n) (dw_ints r)
theorem ints_dw {K:Frag}{H:Hp}:∀(ns:List Int) (xs:List V),Vk K H xs (ns.map WData.int)->xs=ns.map V.int
 | [],xs,h=>by
  cases h;rfl
 | n::r,xs,h=>by
  cases h with
  | cons h1 h2 =>
   cases h1;rw[ints_dw r _ h2] <;> rfl
section
variable {P:Program}{w:World}{K:Frag}{H:Hp}{h:Heap}{R:PySem.W.WRecords}{cl:Str->Option Addr}
def Zmb {a:Addr}{xs:List V}(hok:HOk P w H h)(KX:K.In h)(q:SqL K H a xs):∃(its:List Value) (o:Obj) (n:Nat),Vals xs its/\h.get? a=some o/\o.cls=.type "list"/\o.data=.seq its.toArray n:=by
 rcases q with q | ⟨o,its,n,e,hc,_,hd,_,hv⟩
 ·obtain⟨_,its,n,hv,e⟩:=(show Wd P w H h a (.lst xs) from q.ok hok);exact⟨its,_,n,hv,e,rfl,rfl⟩
 ·exact⟨its.toList,o,n,hv,KX _ _ e,hc,by simp[hd]⟩
def Zma {a:Addr}{xs:List V}(hok:HOk P w H h)(KX:K.In h)(q:SqT K H a xs):∃(its:List Value) (o:Obj) (n:Nat),Vals xs its/\h.get? a=some o/\o.cls=.type "tuple"/\o.data=.seq its.toArray n:=by
 rcases q with q | ⟨o,its,n,e,hc,hd,_,hv⟩
 ·obtain⟨_,its,hv,o,e,hc,n,hd⟩:=(show Wd P w H h a (.tup xs) from q.ok hok);exact⟨its,o,n,hv,e,hc,hd⟩
 ·exact⟨its.toList,o,n,hv,KX _ _ e,hc,by simp[hd]⟩
mutual
theorem Dw.reads (hok:HOk P w H h)(KX:K.In h):∀(d:WData) (v:V) (u:Value),Dw K H v d->RelV v u->∃as,ReadsW R cl h u d as
 | .none,_,_,x,r=>by
  cases x;cases r;exact⟨_,ReadsW.none⟩
 | .bool b,_,_,x,r=>by
  cases x;cases r;exact⟨_,ReadsW.bool b⟩
 | .int i,_,_,x,r=>by
  cases x;obtain⟨t,rfl⟩:=r;exact⟨_,ReadsW.int i t⟩
 | .str s,_,_,x,r=>by
  cases x;obtain⟨t,rfl⟩:=r;exact⟨_,ReadsW.str s t⟩
 | .bytes b,_,_,x,r=>by
  cases x;obtain⟨t,rfl⟩:=r;exact⟨_,ReadsW.bytes _ t⟩
 | .list ds,_,_,x,r=>by
  cases x with
  | lst hs ha =>
   cases r;obtain⟨its,o,n,rv,ho,hc,hd⟩:=Zmb hok KX hs;obtain⟨as,hr⟩:=Dw.readsAll hok KX ds _ its ha rv;exact⟨_,ReadsW.list ho hc hd hr⟩
 | .tuple ds,_,_,x,r=>by
  cases x with
  | tup hs ha =>
   cases r;obtain⟨its,o,n,rv,ho,hc,hd⟩:=Zma hok KX hs;obtain⟨as,hr⟩:=Dw.readsAll hok KX ds _ its ha rv;exact⟨_,ReadsW.tuple ho hc hd hr⟩
 | .float _,_,_,x,_=>by cases x
 | .dict _,_,_,x,_=>by cases x
 | .bytearray _,_,_,x,_=>by cases x
 | .set _,_,_,x,_=>by cases x
 | .frozenset _,_,_,x,_=>by cases x
 | .obj _ _,_,_,x,_=>by cases x
theorem Dw.readsAll (hok:HOk P w H h)(KX:K.In h):∀(ds:List WData) (vs:List V) (us:List Value),Vk K H vs ds->Vals vs us->∃as,ReadsAllW R cl h us ds as
 | [],_,_,x,r=>by
  cases x;cases r;exact⟨_,ReadsAllW.nil⟩
 | d::ds,_,_,x,r=>by
  cases x with
  | cons h1 h2 =>
   cases r with
   | cons r1 r2 =>
    obtain⟨as,q1⟩:=Dw.reads hok KX d _ _ h1 r1;obtain⟨bs,q2⟩:=Dw.readsAll hok KX ds _ _ h2 r2;exact⟨_,ReadsAllW.cons q1 q2⟩
end
end
mutual
noncomputable def plW:WData->Bool
 | .none=>true
 | .bool _=>true
 | .int _=>true
 | .str _=>true
 | .bytes _=>true
 | .list xs=>plWs xs
 | .tuple xs=>plWs xs
 | _=>false
noncomputable def plWs:List WData->Bool
 | []=>true
 | x::r=>plW x && plWs r
end
theorem ZgT {α:Type}{f:α->WData}(h:∀a,plW (f a)=true):∀l:List α,plWs (l.map f)=true
 | []=>rfl
 | x::r=>by
  show(plW (f x) && plWs (r.map f))=true;rw[h x,ZgT h r] <;> rfl
theorem Zba:∀(c:Codec) (a:c.denote),plW (c.enc a)=true
 | .unit,_=>rfl
 | .bool,_=>rfl
 | .int _ _,_=>rfl
 | .nat _ _,_=>rfl
 | .u8,_=>rfl
 | .bytes _ _,_=>rfl
 | .text _ _ _ _,_=>rfl
 | .list _ _ c,a=>ZgT (fun x=>Zba c x) a
 | .pair c d,a=>by
  show(plW (c.enc a.1) && (plW (d.enc a.2) && true))=true;rw[Zba c a.1,Zba d a.2] <;> rfl
 | .triple c d e,a=>by
  show(plW (c.enc a.1) && (plW (d.enc a.2.1) && (plW (e.enc a.2.2) && true)))=true;rw[Zba c a.1,Zba d a.2.1,Zba e a.2.2] <;> rfl
 | .option c,none=>rfl
 | .option c,some x=>Zba c x
theorem ZeT:∀(cs:List Codec) (a:Codec.denoteAll cs),plWs (Codec.encAll cs a)=true
 | [],_=>rfl
 | c::cs,a=>by
  show(plW (c.enc a.1) && plWs (Codec.encAll cs a.2))=true;rw[Zba c a.1,ZeT cs a.2] <;> rfl
theorem Zaj:∀{xs:List WData}{d:WData},d∈xs->d.weight<=WData.weightAll xs
 | [],d,h=>absurd h (by simp)
 | x::r,d,h=>by
  show d.weight<=x.weight+1+WData.weightAll r;rcases y0b.mp h with e | m
  ·rw[e];lia
  ·have z:=Zaj m;lia
noncomputable def toV:Value->V
 | .none=>.non
 | .bool b=>.bl b
 | .int i _=>.int i
 | .str x _=>.str x
 | .bytes b _=>.byt b
 | .ref a=>.ref a
 | _=>.non
def OkU (A:List Addr):Value->Prop
 | .none=>True
 | .bool _=>True
 | .int _ _=>True
 | .str _ _=>True
 | .bytes _ _=>True
 | .ref a=>a∈A
 | _=>False
theorem OkU.mono {A B:List Addr}(h:∀a∈A,a∈B):∀{u:Value},OkU A u->OkU B u:=fun {u} x=>by
 cases u with
 | ref a=>exact h a x
 | none=>trivial
 | bool b=>trivial
 | int i t=>trivial
 | str s t=>trivial
 | bytes b t=>trivial
 | _=>exact False.elim x
def ZjG {A:List Addr}{u:Value}(x:OkU A u):RelV (toV u) u:=by
 cases u with
 | ref a=>rfl
 | none=>rfl
 | bool b=>rfl
 | int i t=>exact⟨t,rfl⟩
 | str s t=>exact⟨t,rfl⟩
 | bytes b t=>exact⟨t,rfl⟩
 | _=>exact False.elim x
theorem Up {A:List Addr}:∀{vs:List Value},(∀u∈vs,OkU A u)->Vals (vs.map toV) vs
 | [],_=>.nil
 | u::r,h=>.cons (ZjG (h u (y0n ..))) (Up fun x hx=>h x (y0c _ hx))
def Zbw (h:Heap)(A:List Addr)(a:Addr):Prop:=∃vs:List Value,vs.length<=sizeLine/\(∀u∈vs,OkU A u) /\
 (h.get? a=some { cls:=.type "list",data:=.seq vs.toArray }\/h.get? a=some { cls:=.type "tuple",data:=.seq vs.toArray })
theorem Zbw.mono {h:Heap}{A B:List Addr}{a:Addr}(k:∀a∈A,a∈B)(x:Zbw h A a):Zbw h B a:=by
 obtain⟨vs,h1,h2,h3⟩:=x;exact⟨vs,h1,fun u hu=>(h2 u hu).mono k,h3⟩
theorem WO {P:Params}{h:Heap}:∀{vs:List Value}{ds:List WData},WellAll P h vs ds->vs.length=ds.length
 | _,_,.nil=>rfl
 | _,_,.cons _ b=>by
  show _+1=_+1;rw[WO b]
def Zew {P:Params}{h:Heap}{v:Value}{ds:List WData}(x:Well P h v (.list ds)):∃(a:Addr) (vs:List Value),v=.ref a/\h.get? a=some { cls:=.type "list",data:=.seq vs.toArray }/\WellAll P h vs ds:=by
 cases x with
 | list ho hall=>exact⟨_,_,rfl,ho,hall⟩
def Zc1 {P:Params}{h:Heap}{v:Value}{ds:List WData}(x:Well P h v (.tuple ds)):∃(a:Addr) (vs:List Value),v=.ref a/\h.get? a=some { cls:=.type "tuple",data:=.seq vs.toArray }/\WellAll P h vs ds:=by
 cases x with
 | tuple ho hall=>exact⟨_,_,rfl,ho,hall⟩
def Zex {P:Params}{h:Heap}{us:List Value}{d:WData}{ds:List WData}(x:WellAll P h us (d::ds)):∃(v:Value) (vs:List Value),us=v::vs/\Well P h v d/\WellAll P h vs ds:=by
 cases x with
 | cons a b=>exact⟨_,_,rfl,a,b⟩
def ZiL {n:Nat}(h:n<=1048576):n<=sizeLine:=y0q h (by decide)
section
variable {P:Params}{h:Heap}
mutual
theorem ZkB:∀(d:WData) (v:Value),Well P h v d->plW d=true->d.weight<=1048576->∃A:List Addr,OkU A v/\∀a∈A,Zbw h A a
 | .none,_,x,_,_=>by
  cases x;exact⟨[],trivial,fun a m=>absurd m (by simp)⟩
 | .bool b,_,x,_,_=>by
  cases x;exact⟨[],trivial,fun a m=>absurd m (by simp)⟩
 | .int i,_,x,_,_=>by
  cases x;exact⟨[],trivial,fun a m=>absurd m (by simp)⟩
 | .str s,_,x,_,_=>by
  cases x;exact⟨[],trivial,fun a m=>absurd m (by simp)⟩
 | .bytes b,_,x,_,_=>by
  cases x;exact⟨[],trivial,fun a m=>absurd m (by simp)⟩
 | .list ds,_,x,p,z=>by
  obtain⟨a,vs,rfl,ho,hall⟩:=Zew x;have z2:WData.weightAll ds<=1048576:=z;obtain⟨A,h1,h2⟩:=ZbF ds _ hall p fun d hd=>y0q (Zaj hd) z2
  have k:∀b∈A,b∈a::A:=fun b hb=>y0c _ hb
  refine⟨a::A,y0n ..,fun b hb=>?_⟩;rcases y0b.mp hb with e | m
  ·rw[e];exact⟨vs,ZiL (by rw[WO hall];exact y0q (PySem.W.length_le_weightAllW ds) z2),fun u hu=>(h1 u hu).mono k,.inl ho⟩
  ·exact(h2 b m).mono k
 | .tuple ds,_,x,p,z=>by
  obtain⟨a,vs,rfl,ho,hall⟩:=Zc1 x;have z2:WData.weightAll ds<=1048576:=z;obtain⟨A,h1,h2⟩:=ZbF ds _ hall p fun d hd=>y0q (Zaj hd) z2
  have k:∀b∈A,b∈a::A:=fun b hb=>y0c _ hb
  refine⟨a::A,y0n ..,fun b hb=>?_⟩;rcases y0b.mp hb with e | m
  ·rw[e];exact⟨vs,ZiL (by rw[WO hall];exact y0q (PySem.W.length_le_weightAllW ds) z2),fun u hu=>(h1 u hu).mono k,.inr ho⟩
  ·exact(h2 b m).mono k
 | .float _,_,_,p,_=>Bool.noConfusion (show false=true from p)
 | .dict _,_,_,p,_=>Bool.noConfusion (show false=true from p)
 | .bytearray _,_,_,p,_=>Bool.noConfusion (show false=true from p)
 | .set _,_,_,p,_=>Bool.noConfusion (show false=true from p)
 | .frozenset _,_,_,p,_=>Bool.noConfusion (show false=true from p)
 | .obj _ _,_,_,p,_=>Bool.noConfusion (show false=true from p)
theorem ZbF:∀(ds:List WData) (vs:List Value),WellAll P h vs ds->plWs ds=true->(∀d∈ds,d.weight<=1048576)->∃A:List Addr,(∀u∈vs,OkU A u)/\∀a∈A,Zbw h A a
 | [],_,x,_,_=>by
  cases x;exact⟨[],fun u m=>absurd m (by simp),fun a m=>absurd m (by simp)⟩
 | d::ds,_,x,p,z=>by
  obtain⟨v,vs,rfl,x1,x2⟩:=Zex x;have q:plW d=true/\plWs ds=true:=Bool.and_eq_true_iff.mp p;obtain⟨A,a1,a2⟩:=ZkB d v x1 q.1 (z d (y0n ..));obtain⟨B,b1,b2⟩:=ZbF ds vs x2 q.2 fun e he=>z e (y0c _ he)
  have kA:∀b∈A,b∈A++B:=fun b hb=>y0d.mpr (.inl hb)
  have kB:∀b∈B,b∈A++B:=fun b hb=>y0d.mpr (.inr hb)
  refine⟨A++B,fun u hu=>?_,fun b hb=>?_⟩
  ·rcases y0b.mp hu with e | m
   ·rw[e];exact a1.mono kA
   ·exact(b1 u m).mono kB
  ·rcases y0d.mp hb with m | m
   ·exact(a2 b m).mono kA
   ·exact(b2 b m).mono kB
end
end
noncomputable def hoOf (o:Obj):Option HO:=match o.data with
 | .seq vs _=>if (o.cls==Value.type "list")=true then some (.frz o (.lst (vs.toList.map toV))) else some (.frz o (.tup (vs.toList.map toV)))
 | _=>none
noncomputable def argH (K:Frag)(h:Heap)(A:List Addr):Hp:=fun b=>if b∈A then(if (K.lookup b).isNone=true then(h.get? b).bind hoOf else none) else none
def Zm1 (H:Hp):Prop:=∀b,H b=none\/∃o u,H b=some (.frz o u)
def Zhd (vs:List Value):hoOf { cls:=.type "list",data:=.seq vs.toArray }=some (.frz { cls:=.type "list",data:=.seq vs.toArray } (.lst (vs.map toV))):=by
 show(if (Value.type "list"==Value.type "list")=true then some (HO.frz { cls:=.type "list",data:=.seq vs.toArray } (.lst (vs.toArray.toList.map toV))) else some (HO.frz { cls:=.type "list",data:=.seq vs.toArray } (.tup (vs.toArray.toList.map toV))))=_;rw[if_pos (beq_self_eq_true _)]
def Zhc (vs:List Value):hoOf { cls:=.type "tuple",data:=.seq vs.toArray }=some (.frz { cls:=.type "tuple",data:=.seq vs.toArray } (.tup (vs.map toV))):=by
 show(if (Value.type "tuple"==Value.type "list")=true then some (HO.frz { cls:=.type "tuple",data:=.seq vs.toArray } (.lst (vs.toArray.toList.map toV))) else some (HO.frz { cls:=.type "tuple",data:=.seq vs.toArray } (.tup (vs.toArray.toList.map toV))))=_;rw[if_neg (by decide)]
section
variable {P:Program}{w:World}{K:Frag}{h:Heap}{A:List Addr}
def Zel {b:Addr}{o:Obj}(hb:b∈A)(hk:K.lookup b=none)(e:h.get? b=some o):argH K h A b=hoOf o:=by
 unfold argH;rw[if_pos hb,hk,if_pos (show(none:Option Obj).isNone=true from rfl),e] <;> rfl
def Zlo {b:Addr}{u:HO}(q:argH K h A b=some u):b∈A/\K.lookup b=none:=by
 unfold argH at q;by_cases hb:b∈A
 ·rw[if_pos hb] at q;cases hk:K.lookup b with
  | none=>exact⟨hb,rfl⟩
  | some o =>
   rw[hk,if_neg (by simp)] at q;cases q
 ·rw[if_neg hb] at q;cases q
def Zek (ar:∀a∈A,Zbw h A a){b:Addr}{u:HO}(q:argH K h A b=some u):K.lookup b=none/\∃vs:List Value,vs.length<=sizeLine/\(∀u∈vs,OkU A u) /\
  ((h.get? b=some { cls:=.type "list",data:=.seq vs.toArray }/\u=.frz { cls:=.type "list",data:=.seq vs.toArray } (.lst (vs.map toV))) \/
   (h.get? b=some { cls:=.type "tuple",data:=.seq vs.toArray }/\u=.frz { cls:=.type "tuple",data:=.seq vs.toArray } (.tup (vs.map toV)))):=by
 obtain⟨hb,hk⟩:=Zlo q;obtain⟨vs,h1,h2,h3⟩:=ar b hb;refine⟨hk,vs,h1,h2,?_⟩;rcases h3 with e | e
 ·rw[Zel hb hk e,Zhd] at q;exact .inl ⟨e,(Option.some.inj q).symm⟩
 ·rw[Zel hb hk e,Zhc] at q;exact .inr ⟨e,(Option.some.inj q).symm⟩
def Zjo (ar:∀a∈A,Zbw h A a):Zm1 (argH K h A):=fun b=>by
 cases q:argH K h A b with
 | none=>exact .inl rfl
 | some u =>
  obtain⟨_,vs,_,_,⟨_,e⟩ | ⟨_,e⟩⟩:=Zek ar q
  ·exact .inr ⟨_,_,by rw[e]⟩
  ·exact .inr ⟨_,_,by rw[e]⟩
def Zl0 (ar:∀a∈A,Zbw h A a):HOk P w (argH K h A) h:=fun b u q=>by
 obtain⟨_,vs,h1,h2,⟨e,rfl⟩ | ⟨e,rfl⟩⟩:=Zek ar q
 ·exact⟨e,by rw[y03];exact h1,vs,_,Up h2,e⟩
 ·exact⟨e,by rw[y03];exact h1,vs,Up h2,_,e,rfl,_,rfl⟩
def ZdM {c c':Value}{vs us:List Value}(e:(some { cls:=c,data:=.seq vs.toArray }:Option Obj)=some { cls:=c',data:=.seq us.toArray }):c=c'/\vs=us:=by
 have e1:=Option.some.inj e;have e2:c=c':=congrArg Obj.cls e1;have e3:Data.seq vs.toArray=Data.seq us.toArray:=congrArg Obj.data e1;injection e3 with e4;refine⟨e2,?_⟩;have e5:=congrArg Array.toList e4;simpa using e5
def argL (KX:K.In h)(ar:∀a∈A,Zbw h A a){a:Addr}{vs:List Value}(ha:a∈A)(e:h.get? a=some { cls:=.type "list",data:=.seq vs.toArray }):(∀u∈vs,OkU A u)/\SqL K (argH K h A) a (vs.map toV):=by
 obtain⟨us,h1,h2,h3⟩:=ar a ha;have hu:us=vs:=by
  rcases h3 with q | q
  ·rw[e] at q;exact(ZdM q).2.symm
  ·rw[e] at q;exact absurd (Value.type.inj (ZdM q).1) (by decide)
 subst hu;refine⟨h2,?_⟩;cases hk:K.lookup a with
 | none=>exact .inl (.inr ⟨_,by rw[Zel ha hk e,Zhd]⟩)
 | some o =>
  have e2:=KX a o hk;rw[e] at e2;obtain rfl:=Option.some.inj e2;exact .inr ⟨_,us.toArray,_,hk,rfl,rfl,rfl,by rw[List.size_toArray];exact h1,by simpa using Up h2⟩
def argT (KX:K.In h)(ar:∀a∈A,Zbw h A a){a:Addr}{vs:List Value}(ha:a∈A)(e:h.get? a=some { cls:=.type "tuple",data:=.seq vs.toArray }):(∀u∈vs,OkU A u)/\SqT K (argH K h A) a (vs.map toV):=by
 obtain⟨us,h1,h2,h3⟩:=ar a ha;have hu:us=vs:=by
  rcases h3 with q | q
  ·rw[e] at q;exact absurd (Value.type.inj (ZdM q).1) (by decide)
  ·rw[e] at q;exact(ZdM q).2.symm
 subst hu;refine⟨h2,?_⟩;cases hk:K.lookup a with
 | none=>exact .inl (.inr ⟨_,by rw[Zel ha hk e,Zhc]⟩)
 | some o =>
  have e2:=KX a o hk;rw[e] at e2;obtain rfl:=Option.some.inj e2;exact .inr ⟨_,us.toArray,_,hk,rfl,rfl,by rw[List.size_toArray];exact h1,by simpa using Up h2⟩
mutual
theorem ZmS {Pm:Params}(KX:K.In h)(ar:∀a∈A,Zbw h A a):∀(d:WData) (v:Value),Well Pm h v d->plW d=true->OkU A v->Dw K (argH K h A) (toV v) d
 | .none,_,x,_,_=>by
  cases x;exact .non
 | .bool b,_,x,_,_=>by
  cases x;exact .bl b
 | .int i,_,x,_,_=>by
  cases x;exact .int i
 | .str s,_,x,_,_=>by
  cases x;exact .str s
 | .bytes b,_,x,_,_=>by
  cases x;have z:=Dw.byt (K:=K) (H:=argH K h A) b.toArray;exact z
 | .list ds,_,x,p,hu=>by
  obtain⟨a,vs,rfl,ho,hall⟩:=Zew x;obtain⟨h2,hs⟩:=argL KX ar hu ho;exact .lst hs (Zhf KX ar ds _ hall p h2)
 | .tuple ds,_,x,p,hu=>by
  obtain⟨a,vs,rfl,ho,hall⟩:=Zc1 x;obtain⟨h2,hs⟩:=argT KX ar hu ho;exact .tup hs (Zhf KX ar ds _ hall p h2)
 | .float _,_,_,p,_=>Bool.noConfusion (show false=true from p)
 | .dict _,_,_,p,_=>Bool.noConfusion (show false=true from p)
 | .bytearray _,_,_,p,_=>Bool.noConfusion (show false=true from p)
 | .set _,_,_,p,_=>Bool.noConfusion (show false=true from p)
 | .frozenset _,_,_,p,_=>Bool.noConfusion (show false=true from p)
 | .obj _ _,_,_,p,_=>Bool.noConfusion (show false=true from p)
theorem Zhf {Pm:Params}(KX:K.In h)(ar:∀a∈A,Zbw h A a):∀(ds:List WData) (vs:List Value),WellAll Pm h vs ds->plWs ds=true->(∀u∈vs,OkU A u)->Vk K (argH K h A) (vs.map toV) ds
 | [],_,x,_,_=>by
  cases x;exact .nil
 | d::ds,_,x,p,hu=>by
  obtain⟨v,vs,rfl,x1,x2⟩:=Zex x;have q:plW d=true/\plWs ds=true:=Bool.and_eq_true_iff.mp p;exact .cons (ZmS KX ar d v x1 q.1 (hu _ (y0n ..))) (Zhf KX ar ds vs x2 q.2 fun u m=>hu u (y0c _ m))
end
end
def ZcU {ds:List WData}(h:WData.layableAll ds=true):∀d∈ds,d.weight<=1048576:=fun d hd =>
 (PySem.W.layableW_iff.mp (List.all_eq_true.mp h d hd)).2.2
theorem Zdv:∀(cs:List Codec) (a:Codec.denoteAll cs),(Codec.encAll cs a).length=cs.length
 | [],_=>rfl
 | c::cs,a=>by
  show(Codec.encAll cs a.2).length+1=cs.length+1;rw[Zdv cs a.2]
end L2
end
set_option maxRecDepth 100000
namespace L2
open PySem PySem.Spec PyProof.Rows
theorem Wd.is {P:Program}{w:World}{H:Hp}{h:Heap}{a:Addr}{o:HO}(x:Wd P w H h a o):∃ob,h.get? a=some ob:=by
 cases o with
 | lst xs=>exact let ⟨_,_,_,_,e⟩:=x;⟨_,e⟩
 | tup xs=>exact let ⟨_,_,_,ob,e,_⟩:=x;⟨ob,e⟩
 | dK kvs=>exact let ⟨_,_,_,_,ob,_,_,e,_⟩:=x;⟨ob,e⟩
 | dT kvs=>exact let ⟨_,_,_,_,ob,_,_,e,_⟩:=x;⟨ob,e⟩
 | set S n=>exact let ⟨ob,_,_,_,e,_⟩:=x;⟨ob,e⟩
 | ins C dx fs=>exact let ⟨_,_,_,e,_⟩:=x;⟨_,e⟩
 | own y=>exact x
 | xd fs=>exact let ⟨_,⟨ob,_,_,e,_⟩,_⟩:=x;⟨ob,e⟩
 | rng lo hi=>exact let ⟨_,_,_,e⟩:=x;⟨_,e⟩
 | frz ob u=>exact let ⟨e,_⟩:=x;⟨_,e⟩
 | tbl ps=>exact⟨_,(show h.get? a=some _ from x)⟩
 | met f y=>exact⟨_,(show h.get? a=some _ from x)⟩
 | ext φ=>exact let ⟨_,e,_⟩:=x;e
theorem HOk.none {P:Program}{w:World}{H:Hp}{h:Heap}{a:Addr}(x:HOk P w H h)(e:h.get? a=Option.none):H a=Option.none:=by
 cases q:H a with
 | none=>rfl
 | some o =>
  obtain⟨ob,z⟩:=(x a o q).is;rw[e] at z;cases z
def Fly (h:Heap)(e T:Addr)(cls:Value):Prop :=
 ∃oe vs a0 oT ts,h.get? e=some oe/\(oe.cls=cls/\vs[0]?=some a0)/\oe.data=.fields vs/\vs[1]?=some (.ref T)/\T≠e/\h.get? T=some oT/\oT.data=.fields ts/\ts[3]?=some .none
structure ZkF (P:Program)(w:World)(cls:Value)(l:List Env)(H H':Hp)(h h':Heap)(e T:Addr):Prop where
 un:Un (frs l) [] H H' h h'
 hok:HOk P w H' h'
 ne:h.get? e=none
 nT:h.get? T=none
 fe:H' e=none
 fT:H' T=none
 fly:Fly h' e T cls
def CX1 (P:Program)(w:World)(C:Addr):CXT:=fun outer H s E v s' =>
 ∃e T H',v=.ref e/\s'.os=s.os/\AllBare s'.gens/\ZkF P w (.ref C) outer H H' s.heap s'.heap e T/\E (.ref C) none H'
noncomputable def Zef (h:Heap)(l:List Env)(e T:Addr):Heap:=PySem.W.hideAll h (frs l++[e,T])
def Zcz {h:Heap}{l:List Env}{e T b:Addr}{o:Obj}(q:h.get? b=some o)(n:b ∉ frs l)(ne:b≠e)(nT:b≠T):(Zef h l e T).get? b=some o :=
 PySem.W.hideAll_get _ q fun m=>by
  rcases y0d.mp m with z | z
  ·exact n z
  ·simp at z;exact z.elim ne nT
def Jo {h:Heap}{l:List Env}{e T:Addr}:(Zef h l e T).StaysIn h:=fun _ _ q=>PySem.W.of_hideAll _ q
def ZbD {P:Program}{w:World}{cls a0:Value}{l l':List Env}{H H':Hp}{h h' h2:Heap}{e T:Addr}{bs:Heap}(un:Un (frs l) [] H H' h h')(hok:HOk P w H' h')(ne:h.get? e=none)(nT:h.get? T=none)(fe:H' e=none)(fT:H' T=none)
  (hf:h'.FunFrames bs l) (fr:∀b∈frs l,H' b=none) (fl:Heap.FlyingW (Zef h' l e T) l' e cls a0 h2) (up:h'.UpToSlots h2) :
  ∃T',ZkF P w cls l H H' h h2 e T':=by
 obtain⟨st,_,_,oe,vs,T',oT,ts,he,hc,hd,h1,nT',hne,hT,hdT,h3⟩:=fl;have kp:∀b o,h'.get? b=some o->b ∉ frs l->b≠e->b≠T->h2.get? b=some o:=fun b o q n n1 n2=>st b o (Zcz q n n1 n2)
 have sl:∀b o,h'.get? b=some o->b∈frs l->∃s,h2.get? b=some { o with slots:=s }:=fun b o q m=>by
  obtain⟨_,o',ho',hnf⟩:=hf.mem m;rw[q] at ho';cases ho';exact up b o q hnf
 have nn:∀b o,h.get? b=some o->b≠e/\b≠T:=fun b o q=>⟨fun z=>(by rw[z,ne] at q;cases q),fun z=>(by rw[z,nT] at q;cases q)⟩
 have tk:∀b u,H' b=some u->b ∉ frs l/\b≠e/\b≠T:=fun b u q=>⟨fun z=>(by rw[fr b z] at q;cases q),fun z=>(by rw[z,fe] at q;cases q),fun z=>(by rw[z,fT] at q;cases q)⟩
 have nofr:T' ∉ frs l:=fun m=>by
  obtain⟨_,o',ho',hnf⟩:=hf.mem m;obtain⟨s,hs⟩:=sl T' o' ho' m;rw[hT] at hs;cases hs;exact hnf _ hdT
 refine⟨T',⟨fun b o q n hb hx=>kp b o (un.keep b o q n hb hx) hb (nn b o q).1 (nn b o q).2,fun b o q n hb hx=>?_,un.free,fun b o q hx=>?_,un.tups,un.frzs,un.tbls⟩,fun b u q=>?_,ne,?_,fe,?_,⟨oe,vs,a0,oT,ts,he,hc,hd,h1,hne,hT,hdT,h3⟩⟩
 ·obtain⟨s,e1⟩:=un.slot b o q n hb hx;obtain⟨s2,e2⟩:=sl b _ e1 hb;exact⟨s2,e2⟩
 ·obtain⟨o',e1⟩:=un.there b o q hx;by_cases m:b∈frs l
  ·obtain⟨s,e2⟩:=sl b _ e1 m;exact⟨_,e2⟩
  ·exact⟨o',kp b o' e1 m (nn b o q).1 (nn b o q).2⟩
 ·refine(hok b u q).stay (fun c v hc r=>?_) (fun _ z=>z) fun _ _ z=>z
  have z:∃u',H' c=some u':=by
   rcases hc with rfl | hc
   ·exact⟨u,q⟩
   ·exact⟨_,hc⟩
  obtain⟨u',z⟩:=z;exact kp c v r (tk c u' z).1 (tk c u' z).2.1 (tk c u' z).2.2
 ·cases q:h.get? T' with
  | none=>rfl
  | some o =>
   obtain⟨o',e1⟩:=un.there T' o q (by simp);rw[Zcz e1 nofr hne (nn T' o q).2] at nT';cases nT'
 ·cases q:H' T' with
  | none=>rfl
  | some u =>
   obtain⟨ob,z⟩:=(hok _ _ q).is;rw[Zcz z nofr hne (tk _ _ q).2.2] at nT';cases nT'
def Zjh {h:Heap}{l:List Env}{e T:Addr}:(Zef h l e T).get? e=none:=PySem.W.hideAll_none _ (by simp)
def ZlV {h:Heap}{l:List Env}{e T:Addr}:(Zef h l e T).get? T=none:=PySem.W.hideAll_none _ (by simp)
def Ui {h bs:Heap}{l:List Env}{e T:Addr}(hf:h.FunFrames bs l):h.FunFrames (Zef h l e T) l :=
 PySem.W.funFrames_hide hf fun env he a ha=>List.mem_append_left _ (List.mem_filterMap.mpr ⟨env,he,ha⟩)
theorem Fly.traced {h:Heap}{l:List Env}{e T:Addr}{cls:Value}(f:Fly h e T cls):∃a0,h.TracedW (Zef h l e T) e cls a0:=by
 obtain⟨oe,vs,a0,oT,ts,he,hc,hd,h1,hne,hT,hdT,h3⟩:=f;exact⟨a0,oe,vs,T,oT,ts,he,hc,hd,h1,ZlV,hne,hT,hdT,h3⟩
theorem Inv.flown {X:Cx}{pins:List (Addr×Obj)}{σ:St}{H H':Hp}{s s':Shared}{cls:Value}{e T:Addr}(I:Inv X pins σ H s)(os:s'.os=s.os)(bare:AllBare s'.gens)
  (F:ZkF X.prog X.w cls X.stack H H' s.heap s'.heap e T):Inv X pins σ H' s':=I.call' os F.un F.hok bare fun b z=>absurd z (by simp)
section
variable {P:Program}{w:World}{K:Frag}{mg:Str->Option Value}{base:Heap}{N:List Str}{qual:Str}{scope:Scope}{f C:Addr}{cd:Value}{A:Around}{outer:List Env}{s:Shared}{H:Hp}{E:XK}
noncomputable abbrev cxE (P:Program)(w:World)(K:Frag)(mg:Str->Option Value)(base:Heap)(C:Addr)(N:List Str)(qual:Str)(scope:Scope)(f:Addr)(cd:Value)(A:Around)(outer:List Env)(s:Shared)(H:Hp)(E:XK):Cx :=
 cxOf (CX1 P w C) P w K mg base N qual scope f cd A outer s H E
def Zfr {pins:List (Addr×Obj)}{σ:St}{H1 H':Hp}{s1 s2:Shared}{e T:Addr}(I:Inv (cxE P w K mg base C N qual scope f cd A outer s H E) pins σ H1 s1)(os:s2.os=s1.os)(bare:AllBare s2.gens)
  (F:ZkF P w (.ref C) (cxE P w K mg base C N qual scope f cd A outer s H E).stack H1 H' s1.heap s2.heap e T) (hE:E (.ref C) none H'):CX1 P w C outer H s E (.ref e) s2:=by
 have J:=I.flown os bare F;have old:∀b,s1.heap.get? b=none->s.heap.get? b=none:=fun b n=>by
  cases q:s.heap.get? b with
  | none=>rfl
  | some o =>
   obtain⟨o',z⟩:=I.base.there b o q (by show b ∉ ([]:List Addr);simp);rw[n] at z;cases z
 exact⟨e,T,H',rfl,J.os,J.bare,⟨J.base,J.hok,old _ F.ne,old _ F.nT,F.fe,F.fT,F.fly⟩,hE⟩
def Ye:Wq (CX1 P w C) (cxE P w K mg base C N qual scope f cd A outer s H E) E:=by
 intro pins σ H1 s1 v s' I h;obtain⟨e,T,H',rfl,os,bare,F,hE⟩:=h;have J:=I.flown os bare F;obtain⟨a0,tr⟩:=F.fly.traced (l:=(cxE P w K mg base C N qual scope f cd A outer s H E).stack);refine wpAny_leaves_onW (L:=s.heap.objs.size) J.ok.frames rfl ⟨Jo,Zjh,Ui J.stack,tr⟩ fun h2 fl up=>?_
 obtain⟨T',F'⟩:=ZbD F.un F.hok F.ne F.nT F.fe F.fT J.stack J.stkFree fl up;exact Zfr (s2:={ s' with heap:=h2 }) I os bare F' hE
def Zl7 {pins:List (Addr×Obj)}{σ:St}{H1:Hp}{s1:Shared}{e:Addr}{h':Heap}{vs:List Value}(I:Inv (cxE P w K mg base C N qual scope f cd A outer s H E) pins σ H1 s1)(m:Heap.MadeExcOf s1.heap h' e (.ref C) vs)(hE:E (.ref C) none H1):
  (cxE P w K mg base C N qual scope f cd A outer s H E).xe (.ref e) { s1 with heap:=h' }:=by
 have fe:=I.hok.none m.new;refine wpAny_leaves_madeW (base:=Zef s1.heap (cxE P w K mg base C N qual scope f cd A outer s H E).stack e e) (h:=s1.heap) (L:=s.heap.objs.size) I.ok.frames rfl Jo (Ui I.stack) m fun h2 t fl _ _ up=>?_
 obtain⟨T',F'⟩:=ZbD (Un.refl) I.hok m.new m.new fe fe I.stack I.stkFree fl ((Heap.UpToSlots.of_keeps m.keeps).trans up);exact Zfr (s2:={ s1 with heap:=h2 }) I rfl I.bare F' hE
end
structure Exc (K:Frag)(mg:Str->Option Value)(x:Str)(C:Addr):Prop where
 mgE:mg x=some (.ref C)
 q:PySem.W.excIn K C [.type "ValueError",.type "Exception",.type "BaseException",.type "object"] "ValueError.__new__"=true
theorem no {P:Prop}(q:false=true):P:=by cases q
theorem Exc.obj {K:Frag}{mg:Str->Option Value}{x:Str}{C:Addr}{h:Heap}(T:Exc K mg x C)(X:K.In h):
  OwnCls x C [.type "ValueError",.type "Exception",.type "BaseException",.type "object"] "ValueError.__new__" mg h:=by
 refine⟨T.mgE,Classical.byContradiction fun hG=>?_⟩;have q:=T.q;unfold PySem.W.excIn at q
 rcases ho:K.lookup C with _ | ⟨ty,dd,pl,sl⟩<;>rw[ho] at q
 ·exact no q
 cases ty with
 | type s=>
  by_cases hs:s="type"
  ·subst hs;cases pl with
   | cls cd=>
    obtain⟨nm,bs,mro,ns,qn,hd,sn,sub,ab,col,del⟩:=cd;rcases mro with _ | ⟨v,bm⟩
    ·exact no q
    cases v with
    | ref C'=>
     obtain⟨l⟩:=sl;rcases l with _ | ⟨k0,_ | ⟨k1,_ | ⟨k2,_ | ⟨k3,_ | ⟨k4,l⟩⟩⟩⟩⟩
     rotate_left 5
     ·rcases k4 with _ | k4
      ·exact no q
      cases k4 with
      | builtin n=>
       rcases l with _ | ⟨k5,_ | _⟩
       rotate_left 1
       ·have q:(C'==C && n=="ValueError.__new__" && !del && PySem.W.tailIn K [.type "ValueError",.type "Exception",.type "BaseException",.type "object"] bm && PySem.W.nsOkIn K ns && PySem.W.nsIn K ns "__init__"==some none)=true:=q
        simp only[Bool.and_eq_true,beq_iff_eq,Bool.not_eq_true'] at q;obtain⟨⟨⟨⟨⟨rfl,rfl⟩,rfl⟩,e4⟩,e5⟩,e6⟩:=q;exact hG ⟨bm,ns,nm,qn,bs,hd,sn,sub,ab,col,dd,k0,k1,k2,k3,k5,_,X _ _ ho,.of_isNs (PySem.W.isNs_of_in X e5),PySem.W.nsMap_none_of_in X e5 e6,PySem.W.tail_of_in X e4⟩
       all_goals exact no q
      | _=>exact no q
     all_goals exact no q
    | _=>exact no q
   | _=>exact no q
  ·delta PySem.W.excIn.match_6 at q;exact no ((dif_neg hs).symm.trans q)
 | _=>exact no q
def Zc4 (C:Addr)(E:XK)(ta:TA):TS:=fun _ σ H=>ta σ H fun vs H1=>vs.length<=sizeLine/\E (.ref C) none H1
def Wo {P:Program}{w:World}{K:Frag}{mg:Str->Option Value}{base:Heap}{N:List Str}{qual:Str}{scope:Scope}{f C:Addr}{cd:Value}{A:Around}{outer:List Env}{s:Shared}{H:Hp}{E:XK}{x:Str}{np cpos pos:Pos}{a:Expr}{as:List Expr}{ta:TA}
  (T:Exc K mg x C) (hg:Gl (cxE P w K mg base C N qual scope f cd A outer s H E) x) (ha:PA (cxE P w K mg base C N qual scope f cd A outer s H E) (a::as) ta)
  (he:autoParam (starEach (a::as) (cxE P w K mg base C N qual scope f cd A outer s H E).env=(false,eval a (cxE P w K mg base C N qual scope f cd A outer s H E).env)::starEach as (cxE P w K mg base C N qual scope f cd A outer s H E).env) q_1)
  (hpl:autoParam ((backTo cpos (starEach as (cxE P w K mg base C N qual scope f cd A outer s H E).env)).any (·.1)=false) q_1) (hdb:autoParam ((x==("__debug__":Str))=false) q_2) :
  PS (cxE P w K mg base C N qual scope f cd A outer s H E) (.Raise (some (.Call (.Name x np) (a::as) [] cpos)) none pos) (Zc4 C E ta):=by
 intro pins s1 σ H1 D I h;obtain⟨bm,N',nm,q,bs,hdct,sn,sub,ab,col,dd,k0,k1,k2,k3,k5,mN,hC,hN,hni,TL⟩:=(T.obj I.ok.mod.kin).obj;refine wpAny_Raise_call_subU (C:=C) (nm:=nm) (q:=q) (N:=N') (bs:=bs) (bm:=bm) (hdct:=hdct) (sn:=sn) (sub:=sub) (ab:=ab) (col:=col) (dd:=dd) (k0:=k0) (k1:=k1) (k2:=k2) (k3:=k3) (k5:=k5) (mN:=mN)
  PySem.F.excBase_ValueError (by decide) PySem.F.excBase_ValueError (TL.hasType (by decide)) (I.ok.hd rfl) (by rw[he];exact hpl) hni (Jj I hg T.mgE ⟨rfl,?_⟩ hdb)
 have hw:=ha cpos pins s1 σ H1 _ I h;rw[he] at hw ⊢;refine Calls.evalArgs_plain (thn hw fun us s2 ⟨vs,H2,I2,r,hl,hq⟩=>⟨rfl,?_,I2.bk _ _ hC,hN.keeps I2.bk,TL.keeps I2.bk,fun h' e m=>Zl7 I2 m hq⟩);show us.length<=sizeLine;rw[<- r.length];exact hl
noncomputable abbrev Cx.marked (X:Cx)(e:Addr):Cx:={ X with A:=X.A.mark (some (.ref e)),calm:=false,xe:=fun _ _=>False }
section
variable {X:Cx}{pins:List (Addr×Obj)}{σ:St}{H:Hp}{s:Shared}{e:Addr}
theorem Inv.marked (I:Inv X pins σ H s)(e:Addr):Inv (X.marked e) pins σ H s :=
 ⟨⟨I.ok.mod,I.ok.kind,I.ok.glob,I.ok.blt,I.ok.above,I.ok.inj,I.ok.has,I.ok.cab,fun z=>absurd z (by simp),I.ok.frames,I.ok.stk,I.ok.exf,I.ok.bs,I.ok.bsz,I.ok.noex,I.ok.exfs,I.ok.funs,I.ok.frf⟩,
  I.os,I.bare,I.base,I.loc,I.cell,I.free,I.freeC,I.pin,I.hok,I.len⟩
theorem Inv.unmarked (ok:X.Ok)(I:Inv (X.marked e) pins σ H s):Inv X pins σ H s :=
 ⟨ok,I.os,I.bare,I.base,I.loc,I.cell,I.free,I.freeC,I.pin,I.hok,I.len⟩
theorem SP.unmarked (ok:X.Ok){D:Ends}{f:Flow}{s':Shared}(h:SP (X.marked e) pins D f s'):SP X pins D f s':=by
 cases f with
 | next=>obtain⟨σ',H',I,q⟩:=h;exact⟨σ',H',I.unmarked ok,q⟩
 | brk=>obtain⟨σ',H',I,q⟩:=h;exact⟨σ',H',I.unmarked ok,q⟩
 | cont=>obtain⟨σ',H',I,q⟩:=h;exact⟨σ',H',I.unmarked ok,q⟩
 | ret u=>obtain⟨v,σ',H',I,r,q⟩:=h;exact⟨v,σ',H',I.unmarked ok,r,q⟩
end
abbrev TX:=Ends->XK->St->Hp->Prop
def Zju (X:Cx)(C:Addr)(pins:List (Addr×Obj))(σ:St)(E:XK)(v:Value)(s':Shared):Prop:=∃s1 H1,Inv X pins σ H1 s1/\CX1 X.prog X.w C X.stack H1 s1 E v s'
def PXS (X:Cx)(C:Addr)(st:Stmt)(t:TX):Prop :=
 ∀(pins:List (Addr×Obj)) (s:Shared) (σ:St) (H:Hp) (D:Ends) (E:XK),Inv X pins σ H s->t D E σ H->wpAny (model X.prog X.w) X.A (exec st X.env) (SP X pins D) (Zju X C pins σ E) s
def PXE (X:Cx)(C:Addr)(e:Expr)(t:St->Hp->VK->XK->Prop):Prop :=
 ∀(pins:List (Addr×Obj)) (s:Shared) (σ:St) (H:Hp) (Q:VK) (E:XK),Inv X pins σ H s->t σ H Q E->wpAny (model X.prog X.w) X.A (eval e X.env) (EP X pins σ Q) (Zju X C pins σ E) s
def Zin (sp:Sp)(dvs:List V)(t:TA):St->Hp->VK->XK->Prop:=fun σ H Q E=>t σ H fun vs H1=>sp (vs++dvs) H1 Q E
section
variable {X:Cx}{k:Nat}{f C:Addr}{fd:FuncData}{ps:List Str}{sp:Sp}{dvs:List V}{ds:List Value}{x:Str}{p pos:Pos}{e:Expr}{es:List Expr}{t:TA}
def Zlc {i:Nat}{y:Str}{pos':Pos}{te:St->Hp->VK->XK->Prop}(hN:X.N.Nodup)(hi:X.N[i]?=some y)(hx:Loc X.env.scope y)(he:PXE X C e te)(hs:autoParam (swapsWith e (some (.Name y pos')) pos.line X.env=pure false) q_1)
  (hf:autoParam (X.fn y=true\/X.env.scope.names.lookup y=some .local) q_3):PXS X C (.Assign [.Name y pos'] e pos) (fun D E σ H=>te σ H (fun v H1=>D.nx (σ.set i (some v)) H1) E):=by
 intro pins s σ H D E I h;refine wpAny_Assign_Name (thn (he pins s σ H _ E I h) fun v s1 ⟨z,H1,I1,r1,q1⟩=>?_) hs;exact Zby I1 hN hi hx r1 (fun s2 I2=>⟨_,H1,I2,q1⟩) hf
def ZmV {x:Str}{np hpos:Pos}{b0:Stmt}{suite:List Stmt}{ts:Addr->TS}{pins:List (Addr×Obj)}{σ:St}{D:Ends}{v:Value}{s':Shared}(T:Exc X.K X.mg x C)(hg:Gl X x)(hst:X.stack=X.env::X.outer/\X.env.frame=some X.env.locals)
  (hs:∀e,PSs (X.marked e) (b0::suite) (ts e)) (h:Zju X C pins σ (fun _ _ H1=>∀e,ts e D σ H1) v s') (hdb:autoParam ((x==("__debug__":Str))=false) q_2) :
  wpAny (model X.prog X.w) X.A (noteFrame v X.env) (fun _ s₂=>wpAny (model X.prog X.w) X.A (setFlight v none) (fun _ s₃ =>
   wpAny (model X.prog X.w) X.A (handleBy v X.env [.ExceptHandler (some (.Name x np)) none (b0::suite) hpos]) (SP X pins D) X.xe s₃) X.xe s₂) X.xe s':=by
 obtain⟨s1,H1,I,e,T0,H',rfl,os,bare,F,hq⟩:=h;have J:=I.flown os bare F;obtain⟨a0,tr⟩:=F.fly.traced (l:=X.stack);have hfr:X.A.frames=some (X.env::X.outer):=by rw[<- hst.1];exact J.ok.frames
 have fl0:Heap.FlyingW (Zef s'.heap X.stack e T0) (X.env::X.outer) e (.ref C) a0 s'.heap:=⟨Jo,Zjh,by rw[<- hst.1];exact Ui J.stack,tr⟩;refine wpAny_looks_onW hfr hst.2 fl0 fun h4 held4 up4=>?_
 refine wpAny_landsW held4 fun h5 fl5 up5'=>?_
 have up5:=up4.trans up5';obtain⟨T5,F5⟩:=ZbD F.un F.hok F.ne F.nT F.fe F.fT J.stack J.stkFree fl5 up5;have I5:Inv X pins σ H' { s' with heap:=h5 }:=I.flown (s':={ s' with heap:=h5 }) os bare F5;obtain⟨ob,hob,hobc⟩:=fl5.there;obtain⟨bm,N',nm,q,bs,hdct,sn,sub,ab,col,dd,k0,k1,k2,k3,k5,mN,hC,hN,hni,TL⟩:=(T.obj I5.kIn).obj;refine wpAny_handleBy_cons (codeAny_handlers_test ?_) (by intro q;cases q);refine Jj (I5.marked e) hg T.mgE ?_ hdb;refine wpAny_excMatches_sub_self hC hob hobc (TL.hasType (by decide)) (codeAny_handlers_suite ?_);refine lands_againW fl5 fun h6 fl6 up6=>?_
 obtain⟨T6,F6⟩:=ZbD F.un F.hok F.ne F.nT F.fe F.fT J.stack J.stkFree fl6 (up5.trans up6);have I6:Inv X pins σ H' { s' with heap:=h6 }:=I.flown (s':={ s' with heap:=h6 }) os bare F6;exact wpAny_mono (hs e pins _ σ H' D (I6.marked e) (hq e)) (fun f s2 q=>q.unmarked I6.ok) fun _ _ z=>False.elim z
def Zmf {st:Stmt}{tx:TX}{x:Str}{np hpos:Pos}{b0:Stmt}{suite:List Stmt}{ts:Addr->TS}(T:Exc X.K X.mg x C)(hg:Gl X x)(hb:PXS X C st tx)(hs:∀e,PSs (X.marked e) (b0::suite) (ts e))
  (hst:X.stack=X.env::X.outer/\X.env.frame=some X.env.locals:=by exact⟨rfl,rfl⟩) (hdb:autoParam ((x==("__debug__":Str))=false) q_2) :
  PS X (.Try [st] [.ExceptHandler (some (.Name x np)) none (b0::suite) hpos] [] [] pos) (fun D σ H=>tx D (fun _ _ H1=>∀e,ts e D σ H1) σ H):=by
 intro pins s σ H D I h;refine wpAny_Try_except (wpAny_execs_cons (wpAny_mono (hb pins s σ H D _ I h) (fun f s1 q=>?_) fun v s1 q=>ZmV T hg hst hs q hdb));cases f with
 | next=>exact wpAny_execs_nil (wpAny_execs_nil q)
 | ret v=>exact q
 | brk=>exact q
 | cont=>exact q
end
end L2
end
section
namespace L2
open PySem PySem.Spec PyProof.Rows PySem.Calls
section
variable {X:Cx}
def tFv (te:TE):TE:=fun σ H Q=>te σ H fun v H1=>∃i:Int,v=.int i/\i.natAbs.log2<1920/\Q (.str (toString i)) H1
def Zli {e:Expr}{te:TE}{pos:Pos}(he:PE X e te):PE X (.FormattedValue e (-1) none pos) (tFv te):=by
 intro pins s σ H Q I h;refine FormattedValue_plain (thn (he pins s σ H _ I h) fun u s1 ⟨v,H1,I1,r,i,e,hi,q⟩=>?_);subst e;obtain⟨t,rfl⟩:=r;exact formatField_int_small hi ⟨.str (toString i),H1,I1.tok _,⟨_,rfl⟩,q⟩
def Zk6:List TE->Str->TE
 | [],acc=>fun _ H Q=>acc.length<=sizeLine/\Q (.str acc) H
 | t::ts,acc=>fun σ H Q=>t σ H fun v H1=>∃x,v=.str x/\(acc++x).length<=sizeLine/\Zk6 ts (acc++x) σ H1 Q
inductive PEs (X:Cx):List Expr->List TE->Prop
 | nil:PEs X [] []
 | cons {e:Expr}{t:TE}{es:List Expr}{ts:List TE}:PE X e t->PEs X es ts->PEs X (e::es) (t::ts)
def Znd {es:List Expr}{ts:List TE}(h:PEs X es ts):∀(acc:Str) {pins:List (Addr×Obj)}{s:Shared}{σ:St}{H:Hp}{Q:VK},Inv X pins σ H s->Zk6 ts acc σ H Q ->
  wpAny (model X.prog X.w) X.A (joinParts acc (evalEach es X.env)) (EP X pins σ Q) X.xe s:=by
 induction h with
 | nil =>
  intro acc pins s σ H Q I ⟨hz,q⟩;exact joinParts_nil ⟨.str acc,H,I.tok _,⟨_,rfl⟩,q⟩ hz
 | cons he hs ih =>
  intro acc pins s σ H Q I h;refine joinParts_cons (thn (he pins s σ H _ I h) fun u s1 ⟨v,H1,I1,r,x,e,hx,q⟩=>?_);subst e;obtain⟨t,rfl⟩:=r;exact⟨hx,ih _ I1 q⟩
def Zf7 {e1 e2:Expr}{es:List Expr}{ts:List TE}{pos:Pos}(h:PEs X (e1::e2::es) ts):PE X (.JoinedStr (e1::e2::es) pos) (Zk6 ts Str.empty):=by
 intro pins s σ H Q I q;exact JoinedStr_many (Znd h _ I q)
def ZjZ:MtR X "str.rjust" (fun x xs H Q=>∃a i,x=.str a/\xs=[.int i]/\PySem.PadOk i=true/\Q (.str (Txt.rjust a i)) H):=by
 intro pins s σ H x xs v us Q I rx rs h;obtain⟨a,i,rfl,rfl,hp,h⟩:=h;obtain⟨t,rfl⟩:=rx;cases rs with
 | cons r1 rs =>
  cases rs;obtain⟨u,rfl⟩:=r1;exact PySem.SC.rjust hp fun t' k=>⟨.str _,H,I.tok k,⟨_,rfl⟩,h⟩
def ZjK {o e:Expr}{to te:TE}{apos pos:Pos}(ho:PE X o to)(he:PE X e te)(hs:autoParam (starEach [e] X.env=[(false,eval e X.env)]) q_1)(hbase:autoParam (attributeBase o "rjust" X.env (eval o X.env)=eval o X.env) q_1)(hline:autoParam ((apos.endLine==pos.line)=true) q_1):
  PE X (.Call (.Attribute o "rjust" apos) [e] [] pos) (tM1 (fun x xs H Q=>∃a i,x=.str a/\xs=[.int i]/\PySem.PadOk i=true/\Q (.str (Txt.rjust a i)) H) to te):=Zm8 F.slot_str_rjust F.type_str_rjust ZjZ ho he hs hbase hline
theorem ZhO:OpR X (binaryOp .Mult) (fun x y H Q=>∃(a:Str) (n:Int),x=.str a/\y=.int n/\1<=n/\n<=1000/\a.length=1/\Q (.str ⟨(List.replicate n.toNat a.cps).foldl (·++·) #[]⟩) H):=by
 intro pins s σ H x y v u Q I rx ry h;obtain⟨a,n,rfl,rfl,h1,h2,ha,q⟩:=h;obtain⟨t,rfl⟩:=rx;obtain⟨t',rfl⟩:=ry;have c1:¬ n<1:=by lia
 have hl:Builtin.Str.tooLong (a.length * n.toNat)=false:=by
  rw[ha];unfold Builtin.Str.tooLong;have hz:sizeLine=16777216:=by decide
  simp;lia
 refine PySem.P.mul_str ?_ (fun _ _=>?_) (fun _ _=>hl) ?_
 ·simp;lia
 ·rw[ha];have:(2 ^ 63-1:Int) / n ≥ 1:=by
   have:(1:Int) * n<=2 ^ 63-1:=by lia
   exact(Int.le_ediv_iff_mul_le (by lia)).mpr this
  intro z;have z':(1:Int) > (2 ^ 63-1) / n:=z;lia
 ·rw[if_neg c1];by_cases e:n=1
  ·subst e;rw[if_pos (by simp)];have e2:(⟨(List.replicate (Int.toNat 1) a.cps).foldl (·++·) #[]⟩:Str)=a:=by
    cases a;simp[List.replicate]
   rw[e2] at q;exact⟨.str _,H,I,⟨_,rfl⟩,q⟩
  ·rw[if_neg (by rw[ha];simp;exact e)];exact⟨fits_reps hl,⟨.str _,H,I.tok _,⟨_,rfl⟩,q⟩⟩
end
end L2
set_option maxRecDepth 100000
namespace L2
open PySem PySem.Spec PyProof.Rows
section
variable {P:Program}{w:World}{K:Frag}{mg:Str->Option Value}{base:Heap}
theorem Fun.okE {x qual:Str}{st:Stmt}{f C:Addr}{fd:FuncData}{N ps:List Str}{k:Nat}{sp:Sp}(F:Fun K x qual st f fd)(S:Zm N ps (Zh st))(len:∀vs H Q E,sp vs H Q E->vs.length=ps.length)
  (hbody:∀(cdv:Value) (A:Around) (outer:List Env) (s:Shared) (H:Hp) (vs:List V) (Q:VK) (E:XK),Room k (A.deeper (envOfC qual (Zh st) s.heap.objs.size f cdv))->sp vs H Q E ->
   ∃t,PSs (cxE P w K mg base C N qual (Zh st) f cdv A outer s H E) (ZI st) t/\t { nx:=fun _ H'=>Q .non H',rt:=Q } (start N vs) H):FnOk P w K mg base (CX1 P w C) (k+1) f fd ps sp:=by
 obtain⟨oc,od,kV,doc,pm,an,cdv,ct,osl,rfl,lk,hcd⟩:=F.ex;exact ZlN lk hcd S len fun A outer s H vs Q E hr hsp=>hbody cdv A outer s H vs Q E hr hsp
end
structure FnC (P:Program)(w:World)(K:Frag)(mg:Str->Option Value)(base:Heap)(CX:CXT)(k:Nat)(x:Str)(ps:List Str)(sp:Sp):Prop where
 ex:∃f fd,mg x=some (.ref f)/\keepIn K (.ref f)=true/\We K fd ps []/\FnOk P w K mg base CX k f fd ps sp
structure Yn (P:Program)(w:World)(K:Frag)(mg:Str->Option Value)(base:Heap)(CX:CXT)(k:Nat)(C:Addr)(m:Str)(ps:List Str)(sp:Sp):Prop where
 ex:∃f fd,Meth K C m f/\We K fd ps []/\FnOk P w K mg base CX k f fd ps sp
structure Zeo (P:Program)(w:World)(K:Frag)(mg:Str->Option Value)(base:Heap)(CX:CXT)(k:Nat)(C:Addr)(x:Str)(ps:List Str)(sp:Sp):Prop where
 ex:∃f fd,mg x=some (.ref C)/\Mk K C f/\We K fd ps []/\FnOk P w K mg base CX k f fd ps sp
section
variable {X:Cx}{CX:CXT}{j k:Nat}{C:Addr}{ps:List Str}{sp:Sp}{E:XK}{x m:Str}{p pos apos:Pos}{e o:Expr}{es:List Expr}{ta:TE}{t:TA}
def Zi (c:FnC X.prog X.w X.K X.mg X.base CX j x ps sp)(hr:Room k X.A)(hx:Wq CX X E)(ha:PA X (e::es) t)(hjk:autoParam (j<=k) q_2)(hg:autoParam (Gl X x) q_1)
  (hdb:autoParam ((x==("__debug__":Str))=false) q_2) (he:autoParam (starEach (e::es) X.env=(false,eval e X.env)::starEach es X.env) q_1) (hpl:autoParam ((backTo pos (starEach es X.env)).any (·.1)=false) q_1) :
  PE X (.Call (.Name x p) (e::es) [] pos) (ZcK sp [] E t):=by
 obtain⟨f,fd,hm,hk,hb,F⟩:=c.ex;exact Zlj F (hr.mono hjk) hg hm hk hb .nil hx ha hdb he hpl
def Zt {pl:Sem Bool}(he:PE X o ta)(c:Cls X.K C)(F:Yn X.prog X.w X.K X.mg X.base CX j C m ps sp)(hr:Room k X.A)(hx:Wq CX X E)(ha:PA X (e::es) t)(hjk:autoParam (j<=k) q_2)
  (hst:autoParam (starEach (e::es) X.env=(false,eval e X.env)::starEach es X.env) q_1) (hpl:autoParam ((backTo pos (starEach es X.env)).any (·.1)=false) q_1)
  (ht:eval (.Call (.Attribute o m apos) (e::es) [] pos) X.env=(do
   let ov <- eval o X.env
   standAt apos.atName
   let (f,first) <- holding [ov] (getMethod ov m pl)
   callWith pos f first (backTo pos (starEach (e::es) X.env)) (backToKw pos (keywordEach [] X.env))):=by rfl) :
  PE X (.Call (.Attribute o m apos) (e::es) [] pos) (ZdG C m sp [] E ta t):=by
 obtain⟨f,fd,hm,hb,F⟩:=F.ex;exact Zlg he c hm F (hr.mono hjk) hb .nil hx ha hst hpl ht
def Xo {pl:Sem Bool}(he:PE X o ta)(c:Cls X.K C)(F:Yn X.prog X.w X.K X.mg X.base CX j C m ps sp)(hr:Room k X.A)(hx:Wq CX X E)(hjk:autoParam (j<=k) q_2)
  (ht:autoParam (eval (.Call (.Attribute o m apos) [] [] pos) X.env=(do
   let ov <- eval o X.env
   standAt apos.atName
   let (f,first) <- holding [ov] (getMethod ov m pl)
   callWith pos f first (backTo pos (starEach [] X.env)) (backToKw pos (keywordEach [] X.env)))) q_1) :
  PE X (.Call (.Attribute o m apos) [] [] pos) (ZdG C m sp [] E ta tNil):=by
 obtain⟨f,fd,hm,hb,F⟩:=F.ex;exact ZjL he c hm F (hr.mono hjk) hb .nil hx ht
def W6 (c:Zeo X.prog X.w X.K X.mg X.base CX j C x ps sp)(hr:Room k X.A)(hx:Wq CX X E)(ha:PA X (e::es) t)(hjk:autoParam (j+1<=k) q_2)(hg:autoParam (Gl X x) q_1)
  (hdb:autoParam ((x==("__debug__":Str))=false) q_2) (he:autoParam (starEach (e::es) X.env=(false,eval e X.env)::starEach es X.env) q_1) (hpl:autoParam ((backTo pos (starEach es X.env)).any (·.1)=false) q_1) :
  PE X (.Call (.Name x p) (e::es) [] pos) (ZeB C sp [] E t):=by
 obtain⟨f,fd,hm,M,hb,F⟩:=c.ex;exact Zlh M F (hr.mono hjk) hg hm hb .nil hx ha hdb he hpl
def ZP {i:Int}(h:∃u,X.mg x=some (.int i u))(hg:autoParam (Gl X x) q_1)(hd:autoParam ((x==("__debug__":Str))=false) q_2):PE X (.Name x pos) (tC (.int i)):=by
 obtain⟨u,h⟩:=h;exact ZiB hg h ⟨u,rfl⟩ hd
def Ja {a:Addr}(h:X.mg x=some (.ref a))(hg:autoParam (Gl X x) q_1)(hd:autoParam ((x==("__debug__":Str))=false) q_2):PE X (.Name x pos) (tC (.ref a)):=ZiB hg h (show RelV (.ref a) (.ref a) from rfl) hd
end
def Kp (S:List Addr)(H H':Hp):Prop:=∀b o,H b=some o->b ∉ S->H' b=some o
theorem Kp.refl {S:List Addr}{H:Hp}:Kp S H H:=fun _ _ e _=>e
theorem Kp.trans {S:List Addr}{H H1 H2:Hp}(a:Kp S H H1)(b:Kp S H1 H2):Kp S H H2:=fun c o e n=>b c o (a c o e n) n
theorem Kp.mono {S S':List Addr}{H H1:Hp}(a:Kp S H H1)(h:∀b∈S,b∈S'):Kp S' H H1:=fun c o e n=>a c o e fun z=>n (h c z)
theorem Kp.put {S:List Addr}{H:Hp}{a:Addr}{o:HO}(h:a∈S):Kp S H (upd H a o):=fun c u e n=>by
 have z:c≠a:=fun z=>n (by rw[z];exact h)
 rw[Zk z];exact e
theorem Kp.new {S:List Addr}{H:Hp}{a:Addr}{o:HO}(h:H a=none):Kp S H (upd H a o):=fun c u e n=>by rw[Zk (Zf e h)];exact e
theorem Kp.put2 {S:List Addr}{H H1:Hp}{a:Addr}{o:HO}(k:Kp S H H1)(h:a∈S\/H a=none):Kp S H (upd H1 a o):=fun c u e n=>by
 have z:c≠a:=fun z=>by
  subst z;rcases h with h | h
  ·exact n h
  ·rw[h] at e;cases e
 rw[Zk z];exact k c u e n
theorem Kp.free {S:List Addr}{H H1:Hp}(k:Kp S H H1){a:Addr}(n:a ∉ S)(h:H1 a=none):H a=none:=by
 cases q:H a with
 | none=>rfl
 | some o=>rw[k a o q n] at h;cases h
theorem Kp.seq {K:Frag}{S:List Addr}{H H':Hp}{a:Addr}{xs:List V}(e:Kp S H H')(n:a ∉ S)(h:SqL K H a xs):SqL K H' a xs:=by
 rcases h with(h | ⟨o,h⟩) | h
 ·exact .inl (.inl (e _ _ h n))
 ·exact .inl (.inr ⟨o,e _ _ h n⟩)
 ·exact .inr h
theorem Kp.z {S:List Addr}{H H':Hp}{b:Addr}{o:HO}(k:Kp S H H')(e:H b=some o)(n:b ∉ S:=by simp):H' b=some o:=k _ _ e n
def Zx {H:Hp}{a b:Addr}{o u:HO}(n:b≠a)(h:H b=some u):upd H a o b=some u:=by rw[Zk n];exact h
section
variable {σ:St}{H:Hp}{Q:VK}{D:Ends}{N B C2:St->Hp->Prop}{R:VK}{K:Frag}{E:XK}
def ZnD {G:Prop}(h:∀G':Prop,(G->G')->G'):G:=h G id
def ZmM {t u:TS}(h:∀M:TS,(∀D σ H,u D σ H->M D σ H)->t ⟨M ⟨N,R,B,C2⟩,R,B,C2⟩ σ H):tSeq t u ⟨N,R,B,C2⟩ σ H:=h u fun _ _ _ z=>z
def g_nx (h:N σ H):Ends.nx ⟨N,R,B,C2⟩ σ H:=h
def g_rt {v:V}(h:R v H):Ends.rt ⟨N,R,B,C2⟩ v H:=h
def ZmF (h:D.nx σ H):Zhx D σ H:=h
def Znw {c:TT}{t u:TS}(h:c σ H fun b H1=>if b=true then t D σ H1 else u D σ H1):tIfS c t u D σ H:=h
def Znl {te:TE}(h:te σ H D.rt):tRet te D σ H:=h
def ZmN {te:TE}(h:te σ H fun _ H1=>D.nx σ H1):Zhy te D σ H:=h
def ZnB {te:TE}{g:TG}(h:te σ H fun x H1=>g x σ H1 D.nx):tAsg te g D σ H:=h
def g_or {t u:TT}{Qb:Bool->Hp->Prop}(h:t σ H fun c H1=>if c=true then Qb true H1 else u σ H1 Qb):tOr t u σ H Qb:=h
def ZnC {t u:TT}{Qb:Bool->Hp->Prop}(h:t σ H fun c H1=>if c=true then u σ H1 Qb else Qb false H1):tAnd t u σ H Qb:=h
def Znn {t:TT}{Qb:Bool->Hp->Prop}(h:t σ H fun c H1=>Qb (!c) H1):tNot t σ H Qb:=h
def ZmB {t:TE}{Qb:Bool->Hp->Prop}(h:t σ H fun x H'=>∃k,x=.bl k/\Qb k H'):ZfW t σ H Qb:=h
def g_B {t:TE}{Qb:Bool->Hp->Prop}(h:t σ H fun x H'=>∃k,x=.bl k/\Qb k H'):tB t σ H Qb:=h
def Zni {Qb:Bool->Hp->Prop}(h:Qb true H):tYes σ H Qb:=h
def Znz {c:Bool}{P:Bool->Prop}(h:P c):∃k,V.bl c=V.bl k/\P k:=⟨c,rfl,h⟩
def Zny {c:Int}{P:Int->Prop}(h:P c):∃k,V.int c=V.int k/\P k:=⟨c,rfl,h⟩
def Zns {q:Addr}{α:Type}{P:Addr->α->Prop}(h:∃y,P q y):∃p y,[V.ref q]=[V.ref p]/\P p y:=let ⟨y,z⟩:=h;⟨q,y,rfl,z⟩
def Znr {q r:Int}{P:Int->Int->Prop}(h:P q r):∃p p',[V.int q,V.int r]=[V.int p,V.int p']/\P p p':=⟨q,r,rfl,h⟩
def g_op {r:R2}{ta tb:TE}(h:ta σ H fun x H1=>tb σ H1 fun y H2=>r x y H2 Q):tOp r ta tb σ H Q:=h
def Znm {g:Int->Int->V}{i j:Int}(h:Q (g i j) H):rI0 g (.int i) (.int j) H Q:=⟨i,j,rfl,rfl,h⟩
def g_rI {C:Int->Int->Prop}{g:Int->Int->V}{i j:Int}(h:C i j/\Q (g i j) H):rI C g (.int i) (.int j) H Q:=⟨i,j,rfl,rfl,h.1,h.2⟩
def g_C {v:V}(h:Q v H):tC v σ H Q:=h
def ZlJ {r r':R2}{ta tb tc:TE}(h:ta σ H fun x H1=>tb σ H1 fun y H2=>r x y H2 fun z H3=>∃k,z=.bl k/\if k=true then tc σ H3 fun w' H4=>r' y w' H4 Q else Q (.bl false) H3):Zc5 r r' ta tb tc σ H Q:=h
def ZnA {i j:Int}(h:Q (.bl (decide (i=j))) H):rEq (.int i) (.int j) H Q:=⟨rfl,by rw[show decide (V.int i=V.int j)=decide (i=j) from decide_eq_decide.mpr (Iff.of_eq (V.int.injEq i j))];exact h⟩
def Znv {f:Int->Int->Int}{i j:Int}(h:Q (.int (f i j)) H):ipI f (.int i) (.int j) H Q:=⟨i,j,rfl,rfl,h⟩
def ZmD {i j:Int}(h:Q (.int (i+j)) H):rAdd (.int i) (.int j) H Q:=⟨i,j,rfl,rfl,h⟩
def ZmP {sp:Sp}{t:TA}(h:t σ H fun vs H1=>sp vs H1 Q E):ZcK sp [] E t σ H Q:=by
 unfold ZcK;have e:(fun(vs:List V) (H1:Hp)=>sp (vs++[]) H1 Q E)=fun vs H1=>sp vs H1 Q E:=by funext vs H1;rw[y08]
 rw[e];exact h
def ZmO {ta:TE}{tr:TA}{Qs:List V->Hp->Prop}(h:ta σ H fun x H1=>tr σ H1 fun xs H2=>Qs (x::xs) H2):Zhz ta tr σ H Qs:=h
def Zno {Qs:List V->Hp->Prop}(h:Qs [] H):tNil σ H Qs:=h
def g_CB {r:List V->Hp->VK->Prop}{t:TA}(h:t σ H fun vs H1=>r vs H1 Q):tCB r t σ H Q:=h
def ZlH {C:Addr}{ta:TA}(h:ta σ H fun vs H1=>vs.length<=sizeLine/\E (.ref C) none H1):Zc4 C E ta D σ H:=h
def Znj {t:TA}(h:t σ H fun xs H1=>xs.length<=sizeLine/\∀p,H1 p=none->Q (.ref p) (upd H1 p (.tup xs))):tTup t σ H Q:=h
def Znp {t:TA}(h:t σ H fun xs H1=>xs.length<=sizeLine/\∀p,H1 p=none->Q (.ref p) (upd H1 p (.lst xs))):tLst t σ H Q:=h
def g_BM {T:String}{r:V->List V->Hp->VK->Prop}{to:TE}{t:TA}(h:to σ H fun x H1=>tyV K T x H1/\t σ H1 fun xs H2=>r x xs H2 Q):tBM K T r to t σ H Q:=h
def Zki {l:Addr}{y:V}(h:∃xs,H l=some (.lst xs)/\xs.length<sizeLine/\Q .non (upd H l (.lst (xs++[y])))):U7 (.ref l) [y] H Q:=let ⟨xs,h1,h2,h3⟩:=h;⟨l,xs,y,rfl,rfl,h1,h2,h3⟩
def Zkh {l b:Addr}(h:∃xs zs,H l=some (.lst xs)/\H b=some (.lst zs)/\xs.length+zs.length<=sizeLine/\Q .non (upd H l (.lst (xs++zs)))):Zaw (.ref l) [.ref b] H Q:=let ⟨xs,zs,h1,h2,h3,h4⟩:=h;⟨l,b,xs,zs,rfl,rfl,h1,h2,h3,h4⟩
def g_sl {r:V->Option Int->Option Int->Hp->VK->Prop}{te:TE}{tl th:TO}(h:te σ H fun x H1=>tl σ H1 fun l H2=>th σ H2 fun u H3=>r x l u H3 Q):tSl r te tl th σ H Q:=h
def Zkg {Qo:Option Int->Hp->Prop}(h:Qo none H):Zan σ H Qo:=h
def ZmE {t:TE}{Qo:Option Int->Hp->Prop}(h:t σ H fun x H1=>∃i,x=.int i/\Qo (some i) H1):Zhw t σ H Qo:=h
def Znk {p:Addr}{lo hi:Option Int}(h:∃xs,SqL K H p xs/\∀q,H q=none->Q (.ref q) (upd H q (.lst (cutV xs lo hi)))):rSlL K (.ref p) lo hi H Q:=let ⟨xs,h1,h2⟩:=h;⟨p,xs,rfl,h1,h2⟩
def ZmH {C:Addr}{sp:Sp}{t:TA}(h:t σ H fun vs H1=>∀x dx,H1 x=none->H1 dx=none->dx≠x->sp (.ref x::vs) (upd (upd H1 dx (.own x)) x (.ins C dx [])) (fun v H2=>v=.non/\Q (.ref x) H2) E):ZeB C sp [] E t σ H Q:=by
 unfold ZeB;have e:(fun(vs:List V) (H1:Hp)=>∀x dx,H1 x=none->H1 dx=none->dx≠x->sp (.ref x::(vs++[])) (upd (upd H1 dx (.own x)) x (.ins C dx [])) (fun v H2=>v=.non/\Q (.ref x) H2) E)=fun vs H1=>∀x dx,H1 x=none->H1 dx=none->dx≠x->sp (.ref x::vs) (upd (upd H1 dx (.own x)) x (.ins C dx [])) (fun v H2=>v=.non/\Q (.ref x) H2) E:=by funext vs H1;rw[y08]
 rw[e];exact h
def Znx {ta:TE}{f:Str}(h:ta σ H fun x H1=>∃a C dx fs v,x=.ref a/\H1 a=some (.ins C dx fs)/\Cls K C/\ZC K C f/\fs.lookup f=some v/\Q v H1):tFld K ta f σ H Q:=h
def J8 {r C dx:Addr}{fs:List (Str×V)}{v:V}{f:Str}{P:V->Prop}(hH:H r=some (.ins C dx fs))(hc:Cls K C)(hn:ZC K C f)(hl:fs.lookup f=some v)(h:P v):∃a C dx fs v,V.ref r=.ref a/\H a=some (.ins C dx fs)/\Cls K C/\ZC K C f/\fs.lookup f=some v/\P v:=⟨r,C,dx,fs,v,rfl,hH,hc,hn,hl,h⟩
def ZmG {C:Addr}{m:Str}{sp:Sp}{ta:TE}{t:TA}(h:ta σ H fun x H1=>∃a dx fs,x=.ref a/\H1 a=some (.ins C dx fs)/\fs.lookup m=none/\t σ H1 fun vs H2=>sp (x::vs) H2 Q E):ZdG C m sp [] E ta t σ H Q:=by
 unfold ZdG;have e:(fun(x:V) (H1:Hp)=>∃a dx fs,x=.ref a/\H1 a=some (.ins C dx fs)/\fs.lookup m=none/\t σ H1 fun vs H2=>sp (x::(vs++[])) H2 Q E)=fun x H1=>∃a dx fs,x=.ref a/\H1 a=some (.ins C dx fs)/\fs.lookup m=none/\t σ H1 fun vs H2=>sp (x::vs) H2 Q E:=by
  have e2:∀x:V,(fun(vs:List V) (H2:Hp)=>sp (x::(vs++[])) H2 Q E)=fun vs H2=>sp (x::vs) H2 Q E:=fun x=>by funext vs H2;rw[y08]
  funext x H1;rw[e2]
 rw[e];exact h
def Zi0 {r C dx:Addr}{fs:List (Str×V)}{m:Str}{G:Prop}(hH:H r=some (.ins C dx fs))(hl:fs.lookup m=none)(h:G):∃a dx fs,V.ref r=.ref a/\H a=some (.ins C dx fs)/\fs.lookup m=none/\G:=⟨r,dx,fs,rfl,hH,hl,h⟩
def ZmC {ta tv:TE}{f:Str}(h:tv σ H fun y H1=>ta σ H1 fun x H2=>∃a C dx fs,x=.ref a/\H2 a=some (.ins C dx fs)/\Cls K C/\ZC K C f/\fs.length<1000/\D.nx σ (upd H2 a (.ins C dx (putF f y fs)))):sFld K ta tv f D σ H:=h
def X9 {r C dx:Addr}{fs:List (Str×V)}{f:Str}{y:V}{P:Hp->Prop}(hH:H r=some (.ins C dx fs))(hc:Cls K C)(hn:ZC K C f)(h:fs.length<1000/\P (upd H r (.ins C dx (putF f y fs)))):∃a C dx fs,V.ref r=.ref a/\H a=some (.ins C dx fs)/\Cls K C/\ZC K C f/\fs.length<1000/\P (upd H a (.ins C dx (putF f y fs))):=⟨r,C,dx,fs,rfl,hH,hc,hn,h.1,h.2⟩
def Zct {r C dx:Addr}{fs:List (Str×V)}{f:Str}{y:V}{P:Hp->Prop}(hc:Cls K C)(hn:ZC K C f)(h:fs.length<1000/\P (upd H r (.ins C dx (putF f y fs)))):∃a C' dx' fs',V.ref r=.ref a/\upd H r (.ins C dx fs) a=some (.ins C' dx' fs')/\Cls K C'/\ZC K C' f/\fs'.length<1000/\P (upd (upd H r (.ins C dx fs)) a (.ins C' dx' (putF f y fs'))):=⟨r,C,dx,fs,rfl,Zd,hc,hn,h.1,by rw[WP];exact h.2⟩
def ZiZ {ta tv:TE}{rd:V->V->Hp->VK->Prop}{f:Str}(h:ta σ H fun x H1=>∃a C dx fs v,x=.ref a/\H1 a=some (.ins C dx fs)/\Cls K C/\ZC K C f/\fs.lookup f=some v/\tv σ H1 fun y H2=>rd v y H2 fun z H3=>∃dx' fs',H3 a=some (.ins C dx' fs')/\fs'.length<1000/\D.nx σ (upd H3 a (.ins C dx' (putF f z fs')))):Zb5 K ta tv rd f D σ H:=h
def Zdq {r C dx:Addr}{fs:List (Str×V)}{f:Str}{v:V}{P:Addr->Addr->V->Prop}(hH:H r=some (.ins C dx fs))(hc:Cls K C)(hn:ZC K C f)(hl:fs.lookup f=some v)(h:P r C v):∃a C dx fs v,V.ref r=.ref a/\H a=some (.ins C dx fs)/\Cls K C/\ZC K C f/\fs.lookup f=some v/\P a C v:=⟨r,C,dx,fs,v,rfl,hH,hc,hn,hl,h⟩
def ZkV {r C dx:Addr}{fs:List (Str×V)}{P:Addr->List (Str×V)->Prop}(hH:H r=some (.ins C dx fs))(h:fs.length<1000/\P dx fs):∃dx' fs',H r=some (.ins C dx' fs')/\fs'.length<1000/\P dx' fs':=⟨dx,fs,hH,h.1,h.2⟩
def Znu {p:Addr}{i:Int}(h:∃xs,SqL K H p xs/\∃v,atI xs i=some v/\Q v H):rIxL K (.ref p) (.int i) H Q:=let ⟨xs,h1,v,h2,h3⟩:=h;⟨p,xs,i,v,rfl,rfl,h1,h2,h3⟩
def Znt {p:Addr}{i:Int}(h:∃xs,SqT K H p xs/\∃v,atI xs i=some v/\Q v H):rIxT K (.ref p) (.int i) H Q:=let ⟨xs,h1,v,h2,h3⟩:=h;⟨p,xs,i,v,rfl,rfl,h1,h2,h3⟩
def Zi1 {t:TG}{u:TGs}{v:V}{r:List V}{Qg:St->Hp->Prop}(h:t v σ H fun σ' H'=>u r σ' H' Qg):Zh0 t u (v::r) σ H Qg:=⟨v,r,rfl,h⟩
end
section
variable {A B:Prop}
def ZmI (h:A):if true=true then A else B:=by rw[if_pos rfl];exact h
def ZmK (h:B):if false=true then A else B:=by rw[if_neg Bool.false_ne_true];exact h
def ZmL {p:Prop}[Decidable p](h:if p then A else B):if decide p=true then A else B:=by
 by_cases z:p
 ·rw[if_pos z] at h;rw[if_pos (decide_eq_true z)];exact h
 ·rw[if_neg z] at h;rw[if_neg (fun y=>z (of_decide_eq_true y))];exact h
def ZlI {p:Prop}[Decidable p](h:if ¬ p then A else B):if (!decide p)=true then A else B:=by
 by_cases z:p
 ·rw[if_neg (fun y=>y z)] at h;rw[if_neg (by simp[z])];exact h
 ·rw[if_pos z] at h;rw[if_pos (by simp[z])];exact h
def ZmJ {b:Bool}(h:if b=false then A else B):if (!b)=true then A else B:=by
 cases b
 ·rw[if_pos rfl] at h;exact(by rw[if_pos (show(!false)=true from rfl)];exact h)
 ·rw[if_neg (by decide)] at h;exact(by rw[if_neg (by decide)];exact h)
end
def g_v0 {v:V}{r:List (Option V)}{H:Hp}{Q:VK}(h:Q v H):tVar 0 (some v::r) H Q:=⟨v,rfl,h⟩
def g_v1 {v:V}{a0:Option V}{r:List (Option V)}{H:Hp}{Q:VK}(h:Q v H):tVar 1 (a0::some v::r) H Q:=⟨v,rfl,h⟩
def g_n1 {v:V}{a0:Option V}{b:Option V}{r:List (Option V)}{H:Hp}{Qg:St->Hp->Prop}(h:Qg (a0::some v::r) H):VB 1 v (a0::b::r) H Qg:=h
def g_v2 {v:V}{a0 a1:Option V}{r:List (Option V)}{H:Hp}{Q:VK}(h:Q v H):tVar 2 (a0::a1::some v::r) H Q:=⟨v,rfl,h⟩
def g_n2 {v:V}{a0 a1:Option V}{b:Option V}{r:List (Option V)}{H:Hp}{Qg:St->Hp->Prop}(h:Qg (a0::a1::some v::r) H):VB 2 v (a0::a1::b::r) H Qg:=h
def g_a2 {x:V}{a0 a1:Option V}{r:List (Option V)}{H:Hp}{D:Ends}{te:TE}{ti:TIp}(h:te (a0::a1::some x::r) H fun y H1=>ti x y H1 fun z H2=>D.nx (a0::a1::some z::r) H2):tAug 2 te ti D (a0::a1::some x::r) H:=⟨x,rfl,h⟩
def g_v3 {v:V}{a0 a1 a2:Option V}{r:List (Option V)}{H:Hp}{Q:VK}(h:Q v H):tVar 3 (a0::a1::a2::some v::r) H Q:=⟨v,rfl,h⟩
def g_n3 {v:V}{a0 a1 a2:Option V}{b:Option V}{r:List (Option V)}{H:Hp}{Qg:St->Hp->Prop}(h:Qg (a0::a1::a2::some v::r) H):VB 3 v (a0::a1::a2::b::r) H Qg:=h
def g_a3 {x:V}{a0 a1 a2:Option V}{r:List (Option V)}{H:Hp}{D:Ends}{te:TE}{ti:TIp}(h:te (a0::a1::a2::some x::r) H fun y H1=>ti x y H1 fun z H2=>D.nx (a0::a1::a2::some z::r) H2):tAug 3 te ti D (a0::a1::a2::some x::r) H:=⟨x,rfl,h⟩
def g_v4 {v:V}{a0 a1 a2 a3:Option V}{r:List (Option V)}{H:Hp}{Q:VK}(h:Q v H):tVar 4 (a0::a1::a2::a3::some v::r) H Q:=⟨v,rfl,h⟩
def g_n4 {v:V}{a0 a1 a2 a3:Option V}{b:Option V}{r:List (Option V)}{H:Hp}{Qg:St->Hp->Prop}(h:Qg (a0::a1::a2::a3::some v::r) H):VB 4 v (a0::a1::a2::a3::b::r) H Qg:=h
def g_v5 {v:V}{a0 a1 a2 a3 a4:Option V}{r:List (Option V)}{H:Hp}{Q:VK}(h:Q v H):tVar 5 (a0::a1::a2::a3::a4::some v::r) H Q:=⟨v,rfl,h⟩
def g_n5 {v:V}{a0 a1 a2 a3 a4:Option V}{b:Option V}{r:List (Option V)}{H:Hp}{Qg:St->Hp->Prop}(h:Qg (a0::a1::a2::a3::a4::some v::r) H):VB 5 v (a0::a1::a2::a3::a4::b::r) H Qg:=h
def g_v6 {v:V}{a0 a1 a2 a3 a4 a5:Option V}{r:List (Option V)}{H:Hp}{Q:VK}(h:Q v H):tVar 6 (a0::a1::a2::a3::a4::a5::some v::r) H Q:=⟨v,rfl,h⟩
def g_n6 {v:V}{a0 a1 a2 a3 a4 a5:Option V}{b:Option V}{r:List (Option V)}{H:Hp}{Qg:St->Hp->Prop}(h:Qg (a0::a1::a2::a3::a4::a5::some v::r) H):VB 6 v (a0::a1::a2::a3::a4::a5::b::r) H Qg:=h
def g_v7 {v:V}{a0 a1 a2 a3 a4 a5 a6:Option V}{r:List (Option V)}{H:Hp}{Q:VK}(h:Q v H):tVar 7 (a0::a1::a2::a3::a4::a5::a6::some v::r) H Q:=⟨v,rfl,h⟩
def g_n7 {v:V}{a0 a1 a2 a3 a4 a5 a6:Option V}{b:Option V}{r:List (Option V)}{H:Hp}{Qg:St->Hp->Prop}(h:Qg (a0::a1::a2::a3::a4::a5::a6::some v::r) H):VB 7 v (a0::a1::a2::a3::a4::a5::a6::b::r) H Qg:=h
def g_v8 {v:V}{a0 a1 a2 a3 a4 a5 a6 a7:Option V}{r:List (Option V)}{H:Hp}{Q:VK}(h:Q v H):tVar 8 (a0::a1::a2::a3::a4::a5::a6::a7::some v::r) H Q:=⟨v,rfl,h⟩
def g_n8 {v:V}{a0 a1 a2 a3 a4 a5 a6 a7:Option V}{b:Option V}{r:List (Option V)}{H:Hp}{Qg:St->Hp->Prop}(h:Qg (a0::a1::a2::a3::a4::a5::a6::a7::some v::r) H):VB 8 v (a0::a1::a2::a3::a4::a5::a6::a7::b::r) H Qg:=h
def g_v9 {v:V}{a0 a1 a2 a3 a4 a5 a6 a7 a8:Option V}{r:List (Option V)}{H:Hp}{Q:VK}(h:Q v H):tVar 9 (a0::a1::a2::a3::a4::a5::a6::a7::a8::some v::r) H Q:=⟨v,rfl,h⟩
def g_n9 {v:V}{a0 a1 a2 a3 a4 a5 a6 a7 a8:Option V}{b:Option V}{r:List (Option V)}{H:Hp}{Qg:St->Hp->Prop}(h:Qg (a0::a1::a2::a3::a4::a5::a6::a7::a8::some v::r) H):VB 9 v (a0::a1::a2::a3::a4::a5::a6::a7::a8::b::r) H Qg:=h
section
variable {X:Cx}{CX:CXT}{j k:Nat}{ps:List Str}{sp:Sp}{E:XK}{x y:Str}{p pos:Pos}{e:Expr}{es:List Expr}{t:TA}
def ZkJ (i:Nat)(f:Addr)(u:TE):TE:=fun σ H Q=>σ[i]?=some (some (V.ref f))/\u σ H Q
def Zim (i:Nat)(f:Addr)(u:St->Hp->VK->XK->Prop):St->Hp->VK->XK->Prop:=fun σ H Q E=>σ[i]?=some (some (V.ref f))/\u σ H Q E
def ZjI (i:Nat){f C:Addr}(c:FnC X.prog X.w X.K X.mg X.base (CX1 X.prog X.w C) j y ps sp)(hm:X.mg y=some (.ref f))(hr:Room k X.A)(ha:PA X.nox (e::es) t)(hjk:autoParam (j<=k) q_2)
  (hN:autoParam (X.N[i]?=some x) q_1) (hv:autoParam (Vis X.env.scope x) q_5) (hd:autoParam ((x==("__debug__":Str))=false) q_2) (hcd:autoParam ((x==("__classdict__":Str))=false) q_2)
  (he:autoParam (starEach (e::es) X.env=(false,eval e X.env)::starEach es X.env) q_1) (hpl:autoParam ((backTo pos (starEach es X.env)).any (·.1)=false) q_1) :
  PXE X C (.Call (.Name x p) (e::es) [] pos) (Zim i f (Zin sp [] t)):=by
 obtain⟨f',fd,hm',hk,hb,F⟩:=c.ex;rw[hm] at hm';cases hm';intro pins s σ H Q E I h;refine wpAny_Call_Name_kw (wpAny_mono (ZgV (X:=X.nox) (pos:=p) hN hv hd hcd pins s σ H (fun v H'=>v=V.ref f/\Zin sp [] t σ H' Q E) (I.wish _) ⟨_,h.1,rfl,h.2⟩) (fun u s1 ⟨v,H1,I1',r,ev,q⟩=>?_) fun _ _ z=>False.elim z);subst ev;have r:u=.ref f:=by cases r;rfl
 subst r;have I1:=I1'.unwish;refine PySem.W.callWith_K (h₀:=X.base) I1.ok.mod.kin hk (wpAny_mono (ha pos pins s1 σ H1 _ (I1.wish _) q) (fun us s2 ⟨vs,H2,I2',r,q⟩=>?_) fun _ _ z=>False.elim z) he hpl;have I2:=I2'.unwish;refine⟨I2.kIn,?_⟩;have r2:Vals (vs++[]) (us++[]):=r.append .nil;have hl:(us++[]).length=ps.length:=by rw[<- r2.length];exact F.len _ _ _ _ q
 refine wpAny_call (codeAny_mono (F.run X.A X.stack s2 H2 ⟨us,[]⟩ (us++[]) (vs++[]) Q E (hr.mono hjk) I2.env0 (hb s2 us I2.kIn hl) r2 q) fun r s' hq=>?_);cases r with
 | error v=>exact⟨s2,H2,I2,hq⟩
 | ok fl =>
  cases fl with
  | ret u=>exact I2.after hq
  | next=>exact False.elim hq
  | brk=>exact False.elim hq
  | cont=>exact False.elim hq
end
noncomputable def Zh3 (P:Program)(w:World)(K:Frag)(mg:Str->Option Value)(base:Heap)(N:List Str)(qual:Str)(scope:Scope)(f:Addr)(cd:Value)(cl:List (Str×Addr))(A:Around)(outer:List Env)(s:Shared)(H:Hp)(E:XK):Cx where
 prog:=P
 w:=w
 K:=K
 mg:=mg
 base:=base
 A:=A.deeper (envX qual scope s.heap.objs.size f cd cl)
 N:=N
 s_0:=s
 H_0:=H
 env:=envX qual scope s.heap.objs.size f cd cl
 outer:=outer
 stack:=envX qual scope s.heap.objs.size f cd cl::outer
 ex:=[]
 calm:=true
 fn:=fun _=>false
 pn:=[]
 xe:=fun e s'=>wpAny (model P w) (A.deeper (envX qual scope s.heap.objs.size f cd cl)) (leaving (envX qual scope s.heap.objs.size f cd cl) e) (fun _ s''=>CX0 outer H s E e s'') (fun e' s''=>CX0 outer H s E e' s'') s'
noncomputable def ZkA (h:Heap)(H:Hp)(l:List Env):Heap:=PySem.W.hideAll h (trk h H++frs l)
def ZcG {h:Heap}{H:Hp}{l:List Env}{b:Addr}{o:Obj}(e:h.get? b=some o)(n:H b=none)(hl:b ∉ frs l):(ZkA h H l).get? b=some o :=
 PySem.W.hideAll_get _ e fun hm=>by
  rcases y0d.mp hm with hm | hm
  ·have q:(H b).isSome=true:=(List.mem_filter.mp hm).2;rw[n] at q;simp at q
  ·exact hl hm
def ZjT {h:Heap}{H:Hp}{l:List Env}{b:Addr}{o:Obj}(e:(ZkA h H l).get? b=some o):h.get? b=some o/\H b=none:=by
 have e':h.get? b=some o:=PySem.W.of_hideAll _ e;refine⟨e',?_⟩;cases q:H b with
 | none=>rfl
 | some u =>
  have hm:b∈trk h H++frs l:=List.mem_append_left _ (List.mem_filter.mpr ⟨List.mem_range.mpr (y0x e'),by rw[q];rfl⟩);have:=PySem.W.hideAll_none (h:=h) (trk h H++frs l) hm;unfold ZkA at e;rw[this] at e;cases e
theorem Mod.keeps {K:Frag}{mg:Str->Option Value}{b b':Heap}(m:Mod K mg b)(k:∀a o,b.get? a=some o->b'.get? a=some o):Mod K mg b' :=
 ⟨m.kin.keeps k,m.glob.keeps k,let ⟨mb,h1,h2⟩:=m.blt;⟨mb,h1.keeps k,h2⟩,m.nolimit.keeps k⟩
section
variable {X:Cx}{i j k jl:Nat}{c PT gf fr:Addr}{g t x fx ql rn:Str}{p pt pos lp rp:Pos}{params:Arguments}{body:Expr}{sc:Scope}{E:XK}{spL:V->Sp}{spA:Addr->V->Sp}{ps2:List Str}
def ZjM {CX:CXT}{j:Nat}{ps:List Str}{sp:Sp}{e:Expr}{es:List Expr}{ta:TA}(i:Nat){f:Addr}{fd:FuncData}(hat:PySem.W.FnAt f X.base)(F:FnOk X.prog X.w X.K X.mg X.base CX j f fd ps sp)
  (hb:∀(s:Shared) (us:List Value),us.length=ps.length->BindsTo s fd ⟨us,[]⟩ (ps.zip us)) (hr:Room k X.A) (hx:Wq CX X E) (ha:PA X (e::es) ta) (hjk:autoParam (j<=k) q_2)
  (hN:autoParam (X.N[i]?=some x) q_1) (hv:autoParam (Vis X.env.scope x) q_5) (hd:autoParam ((x==("__debug__":Str))=false) q_2) (hcd:autoParam ((x==("__classdict__":Str))=false) q_2)
  (he:autoParam (starEach (e::es) X.env=(false,eval e X.env)::starEach es X.env) q_1) (hpl:autoParam ((backTo pos (starEach es X.env)).any (·.1)=false) q_1) :
  PE X (.Call (.Name x p) (e::es) [] pos) (ZkJ i f (ZcK sp [] E ta)):=by
 intro pins s σ H Q I h;refine wpAny_Call_Name_kw (thn (ZgV (pos:=p) hN hv hd hcd pins s σ H (fun v H'=>v=V.ref f/\ZcK sp [] E ta σ H' Q) I ⟨_,h.1,rfl,h.2⟩) fun u s1 ⟨v,H1,I1,r,ev,q⟩=>?_);subst ev;have r:u=.ref f:=by cases r;rfl
 subst r;have at':∀{s':Shared}{H':Hp},Inv X pins σ H' s'->PySem.W.FnAt f s'.heap:=fun J=>by
  obtain⟨oc,od,fd',sl,e⟩:=hat;exact⟨oc,od,fd',sl,(J.bs _ _ e).1⟩
 refine PySem.W.callWith_F (at' I1) (thn (ha pos pins s1 σ H1 _ I1 q) fun us s2 ⟨vs,H2,I2,r,q⟩=>⟨at' I2,?_⟩) he hpl;rw[List.nil_append];have q:sp (vs++[]) H2 Q E:=q;rw[y08] at q;have hl:us.length=ps.length:=by rw[<- r.length];exact F.len _ _ _ _ q
 refine wpAny_call (codeAny_mono (F.run X.A X.stack s2 H2 ⟨us,[]⟩ us vs Q E (hr.mono hjk) I2.env0 (hb s2 us hl) r q) fun r s' hq=>?_);cases r with
 | error e=>exact hx pins σ H2 s2 e s' I2 hq
 | ok fl =>
  cases fl with
  | ret u=>exact I2.after hq
  | next=>exact False.elim hq
  | brk=>exact False.elim hq
  | cont=>exact False.elim hq
end
structure ZcI (x:Str)(sc:Scope):Prop where
 kind:sc.kind=.function
 co:sc.isCoroutine=false
 gen:sc.isGenerator=false
 par:sc.names.lookup x=some .local
 nocell:∀y∈sc.names,y.2≠.cell
 nofree:∀y∈sc.names,y.2≠.free
section
variable {P:Program}{w:World}{K:Frag}{mg:Str->Option Value}{base:Heap}{k:Nat}{f c':Addr}{params:Arguments}{body:Expr}{scope:Scope}{pm ctv:Value}{name qual x:Str}{sp:Sp}
def Zly (S:ZcI x scope)(hf:base.get? f=some (kla_obj name qual params body scope [] pm c' ctv))(hc:base.CodeRec (.ref c') qual)
  (len:∀vs H Q E,sp vs H Q E->vs.length=[x].length)
  (hbody:∀(A:Around) (outer:List Env) (s:Shared) (H:Hp) (v:V) (Q:VK) (E:XK),Room k (A.deeper (envX qual scope s.heap.objs.size f (.ref c') []))->sp [v] H Q E ->
   ∃t,PE (Zh3 P w K mg base [x] qual scope f (.ref c') [] A outer s H E) body t/\t [some v] H Q) :
  FnOk P w K mg base CX0 (k+1) f (PySem.W.kla_fn name qual params body scope [] pm (.ref c') ctv) [x] sp:=by
 refine⟨len,fun A outer s H args us vs Q E hr e0 hb r hsp=>?_⟩;have hl:=len _ _ _ _ hsp;obtain⟨v,rfl⟩:∃v,vs=[v]:=by
  match vs,hl with
  | [v],_=>exact⟨v,rfl⟩
 obtain⟨u,rfl,rv⟩:=Zib r;have lim:s.heap.NoLimit:=e0.mod.nolimit.keeps fun b o e=>(e0.bs b o e).1
 have ks:∀b o,base.get? b=some o->s.heap.get? b=some o:=fun b o e=>(e0.bs b o e).1
 refine PySem.W.kla_callFunE hr.depth (ks _ _ hf) rfl S.co S.gen rfl (hc.keeps ks) (hb _ _ _ _ ?_);have hloc:∀y∈[x].zip [u],scope.names.lookup y.1=some .local:=fun y hy=>by
  simp at hy;subst hy;exact S.par
 refine wpAny_newFunctionEnv S.nocell hloc (fun h₁ hns hsb=>?_) S.kind;have hk:∀b o,s.heap.get? b=some o->h₁.get? b=some o:=fun b o e=>hsb.extBut b o (Nat.ne_of_lt (y0x e)) (y0v _ e)
 refine⟨lim.keeps hk,PySem.W.kla_codeExpr ?_⟩;obtain⟨t,ht,hq⟩:=hbody A outer s H v Q E (hr.deeper _) hsp;have noA:∀b:Addr,b ∉ (Zh3 P w K mg base [x] qual scope f (.ref c') [] A outer s H E).ex:=fun b z=>absurd (show b∈([]:List Addr) from z) (by simp)
 have I:Inv (Zh3 P w K mg base [x] qual scope f (.ref c') [] A outer s H E) [] [some v] H { s with heap:=h₁,toks:=s.toks+([x].zip [u]).length }:=by
  refine⟨⟨e0.mod,S.kind,rfl,rfl,y0r _,fun y z c h1 h2=>?_,fun y hy=>?_,fun y c h=>Bool.noConfusion (show false=true from h),fun _=>hr.hd,Around.frames_deeper e0.frames,.inr ⟨rfl,rfl⟩,fun b z=>absurd z (noA b),e0.bs,e0.bsz,fun b _ _=>noA b,fun b z=>absurd z (noA b),e0.funs,e0.frf⟩,
   rfl,e0.bare,Un.kept hk,⟨_,hns,fun i y v' h1 h2 h3=>?_⟩,fun y c h=>?_,e0.hok.fresh (y0r _),fun y c h=>?_,fun p hp=>absurd (show p∈([]:List (Addr×Obj)) from hp) (by simp),e0.hok.kept hk,rfl⟩
  ·cases (show(none:Option Addr)=some c from h1)
  ·have hy:scope.names.lookup y=some .cell\/scope.names.lookup y=some .free:=hy;rcases hy with hy | hy
   ·exact absurd rfl (S.nocell _ (PySem.mem_of_lookup hy))
   ·exact absurd rfl (S.nofree _ (PySem.mem_of_lookup hy))
  ·match i,h1,h2 with
   | 0,h1,h2 =>
    have e1:x=y:=by simpa[Zh3] using h1
    have e2:v=v':=by simpa using h2
    subst e1;subst e2;refine⟨u,rv,.inl ⟨S.par,?_⟩⟩;simp
   | i+1,h1,h2=>simp at h2
  ·cases (show(none:Option Addr)=some c from h)
  ·cases (show(none:Option Addr)=some c from h)
 refine wpAny_mono (ht [] _ _ H _ I hq) (fun u' s' hs=>?_) fun e s' hs=>hs
 obtain⟨v',H',J,rv',q'⟩:=hs;exact⟨v',H',J.os,J.bare,J.base,J.hok,rv',q'⟩
end
def Zio (i:Nat)(fr PT:Addr)(lp:Pos)(spA:Addr->Sp)(E:XK):TE:=fun σ H Q=>∃vt ps,σ[i]?=some (some vt)/\H PT=some (.tbl ps)/\PySem.TriplesOk ps.toList/\PySem.codeAmong lp ps.toList=none /\
 ∀f ps',H f=none->spA f [vt,.ref fr,.ref f] (upd H PT (.tbl ps')) Q E
section
variable {X:Cx}{i k jl:Nat}{c PT gf fr:Addr}{g t x ql rn:Str}{p pt pos lp rp:Pos}{params:Arguments}{body:Expr}{sc:Scope}{E:XK}{spL:Sp}{spA:Addr->Sp}{ps2:List Str}
def Zf8 (S:ZcI x sc)(hcode:X.env.code=.ref c)(hC:∀h,X.K.In h->PySem.W.CodeHd h c PT)(hB:X.base.BuiltinsAt X.mg PT)
  (hNi:X.N[i]?=some t) (hvt:Vis X.env.scope t)
  (hcl:closureFor sc X.env=pure []) (hdef:defaultsOf params X.env=([],[])) (hql:X.env.qual++"<lambda>"=ql)
  (hrg:Gl X rn) (hrm:X.mg rn=some (.ref fr)) (hgl:Gl X g) (hm:X.mg g=some (.ref gf)) (hk:keepIn X.K (.ref gf)=true) (hr:Room k X.A)
  (hlen:∀vs H Q E,spL vs H Q E->vs.length=[x].length)
  (hA:∀(base':Heap) (f:Addr) (fd:FuncData),Mod X.K X.mg base'->PySem.W.FnAt f base'->(∀(s:Shared) (us:List Value),us.length=[x].length->BindsTo s fd ⟨us,[]⟩ ([x].zip us))->FnOk X.prog X.w X.K X.mg base' CX0 (jl+1) f fd [x] spL ->
   FnC X.prog X.w X.K X.mg base' CX0 k g ps2 (spA f))
  (hbind:∀(f:Addr) (c':Addr) (pm ctv:Value) (s:Shared) (us:List Value),us.length=[x].length->BindsTo s (PySem.W.kla_fn "<lambda>" ql params body sc [] pm (.ref c') ctv) ⟨us,[]⟩ ([x].zip us))
  (hL:∀(base':Heap) (f c':Addr) (A:Around) (outer:List Env) (s:Shared) (H:Hp) (v:V) (Q:VK) (E:XK),Room jl (A.deeper (envX ql sc s.heap.objs.size f (.ref c') []))->spL [v] H Q E ->
   ∃t,PE (Zh3 X.prog X.w X.K X.mg base' [x] ql sc f (.ref c') [] A outer s H E) body t/\t [some v] H Q)
  (hx:Wq CX0 X E) (hgP:mainGlobals≠PT)
  (hdb:autoParam ((g==("__debug__":Str))=false) q_2) (hdrn:autoParam ((rn==("__debug__":Str))=false) q_2) (hdt:autoParam ((t==("__debug__":Str))=false) q_2) (hct:autoParam ((t==("__classdict__":Str))=false) q_2)
  (he:autoParam (starEach [.Name t pt,.Name rn rp,.Lambda params body sc lp] X.env=(false,eval (.Name t pt) X.env)::starEach [.Name rn rp,.Lambda params body sc lp] X.env) q_1)
  (he1:autoParam (starEach [.Name rn rp,.Lambda params body sc lp] X.env=(false,eval (.Name rn rp) X.env)::starEach [.Lambda params body sc lp] X.env) q_1)
  (he2:autoParam (starEach [.Lambda params body sc lp] X.env=(false,eval (.Lambda params body sc lp) X.env)::starEach [] X.env) q_1)
  (hpl:autoParam ((backTo pos (starEach [.Name rn rp,.Lambda params body sc lp] X.env)).any (·.1)=false) q_1) :
  PE X (.Call (.Name g p) [.Name t pt,.Name rn rp,.Lambda params body sc lp] [] pos) (Zio i fr PT lp spA E):=by
 intro pins s σ H Q I h;obtain⟨vt,ps,hi,hPT,hTr,hnf,hq⟩:=h;refine wpAny_Call_Name_kw (Jj I hgl hm ?_ hdb);refine PySem.W.callWith_K (h₀:=X.base) I.ok.mod.kin hk ?_ he hpl;rw[he];show wpAny _ _ (spliced ((false,eval (.Name t pt) X.env)::backTo pos (starEach [.Name rn rp,.Lambda params body sc lp] X.env))) _ _ s;refine Calls.spliced_cons (thn (ZgV (pos:=pt) hNi hvt hdt hct pins s σ H (fun v H'=>v=vt/\H'=H) I ⟨vt,hi,rfl,rfl⟩) fun ut s1 ⟨v1,H1,I1,rt,ev,eH⟩=>?_);subst ev;subst eH;rw[he1];show wpAny _ _ (spliced ((false,eval (.Name rn rp) X.env)::backTo pos (starEach [.Lambda params body sc lp] X.env))) _ _ s1;refine Calls.spliced_cons (Jj I1 hrg hrm ?_ hdrn);rw[he2];show wpAny _ _ (spliced ((false,eval (.Lambda params body sc lp) X.env)::backTo pos (starEach [] X.env))) _ _ s1;obtain⟨m,hns,hl⟩:=I1.loc;have hPs:s1.heap.get? PT=some (PySem.W.tabObj ps):=I1.hok PT _ hPT;have hbk:∀b o,X.base.get? b=some o->s1.heap.get? b=some o:=fun b o e=>(I1.bs b o e).1
 have hBs:s1.heap.BuiltinsAt X.mg PT:=by
  obtain⟨bm,ob,a1,a2,a3,a4,a5,r⟩:=hB;exact⟨bm,ob,a1,a2,a3,a4,hbk _ _ a5,r⟩
 have hgs:s1.heap.Ns mainGlobals X.mg:=I1.ok.mod.glob.keeps hbk;refine Calls.spliced_cons (PySem.W.kla_eval hdef ?_);rw[hql];refine PySem.W.kla_makeFunction hcl I1.ok.glob hgs hcode (hC _ (I1.ok.mod.kin.keeps hbk)) hPs hTr hnf hgP hBs fun c' ctv h' tk hx' hge hlt hrec htb=>?_
 refine Calls.spliced_nil ?_
 -- the state behind the lambda
 have hsz:s1.heap.objs.size<=h'.objs.size:=Nat.le_of_lt (y0s hge hlt);have keep:∀b o,b≠PT->s1.heap.get? b=some o->(h'.push (kla_obj "<lambda>" ql params body sc [] ((X.mg "__name__").getD .none) c' ctv)).get? b=some o:=fun b o nb e=>y0v _ (hx' b o nb e)
 have hPn:(h'.push (kla_obj "<lambda>" ql params body sc [] ((X.mg "__name__").getD .none) c' ctv)).get? PT=some (PySem.W.tabObj (ps++#[rawInt lp.line,rawInt lp.col,.ref c'])):=y0v _ htb;have hfo:(h'.push (kla_obj "<lambda>" ql params body sc [] ((X.mg "__name__").getD .none) c' ctv)).get? h'.objs.size=some (kla_obj "<lambda>" ql params body sc [] ((X.mg "__name__").getD .none) c' ctv):=y0w _ rfl;have hrec':(h'.push (kla_obj "<lambda>" ql params body sc [] ((X.mg "__name__").getD .none) c' ctv)).CodeRec (.ref c') ql:=hrec.push _;generalize hG:h'.push (kla_obj "<lambda>" ql params body sc [] ((X.mg "__name__").getD .none) c' ctv)=G at *;have ntb:∀b u,H1 b=some u->b≠PT->upd H1 PT (.tbl (ps++#[rawInt lp.line,rawInt lp.col,.ref c'])) b=some u:=fun b u e n=>by rw[Zk n];exact e
 have un:Un (frs X.stack) [] H1 (upd H1 PT (.tbl (ps++#[rawInt lp.line,rawInt lp.col,.ref c']))) s1.heap G:=by
  have npt:∀b,H1 b=none->b≠PT:=fun b n z=>by rw[z,hPT] at n;cases n
  refine⟨fun b o e n _ _=>keep b o (npt b n) e,fun b o e n _ _=>⟨o.slots,keep b o (npt b n) e⟩,fun b o e n _=>by rw[Zk (npt b n)];exact n,fun b o e _=>?_,fun b xs e=>ntb b _ e (fun z=>by rw[z,hPT] at e;cases e),fun b o u e=>ntb b _ e (fun z=>by rw[z,hPT] at e;cases e),fun b qs e=>?_⟩
  ·by_cases z:b=PT
   ·subst z;exact⟨_,hPn⟩
   ·exact⟨o,keep b o z e⟩
  ·by_cases z:b=PT
   ·subst z;rw[hPT] at e;cases e;exact⟨_,Zd⟩
   ·exact⟨#[],by rw[Zk z,e];simp⟩
 have hok2:HOk X.prog X.w (upd H1 PT (.tbl (ps++#[rawInt lp.line,rawInt lp.col,.ref c']))) G:=fun b u e=>by
  by_cases z:b=PT
  ·subst z;rw[Zd] at e;cases e;exact hPn
  ·rw[Zk z] at e;refine(I1.hok b u e).stay (fun d o hd r=>keep d o ?_ r) (fun d r=>ntb d _ r fun z=>by rw[z,hPT] at r;cases r) fun d xs r=>ntb d _ r fun z=>by rw[z,hPT] at r;cases r
   rcases hd with rfl | hd
   ·exact z
   ·intro z;rw[z,hPT] at hd;cases hd
 have I2:Inv X pins σ (upd H1 PT (.tbl (ps++#[rawInt lp.line,rawInt lp.col,.ref c']))) { s1 with heap:=G,toks:=tk }:=I1.call' rfl un hok2 I1.bare fun b z=>absurd z (by simp)
 refine⟨I2.kIn,?_⟩;have hlN:∀b,b∈frs X.stack->b<s1.heap.objs.size:=fun b hb=>by
  obtain⟨_,o,ho,_⟩:=I1.stack.mem hb;exact y0x ho
 have fresh:∀b,s1.heap.objs.size<=b->upd H1 PT (.tbl (ps++#[rawInt lp.line,rawInt lp.col,.ref c'])) b=none/\b ∉ frs X.stack:=fun b hb=>by
  refine⟨?_,fun z=>absurd (hlN b z) (Nat.not_lt.mpr hb)⟩;have hbP:b≠PT:=fun z=>by rw[z] at hb;exact absurd (y0x hPs) (Nat.not_lt.mpr hb)
  rw[Zk hbP];exact I1.hok.fresh hb
 obtain⟨B',hB'⟩:∃B',B'=ZkA G (upd H1 PT (.tbl (ps++#[rawInt lp.line,rawInt lp.col,.ref c']))) X.stack:=⟨_,rfl⟩
 have ksB:∀b o,X.base.get? b=some o->B'.get? b=some o:=fun b o e=>by
  rw[hB'];have q:=I2.bs b o e;refine ZcG q.1 q.2 fun z=>?_
  have:=(I1.stack.mem z).1;rw[e] at this;cases this
 have hM:Mod X.K X.mg B':=I1.ok.mod.keeps ksB;have hfB:B'.get? h'.objs.size=some (kla_obj "<lambda>" ql params body sc [] ((X.mg "__name__").getD .none) c' ctv):=by
  rw[hB'];have q:=fresh h'.objs.size hsz;exact ZcG hfo q.1 q.2
 have hcB:B'.CodeRec (.ref c') ql:=by
  obtain⟨c2,oc,vs,tq,e1,e2,e3,e4⟩:=hrec';cases e1;have q:=fresh c' hge;exact⟨c',oc,vs,tq,rfl,by rw[hB'];exact ZcG e2 q.1 q.2,e3,e4⟩
 have FL:=Zly (w:=X.w) (P:=X.prog) (K:=X.K) (mg:=X.mg) (base:=B') (k:=jl) (sp:=spL) S hfB hcB hlen (fun A outer s H v Q E hr hsp=>hL B' _ c' A outer s H v Q E hr hsp);obtain⟨gf',gd,hm',_,hbg,FG⟩:=(hA B' h'.objs.size _ hM ⟨_,_,_,_,hfB⟩ (hbind h'.objs.size c' _ ctv) FL).ex;rw[hm] at hm';cases hm';have hsp:=hq h'.objs.size (ps++#[rawInt lp.line,rawInt lp.col,.ref c']) (I1.hok.fresh hsz);have r2:Vals [v1,.ref fr,.ref h'.objs.size] [ut,.ref fr,.ref h'.objs.size]:=.cons rt (.cons rfl (.cons rfl .nil));have hl2:([ut,Value.ref fr,Value.ref h'.objs.size]:List Value).length=ps2.length:=by rw[<- r2.length];exact FG.len _ _ _ _ hsp
 have e0:Env0 X.prog X.w X.K X.mg B' X.A X.stack { s1 with heap:=G,toks:=tk } (upd H1 PT (.tbl (ps++#[rawInt lp.line,rawInt lp.col,.ref c']))) :=
  ⟨I2.ok.frames,hM,fun b o e=>by rw[hB'] at e;exact ZjT e,by rw[hB'];exact Nat.le_of_eq (PySem.W.hideAll_size _ _),by
   rw[hB'];exact PySem.W.funFrames_hide I2.stack fun env he a ha=>List.mem_append_right _ (List.mem_filterMap.mpr ⟨env,he,ha⟩),I2.stkFree,I2.hok,I2.bare⟩
 have hb2:=hbg { s1 with heap:=G,toks:=tk } [ut,.ref fr,.ref h'.objs.size] I2.kIn (by rw[y08];exact hl2);rw[y08] at hb2;refine wpAny_call (codeAny_mono (FG.run X.A X.stack _ _ ⟨[ut,.ref fr,.ref h'.objs.size],[]⟩ [ut,.ref fr,.ref h'.objs.size] [v1,.ref fr,.ref h'.objs.size] Q E hr e0 hb2 r2 hsp) fun r s' hq=>?_);cases r with
 | error e=>exact hx pins σ _ _ e s' I2 hq
 | ok fl =>
  cases fl with
  | ret u=>exact I2.after hq
  | next=>exact False.elim hq
  | brk=>exact False.elim hq
  | cont=>exact False.elim hq
end
section
variable {prog:Program}{w:World}{A:Around}{E:Value->Shared->Prop}{s:Shared}
theorem Zmq {T nid iid:String}{Bn Bi:Builtin}{xs:List Value}{kw:List (Str×Value)}{S:PySem.Spec}{Q Q1:Value->Shared->Prop}(ft:TypeCalled T nid iid)
  (h1:checkTypeCall T ⟨xs,kw⟩=pure ()) (h2:checkBuiltinCall nid ⟨.type T::xs,kw⟩=pure ()) (en:entryFor table nid=some Bn) (ei:entryFor table iid=some Bi) (g:Meets (Bn ⟨.type T::xs,kw⟩) S) (h:S A.in1 (wants Q1 E) s)
  (hn:∀o s1,Q1 o s1->s1.TypeIs o T/\argsOk iid ⟨o::xs,kw⟩/\∃Si,Meets (Bi ⟨o::xs,kw⟩) Si/\Si A.in1 (wants (fun r s2=>r=.none/\Q o s2) E) s1):wpAny (model prog w) A (call (.type T) xs kw) Q E s:=by
 obtain⟨c,tl,hmro⟩:=ft.mro;have a1:=ft.made;have a2:=ft.sub;refine wpAny_call (codeAny_of_tree ?_);show wpAny _ _ (callAny (.type T) _) _ _ _;refine wpAny_pure ⟨Code.quiet_builtin _ (by decide +kernel),codeAny_builtin F.entry_type_call ?_⟩;rw[Around.under_plain (weight_type_call_type T xs kw) (units_type_call_type T xs kw)];have a3:=ft.notType;have a4:=ft.canCreate
 repeat (any_goals (first | assumption | wp_step))
 refine codeAny_mono (codeAny_call_builtin ft.plain en (wpAny_of_eq h2 (g prog w A.in1 _ s h))) fun r s1 hr=>?_
 cases r with
 | error e=>exact hr
 | ok fl =>
  cases fl with
  | next=>exact hr.elim
  | brk=>exact hr.elim
  | cont=>exact hr.elim
  | ret o =>
   obtain⟨b1,b2,Si,b3,b4⟩:=hn _ _ hr;have a5:=ft.init.lookup;have a6:=ft.init.bind o
   repeat (any_goals (first | assumption | wp_step))
   refine codeAny_mono (codeAny_call_builtin ft.init.plain ei (ft.init.check _ _ _ _ _ _ _ _ b1 b2 (b3 prog w A.in1 _ s1 b4))) fun r2 s2 hr2=>?_
   cases r2 with
   | error e=>exact hr2
   | ok fl2 =>
    cases fl2 with
    | next=>exact hr2.elim
    | brk=>exact hr2.elim
    | cont=>exact hr2.elim
    | ret r =>
     obtain⟨rfl,hq⟩:=hr2
     repeat (any_goals (first | assumption | wp_step))
def Zmy {T nid:String}{self x:Value}{kw:List (Str×Value)}(hl:typeLookup (.type T) "__init__"=pure (some (.builtin "object.__init__")))(hm:Bind.madeBy (.type T)=pure (some nid))(hne:(some nid != some "object.__new__")=true):
  Meets (Builtin.«object.__init__» ⟨[self,x],kw⟩) (fun _ R s=>s.TypeIs self T/\R (.ok (.ret .none)) s):=by
 refine Meets.of_wp fun prog w A R s hs=>?_
 obtain⟨hT,hq⟩:=hs
 repeat (any_goals (first | assumption | wp_step))
 exact⟨_,rfl,hq⟩
def Zkn (l:Addr)(t:Tok)(items:Array Value)(n:Nat)(dct:Option Addr)(sl:Array (Option Value)):
  Meets (Builtin.«enumerate.__new__» ⟨[.type "enumerate",.ref l],[("start",.int 1 t)]⟩) (fun _ R s=>s.heap.get? l=some { cls:=.type "list",dict:=dct,data:=.seq items n,slots:=sl } /\
   R (.ok (.ret (.ref (s.heap.push { cls:=.type "list_iterator",data:=.fields #[.ref l,.int 0 0] }).objs.size)))
    { s with heap:=(s.heap.push { cls:=.type "list_iterator",data:=.fields #[.ref l,.int 0 0] }).push { cls:=.type "enumerate",data:=.fields #[.none,.bool false,.ref s.heap.objs.size,rawInt 1,.none,.none] } }) :=
 .of_wp fun prog w A R s h=>by
  obtain⟨hp,g,d,tk,os⟩:=s;obtain⟨hl,h⟩:=h;have hsub:=sub_enumerate;have hL:Heap.IsList (Shared.heap ⟨hp,g,d,tk,os⟩) l items:=⟨_,hl,rfl,n,rfl⟩
  wp_walk using AutoSeq1.wpAny_loadPart' hl
  refine wpAny_stack_any fun st=>wpAny_pure ?_
  split
  ·rename_i c _ _ _ _ _;cases (c==Value.type "enumerate")
   ·wp_walk using AutoSeq1.wpAny_loadPart' hl,wpAny_pyIter_list hL
    exact⟨_,rfl,h⟩
   ·wp_walk using AutoSeq1.wpAny_loadPart' hl,wpAny_pyIter_list hL
    exact⟨_,rfl,h⟩
  ·wp_walk using AutoSeq1.wpAny_loadPart' hl,wpAny_pyIter_list hL
   exact⟨_,rfl,h⟩
def Zjy (a v:Value):checkTypeCall "enumerate" ⟨[a],[("start",v)]⟩=pure ():=by kernel_rfl
def ZjY (a v:Value):checkBuiltinCall "enumerate.__new__" ⟨[.type "enumerate",a],[("start",v)]⟩=pure ():=by kernel_rfl
def ZkC (a b v:Value):argsOk "object.__init__" ⟨[a,b],[("start",v)]⟩:=by
 unfold argsOk;rw[signature?_of (id:="object.__init__") (n:="__tini__".toList) (o:="tcejbo".toList) (by kernel_rfl) F.owner_object];kernel_rfl
def Zh5 {l:Addr}{t:Tok}{items:Array Value}{Q:Value->Shared->Prop}(hL:s.heap.IsList l items)
  (h:∀h',IsEnum h' (s.heap.objs.size+1) s.heap.objs.size 1 .none->h'.IsListIter s.heap.objs.size l 0->h'.objs.size=s.heap.objs.size+2->(∀b o,s.heap.get? b=some o->h'.get? b=some o)->Q (.ref (s.heap.objs.size+1)) { s with heap:=h' }) :
  wpAny (model prog w) A (call (.type "enumerate") [.ref l] [("start",.int 1 t)]) Q E s:=by
 obtain⟨⟨c,dct,dt,sl⟩,hl,hc,n,hd⟩:=hL
 replace hc:c=.type "list":=hc
 replace hd:dt=.seq items n:=hd
 subst hc hd;have hz:(s.heap.push { cls:=.type "list_iterator",data:=.fields #[.ref l,.int 0 0] }).objs.size=s.heap.objs.size+1:=Heap.size_push ..;refine Zmq F.called_enumerate (Zjy _ _) (ZjY _ _) F.entry_enumerate_new F.entry_object_init (Zkn l t items n dct sl) (Q1:=fun obj s1=>s1.TypeIs obj "enumerate"/\Q obj s1) ⟨hl,?_⟩ fun obj s1 hq=>⟨hq.1,ZkC _ _ _,_,Zmy F.called_enumerate.init.lookup F.called_enumerate.made (by decide),hq.1,rfl,hq.2⟩
 show _/\_;rw[hz];have he:IsEnum ((s.heap.push { cls:=.type "list_iterator",data:=.fields #[.ref l,.int 0 0] }).push { cls:=.type "enumerate",data:=.fields #[.none,.bool false,.ref s.heap.objs.size,rawInt 1,.none,.none] }) (s.heap.objs.size+1) s.heap.objs.size 1 .none:=by
  have:=y0w (s.heap.push { cls:=.type "list_iterator",data:=.fields #[.ref l,.int 0 0] }) (o:={ cls:=.type "enumerate",data:=.fields #[.none,.bool false,.ref s.heap.objs.size,rawInt 1,.none,.none] }) rfl;rw[hz] at this;exact this
 exact⟨⟨_,he,rfl⟩,h _ he ⟨_,y0v _ (y0w _ rfl),rfl,rfl⟩ (by rw[Heap.size_push,hz]) fun b o x=>y0v _ (y0v _ x)⟩
def Zkx {M:Model}{A:Around}{E:Value->Shared->Prop}{s:Shared}{env:Env}{pos:Pos}{T:String}{e:Expr}{rest:List Expr}{kws:List Keyword}{Q:Value->Shared->Prop}
  (h:wpAny M A (spliced (backTo pos (starEach (e::rest) env))) (fun vs s1=>wpAny M A (evalAll ((backToKw pos (keywordEach kws env)).map (·.2))) (fun kvs s2=>wpAny M A (call (.type T) vs (((backToKw pos (keywordEach kws env)).filterMap (·.1)).zip kvs)) Q E s2) E s1) E s)
  (he:backTo pos (starEach (e::rest) env)=(false,eval e env)::backTo pos (starEach rest env)) (hp:(backTo pos (starEach (e::rest) env)).any (·.1)=false)
  (ha:(backToKw pos (keywordEach kws env)).all (·.1.isSome)=true) (hk:(backToKw pos (keywordEach kws env)).any (·.1.isNone)=false):wpAny M A (callWith pos (.type T) [] (backTo pos (starEach (e::rest) env)) (backToKw pos (keywordEach kws env))) Q E s:=by
 have h2:wpAny M A (evalArgs (.type T) true (backTo pos (starEach (e::rest) env)) (backToKw pos (keywordEach kws env))) (fun a s1=>wpAny M A (call (.type T) ([]++a.pos) a.kw) Q E s1) E s:=by
  rw[he] at h ⊢;exact evalArgs_kwB ha h
 unfold callWith;refine wpAny_bind (wpAny_holding (wpAny_mono h2 (fun a s1 g1=>wpAny_bind (wpAny_standAt ?_)) fun _ _ x=>x));simp only[hp,hk,Bool.or_false];refine wpAny_bind (wpAny_pure ?_);exact wpAny_bind (wpAny_mono g1 (fun r s2 hr=>wpAny_bind (wpAny_holding (wpAny_point (wpAny_pure hr)))) fun _ _ x=>x)
end
def St1 (l it:Addr)(items:Array Value)(j:Nat)(h:Heap):Prop:=∃i,j=i+1/\h.IsListIter it l i/\h.IsList l items
theorem ZmT {P:Program}{w:World}{A:Around}{l it:Addr}{items:Array Value}(hh:A.handled=none):Draws P w A it [it,l] (items.size+1) (fun j x=>∃i,j=i+1/\items[i]?=some x) (St1 l it items) where
 live:=fun j h st=>let ⟨_,_,⟨o,ho,_⟩,_⟩:=st;⟨o,ho⟩
 frame:=fun j h h' st k=>by
  obtain⟨i,e,⟨o,ho,hr⟩,⟨ol,hol,hl⟩⟩:=st;exact⟨i,e,⟨o,k it (by simp) o ho,hr⟩,⟨ol,k l (by simp) ol hol,hl⟩⟩
 item:=fun j s Q E hj st hQ=>by
  obtain⟨i,rfl,hit,hl⟩:=st;have hx:items[i]?=some items[i]:=Array.getElem?_eq_getElem (by lia);have hne:l≠it:=fun z=>by
   obtain⟨o,ho,hc,_⟩:=hit;obtain⟨ol,hol,hcl,_⟩:=hl;rw[z,ho] at hol;cases hol;rw[hc] at hcl;injection hcl with z2;exact absurd z2 (by decide)
  refine wpAny_nextOf_list_item hit hl hx fun h' hit' sb=>?_
  have:=hQ items[i] h' s.toks ⟨i,rfl,hx⟩ ⟨i+1,rfl,hit',?_⟩ sb
  ·exact this
  ·obtain⟨ol,hol,hr⟩:=hl;exact⟨ol,(sb.2 l hne).trans hol,hr⟩
 done:=fun s Q E st hE=>by
  obtain⟨i,e,hit,hl⟩:=st;have e:i=items.size:=by lia
  subst e;exact wpAny_nextOf_list_end hh hit hl (by simp) hE
noncomputable def Ite1 (K:Frag)(a:Addr):It :=
 ⟨fun i H=>∃(xs:List V) (x:V),SqL K H a xs/\xs[i]?=some x,fun i H v H'=>∃T x,v=.ref T/\H T=none/\H'=upd H T (.tup [.int ((i+1:Nat):Int),x])/\∀xs,SqL K H a xs->xs[i]?=some x,fun i H=>∃xs:List V,SqL K H a xs/\xs.length<=i⟩
theorem Zhv {P:Program}{w:World}{K:Frag}{elts:List Expr}{kk:Nat}{tpos:Pos}(a e it:Addr):
  Turn P w K (.Tuple elts kk tpos) (Ite1 K a) [e,it] e (fun i h=>(∃old,IsEnum h e it ((i+1:Nat):Int) old)/\h.IsListIter it a i/\e≠it) where
 mem:=by simp
 obj:=fun i h st b hb=>by
  obtain⟨⟨old,he⟩,⟨o,ho,hc,hd⟩,_⟩:=st;have e':b=e\/b=it:=by simpa using hb
  rcases e' with z | z
  ·rw[z];exact⟨_,he,fun v q=>nomatch q⟩
  ·rw[z];exact⟨o,ho,fun v q=>by rw[hd] at q;cases q⟩
 keep:=fun i h h' st k=>let ⟨⟨old,he⟩,hi,hne⟩:=st;⟨⟨old,k e (by simp) _ he⟩,hi.at fun o q=>k it (by simp) o q,hne⟩
 item:=by
  intro X hP hw hK hc i pins s σ H E I hf st hg;subst hP hw hK;obtain⟨⟨old,he⟩,hit,hne⟩:=st;obtain⟨xs,x,hq,hx⟩:=hg;obtain⟨its,rv,p,hz⟩:=I.list hq;obtain⟨u,hu,ru⟩:=rv.get hx;have hel:e<s.heap.objs.size:=y0x he;have hil:it<s.heap.objs.size:=by obtain⟨_,q,_⟩:=hit;exact y0x q
  have hil2:its.toArray[i]?=some u:=by simpa using hu
  have hea:e≠a:=fun z=>by
   obtain⟨ol,hol,hcl,_⟩:=p.isList;rw[<- z] at hol;have he':s.heap.get? e=some _:=he;rw[he'] at hol;cases hol;injection hcl with z2;exact absurd z2 (by decide)
  have hlt:i+1<its.toArray.size+1:=by
   have:=(Array.getElem?_eq_some_iff.mp hil2).1;lia
  refine wpAny_pyNext_enum_itemD (ZmT (A:=X.A.in1) (I.ok.hd hc)) he ⟨i,rfl,hit,p.isList⟩ hlt hne (by simp[hne,hea]) fun u' h' tk hP' ho hst' hT hsz hk=>?_
  obtain⟨i',ei,hu'⟩:=hP';have ei:i'=i:=by lia
  subst ei;rw[hil2] at hu';cases hu';obtain⟨i2,ei2,hit',_⟩:=hst';have ei2:i2=i'+1:=by lia
  subst ei2;refine⟨_,rfl,wpAny_letOwnedTupleGo_enum (s:={ s with heap:=h',toks:=tk+1 }) ho fun h'' he' sb=>?_⟩;have hT2:h''.get? s.heap.objs.size=some { cls:=.type "tuple",data:=.seq #[.int ((i'+1:Nat):Int) tk,u] }:=(sb.2 _ (Nat.ne_of_gt hel)).trans hT;have new:Wd X.prog X.w (upd H s.heap.objs.size (.tup [.int ((i'+1:Nat):Int),x])) h'' s.heap.objs.size (.tup [.int ((i'+1:Nat):Int),x]) :=
   ⟨by show 2<=sizeLine;decide,[.int ((i'+1:Nat):Int) tk,u],.cons ⟨_,rfl⟩ (.cons ru .nil),⟨_,hT2,rfl,_,rfl⟩⟩
  have I1:Inv X pins σ (upd H s.heap.objs.size (.tup [.int ((i'+1:Nat):Int),x])) { s with heap:=h'',toks:=tk+1 } :=
   I.turnedNew (ch:=[e,it]) (fun b ob hb q=>(sb.2 b (fun z=>hb (by simp[z]))).trans (hk b ob (fun z=>hb (by simp[z])) (fun z=>hb (by simp[z])) q)) hf (y0r _) new
  refine⟨.ref s.heap.objs.size,_,I1,rfl,⟨_,x,rfl,I.hok.fresh (y0r _),rfl,fun ys hy=>by rw[I.list_inj hy hq];exact hx⟩,⟨⟨u,?_⟩,hit'.at fun o q=>(sb.2 it (Ne.symm hne)).trans q,hne⟩,fun b hb=>?_⟩
  ·have e1:((i'+1+1:Nat):Int)=((i'+1:Nat):Int)+1:=by lia
   rw[e1];exact he'
  ·have hb':b<s.heap.objs.size:=by
    have e':b=e\/b=it:=by simpa using hb
    rcases e' with z | z
    ·rw[z];exact hel
    ·rw[z];exact hil
   rw[Zk (Nat.ne_of_lt hb')];exact(hf b hb).1
 done:=by
  intro X hP hw hK hc i pins s σ H E I hf st hg;subst hP hw hK;obtain⟨⟨old,he⟩,hit,hne⟩:=st;obtain⟨xs,hq,hx⟩:=hg;obtain⟨its,rv,p,hz⟩:=I.list hq;obtain⟨f0,f1,f2,f3,f4,f5⟩:=hf it (by simp);have hl:=rv.length;have hT:s.TypeIs (.ref e) "enumerate":=⟨_,he,rfl⟩;unfold pyNext;refine wpAny_bind (wpAny_attempt (wpAny_callSpecial?_slot (name:=Str.ofString "__next__") hT F.slot_enumerate_next (wpAny_call_entry F.slot_enumerate_next hT F.entry_enumerate_next ?_ (F.args_enumerate_next_1 _))));show wpAny _ _ (field (.ref e) 2 >>= _) _ _ _;refine wpAny_bind (wpAny_field he rfl (x:=.ref it) rfl (wpAny_bind (wpAny_nextOf_list_end (I.ok.hd hc) hit p.isList (by simp;lia) fun h' x eb hx'=>?_)));obtain⟨o,ho,hco⟩:=hx';exact wpAny_bind (wpAny_isInstance (T:="StopIteration") (b:=true) ⟨o,ho,hco⟩ isSubtype_stop (wpAny_pure ⟨rfl,I.turned (t':=s.toks) (fun b o hb q=>eb b o hb q) f0 f1 f3 f4 f5⟩))
 self:=fun A i s Q E st h=>let ⟨⟨_,he⟩,_⟩:=st;wpAny_pyIter_enum he h
def ZmA (K:Frag)(ta:TA):TI:=fun σ H R=>ta σ H fun vs H1=>∃a xs,vs=[.ref a]/\SqL K H1 a xs/\R (Ite1 K a) H1
def ZjJ {X:Cx}{e:Expr}{ta:TA}{p pos tpos kp np:Pos}{elts:List Expr}{kk:Nat}{cj:Nat}(hg:Gl X "enumerate")(hm:X.mg "enumerate"=none)(ha:PA X [e] ta)(he:autoParam (backTo pos (starEach [e] X.env)=(false,eval e X.env)::backTo pos (starEach [] X.env)) q_1)(hp:autoParam ((backTo pos (starEach [e] X.env)).any (·.1)=false) q_1)
  (hk1:autoParam ((backToKw pos (keywordEach [⟨some "start",.Constant (.int 1) cj np,kp⟩] X.env)).all (·.1.isSome)=true) q_1) (hk2:autoParam ((backToKw pos (keywordEach [⟨some "start",.Constant (.int 1) cj np,kp⟩] X.env)).any (·.1.isNone)=false) q_1) :
  PI X (.Tuple elts kk tpos) (.Call (.Name "enumerate" p) [e] [⟨some "start",.Constant (.int 1) cj np,kp⟩] pos) (ZmA X.K ta):=by
 intro pins s σ H R I h;refine wpAny_Call_Name_kw (Zcp I hg hm boot_enumerate (Zkx (thn (ha pos pins s σ H _ I h) fun us s1 ⟨vs,H1,I1,r1,q1⟩=>?_) he hp hk1 hk2));obtain⟨a,xs,ex,hq,q⟩:=q1;subst ex;cases r1 with
 | cons r rr =>
  cases rr;cases r;refine kws_cons (wpAny_Constant_int (kws_nil ?_));show wpAny _ _ (call (.type "enumerate") [.ref a] [("start",.int 1 _)]) _ _ _;have I1':=I1.tok (s1.toks+1);obtain⟨its,rv,p',hz⟩:=I1'.list hq;refine Zh5 p'.isList fun h' he hit hsz hk=>wpAny_pyIter_enum he ?_
  have I2:=I1'.kept (t':=s1.toks+1) hk;refine⟨s1.heap.objs.size+1,[s1.heap.objs.size+1,s1.heap.objs.size],_,_,H1,rfl,I2,Zhv a (s1.heap.objs.size+1) s1.heap.objs.size,⟨⟨.none,he⟩,hit,Nat.succ_ne_self _⟩,fun b hb=>?_,q⟩;have e':b=s1.heap.objs.size+1\/b=s1.heap.objs.size:=by simpa using hb
  have hle:s1.heap.objs.size<=b:=by
   rcases e' with z | z
   ·rw[z];exact Nat.le_add_right _ _
   ·rw[z];exact y0r _
  exact I1.fpOk hle (I1.hok.fresh hle)
end L2
set_option maxHeartbeats 2000000
namespace L2
open PySem PySem.Spec PyProof.Rows
open PySem.W (WData Codec OpenSpec Well WellAll ReadsW ReadsAllW)
theorem SqL.up {K:Frag}{H H':Hp}{a:Addr}{xs:List V}(k:∀b u,H b=some u->H' b=some u)(h:SqL K H a xs):SqL K H' a xs:=by
 rcases h with(h | ⟨o,h⟩) | h
 ·exact .inl (.inl (k _ _ h))
 ·exact .inl (.inr ⟨o,k _ _ h⟩)
 ·exact .inr h
theorem SqT.up {K:Frag}{H H':Hp}{a:Addr}{xs:List V}(k:∀b u,H b=some u->H' b=some u)(h:SqT K H a xs):SqT K H' a xs:=by
 rcases h with(h | ⟨o,h⟩) | h
 ·exact .inl (.inl (k _ _ h))
 ·exact .inl (.inr ⟨o,k _ _ h⟩)
 ·exact .inr h
mutual
theorem Dw.up {K:Frag}{H H':Hp}(k:∀b u,H b=some u->H' b=some u):∀{v:V}{d:WData},Dw K H v d->Dw K H' v d
 | _,_,.non=>.non
 | _,_,.bl b=>.bl b
 | _,_,.int i=>.int i
 | _,_,.str x=>.str x
 | _,_,.byt b=>.byt b
 | _,_,.lst h1 h2=>.lst (h1.up k) (Vk.up k h2)
 | _,_,.tup h1 h2=>.tup (h1.up k) (Vk.up k h2)
theorem Vk.up {K:Frag}{H H':Hp}(k:∀b u,H b=some u->H' b=some u):∀{vs:List V}{ds:List WData},Vk K H vs ds->Vk K H' vs ds
 | _,_,.nil=>.nil
 | _,_,.cons h1 h2=>.cons (Dw.up k h1) (Vk.up k h2)
end
def ZhF {P:Program}{w:World}{K:Frag}{mg mb:Str->Option Value}{k:Nat}{fa c PT:Addr}{fd:FuncData}{ps:List Str}{sp:Sp}{s₁:Shared}{vals:List Value}{ds:List WData}{R:PySem.W.WRecords}{cl:Str->Option Addr}{d0:WData}
  (KX:K.In s₁.heap) (hns:s₁.heap.Ns mainGlobals mg) (hb:s₁.heap.Ns builtinsNs mb) (hbb:∀x:Str,x≠"__name__"->mb x=bootBuiltins x) (hlim:s₁.heap.NoLimit) (hg:s₁.gens=#[])
  (hwl:WellAll w.params s₁.heap vals ds) (hpl:plWs ds=true) (hwt:∀d∈ds,d.weight<=1048576) (hr:Room k callerA)
  (hC:PySem.W.CodeHd s₁.heap c PT) (hP:s₁.heap.get? PT=some (PySem.W.tabObj #[])) (hnt:PySem.W.noTabs K=true) (hbm:s₁.heap.BuiltinsAt mg PT)
  (F:∀base:Heap,K.In base->base.Ns mainGlobals mg->base.BuiltinsAt mg PT->FnOk P w K mg base CX0 k fa fd ps sp) (hbind:∀(s:Shared) (us:List Value),us.length=ps.length->BindsTo s fd ⟨us,[]⟩ (ps.zip us)) (hlen:ds.length=ps.length)
  (hsp:∀(H:Hp) (xs:List V),H PT=some (.tbl #[])->Vk K H xs ds->sp xs H (fun v H'=>Dw K H' v d0) fun _ _ _=>False) :
  codeAny (model P w) callerA (.call (.ref fa) ⟨vals,[]⟩) (fun r s'=>∃u as,r=.ok (.ret u)/\ReadsW R cl s'.heap u d0 as/\OldK s₁.heap s'.heap/\s'.os=s₁.os/\AllBare s'.gens) s₁:=by
 obtain⟨A,ho,ar⟩:=ZbF ds vals hwl hpl hwt;have hO:Zm1 (argH K s₁.heap A):=Zjo ar;have hok0:HOk P w (argH K s₁.heap A) s₁.heap:=Zl0 ar;have hS0:=Zhf KX ar ds vals hwl hpl ho;have hV:=Up ho;have hK:∀b u,argH K s₁.heap A b=some u->K.lookup b=none:=fun b u q=>(Zek ar q).1
 have noD:∀{b:Addr}{o:Obj},s₁.heap.get? b=some o->(∀vs n,o.data≠.seq vs n)->argH K s₁.heap A b=none:=fun {b o} e d=>by
  cases q:argH K s₁.heap A b with
  | none=>rfl
  | some u =>
   obtain⟨_,vs,_,_,⟨e2,_⟩ | ⟨e2,_⟩⟩:=Zek ar q
   ·rw[e2] at e;cases e;exact absurd rfl (d _ _)
   ·rw[e2] at e;cases e;exact absurd rfl (d _ _)
 have hPn:argH K s₁.heap A PT=none:=noD hP (fun vs n z=>by cases z);generalize argH K s₁.heap A=H0 at hO hok0 hS0 hK noD hPn;have up:∀b u,H0 b=some u->upd H0 PT (.tbl #[]) b=some u:=fun b u e=>by rw[Zk (Zf e hPn)];exact e
 have hS:Vk K (upd H0 PT (.tbl #[])) (vals.map toV) ds:=Vk.up up hS0;have hok:HOk P w (upd H0 PT (.tbl #[])) s₁.heap:=fun b u e=>by
  by_cases z:b=PT
  ·subst z;rw[Zd] at e;cases e;exact hP
  ·rw[Zk z] at e;exact(hok0 b u e).stay (fun _ _ _ r=>r) (fun d r=>up _ _ r) fun d xs r=>up _ _ r
 have nKP:K.lookup PT=none:=by
  cases q:K.lookup PT with
  | none=>rfl
  | some o =>
   have e2:=KX _ _ q;rw[hP] at e2;cases e2;have h2:=List.all_eq_true.mp hnt (PT,PySem.W.tabObj #[]) (PySem.W.mem_of_lookupK q);exact absurd (show false=true from h2) Bool.false_ne_true
 have nT:∀b,H0 b=none->b≠PT->upd H0 PT (.tbl #[]) b=none:=fun b n z=>by rw[Zk z];exact n
 have base_of:∀{b:Addr}{o:Obj},s₁.heap.get? b=some o->upd H0 PT (.tbl #[]) b=none->(hidT s₁.heap (upd H0 PT (.tbl #[]))).get? b=some o:=fun e n=>Zkc e n
 have neP:∀{b:Addr}{o:Obj},s₁.heap.get? b=some o->(∀vs,o.data≠.fields vs)->b≠PT:=fun {b o} e d z=>by
  rw[z,hP] at e;cases e;exact absurd rfl (d _)
 have nsK:∀{b:Addr}{m:Str->Option Value},s₁.heap.Ns b m->(hidT s₁.heap (upd H0 PT (.tbl #[]))).Ns b m:=fun {b m} ⟨o,es,ep,e,d,r⟩=>⟨o,es,ep,base_of e (nT _ (noD e fun vs n z=>by rw[d] at z;cases z) (neP e fun vs z=>by rw[d] at z;cases z)),d,r⟩
 have nK:∀b o,K.lookup b=some o->upd H0 PT (.tbl #[]) b=none:=fun b o e=>by
  refine nT b ?_ (fun z=>by rw[z,nKP] at e;cases e);cases q:H0 b with
  | none=>rfl
  | some u =>
   rw[hK b u q] at e;cases e
 have hKb:K.In (hidT s₁.heap (upd H0 PT (.tbl #[]))):=fun b o e=>base_of (KX b o e) (nK b o e)
 have hM:Mod K mg (hidT s₁.heap (upd H0 PT (.tbl #[]))):=⟨hKb,nsK hns,⟨mb,nsK hb,hbb⟩,let ⟨mc,h1,h2⟩:=hlim;⟨mc,nsK h1,h2⟩⟩;have hBm:(hidT s₁.heap (upd H0 PT (.tbl #[]))).BuiltinsAt mg PT:=by
  obtain⟨bm,ob,a1,a2,a3,a4,a5,a6,a7,a8⟩:=hbm;exact⟨bm,ob,a1,a2,a3,a4,base_of a5 (nT _ (noD a5 fun vs n z=>by rw[a8] at z;cases z) a4),a6,a7,a8⟩
 have e0:Env0 P w K mg (hidT s₁.heap (upd H0 PT (.tbl #[]))) callerA [] s₁ (upd H0 PT (.tbl #[])):=⟨rfl,hM,fun b o e=>Zln e,Nat.le_of_eq (ZiV _ _),trivial,fun b hb=>absurd (show b∈([]:List Addr) from hb) (by simp),hok,.of_eq hg⟩;have hl:vals.length=ps.length:=by rw[WO hwl];exact hlen
 refine codeAny_mono ((F _ hKb (nsK hns) hBm).run callerA [] s₁ (upd H0 PT (.tbl #[])) ⟨vals,[]⟩ vals (vals.map toV) _ _ hr e0 (hbind s₁ vals hl) hV (hsp _ _ Zd hS)) fun r s' x=>?_
 cases r with
 | error e=>exact False.elim x
 | ok fl =>
  cases fl with
  | next=>exact False.elim x
  | brk=>exact False.elim x
  | cont=>exact False.elim x
  | ret u =>
   obtain⟨v,H',os,bare,un,hok',r',q⟩:=x;have kept:∀b o,b≠PT->s₁.heap.get? b=some o->s'.heap.get? b=some o:=fun b o nb e=>by
    cases q2:H0 b with
    | none=>exact un.keep b o e (nT b q2 nb) (by intro z;exact absurd (show b∈([]:List Addr) from z) (by simp)) (by simp)
    | some u2 =>
     rcases hO b with z | ⟨ob,u3,z⟩
     ·rw[q2] at z;cases z
     ·have z1:=up _ _ z;have z2:=un.frzs b ob _ z1;obtain⟨e1,_⟩:=hok b _ z1;obtain⟨e2,_⟩:=hok' b _ z2;rw[e] at e1;cases e1;exact e2
   obtain⟨more,hmore⟩:=un.tbls PT #[] Zd;have hP':s'.heap.get? PT=some (PySem.W.tabObj (#[]++more)):=hok' PT _ hmore;have KX':K.In s'.heap:=fun b o e=>kept b o (fun z=>by rw[z,nKP] at e;cases e) (KX b o e)
   obtain⟨as,hrd⟩:=Dw.reads (R:=R) (cl:=cl) hok' KX' d0 v u q r';refine⟨u,as,rfl,hrd,⟨fun b o e=>?_,fun b o e=>?_⟩,os,bare⟩
   ·by_cases z:b=PT
    ·subst z;rw[hP] at e;cases e;exact .inr (.inl ⟨(hC.tab hP).isCodeTable,rfl,#[],more,rfl,hP'⟩)
    ·exact .inl (kept b o z e)
   ·by_cases z:b=PT
    ·subst z;exact⟨_,hP'⟩
    ·exact⟨o,kept b o z e⟩
def walk_specT {r:OpenSpec}{k:Nat}{q:Program}{loose:List Str}{XP:(Str->Option Value)->Heap->Prop}{YP:World->Heap->Prop}{d:DefRec}{K:Params->Frag}{ps:List Str}{sp:Frag->Addr->Sp}
  (hwell:r.wellSaid=true) (hdf:d.params.defaults=[]) (hlen:r.args.length=ps.length) (hr:Room k callerA)
  (hY:∀(w:World) (h:Heap),YP w h->(K w.params).In h) {d':DefRec} (hrec:(recsOf q).find? (fun e=>e.name==d.name)=some d')
  (hnt:∀w:World,PySem.W.noTabs (K w.params)=true) (htab:∀w:World,(PySem.W.tabIn (K w.params) d.name).isSome=true)
  (F:∀(w:World) (mg:Str->Option Value) (fa c PT:Addr) (h:Heap),YP w h->(K w.params).In h->h.Ns mainGlobals mg->mg d.name=some (.ref fa)->PySem.W.tabIn (K w.params) d.name=some (c,PT)->(∀h',(K w.params).In h'->PySem.W.CodeHd h' c PT)->mainGlobals≠PT ->
   ∃fd:FuncData,(∀(s:Shared) (us:List Value),us.length=ps.length->BindsTo s fd ⟨us,[]⟩ (ps.zip us)) /\
    ∀base:Heap,(K w.params).In base->base.Ns mainGlobals mg->base.BuiltinsAt mg PT->FnOk r.prog w (K w.params) mg base CX0 k fa fd ps (sp (K w.params) PT))
  (hsp:∀(K:Frag) (PT:Addr) (H:Hp) (xs:List V) (a:Codec.denoteAll r.args),H PT=some (.tbl #[])->Codec.withinAll r.args a=true->Codec.app r.args r.asked a=true->Vk K H xs (Codec.encAll r.args a) ->
   sp K PT xs H (fun v H'=>Dw K H' v (r.ret.enc (Codec.app r.args r.f a))) fun _ _ _=>False) :
  PySem.W.WalkOS q loose XP YP r d [] (fun f vs=>PySem.call f vs):=by
 intro w s_0 s₁ mg mb G Y fa o pm cd doc dV kV ho hd hcd hD hmg hg args vals as hpre hlay hrd hwl hlo;obtain⟨a,e1,e2⟩:=PySem.W.os_pre_some hpre;obtain⟨e3,hwi⟩:=Codec.encAll_of_decAll r.args args a e1;subst e3;have KX:=hY w _ Y;obtain⟨⟨c,PT⟩,htb⟩:=Option.isSome_iff_exists.mp (htab w);obtain⟨hC,hP⟩:=PySem.W.tab_of G.T KX hrec htb;have hCa:∀h',(K w.params).In h'->PySem.W.CodeHd h' c PT:=fun h' X'=>by
  have ht:=htb;unfold PySem.W.tabIn at ht;split at ht
  ·split at ht
   ·split at ht
    ·split at ht
     ·rename_i hfo;split at ht
      ·cases ht;obtain⟨o,vs,file,tf,flags,tg,inF,text,tt,e1,r⟩:=hC;have e2:=KX _ _ hfo;rw[e1] at e2;cases e2;exact⟨_,vs,file,tf,flags,tg,inF,text,tt,X' _ _ hfo,r⟩
      ·cases ht
     ·cases ht
    ·cases ht
   ·cases ht
  ·cases ht
 obtain⟨bm,ob,b1,b2,b3,b4,b5,b6⟩:=G.T.bmain;have hgP:mainGlobals≠PT:=fun z=>by
  obtain⟨o,es,ep,e,hd,_⟩:=G.T.g;rw[z,hP] at e;cases e;cases hd
 have hbP:bm≠PT:=fun z=>by
  rw[z,hP] at b3;cases b3;cases b4
 have hbG:bm≠mainGlobals:=fun z=>by
  obtain⟨o,es,ep,e,hd,_⟩:=G.T.g;rw[z,e] at b3;cases b3;rw[hd] at b6;cases b6
 obtain⟨fd,hb,hF⟩:=F w mg fa c PT _ Y KX G.T.g hmg htb hCa hgP;refine PySem.W.enter_call (codeAny_mono (ZhF (R:=[]) (cl:=classAt s_0.heap) (d0:=r.ret.enc (Codec.app r.args r.f a)) KX G.T.g G.T.b G.T.builtins G.T.nolimit hg hwl (ZeT _ _) (ZcU hlay) hr hC hP (hnt w) ⟨bm,ob,b1,b2,hbG,hbP,b3,b4,b5,b6⟩ hF hb (by rw[Zdv];exact hlen)
  (fun H xs hO hS=>hsp _ PT H xs a hO hwi e2 hS)) fun r' s' hq=>?_)
 obtain⟨u,as',rfl,h1,h2,h3,h4⟩:=hq;exact⟨.inl ⟨u,_,as',rfl,fun _=>rfl,h1,(OpenSpec.post_iff hwell hwi _ _).mpr rfl,fun z=>Bool.noConfusion (show false=true from z)⟩,h2,h3,h4⟩
end L2
end
section
namespace Vp
open Vh VhPage
noncomputable def pk (bs:List UInt8)(p:Nat):Int:=match bs[p]? with | some c=>(c.toNat:Int) | none=>256
theorem Zle (bs:List UInt8)(p:Nat):0<=pk bs p/\pk bs p<=256:=by
 unfold pk;split
 ·rename_i c _;have:=c.toNat_lt;lia
 ·lia
def Zz (bs:List UInt8)(p:Nat):(bs.drop p).head?=bs[p]?:=by rw[List.head?_drop]
def ZU (bs:List UInt8)(p:Nat):(bs.drop p).drop 1=bs.drop (p+1):=by rw[List.drop_drop]
def ZdY {bs:List UInt8}{p:Nat}{c:UInt8}(h:bs[p]?=some c):pk bs p=c.toNat:=by unfold pk;rw[h]
theorem V1 {bs:List UInt8}{p:Nat}{c:UInt8}:pk bs p=c.toNat↔bs[p]?=some c:=by
 unfold pk;cases h:bs[p]? with
 | none =>
  have:=c.toNat_lt;constructor
  ·intro z;simp at z;lia
  ·intro z;cases z
 | some d =>
  constructor
  ·intro z;have:d.toNat=c.toNat:=by
    have z':(d.toNat:Int)=c.toNat:=z;lia
   rw[UInt8.toNat_inj.mp this]
  ·intro z;cases z;rfl
theorem ZdZ {bs:List UInt8}{p:Nat}:pk bs p=256↔bs[p]?=none:=by
 unfold pk;cases h:bs[p]? with
 | none=>simp
 | some d =>
  have:=d.toNat_lt;simp;lia
def Y6 {bs:List UInt8}{p:Nat}{c:UInt8}(h:pk bs p=c.toNat):byte_ c p (bs.drop p)=.ok ((),p+1,bs.drop (p+1)):=by
 unfold byte_ byNext;rw[Zz,V1.mp h];dsimp only;rw[if_pos rfl];unfold behind gives;rw[ZU]
def Vf {bs:List UInt8}{p:Nat}{c:UInt8}(h:¬ pk bs p=c.toNat):byte_ c p (bs.drop p)=.error p:=by
 unfold byte_ byNext;rw[Zz];dsimp only;rw[if_neg (fun z=>h (V1.mpr z))];rfl
def ZJ {α β:Type}{r:Rd α}{f:α->Rd β}{p p':Nat}{b b':Bytes}{x:α}(h:r p b=.ok (x,p',b')):andThen r f p b=f x p' b':=by unfold andThen;rw[h]
def ZX {α β:Type}{r:Rd α}{f:α->Rd β}{p i:Nat}{b:Bytes}(h:r p b=.error i):andThen r f p b=.error i:=by unfold andThen;rw[h]
theorem ZhX {lo hi v k:Nat}(hv:v≠0)(h1:v * 10 ^ k<=hi)(h2:lo<(v+1) * 10 ^ k)(h3:hi<10 ^ 11):leadsTo lo hi v=true:=by
 unfold leadsTo;rw[if_neg hv,List.any_eq_true];have hk:k<12:=by
  apply Decidable.byContradiction;intro hk;have h4:10 ^ 11<=10 ^ k:=Nat.pow_le_pow_right (by lia) (by lia);have h5:1 * 10 ^ k<=v * 10 ^ k:=Nat.mul_le_mul_right _ (by lia);lia
 exact⟨k,List.mem_range.mpr hk,by simp[h1,h2]⟩
theorem Zgp {lo hi v k:Nat}(hv:v≠0)(h:∀j,j<k->¬ (v * 10 ^ j<=hi/\lo<(v+1) * 10 ^ j))(h1:hi<v * 10 ^ k):leadsTo lo hi v=false:=by
 unfold leadsTo;rw[if_neg hv,List.any_eq_false];intro j _ q;have q':v * 10 ^ j<=hi/\lo<(v+1) * 10 ^ j:=by simpa using q
 by_cases hj:j<k
 ·exact h j hj q'
 ·have h4:10 ^ k<=10 ^ j:=Nat.pow_le_pow_right (by lia) (by lia);have h5:=Nat.mul_le_mul_left v h4;lia
def ZhW {lo hi:Nat}:leadsTo lo hi 0=(lo==0):=by unfold leadsTo;rw[if_pos rfl]
noncomputable def dig (bs:List UInt8)(lo hi v p:Nat):Option Nat:=if 48<=pk bs p/\pk bs p<=57/\leadsTo lo hi (v * 10+(pk bs p-48).toNat)=true then some (v * 10+(pk bs p-48).toNat) else none
def Jl {c:UInt8}:isDigit c=true↔48<=c.toNat/\c.toNat<=57:=by
 unfold isDigit;rw[Bool.and_eq_true,decide_eq_true_eq,decide_eq_true_eq,UInt8.le_iff_toNat_le,UInt8.le_iff_toNat_le];exact Iff.rfl
theorem Jn (lo hi f:Nat)(v:Option Nat)(bs:List UInt8)(p:Nat)(hv:v≠some 0):digits lo hi (f+1) v p (bs.drop p)=match dig bs lo hi (v.getD 0) p with
  | some n=>digits lo hi f (some n) (p+1) (bs.drop (p+1))
  | none=>match v with
   | some n=>if lo<=n/\n<=hi then .ok (n,p,bs.drop p) else .error p
   | none=>.error p:=by
 rw[Vh.digits.eq_def];dsimp only;unfold byNext;rw[Zz];have key:((bs[p]?).bind fun(c:UInt8)=>if isDigit c=false\/v=some 0 then none else if leadsTo lo hi (10 * v.getD 0+(c.toNat-48))=true then some (10 * v.getD 0+(c.toNat-48)) else none)=dig bs lo hi (v.getD 0) p:=by
  unfold dig pk;cases h:bs[p]? with
  | none =>
   simp only[Option.bind_none];rw[if_neg (by lia)]
  | some c =>
   simp only[Option.bind_some];by_cases hd:isDigit c=true
   ·have hd':=Jl.mp hd;rw[if_neg (by simp[hd,hv])];have e1:((c.toNat:Int)-48).toNat=c.toNat-48:=by lia
    rw[e1,Nat.mul_comm 10];by_cases hl:leadsTo lo hi (v.getD 0 * 10+(c.toNat-48))=true
    ·rw[if_pos hl,if_pos ⟨by lia,by lia,hl⟩]
    ·rw[if_neg hl,if_neg (fun z=>hl z.2.2)]
   ·rw[if_pos (by simp[hd]),if_neg (fun z=>hd (Jl.mpr ⟨by lia,by lia⟩))]
 dsimp only;rw[key];cases dig bs lo hi (v.getD 0) p with
 | some n=>dsimp only;unfold behind;rw[ZU]
 | none =>
  dsimp only;cases v with
  | none=>rfl
  | some n =>
   dsimp only;split <;> rfl
theorem Zgy (lo hi f:Nat)(bs:List UInt8)(p:Nat):digits lo hi (f+1) (some 0) p (bs.drop p)=if lo=0 then .ok (0,p,bs.drop p) else .error p:=by
 rw[Vh.digits.eq_def];dsimp only;unfold byNext;rw[Zz];have key:((bs[p]?).bind fun(c:UInt8)=>if isDigit c=false\/some 0=some 0 then none else if leadsTo lo hi (10 * (some 0).getD 0+(c.toNat-48))=true then some (10 * (some 0).getD 0+(c.toNat-48)) else none)=none:=by
  cases bs[p]? with
  | none=>rfl
  | some c=>simp
 dsimp only;rw[key];dsimp only;by_cases h:lo=0
 ·rw[if_pos ⟨by lia,by lia⟩,if_pos h];rfl
 ·rw[if_neg (by lia),if_neg h];rfl
theorem Zj9 {lo hi v:Nat}(h:leadsTo lo hi v=true):v<=hi:=by
 unfold leadsTo at h;split at h
 ·lia
 ·rw[List.any_eq_true] at h;obtain⟨k,_,hk⟩:=h;rw[Bool.and_eq_true,decide_eq_true_eq] at hk;have:v * 1<=v * 10 ^ k:=Nat.mul_le_mul_left _ (Nat.one_le_pow _ _ (by lia));lia
structure ZnF (bs:List UInt8)(lo hi p0 v p f:Nat):Prop where
 eq:num lo hi p0 (bs.drop p0)=digits lo hi f (some v) p (bs.drop p)
 le:v<=hi
 big:10 ^ 20<=v * 10 ^ f * 10
def Zfd {bs:List UInt8}{lo hi p v:Nat}(h:dig bs lo hi 0 p=some v):num lo hi p (bs.drop p)=digits lo hi 19 (some v) (p+1) (bs.drop (p+1)):=by
 unfold num;rw[Jn lo hi 19 none bs p (by simp)];show(match dig bs lo hi 0 p with | some n=>_ | none=>_)=_;rw[h]
def ZjU {bs:List UInt8}{lo hi p:Nat}(h:dig bs lo hi 0 p=none):num lo hi p (bs.drop p)=.error p:=by
 unfold num;rw[Jn lo hi 19 none bs p (by simp)];show(match dig bs lo hi 0 p with | some n=>_ | none=>_)=_;rw[h]
theorem Zjb {bs:List UInt8}{lo hi v p n:Nat}(h:dig bs lo hi v p=some n):n<=hi/\v * 10<=n/\leadsTo lo hi n=true:=by
 unfold dig at h;split at h
 ·rename_i z;cases h;exact⟨Zj9 z.2.2,by lia,z.2.2⟩
 ·cases h
noncomputable def X6:List Int:=[124,47,40,41,91,93,60,62,123,125,61,43,126,94,35,34]
noncomputable def isL (n:Int):Bool:=!(decide (n<33) || (decide (127<=n) && decide (n<=159)) || X6.contains n) && decide (n % 65536<65534)
noncomputable def ZeL (n:Int):Int:=if n<128 then 1 else if 194<=n/\n<=223 then 2 else if 224<=n/\n<=239 then 3 else if 240<=n/\n<=244 then 4 else 0
noncomputable def blo (n:Int):Int:=if n=224 then 160 else if n=240 then 144 else 128
noncomputable def bhi (n:Int):Int:=if n=237 then 159 else if n=244 then 143 else 191
theorem Uc {v:Nat}(h:160<=v):isL (v:Int)=decide (v % 65536<65534):=by
 unfold isL;have h1:X6.contains (v:Int)=false:=by
  rw[List.contains_eq_any_beq,List.any_eq_false];intro x hx;have:x<=127:=by
   revert x
   decide
  simp;lia
 rw[h1,decide_eq_false (show ¬ (v:Int)<33 by lia),decide_eq_false (show ¬ (v:Int)<=159 by lia)];simp;constructor <;> intro z <;> lia
theorem ZlD {v:Nat}(h1:128<=v)(h2:v<=159):isL (v:Int)=false:=by
 unfold isL;rw[decide_eq_true (show 127<=(v:Int) by lia),decide_eq_true (show(v:Int)<=159 by lia)];simp
theorem ZiT {c:UInt8}(h:c.toNat<128):isL (c.toNat:Int)=isLetter c.toNat:=by
 have key:∀n,n<128->isL ((n:Nat):Int)=isLetter n:=by decide +kernel
 exact key _ h
theorem Zal (bs:List UInt8)(lo hi p:Nat)(h1:128<=lo)(h:hi<=255):tail_ lo hi p (bs.drop p)=if (lo:Int)<=pk bs p/\pk bs p<=hi then .ok ((pk bs p).toNat-128,p+1,bs.drop (p+1)) else .error p:=by
 unfold tail_ byNext;rw[Zz];unfold pk;cases e:bs[p]? with
 | none =>
  dsimp only;rw[if_neg (by lia)];rfl
 | some c =>
  dsimp only;by_cases q:lo<=c.toNat/\c.toNat<=hi
  ·rw[if_pos q,if_pos (by lia)];unfold behind gives;rw[ZU];rfl
  ·rw[if_neg q,if_neg (by lia)];rfl
noncomputable def J3 (bs:List UInt8):Nat->Nat->Int->Int->Nat->Except Nat (Nat×Nat)
 | 0,v,_,_,p=>.ok (v,p)
 | n+1,v,lo,hi,p=>if lo<=pk bs p/\pk bs p<=hi then(if n=0/\isL ((v * 64+((pk bs p).toNat-128):Nat):Int)=false then .error p else J3 bs n (v * 64+((pk bs p).toNat-128)) 128 191 (p+1)) else .error p
noncomputable def outR (bs:List UInt8):Except Nat (Nat×Nat)->Except Nat (Nat×Nat×Bytes)
 | .ok (x,p)=>.ok (x,p,bs.drop p)
 | .error i=>.error i
noncomputable def ZfI (n:Nat):Nat:=if n<0xE0 then 0xC0 else if n<0xF0 then 0xE0 else 0xF0
noncomputable def X5 (n:Nat):Nat:=if n<0xE0 then 1 else if n<0xF0 then 2 else 3
theorem Zir {c:UInt8}(h1:194<=c.toNat)(h2:c.toNat<=244):startsLetter c=true:=by
 unfold startsLetter;rw[if_neg (by lia)];simp;lia
theorem Zgo {bs:List UInt8}{p:Nat}{c:UInt8}(hc:bs[p]?=some c)(h1:194<=c.toNat)(h2:c.toNat<=244):
  letter_ p (bs.drop p)=outR bs (J3 bs (X5 c.toNat) (c.toNat-ZfI c.toNat) (blo c.toNat) (bhi c.toNat) (p+1)):=by
 unfold letter_ byNext;rw[Zz,hc];dsimp only;rw[if_neg (by rw[Zir h1 h2];decide),if_neg (show ¬ c.toNat<128 by lia)];unfold X5 ZfI blo bhi;have b1:=Zle bs (p+1);have b2:=Zle bs (p+2);have b3:=Zle bs (p+3);generalize e1:pk bs (p+1)=x1 at b1;generalize e2:pk bs (p+2)=x2 at b2;generalize e3:pk bs (p+3)=x3 at b3;generalize c.toNat=n at h1 h2;by_cases hE:n<224
 ·simp only[if_pos hE];unfold behind;rw[ZU];unfold andThen;rw[Zal _ _ _ _ (by split <;> lia) (by lia),e1];simp only[J3,e1];rw[if_neg (show ¬ (n:Int)=224 by lia),if_neg (show ¬ (n:Int)=240 by lia),if_neg (show ¬ (n:Int)=237 by lia),if_neg (show ¬ (n:Int)=244 by lia)];by_cases q:128<=x1/\x1<=191
  ·rw[if_pos q];by_cases h3:n=194
   ·subst h3;by_cases h4:160<=x1
    ·rw[if_pos (by simp;lia)];have:isL (((194-192) * 64+(x1.toNat-128):Nat):Int)=true:=by rw[Uc (by lia)];simp;lia
     rw[if_neg (by rw[this];simp)];rfl
    ·rw[if_neg (by simp;lia)];have:isL (((194-192) * 64+(x1.toNat-128):Nat):Int)=false:=ZlD (by lia) (by lia);rw[if_pos ⟨by simp,this⟩];rfl
   ·rw[if_neg h3,if_pos (by simp;lia)];have:isL (((n-192) * 64+(x1.toNat-128):Nat):Int)=true:=by rw[Uc (by lia)];simp;lia
    rw[if_neg (by rw[this];simp)];rfl
  ·rw[if_neg q,if_neg (by split <;> lia)];rfl
 ·simp only[if_neg hE];by_cases hF:n<240
  ·simp only[if_pos hF];unfold behind;rw[ZU];unfold andThen;rw[Zal _ _ _ _ (by split <;> lia) (by split <;> lia),e1];simp only[J3,e1];by_cases q:(if (n:Int)=224 then(160:Int) else if (n:Int)=240 then 144 else 128)<=x1/\x1<=(if (n:Int)=237 then(159:Int) else if (n:Int)=244 then 143 else 191)
   ·rw[if_pos q,if_pos (by split at q <;> split at q <;> (try split at q) <;> (try split at q) <;> (try split) <;> (try split) <;> lia)];have x1lo:128<=x1:=by split at q <;> (try split at q) <;> lia
    have x1hi:x1<=191:=by split at q <;> (try split at q) <;> (try split at q) <;> (try split at q) <;> lia
    have x1E:n=224->160<=x1:=fun z=>by rw[if_pos (by lia)] at q;lia
    dsimp only;rw[Zal _ _ _ _ (by lia) (by split <;> lia),e2];rw[if_neg (show ¬ (1=0/\_) by simp)];by_cases q2:128<=x2/\x2<=191
    ·rw[if_pos q2];have big:160<=((n-224) * 64+(x1.toNat-128)) * 64+(x2.toNat-128):=by
      by_cases z:n=224
      ·have:=x1E z;lia
      ·lia
     by_cases h5:n=239/\x1.toNat-128=63
     ·rw[if_pos h5];by_cases h6:x2<=189
      ·rw[if_pos (by simp;lia)];have:isL (((((n-224) * 64+(x1.toNat-128)) * 64+(x2.toNat-128):Nat)):Int)=true:=by rw[Uc big];simp;lia
       rw[if_neg (by rw[this];simp)];simp only[J3,outR,gives];rw[show(n-224) * 4096+(x1.toNat-128) * 64+(x2.toNat-128)=((n-224) * 64+(x1.toNat-128)) * 64+(x2.toNat-128) by lia]
      ·rw[if_neg (by simp;lia)];have:isL (((((n-224) * 64+(x1.toNat-128)) * 64+(x2.toNat-128):Nat)):Int)=false:=by rw[Uc big];simp;lia
       rw[if_pos ⟨by simp,this⟩];rfl
     ·rw[if_neg h5,if_pos (by simp;lia)];have:isL (((((n-224) * 64+(x1.toNat-128)) * 64+(x2.toNat-128):Nat)):Int)=true:=by rw[Uc big];simp;lia
      rw[if_neg (by rw[this];simp)];simp only[J3,outR,gives];rw[show(n-224) * 4096+(x1.toNat-128) * 64+(x2.toNat-128)=((n-224) * 64+(x1.toNat-128)) * 64+(x2.toNat-128) by lia]
    ·rw[if_neg q2,if_neg (by split <;> lia)];rfl
   ·rw[if_neg q,if_neg (by split at q <;> (try split at q) <;> (try split at q) <;> (try split at q) <;> (try split) <;> (try split) <;> lia)];rfl
  ·simp only[if_neg hF];unfold behind;rw[ZU];unfold andThen;rw[Zal _ _ _ _ (by split <;> lia) (by split <;> lia),e1];simp only[J3,e1];by_cases q:(if (n:Int)=224 then(160:Int) else if (n:Int)=240 then 144 else 128)<=x1/\x1<=(if (n:Int)=237 then(159:Int) else if (n:Int)=244 then 143 else 191)
   ·rw[if_pos q,if_pos (by split at q <;> split at q <;> (try split at q) <;> (try split at q) <;> (try split) <;> (try split) <;> lia)];have x1lo:128<=x1:=by split at q <;> (try split at q) <;> lia
    have x1hi:x1<=191:=by split at q <;> (try split at q) <;> (try split at q) <;> (try split at q) <;> lia
    have x1E:n=240->144<=x1:=fun z=>by rw[if_neg (by lia),if_pos (by lia)] at q;lia
    dsimp only;rw[Zal _ _ _ _ (by lia) (by lia),e2];rw[if_neg (show ¬ (2=0/\_) by simp)];by_cases q2:128<=x2/\x2<=191
    ·rw[if_pos q2,if_pos (by simp;lia)];dsimp only;rw[Zal _ _ _ _ (by lia) (by split <;> lia),e3];rw[if_neg (show ¬ (1=0/\_) by simp)];by_cases q3:128<=x3/\x3<=191
     ·rw[if_pos q3];have big:160<=(((n-240) * 64+(x1.toNat-128)) * 64+(x2.toNat-128)) * 64+(x3.toNat-128):=by
       by_cases z:n=240
       ·have:=x1E z;lia
       ·lia
      by_cases h5:(x1.toNat-128) % 16=15/\x2.toNat-128=63
      ·rw[if_pos h5];by_cases h6:x3<=189
       ·rw[if_pos (by simp;lia)];have:isL ((((((n-240) * 64+(x1.toNat-128)) * 64+(x2.toNat-128)) * 64+(x3.toNat-128):Nat)):Int)=true:=by rw[Uc big];simp;lia
        rw[if_neg (by rw[this];simp)];simp only[J3,outR,gives];rw[show(n-240) * 262144+(x1.toNat-128) * 4096+(x2.toNat-128) * 64+(x3.toNat-128)=(((n-240) * 64+(x1.toNat-128)) * 64+(x2.toNat-128)) * 64+(x3.toNat-128) by lia]
       ·rw[if_neg (by simp;lia)];have:isL ((((((n-240) * 64+(x1.toNat-128)) * 64+(x2.toNat-128)) * 64+(x3.toNat-128):Nat)):Int)=false:=by rw[Uc big];simp;lia
        rw[if_pos ⟨by simp,this⟩];rfl
      ·rw[if_neg h5,if_pos (by simp;lia)];have:isL ((((((n-240) * 64+(x1.toNat-128)) * 64+(x2.toNat-128)) * 64+(x3.toNat-128):Nat)):Int)=true:=by rw[Uc big];simp;lia
       rw[if_neg (by rw[this];simp)];simp only[J3,outR,gives];rw[show(n-240) * 262144+(x1.toNat-128) * 4096+(x2.toNat-128) * 64+(x3.toNat-128)=(((n-240) * 64+(x1.toNat-128)) * 64+(x2.toNat-128)) * 64+(x3.toNat-128) by lia]
     ·rw[if_neg q3,if_neg (by split <;> lia)];rfl
    ·rw[if_neg q2,if_neg (by simp;lia)];rfl
   ·rw[if_neg q,if_neg (by split at q <;> (try split at q) <;> (try split at q) <;> (try split at q) <;> (try split) <;> (try split) <;> lia)];rfl
noncomputable def Zbv (mk:List UInt8):Rd Nat:=byNext fun(c:Option UInt8)=>match c with
 | none=>stray
 | some x=>if mk.contains x=true then behind (gives x.toNat) else letter_
noncomputable def cS (bs:List UInt8)(mk:List UInt8)(p:Nat):Bool:=match bs[p]? with
 | none=>false
 | some x=>mk.contains x || startsLetter x
noncomputable def preO {α:Type}(xs:List α):Except Nat (List α×Nat×Bytes)->Except Nat (List α×Nat×Bytes)
 | .ok (r,p,b)=>.ok (xs++r,p,b)
 | .error i=>.error i
def W5 {α:Type}(xs ys:List α)(r:Except Nat (List α×Nat×Bytes)):preO xs (preO ys r)=preO (xs++ys) r:=by
 cases r with
 | error i=>rfl
 | ok x=>obtain⟨r,p,b⟩:=x;simp[preO]
def JX {α:Type}(r:Except Nat (List α×Nat×Bytes)):preO [] r=r:=by
 cases r with
 | error i=>rfl
 | ok x=>obtain⟨r,p,b⟩:=x;simp[preO]
def Vd {bs mk:List UInt8}{p:Nat}(h:cS bs mk p=false):Zbv mk p (bs.drop p)=.error p:=by
 unfold Zbv byNext;rw[Zz];unfold cS at h;cases e:bs[p]? with
 | none=>rfl
 | some x =>
  rw[e] at h;dsimp only at h ⊢;rw[Bool.or_eq_false_iff] at h;rw[if_neg (by rw[h.1];decide)];unfold letter_ byNext;rw[Zz,e];dsimp only;rw[if_pos h.2];rfl
def Zeh {bs mk:List UInt8}{p k:Nat}(h:cS bs mk p=false):chars_ mk k p (bs.drop p)=.ok ([],p,bs.drop p):=by
 cases k with
 | zero=>rfl
 | succ k =>
  rw[chars_];unfold byNext;rw[Zz];unfold cS at h;cases e:bs[p]? with
  | none=>rfl
  | some x =>
   rw[e] at h;dsimp only at h ⊢;rw[Bool.or_eq_false_iff] at h;rw[if_neg (by rw[h.1];decide),if_neg (by rw[h.2];decide)];rfl
def Zfy {bs mk:List UInt8}{p k i:Nat}(h:cS bs mk p=true)(h1:Zbv mk p (bs.drop p)=.error i):chars_ mk (k+1) p (bs.drop p)=.error i:=by
 rw[chars_];unfold Zbv byNext at h1;unfold byNext;rw[Zz] at h1 ⊢;unfold cS at h;cases e:bs[p]? with
 | none=>rw[e] at h;cases h
 | some x =>
  rw[e] at h h1;dsimp only at h h1 ⊢;by_cases hm:mk.contains x=true
  ·rw[if_pos hm] at h1;cases h1
  ·rw[if_neg hm] at h1 ⊢;have hs:startsLetter x=true:=by
    rcases Bool.or_eq_true_iff.mp h with z | z
    ·exact absurd z hm
    ·exact z
   rw[if_pos hs];exact ZX h1
def Zhn {bs mk:List UInt8}{p k n p':Nat}(h:cS bs mk p=true)(h1:Zbv mk p (bs.drop p)=.ok (n,p',bs.drop p')):chars_ mk (k+1) p (bs.drop p)=preO [n] (chars_ mk k p' (bs.drop p')):=by
 rw[chars_];unfold Zbv byNext at h1;unfold byNext;rw[Zz] at h1 ⊢;unfold cS at h;have fin:∀(r:Rd Letters),andThen r (fun(l:Letters)=>gives (n::l)) p' (bs.drop p')=preO [n] (r p' (bs.drop p')):=fun r=>by
  unfold andThen;cases r p' (bs.drop p') with
  | error i=>rfl
  | ok x=>rfl
 cases e:bs[p]? with
 | none=>rw[e] at h;cases h
 | some x =>
  rw[e] at h h1;dsimp only at h h1 ⊢;by_cases hm:mk.contains x=true
  ·rw[if_pos hm] at h1 ⊢;unfold behind gives at h1;rw[ZU] at h1;injection h1 with h1;injection h1 with h2 h3;injection h3 with h3 h4;subst h2 h3;unfold behind;rw[ZU];exact fin _
  ·rw[if_neg hm] at h1 ⊢;have hs:startsLetter x=true:=by
    rcases Bool.or_eq_true_iff.mp h with z | z
    ·exact absurd z hm
    ·exact z
   rw[if_pos hs,ZJ h1];exact fin _
def JJ {bs mk:List UInt8}{p k p':Nat}{x:Letters}(h:chars_ mk k p (bs.drop p)=.ok (x,p',bs.drop p'))(hx:x≠[]):someChars_ mk k p (bs.drop p)=.ok (x,p',bs.drop p'):=by
 unfold someChars_;rw[ZJ h];rw[if_neg (by cases x <;> simp at hx ⊢)];rfl
def ZgM {bs mk:List UInt8}{p k i:Nat}(h:chars_ mk k p (bs.drop p)=.error i):someChars_ mk k p (bs.drop p)=.error i:=by
 unfold someChars_;exact ZX h
def ZjB {bs mk:List UInt8}{p k:Nat}(h:chars_ mk k p (bs.drop p)=.ok ([],p,bs.drop p)):someChars_ mk k p (bs.drop p)=.error p:=by
 unfold someChars_;rw[ZJ h];rfl
theorem J5:∀(k:Nat),letters_ k=chars_ [] k
 | 0=>rfl
 | k+1=>by
  rw[letters_,chars_,J5 k];rfl
def WD (k:Nat):someLetters_ k=someChars_ [] k:=by unfold someLetters_ someChars_;rw[J5]
noncomputable def Xy (one:Rd Letters)(m:Nat):Rd (List Letters):=byNext fun(c:Option UInt8)=>if c=some 10 then behind (gives []) else if m=0 then stray else andThen (byte_ 32) fun(_:Unit)=>row_ one m
def Zde {one:Rd Letters}{m p p':Nat}{b b':Bytes}{x:Letters}(h:one p b=.ok (x,p',b')):row_ one (m+1) p b=preO [x] (Xy one m p' b'):=by
 rw[row_,ZJ h];unfold Xy byNext;dsimp only;split
 ·rfl
 ·split
  ·rfl
  ·unfold andThen;cases byte_ 32 p' b' with
   | error i=>rfl
   | ok y =>
    obtain⟨u,p2,b2⟩:=y;dsimp only;cases row_ one m p2 b2 with
    | error i=>rfl
    | ok z=>rfl
def ZdV {one:Rd Letters}{m p i:Nat}{b:Bytes}(h:one p b=.error i):row_ one (m+1) p b=.error i:=by
 rw[row_,ZX h]
def ZkI {one:Rd Letters}{m p:Nat}{bs:List UInt8}(h:pk bs p=10):Xy one m p (bs.drop p)=.ok ([],p+1,bs.drop (p+1)):=by
 unfold Xy byNext;rw[Zz,V1 (c:=10) |>.mp h];dsimp only;rw[if_pos rfl];unfold behind gives;rw[ZU]
def ZkH {one:Rd Letters}{m p:Nat}{bs:List UInt8}(h:pk bs p=32)(hm:m≠0):Xy one m p (bs.drop p)=row_ one m (p+1) (bs.drop (p+1)):=by
 unfold Xy byNext;have e:=(V1 (c:=32)).mp h;rw[Zz,e];dsimp only;rw[if_neg (by decide),if_neg hm];exact ZJ (Y6 h)
def ZbM {one:Rd Letters}{m p:Nat}{bs:List UInt8}(h1:pk bs p≠10)(h2:m=0\/pk bs p≠32):Xy one m p (bs.drop p)=.error p:=by
 unfold Xy byNext;rw[Zz];dsimp only;rw[if_neg (fun z=>h1 ((V1 (c:=10)).mpr z))];by_cases hm:m=0
 ·rw[if_pos hm];rfl
 ·rw[if_neg hm];exact ZX (Vf (fun z=>(h2.resolve_left hm) z))
theorem ZmW {bs mk:List UInt8}{p:Nat}(hm:∀c∈mk,33<=c.toNat)(h:pk bs p=32\/pk bs p=10):cS bs mk p=false:=by
 unfold cS;cases e:bs[p]? with
 | none=>rfl
 | some x =>
  dsimp only;have e2:=ZdY e;have hx:x.toNat=32\/x.toNat=10:=by lia
  have h1:mk.contains x=false:=by
   rw[List.contains_eq_any_beq,List.any_eq_false];intro y hy z;have:=hm y hy;rw[eq_of_beq z] at hx;lia
  have h2:startsLetter x=false:=by
   unfold startsLetter;rw[if_pos (by lia)];rcases hx with z | z <;> rw[z] <;> decide
  rw[h1,h2];rfl
theorem Xf {β:Type}{bs:List UInt8}{p:Nat}{c:UInt8}{g:Unit->Rd β}(h:48<=pk bs p/\pk bs p<=57)(hc:autoParam (c.toNat<48) q_2):andThen (byte_ c) g p (bs.drop p)=.error p:=ZX (Vf (by lia))
def Zm2 (bs:List UInt8)(lo hi p p':Nat):Prop:=num lo hi p (bs.drop p)=.error p'\/∃x,num lo hi p (bs.drop p)=.ok (x,p',bs.drop p')/\48<=pk bs p'/\pk bs p'<=57
def Jg {β:Type}{bs:List UInt8}{lo hi p p':Nat}{f:Nat->Rd β}(h:Zm2 bs lo hi p p')(hf:∀x,(48<=pk bs p'/\pk bs p'<=57)->f x p' (bs.drop p')=.error p'):andThen (num lo hi) f p (bs.drop p)=.error p':=by
 rcases h with h | ⟨x,h,hd⟩
 ·exact ZX h
 ·rw[ZJ h];exact hf x hd
def ZbL {β:Type}(lo hi:Nat)(f:Nat->Rd β):andThen (then_ lo hi) f=andThen (byte_ 32) (fun _=>andThen (num lo hi) f):=by
 funext p b;unfold then_ andThen;cases byte_ 32 p b with
 | error i=>rfl
 | ok x=>rfl
noncomputable def hd:List (Nat×Nat)->List Nat->Rd (List Nat)
 | [],xs=>andThen (byte_ 10) fun(_:Unit)=>gives xs
 | b::r,[]=>andThen (num b.1 b.2) fun x=>hd r [x]
 | b::r,y::ys=>andThen (byte_ 32) fun(_:Unit)=>andThen (num b.1 b.2) fun x=>hd r ((y::ys)++[x])
noncomputable def hdr (bds:List (Nat×Nat)):Rd (List Nat):=andThen (byte_ 94) fun(_:Unit)=>hd bds []
theorem hd_s (b:Nat×Nat)(r:List (Nat×Nat)):∀(xs:List Nat),xs≠[]->hd (b::r) xs=andThen (byte_ 32) fun(_:Unit)=>andThen (num b.1 b.2) fun x=>hd r (xs++[x])
 | [],h=>absurd rfl h
 | _::_,_=>rfl
theorem Zke {bs:List UInt8}{p:Nat}(h:48<=pk bs p/\pk bs p<=57):∀(bds:List (Nat×Nat)) (xs:List Nat),xs≠[]->hd bds xs p (bs.drop p)=.error p
 | [],_,_=>by rw[hd];exact Xf h
 | b::r,xs,hx=>by rw[hd_s b r xs hx];exact Xf h
noncomputable def mapR {α β:Type}(f:α->β)(r:Rd α):Rd β:=fun p b=>match r p b with
 | .error i=>.error i
 | .ok x=>.ok (f x.1,x.2.1,x.2.2)
def Zj1 {α β γ:Type}(f:β->γ)(r:Rd α)(g:α->Rd β):mapR f (andThen r g)=andThen r fun x=>mapR f (g x):=by
 funext p b;unfold mapR andThen;cases r p b with
 | error i=>rfl
 | ok x=>rfl
def ZiI {α β:Type}(f:α->β)(x:α):mapR f (gives x)=gives (f x):=rfl
def Zml {α β:Type}{f:α->β}{r:Rd α}{x:α}{p p':Nat}{b b':Bytes}(h:r p b=.ok (x,p',b')):mapR f r p b=.ok (f x,p',b'):=by unfold mapR;rw[h]
def Zmm {α β:Type}{f:α->β}{r:Rd α}{p i:Nat}{b:Bytes}(h:r p b=.error i):mapR f r p b=.error i:=by unfold mapR;rw[h]
noncomputable def mkS:List Nat->Settings
 | [a,b,c,d,e,f]=>⟨a,b,c,d,e,f⟩
 | _=>⟨0,0,0,0,0,0⟩
noncomputable def bdS:List (Nat×Nat):=[(20,240),(6,240),(1,16),(1,100),(0,1),(0,10000)]
def ZaX:settings_=mapR mkS (hdr bdS):=by
 unfold settings_ hdr bdS;simp only[hd,Zj1,ZiI,ZbL,List.cons_append,List.nil_append,mkS]
noncomputable def wRow (k lo:Nat):Rd (List (Nat×Nat×Nat)):=andThen (num lo LARGEST) fun(a:Nat)=>andThen (byte_ 32) fun(_:Unit)=>andThen (num a LARGEST) fun(b:Nat)=>andThen (byte_ 32) fun(_:Unit)=>andThen (num 0 2) fun(n:Nat)=>andThen (byte_ 10) fun(_:Unit) =>
 andThen (widths_ k (b+1)) fun(r:List (Nat×Nat×Nat))=>gives ((a,b,n)::r)
def Zia {bs:List UInt8}{p k lo:Nat}(h:pk bs p=40)(hlo:lo<=LARGEST):widths_ (k+1) lo p (bs.drop p)=wRow k lo (p+1) (bs.drop (p+1)):=by
 rw[widths_];unfold byNext;rw[Zz,(V1 (c:=40)).mp h];dsimp only;rw[if_pos ⟨rfl,hlo⟩];unfold behind wRow;rw[ZU];simp only[ZbL]
theorem ZfO {bs:List UInt8}{p k lo:Nat}(h:k=0\/pk bs p≠40\/LARGEST<lo):widths_ k lo p (bs.drop p)=.ok ([],p,bs.drop p):=by
 cases k with
 | zero=>rfl
 | succ k =>
  rw[widths_];unfold byNext;rw[Zz];dsimp only;rw[if_neg]
  ·rfl
  ·rintro⟨h1,h2⟩;rcases h with h | h | h
   ·cases h
   ·exact h ((V1 (c:=40)).mpr h1)
   ·lia
def Zac {α:Type}(x:α)(r:Rd (List α))(p:Nat)(b:Bytes):andThen r (fun(l:List α)=>gives (x::l)) p b=preO [x] (r p b):=by
 unfold andThen;cases r p b with
 | error i=>rfl
 | ok y=>rfl
def ZjN {bs:List UInt8}{p k n:Nat}(h:pk bs p=62)(hn:1<=n):paras_ (k+1) n p (bs.drop p)=andThen (row_ (someChars_ [] 64) n) (fun(q:List Letters)=>andThen (paras_ k (n-q.length)) fun(r:List (List Letters))=>gives (q::r)) (p+1) (bs.drop (p+1)):=by
 rw[paras_];unfold byNext;rw[Zz,(V1 (c:=62)).mp h];dsimp only;rw[if_pos ⟨rfl,hn⟩];unfold behind;rw[ZU,WD]
theorem ZhM {bs:List UInt8}{p k n:Nat}(h:k=0\/pk bs p≠62\/n=0):paras_ k n p (bs.drop p)=.ok ([],p,bs.drop p):=by
 cases k with
 | zero=>rfl
 | succ k =>
  rw[paras_];unfold byNext;rw[Zz];dsimp only;rw[if_neg]
  ·rfl
  ·rintro⟨h1,h2⟩;rcases h with h | h | h
   ·cases h
   ·exact h ((V1 (c:=62)).mpr h1)
   ·lia
noncomputable def JC:Nat->List (List Letters)->List (Nat×Nat)
 | _,[]=>[]
 | a,p::r=>(a,a+p.length)::JC (a+p.length) r
theorem Zc8 (q:List Letters):∀(a:Nat) (xs:List (List Letters)),JC a (xs++[q])=JC a xs++[(a+xs.flatten.length,a+xs.flatten.length+q.length)]
 | a,[]=>by simp[JC]
 | a,p::r=>by
  show(a,a+p.length)::JC (a+p.length) (r++[q])=_;rw[Zc8 q (a+p.length) r];simp[JC,Nat.add_assoc]
theorem JB:∀(a:Nat) (xs:List (List Letters)),(JC a xs).length=xs.length
 | _,[]=>rfl
 | a,p::r=>by simp[JC,JB (a+p.length) r]
noncomputable def sRow (n k i0:Nat):Rd (List (Nat×List Letters)):=andThen (num i0 (n-1)) fun(i:Nat)=>andThen (byte_ 32) fun(_:Unit)=>andThen (row_ (someChars_ [94] 16) 4) fun(l:List Letters)=>andThen (signs_ n k i) fun(r:List (Nat×List Letters))=>gives ((i,l)::r)
def ZjC {bs:List UInt8}{p k n i0:Nat}(h:pk bs p=123)(hn:1<=n):signs_ n (k+1) i0 p (bs.drop p)=sRow n k i0 (p+1) (bs.drop (p+1)):=by
 rw[signs_];unfold byNext;rw[Zz,(V1 (c:=123)).mp h];dsimp only;rw[if_pos ⟨rfl,hn⟩];unfold behind sRow;rw[ZU]
def ZhG {bs:List UInt8}{p k n i0:Nat}(h:k=0\/pk bs p≠123\/n=0):signs_ n k i0 p (bs.drop p)=.ok ([],p,bs.drop p):=by
 cases k with
 | zero=>rfl
 | succ k =>
  rw[signs_];unfold byNext;rw[Zz];dsimp only;rw[if_neg]
  ·rfl
  ·rintro⟨h1,h2⟩;rcases h with h | h | h
   ·cases h
   ·exact h ((V1 (c:=123)).mpr h1)
   ·lia
noncomputable def eRow (n k f0 most:Nat):Rd (List Entry):=andThen (num f0 n) fun(f:Nat)=>andThen (byte_ 32) fun(_:Unit)=>andThen (num 0 (n-f)) fun(m:Nat)=>andThen (tokens_ (min 1024 most)) fun(t:List Letters)=>andThen (entries_ n k f (most-t.length)) fun(r:List Entry)=>gives (⟨f,m,t⟩::r)
def Zh1 {bs:List UInt8}{p k n f0 most:Nat}(h:pk bs p=91)(hn:1<=n):entries_ n (k+1) f0 most p (bs.drop p)=eRow n k f0 most (p+1) (bs.drop (p+1)):=by
 rw[entries_];unfold byNext;rw[Zz,(V1 (c:=91)).mp h];dsimp only;rw[if_pos ⟨rfl,hn⟩];unfold behind eRow;rw[ZU];simp only[ZbL]
def Zft {bs:List UInt8}{p k n f0 most:Nat}(h:k=0\/pk bs p≠91\/n=0):entries_ n k f0 most p (bs.drop p)=.ok ([],p,bs.drop p):=by
 cases k with
 | zero=>rfl
 | succ k =>
  rw[entries_];unfold byNext;rw[Zz];dsimp only;rw[if_neg]
  ·rfl
  ·rintro⟨h1,h2⟩;rcases h with h | h | h
   ·cases h
   ·exact h ((V1 (c:=91)).mpr h1)
   ·lia
def ZfT (k:Nat):tokens_ k=Xy token_ k:=rfl
def Zjv {bs:List UInt8}{p:Nat}(h1:pk bs p≠91)(h2:pk bs p≠35):token_ p (bs.drop p)=someChars_ MARKBYTES 64 p (bs.drop p):=by
 unfold token_ byNext;rw[Zz];dsimp only;rw[if_neg];rintro(h | h)
 ·exact h1 ((V1 (c:=91)).mpr h)
 ·exact h2 ((V1 (c:=35)).mpr h)
def Zjw {bs:List UInt8}{p:Nat}(h:pk bs p=91\/pk bs p=35):token_ p (bs.drop p)=.error p:=by
 unfold token_ byNext;rw[Zz];dsimp only;rw[if_pos]
 ·rfl
 ·rcases h with h | h
  ·exact .inl ((V1 (c:=91)).mp h)
  ·exact .inr ((V1 (c:=35)).mp h)
def ZfK (rs:List (Nat×Nat×Nat)):Prop:=rs.Pairwise (fun x y=>x.2.1<y.1)/\∀x∈rs,x.1<=x.2.1
noncomputable def Uk (rs:List (Nat×Nat×Nat))(c:Nat):Nat:=if isMark c=true then 1 else match rs.find? fun(x:Nat×Nat×Nat)=>decide (x.1<=c) && decide (c<=x.2.1) with
 | some x=>x.2.2
 | none=>1
noncomputable def YH (rs:List (Nat×Nat×Nat))(l:Letters):Nat:=(l.map (Uk rs)).sum
theorem ZiW {rs:List (Nat×Nat×Nat)}(ok:ZfK rs){i j:Nat}{x y:Nat×Nat×Nat}(hi:rs[i]?=some x)(hj:rs[j]?=some y)(h:i<=j):x.2.1<=y.2.1:=by
 rcases Nat.lt_or_eq_of_le h with h | rfl
 ·obtain⟨hi',ei⟩:=y0a.mp hi;obtain⟨hj',ej⟩:=y0a.mp hj;have:=List.pairwise_iff_getElem.mp ok.1 i j hi' hj' h;rw[ei,ej] at this;have:=ok.2 y (y0f hj);lia
 ·rw[hi] at hj;cases hj;exact y0r _
theorem Zkl {rs:List (Nat×Nat×Nat)}(ok:ZfK rs){c low:Nat}(h1:∀i x,rs[i]?=some x->i<low->x.2.1<c)(h2:∀i x,rs[i]?=some x->low<=i->c<=x.2.1):
  (rs.find? fun(x:Nat×Nat×Nat)=>decide (x.1<=c) && decide (c<=x.2.1))=match rs[low]? with
   | some x=>if x.1<=c then some x else none
   | none=>none:=by
 rcases ok with⟨pw,ok⟩
 induction rs generalizing low with
 | nil=>simp
 | cons r rs ih =>
  rw[List.pairwise_cons] at pw;cases low with
  | zero =>
   rw[List.getElem?_cons_zero];have hc:=h2 0 r (by simp) (y0u _);by_cases hr:r.1<=c
   ·simp[List.find?_cons,hr,hc]
   ·simp only[List.find?_cons,hr,decide_false,Bool.false_and,if_false];rw[List.find?_eq_none];intro x hx;have:=pw.1 x hx;have:=ok r (by simp);simp;lia
  | succ low =>
   have hc:=h1 0 r (by simp) (Nat.succ_pos _);have e:(decide (r.1<=c) && decide (c<=r.2.1))=false:=by simp;lia
   rw[List.getElem?_cons_succ,List.find?_cons,e];exact ih (fun i x h l=>h1 (i+1) x (by simpa using h) (by lia)) (fun i x h l=>h2 (i+1) x (by simpa using h) (by lia)) pw.2 (fun x hx=>ok x (by simp[hx]))
def Zjj {rs:List (Nat×Nat×Nat)}(ok:ZfK rs){c low:Nat}(h1:∀i x,rs[i]?=some x->i<low->x.2.1<c)(h2:∀i x,rs[i]?=some x->low<=i->c<=x.2.1):
  Uk rs c=if isMark c=true then 1 else match rs[low]? with
   | some x=>if x.1<=c then x.2.2 else 1
   | none=>1:=by
 unfold Uk;rw[Zkl ok h1 h2];cases rs[low]? with
 | none=>rfl
 | some x=>by_cases h:x.1<=c <;> simp[h]
theorem ZdD (room:Nat):∀(xs:List Nat) (c s:Nat) (t:List (Nat×Nat)) (b:Nat×Nat),(c=0->xs≠[])->(c≠0->1<=b.2/\b.2<=c)->1<=(bestLine room c s xs t b).2/\(bestLine room c s xs t b).2<=c+xs.length
 | [],c,s,t,b,h0,h=>by
  have hc:c≠0:=fun z=>h0 z rfl
  unfold bestLine;have:=h hc;exact⟨this.1,by simp;lia⟩
 | x::xs,c,s,t,b,h0,h=>by
  show 1<=(if 1<=c/\room<(if c=0 then x else s+1+x) then b else bestLine room (c+1) (if c=0 then x else s+1+x) xs (t.drop 1) (if c=0\/lineCost room (if c=0 then x else s+1+x) xs.isEmpty+(t.headD (0,0)).1<=b.1 then(lineCost room (if c=0 then x else s+1+x) xs.isEmpty+(t.headD (0,0)).1,c+1) else b)).2/\(if 1<=c/\room<(if c=0 then x else s+1+x) then b else bestLine room (c+1) (if c=0 then x else s+1+x) xs (t.drop 1) (if c=0\/lineCost room (if c=0 then x else s+1+x) xs.isEmpty+(t.headD (0,0)).1<=b.1 then(lineCost room (if c=0 then x else s+1+x) xs.isEmpty+(t.headD (0,0)).1,c+1) else b)).2<=c+(x::xs).length;generalize (if c=0 then x else s+1+x)=n;generalize lineCost room n xs.isEmpty+(t.headD (0,0)).1=z;rw[y02];by_cases g:1<=c/\room<n
  ·rw[if_pos g];have:=h (by lia);lia
  ·rw[if_neg g];have hb:1<=(if c=0\/z<=b.1 then(z,c+1) else b).2/\(if c=0\/z<=b.1 then(z,c+1) else b).2<=c+1:=by
    by_cases y:c=0\/z<=b.1
    ·rw[if_pos y];exact⟨Nat.succ_le_succ (y0u _),y0r _⟩
    ·rw[if_neg y];have:=h (by lia);lia
   have:=ZdD room xs (c+1) n (t.drop 1) (if c=0\/z<=b.1 then(z,c+1) else b) (fun z=>by lia) (fun _=>hb);lia
noncomputable def bst (room:Nat)(xs:List Nat)(T:List (Nat×Nat))(i:Nat):Nat×Nat:=bestLine room 0 0 (xs.drop i) (T.drop i) (0,0)
noncomputable def tab (room:Nat)(xs:List Nat):List (Nat×Nat):=costTable room (xs.drop 1)
theorem XJ (room:Nat):∀xs:List Nat,(costTable room xs).length=xs.length
 | []=>rfl
 | x::xs=>by unfold costTable;simp[XJ room xs]
theorem Zam (room:Nat):∀(i:Nat) (xs:List Nat),(costTable room xs).drop i=costTable room (xs.drop i)
 | 0,xs=>by simp
 | i+1,[]=>by simp[costTable]
 | i+1,x::xs=>Zam room i xs
theorem ZgJ (room:Nat)(xs:List Nat){i:Nat}(h1:1<=i)(h2:i<xs.length):(tab room xs).drop (i-1)=bst room xs (tab room xs) i::(tab room xs).drop i:=by
 unfold tab bst;rw[Zam,Zam,List.drop_drop,List.drop_drop];have e1:1+(i-1)=i:=by lia
 rw[e1];obtain⟨x,l,hl⟩:∃x l,xs.drop i=x::l:=by
  cases h:xs.drop i with
  | nil=>rw[List.drop_eq_nil_iff] at h;lia
  | cons x l=>exact⟨x,l,rfl⟩
 have e2:xs.drop (1+i)=l:=by
  have:xs.drop (1+i)=(xs.drop i).drop 1:=by rw[List.drop_drop,Nat.add_comm]
  rw[this,hl];rfl
 rw[e2,hl];rfl
theorem Yw {room:Nat}{xs:List Nat}{T:List (Nat×Nat)}{i:Nat}(h:i<xs.length):1<=(bst room xs T i).2/\i+(bst room xs T i).2<=xs.length:=by
 have:=ZdD room (xs.drop i) 0 0 (T.drop i) (0,0) (fun _ z=>by rw[List.drop_eq_nil_iff] at z;lia) (fun z=>absurd rfl z);rw[Nat.zero_add,y0i] at this;exact⟨this.1,by have:=this.2;unfold bst;lia⟩
noncomputable def VA (room:Nat)(xs:List Nat)(e:Nat):Nat:=if e<xs.length then(bst room xs (tab room xs) e).1 else 0
theorem ZeA (room:Nat)(xs:List Nat)(e:Nat):(((tab room xs).drop e).headD (0,0)).1=VA room xs (e+1):=by
 unfold VA;split
 ·rename_i h;have:=ZgJ room xs (i:=e+1) (by lia) h;rw[Nat.add_sub_cancel] at this;rw[this];rfl
 ·rename_i h;have:(tab room xs).drop e=[]:=by
   rw[List.drop_eq_nil_iff];unfold tab;rw[XJ,y0i];lia
  rw[this];rfl
theorem Zbj:∀(f g:Nat) (t:List (Nat×Nat)),(∀x∈t,1<=x.2)->t.length<=f->t.length<=g->byTable f t=byTable g t
 | 0,g,t,_,h,_=>by have:t=[]:=List.length_eq_zero_iff.mp (by lia);subst this;cases g <;> rfl
 | f+1,g,[],_,_,_=>by cases g <;> rfl
 | f+1,0,x::t,_,_,h=>by simp at h
 | f+1,g+1,x::t,hx,h,h'=>by
  have h1:=hx x (by simp);simp only[y02] at h h';show x.2::byTable f ((x::t).drop x.2)=x.2::byTable g ((x::t).drop x.2);have hm:∀y∈(x::t).drop x.2,1<=y.2:=fun y hy=>hx y (List.mem_of_mem_drop hy)
  have hl:((x::t).drop x.2).length<=t.length:=by rw[y0i,y02];lia
  rw[Zbj f g _ hm (by lia) (by lia)]
noncomputable def cnts (room:Nat)(xs:List Nat)(i:Nat):List Nat:=byTable ((tab room xs).length) ((tab room xs).drop (i-1))
theorem Zk5 (room:Nat)(xs:List Nat):∀x∈tab room xs,1<=x.2:=by
 intro x hx;obtain⟨k,hk⟩:=List.mem_iff_getElem?.mp hx;have hlt:k<(tab room xs).length:=by
  rw[y0a] at hk;exact hk.1
 have hl:k+1<xs.length:=by unfold tab at hlt;rw[XJ,y0i] at hlt;lia
 have:=ZgJ room xs (i:=k+1) (by lia) hl;rw[Nat.add_sub_cancel] at this;have h0:((tab room xs).drop k)[0]?=some x:=by rw[List.getElem?_drop];simpa using hk
 rw[this] at h0;simp at h0;rw[<- h0];exact(Yw hl).1
theorem ZbE (room:Nat)(xs:List Nat){i:Nat}(h1:1<=i)(h:xs.length<=i):cnts room xs i=[]:=by
 unfold cnts;have:(tab room xs).drop (i-1)=[]:=by
  rw[List.drop_eq_nil_iff];unfold tab;rw[XJ,y0i];lia
 rw[this];cases (tab room xs).length <;> rfl
theorem Zeg (room:Nat)(xs:List Nat){i:Nat}(h1:1<=i)(h:i<xs.length):cnts room xs i=(bst room xs (tab room xs) i).2::cnts room xs (i+(bst room xs (tab room xs) i).2):=by
 have hp:=(Yw (room:=room) (T:=tab room xs) h).1;unfold cnts;have hl:(tab room xs).length=xs.length-1:=by unfold tab;rw[XJ,y0i]
 have hl':(tab room xs).length=(xs.length-2)+1:=by lia
 rw[ZgJ room xs h1 h];have e:byTable (tab room xs).length (bst room xs (tab room xs) i::(tab room xs).drop i)=(bst room xs (tab room xs) i).2::byTable (xs.length-2) ((bst room xs (tab room xs) i::(tab room xs).drop i).drop (bst room xs (tab room xs) i).2):=by
  rw[hl'];rfl
 rw[e];congr 1;have e2:(bst room xs (tab room xs) i::(tab room xs).drop i).drop (bst room xs (tab room xs) i).2=(tab room xs).drop (i+(bst room xs (tab room xs) i).2-1):=by
  rw[<- ZgJ room xs h1 h,List.drop_drop];congr 1;lia
 rw[e2];have hm:∀y∈(tab room xs).drop (i+(bst room xs (tab room xs) i).2-1),1<=y.2:=fun y hy=>Zk5 room xs y (List.mem_of_mem_drop hy)
 have hlen:((tab room xs).drop (i+(bst room xs (tab room xs) i).2-1)).length<=xs.length-2:=by rw[y0i,hl];lia
 exact Zbj _ _ _ hm hlen (by rw[y0i];lia)
def Zaf (room r:Nat)(xs:List Nat)(h:0<xs.length):broken room r xs=(bst room xs (tab r xs) 0).2::cnts r xs (bst room xs (tab r xs) 0).2:=by
 cases xs with
 | nil=>simp at h
 | cons x l =>
  have hp:=(Yw (room:=room) (T:=tab r (x::l)) (i:=0) h).1;show(bst room (x::l) (tab r (x::l)) 0).2::byTable l.length ((tab r (x::l)).drop ((bst room (x::l) (tab r (x::l)) 0).2-1))=_;congr 1;unfold cnts;have hl:(tab r (x::l)).length=l.length:=by unfold tab;rw[XJ];rfl
  rw[hl]
noncomputable def W7 (room:Nat)(xs:List Nat)(e:Nat):Nat:=if e<xs.length then(cnts room xs e).length else 0
theorem ZaF (room:Nat)(xs:List Nat){e:Nat}(h1:1<=e):W7 room xs e=(cnts room xs e).length:=by
 unfold W7;split
 ·rfl
 ·rw[ZbE room xs h1 (by lia)];rfl
def Zh6 (room r:Nat)(xs:List Nat)(h:0<xs.length):(broken room r xs).length=1+W7 r xs (bst room xs (tab r xs) 0).2:=by
 rw[Zaf room r xs h,y02,ZaF r xs (Yw h).1,Nat.add_comm]
theorem Zjl (room:Nat)(xs:List Nat)(r start e taken:Nat)(b:Nat×Nat)(hs:start<e){x:Nat}(hx:xs[e]?=some x):
  bestLine room (e-start) taken (xs.drop e) ((tab r xs).drop e) b=if room<taken+1+x then b else
   bestLine room (e+1-start) (taken+1+x) (xs.drop (e+1)) ((tab r xs).drop (e+1)) (if lineCost room (taken+1+x) (decide (e+1=xs.length))+VA r xs (e+1)<=b.1 then(lineCost room (taken+1+x) (decide (e+1=xs.length))+VA r xs (e+1),e+1-start) else b):=by
 obtain⟨he,ex⟩:=y0a.mp hx;have hd:xs.drop e=x::xs.drop (e+1):=by rw[List.drop_eq_getElem_cons he,ex]
 have hne:e-start≠0:=by lia
 have hse:e-start+1=e+1-start:=by lia
 have hem:(xs.drop (e+1)).isEmpty=decide (e+1=xs.length):=by
  by_cases z:e+1=xs.length
  ·rw[decide_eq_true z,List.isEmpty_iff,List.drop_eq_nil_iff];lia
  ·rw[decide_eq_false z];cases h:xs.drop (e+1) with
   | nil=>rw[List.drop_eq_nil_iff] at h;lia
   | cons _ _=>rfl
 rw[hd];show(if 1<=e-start/\room<(if e-start=0 then x else taken+1+x) then b else bestLine room (e-start+1) (if e-start=0 then x else taken+1+x) (xs.drop (e+1)) (((tab r xs).drop e).drop 1) (if e-start=0\/lineCost room (if e-start=0 then x else taken+1+x) (xs.drop (e+1)).isEmpty+(((tab r xs).drop e).headD (0,0)).1<=b.1 then(lineCost room (if e-start=0 then x else taken+1+x) (xs.drop (e+1)).isEmpty+(((tab r xs).drop e).headD (0,0)).1,e-start+1) else b))=_;rw[if_neg hne,ZeA,hem,hse,List.drop_drop];have h1:1<=e-start:=by lia
 simp only[h1,hne,true_and,false_or]
def Zh7 (room:Nat)(xs:List Nat)(r start:Nat){x:Nat}(hx:xs[start]?=some x):
  bst room xs (tab r xs) start=bestLine room 1 x (xs.drop (start+1)) ((tab r xs).drop (start+1)) (lineCost room x (decide (start+1=xs.length))+VA r xs (start+1),1):=by
 obtain⟨he,ex⟩:=y0a.mp hx;have hd:xs.drop start=x::xs.drop (start+1):=by rw[List.drop_eq_getElem_cons he,ex]
 have hem:(xs.drop (start+1)).isEmpty=decide (start+1=xs.length):=by
  by_cases z:start+1=xs.length
  ·rw[decide_eq_true z,List.isEmpty_iff,List.drop_eq_nil_iff];lia
  ·rw[decide_eq_false z];cases h:xs.drop (start+1) with
   | nil=>rw[List.drop_eq_nil_iff] at h;lia
   | cons _ _=>rfl
 unfold bst;rw[hd];show bestLine room 1 x (xs.drop (start+1)) (((tab r xs).drop start).drop 1) (lineCost room x (xs.drop (start+1)).isEmpty+(((tab r xs).drop start).headD (0,0)).1,1)=_;rw[ZeA,hem,List.drop_drop]
def Zkr (d:Nat)(h:d<10):(Nat.digitChar d).toNat=48+d/\(UInt8.ofNat (48+d)).toNat=48+d:=by
 have:∀d:Fin 10,(Nat.digitChar d.val).toNat=48+d.val/\(UInt8.ofNat (48+d.val)).toNat=48+d.val:=by decide
 exact this ⟨d,h⟩
theorem Zfv:∀(k n:Nat) (ds:List Char),(Nat.toDigitsCore 10 k n ds).map Char.toNat=(digitsIn k n).map UInt8.toNat++ds.map Char.toNat
 | 0,n,ds=>by simp[Nat.toDigitsCore,digitsIn]
 | k+1,n,ds=>by
  have hd:=Zkr (n % 10) (Nat.mod_lt _ (by decide));unfold Nat.toDigitsCore digitsIn;simp only[];by_cases h:n<10
  ·rw[if_pos (by lia),if_pos h];simp[hd.1];lia
  ·rw[if_neg (by lia),if_neg h,Zfv k (n / 10)];simp[hd.1];lia
def Zg1 (n:Nat):num10 n=(Nat.toDigits 10 n).map Char.toNat:=by
 unfold num10 decimal Nat.toDigits;rw[Zfv];simp
def Wp (n:Nat):(PySem.Str.ofString (toString (n:Int))).cps.toList=num10 n:=by
 rw[Zg1];have:=PyProof.Rows.text_ofNat n;show(PySem.Str.ofString (toString (Int.ofNat n))).cps.toList=_;rw[this]
def YI {n k:Nat}(hk:1<=k)(h:n<10 ^ k):(num10 n).length<=k:=by
 rw[Zg1,y03];exact PyProof.Rows.digits10_le hk h
theorem J4 {W d n:Nat}(h:d<=W)(b:Bool):lineCost (W-d) n b=lineCost W (n+d) b:=by
 unfold lineCost;have e:(b=true\/W-d<n)↔(b=true\/W<n+d):=⟨fun h1=>h1.elim .inl fun h1=>.inr (by lia),fun h1=>h1.elim .inl fun h1=>.inr (by lia)⟩;by_cases z:b=true\/W-d<n
 ·rw[if_pos z,if_pos (e.mp z)]
 ·rw[if_neg z,if_neg (fun y=>z (e.mpr y))];congr 1;lia
theorem ZfH {W d:Nat}(h:d<=W):∀(xs:List Nat) (c s:Nat) (t:List (Nat×Nat)) (b:Nat×Nat),1<=c->bestLine (W-d) c s xs t b=bestLine W c (s+d) xs t b
 | [],c,s,t,b,hc=>by unfold bestLine;rfl
 | x::xs,c,s,t,b,hc=>by
  have h0:c≠0:=by lia
  show(if 1<=c/\W-d<(if c=0 then x else s+1+x) then b else bestLine (W-d) (c+1) (if c=0 then x else s+1+x) xs (t.drop 1) (if c=0\/lineCost (W-d) (if c=0 then x else s+1+x) xs.isEmpty+(t.headD (0,0)).1<=b.1 then(lineCost (W-d) (if c=0 then x else s+1+x) xs.isEmpty+(t.headD (0,0)).1,c+1) else b)) =
   (if 1<=c/\W<(if c=0 then x else s+d+1+x) then b else bestLine W (c+1) (if c=0 then x else s+d+1+x) xs (t.drop 1) (if c=0\/lineCost W (if c=0 then x else s+d+1+x) xs.isEmpty+(t.headD (0,0)).1<=b.1 then(lineCost W (if c=0 then x else s+d+1+x) xs.isEmpty+(t.headD (0,0)).1,c+1) else b))
  rw[if_neg h0,if_neg h0,J4 h];have e1:s+1+x+d=s+d+1+x:=by lia
  rw[e1];by_cases z:W<s+d+1+x
  ·rw[if_pos ⟨hc,by lia⟩,if_pos ⟨hc,z⟩]
  ·have z1:¬ (1<=c/\W-d<s+1+x):=by lia
   have z2:¬ (1<=c/\W<s+d+1+x):=by lia
   rw[if_neg z1,if_neg z2,ZfH h xs _ _ _ _ (by lia),e1]
def ZcC {W d:Nat}(h:d<=W)(ts:List Nat):broken (W-d) W (0::ts)=broken W W (d::ts):=by
 have e:bestLine (W-d) 0 0 (0::ts) (costTable W ts) (0,0)=bestLine W 0 0 (d::ts) (costTable W ts) (0,0):=by
  show bestLine (W-d) 1 0 ts ((costTable W ts).drop 1) (lineCost (W-d) 0 ts.isEmpty+((costTable W ts).headD (0,0)).1,1)=bestLine W 1 d ts ((costTable W ts).drop 1) (lineCost W d ts.isEmpty+((costTable W ts).headD (0,0)).1,1);rw[ZfH h ts 1 0 _ _ (y0r 1),J4 h,Nat.zero_add]
 unfold broken;simp only[];rw[e]
theorem Zku (r:Nat)(xs:List Nat):∀(m i:Nat),xs.length-i=m->1<=i->i<=xs.length->i+(cnts r xs i).sum=xs.length:=by
 intro m
 induction m using Nat.strongRecOn with
 | _ m ih =>
  intro i hm h1 h2;by_cases h:i<xs.length
  ·have c:=Yw (room:=r) (T:=tab r xs) h;rw[Zeg r xs h1 h,y06];have:=ih (xs.length-(i+(bst r xs (tab r xs) i).2)) (by lia) (i+(bst r xs (tab r xs) i).2) rfl (by lia) c.2;lia
  ·rw[ZbE r xs h1 (by lia)];simp;lia
theorem ZaL (fr r:Nat)(xs:List Nat)(h:0<xs.length):(broken fr r xs).sum=xs.length:=by
 rw[Zaf fr r xs h,y06];have c:=Yw (room:=fr) (T:=tab r xs) h;exact Zku r xs _ _ rfl c.1 (by lia)
def Zkv (r:Nat)(xs:List Nat):∀(m i:Nat),xs.length-i=m->1<=i->i<=xs.length->∀c∈cnts r xs i,1<=c:=by
 intro m
 induction m using Nat.strongRecOn with
 | _ m ih =>
  intro i hm h1 h2;by_cases h:i<xs.length
  ·have c:=Yw (room:=r) (T:=tab r xs) h;rw[Zeg r xs h1 h];intro y hy;rcases y0b.mp hy with z | z
   ·rw[z];exact c.1
   ·exact ih (xs.length-(i+(bst r xs (tab r xs) i).2)) (by lia) (i+(bst r xs (tab r xs) i).2) rfl (by lia) c.2 y z
  ·rw[ZbE r xs h1 (by lia)];intro y hy;simp at hy
def ZaM (fr r:Nat)(xs:List Nat)(h:0<xs.length):∀c∈broken fr r xs,1<=c:=by
 rw[Zaf fr r xs h];have c:=Yw (room:=fr) (T:=tab r xs) h;intro y hy;rcases y0b.mp hy with z | z
 ·rw[z];exact c.1
 ·exact Zkv r xs _ _ rfl c.1 (by lia) y z
def ChOk (l:Letters):Prop:=∀c∈l,c<0x110000
def ThOk (k:Nat)(l:Letters):Prop:=l≠[]/\l.length<=k/\ChOk l
structure WOk (w:Work):Prop where
 set:w.set.ok=true
 rows:w.widths.length<=64
 row:∀x∈w.widths,33<=x.1/\x.1<=x.2.1/\x.2.1<=LARGEST/\x.2.2<=2
 apart:w.widths.Pairwise (fun x y=>x.2.1<y.1)
 paras:w.paras.length<=4096
 size:w.paras.flatten.length<=8192
 para:∀q∈w.paras,q≠[]/\∀x∈q,ThOk 64 x
 nsigns:w.signs.length<=4096
 sign:∀x∈w.signs,x.1<w.paras.flatten.length/\x.2≠[]/\x.2.length<=4/\∀y∈x.2,ThOk 16 y
 nent:w.entries.length<=4096
 toks:(w.entries.map fun e=>e.toks.length).sum<=65536
 ent:∀e∈w.entries,e.first+e.count<=w.paras.flatten.length/\1<=w.paras.flatten.length/\e.toks.length<=1024/\∀y∈e.toks,ThOk 64 y
 rise:w.entries.Pairwise (fun x y=>x.first<=y.first)
def Zla {w:Work}(h:WOk w):w.widths.Pairwise (fun x y=>x.2.1<y.1)/\∀x∈w.widths,x.1<=x.2.1:=⟨h.apart,fun x hx=>(h.row x hx).2.1⟩
theorem ZkT {c:Prop}[Decidable c]{x:Nat}(h:x<=(if c then 0xBD else 0xBF)-128):x<64:=by
 by_cases z:c
 ·rw[if_pos z] at h;lia
 ·rw[if_neg z] at h;lia
theorem ChOk.cons {n:Nat}{l:Letters}(h:n<0x110000)(hl:ChOk l):ChOk (n::l):=fun d hd=>(y0b.mp hd).elim (fun z=>by rw[z];exact h) (hl d)
def Pr {α:Type}(r:Rd α)(pr:α->Bytes)(ok:α->Prop):Prop:=∀p b x p' b',r p b=.ok (x,p',b')->b=pr x++b'/\p'=p+(pr x).length/\ok x
theorem Pr.bind {α β:Type}{r:Rd α}{f:α->Rd β}{pr:α->Bytes}{ok:α->Prop}{p:Nat}{b:Bytes}{y:β}{p':Nat}{b':Bytes}(hr:Pr r pr ok)(h:andThen r f p b=.ok (y,p',b')):∃x b1,b=pr x++b1/\ok x/\f x (p+(pr x).length) b1=.ok (y,p',b'):=by
 unfold andThen at h;cases e:r p b with
 | error i=>rw[e] at h;cases h
 | ok z =>
  rw[e] at h;obtain⟨x,p1,b1⟩:=z;obtain⟨h1,h2,h3⟩:=hr p b x p1 b1 e;refine⟨x,b1,h1,h3,?_⟩;rw[<- h2];exact h
def Zcs {b:Bytes}{c:UInt8}(h:b.head?=some c):b=c::b.drop 1:=by
 cases b with
 | nil=>simp at h
 | cons x b=>simp at h;subst h;rfl
theorem Pr.byte (c:UInt8):Pr (byte_ c) (fun _=>[c]) (fun _=>True):=by
 intro p b x p' b' h;have h:(if b.head?=some c then behind (Vh.gives ()) else stray) p b=Except.ok (x,p',b'):=h;by_cases hc:b.head?=some c
 ·rw[if_pos hc] at h;cases h;exact⟨Zcs hc,rfl,trivial⟩
 ·rw[if_neg hc] at h;cases h
theorem Zfu:∀(j k n:Nat),n<j->n<k->digitsIn j n=digitsIn k n
 | 0,_,_,h,_=>by omega
 | _,0,_,_,h=>by omega
 | j+1,k+1,n,h1,h2=>by
  show(if n<10 then[] else digitsIn j (n / 10))++[UInt8.ofNat (48+n % 10)]=(if n<10 then[] else digitsIn k (n / 10))++[UInt8.ofNat (48+n % 10)];by_cases z:n<10
  ·rw[if_pos z,if_pos z]
  ·rw[if_neg z,if_neg z,Zfu j k (n / 10) (by omega) (by omega)]
def ZlQ {d:Nat}(h:d<10):decimal d=[UInt8.ofNat (48+d)]:=by
 unfold decimal;show(if d<10 then[] else digitsIn d (d / 10))++[UInt8.ofNat (48+d % 10)]=_;rw[if_pos h,Nat.mod_eq_of_lt h];rfl
theorem Zks {m d:Nat}(hm:1<=m)(h:d<10):decimal (10 * m+d)=decimal m++[UInt8.ofNat (48+d)]:=by
 unfold decimal;show(if 10 * m+d<10 then[] else digitsIn (10 * m+d) ((10 * m+d) / 10))++[UInt8.ofNat (48+(10 * m+d) % 10)]=_;have e1:(10 * m+d) / 10=m:=by omega
 have e2:(10 * m+d) % 10=d:=by omega
 rw[if_neg (by omega),e1,e2,Zfu (10 * m+d) (m+1) m (by omega) (by omega)]
noncomputable def decO:Option Nat->Bytes
 | none=>[]
 | some m=>decimal m
theorem Zfw (lo hi:Nat):∀(f:Nat) (v:Option Nat) (p:Nat) (b:Bytes) (x p':Nat) (b':Bytes),digits lo hi f v p b=.ok (x,p',b')->∃ds,b=ds++b'/\p'=p+ds.length/\decimal x=decO v++ds/\lo<=x/\x<=hi
 | 0,v,p,b,x,p',b',h=>by cases h
 | f+1,v,p,b,x,p',b',h=>by
  have h:(match(generalizing:=false) (b.head?.bind fun(c:UInt8)=>if isDigit c=false\/v=some 0 then none else if leadsTo lo hi (10 * v.getD 0+(c.toNat-48))=true then some (10 * v.getD 0+(c.toNat-48)) else none) with
   | some n=>behind (digits lo hi f (some n))
   | none=>match(generalizing:=false) v with
    | some n=>if lo<=n/\n<=hi then gives n else stray
    | none=>stray) p b=.ok (x,p',b'):=h
  generalize hn:(b.head?.bind fun(c:UInt8)=>if isDigit c=false\/v=some 0 then none else if leadsTo lo hi (10 * v.getD 0+(c.toNat-48))=true then some (10 * v.getD 0+(c.toNat-48)) else none)=more at h;cases more with
  | some n =>
   simp only[] at h;have hb:∃c,b.head?=some c/\isDigit c=true/\v≠some 0/\n=10 * v.getD 0+(c.toNat-48):=by
    cases hc:b.head? with
    | none=>rw[hc] at hn;cases hn
    | some c =>
     rw[hc] at hn;simp only[Option.bind_some] at hn;split at hn
     ·cases hn
     ·rename_i z;split at hn
      ·cases hn;refine⟨c,rfl,?_,fun y=>z (.inr y),rfl⟩;cases y:isDigit c
       ·exact absurd (.inl y) z
       ·rfl
      ·cases hn
   obtain⟨c,hc,hd,hv,rfl⟩:=hb;obtain⟨ds,h1,h2,h3,h4⟩:=Zfw lo hi f _ _ _ x p' b' h;have hd':=Jl.mp hd;refine⟨c::ds,?_,?_,?_,h4⟩
   ·rw[Zcs hc,h1];rfl
   ·rw[h2,y02];omega
   ·rw[h3];have hcc:UInt8.ofNat (48+(c.toNat-48))=c:=by
     have:48+(c.toNat-48)=c.toNat:=by omega
     rw[this];simp
    cases v with
    | none =>
     show decimal (10 * 0+(c.toNat-48))++ds=c::ds;rw[Nat.mul_zero,Nat.zero_add,ZlQ (by omega),hcc];rfl
    | some m =>
     have hm:1<=m:=by
      rcases Nat.eq_zero_or_pos m with z | z
      ·subst z;exact absurd rfl hv
      ·exact z
     show decimal (10 * m+(c.toNat-48))++ds=decimal m++c::ds;rw[Zks hm (by omega),hcc,y0j];rfl
  | none =>
   cases v with
   | none=>cases h
   | some n =>
    simp only[] at h;by_cases z:lo<=n/\n<=hi
    ·rw[if_pos z] at h;cases h;exact⟨[],rfl,rfl,by simp[decO],z.1,z.2⟩
    ·rw[if_neg z] at h;cases h
theorem Pr.num (lo hi:Nat):Pr (num lo hi) decimal (fun n=>lo<=n/\n<=hi):=by
 intro p b x p' b' h;obtain⟨ds,h1,h2,h3,h4⟩:=Zfw lo hi 20 none p b x p' b' h;have e:decimal x=ds:=h3;rw[e];exact⟨h1,h2,h4⟩
def ZmU {v:Nat}(h:v<0x80):charOf v=[UInt8.ofNat v]:=by unfold charOf;rw[if_pos h]
def Zk3 (c:UInt8):UInt8.ofNat c.toNat=c:=by simp
def ZgZ {α:Type}{x y:α}{p q:Nat}{b d:Bytes}(h:(Except.ok (x,p,b):Except Nat (α×Nat×Bytes))=Except.ok (y,q,d)):x=y/\p=q/\b=d:=by
 injection h with h;injection h with h1 h2;injection h2 with h2 h3;exact⟨h1,h2,h3⟩
theorem Pr.then_ (lo hi:Nat):Pr (VhPage.then_ lo hi) (fun n=>32::decimal n) (fun n=>lo<=n/\n<=hi):=by
 intro p b x p' b' h;obtain⟨_,b2,e2,_,h⟩:=Pr.bind (Pr.byte 32) h;obtain⟨h1,h2,h3⟩:=Pr.num lo hi _ _ _ _ _ h;refine⟨?_,?_,h3⟩
 ·rw[e2,h1];rfl
 ·rw[h2,y02];simp;lia
theorem Pr.settings:Pr settings_ (fun s=>ended (94::numbers [s.width,s.height,s.indent,s.every,s.anew,s.loose])) (fun s=>s.ok=true):=by
 intro p b x p' b' h;obtain⟨_,b0,e0,_,h⟩:=Pr.bind (Pr.byte 94) h;obtain⟨n1,b1,e1,o1,h⟩:=Pr.bind (Pr.num 20 240) h;obtain⟨n2,b2,e2,o2,h⟩:=Pr.bind (Pr.then_ 6 240) h;obtain⟨n3,b3,e3,o3,h⟩:=Pr.bind (Pr.then_ 1 16) h;obtain⟨n4,b4,e4,o4,h⟩:=Pr.bind (Pr.then_ 1 100) h;obtain⟨n5,b5,e5,o5,h⟩:=Pr.bind (Pr.then_ 0 1) h;obtain⟨n6,b6,e6,o6,h⟩:=Pr.bind (Pr.then_ 0 10000) h;obtain⟨_,b7,e7,_,h⟩:=Pr.bind (Pr.byte 10) h;obtain⟨rfl,rfl,rfl⟩:=ZgZ h;refine⟨?_,?_,?_⟩
 ·rw[e0,e1,e2,e3,e4,e5,e6,e7];simp[ended,numbers,spaced]
 ·simp[ended,numbers,spaced];lia
 ·simp[Settings.ok,inside,o1,o2,o3,o4,o5,o6]
noncomputable def ZdW (x:Nat×Nat×Nat):Bytes:=ended (40::numbers [x.1,x.2.1,x.2.2])
theorem Pr.widths:∀(k lo:Nat),Pr (widths_ k lo) (fun l=>l.flatMap ZdW) (fun l=>l.length<=k/\(∀x∈l,lo<=x.1/\x.1<=x.2.1/\x.2.1<=LARGEST/\x.2.2<=2)/\l.Pairwise (fun x y=>x.2.1<y.1))
 | 0,lo=>by
  intro p b x p' b' h;obtain⟨rfl,rfl,rfl⟩:=ZgZ (x:=([]:List (Nat×Nat×Nat))) (p:=p) (b:=b) h;exact⟨rfl,rfl,y0r _,fun c hc=>by simp at hc,.nil⟩
 | k+1,lo=>by
  intro p b x p' b' h;have h:(if b.head?=Option.some 40/\lo<=LARGEST then behind (andThen (Vh.num lo LARGEST) fun(a:Nat)=>andThen (VhPage.then_ a LARGEST) fun(b:Nat)=>andThen (VhPage.then_ 0 2) fun(n:Nat)=>andThen (byte_ 10) fun(_:Unit)=>andThen (widths_ k (b+1)) fun(r:List (Nat×Nat×Nat))=>Vh.gives ((a,b,n)::r)) else Vh.gives []) p b=.ok (x,p',b'):=h;by_cases z:b.head?=Option.some 40/\lo<=LARGEST
  ·rw[if_pos z] at h;have hb:=Zcs z.1;obtain⟨n1,b1,e1,o1,h⟩:=Pr.bind (Pr.num lo LARGEST) (show andThen _ _ (p+1) (b.drop 1)=_ from h);obtain⟨n2,b2,e2,o2,h⟩:=Pr.bind (Pr.then_ n1 LARGEST) h;obtain⟨n3,b3,e3,o3,h⟩:=Pr.bind (Pr.then_ 0 2) h;obtain⟨_,b4,e4,_,h⟩:=Pr.bind (Pr.byte 10) h;obtain⟨l,b5,e5,⟨q1,q2,q3⟩,h⟩:=Pr.bind (Pr.widths k (n2+1)) h;obtain⟨rfl,rfl,rfl⟩:=ZgZ h;refine⟨?_,?_,?_,?_,?_⟩
   ·rw[hb,e1,e2,e3,e4,e5];simp[ZdW,ended,numbers,spaced]
   ·simp[ZdW,ended,numbers,spaced];lia
   ·rw[y02];lia
   ·intro x hx;rcases y0b.mp hx with w | w
    ·rw[w];exact⟨o1.1,o2.1,o2.2,o3.2⟩
    ·have:=q2 x w;exact⟨by lia,this.2⟩
   ·rw[List.pairwise_cons];exact⟨fun y hy=>(q2 y hy).1,q3⟩
  ·rw[if_neg z] at h;obtain⟨rfl,rfl,rfl⟩:=ZgZ h;exact⟨rfl,rfl,y0u _,fun c hc=>by simp at hc,.nil⟩
noncomputable def signText (x:Nat×List Letters):Bytes:=ended (123::spaced (decimal x.1::x.2.map spelt))
def Lq {α:Type}(c:Nat)(b:Bytes)(r:Rd α)(m:α->Nat)(ok:α->Prop):Prop:=∀p x p' b',r p b=.ok (x,p',b')->ok x/\m x+b'.length<=b.length+c
section
variable {α β:Type}{r r2:Rd α}{ok:α->Prop}{m:α->Nat}{c:Nat}{b:Bytes}
theorem Lq.thn {s:Rd β}{f:β->Rd α}{ok1:β->Prop}{m1:β->Nat}(h1:Lq 0 b s m1 ok1)(h2:∀x b',ok1 x->Lq (c+m1 x) b' (f x) m ok):Lq c b (andThen s f) m ok:=by
 intro p x p' b' h;unfold andThen at h;cases e:s p b with
 | error i=>rw[e] at h;cases h
 | ok z =>
  rw[e] at h;obtain⟨y,p1,b1⟩:=z;obtain⟨k1,k2⟩:=h1 p y p1 b1 e;obtain⟨k3,k4⟩:=h2 y b1 k1 _ _ _ _ h;exact⟨k3,by lia⟩
theorem Lq.giv {x:α}(h:ok x)(h2:m x<=c):Lq c b (gives x) m ok:=by
 intro p y p' b' e;cases e;exact⟨h,by lia⟩
theorem Lq.str:Lq c b (stray:Rd α) m ok:=by intro p y p' b' e;cases e
theorem Lq.ite {q:Prop}[Decidable q](h1:q->Lq c b r m ok)(h2:¬ q->Lq c b r2 m ok):Lq c b (if q then r else r2) m ok:=by
 by_cases z:q
 ·rw[if_pos z];exact h1 z
 ·rw[if_neg z];exact h2 z
theorem Lq.beh {d:UInt8}{t:Bytes}(h:Lq (c+1) t r m ok):Lq c (d::t) (behind r) m ok:=fun p x p' b' e=>by
 obtain⟨h1,h2⟩:=h (p+1) x p' b' e;exact⟨h1,by rw[y02];lia⟩
theorem Lq.nx {f:Option UInt8->Rd α}(h0:b=[]->Lq c [] (f none) m ok)(h1:∀d t,Lq c (d::t) (f (some d)) m ok):Lq c b (byNext f) m ok:=by
 cases b with
 | nil=>exact h0 rfl
 | cons d t=>exact h1 d t
theorem Lq.pr {pr:α->Bytes}(h:Pr r pr ok):Lq 0 b r (fun x=>(pr x).length) ok:=fun p x p' b' e=>by
 obtain⟨h1,_,h3⟩:=h p b x p' b' e;exact⟨h3,by show(pr x).length+_<=_;rw[h1,y01];lia⟩
end
theorem Lq.tail (lo hi:Nat)(b:Bytes):Lq 0 b (tail_ lo hi) (fun _=>1) (fun x=>x<=hi-128) :=
 Lq.nx (fun _=>Lq.str) fun d t=>Lq.ite (fun h=>Lq.beh (Lq.giv (by lia) (y0r _))) fun _=>Lq.str
theorem ZiJ (n:Nat):(charOf n).length<=4/\(n<0x10000->(charOf n).length<=3)/\(n<0x800->(charOf n).length<=2)/\(n<0x80->(charOf n).length<=1):=by
 unfold charOf;split
 ·simp
 ·split
  ·exact⟨by simp,fun _=>by simp,fun _=>by simp,fun h=>by lia⟩
  ·split
   ·exact⟨by simp,fun _=>by simp,fun h=>by lia,fun h=>by lia⟩
   ·exact⟨by simp,fun h=>by lia,fun h=>by lia,fun h=>by lia⟩
theorem Lq.letter (b:Bytes):Lq 0 b letter_ (fun n=>(charOf n).length) (fun n=>n<0x110000):=by
 refine Lq.nx (fun _=>Lq.str) fun x t=>?_
 dsimp only;refine Lq.ite (fun _=>Lq.str) fun hs=>Lq.ite (fun h=>Lq.beh (Lq.giv (by lia) ((ZiJ _).2.2.2 h))) fun h80=>Lq.ite (fun h=>Lq.beh (Lq.thn (Lq.tail _ _ _) fun a _ ha=>Lq.giv (by lia) ((ZiJ _).2.2.1 (by lia)))) fun _=>Lq.ite (fun h=>Lq.beh (Lq.thn (Lq.tail _ _ _) fun a _ ha=>Lq.thn (Lq.tail _ _ _) fun d _ hd=>?_)) fun _=>?_
 ·have ha:a<64:=by
   by_cases z:x.toNat=0xED
   ·rw[if_pos z] at ha;lia
   ·rw[if_neg z] at ha;lia
  have hd:=ZkT hd;exact Lq.giv (by lia) ((ZiJ _).2.1 (by lia))
 ·have hx:x.toNat<=244:=by
   have hs:startsLetter x=true:=by simpa using hs
   unfold startsLetter at hs;rw[if_neg h80] at hs;simp at hs;exact hs.2
  refine Lq.beh (Lq.thn (Lq.tail _ _ _) fun a _ ha=>Lq.thn (Lq.tail _ _ _) fun d _ hd=>Lq.thn (Lq.tail _ _ _) fun e _ he=>Lq.giv ?_ (ZiJ _).1);have he:=ZkT he;by_cases z:x.toNat=0xF4
  ·rw[if_pos z] at ha;lia
  ·rw[if_neg z] at ha;lia
def Zmn (n:Nat)(l:Letters):(spelt (n::l)).length=(charOf n).length+(spelt l).length:=by
 show(charOf n++spelt l).length=_;rw[y01]
theorem Lq.chars {mk:List UInt8}(hm:∀c∈mk,c.toNat<128):∀(k:Nat) (b:Bytes),Lq 0 b (chars_ mk k) (fun l=>(spelt l).length) (fun l=>l.length<=k/\ChOk l)
 | 0,b=>Lq.giv ⟨y0r _,fun c hc=>by simp at hc⟩ (y0r _)
 | k+1,b=>by
  unfold chars_;refine Lq.nx (fun _=>Lq.giv ⟨y0u _,fun c hc=>by simp at hc⟩ (y0r _)) fun x t=>Lq.ite (fun h=>Lq.beh (Lq.thn (Lq.chars hm k _) fun l _ hl=>?_)) fun _=>Lq.ite (fun _=>Lq.thn (Lq.letter _) fun n _ hn=>Lq.thn (Lq.chars hm k _) fun l _ hl=>Lq.giv ⟨Nat.succ_le_succ hl.1,hl.2.cons hn⟩ (by rw[Zmn];lia)) fun _=>Lq.giv ⟨y0u _,fun c hc=>by simp at hc⟩ (y0r _)
  have hx:=hm x (by simpa using h);have:=(ZiJ x.toNat).2.2.2 hx;exact Lq.giv ⟨Nat.succ_le_succ hl.1,hl.2.cons (Nat.lt_trans hx (by decide))⟩ (by rw[Zmn];lia)
theorem Lq.some {mk:List UInt8}(hm:∀c∈mk,c.toNat<128)(k:Nat)(b:Bytes):Lq 0 b (someChars_ mk k) (fun l=>(spelt l).length) (ThOk k) :=
 Lq.thn (Lq.chars hm k b) fun l _ hl=>Lq.ite (fun _=>Lq.str) fun z=>Lq.giv ⟨fun y=>z (by rw[y];rfl),hl.1,hl.2⟩ (by lia)
theorem Lq.token (b:Bytes):Lq 0 b token_ (fun l=>(spelt l).length) (ThOk 64):=fun p=>by
 unfold token_ byNext;exact Lq.ite (fun _=>Lq.str) (fun _=>Lq.some (by decide) 64 b) p
theorem Zmo (x:Bytes):∀l,(spaced (x::l)).length<=x.length+1+(spaced l).length
 | []=>by simp[spaced]
 | y::l=>by simp[spaced];lia
noncomputable def Zgn (l:List Letters):Nat:=(spelled l).length+1
theorem Lq.row {one:Rd Letters}{ok:Letters->Prop}(h1:∀b,Lq 0 b one (fun l=>(spelt l).length) ok):∀(k:Nat) (b:Bytes),Lq 0 b (row_ one k) Zgn (fun l=>l≠[]/\l.length<=k/\∀x∈l,ok x)
 | 0,b=>Lq.str
 | k+1,b=>by
  unfold row_;refine Lq.thn (h1 b) fun x _ hx=>Lq.nx (fun _=>Lq.ite (fun z=>by cases z) fun _=>Lq.ite (fun _=>Lq.str) fun _=>fun p y p' b' e=>by cases e) fun d t=>Lq.ite (fun _=>Lq.beh (Lq.giv ⟨by simp,by simp,by simpa using hx⟩ (by simp[Zgn,spelled,spaced]))) fun _=>Lq.ite (fun _=>Lq.str) fun _=>Lq.thn (Lq.pr (Pr.byte 32)) fun _ _ _=>Lq.thn (Lq.row h1 k _) fun l _ hl=>Lq.giv ⟨by simp,Nat.succ_le_succ hl.2.1,fun y hy=>(y0b.mp hy).elim (fun z=>by rw[z];exact hx) (hl.2.2 y)⟩ ?_
  have:(spelled (x::l)).length<=_:=Zmo (spelt x) (l.map spelt);unfold Zgn spelled at *;simp only[List.length_singleton];lia
theorem Lq.lett (k:Nat)(b:Bytes):Lq 0 b (someLetters_ k) (fun l=>(spelt l).length) (ThOk k):=by rw[WD];exact Lq.some (by simp) k b
noncomputable def Zj6 (l:List (List Letters)):Nat:=(l.flatMap fun p=>ended (62::spelled p)).length
theorem Lq.paras:∀(k n:Nat) (b:Bytes),Lq 0 b (paras_ k n) Zj6 (fun l=>l.length<=k/\l.flatten.length<=n/\∀q∈l,q≠[]/\∀x∈q,ThOk 64 x)
 | 0,n,b=>Lq.giv ⟨y0r _,y0u _,fun c hc=>by simp at hc⟩ (y0r _)
 | k+1,n,b=>by
  unfold paras_;have e0:∀b,Lq 0 b (gives ([]:List (List Letters))) Zj6 (fun l=>l.length<=k+1/\l.flatten.length<=n/\∀q∈l,q≠[]/\∀x∈q,ThOk 64 x):=fun b=>Lq.giv ⟨y0u _,y0u _,fun c hc=>by simp at hc⟩ (y0r _)
  refine Lq.nx (fun _=>Lq.ite (fun z=>by cases z.1) fun _=>e0 _) fun d t=>Lq.ite (fun z=>Lq.beh (Lq.thn (Lq.row (Lq.lett 64) n _) fun q _ hq=>Lq.thn (Lq.paras k (n-q.length) _) fun l _ hl=>Lq.giv ⟨Nat.succ_le_succ hl.1,?_,fun y hy=>(y0b.mp hy).elim (fun z=>by rw[z];exact⟨hq.1,hq.2.2⟩) (hl.2.2 y)⟩ ?_)) fun _=>e0 _
  ·have h1:=hq.2.1;have h2:=hl.2.1;rw[List.flatten_cons,y01];lia
  ·unfold Zj6 Zgn;rw[y0m,y01];simp[ended];lia
noncomputable def Zj5 (l:List (Nat×List Letters)):Nat:=(l.flatMap fun x=>ended (123::spaced (decimal x.1::x.2.map spelt))).length
theorem Lq.signs (n:Nat):∀(k fr:Nat) (b:Bytes),Lq 0 b (signs_ n k fr) Zj5 (fun l=>l.length<=k/\∀x∈l,x.1<n/\x.2≠[]/\x.2.length<=4/\∀y∈x.2,ThOk 16 y)
 | 0,fr,b=>Lq.giv ⟨y0r _,fun c hc=>by simp at hc⟩ (y0r _)
 | k+1,fr,b=>by
  unfold signs_;have e0:∀b,Lq 0 b (gives ([]:List (Nat×List Letters))) Zj5 (fun l=>l.length<=k+1/\∀x∈l,x.1<n/\x.2≠[]/\x.2.length<=4/\∀y∈x.2,ThOk 16 y):=fun b=>Lq.giv ⟨y0u _,fun c hc=>by simp at hc⟩ (y0r _)
  refine Lq.nx (fun _=>Lq.ite (fun z=>by cases z.1) fun _=>e0 _) fun d t=>Lq.ite (fun z=>Lq.beh (Lq.thn (Lq.pr (Pr.num fr (n-1))) fun i _ hi=>Lq.thn (Lq.pr (Pr.byte 32)) fun _ _ _=>Lq.thn (Lq.row (Lq.some (mk:=[94]) (by decide) 16) 4 _) fun l _ hl=>Lq.thn (Lq.signs n k i _) fun r _ hr=>Lq.giv ⟨Nat.succ_le_succ hr.1,fun y hy=>(y0b.mp hy).elim (fun w=>by rw[w];exact⟨y0s hi.2 (Nat.sub_lt z.2 Nat.one_pos),hl⟩) (hr.2 y)⟩ ?_)) fun _=>e0 _
  have:=Zmo (decimal i) (l.map spelt);unfold Zj5 Zgn spelled;rw[y0m,y01];simp only[ended,y01,y02,y04];lia
noncomputable def Zj4 (l:List Letters):Nat:=if l=[] then 1 else 1+Zgn l
theorem Lq.tokens (k:Nat)(b:Bytes):Lq 0 b (tokens_ k) Zj4 (fun l=>l.length<=k/\∀x∈l,ThOk 64 x) :=
 Lq.nx (fun _=>Lq.ite (fun z=>by cases z) fun _=>Lq.ite (fun _=>Lq.str) fun _=>fun p y p' b' e=>by cases e) fun d t=>Lq.ite (fun _=>Lq.beh (Lq.giv ⟨y0u _,fun c hc=>by simp at hc⟩ (y0r _))) fun _=>Lq.ite (fun _=>Lq.str) fun _=>Lq.thn (Lq.pr (Pr.byte 32)) fun _ b' _=>fun p y p' b'' e=>by
  obtain⟨h1,h2⟩:=Lq.row Lq.token k b' p y p' b'' e;exact⟨h1.2,by unfold Zj4;rw[if_neg h1.1];simp only[List.length_singleton];lia⟩
noncomputable def Zj7 (l:List Entry):Nat:=(l.flatMap fun e=>ended (91::spaced (decimal e.first::(decimal e.count::e.toks.map spelt)))).length
theorem Zna (e:Entry):(ended (91::spaced (decimal e.first::(decimal e.count::e.toks.map spelt)))).length=2+(decimal e.first).length+(decimal e.count).length+Zj4 e.toks:=by
 unfold Zj4 Zgn spelled;cases e.toks with
 | nil=>simp[ended,spaced];lia
 | cons x l=>simp[ended,spaced];lia
theorem Lq.entries (n:Nat):∀(k fr most:Nat) (b:Bytes),Lq 0 b (entries_ n k fr most) Zj7 (fun l=>l.length<=k/\(l.map fun e=>e.toks.length).sum<=most/\(∀e∈l,fr<=e.first/\e.first+e.count<=n/\1<=n/\e.toks.length<=1024/\∀y∈e.toks,ThOk 64 y)/\l.Pairwise (fun x y=>x.first<=y.first))
 | 0,fr,most,b=>Lq.giv ⟨y0r _,y0u _,fun c hc=>by simp at hc,.nil⟩ (y0r _)
 | k+1,fr,most,b=>by
  unfold entries_;have e0:∀b,Lq 0 b (gives ([]:List Entry)) Zj7 (fun l=>l.length<=k+1/\(l.map fun e=>e.toks.length).sum<=most/\(∀e∈l,fr<=e.first/\e.first+e.count<=n/\1<=n/\e.toks.length<=1024/\∀y∈e.toks,ThOk 64 y)/\l.Pairwise (fun x y=>x.first<=y.first)):=fun b=>Lq.giv ⟨y0u _,y0u _,fun c hc=>by simp at hc,.nil⟩ (y0r _)
  refine Lq.nx (fun _=>Lq.ite (fun z=>by cases z.1) fun _=>e0 _) fun d t=>Lq.ite (fun z=>Lq.beh (Lq.thn (Lq.pr (Pr.num fr n)) fun i _ hi=>Lq.thn (Lq.pr (Pr.then_ 0 (n-i))) fun m _ hm=>Lq.thn (Lq.tokens (min 1024 most) _) fun l _ hl=>Lq.thn (Lq.entries n k i (most-l.length) _) fun r _ hr=>Lq.giv ?_ ?_)) fun _=>e0 _
  ·have h1:=hl.1;have h2:=hr.2.1;refine⟨Nat.succ_le_succ hr.1,?_,fun y hy=>(y0b.mp hy).elim (fun w=>?_) (fun w=>?_),?_⟩
   ·rw[List.map_cons,List.sum_cons];dsimp only;lia
   ·rw[w];exact⟨hi.1,by show i+m<=n;lia,z.2,y0q h1 (Nat.min_le_left _ _),hl.2⟩
   ·have h3:=hr.2.2.1 y w;exact⟨y0q hi.1 h3.1,h3.2⟩
   ·rw[List.pairwise_cons];exact⟨fun y hy=>(hr.2.2.1 y hy).1,hr.2.2.2⟩
  ·unfold Zj7;rw[y0m,y01,Zna];simp only[y02];lia
theorem ZjH {bs:Bytes}{w:Work}(h:readWork bs=.ok w):w.text.length<=bs.length/\WOk w:=by
 have key:Lq 0 bs (andThen settings_ fun(s:Settings)=>andThen (widths_ 64 33) fun(w:List (Nat×Nat×Nat))=>andThen (paras_ 4096 8192) fun(p:List (List Letters))=>andThen (signs_ p.flatten.length 4096 0) fun(g:List (Nat×List Letters))=>andThen (entries_ p.flatten.length 4096 0 65536) fun(e:List Entry)=>end_ (⟨s,w,p,g,e⟩:Work)) (fun w=>w.text.length) WOk:=by
  refine Lq.thn (Lq.pr Pr.settings) fun s _ o1=>Lq.thn (Lq.pr (Pr.widths 64 33)) fun ws _ o2=>Lq.thn (Lq.paras 4096 8192 _) fun ps _ o3=>Lq.thn (Lq.signs ps.flatten.length 4096 0 _) fun sg _ o4=>Lq.thn (Lq.entries ps.flatten.length 4096 0 65536 _) fun en b' o5=>fun p=>?_
  unfold end_ byNext;refine Lq.ite (fun _=>Lq.giv ⟨o1,o2.1,o2.2.1,o2.2.2,o3.1,o3.2.1,o3.2.2,o4.1,o4.2,o5.1,o5.2.1,fun e he=>(o5.2.2.1 e he).2,o5.2.2.2⟩ ?_) (fun _=>Lq.str) p;unfold Work.text Work.head Zj6 Zj5 Zj7;simp only[y01];show _+(ws.flatMap ZdW).length+_<=_;lia
 unfold readWork readAll at h;split at h
 ·cases h
 ·rename_i y hy;cases h;obtain⟨h1,h2⟩:=key _ _ _ _ hy;exact⟨y0q (Nat.le_add_right _ _) h2,h1⟩
def Zkd {bs:Bytes}{s:Settings}{p0 p1:Nat}{b1 b2:Bytes}{x:List (Nat×Nat×Nat)}{w:Work}(h1:settings_ 0 bs=.ok (s,p0,b1))(h2:widths_ 64 33 p0 b1=.ok (x,p1,b2))(h:readWork bs=.ok w):bs.take p1=w.head:=by
 have hs:w.set=s/\w.widths=x:=by
  have key:∀b,Lq 0 b (andThen (paras_ 4096 8192) fun(p:List (List Letters))=>andThen (signs_ p.flatten.length 4096 0) fun(g:List (Nat×List Letters))=>andThen (entries_ p.flatten.length 4096 0 65536) fun(e:List Entry)=>end_ (⟨s,x,p,g,e⟩:Work)) (fun _=>0) (fun w=>w.set=s/\w.widths=x):=fun b=>by
   refine Lq.thn (Lq.paras 4096 8192 _) fun ps _ o3=>Lq.thn (Lq.signs ps.flatten.length 4096 0 _) fun sg _ o4=>Lq.thn (Lq.entries ps.flatten.length 4096 0 65536 _) fun en b' o5=>fun p=>?_
   unfold end_ byNext;exact Lq.ite (m:=fun _=>0) (ok:=fun w:Work=>w.set=s/\w.widths=x) (fun _=>Lq.giv ⟨rfl,rfl⟩ (y0u _)) (fun _=>Lq.str) p
  unfold readWork readAll at h;rw[ZJ h1,ZJ h2] at h;split at h
  ·cases h
  ·rename_i y hy;cases h;exact(key _ _ _ _ _ hy).1
 obtain⟨e1,f1,_⟩:=Pr.settings _ _ _ _ _ h1;obtain⟨e2,f2,_⟩:=Pr.widths 64 33 _ _ _ _ _ h2;have e:bs=w.head++b2:=by
  rw[e1,e2];unfold Work.head;rw[hs.1,hs.2,y0j];rfl
 have l:p1=w.head.length:=by
  rw[f2,f1];unfold Work.head;rw[hs.1,hs.2,y01,Nat.zero_add];rfl
 rw[e,l,List.take_left]
end Vp
namespace Vp
def ex2 {A B:Type}{p:A->B->Prop}(x0:A)(x1:B)(h:p x0 x1):∃x0 x1,p x0 x1:=⟨x0,x1,h⟩
def el2 {A B:Type}{p:A->B->Prop}{Z:Prop}(h:∃x0 x1,p x0 x1)(k:∀x0 x1,p x0 x1->Z):Z:=by obtain⟨x0,x1,h⟩:=h;exact k x0 x1 h
def ex3 {A B C:Type}{p:A->B->C->Prop}(x0:A)(x1:B)(x2:C)(h:p x0 x1 x2):∃x0 x1 x2,p x0 x1 x2:=⟨x0,x1,x2,h⟩
def el3 {A B C:Type}{p:A->B->C->Prop}{Z:Prop}(h:∃x0 x1 x2,p x0 x1 x2)(k:∀x0 x1 x2,p x0 x1 x2->Z):Z:=by obtain⟨x0,x1,x2,h⟩:=h;exact k x0 x1 x2 h
def ex4 {A B C D:Type}{p:A->B->C->D->Prop}(x0:A)(x1:B)(x2:C)(x3:D)(h:p x0 x1 x2 x3):∃x0 x1 x2 x3,p x0 x1 x2 x3:=⟨x0,x1,x2,x3,h⟩
def el4 {A B C D:Type}{p:A->B->C->D->Prop}{Z:Prop}(h:∃x0 x1 x2 x3,p x0 x1 x2 x3)(k:∀x0 x1 x2 x3,p x0 x1 x2 x3->Z):Z:=by obtain⟨x0,x1,x2,x3,h⟩:=h;exact k x0 x1 x2 x3 h
def ex5 {A B C D E:Type}{p:A->B->C->D->E->Prop}(x0:A)(x1:B)(x2:C)(x3:D)(x4:E)(h:p x0 x1 x2 x3 x4):∃x0 x1 x2 x3 x4,p x0 x1 x2 x3 x4:=⟨x0,x1,x2,x3,x4,h⟩
def el5 {A B C D E:Type}{p:A->B->C->D->E->Prop}{Z:Prop}(h:∃x0 x1 x2 x3 x4,p x0 x1 x2 x3 x4)(k:∀x0 x1 x2 x3 x4,p x0 x1 x2 x3 x4->Z):Z:=by obtain⟨x0,x1,x2,x3,x4,h⟩:=h;exact k x0 x1 x2 x3 x4 h
def ex6 {A B C D E F:Type}{p:A->B->C->D->E->F->Prop}(x0:A)(x1:B)(x2:C)(x3:D)(x4:E)(x5:F)(h:p x0 x1 x2 x3 x4 x5):∃x0 x1 x2 x3 x4 x5,p x0 x1 x2 x3 x4 x5:=⟨x0,x1,x2,x3,x4,x5,h⟩
def el6 {A B C D E F:Type}{p:A->B->C->D->E->F->Prop}{Z:Prop}(h:∃x0 x1 x2 x3 x4 x5,p x0 x1 x2 x3 x4 x5)(k:∀x0 x1 x2 x3 x4 x5,p x0 x1 x2 x3 x4 x5->Z):Z:=by obtain⟨x0,x1,x2,x3,x4,x5,h⟩:=h;exact k x0 x1 x2 x3 x4 x5 h
def ex7 {A B C D E F G:Type}{p:A->B->C->D->E->F->G->Prop}(x0:A)(x1:B)(x2:C)(x3:D)(x4:E)(x5:F)(x6:G)(h:p x0 x1 x2 x3 x4 x5 x6):∃x0 x1 x2 x3 x4 x5 x6,p x0 x1 x2 x3 x4 x5 x6:=⟨x0,x1,x2,x3,x4,x5,x6,h⟩
def el7 {A B C D E F G:Type}{p:A->B->C->D->E->F->G->Prop}{Z:Prop}(h:∃x0 x1 x2 x3 x4 x5 x6,p x0 x1 x2 x3 x4 x5 x6)(k:∀x0 x1 x2 x3 x4 x5 x6,p x0 x1 x2 x3 x4 x5 x6->Z):Z:=by obtain⟨x0,x1,x2,x3,x4,x5,x6,h⟩:=h;exact k x0 x1 x2 x3 x4 x5 x6 h
def ex8 {A B C D E F G H:Type}{p:A->B->C->D->E->F->G->H->Prop}(x0:A)(x1:B)(x2:C)(x3:D)(x4:E)(x5:F)(x6:G)(x7:H)(h:p x0 x1 x2 x3 x4 x5 x6 x7):∃x0 x1 x2 x3 x4 x5 x6 x7,p x0 x1 x2 x3 x4 x5 x6 x7:=⟨x0,x1,x2,x3,x4,x5,x6,x7,h⟩
def el8 {A B C D E F G H:Type}{p:A->B->C->D->E->F->G->H->Prop}{Z:Prop}(h:∃x0 x1 x2 x3 x4 x5 x6 x7,p x0 x1 x2 x3 x4 x5 x6 x7)(k:∀x0 x1 x2 x3 x4 x5 x6 x7,p x0 x1 x2 x3 x4 x5 x6 x7->Z):Z:=by obtain⟨x0,x1,x2,x3,x4,x5,x6,x7,h⟩:=h;exact k x0 x1 x2 x3 x4 x5 x6 x7 h
def ex9 {A B C D E F G H I:Type}{p:A->B->C->D->E->F->G->H->I->Prop}(x0:A)(x1:B)(x2:C)(x3:D)(x4:E)(x5:F)(x6:G)(x7:H)(x8:I)(h:p x0 x1 x2 x3 x4 x5 x6 x7 x8):∃x0 x1 x2 x3 x4 x5 x6 x7 x8,p x0 x1 x2 x3 x4 x5 x6 x7 x8:=⟨x0,x1,x2,x3,x4,x5,x6,x7,x8,h⟩
def el9 {A B C D E F G H I:Type}{p:A->B->C->D->E->F->G->H->I->Prop}{Z:Prop}(h:∃x0 x1 x2 x3 x4 x5 x6 x7 x8,p x0 x1 x2 x3 x4 x5 x6 x7 x8)(k:∀x0 x1 x2 x3 x4 x5 x6 x7 x8,p x0 x1 x2 x3 x4 x5 x6 x7 x8->Z):Z:=by obtain⟨x0,x1,x2,x3,x4,x5,x6,x7,x8,h⟩:=h;exact k x0 x1 x2 x3 x4 x5 x6 x7 x8 h
def ex11 {A B C D E F G H I J K:Type}{p:A->B->C->D->E->F->G->H->I->J->K->Prop}(x0:A)(x1:B)(x2:C)(x3:D)(x4:E)(x5:F)(x6:G)(x7:H)(x8:I)(x9:J)(x10:K)(h:p x0 x1 x2 x3 x4 x5 x6 x7 x8 x9 x10):∃x0 x1 x2 x3 x4 x5 x6 x7 x8 x9 x10,p x0 x1 x2 x3 x4 x5 x6 x7 x8 x9 x10:=⟨x0,x1,x2,x3,x4,x5,x6,x7,x8,x9,x10,h⟩
def el11 {A B C D E F G H I J K:Type}{p:A->B->C->D->E->F->G->H->I->J->K->Prop}{Z:Prop}(h:∃x0 x1 x2 x3 x4 x5 x6 x7 x8 x9 x10,p x0 x1 x2 x3 x4 x5 x6 x7 x8 x9 x10)(k:∀x0 x1 x2 x3 x4 x5 x6 x7 x8 x9 x10,p x0 x1 x2 x3 x4 x5 x6 x7 x8 x9 x10->Z):Z:=by obtain⟨x0,x1,x2,x3,x4,x5,x6,x7,x8,x9,x10,h⟩:=h;exact k x0 x1 x2 x3 x4 x5 x6 x7 x8 x9 x10 h
def ex12 {A B C D E F G H I J K L:Type}{p:A->B->C->D->E->F->G->H->I->J->K->L->Prop}(x0:A)(x1:B)(x2:C)(x3:D)(x4:E)(x5:F)(x6:G)(x7:H)(x8:I)(x9:J)(x10:K)(x11:L)(h:p x0 x1 x2 x3 x4 x5 x6 x7 x8 x9 x10 x11):∃x0 x1 x2 x3 x4 x5 x6 x7 x8 x9 x10 x11,p x0 x1 x2 x3 x4 x5 x6 x7 x8 x9 x10 x11:=⟨x0,x1,x2,x3,x4,x5,x6,x7,x8,x9,x10,x11,h⟩
def el12 {A B C D E F G H I J K L:Type}{p:A->B->C->D->E->F->G->H->I->J->K->L->Prop}{Z:Prop}(h:∃x0 x1 x2 x3 x4 x5 x6 x7 x8 x9 x10 x11,p x0 x1 x2 x3 x4 x5 x6 x7 x8 x9 x10 x11)(k:∀x0 x1 x2 x3 x4 x5 x6 x7 x8 x9 x10 x11,p x0 x1 x2 x3 x4 x5 x6 x7 x8 x9 x10 x11->Z):Z:=by obtain⟨x0,x1,x2,x3,x4,x5,x6,x7,x8,x9,x10,x11,h⟩:=h;exact k x0 x1 x2 x3 x4 x5 x6 x7 x8 x9 x10 x11 h
def ex13 {A B C D E F G H I J K L M:Type}{p:A->B->C->D->E->F->G->H->I->J->K->L->M->Prop}(x0:A)(x1:B)(x2:C)(x3:D)(x4:E)(x5:F)(x6:G)(x7:H)(x8:I)(x9:J)(x10:K)(x11:L)(x12:M)(h:p x0 x1 x2 x3 x4 x5 x6 x7 x8 x9 x10 x11 x12):∃x0 x1 x2 x3 x4 x5 x6 x7 x8 x9 x10 x11 x12,p x0 x1 x2 x3 x4 x5 x6 x7 x8 x9 x10 x11 x12:=⟨x0,x1,x2,x3,x4,x5,x6,x7,x8,x9,x10,x11,x12,h⟩
def el13 {A B C D E F G H I J K L M:Type}{p:A->B->C->D->E->F->G->H->I->J->K->L->M->Prop}{Z:Prop}(h:∃x0 x1 x2 x3 x4 x5 x6 x7 x8 x9 x10 x11 x12,p x0 x1 x2 x3 x4 x5 x6 x7 x8 x9 x10 x11 x12)(k:∀x0 x1 x2 x3 x4 x5 x6 x7 x8 x9 x10 x11 x12,p x0 x1 x2 x3 x4 x5 x6 x7 x8 x9 x10 x11 x12->Z):Z:=by obtain⟨x0,x1,x2,x3,x4,x5,x6,x7,x8,x9,x10,x11,x12,h⟩:=h;exact k x0 x1 x2 x3 x4 x5 x6 x7 x8 x9 x10 x11 x12 h
def ex15 {A B C D E F G H I J K L M N O:Type}{p:A->B->C->D->E->F->G->H->I->J->K->L->M->N->O->Prop}(x0:A)(x1:B)(x2:C)(x3:D)(x4:E)(x5:F)(x6:G)(x7:H)(x8:I)(x9:J)(x10:K)(x11:L)(x12:M)(x13:N)(x14:O)(h:p x0 x1 x2 x3 x4 x5 x6 x7 x8 x9 x10 x11 x12 x13 x14):∃x0 x1 x2 x3 x4 x5 x6 x7 x8 x9 x10 x11 x12 x13 x14,p x0 x1 x2 x3 x4 x5 x6 x7 x8 x9 x10 x11 x12 x13 x14:=⟨x0,x1,x2,x3,x4,x5,x6,x7,x8,x9,x10,x11,x12,x13,x14,h⟩
def el15 {A B C D E F G H I J K L M N O:Type}{p:A->B->C->D->E->F->G->H->I->J->K->L->M->N->O->Prop}{Z:Prop}(h:∃x0 x1 x2 x3 x4 x5 x6 x7 x8 x9 x10 x11 x12 x13 x14,p x0 x1 x2 x3 x4 x5 x6 x7 x8 x9 x10 x11 x12 x13 x14)(k:∀x0 x1 x2 x3 x4 x5 x6 x7 x8 x9 x10 x11 x12 x13 x14,p x0 x1 x2 x3 x4 x5 x6 x7 x8 x9 x10 x11 x12 x13 x14->Z):Z:=by obtain⟨x0,x1,x2,x3,x4,x5,x6,x7,x8,x9,x10,x11,x12,x13,x14,h⟩:=h;exact k x0 x1 x2 x3 x4 x5 x6 x7 x8 x9 x10 x11 x12 x13 x14 h
def ex1 {A B:Type}{f:A->B}{p:A->Prop}(x:A)(h:p x):∃v,f x=f v/\p v:=⟨x,rfl,h⟩
open Vh VhPage
def Js:Nat->List Line->Nat->Prop
 | a,[],n=>a=n
 | a,l::L,n=>l.first=a/\1<=l.count/\Js (a+l.count) L n
theorem ZfA:∀{a b c:Nat}{L L':List Line},Js a L b->Js b L' c->Js a (L++L') c
 | a,b,c,[],L',h,h'=>by
  have:a=b:=h;subst this;exact h'
 | a,b,c,l::L,L',h,h'=>⟨h.1,h.2.1,ZfA h.2.2 h'⟩
theorem Zdy:∀(br:List Nat) (a:Nat) (b:Bool),(∀c∈br,1<=c)->Js a (rowLines a b br) (a+br.sum)
 | [],a,b,_=>by show a=a+0;rfl
 | c::br,a,b,h=>by
  refine⟨rfl,h c (by simp),?_⟩;have:=Zdy br (a+c) false (fun x hx=>h x (by simp[hx]));rw[y06,<- Nat.add_assoc];exact this
theorem Zfg {f:Nat}:∀(L:List Line) (a n i:Nat),Js a L n->a<=f->i<L.length->(∀t x,t<i->L[t]?=some x->x.first+x.count<=f)->(i+1=L.length\/∃x,L[i]?=some x/\f<x.first+x.count)->lineOf L f=i
 | [],a,n,i,_,_,hi,_,_=>by simp at hi
 | l::L,a,n,0,hc,ha,hi,h2,h3=>by
  unfold lineOf;rw[List.findIdx?_cons];by_cases z:lineHas f l=true
  ·rw[if_pos z];rfl
  ·rw[if_neg z];have hnot:¬ f<l.first+l.count:=fun y=>z (by
    unfold lineHas;have h1:l.first<=f:=by rw[hc.1];exact ha
    simp[h1,y])
   rcases h3 with h3 | ⟨x,hx,h3⟩
   ·have:L=[]:=List.length_eq_zero_iff.mp (by rw[y02] at h3;lia);subst this;rfl
   ·simp at hx;subst hx;exact absurd h3 hnot
 | l::L,a,n,i+1,hc,ha,hi,h2,h3=>by
  have he:=h2 0 l (by lia) (by simp);have hno:lineHas f l=false:=by
   unfold lineHas;have:¬ f<l.first+l.count:=by lia
   simp[this]
  have ih:=Zfg L (a+l.count) n i hc.2.2 (by rw[<- hc.1];exact he) (by simpa using hi) (fun t x ht hx=>h2 (t+1) x (by lia) (by simpa using hx)) (by
   rcases h3 with h3 | ⟨x,hx,h3⟩
   ·exact .inl (by rw[y02] at h3;lia)
   ·exact .inr ⟨x,by simpa using hx,h3⟩)
  unfold lineOf at ih ⊢;rw[List.findIdx?_cons,if_neg (by rw[hno];decide)];cases hj:L.findIdx? (lineHas f) with
  | none =>
   rw[hj] at ih;have ih:L.length-1=i:=ih;show(l::L).length-1=i+1;rw[y02];have:i<L.length:=by simpa using hi
   lia
  | some j =>
   rw[hj] at ih;have ih:j=i:=ih;show j+1=i+1;lia
theorem Jr (s:Settings):∀(ps:List (List Letters)) (a:Nat) (t:List Nat),(∀q∈ps,q≠[])->ps.flatten.length<=t.length->Js a (linesFrom s a t ps) (a+ps.flatten.length)
 | [],a,t,_,_=>by show a=a+0;rfl
 | q::ps,a,t,h,ht=>by
  have hq:0<q.length:=List.length_pos_iff.mpr (h q (by simp));rw[List.flatten_cons,y01] at ht ⊢;have hl:(t.take q.length).length=q.length:=by rw[y0h];lia
  have h1:=Zdy (broken (s.width-s.indent) s.width (t.take q.length)) a true (ZaM _ _ _ (by lia));rw[ZaL _ _ _ (by lia),hl] at h1;have h2:=Jr s ps (a+q.length) (t.drop q.length) (fun x hx=>h x (by simp[hx])) (by rw[y0i];lia);rw[<- Nat.add_assoc];exact ZfA h1 h2
noncomputable def ownN (L:Laid)(i k:Nat):Nat:=(L.footOf k (L.numberOf i k)).length
noncomputable def U6 (B:Nat->Nat)(n i:Nat):Nat:=((List.range (n-i)).map fun d=>B (i+d)).sum
theorem Zav (B:Nat->Nat){n i:Nat}(h:i<n):U6 B n i=B i+U6 B n (i+1):=by
 unfold U6;have e:n-i=(n-(i+1))+1:=by lia
 rw[e,List.range_succ_eq_map,y05,y06,List.map_map];congr 1;congr 1;apply List.map_congr_left;intro d _;show B (i+(d+1))=B (i+1+d);congr 1;lia
theorem ZeR (B:Nat->Nat){n i:Nat}(h:n<=i):U6 B n i=0:=by
 unfold U6;have e:n-i=0:=by lia
 rw[e];rfl
theorem ZgQ (B:Nat->Nat)(n:Nat):∀i,U6 B n i<=U6 B n 0
 | 0=>y0r _
 | i+1=>by
  have ih:=ZgQ B n i;by_cases h:i<n
  ·rw[Zav B h] at ih;lia
  ·rw[ZeR B (by lia)];lia
noncomputable def meas (L:Laid)(B:Nat->Nat)(i:Nat)(c:List (List Letters)):Nat:=2 * (L.lines.size-i)+c.length+U6 B L.lines.size i
theorem Zga (L:Laid)(i:Nat):L.ownFoot i (i+1)=L.footOf i (L.numberOf i i):=by
 unfold Laid.ownFoot;have e:i+1-i=1:=by lia
 rw[e];simp[List.range_succ]
theorem Zc0 {L:Laid}{i:Nat}{c:List (List Letters)}:∀(f j:Nat) (own:List (List Letters)) (p:Page),i<=j->p∈L.wholesFrom i c f j own->p.first=i/\1<=p.lines/\j+1<=i+p.lines/\i+p.lines<=L.lines.size/\p.on=[]/\p.whole=true
 | 0,j,own,p,hj,h=>by simp[Laid.wholesFrom] at h
 | f+1,j,own,p,hj,h=>by
  unfold Laid.wholesFrom at h;split at h
  ·simp at h
  ·rename_i hs;simp only[] at h;split at h
   ·simp at h
   ·rcases y0b.mp h with rfl | h
    ·refine⟨rfl,?_,?_,?_,rfl,rfl⟩
     ·show 1<=j+1-i;lia
     ·show j+1<=i+(j+1-i);lia
     ·show i+(j+1-i)<=L.lines.size;lia
    ·have:=Zc0 f (j+1) _ p (by lia) h;exact⟨this.1,this.2.1,by lia,this.2.2.2⟩
theorem Zgj {L:Laid}{i:Nat}{c:List (List Letters)}{p:Page}(h:p∈L.nexts i c):(p.on=[]/\1<=p.lines/\p.whole=true/\p.first=i/\i+p.lines<=L.lines.size)\/(i<L.lines.size/\p=L.cutPage i c/\L.wholes i c=[]/\c.length+3<=L.work.set.height)\/(c≠[]/\p=L.alonePage i c):=by
 unfold Laid.nexts at h;simp only[] at h;split at h
 ·left;have hm:p∈L.wholesFrom i c L.work.set.height i []:=by unfold Laid.wholes at h;simpa using h
  have:=Zc0 _ _ _ p (y0r _) hm;exact⟨this.2.2.2.2.1,this.2.1,this.2.2.2.2.2,this.1,this.2.2.2.1⟩
 ·rename_i hw;have hw:L.wholes i c=[]:=by
   cases z:L.wholes i c with
   | nil=>rfl
   | cons a b=>rw[z] at hw;simp at hw
  split at h
  ·rename_i hc;right;left;exact⟨hc.1,by simpa using h,hw,hc.2⟩
  ·split at h
   ·simp at h
   ·rename_i hc;right;right;exact⟨fun z=>hc (by rw[z];rfl),by simpa using h⟩
theorem ZbO {L:Laid}{B:Nat->Nat}{i:Nat}{c:List (List Letters)}{p:Page}(hB:∀i k,ownN L i k<=B k)(hh:6<=L.work.set.height)(h:p∈L.nexts i c)(hn:¬ (p.on.isEmpty=true/\1<=p.lines)):meas L B (i+p.lines) p.on<meas L B i c:=by
 rcases Zgj h with h | ⟨h1,rfl,_⟩ | ⟨h1,rfl⟩
 ·exact absurd ⟨by rw[h.1];rfl,h.2.1⟩ hn
 ·unfold meas;have e1:(L.cutPage i c).lines=1:=rfl;have e2:(L.cutPage i c).on=(c++L.ownFoot i (i+1)).drop (L.work.set.height-2):=rfl;rw[e1,e2,Zga,y0i,y01,Zav B h1];have:=hB i i;unfold ownN at this;lia
 ·unfold meas;have e1:(L.alonePage i c).lines=0:=rfl;have e2:(L.alonePage i c).on=c.drop (L.work.set.height-1):=rfl;rw[e1,e2,y0i,Nat.add_zero];have:=List.length_pos_iff.mpr h1;lia
theorem Zds {L:Laid}{K K':Nat->Nat×List Page}:∀(f i:Nat) (c:List (List Letters)),(∀j,i<j->K j=K' j)->L.pagesFrom K f i c=L.pagesFrom K' f i c
 | 0,i,c,h=>rfl
 | f+1,i,c,h=>by
  unfold Laid.pagesFrom;split
  ·rfl
  ·congr 1;apply List.map_congr_left;intro p hp;congr 1;split
   ·rename_i z;exact h _ (by lia)
   ·exact Zds f _ _ (fun j hj=>h j (by lia))
theorem Zcu {L:Laid}{B:Nat->Nat}{K:Nat->Nat×List Page}(hB:∀i k,ownN L i k<=B k)(hh:6<=L.work.set.height):∀(f f' i:Nat) (c:List (List Letters)),meas L B i c<f->meas L B i c<f'->L.pagesFrom K f i c=L.pagesFrom K f' i c
 | 0,_,_,_,h,_=>by lia
 | _+1,0,_,_,_,h=>by lia
 | f+1,f'+1,i,c,h,h'=>by
  unfold Laid.pagesFrom;split
  ·rfl
  ·congr 1;apply List.map_congr_left;intro p hp;congr 1;split
   ·rfl
   ·rename_i z;have:=ZbO hB hh hp z;exact Zcu hB hh f f' _ _ (by lia) (by lia)
theorem Zjp (L:Laid):∀k,(L.allFrom k).length=k
 | 0=>rfl
 | k+1=>by unfold Laid.allFrom;simp only[y02];rw[Zjp L k]
theorem Zem (L:Laid):∀d k,(L.allFrom (k+d)).drop d=L.allFrom k
 | 0,k=>by simp
 | d+1,k=>by
  have e:k+(d+1)=(k+d)+1:=by lia
  rw[e]
  conv=>lhs;unfold Laid.allFrom
  simp only[List.drop_succ_cons];exact Zem L d k
noncomputable def kn (L:Laid)(j:Nat):Nat×List Page:=(L.allFrom L.lines.size).getD j (0,[])
theorem Znb (L:Laid){i:Nat}(h:i<L.lines.size):kn L i=L.pagesFrom (kn L) L.most i []:=by
 have e:L.lines.size=(L.lines.size-i)+i:=by lia
 have h1:(L.allFrom L.lines.size).getD i (0,[])=(L.allFrom (L.lines.size-i)).getD 0 (0,[]):=by
  have:=Zem L i (L.lines.size-i);rw[<- e] at this;rw[<- this];simp[List.getD_eq_getElem?_getD]
 obtain⟨k,hk⟩:∃k,L.lines.size-i=k+1:=⟨L.lines.size-i-1,by lia⟩
 unfold kn;rw[h1,hk]
 conv=>lhs;unfold Laid.allFrom
 simp only[List.getD_cons_zero];have ei:L.lines.size-(k+1)=i:=by lia
 rw[ei];apply Zds;intro j hj;have h2:(L.allFrom L.lines.size).drop (i+1)=L.allFrom k:=by
  have:=Zem L (i+1) k;have e2:k+(i+1)=L.lines.size:=by lia
  rw[e2] at this;exact this
 rw[<- h2];simp only[List.getD_eq_getElem?_getD,List.getElem?_drop];congr 2;lia
theorem Zmr (L:Laid){j:Nat}(h:L.lines.size<=j):kn L j=(0,[]):=by
 unfold kn;rw[List.getD_eq_getElem?_getD,y0p (by rw[Zjp];exact h)];rfl
noncomputable def best (L:Laid)(B:Nat->Nat)(i:Nat)(c:List (List Letters)):Nat×List Page:=L.pagesFrom (kn L) (meas L B i c+1) i c
theorem Vj (L:Laid)(B:Nat->Nat){i:Nat}(h:L.lines.size<=i):best L B i []=(0,[]):=by
 unfold best Laid.pagesFrom;rw[if_pos ⟨h,rfl⟩]
structure Fits (L:Laid)(B:Nat->Nat):Prop where
 own:∀i k,ownN L i k<=B k
 high:6<=L.work.set.height
 most:U6 B L.lines.size 0+2 * L.lines.size+1<=L.most
theorem ZiP {L:Laid}{B:Nat->Nat}(hF:Fits L B)(j:Nat):kn L j=best L B j []:=by
 by_cases h:j<L.lines.size
 ·rw[Znb L h];unfold best;refine Zcu hF.own hF.high _ _ _ _ ?_ (by lia);unfold meas;have:=ZgQ B L.lines.size j;have:=hF.most;simp only[y04];lia
 ·rw[Zmr L (by lia),Vj L B (by lia)]
theorem ZgC {L:Laid}{B:Nat->Nat}(hF:Fits L B)(i:Nat)(c:List (List Letters)):best L B i c=if L.lines.size<=i/\c.isEmpty=true then(0,[]) else firstOf ((L.nexts i c).map fun p=>L.with_ p (best L B (i+p.lines) p.on)):=by
 conv=>lhs;unfold best Laid.pagesFrom
 split
 ·rfl
 ·congr 1;apply List.map_congr_left;intro p hp;congr 1;split
  ·rename_i z;rw[ZiP hF,List.isEmpty_iff.mp z.1]
  ·rename_i z;have:=ZbO hF.own hF.high hp z;unfold best;exact Zcu hF.own hF.high _ _ _ _ (by lia) (by lia)
theorem Zax {L:Laid}{B:Nat->Nat}(hF:Fits L B):L.pages=(best L B 0 []).2:=by
 rw[<- ZiP hF 0];unfold Laid.pages kn;cases L.allFrom L.lines.size <;> rfl
noncomputable def Y2 {α:Type}(xs:List (Nat×α)):Option (Nat×α):=xs.foldl (fun b y=>match b with
 | none=>some y
 | some x=>if y.1<=x.1 then some y else some x) none
noncomputable def min2 (a b:Nat×List Page):Nat×List Page:=if b.1<a.1 then b else a
theorem ZhR (a b c:Nat×List Page):min2 (min2 a b) c=min2 a (min2 b c):=by
 unfold min2;by_cases h1:b.1<a.1 <;> by_cases h2:c.1<b.1 <;> simp[h1,h2]
 ·intro h;lia
 ·intro h;lia
theorem Zfq:∀(r:List (Nat×List Page)) (y x:Nat×List Page),r.foldl min2 (min2 y x)=min2 y (r.foldl min2 x)
 | [],y,x=>rfl
 | z::r,y,x=>by
  rw[List.foldl_cons,List.foldl_cons,ZhR,Zfq r]
theorem Xq {α:Type}(xs:List (Nat×α))(y:Nat×α):Y2 (xs++[y])=match Y2 xs with
 | none=>some y
 | some x=>if y.1<=x.1 then some y else some x:=by
 unfold Y2;rw[List.foldl_append];rfl
theorem ZdK {α:Type}{Q:List α->Prop}(h0:Q [])(hs:∀xs y,Q xs->Q (xs++[y]))(xs:List α):Q xs:=by
 have:∀(n:Nat) (xs:List α),xs.length=n->Q xs:=by
  intro n
  induction n with
  | zero=>intro xs h;rw[List.length_eq_zero_iff.mp h];exact h0
  | succ n ih =>
   intro xs h;have hne:xs≠[]:=fun z=>by rw[z] at h;cases h
   rcases List.eq_nil_or_concat xs with z | ⟨l,b,z⟩
   ·exact absurd z hne
   ·rw[z,List.concat_eq_append] at h ⊢;exact hs _ _ (ih _ (by simpa using h))
 exact this _ _ rfl
theorem Ua {α:Type}(xs:List (Nat×α))(h:xs≠[]):∃b,Y2 xs=some b/\b∈xs:=by
 refine ZdK (Q:=fun xs=>xs≠[]->∃b,Y2 xs=some b/\b∈xs) (fun h=>absurd rfl h) ?_ xs h;intro xs y ih _;rw[Xq];by_cases hx:xs=[]
 ·subst hx;exact⟨y,rfl,by simp⟩
 ·obtain⟨b,hb,hm⟩:=ih hx;rw[hb];simp only[];split
  ·exact⟨y,rfl,by simp⟩
  ·exact⟨b,rfl,by simp[hm]⟩
theorem Zcv (xs:List (Nat×List Page)):firstOf xs.reverse=(Y2 xs).getD (0,[]):=by
 refine ZdK (Q:=fun xs=>firstOf xs.reverse=(Y2 xs).getD (0,[])) rfl ?_ xs;intro xs y ih;rw[Xq,List.reverse_append];show firstOf (y::xs.reverse)=_;by_cases hx:xs=[]
 ·subst hx;rfl
 ·obtain⟨b,hb,_⟩:=Ua xs hx;rw[hb] at ih ⊢;obtain⟨x,r,hr⟩:∃x r,xs.reverse=x::r:=by
   cases z:xs.reverse with
   | nil=>simp at z;exact absurd z hx
   | cons x r=>exact⟨x,r,rfl⟩
  rw[hr] at ih ⊢;have ih:r.foldl min2 x=b:=ih;show(x::r).foldl min2 y=_;rw[List.foldl_cons,Zfq,ih];unfold min2;simp only[];split <;> split
  ·lia
  ·rfl
  ·rfl
  ·lia
theorem Zgq {α β:Type}(g:α->β)(xs:List (Nat×α)):Y2 (xs.map fun y=>(y.1,g y.2))=(Y2 xs).map fun y=>(y.1,g y.2):=by
 refine ZdK (Q:=fun xs=>Y2 (xs.map fun y=>(y.1,g y.2))=(Y2 xs).map fun y=>(y.1,g y.2)) rfl ?_ xs;intro xs y ih;rw[y07,y05,List.map_nil,Xq,Xq,ih];cases Y2 xs with
 | none=>rfl
 | some b =>
  simp only[Option.map_some];split <;> rfl
noncomputable def ownS (L:Laid)(i k:Nat):Nat:=(L.ownFoot i k).length
theorem Zbb (L:Laid){i k:Nat}(h:i<=k):L.ownFoot i (k+1)=L.ownFoot i k++L.footOf k (L.numberOf i k):=by
 unfold Laid.ownFoot;have e:k+1-i=(k-i)+1:=by lia
 have e2:i+(k-i)=k:=by lia
 rw[e,List.range_succ,List.flatMap_append];simp[e2]
theorem Jb (L:Laid)(i:Nat):L.ownFoot i i=[]:=by
 unfold Laid.ownFoot;simp
theorem ZgY (L:Laid)(i:Nat):ownS L i i=0:=by unfold ownS;rw[Jb];rfl
theorem Ze0 (L:Laid){i k:Nat}(h:i<=k):ownS L i (k+1)=ownS L i k+ownN L i k:=by
 unfold ownS ownN;rw[Zbb L h,y01]
theorem Zd2 (L:Laid)(i:Nat):ownS L i (i+1)=ownN L i i:=by rw[Ze0 L (y0r _),ZgY,Nat.zero_add]
noncomputable def whole (L:Laid)(i:Nat)(c:List (List Letters))(k:Nat):Page:=⟨i,k+1-i,c.length,ownS L i (k+1),c++L.ownFoot i (k+1),[],true⟩
noncomputable def Z8 (L:Laid)(i C k:Nat):Nat:=wantsOf (k+1-i) (C+ownS L i (k+1))
theorem Y8 (L:Laid)(i:Nat)(c:List (List Letters))(k:Nat):(whole L i c k).wants=Z8 L i c.length k:=by
 unfold Page.wants whole Z8 ownS;simp only[y01]
noncomputable def wl (L:Laid)(i:Nat)(c:List (List Letters)):List Page:=L.wholesFrom i c L.work.set.height i []
theorem Zeu (L:Laid)(i:Nat)(c:List (List Letters)):L.wholes i c=(wl L i c).reverse:=rfl
theorem Zdr (L:Laid)(i:Nat)(c:List (List Letters))(f:Nat){j:Nat}(h:i<=j):L.wholesFrom i c (f+1) j (L.ownFoot i j)=if L.lines.size<=j then[] else if L.work.set.height<Z8 L i c.length j then[] else whole L i c j::L.wholesFrom i c f (j+1) (L.ownFoot i (j+1)):=by
 conv=>lhs;unfold Laid.wholesFrom
 rw[<- Zbb L h,<- Y8];rfl
theorem ZgH (L:Laid)(i:Nat)(c:List (List Letters))(d:Nat)(h1:i+d<=L.lines.size)(h2:∀e,e<d->Z8 L i c.length (i+e)<=L.work.set.height)(h3:L.lines.size<=i+d\/L.work.set.height<Z8 L i c.length (i+d)):∀(m f j:Nat),d=j+m->m<=f->L.wholesFrom i c f (i+j) (L.ownFoot i (i+j))=(List.range m).map fun e=>whole L i c (i+(j+e))
 | 0,0,j,_,_=>rfl
 | 0,f+1,j,hd,_=>by
  rw[Zdr L i c f (by lia)];have e:d=j:=by lia
  subst e;rcases h3 with h3 | h3
  ·rw[if_pos h3];rfl
  ·rw[if_pos h3];simp
 | m+1,0,j,_,hf=>by lia
 | m+1,f+1,j,hd,hf=>by
  rw[Zdr L i c f (by lia),if_neg (by lia),if_neg (by have:=h2 j (by lia);lia)];have ih:=ZgH L i c d h1 h2 h3 m f (j+1) (by lia) (by lia);rw[show i+j+1=i+(j+1) by lia,ih,List.range_succ_eq_map,y05,List.map_map];congr 1;apply List.map_congr_left;intro e _;show whole L i c (i+(j+1+e))=whole L i c (i+(j+(e+1)));congr 1;lia
theorem Zk0 (L:Laid)(i:Nat)(c:List (List Letters))(d:Nat)(h1:i+d<=L.lines.size)(h2:∀e,e<d->Z8 L i c.length (i+e)<=L.work.set.height)(h3:L.lines.size<=i+d\/L.work.set.height<Z8 L i c.length (i+d)):wl L i c=(List.range d).map fun e=>whole L i c (i+e):=by
 have hd:d<=L.work.set.height:=by
  cases d with
  | zero=>lia
  | succ d =>
   have:=h2 d (by lia);unfold Z8 wantsOf at this;lia
 have:=ZgH L i c d h1 h2 h3 d L.work.set.height 0 (by lia) hd;rw[Nat.add_zero,Jb] at this;unfold wl;rw[this];apply List.map_congr_left;intro e _;rw[Nat.zero_add]
theorem Zl4 (L:Laid)(i:Nat)(c:List (List Letters))(hi:i<=L.lines.size):∃d,i+d<=L.lines.size/\(∀e,e<d->Z8 L i c.length (i+e)<=L.work.set.height)/\(L.lines.size<=i+d\/L.work.set.height<Z8 L i c.length (i+d)):=by
 have:∀m d,i+d+m=L.lines.size->(∀e,e<d->Z8 L i c.length (i+e)<=L.work.set.height)->∃d,i+d<=L.lines.size/\(∀e,e<d->Z8 L i c.length (i+e)<=L.work.set.height)/\(L.lines.size<=i+d\/L.work.set.height<Z8 L i c.length (i+d)):=by
  intro m
  induction m with
  | zero=>intro d h h2;exact⟨d,by lia,h2,.inl (by lia)⟩
  | succ m ih =>
   intro d h h2;by_cases z:L.work.set.height<Z8 L i c.length (i+d)
   ·exact⟨d,by lia,h2,.inr z⟩
   ·refine ih (d+1) (by lia) fun e he=>?_
    by_cases y:e=d
    ·subst y;lia
    ·exact h2 e (by lia)
 exact this (L.lines.size-i) 0 (by lia) (fun e he=>by lia)
theorem ZcZ (L:Laid)(i:Nat)(c:List (List Letters))(hi:i<=L.lines.size):wl L i c=[]↔(L.lines.size<=i\/L.work.set.height<Z8 L i c.length i):=by
 obtain⟨d,h1,h2,h3⟩:=Zl4 L i c hi;rw[Zk0 L i c d h1 h2 h3];cases d with
 | zero=>simp;simpa using h3
 | succ d =>
  have:=h2 0 (by lia);rw[Nat.add_zero] at this;constructor
  ·intro z;simp[List.range_succ] at z
  ·intro z;lia
theorem Zeq (L:Laid)(i:Nat)(c:List (List Letters))(hi:i<=L.lines.size){p:Page}(hp:p∈wl L i c):∃k,i<=k/\k<L.lines.size/\p=whole L i c k/\Z8 L i c.length k<=L.work.set.height:=by
 obtain⟨d,h1,h2,h3⟩:=Zl4 L i c hi;rw[Zk0 L i c d h1 h2 h3,y0k] at hp;obtain⟨e,he,rfl⟩:=hp;rw[List.mem_range] at he;exact⟨i+e,by lia,by lia,rfl,h2 e he⟩
noncomputable def Zg5 (L:Laid)(i e:Nat):Nat:=(if (L.line (e-1)).begins=true/\(L.line (e-1)).ends=false then L.work.set.loose else 0)+(if (L.line i).ends=true/\(L.line i).begins=false then L.work.set.loose else 0)
noncomputable def ZbK (L:Laid)(i e w:Nat):Nat:=Zg5 L i e+(if e<L.lines.size then(L.work.set.height-w) ^ 2 else 0)
theorem UP (L:Laid)(i:Nat)(c:List (List Letters)){k:Nat}(h:i<=k)(last:Bool)(hl:last=decide (L.lines.size<=k+1)):L.pageCost (whole L i c k) last=ZbK L i (k+1) (Z8 L i c.length k):=by
 unfold Laid.pageCost;have e0:(whole L i c k).whole=true:=rfl;have e1:(whole L i c k).first=i:=rfl;have e2:(whole L i c k).lines=k+1-i:=rfl;have e3:i+(k+1-i)-1=k:=by lia
 rw[e0,if_neg (by decide),Y8];unfold ZbK Laid.looseEnds Zg5;simp only[e1,e2,e3,hl];by_cases z:k+1<L.lines.size
 ·rw[if_neg (by simp;lia),if_pos z,Nat.add_comm];rfl
 ·rw[if_pos (by simp;lia),if_neg z];simp
theorem Zgw (l:List (Nat×List Page))(h:l≠[]):firstOf l∈l:=by
 have:=Zcv l.reverse;rw[List.reverse_reverse] at this;obtain⟨b,hb,hm⟩:=Ua l.reverse (by simpa using h);rw[this,hb];simpa using hm
variable {L:Laid}{B:Nat->Nat}
theorem Zg4 (hh:6<=L.work.set.height){i:Nat}{c:List (List Letters)}(h:i<L.lines.size\/c≠[]):L.nexts i c≠[]:=by
 unfold Laid.nexts;simp only[];split
 ·rename_i z;intro y;rw[y] at z;simp at z
 ·split
  ·simp
  ·rename_i z;split
   ·rename_i y;have y:c=[]:=List.isEmpty_iff.mp y;subst y;rcases h with h | h
    ·exact absurd ⟨h,by simp only[y04];lia⟩ z
    ·exact absurd rfl h
   ·simp
theorem ZlY (hF:Fits L B){i:Nat}{c:List (List Letters)}(h:i<L.lines.size\/c≠[]):(best L B i c).2≠[]:=by
 rw[ZgC hF,if_neg (by
  rintro⟨h1,h2⟩;rcases h with h | h
  ·lia
  ·exact h (List.isEmpty_iff.mp h2))]
 have:=Zgw ((L.nexts i c).map fun p=>L.with_ p (best L B (i+p.lines) p.on)) (by
  intro z;exact Zg4 hF.high h (List.map_eq_nil_iff.mp z))
 obtain⟨p,_,hp⟩:=y0k.mp this;rw[<- hp];unfold Laid.with_;simp
theorem ZdC (hF:Fits L B){j:Nat}(c:List (List Letters)):(best L B j c).2.isEmpty=(decide (L.lines.size<=j) && c.isEmpty):=by
 by_cases h:j<L.lines.size\/c≠[]
 ·have h1:=ZlY hF h;have:(best L B j c).2.isEmpty=false:=by
   cases z:(best L B j c).2 with
   | nil=>exact absurd z h1
   | cons a b=>rfl
  rw[this];rcases h with h | h
  ·have:¬ L.lines.size<=j:=by lia
   simp[this]
  ·cases c with
   | nil=>exact absurd rfl h
   | cons a b=>simp
 ·have hc:c=[]:=Classical.byContradiction fun z=>h (.inr z)
  subst hc;have hj:L.lines.size<=j:=Classical.byContradiction fun z=>h (.inl (by lia))
  rw[Vj L B hj];simp[hj]
noncomputable def cst (L:Laid)(B:Nat->Nat)(i:Nat)(p:Page):Nat:=ZbK L i (i+p.lines) p.wants+(best L B (i+p.lines) []).1
noncomputable def ZcX (L:Laid)(B:Nat->Nat)(i:Nat)(xs:List Page):Option (Nat×Page):=Y2 (xs.map fun p=>(cst L B i p,p))
theorem Zh8 (L:Laid)(B:Nat->Nat)(i:Nat)(xs:List Page)(p:Page):ZcX L B i (xs++[p])=match ZcX L B i xs with
 | none=>some (cst L B i p,p)
 | some x=>if cst L B i p<=x.1 then some (cst L B i p,p) else some x:=by
 unfold ZcX;rw[y07,y05,List.map_nil,Xq];cases Y2 (List.map (fun p=>(cst L B i p,p)) xs) <;> rfl
theorem ZdE (L:Laid)(B:Nat->Nat)(i:Nat)(xs:List Page)(h:xs≠[]):∃p,p∈xs/\ZcX L B i xs=some (cst L B i p,p):=by
 obtain⟨b,hb,hm⟩:=Ua (xs.map fun p=>(cst L B i p,p)) (by simpa using h);obtain⟨p,hp,rfl⟩:=y0k.mp hm;exact⟨p,hp,hb⟩
theorem Uu (hF:Fits L B){i:Nat}{c:List (List Letters)}(hi:i<=L.lines.size)(hw:wl L i c≠[]):∃p,p∈wl L i c/\ZcX L B i (wl L i c)=some (cst L B i p,p)/\best L B i c=(cst L B i p,p::(best L B (i+p.lines) []).2):=by
 obtain⟨p,hp,hb⟩:=ZdE L B i _ hw;refine⟨p,hp,hb,?_⟩;have hn:¬ (L.lines.size<=i/\c.isEmpty=true):=by
  rintro⟨z,_⟩;exact hw ((ZcZ L i c hi).mpr (.inl z))
 rw[ZgC hF,if_neg hn];have e:L.nexts i c=(wl L i c).reverse:=by
  unfold Laid.nexts;simp only[];rw[Zeu,if_pos (by simpa using hw)]
 rw[e,List.map_reverse,Zcv];have e2:((wl L i c).map fun p=>L.with_ p (best L B (i+p.lines) p.on))=((wl L i c).map fun p=>(cst L B i p,p)).map fun y=>(y.1,y.2::(best L B (i+y.2.lines) []).2):=by
  rw[List.map_map];apply List.map_congr_left;intro q hq;obtain⟨k,hk,hkn,rfl,_⟩:=Zeq L i c hi hq;show L.with_ _ _=_;unfold Laid.with_ cst;have e3:(whole L i c k).on=[]:=rfl;have e4:i+(whole L i c k).lines=k+1:=by show i+(k+1-i)=k+1;lia
  simp only[e3,e4,Y8];rw[ZdC hF,UP L i c hk _ (by simp)];simp only[Function.comp_apply,e4,Y8]
 rw[e2,Zgq (fun(p:Page)=>p::(best L B (i+p.lines) []).2)];unfold ZcX at hb;rw[hb];rfl
noncomputable def ZH (L:Laid)(i:Nat)(c:List (List Letters)):Page:=if i<L.lines.size/\c.length+3<=L.work.set.height then L.cutPage i c else L.alonePage i c
theorem Zdt {i:Nat}{c:List (List Letters)}(hw:wl L i c=[])(h:i<L.lines.size\/c≠[])(hh:6<=L.work.set.height):L.nexts i c=[ZH L i c]:=by
 have:=Zg4 hh h;unfold ZH;unfold Laid.nexts at *;simp only[Zeu,hw] at *;rw[if_neg (by simp)] at *;split
 ·rfl
 ·rename_i z;rw[if_neg z] at this;split
  ·rename_i y;rw[if_pos y] at this;exact absurd rfl this
  ·rfl
theorem Vi (hF:Fits L B){i:Nat}{c:List (List Letters)}(hw:wl L i c=[])(h:i<L.lines.size\/c≠[]):best L B i c=((best L B (i+(ZH L i c).lines) (ZH L i c).on).1,ZH L i c::(best L B (i+(ZH L i c).lines) (ZH L i c).on).2):=by
 conv=>lhs;rw[ZgC hF,if_neg (by
  rintro⟨h1,h2⟩;rcases h with h | h
  ·lia
  ·exact h (List.isEmpty_iff.mp h2)),Zdt hw h hF.high]
 show L.with_ _ _=_;unfold Laid.with_ Laid.pageCost;have:(ZH L i c).whole=false:=by unfold ZH;split <;> rfl
 rw[this,if_pos rfl,Nat.zero_add]
theorem W8 (hF:Fits L B){i:Nat}{c:List (List Letters)}(hi:i<=L.lines.size)(hw:wl L i c=[])(h:i<L.lines.size\/c≠[]):meas L B (i+(ZH L i c).lines) (ZH L i c).on<meas L B i c:=by
 refine ZbO hF.own hF.high (by rw[Zdt hw h hF.high];simp) ?_;rintro⟨h1,h2⟩;unfold ZH at h1 h2;split at h1
 ·rename_i z;have:=(ZcZ L i c hi).mp hw;have hk:L.work.set.height<Z8 L i c.length i:=by lia
  have e:(L.cutPage i c).on=(c++L.ownFoot i (i+1)).drop (L.work.set.height-2):=rfl;rw[e] at h1;have h1:=congrArg List.length (List.isEmpty_iff.mp h1);rw[y0i,y01] at h1;unfold Z8 wantsOf ownS at hk;simp only[y04] at h1;split at hk <;> lia
 ·rename_i z;rw[if_neg z] at h2;exact absurd h2 (by show ¬ 1<=0;lia)
noncomputable def VC (L:Laid):List Page->List (Page×Nat)
 | []=>[]
 | p::r=>(p,L.pageCost p r.isEmpty)::VC L r
theorem Zer (L:Laid):∀l,(VC L l).length=l.length
 | []=>rfl
 | p::r=>by simp[VC,Zer L r]
theorem Zes (L:Laid):∀(l:List Page) (k:Nat) (p:Page),l[k]?=some p->(VC L l)[k]?=some (p,L.pageCost p (decide (k+1=l.length)))
 | [],k,p,h=>by simp at h
 | q::r,0,p,h=>by
  simp at h;subst h;have e:r.isEmpty=decide (0+1=(q::r).length):=by cases r <;> simp
  rw[VC,List.getElem?_cons_zero,e]
 | q::r,k+1,p,h=>by
  rw[VC,List.getElem?_cons_succ,Zes L r k p (by simpa using h)];have e:decide (k+1=r.length)=decide (k+1+1=(q::r).length):=decide_eq_decide.mpr (by rw[y02];lia);rw[e]
theorem ZfN (hF:Fits L B){i:Nat}{c:List (List Letters)}(hi:i<=L.lines.size){k:Nat}(hk:i<=k)(hb:best L B i c=(cst L B i (whole L i c k),whole L i c k::(best L B (i+(whole L i c k).lines) []).2)):VC L (best L B i c).2=(whole L i c k,ZbK L i (k+1) (Z8 L i c.length k))::VC L (best L B (k+1) []).2:=by
 have e4:i+(whole L i c k).lines=k+1:=by show i+(k+1-i)=k+1;lia
 rw[hb,e4];simp only[VC];rw[ZdC hF,UP L i c hk _ (by simp)]
theorem Zet (hF:Fits L B){i:Nat}{c:List (List Letters)}(hw:wl L i c=[])(h:i<L.lines.size\/c≠[]):VC L (best L B i c).2=(ZH L i c,0)::VC L (best L B (i+(ZH L i c).lines) (ZH L i c).on).2:=by
 rw[Vi hF hw h];simp only[VC];unfold Laid.pageCost;have:(ZH L i c).whole=false:=by unfold ZH;split <;> rfl
 rw[this,if_pos rfl]
end Vp
namespace Vp
open Vh VhPage
theorem Jm {α β:Type}(g:α->Nat)(h:α->β):∀(xs:List α) (a:Array (List β)) (k:Nat),k<a.size->(xs.foldl (fun a x=>a.modify (g x) fun l=>l++[h x]) a).getD k []=a.getD k []++(xs.filter fun x=>g x==k).map h
 | [],a,k,hk=>by simp
 | x::xs,a,k,hk=>by
  rw[List.foldl_cons,Jm g h xs _ k (by rw[Array.size_modify];exact hk)];have e:(a.modify (g x) fun l=>l++[h x]).getD k []=if g x=k then a.getD k []++[h x] else a.getD k []:=by
   rw[Array.getD_eq_getD_getElem?,Array.getElem?_modify,Array.getD_eq_getD_getElem?];split
   ·rename_i z;rw[Array.getElem?_eq_getElem hk];rfl
   ·rfl
  rw[e,List.filter_cons];by_cases z:g x=k
  ·rw[if_pos z,if_pos (by simpa using z),y05,y0j];rfl
  ·rw[if_neg z,if_neg (by simpa using z)]
theorem ZeS {β:Type}(n k:Nat):(Array.replicate n ([]:List β)).getD k []=[]:=by
 rw[Array.getD_eq_getD_getElem?,Array.getElem?_replicate];split <;> rfl
noncomputable def sgn (w:Work)(k:Nat):List (List Letters):=(w.signs.filter fun x=>x.1==k).map (·.2)
theorem Y3 (w:Work):(laid w).work=w:=rfl
theorem Zdl (w:Work):(laid w).words=w.paras.flatten.toArray:=rfl
theorem Ub (w:Work)(k:Nat):(laid w).word k=w.paras.flatten.getD k []:=by
 unfold Laid.word;rw[Zdl];simp[List.getD_eq_getElem?_getD]
theorem ZaG (w:Work){k:Nat}(h:k<w.paras.flatten.length):(laid w).signs.getD k []=sgn w k:=by
 have:=Jm (fun x:Nat×List Letters=>x.1) (fun x=>x.2) w.signs (Array.replicate w.paras.flatten.length []) k (by simpa using h);rw[ZeS] at this;exact this
noncomputable def wtkS (w:Work)(k:Nat):Nat:=YH w.widths (w.paras.flatten.getD k [])+(sgn w k).length
theorem ZkZ {α β:Type}(f:α×Nat->β)(l:List α)(k:Nat):(l.zipIdx.map f)[k]?=(l[k]?).map fun x=>f (x,k):=by
 rw[y0l,List.getElem?_zipIdx,Option.map_map,Nat.zero_add];rfl
noncomputable def tkl (w:Work):List Nat:=(laid w).takes.toList
theorem Zih (w:Work):(tkl w).length=w.paras.flatten.length:=by
 show(List.map _ (List.zipIdx w.words)).length=_;rw[y03,List.length_zipIdx];rfl
theorem Zk4 (w:Work){k:Nat}(h:k<w.paras.flatten.length):(tkl w)[k]?=some (wtkS w k):=by
 have e:tkl w=w.paras.flatten.zipIdx.map fun x=>w.thingTakes x.1+((laid w).signs.getD x.2 []).length:=rfl
 rw[e,ZkZ,y09 h,Option.map_some,ZaG w h];unfold wtkS;rw[List.getD_eq_getElem?_getD,y09 h];rfl
noncomputable def lnl (w:Work):List Line:=linesFrom w.set 0 (tkl w) w.paras
theorem Zdm (w:Work):(laid w).lines=(lnl w).toArray:=rfl
theorem Z0 (w:Work):(laid w).lines.size=(lnl w).length:=by rw[Zdm];simp
theorem X8 (w:Work){k:Nat}{x:Line}(h:(lnl w)[k]?=some x):(laid w).line k=x:=by
 unfold Laid.line;rw[Zdm];simp[h]
theorem Xr (w:Work){k:Nat}(h:k<(lnl w).length):(laid w).entries.getD k []=w.entries.filter fun e=>lineOf (lnl w) e.first==k:=by
 have:=Jm (fun x:Entry=>lineOf (lnl w) x.first) (fun x=>x) w.entries (Array.replicate (lnl w).length []) k (by simpa using h);rw[ZeS] at this;simp only[List.map_id',List.nil_append] at this;exact this
theorem Ym {w:Work}(h:WOk w):Js 0 (lnl w) w.paras.flatten.length:=by
 have:=Jr w.set w.paras 0 (tkl w) (fun q hq=>(h.para q hq).1) (by rw[Zih];exact y0r _);rw[Nat.zero_add] at this;exact this
theorem Wa:∀{a n:Nat}{l:List Line}{k:Nat}{x:Line},Js a l n->l[k]?=some x->a+k<=x.first/\1<=x.count/\x.first+x.count+(l.length-(k+1))<=n
 | a,n,[],k,x,h,hx=>by simp at hx
 | a,n,y::l,0,x,h,hx=>by
  simp at hx;subst hx;have:∀{a n:Nat}{l:List Line},Js a l n->a+l.length<=n:=by
   intro a n l
   induction l generalizing a with
   | nil=>intro h;have:a=n:=h;simp;lia
   | cons y l ih=>intro h;have:=ih h.2.2;have:=h.2.1;rw[y02];lia
  have:=this h.2.2;refine⟨by rw[h.1];lia,h.2.1,?_⟩;rw[y02,h.1];lia
 | a,n,y::l,k+1,x,h,hx=>by
  have:=Wa h.2.2 (by simpa using hx);have:=h.2.1;rw[y02];lia
theorem Zad:∀{a n:Nat}{l:List Line},Js a l n->a+l.length<=n
 | a,n,[],h=>by have:a=n:=h;simp;lia
 | a,n,y::l,h=>by have:=Zad h.2.2;have:=h.2.1;rw[y02];lia
theorem ZdA:∀{a n:Nat}{l:List Line}{k:Nat}{x:Line},Js a l n->l[k]?=some x->k+1=l.length->x.first+x.count=n
 | a,n,[],k,x,h,hx,_=>by simp at hx
 | a,n,y::l,0,x,h,hx,hk=>by
  simp at hx;subst hx;have:l=[]:=List.length_eq_zero_iff.mp (by rw[y02] at hk;lia);subst this;have h2:a+y.count=n:=h.2.2;rw[h.1];exact h2
 | a,n,y::l,k+1,x,h,hx,hk=>ZdA h.2.2 (by simpa using hx) (by rw[y02] at hk;lia)
theorem Zdx:∀{a n:Nat}{l:List Line}{x:Line},Js a l n->l[0]?=some x->x.first=a
 | a,n,[],x,h,hx=>by simp at hx
 | a,n,y::l,x,h,hx=>by simp at hx;subst hx;exact h.1
theorem Zdz:∀{a n:Nat}{l:List Line}{k:Nat}{x y:Line},Js a l n->l[k]?=some y->l[k+1]?=some x->x.first=y.first+y.count
 | a,n,[],k,x,y,h,hx,_=>by simp at hx
 | a,n,z::l,0,x,y,h,hy,hx=>by
  simp at hy;subst hy;rw[h.1];exact Zdx h.2.2 (by simpa using hx)
 | a,n,z::l,k+1,x,y,h,hy,hx=>Zdz h.2.2 (by simpa using hy) (by simpa using hx)
theorem X7 {w:Work}(h:WOk w):(lnl w).length<=w.paras.flatten.length:=by
 have hc:=Ym h;cases z:(lnl w).length with
 | zero=>lia
 | succ m =>
  have hx:(lnl w)[m]?=some (lnl w)[m]:=y09 (by lia);have:=Wa hc hx;lia
theorem Zhl {α:Type}:∀(br:List Nat) (l:List α),(cut br l).length=br.length
 | [],l=>rfl
 | c::br,l=>by rw[cut,y02,y02,Zhl br]
theorem Zdk:∀(br:List Nat),(∀c∈br,1<=c)->br.length<=br.sum
 | [],h=>y0r _
 | c::br,h=>by
  have:=Zdk br (fun x hx=>h x (by simp[hx]));have:=h c (by simp);rw[y02,y06];lia
theorem ZcD (fr r:Nat)(xs:List Nat):(broken fr r xs).length<=xs.length:=by
 cases xs with
 | nil=>exact y0r _
 | cons x l =>
  have h1:=ZaL fr r (x::l) (by simp);have h2:=ZaM fr r (x::l) (by simp);have:=Zdk _ h2;lia
noncomputable def Yy (w:Work)(k:Nat):Nat:=((w.entries.filter fun e=>lineOf (lnl w) e.first==k).map fun e=>e.toks.length+2).sum
theorem Zi7:∀(es:List Entry) (f:Entry->Letters),es≠[]->1+(es.flatMap fun x=>f x::x.toks).length<=(es.map fun e=>e.toks.length+2).sum
 | [],f,h=>absurd rfl h
 | [e],f,h=>by simp;lia
 | e::e'::es,f,h=>by
  have:=Zi7 (e'::es) f (by simp);rw[y0m,y01,y05,y06,y02];lia
theorem Zmj (w:Work){k:Nat}(hk:k<(lnl w).length)(i:Nat):ownN (laid w) i k<=Yy w k:=by
 unfold ownN Laid.footOf;simp only[];rw[Zhl];refine y0q (ZcD _ _ _) ?_;rw[y03];unfold Laid.note;simp only[];rw[Xr w hk];unfold Yy;generalize (w.entries.filter fun e=>lineOf (lnl w) e.first==k)=es;cases es with
 | nil=>simp
 | cons e es =>
  rw[if_neg (by simp),y02];have:=Zi7 (e::es) ((laid w).key k) (by simp);lia
theorem Zlk (w:Work){k:Nat}(hk:¬ k<(lnl w).length)(i:Nat):ownN (laid w) i k=0:=by
 unfold ownN Laid.footOf Laid.note;have e:(laid w).entries.getD k []=[]:=by
  have hs:(laid w).entries.size=(lnl w).length:=by
   have:∀(xs:List Entry) (a:Array (List Entry)),(xs.foldl (fun(a:Array (List Entry)) (x:Entry)=>a.modify (lineOf (lnl w) x.first) fun(r:List Entry)=>r++[x]) a).size=a.size:=by
    intro xs
    induction xs with
    | nil=>intro a;rfl
    | cons x xs ih=>intro a;rw[List.foldl_cons,ih,Array.size_modify]
   have:=this w.entries (Array.replicate (lnl w).length []);rw[Array.size_replicate] at this;exact this
  rw[Array.getD_eq_getD_getElem?,Array.getElem?_eq_none (by lia)];rfl
 simp only[e];rfl
theorem ZfY (g m:Nat):∀n,((List.range n).map fun k=>if m==k then g else 0).sum<=g/\(n<=m->((List.range n).map fun k=>if m==k then g else 0).sum=0)
 | 0=>by simp
 | n+1=>by
  have ih:=ZfY g m n;rw[List.range_succ,y07,y0o];simp only[y05,List.map_nil,y06,List.sum_nil,Nat.add_zero];constructor
  ·by_cases z:m=n
   ·subst z;rw[if_pos (by simp),ih.2 (y0r _)];lia
   ·rw[if_neg (by simpa using z)];lia
  ·intro h;rw[ih.2 (by lia),if_neg (by simp;lia)]
theorem ZfZ (f g:Nat->Nat):∀(l:List Nat),(l.map fun k=>f k+g k).sum=(l.map f).sum+(l.map g).sum
 | []=>rfl
 | x::l=>by simp only[y05,y06];rw[ZfZ f g l];lia
theorem Zc6 (f:Entry->Nat)(g:Entry->Nat)(n:Nat):∀(es:List Entry),((List.range n).map fun k=>((es.filter fun e=>f e==k).map g).sum).sum<=(es.map g).sum
 | []=>by
  have:∀(l:List Nat),(l.map fun k=>(([]:List Entry).map g).sum).sum=0:=by
   intro l;induction l with
   | nil=>rfl
   | cons x l ih=>rw[y05,y06,ih];rfl
  have:=this (List.range n);simp only[List.filter_nil];lia
 | e::es=>by
  have ih:=Zc6 f g n es;have h1:=(ZfY (g e) (f e) n).1;have e1:((List.range n).map fun k=>(((e::es).filter fun e=>f e==k).map g).sum)=(List.range n).map fun k=>(if f e==k then g e else 0)+((es.filter fun e=>f e==k).map g).sum:=by
   apply List.map_congr_left;intro k _;rw[List.filter_cons];split
   ·rw[y05,y06]
   ·rw[Nat.zero_add]
  rw[e1,ZfZ,y05,y06];lia
theorem Y5 {w:Work}(h:WOk w):Fits (laid w) (Yy w):=by
 refine⟨fun i k=>?_,?_,?_⟩
 ·by_cases hk:k<(lnl w).length
  ·exact Zmj w hk i
  ·rw[Zlk w hk];exact y0u _
 ·have:=h.set;unfold Settings.ok inside at this;simp only[Bool.and_eq_true,decide_eq_true_eq] at this;exact this.2.1.1
 ·unfold Laid.most U6;rw[Y3,Z0];have:=Zc6 (fun e=>lineOf (lnl w) e.first) (fun e=>e.toks.length+2) (lnl w).length w.entries;simp only[Nat.sub_zero,Nat.zero_add];have e:((List.range (lnl w).length).map fun d=>Yy w d)=(List.range (lnl w).length).map fun k=>((w.entries.filter fun e=>lineOf (lnl w) e.first==k).map fun e=>e.toks.length+2).sum:=rfl
  rw[e];lia
theorem YT {s:Settings}(h:s.ok=true):20<=s.width/\s.width<=240/\6<=s.height/\s.height<=240/\1<=s.indent/\s.indent<=16/\1<=s.every/\s.every<=100/\s.anew<=1/\s.loose<=10000:=by
 unfold Settings.ok inside at h;simp only[Bool.and_eq_true,decide_eq_true_eq] at h;lia
theorem ZfS {w:Work}(h:WOk w):(w.entries.map fun e=>e.toks.length+2).sum<=65536+2 * 4096:=by
 have:∀(es:List Entry),(es.map fun e=>e.toks.length+2).sum=(es.map fun e=>e.toks.length).sum+2 * es.length:=by
  intro es
  induction es with
  | nil=>rfl
  | cons e es ih=>simp only[y05,y06,y02];lia
 have:=this w.entries;have:=h.toks;have:=h.nent;lia
noncomputable def V9 (w:Work)(l:Line):Nat:=takes (l.spots.map (wtkS w))
variable {L:Laid}{B:Nat->Nat}
theorem Ud (L:Laid)(i:Nat)(c:List (List Letters)):(ZH L i c).first=i:=by unfold ZH;split <;> rfl
theorem Xt {L:Laid}{i:Nat}{c:List (List Letters)}(hi:i<=L.lines.size):i+(ZH L i c).lines<=L.lines.size:=by
 unfold ZH;split
 ·rename_i h;have:=h.1;show i+1<=_;lia
 ·show i+0<=_;lia
theorem Zai {i k:Nat}{c:List (List Letters)}(h:i<=k)(hk:k<L.lines.size):meas L B (k+1) []<meas L B i c:=by
 unfold meas;have h1:U6 B L.lines.size (k+1)<=U6 B L.lines.size i:=by
  have:∀d,U6 B L.lines.size (i+d)<=U6 B L.lines.size i:=by
   intro d
   induction d with
   | zero=>exact y0r _
   | succ d ihd =>
    by_cases h:i+d<L.lines.size
    ·have:=Zav B h;rw[show i+(d+1)=i+d+1 by lia];lia
    ·rw[ZeR B (by lia)];lia
  have:=this (k+1-i);rw[show i+(k+1-i)=k+1 by lia] at this;exact this
 simp only[y04];lia
theorem Zdi {w:Work}(h:WOk w):meas (laid w) (Yy w) 0 []<=100000:=by
 have h1:=(Y5 h).most;unfold Laid.most at h1;rw[Y3,Z0] at h1;have h2:=ZfS h;have h3:=X7 h;have h4:=h.size;have h5:U6 (Yy w) (lnl w).length 0<=(w.entries.map fun(e:Entry)=>e.toks.length+2).sum+1:=by lia
 unfold meas;rw[Z0];simp only[y04];lia
theorem Zkz (hF:Fits L B):∀(m i:Nat) (c:List (List Letters)),meas L B i c=m->i<=L.lines.size->(best L B i c).2.length<=m:=by
 intro m
 induction m using Nat.strongRecOn with
 | _ m ih =>
  intro i c hm hi;by_cases hn:i<L.lines.size\/c≠[]
  ·by_cases hw:wl L i c=[]
   ·rw[Vi hF hw hn,y02];have h1:=W8 hF hi hw hn;have:=ih (meas L B (i+(ZH L i c).lines) (ZH L i c).on) (by lia) _ _ rfl (Xt (c:=c) hi);lia
   ·obtain⟨p,hp,_,hb⟩:=Uu hF hi hw;obtain⟨k,hk,hkn,rfl,_⟩:=Zeq L i c hi hp;have e:i+(whole L i c k).lines=k+1:=by show i+(k+1-i)=k+1;lia
    rw[hb,y02,e];have h1:=Zai (L:=L) (B:=B) (c:=c) hk hkn;have:=ih (meas L B (k+1) []) (by lia) _ _ rfl (by lia);lia
  ·have hc:c=[]:=Classical.byContradiction fun z=>hn (.inr z)
   subst hc;have hj:L.lines.size<=i:=Classical.byContradiction fun z=>hn (.inl (by lia))
   rw[Vj L B hj];exact y0u _
theorem ZeZ {w:Work}(h:WOk w):(laid w).pages.length<=100000:=by
 rw[Zax (Y5 h)];exact y0q (Zkz (Y5 h) _ _ _ rfl (y0u _)) (Zdi h)
end Vp
namespace Vp
open Vh VhPage
def flow (L:Laid):Nat->List (List Letters)->List Page->Prop
 | _,c,[]=>c=[]
 | i,c,p::r=>p.first=i/\p.foot++p.on=c++L.ownFoot i (i+p.lines)/\i+p.lines<=L.lines.size/\flow L (i+p.lines) p.on r
variable {L:Laid}{B:Nat->Nat}
theorem Zgt {i:Nat}{c:List (List Letters)}:(ZH L i c).foot++(ZH L i c).on=c++L.ownFoot i (i+(ZH L i c).lines):=by
 unfold ZH;split
 ·show(c++L.ownFoot i (i+1)).take (L.work.set.height-2)++(c++L.ownFoot i (i+1)).drop (L.work.set.height-2)=_;rw[List.take_append_drop];rfl
 ·show c.take (L.work.set.height-1)++c.drop (L.work.set.height-1)=c++L.ownFoot i (i+0);rw[List.take_append_drop,Nat.add_zero,Jb,y08]
theorem Zjm (hF:Fits L B):∀(m i:Nat) (c:List (List Letters)),meas L B i c=m->i<=L.lines.size->flow L i c (best L B i c).2:=by
 intro m
 induction m using Nat.strongRecOn with
 | _ m ih =>
  intro i c hm hi;by_cases hn:i<L.lines.size\/c≠[]
  ·by_cases hw:wl L i c=[]
   ·rw[Vi hF hw hn];have h1:=W8 hF hi hw hn;exact⟨Ud L i c,Zgt,Xt hi,ih (meas L B (i+(ZH L i c).lines) (ZH L i c).on) (by lia) _ _ rfl (Xt hi)⟩
   ·obtain⟨p,hp,_,hb⟩:=Uu hF hi hw;rw[hb];obtain⟨k,hk,hkn,rfl,_⟩:=Zeq L i c hi hp;have e:i+(whole L i c k).lines=k+1:=by show i+(k+1-i)=k+1;lia
    have h1:=Zai (L:=L) (B:=B) (c:=c) hk hkn;refine⟨rfl,?_,by lia,?_⟩
    ·rw[e];show c++L.ownFoot i (k+1)++[]=_;rw[y08]
    ·rw[e];exact ih (meas L B (k+1) []) (by lia) _ _ rfl (by lia)
  ·have hc:c=[]:=Classical.byContradiction fun z=>hn (.inr z)
   subst hc;have hj:L.lines.size<=i:=Classical.byContradiction fun z=>hn (.inl (by lia))
   rw[Vj L B hj];rfl
theorem Ur (hF:Fits L B):flow L 0 [] L.pages:=by
 rw[Zax hF];exact Zjm hF _ _ _ rfl (y0u _)
theorem ZO (x y:Letters):spelt (x++y)=spelt x++spelt y:=by unfold spelt;rw[List.flatMap_append]
theorem ZaK {c:Nat}(h:c<128):charOf c=[UInt8.ofNat c]:=ZmU h
theorem UV:∀(b:Bytes),(∀c∈b,c.toNat<128)->spelt (b.map fun(c:UInt8)=>c.toNat)=b
 | [],_=>rfl
 | c::b,h=>by
  have h1:=h c (by simp);have ih:=UV b (fun x hx=>h x (by simp[hx]));unfold spelt at *;rw[y05,y0m,ih,ZaK h1,Zk3];rfl
theorem Vb:∀(f n:Nat),∀c∈digitsIn f n,c.toNat<128
 | 0,n,c,h=>by simp[digitsIn] at h
 | f+1,n,c,h=>by
  have hd:(UInt8.ofNat (48+n % 10)).toNat<128:=by
   rw[UInt8.toNat_ofNat'];have:=Nat.mod_lt n (show 0<10 by decide);lia
  unfold digitsIn at h;rcases y0d.mp h with h | h
  ·split at h
   ·simp at h
   ·exact Vb f _ c h
  ·have:c=UInt8.ofNat (48+n % 10):=List.mem_singleton.mp h;rw[this];exact hd
theorem ZeD (n:Nat):spelt (num10 n)=decimal n:=UV _ (Vb _ _)
theorem Jy (n:Nat){c:Nat}(h:c<128):spelt (List.replicate n c)=List.replicate n (UInt8.ofNat c):=by
 induction n with
 | zero=>rfl
 | succ n ih =>
  rw[List.replicate_succ,List.replicate_succ];show charOf c++spelt (List.replicate n c)=_;rw[ih,ZaK h];rfl
theorem JA {c:Nat}(h:c<128)(r:Letters):spelt (c::r)=UInt8.ofNat c::spelt r:=by
 show charOf c++spelt r=_;rw[ZaK h];rfl
end Vp
namespace Vp
open Vh VhPage
noncomputable def jl (sep:Nat):List (List Nat)->List Nat
 | []=>[]
 | [x]=>x
 | x::y::r=>x++sep::jl sep (y::r)
theorem Zbz:∀xs:List Letters,spelt (jl 32 xs)=spaced (xs.map spelt)
 | []=>rfl
 | [x]=>rfl
 | x::y::r=>by
  have ih:=Zbz (y::r);show spelt (x++32::jl 32 (y::r))=spelt x++32::spaced ((y::r).map spelt);rw[ZO,JA (by decide),ih];rfl
theorem ZeG:∀xs:List Letters,spelt (jl 124 xs)=barred (xs.map spelt)
 | []=>rfl
 | [x]=>rfl
 | x::y::r=>by
  have ih:=ZeG (y::r);show spelt (x++124::jl 124 (y::r))=spelt x++124::barred ((y::r).map spelt);rw[ZO,JA (by decide),ih];rfl
theorem ZdJ {α:Type}(f:α->Letters):∀l:List α,spelt (l.flatMap f)=l.flatMap fun x=>spelt (f x)
 | []=>rfl
 | x::l=>by rw[y0m,y0m,ZO,ZdJ f l]
noncomputable def Zdu (every n:Nat):List Nat:=if n % every=0 then List.replicate (4-(num10 n).length) 32++num10 n else List.replicate 4 32
theorem Zf2 (every n:Nat):spelt (Zdu every n)=fieldOf every n:=by
 unfold Zdu fieldOf;split
 ·rw[ZO,Jy _ (by decide),ZeD];unfold num10 blanks;rw[y03];rfl
 ·rw[Jy _ (by decide)];rfl
noncomputable def Zhr (w:Work)(k:Nat):List Nat:=List.replicate (sgn w k).length 124++w.paras.flatten.getD k []
noncomputable def ZcY (w:Work)(f e:Nat):List (List Nat):=(List.range (e-f)).map fun d=>Zhr w (f+d)
noncomputable def Ws (w:Work)(f n:Nat):List (List Nat):=(List.range n).flatMap fun d=>(sgn w (f+d)).map (jl 32)
noncomputable def ZaW (w:Work)(f e:Nat):List Nat:=if (Ws w f (e-f)).length=0 then[] else[32,123]++jl 124 (Ws w f (e-f))++[125]
noncomputable def Zbu (w:Work)(f e:Nat)(o:Bool)(n:Nat):List Nat:=Zdu w.set.every n++[32]++List.replicate (if o=true then w.set.indent else 0) 32++jl 32 (ZcY w f e)++ZaW w f e++[10]
noncomputable def Uf (fl:List (List Nat)):List Nat:=if fl.length=0 then[] else[126,10]++fl.flatMap fun x=>32::x++[10]
theorem ZhB {w:Work}{k:Nat}(h:k<w.paras.flatten.length):spelt (Zhr w k)=(laid w).wordText k:=by
 unfold Zhr Laid.wordText;rw[ZO,Jy _ (by decide),ZaG w h,Ub];rfl
theorem Zf0 {w:Work}{x:Line}(hn:x.first+x.count<=w.paras.flatten.length):spelt (ZaW w x.first (x.first+x.count))=(laid w).signText x:=by
 have e0:x.first+x.count-x.first=x.count:=by lia
 have e1:(x.spots.flatMap fun(k:Nat)=>(laid w).signs.getD k [])=(List.range x.count).flatMap fun d=>sgn w (x.first+d):=by
  unfold Line.spots;rw[List.flatMap_map];have:∀l:List Nat,(∀d∈l,d<x.count)->(l.flatMap fun d=>(laid w).signs.getD (x.first+d) [])=l.flatMap fun d=>sgn w (x.first+d):=fun l=>by
   induction l with
   | nil=>intro _;rfl
   | cons d l ih =>
    intro hl;have hd:=hl d (by simp);rw[y0m,y0m,ZaG w (by lia),ih fun y hy=>hl y (by simp[hy])]
  exact this _ fun d hd=>List.mem_range.mp hd
 have e2:Ws w x.first x.count=((List.range x.count).flatMap fun d=>sgn w (x.first+d)).map (jl 32):=by
  unfold Ws;rw[List.map_flatMap]
 unfold ZaW Laid.signText;rw[e0,e1,e2,y03];dsimp only;generalize ((List.range x.count).flatMap fun d=>sgn w (x.first+d))=s;cases s with
 | nil=>rfl
 | cons y s =>
  rw[if_neg (by simp),if_neg (by simp)];show spelt ([32,123]++jl 124 ((y::s).map (jl 32))++[125])=_;rw[ZO,ZO,ZeG,List.map_map];have:(y::s).map (spelt ∘ jl 32)=(y::s).map spelled:=List.map_congr_left fun c _=>Zbz c
  rw[this];rfl
theorem ZhC {w:Work}{t:Nat}{x:Line}(hx:(lnl w)[t]?=some x)(hn:x.first+x.count<=w.paras.flatten.length)(n:Nat):spelt (Zbu w x.first (x.first+x.count) x.begins n)=(laid w).lineText t n:=by
 have e0:x.first+x.count-x.first=x.count:=by lia
 have e1:(ZcY w x.first (x.first+x.count)).map spelt=x.spots.map (laid w).wordText:=by
  unfold ZcY Line.spots;rw[e0,List.map_map,List.map_map];exact List.map_congr_left fun d hd=>ZhB (by have:=List.mem_range.mp hd;lia)
 unfold Zbu Laid.lineText;rw[X8 w hx];dsimp only;rw[ZO,ZO,ZO,ZO,ZO,Zf2,Jy _ (by decide),Zbz,e1,Zf0 hn];have e10:spelt [10]=[10]:=rfl;have e32:spelt [32]=[32]:=rfl;rw[e10,e32,Y3];unfold ended blanks;simp
theorem ZhE (fl:List (List Letters)):spelt (Uf (fl.map (jl 32)))=footText fl:=by
 unfold Uf footText;cases fl with
 | nil=>rfl
 | cons y s =>
  rw[if_neg (by simp),if_neg (by simp),ZO,List.flatMap_map,ZdJ];have e0:spelt [126,10]=ended [126]:=rfl;rw[e0];congr 1;have:∀l:List (List Letters),(l.flatMap fun x=>spelt (32::jl 32 x++[10]))=l.flatMap fun x=>ended (32::spelled x):=fun l=>by
   induction l with
   | nil=>rfl
   | cons z l ih =>
    rw[y0m,y0m,ih];congr 1;rw[ZO,JA (by decide),Zbz];rfl
  exact this _
noncomputable def ZF (k:Nat):List Nat:=61::(num10 k++[10])
noncomputable def YB (w:Work)(i n:Nat):List Nat:=(List.range n).flatMap fun d=>Zbu w ((laid w).line (i+d)).first (((laid w).line (i+d)).first+((laid w).line (i+d)).count) ((laid w).line (i+d)).begins ((laid w).numberOf i (i+d))
noncomputable def Zf9 (w:Work)(k:Nat)(p:Page):List Nat:=ZF k++(YB w p.first p.lines++Uf (p.foot.map (jl 32)))
noncomputable def V2 (w:Work):Nat->List Page->List Nat
 | _,[]=>[]
 | k,p::r=>Zf9 w k p++V2 w (k+1) r
theorem ZhD (k:Nat):spelt (ZF k)=ended (61::decimal k):=by
 unfold ZF;rw[JA (by decide),ZO,ZeD];rfl
theorem Zf1 {w:Work}(h:WOk w){i n:Nat}(hn:i+n<=(lnl w).length):spelt (YB w i n)=(List.range n).flatMap fun(d:Nat)=>(laid w).lineText (i+d) ((laid w).numberOf i (i+d)):=by
 unfold YB;rw[ZdJ];have:∀l:List Nat,(∀d∈l,d<n)->(l.flatMap fun d=>spelt (Zbu w ((laid w).line (i+d)).first (((laid w).line (i+d)).first+((laid w).line (i+d)).count) ((laid w).line (i+d)).begins ((laid w).numberOf i (i+d))))=l.flatMap fun(d:Nat)=>(laid w).lineText (i+d) ((laid w).numberOf i (i+d)):=fun l=>by
  induction l with
  | nil=>intro _;rfl
  | cons d l ih =>
   intro hl;have hd:=hl d (by simp);rw[y0m,y0m,ih fun y hy=>hl y (by simp[hy])];congr 1;have hx:(lnl w)[i+d]?=some (lnl w)[i+d]:=y09 (by lia);have hc:=Wa (Ym h) hx;rw[X8 w hx];exact ZhC hx (by lia) _
 exact this _ fun d hd=>List.mem_range.mp hd
theorem ZbP {w:Work}(h:WOk w):∀(ps:List Page) (k i:Nat) (c:List (List Letters)),flow (laid w) i c ps->spelt (V2 w k ps)=(laid w).pagesText k ps
 | [],_,_,_,_=>rfl
 | p::r,k,i,c,hf=>by
  obtain⟨h1,h2,h3,h4⟩:=hf;rw[Z0] at h3;show spelt (Zf9 w k p++V2 w (k+1) r)=(laid w).pageText k p++(laid w).pagesText (k+1) r;rw[ZO,ZbP h r (k+1) _ _ h4];congr 1;unfold Zf9 Laid.pageText;rw[ZO,ZO,ZhD,Zf1 h (by lia),ZhE]
noncomputable def YK (w:Work):List Nat:=(w.head.map fun(c:UInt8)=>c.toNat)++V2 w 1 (laid w).pages
theorem ZaO:∀l:List Bytes,(∀x∈l,∀c∈x,c.toNat<128)->∀c∈spaced l,c.toNat<128
 | [],_,c,hc=>by simp[spaced] at hc
 | [x],h,c,hc=>h x (by simp) c hc
 | x::y::r,h,c,hc=>by
  have hc:c∈x++32::spaced (y::r):=hc;rcases y0d.mp hc with z | z
  ·exact h x (by simp) c z
  ·rcases y0b.mp z with z | z
   ·rw[z];decide
   ·exact ZaO (y::r) (fun x hx=>h x (y0c _ hx)) c z
theorem Zeb (l:List Nat):∀c∈numbers l,c.toNat<128:=ZaO _ fun x hx c hc=>by
 obtain⟨n,_,rfl⟩:=y0k.mp hx;exact Vb _ _ c hc
theorem Zcx {a:UInt8}(ha:a.toNat<128)(l:List Nat):∀c∈ended (a::numbers l),c.toNat<128:=fun c hc=>by
 rcases y0d.mp hc with z | z
 ·rcases y0b.mp z with z | z
  ·rw[z];exact ha
  ·exact Zeb l c z
 ·rw[List.mem_singleton.mp z];decide
theorem Zdo (w:Work):∀c∈w.head,c.toNat<128:=fun c hc=>by
 rcases y0d.mp hc with z | z
 ·exact Zcx (by decide) _ c z
 ·obtain⟨x,_,hx⟩:=List.mem_flatMap.mp z;exact Zcx (by decide) _ c hx
theorem Jz {w:Work}(h:WOk w):spelt (YK w)=w.printed:=by
 unfold YK;rw[ZO,UV _ (Zdo w),ZbP h _ _ _ _ (Ur (Y5 h))];rfl
noncomputable def Sm (f:Nat->Nat)(i n:Nat):Nat:=((List.range n).map fun d=>f (i+d)).sum
theorem Zen (f:Nat->Nat)(i:Nat):Sm f i 0=0:=rfl
theorem XB (f:Nat->Nat)(i n:Nat):Sm f i (n+1)=Sm f i n+f (i+n):=by
 unfold Sm;rw[List.range_succ,y07,y0o];simp
theorem ZbG (f:Nat->Nat)(i a:Nat):∀b,Sm f i (a+b)=Sm f i a+Sm f (i+a) b
 | 0=>by rw[Nat.add_zero,Zen,Nat.add_zero]
 | b+1=>by rw[<- Nat.add_assoc,XB,XB,ZbG f i a b,Nat.add_assoc i a b];lia
theorem ZfJ (f g:Nat->Nat)(i:Nat):∀n,Sm (fun k=>f k+g k) i n=Sm f i n+Sm g i n
 | 0=>rfl
 | n+1=>by rw[XB,XB,XB,ZfJ f g i n];lia
theorem Zl2 {f g:Nat->Nat}{i:Nat}:∀{n:Nat},(∀d,d<n->f (i+d)<=g (i+d))->Sm f i n<=Sm g i n
 | 0,_=>y0r _
 | n+1,h=>by
  have ih:=Zl2 (n:=n) fun d hd=>h d (by lia)
  have:=h n (by lia);rw[XB,XB];lia
theorem Zhq (c i:Nat):∀n,Sm (fun _=>c) i n=n * c
 | 0=>by rw[Zen,Nat.zero_mul]
 | n+1=>by rw[XB,Zhq c i n,Nat.succ_mul]
theorem Zjq (c:Nat)(f:Nat->Nat)(i:Nat):∀n,Sm (fun k=>c * f k) i n=c * Sm f i n
 | 0=>by rw[Zen,Zen,Nat.mul_zero]
 | n+1=>by rw[XB,XB,Zjq c f i n,Nat.mul_add]
theorem ZkE {α:Type}(f:Nat->List α)(i:Nat):∀n,((List.range n).flatMap fun d=>f (i+d)).length=Sm (fun k=>(f k).length) i n
 | 0=>rfl
 | n+1=>by
  rw[List.range_succ,List.flatMap_append,y01,ZkE f i n,XB];simp
theorem sumF {α:Type}(f:α->Nat)(g:α->Nat)(n:Nat):∀(es:List α),((List.range n).map fun k=>((es.filter fun e=>f e==k).map g).sum).sum<=(es.map g).sum
 | []=>by
  have:∀(l:List Nat),(l.map fun k=>(([]:List α).map g).sum).sum=0:=by
   intro l;induction l with
   | nil=>rfl
   | cons x l ih=>rw[y05,y06,ih];rfl
  have:=this (List.range n);simp only[List.filter_nil];lia
 | e::es=>by
  have ih:=sumF f g n es;have h1:=(ZfY (g e) (f e) n).1;have e1:((List.range n).map fun k=>(((e::es).filter fun e=>f e==k).map g).sum)=(List.range n).map fun k=>(if f e==k then g e else 0)+((es.filter fun e=>f e==k).map g).sum:=by
   apply List.map_congr_left;intro k _;rw[List.filter_cons];split
   ·rw[y05,y06]
   ·rw[Nat.zero_add]
  rw[e1,ZfZ,y05,y06];lia
theorem Zfm (s:Nat):∀l:List (List Nat),(jl s l).length<=(l.map fun(x:List Nat)=>x.length+1).sum
 | []=>y0r _
 | [x]=>by simp[jl]
 | x::y::r=>by
  have ih:=Zfm s (y::r);show(x++s::jl s (y::r)).length<=_;rw[y01,y02,y05,y06];lia
theorem ZgK {α:Type}{f g:α->Nat}:∀{l:List α},(∀x∈l,f x<=g x)->(l.map f).sum<=(l.map g).sum
 | [],_=>y0r _
 | x::l,h=>by
  have ih:=ZgK (l:=l) fun y hy=>h y (y0c _ hy)
  have:=h x y0n;rw[y05,y05,y06,y06];lia
theorem Uq {α:Type}(c:Nat)(l:List α):(l.map fun _=>c).sum=l.length * c:=by
 induction l with
 | nil=>rw[List.map_nil,y04,Nat.zero_mul];rfl
 | cons x l ih=>rw[y05,y06,ih,y02,Nat.succ_mul];lia
theorem Zit {w:Work}{k:Nat}{s:List Letters}(h:s∈sgn w k):∃x∈w.signs,x.2=s:=by
 obtain⟨x,hx,e⟩:=y0k.mp h;exact⟨x,(List.mem_filter.mp hx).1,e⟩
theorem ZjD {w:Work}(h:WOk w){k:Nat}{s:List Letters}(hs:s∈sgn w k):(jl 32 s).length+1<=69:=by
 obtain⟨x,hx,rfl⟩:=Zit hs;obtain⟨_,_,h4,h5⟩:=h.sign x hx;have h1:=Zfm 32 x.2;have h2:=ZgK (l:=x.2) (f:=fun(y:List Nat)=>y.length+1) (g:=fun _=>17) fun y hy=>by have:=(h5 y hy).2.1;show y.length+1<=17;lia
 rw[Uq] at h2;lia
theorem ZgG {w:Work}(h:WOk w)(k:Nat):(w.paras.flatten.getD k []).length<=64:=by
 rw[List.getD_eq_getElem?_getD];cases e:w.paras.flatten[k]? with
 | none=>simp
 | some x =>
  have hm:=y0f e;obtain⟨q,hq,hx⟩:=List.mem_flatten.mp hm;exact((h.para q hq).2 x hx).2.1
noncomputable def Zbk (w:Work)(k:Nat):Nat:=65+70 * (sgn w k).length
theorem ZgF {w:Work}(h:WOk w)(f n:Nat):(jl 32 (ZcY w f (f+n))).length+(ZaW w f (f+n)).length<=Sm (Zbk w) f n+3:=by
 have e0:f+n-f=n:=by lia
 have h1:(jl 32 (ZcY w f (f+n))).length<=Sm (fun k=>(Zhr w k).length+1) f n:=by
  refine y0q (Zfm _ _) ?_;unfold ZcY;rw[e0,List.map_map];exact y0r _
 have h2:(ZaW w f (f+n)).length<=Sm (fun k=>69 * (sgn w k).length) f n+3:=by
  unfold ZaW;split
  ·simp
  ·rw[e0,y01,y01];have a1:=Zfm 124 (Ws w f n);have a2:((Ws w f n).map fun(x:List Nat)=>x.length+1).sum<=Sm (fun k=>69 * (sgn w k).length) f n:=by
    have b1:=ZgK (l:=Ws w f n) (f:=fun(x:List Nat)=>x.length+1) (g:=fun _=>69) fun y hy=>by
     obtain⟨d,_,hy⟩:=List.mem_flatMap.mp hy;obtain⟨s,hs,rfl⟩:=y0k.mp hy;exact ZjD h hs
    rw[Uq] at b1;have b2:(Ws w f n).length=Sm (fun k=>(sgn w k).length) f n:=by
     unfold Ws;rw[ZkE (fun k=>(sgn w k).map (jl 32)) f n];unfold Sm;simp
    rw[b2] at b1;rw[Zjq];lia
   simp only[y02,y04];lia
 have h3:Sm (fun k=>(Zhr w k).length+1) f n+Sm (fun k=>69 * (sgn w k).length) f n<=Sm (Zbk w) f n:=by
  rw[<- ZfJ];refine Zl2 fun d _=>?_
  have:=ZgG h (f+d);unfold Zhr Zbk;rw[y01,y0g];lia
 lia
theorem Zhg:∀(f n k:Nat),1<=k->n<10 ^ k->(digitsIn f n).length<=k
 | 0,_,_,_,_=>y0u _
 | f+1,n,k,hk,h=>by
  unfold digitsIn;rw[y01,List.length_singleton];split
  ·simp;lia
  ·rename_i hn;obtain⟨j,rfl⟩:∃j,k=j+1:=⟨k-1,by lia⟩
   have hj:1<=j:=by
    rcases Nat.eq_zero_or_pos j with z | z
    ·subst z;simp at h;lia
    ·exact z
   have:=Zhg f (n / 10) j hj (by rw[Nat.pow_succ] at h;exact Nat.div_lt_of_lt_mul (by rw[Nat.mul_comm];exact h));lia
theorem Us {n:Nat}(h:n<1000000):(num10 n).length<=6:=by
 unfold num10;rw[y03];exact Zhg _ _ _ (by decide) h
theorem Zi9 {e n:Nat}(h:n<1000000):(Zdu e n).length<=10:=by
 have:=Us h;unfold Zdu;split
 ·rw[y01,y0g];lia
 ·simp
theorem Zhj {α:Type}(f:α->Nat):∀(br:List Nat) (l:List α),((cut br l).map fun x=>(x.map f).sum).sum<=(l.map f).sum
 | [],l=>by rw[cut];exact y0u _
 | c::br,l=>by
  have ih:=Zhj f br (l.drop c);rw[cut,y05,y06];have e:(l.map f).sum=((l.take c).map f).sum+((l.drop c).map f).sum:=by rw[<- y0o,<- y07,List.take_append_drop]
  lia
theorem Zhk {α:Type}:∀{br:List Nat}{l:List α}{q:List α},q∈cut br l->∀w∈q,w∈l
 | [],l,q,h,_,_=>by simp[cut] at h
 | c::br,l,q,h,w,hw=>by
  rw[cut] at h;rcases y0b.mp h with z | z
  ·rw[z] at hw;exact List.mem_of_mem_take hw
  ·exact List.mem_of_mem_drop (Zhk z w hw)
noncomputable def Zab (fl:List (List Letters)):Nat:=(fl.map fun(x:List Letters)=>(jl 32 x).length+2).sum
theorem Zcw (x y:List (List Letters)):Zab (x++y)=Zab x+Zab y:=by unfold Zab;rw[y07,y0o]
theorem ZfX {α:Type}(f:α->Nat)(c:Nat)(l:List α):(l.map fun x=>f x+c).sum=(l.map f).sum+l.length * c:=by
 induction l with
 | nil=>simp
 | cons x l ih=>rw[y05,y06,ih,y05,y06,y02,Nat.succ_mul];lia
theorem ZlL (L:Laid)(t n:Nat):Zab (L.footOf t n)<=((L.note t n).map fun(x:Letters)=>x.length+3).sum:=by
 unfold Laid.footOf Zab;dsimp only;rw[ZfX,Zhl];have h1:=Zhj (fun(x:Letters)=>x.length+1) (broken L.work.set.width L.work.set.width ((L.note t n).map L.work.thingTakes)) (L.note t n);have h2:=ZgK (l:=cut (broken L.work.set.width L.work.set.width ((L.note t n).map L.work.thingTakes)) (L.note t n)) (f:=fun(x:List Letters)=>(jl 32 x).length) (g:=fun x=>(x.map fun(x:Letters)=>x.length+1).sum) fun x _=>Zfm 32 x
 have h3:=ZcD L.work.set.width L.work.set.width ((L.note t n).map L.work.thingTakes);rw[y03] at h3;have h4:=ZfX (fun(x:Letters)=>x.length+1) 2 (L.note t n);have h5:(fun(x:Letters)=>x.length+1+2)=fun(x:Letters)=>x.length+3:=rfl
 rw[h5] at h4;lia
theorem ZhV {w:Work}(h:WOk w){t:Nat}(ht:t<(lnl w).length):((laid w).line t).first+((laid w).line t).count<=8192:=by
 have hx:(lnl w)[t]?=some (lnl w)[t]:=y09 ht;have:=Wa (Ym h) hx;rw[X8 w hx];have:=h.size;lia
theorem Zhs {w:Work}{l:Line}(h:l.count<=8192)(k:Nat):((laid w).which l k).length<=7:=by
 unfold Laid.which;dsimp only;split
 ·simp
 ·have h1:∀(p:Nat->Bool) (q:Nat->Bool),(l.spots.filter q).findIdx p+1<1000000:=fun p q=>by
   have a1:(l.spots.filter q).findIdx p<=(l.spots.filter q).length:=List.findIdx_le_length;have a2:=List.length_filter_le q l.spots;have a3:l.spots.length=l.count:=by unfold Line.spots;simp
   lia
  rw[y02];have:=Us (h1 (fun d=>d==k) fun d=>(laid w).word d==(laid w).word k);lia
theorem Zfj {w:Work}(h:WOk w)(k:Nat):((laid w).word k).length<=64:=by rw[Ub];exact ZgG h k
theorem Zg8 {w:Work}(h:WOk w){t:Nat}(ht:t<(lnl w).length){e:Entry}(he:e∈w.entries):((laid w).key t e).length<=146:=by
 have h1:=ZhV h ht;have h2:=Zhs (w:=w) (l:=(laid w).line t) (by lia) e.first;have h3:=Zfj h e.first;have h4:=Zfj h (e.first+e.count-1);have h5:=h.ent e he;have h6:=h.size;have h7:=Us (n:=e.count) (by lia);unfold Laid.key;rw[y02,y01,y01,y01,List.length_singleton];have i1:(if e.count=0 then[43] else([]:Letters)).length<=1:=by split <;> simp
 have i2:(if e.first<(laid w).words.size then(laid w).word e.first++(laid w).which ((laid w).line t) e.first else[]).length<=71:=by
  split
  ·rw[y01];lia
  ·simp
 have i3:(if 2<=e.count then 126::(num10 e.count++126::(laid w).word (e.first+e.count-1)) else([]:Letters)).length<=72:=by
  split
  ·rw[y02,y01,y02];lia
  ·simp
 lia
noncomputable def entN (e:Entry):Nat:=160+(e.toks.map fun(x:Letters)=>x.length+3).sum
theorem Zlq {w:Work}(h:WOk w){t:Nat}(ht:t<(lnl w).length){n:Nat}(hn:n<1000000):(((laid w).note t n).map fun(x:Letters)=>x.length+3).sum<=((w.entries.filter fun e=>lineOf (lnl w) e.first==t).map entN).sum:=by
 unfold Laid.note;dsimp only;rw[Xr w ht];have hm:∀e∈w.entries.filter (fun e=>lineOf (lnl w) e.first==t),e∈w.entries:=fun e he=>(List.mem_filter.mp he).1
 generalize (w.entries.filter fun e=>lineOf (lnl w) e.first==t)=es at hm;cases es with
 | nil=>simp
 | cons e0 es =>
  rw[if_neg (by simp)];have key:∀l:List Entry,(∀e∈l,e∈w.entries)->((l.flatMap fun(x:Entry)=>(laid w).key t x::x.toks).map fun(x:Letters)=>x.length+3).sum+l.length * 11<=(l.map entN).sum:=fun l=>by
   induction l with
   | nil=>intro _;simp
   | cons e l ih =>
    intro hl;have i1:=ih fun x hx=>hl x (y0c _ hx)
    have i2:=Zg8 h ht (hl e y0n);rw[y0m,y07,y0o,y05,y06,y05,y06,y02,Nat.succ_mul];unfold entN at *;lia
  have k1:=key (e0::es) hm;have k2:=Us hn;rw[y05,y06,y02];rw[y02] at k1;lia
theorem Zkk (fl:List (List Letters)):(Uf (fl.map (jl 32))).length<=2+Zab fl:=by
 unfold Uf;split
 ·simp
 ·rw[y01,List.flatMap_map];have:∀l:List (List Letters),(l.flatMap fun x=>32::jl 32 x++[10]).length=Zab l:=fun l=>by
   unfold Zab
   induction l with
   | nil=>rfl
   | cons z l ih=>rw[y0m,y01,ih,y05,y06];simp
  rw[this];simp only[y02,y04];lia
noncomputable def Zfh (w:Work)(t:Nat):Nat:=31+Sm (Zbk w) ((laid w).line t).first ((laid w).line t).count
noncomputable def Zfe (w:Work)(t:Nat):Nat:=((w.entries.filter fun e=>lineOf (lnl w) e.first==t).map entN).sum
theorem UQ {w:Work}{i t:Nat}(h:t<100000):(laid w).numberOf i t<1000000:=by
 unfold Laid.numberOf;split <;> lia
theorem Zj8 {w:Work}(h:WOk w){i n:Nat}(hn:i+n<=(lnl w).length):(YB w i n).length<=Sm (Zfh w) i n:=by
 have hl:=X7 h;have hs:=h.size;have hb:=YT h.set;unfold YB;rw[ZkE (fun t=>Zbu w ((laid w).line t).first (((laid w).line t).first+((laid w).line t).count) ((laid w).line t).begins ((laid w).numberOf i t)) i n];refine Zl2 fun d hd=>?_
 have h1:=ZgF h ((laid w).line (i+d)).first ((laid w).line (i+d)).count;have h2:=Zi9 (e:=w.set.every) (UQ (w:=w) (i:=i) (t:=i+d) (by lia));unfold Zbu Zfh;rw[y01,y01,y01,y01,y01,y0g];simp only[List.length_singleton];have h3:(if ((laid w).line (i+d)).begins=true then w.set.indent else 0)<=16:=by split <;> lia
 lia
theorem ZjP {w:Work}(h:WOk w){i n:Nat}(hn:i+n<=(lnl w).length):Zab ((laid w).ownFoot i (i+n))<=Sm (Zfe w) i n:=by
 have hl:=X7 h;have hs:=h.size;unfold Laid.ownFoot;have e0:i+n-i=n:=by lia
 rw[e0];have:∀m,m<=n->Zab ((List.range m).flatMap fun(d:Nat)=>(laid w).footOf (i+d) ((laid w).numberOf i (i+d)))<=Sm (Zfe w) i m:=fun m=>by
  induction m with
  | zero=>intro _;exact y0r _
  | succ m ih =>
   intro hm;have i1:=ih (by lia);have i2:=ZlL (laid w) (i+m) ((laid w).numberOf i (i+m));have i3:=Zlq h (t:=i+m) (by lia) (UQ (w:=w) (i:=i) (t:=i+m) (by lia));rw[List.range_succ,List.flatMap_append,Zcw,XB];have e1:([m].flatMap fun(d:Nat)=>(laid w).footOf (i+d) ((laid w).numberOf i (i+d)))=(laid w).footOf (i+m) ((laid w).numberOf i (i+m)):=by simp
   rw[e1];unfold Zfe at *;lia
 exact this n (y0r _)
theorem ZgW {w:Work}(h:WOk w):∀(ps:List Page) (k i:Nat) (c:List (List Letters)),flow (laid w) i c ps->i<=(lnl w).length->k+ps.length<=1000000->(V2 w k ps).length<=ps.length * 10+Zab c+Sm (fun t=>Zfh w t+Zfe w t) i ((lnl w).length-i)
 | [],_,_,_,_,_,_=>y0u _
 | p::r,k,i,c,hf,hi,hk=>by
  obtain⟨h1,h2,h3,h4⟩:=hf;rw[Z0] at h3;subst h1;rw[y02] at hk;have ih:=ZgW h r (k+1) _ _ h4 h3 (by lia);have a1:=Zj8 h h3;have a2:=ZjP h h3;have a3:=Zkk p.foot;have a4:=congrArg Zab h2;rw[Zcw,Zcw] at a4;have a5:(ZF k).length<=8:=by
   have:=Us (n:=k) (by lia);unfold ZF;rw[y02,y01,List.length_singleton];lia
  have e1:(lnl w).length-p.first=p.lines+((lnl w).length-(p.first+p.lines)):=by lia
  have e2:=ZbG (fun t=>Zfh w t+Zfe w t) p.first p.lines ((lnl w).length-(p.first+p.lines));have e3:=ZfJ (Zfh w) (Zfe w) p.first p.lines;show(Zf9 w k p++V2 w (k+1) r).length<=_;unfold Zf9;rw[y01,y01,y01,y02,e1,e2,e3,Nat.succ_mul];lia
theorem Zfz (g:Nat->Nat):∀{a n:Nat}{l:List Line},Js a l n->(l.map fun x=>Sm g x.first x.count).sum=Sm g a (n-a)
 | a,n,[],h=>by
  have h:a=n:=h;rw[h,Nat.sub_self];rfl
 | a,n,x::l,h=>by
  have hl:=Zad h;obtain⟨h1,h2,h3⟩:=h;have ih:=Zfz g h3;have hl3:=Zad h3;have e:n-a=x.count+(n-(a+x.count)):=by lia
  rw[y05,y06,ih,h1,e,ZbG]
theorem Zix {α:Type}(F:Nat->Nat)(f:α->Nat)(l:List α)(h:∀(d:Nat) (x:α),l[d]?=some x->F d=f x):Sm F 0 l.length=(l.map f).sum:=by
 unfold Sm;congr 1;apply List.ext_getElem?;intro j;rw[y0l,y0l];by_cases hj:j<l.length
 ·rw[List.getElem?_range hj,y09 hj];show some (F (0+j))=_;rw[Nat.zero_add,h j l[j] (y09 hj)];rfl
 ·rw[y0p (by simp;lia),y0p (by lia)];rfl
theorem Zc9:∀(x:Bytes) (l:List Bytes),(spaced (x::l)).length=x.length+(l.map fun(y:Bytes)=>y.length+1).sum
 | x,[]=>by simp[spaced]
 | x,y::r=>by
  show(x++32::spaced (y::r)).length=_;rw[y01,y02,Zc9 y r,y05,y06];lia
theorem ZeH:∀l:List Nat,l.length<=(spelt l).length
 | []=>y0r _
 | c::l=>by
  have:=ZeH l;show _<=(charOf c++spelt l).length;have:1<=(charOf c).length:=by unfold charOf;(repeat' split) <;> simp
  rw[y01,y02];lia
theorem Zig (w:Work)(h:WOk w):(w.entries.map entN).sum<=w.entries.length * 160+2 * w.text.length:=by
 have key:∀l:List Entry,(∀e∈l,e∈w.entries)->(l.map entN).sum<=l.length * 160+2 * (l.flatMap fun(e:Entry)=>ended (91::spaced (decimal e.first::(decimal e.count::e.toks.map spelt)))).length:=fun l=>by
  induction l with
  | nil=>intro _;exact y0r _
  | cons e l ih =>
   intro hl;have i1:=ih fun x hx=>hl x (y0c _ hx)
   have i2:=(h.ent e (hl e y0n)).2.2.2;have i3:(e.toks.map fun(x:Letters)=>x.length+3).sum<=2 * ((e.toks.map spelt).map fun(y:Bytes)=>y.length+1).sum:=by
    have:∀ts:List Letters,(∀y∈ts,ThOk 64 y)->(ts.map fun(x:Letters)=>x.length+3).sum<=2 * ((ts.map spelt).map fun(y:Bytes)=>y.length+1).sum:=fun ts=>by
     induction ts with
     | nil=>intro _;exact y0r _
     | cons t ts ih2 =>
      intro ht;have j1:=ih2 fun y hy=>ht y (y0c _ hy)
      have j2:=ZeH t;have j3:1<=t.length:=by
       have:=(ht t y0n).1;cases t with | nil=>exact absurd rfl this | cons _ _=>simp
      rw[y05,y05,y05,y06,y06];lia
    exact this _ i2
   rw[y05,y06,y0m,y01,y02,Nat.succ_mul];have i4:((e.toks.map spelt).map fun(y:Bytes)=>y.length+1).sum<=(ended (91::spaced (decimal e.first::(decimal e.count::e.toks.map spelt)))).length:=by
    unfold ended;rw[y01,y02,Zc9,y05,y06];lia
   unfold entN at *;lia
 have k1:=key w.entries fun e he=>he
 have k2:w.text.length=w.head.length+((w.paras.flatMap (fun(p:List Letters)=>ended (62::spelled p))).length+((w.signs.flatMap (fun(x:Nat×List Letters)=>ended (123::spaced (decimal x.1::x.2.map spelt)))).length +
   (w.entries.flatMap fun(e:Entry)=>ended (91::spaced (decimal e.first::(decimal e.count::e.toks.map spelt)))).length)):=by
  unfold Work.text;rw[y01,y01,y01]
 lia
theorem ZdX {w:Work}(h:WOk w)(ht:w.text.length<=16384):(YK w).length<=4000000/\w.head.length<=16384:=by
 have hl:=X7 h;have hs:=h.size;have hF:=Y5 h;have hp:=ZeZ h;have a1:=ZgW h (laid w).pages 1 0 [] (Ur hF) (y0u _) (by lia);rw[Nat.sub_zero,ZfJ] at a1;have a2:Sm (Zfh w) 0 (lnl w).length=(lnl w).length * 31+Sm (Zbk w) 0 w.paras.flatten.length:=by
  have e1:=Zix (Zfh w) (fun x=>31+Sm (Zbk w) x.first x.count) (lnl w) fun d x hx=>by unfold Zfh;rw[X8 w hx]
  have e2:=Zfz (Zbk w) (Ym h);have e3:=ZfX (fun(x:Line)=>Sm (Zbk w) x.first x.count) 31 (lnl w);have e4:(fun(x:Line)=>Sm (Zbk w) x.first x.count+31)=fun(x:Line)=>31+Sm (Zbk w) x.first x.count:=by funext x;lia
  rw[e4] at e3;rw[e1,e3,e2,Nat.sub_zero];lia
 have a3:Sm (Zbk w) 0 w.paras.flatten.length<=w.paras.flatten.length * 65+70 * w.signs.length:=by
  have e1:Sm (Zbk w) 0 w.paras.flatten.length=Sm (fun _=>65) 0 w.paras.flatten.length+Sm (fun k=>70 * (sgn w k).length) 0 w.paras.flatten.length:=ZfJ (fun _=>65) (fun k=>70 * (sgn w k).length) 0 _;have e2:=sumF (fun(x:Nat×List Letters)=>x.1) (fun _=>1) w.paras.flatten.length w.signs;rw[Uq] at e2;have e3:Sm (fun k=>(sgn w k).length) 0 w.paras.flatten.length<=w.signs.length:=by
   have:Sm (fun k=>(sgn w k).length) 0 w.paras.flatten.length=((List.range w.paras.flatten.length).map fun k=>((w.signs.filter fun e=>e.1==k).map fun _=>1).sum).sum:=by
    unfold Sm;congr 1;apply List.map_congr_left;intro k _;rw[Uq,Nat.zero_add];show((w.signs.filter fun x=>x.1==k).map (·.2)).length=_;rw[y03];lia
   rw[this];lia
  rw[e1,Zhq,Zjq];lia
 have a4:Sm (Zfe w) 0 (lnl w).length<=(w.entries.map entN).sum:=by
  have e2:=sumF (fun(e:Entry)=>lineOf (lnl w) e.first) entN (lnl w).length w.entries;have:Sm (Zfe w) 0 (lnl w).length=((List.range (lnl w).length).map fun k=>((w.entries.filter fun e=>lineOf (lnl w) e.first==k).map entN).sum).sum:=by
   unfold Sm;congr 1;apply List.map_congr_left;intro k _;rw[Nat.zero_add];rfl
  rw[this];exact e2
 have a5:=Zig w h;have a6:=h.nent;have a7:=h.nsigns;have a8:w.head.length<=w.text.length:=by unfold Work.text;rw[y01];lia
 have a9:Zab []=0:=rfl;unfold YK;rw[y01,y03];lia
theorem ChOk.app {x y:Letters}(h1:ChOk x)(h2:ChOk y):ChOk (x++y):=fun c hc=>(y0d.mp hc).elim (h1 c) (h2 c)
theorem ChOk.nil:ChOk []:=fun c hc=>by simp at hc
theorem ChOk.fm {α:Type}{f:α->Letters}{l:List α}(h:∀x∈l,ChOk (f x)):ChOk (l.flatMap f):=fun c hc=>by
 obtain⟨x,hx,hc⟩:=List.mem_flatMap.mp hc;exact h x hx c hc
theorem ChOk.rep {n c:Nat}(h:c<0x110000):ChOk (List.replicate n c):=fun x hx=>by rw[List.eq_of_mem_replicate hx];exact h
theorem ChOk.num (n:Nat):ChOk (num10 n):=fun c hc=>by
 obtain⟨b,hb,rfl⟩:=y0k.mp hc;have:=Vb _ _ b hb;show b.toNat<0x110000;lia
theorem ChOk.jl {s:Nat}(hs:s<0x110000):∀{xs:List Letters},(∀x∈xs,ChOk x)->ChOk (Vp.jl s xs)
 | [],_=>ChOk.nil
 | [x],h=>h x (by simp)
 | x::y::r,h=>(h x (by simp)).app (ChOk.cons hs (ChOk.jl hs (xs:=y::r) fun w hw=>h w (y0c _ hw)))
theorem ZfM {w:Work}(h:WOk w)(k:Nat):ChOk (w.paras.flatten.getD k []):=by
 rw[List.getD_eq_getElem?_getD];cases e:w.paras.flatten[k]? with
 | none=>exact ChOk.nil
 | some x =>
  obtain⟨q,hq,hx⟩:=List.mem_flatten.mp (y0f e);exact((h.para q hq).2 x hx).2.2
theorem Zlx {w:Work}(h:WOk w)(f e:Nat)(o:Bool)(n:Nat):ChOk (Zbu w f e o n):=by
 unfold Zbu;refine(((((?_:ChOk _).app (ChOk.cons (by decide) ChOk.nil)).app (ChOk.rep (by decide))).app (ChOk.jl (by decide) fun x hx=>?_)).app ?_).app (ChOk.cons (by decide) ChOk.nil)
 ·unfold Zdu;split
  ·exact(ChOk.rep (by decide)).app (ChOk.num n)
  ·exact ChOk.rep (by decide)
 ·obtain⟨d,_,rfl⟩:=y0k.mp hx;exact(ChOk.rep (by decide)).app (ZfM h _)
 ·unfold ZaW;split
  ·exact ChOk.nil
  ·refine((ChOk.cons (by decide) (ChOk.cons (by decide) ChOk.nil)).app (ChOk.jl (by decide) fun x hx=>?_)).app (ChOk.cons (by decide) ChOk.nil);obtain⟨d,_,hx2⟩:=List.mem_flatMap.mp hx;obtain⟨s,hs,rfl⟩:=y0k.mp hx2;obtain⟨y,hy3,rfl⟩:=Zit hs;exact ChOk.jl (by decide) fun z hz=>((h.sign y hy3).2.2.2 z hz).2.2
def FtOk (x:List Letters):Prop:=∀th∈x,ChOk th
theorem Zgx (w:Work){k:Nat}(hk:¬ k<(lnl w).length):(laid w).entries.getD k []=[]:=by
 have hs:(laid w).entries.size=(lnl w).length:=by
  have:∀(xs:List Entry) (a:Array (List Entry)),(xs.foldl (fun(a:Array (List Entry)) (x:Entry)=>a.modify (lineOf (lnl w) x.first) fun(r:List Entry)=>r++[x]) a).size=a.size:=by
   intro xs
   induction xs with
   | nil=>intro a;rfl
   | cons x xs ih=>intro a;rw[List.foldl_cons,ih,Array.size_modify]
  have:=this w.entries (Array.replicate (lnl w).length []);rw[Array.size_replicate] at this;exact this
 rw[Array.getD_eq_getD_getElem?,Array.getElem?_eq_none (by lia)];rfl
theorem ZlM {w:Work}(h:WOk w)(t n:Nat):∀x∈(laid w).footOf t n,FtOk x:=by
 intro x hx th hth;have hm:th∈(laid w).note t n:=Zhk hx th hth;unfold Laid.note at hm;dsimp only at hm;have hes:∀e∈(laid w).entries.getD t [],e∈w.entries:=fun e he=>by
  by_cases ht:t<(lnl w).length
  ·rw[Xr w ht] at he;exact(List.mem_filter.mp he).1
  ·rw[Zgx w ht] at he;simp at he
 generalize (laid w).entries.getD t []=es at hm hes;cases es with
 | nil=>simp at hm
 | cons e0 es =>
  rw[if_neg (by simp)] at hm;rcases y0b.mp hm with z | z
  ·rw[z];exact ChOk.cons (by decide) (ChOk.num n)
  ·obtain⟨e,he,hz⟩:=List.mem_flatMap.mp z;have hw:=hes e he;rcases y0b.mp hz with y | y
   ·rw[y];unfold Laid.key;refine ChOk.cons (by decide) (ChOk.app ?_ (ChOk.app ?_ (ChOk.app ?_ (ChOk.cons (by decide) ChOk.nil))))
    ·split
     ·exact ChOk.cons (by decide) ChOk.nil
     ·exact ChOk.nil
    ·split
     ·refine ChOk.app (by rw[Ub];exact ZfM h _) ?_;unfold Laid.which;dsimp only;split
      ·exact ChOk.nil
      ·exact ChOk.cons (by decide) (ChOk.num _)
     ·exact ChOk.nil
    ·split
     ·exact ChOk.cons (by decide) (ChOk.app (ChOk.num _) (ChOk.cons (by decide) (by rw[Ub];exact ZfM h _)))
     ·exact ChOk.nil
   ·exact((h.ent e hw).2.2.2 th y).2.2
theorem ZgX {w:Work}(h:WOk w):∀(ps:List Page) (k i:Nat) (c:List (List Letters)),flow (laid w) i c ps->(∀x∈c,FtOk x)->ChOk (V2 w k ps)
 | [],_,_,_,_,_=>ChOk.nil
 | p::r,k,i,c,hf,hc=>by
  obtain⟨h1,h2,h3,h4⟩:=hf;have hall:∀x∈p.foot++p.on,FtOk x:=fun x hx=>by
   rw[h2] at hx;rcases y0d.mp hx with z | z
   ·exact hc x z
   ·obtain⟨d,_,hz⟩:=List.mem_flatMap.mp z;exact ZlM h _ _ x hz
  refine ChOk.app (ChOk.app ?_ (ChOk.app (ChOk.fm fun d _=>Zlx h _ _ _ _) ?_)) (ZgX h r (k+1) _ _ h4 fun x hx=>hall x (List.mem_append_right _ hx))
  ·exact ChOk.cons (by decide) ((ChOk.num k).app (ChOk.cons (by decide) ChOk.nil))
  ·unfold Uf;split
   ·exact ChOk.nil
   ·refine(ChOk.cons (by decide) (ChOk.cons (by decide) ChOk.nil)).app (ChOk.fm fun x hx=>?_);obtain⟨y,hy,rfl⟩:=y0k.mp hx;exact(ChOk.cons (by decide) (ChOk.jl (by decide) (hall y (List.mem_append_left _ hy)))).app (ChOk.cons (by decide) ChOk.nil)
theorem ZhJ {w:Work}(h:WOk w):ChOk (YK w):=by
 refine ChOk.app (fun c hc=>?_) (ZgX h _ _ _ _ (Ur (Y5 h)) fun x hx=>by simp at hx);obtain⟨b,hb,rfl⟩:=y0k.mp hc;have:=Zdo w b hb;show b.toNat<0x110000;lia
end Vp
set_option maxRecDepth 100000
namespace Vp
open PySem PySem.Spec PyProof.Rows L2
noncomputable def top (i:Nat):Stmt:=PySem.Challenge.pw_vellumpages_s02_pages.main.body.getD i (.Pass ⟨0,0,0,0⟩)
noncomputable def stI (l:List Stmt)(i:Nat):Stmt:=l.getD i (.Pass ⟨0,0,0,0⟩)
noncomputable def noEx:Expr:=.Constant .none 0 ⟨0,0,0,0⟩
noncomputable def Zbl:Stmt->Expr
 | .Assign _ v _=>v
 | .Return (some v) _=>v
 | .Expr v _=>v
 | .AugAssign _ _ v _=>v
 | _=>noEx
noncomputable def Zl9:Stmt->List Stmt
 | .If _ b _ _=>b
 | .While _ b _ _=>b
 | .For _ _ b _ _=>b
 | .Try b _ _ _ _=>b
 | _=>[]
noncomputable def Zkm (e:Expr)(i:Nat):Expr:=match e with
 | .Call _ as _ _=>as.getD i noEx
 | _=>noEx
noncomputable def exL:Expr->Expr
 | .BinOp a _ _ _=>a
 | _=>noEx
noncomputable def exR:Expr->Expr
 | .BinOp _ _ b _=>b
 | _=>noEx
noncomputable def lcSc:Expr->Scope
 | .ListComp _ _ sc _=>sc
 | _=>{ kind:=.function,names:=[],isGenerator:=false,isCoroutine:=false }
abbrev WT:=Nat->L2.St->Hp->Prop
def BdT (K:Frag)(ab:Addr)(bds:List (Nat×Nat)):Prop:=∃vs,(∀H,SqT K H ab vs)/\Paired (fun(x:Nat×Nat) v=>∃b,v=.ref b/\(∀H,SqT K H b [.int (x.1:Int),.int (x.2:Int)])/\x.2<10 ^ 11) bds vs
theorem ZdQ {i j:Int}:scal (.int i) (.int j)=true:=rfl
theorem ZdN {i j:Str}:scal (.str i) (.str j)=true:=rfl
theorem ZdR {i j:Bool}:scal (.bl i) (.bl j)=true:=rfl
theorem ZdO:scal .non .non=true:=rfl
theorem ZdP {i:Int}:scal (.int i) .non=true:=rfl
structure Ad where
 CE:Addr
 CR:Addr
 CW:Addr
 CL:Addr
 CN:Addr
 CP:Addr
 aMARKS:Addr
 aENDS:Addr
 aSETTING_BOUNDS:Addr
 aCARET:Addr
 F_read_work:Addr
 PT:Addr
structure Txt (K:Frag)(mg:Str->Option Value)(a:Ad):Prop where
 exc:Exc K mg "NoText" a.CE
 clReader:Cls K a.CR
 n_t:ZC K a.CR "t"
 n_at:ZC K a.CR "at"
 clWork:Cls K a.CW
 n_width:ZC K a.CW "width"
 n_height:ZC K a.CW "height"
 n_indent:ZC K a.CW "indent"
 n_every:ZC K a.CW "every"
 n_anew:ZC K a.CW "anew"
 n_loose:ZC K a.CW "loose"
 n_rows:ZC K a.CW "rows"
 n_head:ZC K a.CW "head"
 n_paragraphs:ZC K a.CW "paragraphs"
 n_words:ZC K a.CW "words"
 n_signs:ZC K a.CW "signs"
 n_entries:ZC K a.CW "entries"
 clLine:Cls K a.CL
 nL_first:ZC K a.CL "first"
 nL_end:ZC K a.CL "end"
 nL_opens:ZC K a.CL "opens"
 nL_closes:ZC K a.CL "closes"
 nL_taken:ZC K a.CL "taken"
 nL_note:ZC K a.CL "note"
 clNote:Cls K a.CN
 nN_things:ZC K a.CN "things"
 nN_takes:ZC K a.CN "takes"
 nN_tails:ZC K a.CN "tails"
 clPage:Cls K a.CP
 nP_kind:ZC K a.CP "kind"
 nP_first:ZC K a.CP "first"
 nP_end:ZC K a.CP "end"
 nP_came:ZC K a.CP "came"
 nP_own:ZC K a.CP "own"
 nP_rest:ZC K a.CP "rest"
 nP_cost:ZC K a.CP "cost"
 nl:∀b o,K.lookup b=some o->o.cls≠.type "list"
 len:mg "len"=none
 ord:mg "ord"=none
 min:mg "min"=none
 max:mg "max"=none
 range:mg "range"=none
 enumerate:mg "enumerate"=none
 str:mg "str"=none
 list:mg "list"=none
 sum:mg "sum"=none
 cBLANK:∃u,mg "BLANK"=some (.int 32 u)
 cSTROKE:∃u,mg "STROKE"=some (.int 124 u)
 cFIRST_LETTER:∃u,mg "FIRST_LETTER"=some (.int 33 u)
 cLAST_CHARACTER:∃u,mg "LAST_CHARACTER"=some (.int 1114111 u)
 cMOST_LETTERS:∃u,mg "MOST_LETTERS"=some (.int 64 u)
 cWHOLE:∃u,mg "WHOLE"=some (.int 0 u)
 cCUT:∃u,mg "CUT"=some (.int 1 u)
 cFOOT_ALONE:∃u,mg "FOOT_ALONE"=some (.int 2 u)
 cNO_BYTE:∃u,mg "NO_BYTE"=some (.int 256 u)
 cMOST_ROWS:∃u,mg "MOST_ROWS"=some (.int 64 u)
 cMOST_PARAGRAPHS:∃u,mg "MOST_PARAGRAPHS"=some (.int 4096 u)
 cMOST_WORDS:∃u,mg "MOST_WORDS"=some (.int 8192 u)
 cMOST_SIGNS:∃u,mg "MOST_SIGNS"=some (.int 4096 u)
 cMOST_ENTRIES:∃u,mg "MOST_ENTRIES"=some (.int 4096 u)
 cMOST_TOKENS:∃u,mg "MOST_TOKENS"=some (.int 65536 u)
 cMOST_TOKENS_OF_ENTRY:∃u,mg "MOST_TOKENS_OF_ENTRY"=some (.int 1024 u)
 cMOST_SIGN_THINGS:∃u,mg "MOST_SIGN_THINGS"=some (.int 4 u)
 cMOST_SIGN_CHARACTERS:∃u,mg "MOST_SIGN_CHARACTERS"=some (.int 16 u)
 cMOST_TEXT_BYTES:∃u,mg "MOST_TEXT_BYTES"=some (.int 1048576 u)
 cMOST_PRINTED_BYTES:∃u,mg "MOST_PRINTED_BYTES"=some (.int 16777216 u)
 f_read_work:mg "read_work"=some (.ref a.F_read_work)
 cMARKS:mg "MARKS"=some (.ref a.aMARKS)
 tMARKS:∀H,SqT K H a.aMARKS (X6.map V.int)
 cENDS:mg "ENDS"=some (.ref a.aENDS)
 tENDS:∀H,SqT K H a.aENDS [V.int 32,V.int 10]
 cSETTING_BOUNDS:mg "SETTING_BOUNDS"=some (.ref a.aSETTING_BOUNDS)
 tSETTING_BOUNDS:BdT K a.aSETTING_BOUNDS [(20,240),(6,240),(1,16),(1,100),(0,1),(0,10000)]
 cCARET:mg "CARET"=some (.ref a.aCARET)
 tCARET:∀H,SqT K H a.aCARET [V.int 94]
end Vp
set_option maxHeartbeats 4000000
namespace Vp
open PySem PySem.Spec PyProof.Rows L2
def zzn (s:String):=((s.splitOn " ").map fun s=>Lean.mkIdent s.toName).toArray
def zzs (s:String):Lean.MacroM (Array (Lean.TSyntax `Lean.Parser.Tactic.simpLemma)):=(zzn s).mapM fun x=>`(Lean.Parser.Tactic.simpLemma| $x:ident)
def zzk (f s:String):Lean.MacroM (Lean.TSyntax `tactic):=do let a:=zzn s;let b<-a.mapM fun x=>`(?$x);`(tactic| (refine' $(Lean.mkIdent f.toName) $b*;$[(case $a:ident=>k_is)];*))
def zzr (s:String):Lean.MacroM (Lean.TSyntax `tactic):=do let a<-zzs s;`(tactic| ((try dsimp only[$a,*,↓reduceIte]);(try simp only[$a,*,↓reduceIte])))
def zzw (s:String):Lean.MacroM (Lean.TSyntax `tactic):=do let a:=((s.splitOn " ").map fun s=>Lean.Syntax.mkStrLit s).toArray;`(tactic| repeat (first $[| walk_at $a:str]*))
def zza:="tSeq tIfS tOr tAnd tNot ZfW tB tOp rI0 rI tVar tC Zc5 tRet Zjz Zhx Zhy tAsg VB rEq rNe rIn tAug ipI ZcK Zhz tNil tUn rU tIf ZjA Ziq tOrV tCB Zc4 tTup tLst L2.start L2.cxOf List.map_cons List.map_nil List.length_cons List.length_nil List.replicate List.cons_append List.nil_append List.append_nil Nat.sub_self Nat.zero_add Nat.add_sub_cancel Nat.reduceAdd Nat.reduceSub List.getElem?_cons_zero List.getElem?_cons_succ List.set_cons_zero List.set_cons_succ Option.some.injEq V.int.injEq V.bl.injEq V.ref.injEq V.str.injEq exists_eq_left' exists_and_left exists_const true_and and_true ZdQ ZdN ZdR ZdO ZdP decide_eq_true_eq Bool.not_eq_true' decide_eq_false_iff_not Bool.not_not Bool.not_true Bool.not_false if_true if_false ite_true ite_false Bool.false_eq_true List.cons.injEq exists_eq_left gTup Zh0 gNil tBM U7 Zaw tSl Zan Zhw rSlL ZeB"
set_option hygiene false in
local macro_rules | `(tactic| walk_at "sc")=>`(tactic| exact⟨rfl,rfl,rfl,by decide +kernel,rfl,by decide +kernel,by decide +kernel⟩)
set_option hygiene false in
local macro_rules | `(tactic| walk_at "bk")=>`(tactic| exact⟨rfl,by decide +kernel,by decide +kernel,by decide +kernel,by decide +kernel⟩)
set_option hygiene false in
local macro_rules | `(tactic| walk_at "ln")=>`(tactic| (intro vs H Q E h;repeat (first | (obtain⟨e,_⟩:=h;subst e;rfl) | obtain⟨_,h⟩:=h)))
set_option hygiene false in
local macro_rules | `(tactic| walk_at "fp")=>`(tactic| refine ZnD fun G0 hG0=>?_)
set_option hygiene false in
local macro_rules | `(tactic| walk_at "fq")=>`(tactic| (refine hG0 ?_;clear hG0))
set_option hygiene false in
local macro_rules | `(tactic| walk_at "rd")=>zzr zza
set_option hygiene false in
local macro_rules | `(tactic| walk_at "rdr")=>zzr (zza++" tFld ZdG sFld Zb5 rAdd rIxL rIxT hR hR2 T.clReader T.n_t T.n_at rf_t ZhI ZgP ZkK Zau HO.ins.injEq and_assoc Zd")
set_option hygiene false in
local macro_rules | `(tactic| walk_at "gs")=>do let a<-zzs "L2.start L2.cxE L2.cxOf List.map List.length_cons List.length_nil List.replicate List.cons_append List.nil_append Nat.sub_self Nat.zero_add Nat.add_sub_cancel Nat.reduceAdd Nat.reduceSub";`(tactic| (try dsimp only[$a,*]))
set_option hygiene false in
local macro_rules | `(tactic| walk_at "g1")=>do let a:=zzn "g_v0 g_v1 g_v2 g_v3 g_nx ZmF Znl ZmN ZnB g_op g_C Znm ZmO Zno ZmP g_CB g_BM Znw ZmB g_B Znz Zny Zns Znr ZmI ZmK ZmL ZnA ZlI ZmJ ZnC g_or Znn g_rI ZlJ Znv ZmD ZlH Znj Znp Zki Zkh g_sl Zkg ZmE Znk ZmH Znx ZmG ZmC ZiZ Znu Znt g_rt Zni g_n1 g_n2 g_n3 g_n4 g_n5 g_n6 g_v4 g_v5 g_v6 g_a2 g_a3";`(tactic| with_reducible first | refine ZmM fun M hM=>?_ $[| refine $a ?_]* | refine hM _ _ _ ?_)
set_option hygiene false in
local macro_rules | `(tactic| walk_at "g2")=>do let a:=zzn "VZ Zf4 Ziv UN JS UM XI WK YO Zb6 JT Za9";let f:=fun (h:Lean.TSyntax `ident)=>`(tactic| first | refine Zi0 $h (by first $[| exact $a _ _]*) ?_ | refine J8 $h T.clReader (by first | exact T.n_t | exact T.n_at) (by first | exact rf_t _ _ | exact ZhI _ _) ?_ | refine Zdq $h T.clReader T.n_at (ZhI _ _) ?_ | refine ZkV $h ?_ | refine X9 $h T.clReader (by first | exact T.n_t | exact T.n_at) ?_);`(tactic| with_reducible first | $(<-f (Lean.mkIdent `hR)):tactic | $(<-f (Lean.mkIdent `hR2)):tactic)
set_option hygiene false in
local macro_rules | `(tactic| walk_at "gr")=>zzw "g1 g2"
set_option hygiene false in
local macro_rules | `(tactic| walk_at "wk")=>zzr (zza++" tFld ZdG sFld Zb5 rAdd rIxL rIxT hR hR2 hWk hWk2 T.clReader T.n_t T.n_at rf_t ZhI ZgP ZkK T.clWork T.n_width T.n_height T.n_indent T.n_every T.n_anew T.n_loose T.n_rows T.n_head T.n_paragraphs T.n_words T.n_signs T.n_entries ZdF ZfP XH Jw Zbx Uo HO.ins.injEq and_assoc Zd")
set_option hygiene false in
local macro_rules | `(tactic| walk_at "g3")=>do let a:=zzn "T.n_rows T.n_head T.n_paragraphs T.n_words T.n_signs T.n_entries T.n_width T.n_height T.n_indent T.n_every T.n_anew T.n_loose";let b:=zzn "ZdF ZfP XH Jw Zbx Uo";let f:=fun (h:Lean.TSyntax `ident)=>`(tactic| first | refine J8 $h T.clWork (by first $[| exact $a]*) (by first $[| exact $b _ _ _ _ _ _ _]*) ?_);`(tactic| with_reducible first | $(<-f (Lean.mkIdent `hWk)):tactic | $(<-f (Lean.mkIdent `hWk2)):tactic)
set_option hygiene false in
local macro_rules | `(tactic| walk_at "gw")=>zzw "g1 g2 g3"
set_option hygiene false in
local macro_rules | `(tactic| walk_at "g4")=>do let a:=zzn "g_v7 g_v8 g_v9 g_n7 g_n8 g_n9";`(tactic| with_reducible first $[| refine $a ?_]*)
set_option hygiene false in
local macro_rules | `(tactic| walk_at "gx")=>zzw "g1 g2 g3 g4"
section
variable {P:Program}{w:World}{K:Frag}{mg:Str->Option Value}{base:Heap}{a:Ad}
theorem J7 (n:Int)(l:List Int):inV (.int n) (l.map V.int)=l.contains n:=by
 unfold inV;rw[List.any_map,List.contains_eq_any_beq];congr 1;funext y;show(y==n)=(n==y);exact Bool.beq_comm
theorem Zaa (l:List Int):(l.map V.int).all Ug=true:=by
 rw[List.all_map,List.all_eq_true];intro _ _;rfl
def VJ (K:Frag)(a:Ad):Sp:=fun vs H Q _=>∃n:Int,vs=[.int n]/\Q (.bl (isL n)) H
noncomputable abbrev U0:Stmt:=top 7
theorem Za1:Zm ["character"] ["character"] (Zh U0):=by walk_at "sc"
theorem Ze6 {f:Addr}{fd:FuncData}(F:Fun K "is_letter" "is_letter" U0 f fd)(T:Txt K mg a):FnOk P w K mg base CX0 1 f fd ["character"] (VJ K a):=by
 refine F.ok Za1 (by walk_at "ln") (fun cdv A outer s H vs Q E hr h=>?_);obtain⟨n,rfl,q⟩:=h;have nd:=Za1.nd;refine⟨_,(Zb (ZV (PW.pt (ZcL (Zn Xp (pv 0) (ZP T.cFIRST_LETTER) (Zs _)) (ZcL (W4 WC WC Zg (pv 0) Zg) (JU (Zn JZ (pv 0) (Ja T.cMARKS) (by with_unfolding_all rfl)))))) (Ze (Zo ZhL)) Zv) (Ze (Zo (X4 Xp (Zw Ze2 (pv 0) Zg) Zg (Zs _))))),?_⟩;have hm:=J7 n X6;have hf:=Zaa X6;unfold isL at q;walk_at "rd";split
 ·rename_i h;simpa[h] using q
 ·rename_i h1;have last:(¬ (127<=n/\n<=159))->∃x,(SqL K H a.aMARKS x\/SqT K H a.aMARKS x)/\Ug (V.int n)=true/\x.all Ug=true/\if inV (V.int n) x=true then Q (V.bl false) H else(0:Int)<65536/\Q (V.bl (decide (n % 65536<65534))) H:=fun h2=>by
   refine⟨_,.inr (T.tMARKS H),rfl,hf,?_⟩;rw[hm];have h3:(decide (127<=n) && decide (n<=159))=false:=by
    by_cases z:127<=n <;> simp[z] <;> lia
   rw[h3] at q;generalize X6.contains n=c at q;cases c
   ·rw[if_neg (by decide)];exact⟨by decide,by simpa[h1] using q⟩
   ·rw[if_pos rfl];simpa[h1] using q
  split
  ·split
   ·rename_i h2 h3;simpa[h1,h2,h3] using q
   ·exact last (by lia)
  ·exact last (by lia)
def UC (K:Frag)(a:Ad):Sp:=fun vs H Q _=>∃v lo hi:Nat,vs=[.int v,.int lo,.int hi]/\hi<10 ^ 11/\Q (.bl (Vh.leadsTo lo hi v)) H
noncomputable abbrev WY:Stmt:=top 67
theorem UH:Zm ["value","low","high","least","most"] ["value","low","high"] (Zh WY):=by walk_at "sc"
theorem ZcP {f:Addr}{fd:FuncData}(F:Fun K "begins_some" "begins_some" WY f fd)(T:Txt K mg a):FnOk P w K mg base CX0 1 f fd ["value","low","high"] (UC K a):=by
 refine F.ok UH (by walk_at "ln") (fun cdv A outer s H vs Q E hr h=>?_);refine el3 h fun v lo hi zq=>?_
 clear h;obtain⟨rfl,hhi,q⟩:=zq;have nd:=UH.nd;refine⟨_,(Zb (ZV (Zn Wb (pv 0) Zg (Zs _)) (Ze (Zo (X4 Wb (pv 1) Zg (Zs _)))) Zv) (Zb (Zl (i:=3) nd rfl (Or.inl rfl) (pv 0)) (Zb (Zl (i:=4) nd rfl (Or.inl rfl) (pv 0)) (Zb (Yg PassesOwn.never (Zn WC (pv 3) (pv 2) (Zs _)) (Zb (ZV (Zn Zlm (pv 4) (pv 1) (Zs _)) (Ze (Zo ZhL)) Zv) (Zb (Zl (i:=3) nd rfl (Or.inl rfl) (Zw Ze1 (pv 3) Zg)) (Ze (Zl (i:=4) nd rfl (Or.inl rfl) (Zw ZS (Zw Ze1 (pv 4) Zg) Zg)))))) (Ze (Zo ZhL)))))),?_⟩;walk_at "rd";split
 ·rename_i h;have h0:v=0:=by lia
  subst h0;rw[ZhW] at q;have e:decide ((lo:Int)=0)=(lo==0):=by
   by_cases z:lo=0 <;> simp[z]
  rw[e];exact q
 ·rename_i h;have hv:v≠0:=by lia
  obtain⟨W,hW⟩:∃W:WT,W=fun m σ H'=>H'=H/\∃L M k:Nat,σ=[some (.int v),some (.int lo),some (.int hi),some (.int L),some (.int M)]/\L=v * 10 ^ k/\M+1=(v+1) * 10 ^ k/\1<=L/\m=hi+1-L/\∀j,j<k->¬ (v * 10 ^ j<=hi/\lo<(v+1) * 10 ^ j):=⟨_,rfl⟩
  refine⟨W,⟨_,by rw[hW];exact⟨rfl,ex3 v v 0 ⟨rfl,by simp,by simp,by lia,rfl,fun j z=>absurd z (Nat.not_lt_zero j)⟩⟩⟩,fun m σ H' hw=>?_⟩;rw[hW] at hw;obtain⟨rfl,L,M,k,rfl,hL,hM,hL1,rfl,hno⟩:=hw;walk_at "rd";split
  ·rename_i h1;refine⟨fun σ' H''=>∃m',m' < hi+1-L/\W m' σ' H'',fun _ _ z=>z,?_⟩;split
   ·rename_i h2;rw[ZhX (k:=k) hv (by lia) (by lia) hhi] at q;exact q
   ·rename_i h2;refine⟨.inr (by lia),.inr (by lia),hi+1-L * 10,by lia,?_⟩;rw[hW];refine⟨rfl,L * 10,M * 10+9,k+1,by simp,?_,?_,by lia,rfl,?_⟩
    ·rw[hL,Nat.pow_succ,Nat.mul_assoc]
    ·rw[Nat.pow_succ,<- Nat.mul_assoc,<- hM];lia
    ·intro j hj;by_cases z:j=k
     ·subst z;lia
     ·exact hno j (by lia)
  ·rename_i h1;rw[Zgp (k:=k) hv hno (by lia)] at q;exact q
def VD (K:Frag)(a:Ad):Sp:=fun vs H Q _=>∃n:Int,vs=[.int n]/\Q (.int (ZeL n)) H
noncomputable abbrev Wu:Stmt:=top 68
theorem VL:Zm ["lead"] ["lead"] (Zh Wu):=by walk_at "sc"
theorem Zcb {f:Addr}{fd:FuncData}(F:Fun K "size_by_lead" "size_by_lead" Wu f fd)(T:Txt K mg a):FnOk P w K mg base CX0 1 f fd ["lead"] (VD K a):=by
 refine F.ok VL (by walk_at "ln") (fun cdv A outer s H vs Q E hr h=>?_);obtain⟨n,rfl,q⟩:=h;have nd:=VL.nd;refine⟨_,(Zb (ZV (Zn Xp (pv 0) Zg (Zs _)) (Ze (Zo Zg)) Zv) (Zb (ZV (W4 WC WC Zg (pv 0) Zg) (Ze (Zo Zg)) Zv) (Zb (ZV (W4 WC WC Zg (pv 0) Zg) (Ze (Zo Zg)) Zv) (Zb (ZV (W4 WC WC Zg (pv 0) Zg) (Ze (Zo Zg)) Zv) (Ze (Zo Zg)))))),?_⟩;unfold ZeL at q;walk_at "rd"
 (repeat' split) <;> (simp only[*,if_true,if_false,and_true,true_and,and_self,not_false_eq_true] at q ⊢) <;> first | exact q | (exfalso;lia) | (simp_all;done) | (rw[if_neg (by lia)] at q;exact q) | skip
def Vr (K:Frag)(a:Ad):Sp:=fun vs H Q _=>∃n:Int,vs=[.int n]/\∀p,H p=none->Q (.ref p) (upd H p (.tup [.int (blo n),.int (bhi n)]))
noncomputable abbrev XZ:Stmt:=top 69
theorem Vz:Zm ["lead"] ["lead"] (Zh XZ):=by walk_at "sc"
theorem Zbt {f:Addr}{fd:FuncData}(F:Fun K "bounds_behind" "bounds_behind" XZ f fd)(T:Txt K mg a):FnOk P w K mg base CX0 1 f fd ["lead"] (Vr K a):=by
 refine F.ok Vz (by walk_at "ln") (fun cdv A outer s H vs Q E hr h=>?_);obtain⟨n,rfl,q⟩:=h;have nd:=Vz.nd;refine⟨_,(Zb (ZV (Zn Wb (pv 0) Zg (Zs _)) (Ze (Zo (X3 (Za Zg (Za Zg Zc))))) Zv) (Zb (ZV (Zn Wb (pv 0) Zg (Zs _)) (Ze (Zo (X3 (Za Zg (Za Zg Zc))))) Zv) (Zb (ZV (Zn Wb (pv 0) Zg (Zs _)) (Ze (Zo (X3 (Za Zg (Za Zg Zc))))) Zv) (Zb (ZV (Zn Wb (pv 0) Zg (Zs _)) (Ze (Zo (X3 (Za Zg (Za Zg Zc))))) Zv) (Ze (Zo (X3 (Za Zg (Za Zg Zc))))))))),?_⟩;unfold blo bhi at q;have z2:2<=sizeLine:=by decide
 walk_at "rd"
 (repeat' split) <;> refine⟨z2,fun p hp=>?_⟩ <;> have q':=q p hp <;> simp_all
end
noncomputable def rf (ta:Addr)(i:Int):List (Str×V):=[("t",.ref ta),("at",.int i)]
theorem rf_t (ta:Addr)(i:Int):(rf ta i).lookup ("t":Str)=some (.ref ta):=rfl
theorem ZhI (ta:Addr)(i:Int):(rf ta i).lookup ("at":Str)=some (.int i):=by
 unfold rf;rw[List.lookup_cons,show(("at":Str)==("t":Str))=false from by decide];rfl
theorem ZgP (ta:Addr)(i j:Int):putF "at" (.int j) (rf ta i)=rf ta j:=by
 show(if ("t":Str)="at" then _ else _)=_;rw[if_neg (by decide)];show _::(if ("at":Str)="at" then _ else _)=_;rw[if_pos rfl];rfl
theorem ZkK (ta:Addr)(i:Int):(rf ta i).length=2:=rfl
theorem Zau (ta:Addr)(i:Int){m:Str}(h1:m≠"t")(h2:m≠"at"):(rf ta i).lookup m=none:=by
 unfold rf;rw[List.lookup_cons,beq_eq_false_iff_ne.mpr h1];dsimp only;rw[List.lookup_cons,beq_eq_false_iff_ne.mpr h2];rfl
theorem VZ (ta:Addr)(i:Int):(rf ta i).lookup ("peek":Str)=none:=Zau ta i (by decide) (by decide)
theorem Zf4 (ta:Addr)(i:Int):(rf ta i).lookup ("sees":Str)=none:=Zau ta i (by decide) (by decide)
theorem Ziv (ta:Addr)(i:Int):(rf ta i).lookup ("take":Str)=none:=Zau ta i (by decide) (by decide)
theorem Zb6 (ta:Addr)(i:Int):(rf ta i).lookup ("take_end":Str)=none:=Zau ta i (by decide) (by decide)
theorem XI (ta:Addr)(i:Int):(rf ta i).lookup ("take_digit":Str)=none:=Zau ta i (by decide) (by decide)
theorem UN (ta:Addr)(i:Int):(rf ta i).lookup ("take_number":Str)=none:=Zau ta i (by decide) (by decide)
theorem WK (ta:Addr)(i:Int):(rf ta i).lookup ("take_character":Str)=none:=Zau ta i (by decide) (by decide)
theorem YO (ta:Addr)(i:Int):(rf ta i).lookup ("take_long_letter":Str)=none:=Zau ta i (by decide) (by decide)
theorem JS (ta:Addr)(i:Int):(rf ta i).lookup ("take_thing":Str)=none:=Zau ta i (by decide) (by decide)
theorem JT (ta:Addr)(i:Int):(rf ta i).lookup ("ends_thing":Str)=none:=Zau ta i (by decide) (by decide)
theorem Za9 (ta:Addr)(i:Int):(rf ta i).lookup ("take_head":Str)=none:=Zau ta i (by decide) (by decide)
theorem UM (ta:Addr)(i:Int):(rf ta i).lookup ("take_things":Str)=none:=Zau ta i (by decide) (by decide)
noncomputable def bsV (bs:List UInt8):List V:=bs.map fun c=>V.int (c.toNat:Int)
theorem ZmX {bs:List UInt8}{p:Nat}{c:UInt8}(h:bs[p]?=some c):atI (bsV bs) (p:Int)=some (.int (c.toNat:Int)):=XA (by unfold bsV;rw[y0l,h];rfl)
theorem Ul (bs:List UInt8):(bsV bs).length=bs.length:=by unfold bsV;rw[y03]
def Rdr (K:Frag)(a:Ad)(H:Hp)(r ta:Addr)(bs:List UInt8)(p:Nat):Prop:=∃dx,H r=some (.ins a.CR dx (rf ta (p:Int)))/\SqL K H ta (bsV bs)/\ta≠r
section
variable {P:Program}{w:World}{K:Frag}{mg:Str->Option Value}{base:Heap}{a:Ad}
theorem Rdr.move {H H':Hp}{r dx ta:Addr}{bs:List UInt8}{p:Nat}(hS:SqL K H ta (bsV bs))(ne:ta≠r)(k:Kp [r] H H')(e:H' r=some (.ins a.CR dx (rf ta (p:Int)))):Rdr K a H' r ta bs p :=
 ⟨dx,e,k.seq (by simpa using ne) hS,ne⟩
def UD (K:Frag)(a:Ad):Sp:=fun vs H Q _=>∃(x dx ta:Addr) (bs:List UInt8),vs=[.ref x,.ref ta]/\H x=some (.ins a.CR dx [])/\SqL K H ta (bsV bs)/\ta≠x/\∀H',Kp [x] H H'->Rdr K a H' x ta bs 0->Q .non H'
theorem Zmd (ta:Addr):putF "at" (.int 0) (putF "t" (.ref ta) [])=rf ta 0:=by
 show(if ("t":Str)="at" then _ else _)=_;rw[if_neg (by decide)];rfl
noncomputable abbrev W2:Stmt:=Yv (top 70) 0
theorem UL:Zm ["self","t"] ["self","t"] (Zh W2):=by walk_at "sc"
theorem ZcT {f:Addr}{fd:FuncData}(F:Fun K "__init__" "Reader.__init__" W2 f fd)(T:Txt K mg a):FnOk P w K mg base CX0 1 f fd ["self","t"] (UD K a):=by
 refine F.ok UL (by walk_at "ln") (fun cdv A outer s H vs Q E hr h=>?_);refine el4 h fun x dx ta bs zq=>?_
 clear h;obtain⟨rfl,hR,hS,hne,q⟩:=zq;have nd:=UL.nd;refine⟨_,(Zb (ZM (pv 0) (pv 1) rfl) (Ze (ZM (pv 0) Zg rfl))),?_⟩;have hR2:=hR;walk_at "rdr";have k:Kp [x] H (upd (upd H x (HO.ins a.CR dx (putF "t" (V.ref ta) []))) x (HO.ins a.CR dx (putF "at" (V.int 0) (putF "t" (V.ref ta) [])))):=(Kp.put (by simp)).trans (Kp.put (by simp));exact⟨by decide,(by show 1<1000;decide),q _ k (Rdr.move (dx:=dx) hS hne k (by rw[Zd,Zmd];rfl))⟩
def Z3 (K:Frag)(a:Ad):Sp:=fun vs H Q _=>∃(r ta:Addr) (bs:List UInt8) (p:Nat),vs=[.ref r]/\Rdr K a H r ta bs p/\Q (.int (pk bs p)) H
noncomputable abbrev W1:Stmt:=Yv (top 70) 1
theorem UK:Zm ["self"] ["self"] (Zh W1):=by walk_at "sc"
theorem ZcS {f:Addr}{fd:FuncData}(F:Fun K "peek" "Reader.peek" W1 f fd)(T:Txt K mg a):FnOk P w K mg base CX0 1 f fd ["self"] (Z3 K a):=by
 refine F.ok UK (by walk_at "ln") (fun cdv A outer s H vs Q E hr h=>?_);refine el4 h fun r ta bs p zq=>?_
 clear h;obtain⟨rfl,⟨dx,hR,hS,hne⟩,q⟩:=zq;have nd:=UK.nd;refine⟨_,(Zb (ZV (Zn Xp (Zq (pv 0) rfl) (Zp Zj rfl T.len y13 (Za (Zq (pv 0) rfl) Zc)) (Zs _)) (Ze (Zo (ZE ZA (Zq (pv 0) rfl) (Zq (pv 0) rfl) (fun _ _=>rfl)))) Zv) (Ze (Zo (ZP T.cNO_BYTE)))),?_⟩;have hR2:=hR;walk_at "rdr";refine⟨_,.inl hS,?_⟩;rw[Ul];split
 ·rename_i h;have hp:p<bs.length:=by lia
  have e:=y09 hp;rw[ZdY e] at q;exact⟨_,hS,_,ZmX e,q⟩
 ·rename_i h;rw[ZdZ.mpr (y0p (by lia))] at q;exact q
def Z2 (K:Frag)(a:Ad):Sp:=fun vs H Q _=>∃(r ta:Addr) (bs:List UInt8) (p:Nat) (sg:Str) (n:Nat),vs=[.ref r,.str sg]/\Rdr K a H r ta bs p/\sg.length=1/\sg.cps.getD 0 0=n/\Q (.bl (decide (pk bs p=(n:Int)))) H
noncomputable abbrev W0:Stmt:=Yv (top 70) 2
theorem UJ:Zm ["self","sign"] ["self","sign"] (Zh W0):=by walk_at "sc"
theorem ZcR {f:Addr}{fd:FuncData}(F:Fun K "sees" "Reader.sees" W0 f fd)(T:Txt K mg a)(c_Reader_peek:Yn P w K mg base CX0 1 a.CR "peek" ["self"] (Z3 K a)):FnOk P w K mg base CX0 2 f fd ["self","sign"] (Z2 K a):=by
 refine F.ok UJ (by walk_at "ln") (fun cdv A outer s H vs Q E hr h=>?_);refine el6 h fun r ta bs p sg n zq=>?_
 clear h;obtain⟨rfl,⟨dx,hR,hS,hne⟩,h1,h2,q⟩:=zq;have nd:=UJ.nd;refine⟨_,(Ze (Zo (X4 Wb (Xo (pv 0) T.clReader c_Reader_peek hr Zu) (Zp Zhp rfl T.ord boot_ord (Za (pv 1) Zc)) (Zs _)))),?_⟩;have hR2:=hR;walk_at "rdr";refine⟨VZ _ _,ex4 r ta bs p ⟨ rfl,⟨dx,hR,hS,hne⟩,?_⟩⟩;walk_at "rdr";refine⟨h1,?_⟩;rw[h2];exact q
def Out (K:Frag)(a:Ad)(H:Hp)(r ta:Addr)(bs:List UInt8)(p:Nat){α:Type}(rd:Vh.Rd α)(Q:α->Hp->Prop)(E:XK):Prop :=
 (∀x p' H',rd p (bs.drop p)=.ok (x,p',bs.drop p')->Kp [r] H H'->Rdr K a H' r ta bs p'->Q x H')/\∀p' H',rd p (bs.drop p)=.error p'->Rdr K a H' r ta bs p'->E (.ref a.CE) none H'
def Z1 (K:Frag)(a:Ad):Sp:=fun vs H Q E=>∃(r ta:Addr) (bs:List UInt8) (p:Nat) (sg:Str) (c:UInt8),vs=[.ref r,.str sg]/\Rdr K a H r ta bs p/\sg.length=1/\sg.cps.getD 0 0=c.toNat/\Out K a H r ta bs p (Vh.byte_ c) (fun _ H'=>Q .non H') E
noncomputable abbrev WZ:Stmt:=Yv (top 70) 3
theorem UI:Zm ["self","sign"] ["self","sign"] (Zh WZ):=by walk_at "sc"
theorem ZcQ {f:Addr}{fd:FuncData}(F:Fun K "take" "Reader.take" WZ f fd)(T:Txt K mg a)(c_Reader_sees:Yn P w K mg base CX0 2 a.CR "sees" ["self","sign"] (Z2 K a)):FnOk P w K mg base (CX1 P w a.CE) 3 f fd ["self","sign"] (Z1 K a):=by
 refine F.okE UI (by walk_at "ln") (fun cdv A outer s H vs Q E hr h=>?_);refine el6 h fun r ta bs p sg c zq=>?_
 clear h;obtain⟨rfl,⟨dx,hR,hS,hne⟩,h1,h2,q1,q2⟩:=zq;have nd:=UI.nd;refine⟨_,(Zb (ZV (UO (X1 (Zt (pv 0) T.clReader c_Reader_sees hr Zu (Za (pv 1) Zc)))) (Ze (Wo T.exc rfl (Za ZB Zc))) Zv) (Ze (V0 (pv 0) Zg Zfo))),?_⟩;have hR2:=hR;walk_at "rdr";refine⟨Zf4 _ _,ex6 r ta bs p sg _ ⟨ rfl,⟨dx,hR,hS,hne⟩,h1,h2,?_⟩⟩;walk_at "rdr";split
 ·rename_i h;exact⟨by decide,q2 p H (Vf h) ⟨dx,hR,hS,hne⟩⟩
 ·rename_i h;have h:=Decidable.not_not.mp h;refine⟨by decide,q1 () (p+1) _ (Y6 h) (Kp.put (by simp)) (Rdr.move (dx:=dx) hS hne (Kp.put (by simp)) ?_)⟩;rw[Zd];rfl
def Wi (K:Frag)(a:Ad):Sp:=fun vs H Q E=>∃(r ta:Addr) (bs:List UInt8) (p:Nat),vs=[.ref r]/\Rdr K a H r ta bs p/\(bs[p]?=none->Q .non H)/\(bs[p]?≠none->E (.ref a.CE) none H)
noncomputable abbrev Xd:Stmt:=Yv (top 70) 4
theorem Wn:Zm ["self"] ["self"] (Zh Xd):=by walk_at "sc"
theorem J2 {f:Addr}{fd:FuncData}(F:Fun K "take_end" "Reader.take_end" Xd f fd)(T:Txt K mg a)(c_Reader_peek:Yn P w K mg base CX0 1 a.CR "peek" ["self"] (Z3 K a)):FnOk P w K mg base (CX1 P w a.CE) 2 f fd ["self"] (Wi K a):=by
 refine F.okE Wn (by walk_at "ln") (fun cdv A outer s H vs Q E hr h=>?_);refine el4 h fun r ta bs p zq=>?_
 clear h;obtain⟨rfl,⟨dx,hR,hS,hne⟩,q1,q2⟩:=zq;have nd:=Wn.nd;refine⟨_,(Ze (ZV (Zn Zm9 (Xo (pv 0) T.clReader c_Reader_peek hr Zu) (ZP T.cNO_BYTE) (Zs _)) (Ze (Wo T.exc rfl (Za ZB Zc))) Zv)),?_⟩;have hR2:=hR;walk_at "rdr";refine⟨VZ _ _,ex4 r ta bs p ⟨ rfl,⟨dx,hR,hS,hne⟩,?_⟩⟩;walk_at "rdr";split
 ·rename_i h;exact⟨by decide,q2 fun z=>h (ZdZ.mpr z)⟩
 ·rename_i h;exact q1 (ZdZ.mp (Decidable.not_not.mp h))
def XC (K:Frag)(a:Ad):Sp:=fun vs H Q E=>∃(r ta:Addr) (bs:List UInt8) (p v lo hi:Nat),vs=[.ref r,.int v,.int lo,.int hi]/\Rdr K a H r ta bs p/\hi<10 ^ 11 /\
 (∀n H',dig bs lo hi v p=some n->Kp [r] H H'->Rdr K a H' r ta bs (p+1)->Q (.int n) H')/\(dig bs lo hi v p=none->E (.ref a.CE) none H)
noncomputable abbrev YM:Stmt:=Yv (top 70) 5
theorem XF:Zm ["self","value","low","high","digit"] ["self","value","low","high"] (Zh YM):=by walk_at "sc"
theorem Uw {f:Addr}{fd:FuncData}(F:Fun K "take_digit" "Reader.take_digit" YM f fd)(T:Txt K mg a)(c_Reader_peek:Yn P w K mg base CX0 1 a.CR "peek" ["self"] (Z3 K a))(c_begins_some:FnC P w K mg base CX0 1 "begins_some" ["value","low","high"] (UC K a)):FnOk P w K mg base (CX1 P w a.CE) 2 f fd ["self","value","low","high"] (XC K a):=by
 refine F.okE XF (by walk_at "ln") (fun cdv A outer s H vs Q E hr h=>?_);refine el7 h fun r ta bs p v lo hi zq=>?_
 clear h;obtain⟨rfl,⟨dx,hR,hS,hne⟩,hhi,q1,q2⟩:=zq;have nd:=XF.nd;refine⟨_,(Zb (Zl (i:=4) nd rfl (Or.inl rfl) (Zw Z6 (Xo (pv 0) T.clReader c_Reader_peek hr Zu) Zg)) (Zb (ZV (PW.pt (ZcL (UO (W4 WC WC Zg (pv 4) Zg)) (JU (UO (X1 (Zi c_begins_some hr Zu (Za (Zw ZS (Zw Ze1 (pv 1) Zg) (pv 4)) (Za (pv 2) (Za (pv 3) Zc))))))))) (Ze (Wo T.exc rfl (Za ZB Zc))) Zv) (Zb (V0 (pv 0) Zg Zfo) (Ze (Zo (Zw ZS (Zw Ze1 (pv 1) Zg) (pv 4))))))),?_⟩;have hR2:=hR;walk_at "rdr";refine⟨VZ _ _,ex4 r ta bs p ⟨ rfl,⟨dx,hR,hS,hne⟩,?_⟩⟩;walk_at "rdr";by_cases h1:48<=pk bs p/\pk bs p<=57
 ·rw[if_pos (by lia),if_neg (by lia)];have e:((v:Int) * 10+(pk bs p-48))=((v * 10+(pk bs p-48).toNat:Nat):Int):=by lia
  refine⟨.inr (by lia),v * 10+(pk bs p-48).toNat,lo,hi,by rw[e],hhi,?_⟩;walk_at "rdr";split
  ·rename_i h2;refine⟨by decide,q2 ?_⟩;unfold dig;rw[if_neg (fun z=>by rw[h2] at z;exact Bool.false_ne_true z.2.2)]
  ·rename_i h2;rw[e];refine⟨by decide,.inr (by lia),q1 _ _ ?_ (Kp.put (by simp)) (Rdr.move (dx:=dx) hS hne (Kp.put (by simp)) (by rw[Zd];rfl))⟩;unfold dig;rw[if_pos ⟨h1.1,h1.2,by simpa using h2⟩]
 ·have no:dig bs lo hi v p=none:=by
   unfold dig;rw[if_neg (fun z=>h1 ⟨z.1,z.2.1⟩)]
  split
  ·rw[if_pos (by lia)];exact⟨by decide,q2 no⟩
  ·exact⟨by decide,q2 no⟩
def ZL (K:Frag)(a:Ad):Sp:=fun vs H Q E=>∃(r ta:Addr) (bs:List UInt8) (p lo hi:Nat),vs=[.ref r,.int lo,.int hi]/\Rdr K a H r ta bs p/\hi<10 ^ 11 /\
 (∀x p' H',Vh.num lo hi p (bs.drop p)=.ok (x,p',bs.drop p')->lo<=x->x<=hi->Kp [r] H H'->Rdr K a H' r ta bs p'->Q (.int (x:Nat)) H') /\
 (∀p' H',(Vh.num lo hi p (bs.drop p)=.error p'\/∃x,Vh.num lo hi p (bs.drop p)=.ok (x,p',bs.drop p')/\48<=pk bs p'/\pk bs p'<=57)->Rdr K a H' r ta bs p'->E (.ref a.CE) none H')
noncomputable abbrev YG:Stmt:=Yv (top 70) 6
theorem Xl:Zm ["self","low","high","value"] ["self","low","high"] (Zh YG):=by walk_at "sc"
theorem V6 {f:Addr}{fd:FuncData}(F:Fun K "take_number" "Reader.take_number" YG f fd)(T:Txt K mg a)(c_Reader_take_digit:Yn P w K mg base (CX1 P w a.CE) 2 a.CR "take_digit" ["self","value","low","high"] (XC K a))(c_Reader_peek:Yn P w K mg base CX0 1 a.CR "peek" ["self"] (Z3 K a)):FnOk P w K mg base (CX1 P w a.CE) 3 f fd ["self","low","high"] (ZL K a):=by
 refine F.okE Xl (by walk_at "ln") (fun cdv A outer s H vs Q E hr h=>?_);refine el6 h fun r ta bs p lo hi zq=>?_
 clear h;obtain⟨rfl,⟨dx,hR,hS,hne⟩,hhi,q1,q2⟩:=zq;have nd:=Xl.nd;refine⟨_,(Zb (Zl (i:=3) nd rfl (Or.inl rfl) (Zt (pv 0) T.clReader c_Reader_take_digit hr Ye (Za Zg (Za (pv 1) (Za (pv 2) Zc))))) (Zb (Yg PassesOwn.leaving (PW.pt (YV (Zn Jc (pv 3) Zg (Zs _)) (YQ (W4 WC WC Zg (Xo (pv 0) T.clReader c_Reader_peek hr Zu) Zg)))) (Ze (Zl (i:=3) nd rfl (Or.inl rfl) (Zt (pv 0) T.clReader c_Reader_take_digit hr Ye (Za (pv 3) (Za (pv 1) (Za (pv 2) Zc))))))) (Zb (ZV (Zn Xp (pv 3) (pv 1) (Zs _)) (Ze (Wo T.exc rfl (Za ZB Zc))) Zv) (Ze (Zo (pv 3)))))),?_⟩;have hR2:=hR;walk_at "rdr";refine⟨XI _ _,r,ta,bs,p,0,lo,hi,rfl,⟨dx,hR,hS,hne⟩,hhi,fun n H1 hn k1 R1=>?_,fun hn=>q2 p H (.inl (ZjU hn)) ⟨dx,hR,hS,hne⟩⟩;obtain⟨W,hW⟩:∃W:WT,W=fun m σ H'=>∃v p',σ=[some (.ref r),some (.int lo),some (.int hi),some (.int (v:Nat))]/\Rdr K a H' r ta bs p'/\Kp [r] H H'/\v<=hi/\m=hi+1-v /\
  (v=0->Vh.num lo hi p (bs.drop p)=if lo=0 then .ok (0,p',bs.drop p') else .error p')/\(v≠0->∃f,ZnF bs lo hi p v p' f):=⟨_,rfl⟩
 walk_at "rd";refine⟨W,⟨_,by
  rw[hW];refine ex2 n (p+1) ⟨rfl,R1,k1,(Zjb hn).1,rfl,fun z=>?_,fun z=>⟨19,Zfd hn,(Zjb hn).1,by lia⟩⟩;rw[Zfd hn,z,Zgy]⟩,fun m σ H2 hw=>?_⟩
 rw[hW] at hw;refine el2 hw fun v p2 zq=>?_
 clear hw;obtain⟨rfl,⟨dx2,hR,hS,hne⟩,k2,hv,rfl,hz,hnz⟩:=zq;have hR2:=hR;walk_at "rdr";split
 ·rename_i h0;have hv0:v≠0:=by lia
  obtain⟨f,N⟩:=hnz hv0;have hf:1<=f:=by
   cases f with
   | zero=>have:=N.big;lia
   | succ f=>lia
  obtain⟨f,rfl⟩:∃g,f=g+1:=⟨f-1,by lia⟩
  have eq:=N.eq;rw[Jn lo hi f (some v) bs p2 (by simp[hv0])] at eq;have eq:Vh.num lo hi p (bs.drop p)=match dig bs lo hi v p2 with | some n=>Vh.digits lo hi f (some n) (p2+1) (bs.drop (p2+1)) | none=>if lo<=v/\v<=hi then .ok (v,p2,bs.drop p2) else .error p2:=eq
  refine⟨VZ _ _,ex4 r ta bs p2 ⟨ rfl,⟨dx2,hR,hS,hne⟩,?_⟩⟩;walk_at "rdr";have stop:dig bs lo hi v p2=none->Rdr K a H2 r ta bs p2->if (v:Int)<lo then 1<=sizeLine/\E (.ref a.CE) none H2 else Q (.int v) H2:=fun hd R=>by
   rw[hd] at eq;dsimp only at eq;split
   ·rename_i h1;rw[if_neg (by lia)] at eq;exact⟨by decide,q2 p2 H2 (.inl eq) R⟩
   ·rename_i h1;rw[if_pos ⟨by lia,hv⟩] at eq;exact q1 v p2 H2 eq (by lia) hv k2 R
  by_cases hd:48<=pk bs p2/\pk bs p2<=57
  ·rw[if_pos hd.1,if_pos hd.2];refine⟨fun σ' H'=>∃m',m' < hi+1-v/\W m' σ' H',fun _ _ z=>z,XI _ _,r,ta,bs,p2,v,lo,hi,rfl,⟨dx2,hR,hS,hne⟩,hhi,fun n H3 hn k3 R3=>?_,fun hn=>?_⟩
   ·walk_at "rd";rw[hn] at eq;have b:=Zjb hn;refine⟨hi+1-n,by lia,?_⟩;rw[hW];refine ex2 n (p2+1) ⟨rfl,R3,k2.trans k3,b.1,rfl,fun z=>by lia,fun _=>⟨f,eq,b.1,?_⟩⟩;have h1:=N.big;have h2:=Nat.mul_le_mul_right (10 ^ f * 10) b.2.1;have e1:v * 10 ^ (f+1) * 10=v * 10 * (10 ^ f * 10):=by rw[Nat.pow_succ];simp only[Nat.mul_assoc,Nat.mul_comm,Nat.mul_left_comm]
    have e2:n * 10 ^ f * 10=n * (10 ^ f * 10):=by rw[Nat.mul_assoc]
    lia
   ·rw[hn] at eq;dsimp only at eq;by_cases h1:lo<=v/\v<=hi
    ·rw[if_pos h1] at eq;exact q2 p2 H2 (.inr ⟨v,eq,hd⟩) ⟨dx2,hR,hS,hne⟩
    ·rw[if_neg h1] at eq;exact q2 p2 H2 (.inl eq) ⟨dx2,hR,hS,hne⟩
  ·have no:dig bs lo hi v p2=none:=by
    unfold dig;rw[if_neg (fun z=>hd ⟨z.1,z.2.1⟩)]
   have st:=stop no ⟨dx2,hR,hS,hne⟩;split
   ·rw[if_neg (by lia)];exact st
   ·exact st
 ·rename_i h0;have hv0:v=0:=by lia
  have eq:=hz hv0;subst hv0;split
  ·rename_i h1;rw[if_neg (by lia)] at eq;exact⟨by decide,q2 p2 H2 (.inl eq) ⟨dx2,hR,hS,hne⟩⟩
  ·rename_i h1;rw[if_pos (by lia)] at eq;exact q1 0 p2 H2 eq (by lia) (by lia) k2 ⟨dx2,hR,hS,hne⟩
theorem ZmY {n:Nat}:atI [V.int 192,V.int 224,V.int 240] ((X5 n:Int)+1-2)=some (.int (ZfI n:Int)):=by
 unfold X5 ZfI;split
 ·rfl
 ·split <;> rfl
def Yz (K:Frag)(a:Ad):Sp:=fun vs H Q E=>∃(r ta:Addr) (bs:List UInt8) (p:Nat) (c:UInt8),vs=[.ref r,.int (c.toNat:Int),.int ((X5 c.toNat:Int)+1)]/\Rdr K a H r ta bs p/\bs[p]?=some c/\194<=c.toNat/\c.toNat<=244 /\
 Out K a H r ta bs p Vh.letter_ (fun x H'=>Q (.int (x:Nat)) H') E
noncomputable abbrev Z9:Stmt:=Yv (top 70) 9
theorem YA:Zm ["self","lead","size","value","bounds","left","byte"] ["self","lead","size"] (Zh Z9):=by walk_at "sc"
theorem Wc {f:Addr}{fd:FuncData}(F:Fun K "take_long_letter" "Reader.take_long_letter" Z9 f fd)(T:Txt K mg a)(c_bounds_behind:FnC P w K mg base CX0 1 "bounds_behind" ["lead"] (Vr K a))(c_Reader_peek:Yn P w K mg base CX0 1 a.CR "peek" ["self"] (Z3 K a))(c_is_letter:FnC P w K mg base CX0 1 "is_letter" ["character"] (VJ K a)):FnOk P w K mg base (CX1 P w a.CE) 2 f fd ["self","lead","size"] (Yz K a):=by
 refine F.okE YA (by walk_at "ln") (fun cdv A outer s H vs Q E hr h=>?_);walk_at "fp";refine el5 h fun r ta bs p c zq=>?_
 clear h;obtain⟨rfl,⟨dx,hR,hS,hne⟩,hc,h1,h2,q1,q2⟩:=zq;walk_at "fq";have nd:=YA.nd;refine⟨_,(Zb (V0 (pv 0) Zg Zfo) (Zb (Zl (i:=3) nd rfl (Or.inl rfl) (Zw Z6 (pv 1) (ZE Yl (X3 (Za Zg (Za Zg (Za Zg Zc)))) (Zw Z6 (pv 2) Zg) (fun _ _=>rfl)))) (Zb (Zl (i:=4) nd rfl (Or.inl rfl) (Zi c_bounds_behind hr Zu (Za (pv 1) Zc))) (Zb (Y7 PassesOwn.leaving rfl (Zb7 rfl T.range (Za (Zw Z6 (pv 2) Zg) (Za (ZeW ZaN Zg) (Za (ZeW ZaN Zg) Zc)))) (ZK (i:=5) nd rfl (Or.inl rfl)) (Zb (Zl (i:=6) nd rfl (Or.inl rfl) (Xo (pv 0) T.clReader c_Reader_peek hr Zu)) (Zb (ZV (UO (W4 WC WC (ZE Yl (pv 4) Zg (fun _ _=>rfl)) (pv 6) (ZE Yl (pv 4) Zg (fun _ _=>rfl)))) (Ze (Wo T.exc rfl (Za ZB Zc))) Zv) (Zb (Zl (i:=3) nd rfl (Or.inl rfl) (Zw Z6 (Zw ZS (Zw Ze1 (pv 3) Zg) (pv 6)) Zg)) (Zb (ZV (PW.pt (YV (Zn Wb (pv 5) Zg (Zs _)) (YQ (UO (X1 (Zi c_is_letter hr Zu (Za (pv 3) Zc))))))) (Ze (Wo T.exc rfl (Za ZB Zc))) Zv) (Zb (V0 (pv 0) Zg Zfo) (Ze (Zl (i:=4) nd rfl (Or.inl rfl) (X3 (Za Zg (Za Zg Zc))))))))))) (Ze (Zo (pv 3))))))),?_⟩;walk_at "gs";have hR2:=hR;have hlong:=Zgo hc h1 h2;have z3:3<=sizeLine:=by decide
 have z2:2<=sizeLine:=by decide
 walk_at "gr";refine⟨(show 2<1000 by decide),?_⟩;walk_at "gr";refine⟨z3,fun t1 ht1=>?_⟩;walk_at "gr";refine⟨_,.inl (.inl Zd),_,ZmY,?_⟩;walk_at "gr";refine⟨_,rfl,fun t2 ht2=>?_⟩;walk_at "gr";have m3:X5 c.toNat<=3/\1<=X5 c.toNat:=by unfold X5;split <;> (try split) <;> lia
 have ne1:t1≠r:=fun z=>by rw[z,Zd] at ht1;cases ht1
 have ne2:t2≠r:=fun z=>by rw[z,Zk (Ne.symm ne1),Zd] at ht2;cases ht2
 obtain⟨Pv,hP⟩:∃Pv:WT,Pv=fun i σ H'=>∃(v:Nat) (lo hi:Int) (b:Addr) (p':Nat) (o1 o2:Option V),
  σ=[some (.ref r),some (.int (c.toNat:Int)),some (.int ((X5 c.toNat:Int)+1)),some (.int (v:Int)),some (.ref b),o1,o2]/\Rdr K a H' r ta bs p'/\Kp [r] H H'/\H' b=some (.tup [.int lo,.int hi])/\128<=lo/\hi<=191 /\
  J3 bs (X5 c.toNat) (c.toNat-ZfI c.toNat) (blo c.toNat) (bhi c.toNat) (p+1)=J3 bs (X5 c.toNat-i) v lo hi p':=⟨_,rfl⟩
 walk_at "gr";refine⟨_,rfl,_,_,rfl,rfl,_,rfl,_,rfl,ex4 _ _ _ _ ⟨ rfl,RgC.neg (by lia) (by lia) (by lia) (by lia),ZaJ Pv ?_ ?_ ?_⟩⟩
 ·have e:((c.toNat:Int)-(ZfI c.toNat:Int))=((c.toNat-ZfI c.toNat:Nat):Int):=by unfold ZfI;split <;> (try split) <;> lia
  have k1:Kp [r] H (upd (upd (upd H r (HO.ins a.CR dx (rf ta ((p:Int)+1)))) t1 (HO.tup [V.int 192,V.int 224,V.int 240])) t2 (HO.tup [V.int (blo c.toNat),V.int (bhi c.toNat)])) :=
   ((Kp.put (by simp)).trans (Kp.new ht1)).trans (Kp.new ht2)
  rw[hP];walk_at "gr";refine ex7 _ _ _ t2 (p+1) none none ⟨by rw[e],Rdr.move (dx:=dx) hS hne k1 (by rw[Zk (Ne.symm ne2),Zk (Ne.symm ne1),Zd];rfl),k1,Zd,?_,?_,rfl⟩
  ·unfold blo;split <;> (try split) <;> lia
  ·unfold bhi;split <;> (try split) <;> lia
 ·intro i σ H2 hi hw;rw[hP] at hw;walk_at "fp";refine el7 hw fun v lo hi' b p2 o1 o2 zq=>?_
  clear hw;obtain⟨rfl,⟨dx2,hR,hS,hne⟩,k2,hb,l1,l2,eq⟩:=zq;walk_at "fq";have hi:i<X5 c.toNat:=by lia
  obtain⟨m,hm⟩:∃m,X5 c.toNat-i=m+1:=⟨X5 c.toNat-i-1,by lia⟩
  rw[hm] at eq;rw[eq] at hlong;have hR2:=hR;have R:Rdr K a H2 r ta bs p2:=⟨dx2,hR,hS,hne⟩;walk_at "gr";refine ex4 r ta bs p2 ⟨rfl,R,?_⟩;walk_at "gr";walk_at "gr";refine⟨_,.inl (.inl hb),_,rfl,_,rfl,?_⟩;walk_at "gr";by_cases hin:lo<=pk bs p2/\pk bs p2<=hi'
  ·rw[if_pos hin.1];walk_at "gr";refine⟨_,.inl (.inl hb),_,rfl,?_⟩;walk_at "gr";rw[if_neg (by lia)];walk_at "gr";refine⟨.inr (by lia),?_⟩;walk_at "gr";have ev:((v:Int) * 64+pk bs p2-128)=((v * 64+((pk bs p2).toNat-128):Nat):Int):=by lia
   simp only[ev];rw[J3,if_pos hin] at eq hlong;have nxt:¬ (m=0/\isL ((v * 64+((pk bs p2).toNat-128):Nat):Int)=false)->2<1000/\2<=sizeLine/\∀t,upd H2 r (HO.ins a.CR dx2 (rf ta ((p2:Int)+1))) t=none ->
     Pv (i+1) [some (V.ref r),some (V.int (c.toNat:Int)),some (V.int ((X5 c.toNat:Int)+1)),some (V.int ((v * 64+((pk bs p2).toNat-128):Nat):Int)),some (V.ref t),some (V.int ((X5 c.toNat:Int)+1-2+(i:Int) * -1)),some (V.int (pk bs p2))]
      (upd (upd H2 r (HO.ins a.CR dx2 (rf ta ((p2:Int)+1)))) t (HO.tup [V.int 128,V.int 191])):=fun hno=>by
    walk_at "gr";refine⟨by decide,z2,fun t ht=>?_⟩;walk_at "gr";rw[if_neg hno] at eq;have net:t≠r:=fun z=>by rw[z,Zd] at ht;cases ht
    have k3:Kp [r] H2 (upd (upd H2 r (HO.ins a.CR dx2 (rf ta ((p2:Int)+1)))) t (HO.tup [V.int 128,V.int 191])):=(Kp.put (by simp)).trans (Kp.new ht);rw[hP];exact ex7 _ 128 191 t (p2+1) _ _ ⟨rfl,Rdr.move (dx:=dx2) hS hne k3 (by rw[Zk (Ne.symm net),Zd];rfl),k2.trans k3,Zd,by lia,by lia,by rw[eq,show X5 c.toNat-(i+1)=m by lia]⟩
   split
   ·rename_i h0;walk_at "gr";refine⟨_,rfl,?_⟩;walk_at "gr";walk_at "gr";split
    ·rename_i h5;rw[if_pos ⟨by lia,h5⟩] at hlong;exact⟨by decide,q2 p2 H2 hlong R⟩
    ·rename_i h5;walk_at "gr";refine⟨(show 2<1000 by decide),?_⟩;walk_at "gr";refine⟨z2,fun t ht=>?_⟩;walk_at "gr";rw[ZgP] at ht ⊢;exact(nxt (fun z=>h5 z.2)).2.2 t ht
   ·rename_i h0;walk_at "gr";refine⟨(show 2<1000 by decide),?_⟩;walk_at "gr";refine⟨z2,fun t ht=>?_⟩;walk_at "gr";rw[ZgP] at ht ⊢;exact(nxt (fun z=>h0 (by lia))).2.2 t ht
  ·have er:Vh.letter_ p (bs.drop p)=.error p2:=by rw[hlong,J3,if_neg hin];rfl
   split
   ·walk_at "gr";refine⟨_,.inl (.inl hb),_,rfl,?_⟩;walk_at "gr";rw[if_pos (by lia)];walk_at "gr";exact⟨by decide,q2 p2 H2 er R⟩
   ·walk_at "gr";exact⟨by decide,q2 p2 H2 er R⟩
 ·intro σ H2 hw;rw[hP] at hw;walk_at "fp";refine el7 hw fun v lo hi' b p2 o1 o2 zq=>?_
  clear hw;obtain⟨rfl,R,k2,hb,l1,l2,eq⟩:=zq;walk_at "fq";walk_at "gr";rw[show X5 c.toNat-((X5 c.toNat:Int)+1-2 - -1).toNat=0 by lia,J3] at eq;rw[eq] at hlong;exact q1 v p2 H2 hlong k2 R
theorem Zmz (n:Nat)(mk:List UInt8)(c:UInt8)(h:c.toNat=n):inV (.int (n:Int)) (bsV mk)=mk.contains c:=by
 subst h;unfold inV bsV;rw[List.any_map,List.contains_eq_any_beq];congr 1;funext y;show((y.toNat:Int)==(c.toNat:Int))=(c==y);by_cases e:c=y
 ·subst e;simp
 ·rw[beq_eq_false_iff_ne.mpr e,beq_eq_false_iff_ne];intro z;exact e (UInt8.toNat_inj.mp (by lia))
theorem ZlP (mk:List UInt8):(bsV mk).all Ug=true:=by
 unfold bsV;rw[List.all_map,List.all_eq_true];intro _ _;rfl
def YR (K:Frag)(a:Ad):Sp:=fun vs H Q E=>∃(r ma ta:Addr) (bs mk:List UInt8) (p:Nat),vs=[.ref r,.ref ma]/\Rdr K a H r ta bs p/\(∀H',Kp [r] H H'->SqT K H' ma (bsV mk))/\(∀c∈mk,c.toNat<128) /\
 Out K a H r ta bs p (Zbv mk) (fun x H'=>Q (.int (x:Nat)) H') E
noncomputable abbrev Yf:Stmt:=Yv (top 70) 8
theorem YU:Zm ["self","marks","lead","size"] ["self","marks"] (Zh Yf):=by walk_at "sc"
theorem WL {f:Addr}{fd:FuncData}(F:Fun K "take_character" "Reader.take_character" Yf f fd)(T:Txt K mg a)(c_Reader_peek:Yn P w K mg base CX0 1 a.CR "peek" ["self"] (Z3 K a))(c_size_by_lead:FnC P w K mg base CX0 1 "size_by_lead" ["lead"] (VD K a))(c_Reader_take_long_letter:Yn P w K mg base (CX1 P w a.CE) 2 a.CR "take_long_letter" ["self","lead","size"] (Yz K a))(c_is_letter:FnC P w K mg base CX0 1 "is_letter" ["character"] (VJ K a)):FnOk P w K mg base (CX1 P w a.CE) 3 f fd ["self","marks"] (YR K a):=by
 refine F.okE YU (by walk_at "ln") (fun cdv A outer s H vs Q E hr h=>?_);walk_at "fp";refine el6 h fun r ma ta bs mk p zq=>?_
 clear h;obtain⟨rfl,⟨dx,hR,hS,hne⟩,hma,hmk,q1,q2⟩:=zq;walk_at "fq";have nd:=YU.nd;refine⟨_,(Zb (Zl (i:=2) nd rfl (Or.inl rfl) (Xo (pv 0) T.clReader c_Reader_peek hr Zu)) (Zb (Zl (i:=3) nd rfl (Or.inl rfl) (Zi c_size_by_lead hr Zu (Za (pv 2) Zc))) (Zb (ZV (Zn Jc (pv 3) Zg (Zs _)) (Ze (Zo (Zt (pv 0) T.clReader c_Reader_take_long_letter hr Ye (Za (pv 2) (Za (pv 3) Zc))))) Zv) (Zb (ZV (PW.pt (ZcL (Zn Wb (pv 3) Zg (Zs _)) (JU (UO (PW.pt (ZcL (X1 (Zi c_is_letter hr Zu (Za (pv 2) Zc))) (JU (Zn JZ (pv 2) (pv 1) (by with_unfolding_all rfl))))))))) (Ze (Wo T.exc rfl (Za ZB Zc))) Zv) (Zb (V0 (pv 0) Zg Zfo) (Ze (Zo (pv 2)))))))),?_⟩;have hR2:=hR;have R:Rdr K a H r ta bs p:=⟨dx,hR,hS,hne⟩;walk_at "rdr";refine⟨VZ _ _,ex4 r ta bs p ⟨ rfl,R,?_⟩⟩;walk_at "rdr";refine⟨_,rfl,?_⟩;walk_at "rdr";cases e:bs[p]? with
 | none =>
  rw[ZdZ.mpr e];rw[if_neg (by decide),if_pos (by decide)];exact⟨by decide,q2 p H (Vd (by unfold cS;rw[e])) R⟩
 | some c =>
  rw[ZdY e];have hlt:=c.toNat_lt;have er:128<=c.toNat->¬ (194<=c.toNat/\c.toNat<=244)->Zbv mk p (bs.drop p)=.error p:=fun h1 h2=>Vd (by
   unfold cS;rw[e];dsimp only;rw[Bool.or_eq_false_iff];constructor
   ·rw[List.contains_eq_any_beq,List.any_eq_false];intro y hy z;have:=hmk y hy;rw[<- eq_of_beq z] at this;lia
   ·unfold Vh.startsLetter;rw[if_neg (by lia)];simp;lia)
  by_cases h1:c.toNat<128
  ·have es:ZeL (c.toNat:Int)=1:=by unfold ZeL;rw[if_pos (by lia)]
   rw[es,if_neg (by decide),if_neg (by decide)];refine⟨_,rfl,?_⟩;walk_at "rdr";have k1:Kp [r] H (upd H r (HO.ins a.CR dx (rf ta ((p:Int)+1)))):=Kp.put (by simp);have R1:Rdr K a (upd H r (HO.ins a.CR dx (rf ta ((p:Int)+1)))) r ta bs (p+1):=Rdr.move (dx:=dx) hS hne k1 (by rw[Zd];rfl);have okc:(mk.contains c=true\/isL (c.toNat:Int)=true)->Zbv mk p (bs.drop p)=.ok (c.toNat,p+1,bs.drop (p+1)):=fun h=>by
    unfold Zbv Vh.byNext;rw[Zz,e];dsimp only;by_cases hm:mk.contains c=true
    ·rw[if_pos hm];unfold Vh.behind Vh.gives;rw[ZU]
    ·rw[if_neg hm];have hl:=h.resolve_left hm;rw[ZiT h1] at hl;unfold Vh.letter_ Vh.byNext;rw[Zz,e];dsimp only;rw[if_neg (by unfold Vh.startsLetter;rw[if_pos h1,hl];decide),if_pos h1];unfold Vh.behind Vh.gives;rw[ZU]
   split
   ·rename_i hl;exact⟨by decide,q1 _ _ _ (okc (.inr hl)) k1 R1⟩
   ·rename_i hl;refine⟨_,.inr (hma H Kp.refl),rfl,ZlP mk,?_⟩;rw[Zmz _ mk c rfl];split
    ·rename_i hm;refine⟨by decide,q2 p H (Vd ?_) R⟩;unfold cS;rw[e];dsimp only;rw[hm];unfold Vh.startsLetter;rw[if_pos h1,<- ZiT h1];simpa using hl
    ·rename_i hm;exact⟨by decide,q1 _ _ _ (okc (.inl (by simpa using hm))) k1 R1⟩
  ·by_cases h2:194<=c.toNat/\c.toNat<=244
   ·have es:ZeL (c.toNat:Int)=(X5 c.toNat:Int)+1:=by
     unfold ZeL X5;rw[if_neg (by lia)];by_cases z1:c.toNat<224
     ·rw[if_pos (by lia),if_pos z1];rfl
     ·rw[if_neg (by lia),if_neg z1];by_cases z2:c.toNat<240
      ·rw[if_pos (by lia),if_pos z2];rfl
      ·rw[if_neg (by lia),if_pos (by lia),if_neg z2];rfl
    have m3:1<=X5 c.toNat:=by unfold X5;split <;> (try split) <;> lia
    rw[es,if_pos (by lia)];have ec:Zbv mk p (bs.drop p)=Vh.letter_ p (bs.drop p):=by
     unfold Zbv Vh.byNext;rw[Zz,e];dsimp only;rw[if_neg];intro z;rw[List.contains_eq_any_beq,List.any_eq_true] at z;walk_at "fp";obtain⟨y,hy,z⟩:=z;walk_at "fq";have:=hmk y hy;rw[<- eq_of_beq z] at this;lia
    rw[ec] at q1 q2;exact⟨YO _ _,ex5 r ta bs p c ⟨ rfl,R,e,h2.1,h2.2,q1,q2⟩⟩
   ·have es:ZeL (c.toNat:Int)=0:=by
     unfold ZeL;rw[if_neg (by lia),if_neg (by lia),if_neg (by lia),if_neg (by lia)]
    rw[es,if_neg (by decide),if_pos rfl];exact⟨by decide,q2 p H (er (by lia) h2) R⟩
noncomputable def lV (x:List Nat):List V:=x.map fun(n:Nat)=>V.int (n:Int)
theorem Zy (x:List Nat):(lV x).length=x.length:=by unfold lV;rw[y03]
theorem ZiO (x:List Nat)(n:Nat):lV x++[V.int (n:Int)]=lV (x++[n]):=by unfold lV;rw[y07];rfl
def OutT (K:Frag)(a:Ad)(H:Hp)(r ta:Addr)(bs mk:List UInt8)(p k:Nat)(Q:VK)(E:XK):Prop :=
 (∀x p' H' l,someChars_ mk k p (bs.drop p)=.ok (x,p',bs.drop p')->x.length<=k->1<=x.length->H l=none->l≠r->Kp [r] H H'->H' l=some (.lst (lV x))->Rdr K a H' r ta bs p'->Q (.ref l) H') /\
 ∀p' H',(someChars_ mk k p (bs.drop p)=.error p'\/∃x,someChars_ mk k p (bs.drop p)=.ok (x,p',bs.drop p')/\pk bs p'≠32/\pk bs p'≠10)->Rdr K a H' r ta bs p'->E (.ref a.CE) none H'
def MkOk (K:Frag)(H:Hp)(r ma:Addr)(mk:List UInt8):Prop:=(∀H',Kp [r] H H'->SqT K H' ma (bsV mk))/\∀c∈mk,33<=c.toNat/\c.toNat<128
theorem MkOk.kp {H H':Hp}{r ma:Addr}{mk:List UInt8}(h:MkOk K H r ma mk)(k:Kp [r] H H'):MkOk K H' r ma mk:=⟨fun H2 k2=>h.1 H2 (k.trans k2),h.2⟩
noncomputable def Zh2 (bs mk:List UInt8)(p:Nat):Bool:=decide (pk bs p=32) || decide (pk bs p=10) || (X6.contains (pk bs p) && !(mk.map fun c=>(c.toNat:Int)).contains (pk bs p))
theorem Zky (mk:List UInt8):bsV mk=(mk.map fun c=>(c.toNat:Int)).map V.int:=by unfold bsV;rw[List.map_map];rfl
theorem ZlW {bs mk:List UInt8}{p:Nat}(h:X6.contains (pk bs p)=true)(h2:(mk.map fun c=>(c.toNat:Int)).contains (pk bs p)=false):cS bs mk p=false:=by
 unfold cS;cases e:bs[p]? with
 | none=>rfl
 | some x =>
  rw[ZdY e] at h h2;dsimp only;rw[Bool.or_eq_false_iff];constructor
  ·cases z:mk.contains x with
   | false=>rfl
   | true =>
    have:(mk.map fun c=>(c.toNat:Int)).contains (x.toNat:Int)=true:=List.contains_iff_mem.mpr (y0k.mpr ⟨x,List.contains_iff_mem.mp z,rfl⟩);rw[this] at h2;cases h2
  ·have hm:Vh.MARKS.contains x.toNat=true:=by
    have:=List.contains_iff_mem.mp h;refine List.contains_iff_mem.mpr ?_;have e2:X6=Vh.MARKS.map fun(n:Nat)=>(n:Int):=by decide
    rw[e2] at this;obtain⟨y,hy,hy2⟩:=y0k.mp this;have hy3:y=x.toNat:=by lia
    rw[<- hy3];exact hy
   have hlt:x.toNat<128:=by
    have h':=List.contains_iff_mem.mp hm;have:∀y∈Vh.MARKS,y<128:=by decide
    exact this _ h'
   unfold Vh.startsLetter;rw[if_pos hlt];unfold Vh.isLetter;rw[hm];simp
def XD (K:Frag)(a:Ad):Sp:=fun vs H Q _=>∃(r ma ta:Addr) (bs mk:List UInt8) (p:Nat),vs=[.ref r,.ref ma]/\Rdr K a H r ta bs p/\SqT K H ma (bsV mk)/\Q (.bl (Zh2 bs mk p)) H
noncomputable abbrev YN:Stmt:=Yv (top 70) 10
theorem XG:Zm ["self","marks","byte"] ["self","marks"] (Zh YN):=by walk_at "sc"
theorem Ux {f:Addr}{fd:FuncData}(F:Fun K "ends_thing" "Reader.ends_thing" YN f fd)(T:Txt K mg a)(c_Reader_peek:Yn P w K mg base CX0 1 a.CR "peek" ["self"] (Z3 K a)):FnOk P w K mg base CX0 2 f fd ["self","marks"] (XD K a):=by
 refine F.ok XG (by walk_at "ln") (fun cdv A outer s H vs Q E hr h=>?_);walk_at "fp";refine el6 h fun r ma ta bs mk p zq=>?_
 clear h;obtain⟨rfl,⟨dx,hR,hS,hne⟩,hma,q⟩:=zq;walk_at "fq";have nd:=XG.nd;refine⟨_,(Zb (Zl (i:=2) nd rfl (Or.inl rfl) (Xo (pv 0) T.clReader c_Reader_peek hr Zu)) (Ze (Zo (Zm7 (X4 JZ (pv 2) (Ja T.cENDS) (by with_unfolding_all rfl)) (ZkO (Zmi (X4 JZ (pv 2) (Ja T.cMARKS) (by with_unfolding_all rfl)) (ZkO (X4 Zbe (pv 2) (pv 1) (by with_unfolding_all rfl))))))))),?_⟩;have hR2:=hR;rw[Zky] at hma;unfold Zh2 at q;walk_at "rdr";refine⟨VZ _ _,ex4 r ta bs p ⟨ rfl,⟨dx,hR,hS,hne⟩,?_⟩⟩;generalize pk bs p=n at q ⊢;walk_at "rdr";refine⟨_,.inr (T.tENDS H),rfl,rfl,?_⟩;have e1:inV (V.int n) [V.int 32,V.int 10]=(decide (n=32) || decide (n=10)):=by
  rw[show[V.int 32,V.int 10]=([32,10]:List Int).map V.int from rfl,J7];show(n==32 || (n==10 || false))=_;rw[Bool.or_false];rfl
 rw[e1];by_cases h1:(decide (n=32) || decide (n=10))=true
 ·rw[if_pos h1];rw[h1,Bool.true_or] at q;exact q
 ·rw[if_neg h1];have h1:(decide (n=32) || decide (n=10))=false:=by simpa using h1
  rw[h1,Bool.false_or] at q;refine⟨_,.inr (T.tMARKS H),rfl,Zaa X6,?_⟩;rw[J7];by_cases h2:X6.contains n=true
  ·rw[if_pos h2];rw[h2,Bool.true_and] at q;refine⟨_,.inr hma,rfl,Zaa _,?_⟩;rw[J7];exact q
  ·rw[if_neg h2];have h2:X6.contains n=false:=by simpa using h2
   rw[h2,Bool.false_and] at q;exact q
def YC (K:Frag)(a:Ad):Sp:=fun vs H Q E=>∃(r ma ta:Addr) (bs mk:List UInt8) (p k:Nat),vs=[.ref r,.int (k:Int),.ref ma]/\Rdr K a H r ta bs p/\MkOk K H r ma mk/\1<=k/\k<=1000/\OutT K a H r ta bs mk p k Q E
noncomputable abbrev YL:Stmt:=Yv (top 70) 11
theorem XE:Zm ["self","most","marks","thing"] ["self","most","marks"] (Zh YL):=by walk_at "sc"
theorem Uv {f:Addr}{fd:FuncData}(F:Fun K "take_thing" "Reader.take_thing" YL f fd)(T:Txt K mg a)(c_Reader_take_character:Yn P w K mg base (CX1 P w a.CE) 3 a.CR "take_character" ["self","marks"] (YR K a))(c_Reader_ends_thing:Yn P w K mg base CX0 2 a.CR "ends_thing" ["self","marks"] (XD K a)):FnOk P w K mg base (CX1 P w a.CE) 4 f fd ["self","most","marks"] (YC K a):=by
 refine F.okE XE (by walk_at "ln") (fun cdv A outer s H vs Q E hr h=>?_);walk_at "fp";refine el7 h fun r ma ta bs mk p k zq=>?_
 clear h;obtain⟨rfl,⟨dx,hR,hS,hne⟩,hma,hk1,hk2,q1,q2⟩:=zq;walk_at "fq";have nd:=XE.nd;refine⟨_,(Zb (Zl (i:=3) nd rfl (Or.inl rfl) (ZW (Za (Zt (pv 0) T.clReader c_Reader_take_character hr Ye (Za (pv 2) Zc)) Zc))) (Zb (Yg PassesOwn.leaving (PW.pt (YV (Zn Xp (Zp Zj rfl T.len y13 (Za (pv 3) Zc)) (pv 1) (Zs _)) (YQ (UO (X1 (Zt (pv 0) T.clReader c_Reader_ends_thing hr Zu (Za (pv 2) Zc))))))) (Ze (Zr (Yj y0y y11 y12 ZZ (pv 3) (Za (Zt (pv 0) T.clReader c_Reader_take_character hr Ye (Za (pv 2) Zc)) Zc))))) (Ze (Zo (pv 3))))),?_⟩;walk_at "gs";have hR2:=hR;have R:Rdr K a H r ta bs p:=⟨dx,hR,hS,hne⟩;obtain⟨k',rfl⟩:∃k',k=k'+1:=⟨k-1,by lia⟩
 have hS0:=hS;have hm33:∀c∈mk,33<=c.toNat:=fun c hc=>(hma.2 c hc).1
 walk_at "gr";refine ex6 r ma ta bs mk p ⟨rfl,R,hma.1,fun c hc=>(hma.2 c hc).2,fun n p1 H1 e1 k1 R1=>?_,fun p1 H1 e1 R1=>?_⟩
 ·walk_at "gr";refine⟨(show 1<=sizeLine by decide),fun l hl=>?_⟩;walk_at "gr";have hs:cS bs mk p=true:=by
   cases z:cS bs mk p with
   | true=>rfl
   | false=>rw[Vd z] at e1;cases e1
  have lr:l≠r:=fun z=>by
   walk_at "fp";obtain⟨_,h,_⟩:=R1;walk_at "fq";rw[z,h] at hl;cases hl
  have hl0:H l=none:=k1.free (by simpa using lr) hl;obtain⟨W,hW⟩:∃W:WT,W=fun m σ H'=>∃(xs:List Nat) (p':Nat),σ=[some (.ref r),some (.int ((k'+1:Nat):Int)),some (.ref ma),some (.ref l)]/\H' l=some (.lst (lV xs))/\Rdr K a H' r ta bs p'/\Kp [r] H H'/\1<=xs.length/\xs.length<=k'+1 /\
   VhPage.chars_ mk (k'+1) p (bs.drop p)=preO xs (VhPage.chars_ mk (k'+1-xs.length) p' (bs.drop p'))/\m=k'+1-xs.length:=⟨_,rfl⟩
  walk_at "gr";refine⟨W,⟨_,by
   rw[hW];have k2:Kp [r] H1 (upd H1 l (HO.lst [V.int (n:Int)])):=Kp.new hl;have R2:Rdr K a (upd H1 l (HO.lst [V.int (n:Int)])) r ta bs p1:=by
    walk_at "fp";obtain⟨dx1,a1,a2,a3⟩:=R1;walk_at "fq";exact Rdr.move (dx:=dx1) a2 a3 k2 (Zx (Ne.symm lr) a1)
   exact ex2 [n] p1 ⟨rfl,Zd,R2,k1.trans k2,by simp,by simp,Zhn hs e1,rfl⟩⟩,fun m σ H2 hw=>?_⟩
  rw[hW] at hw;walk_at "fp";refine el2 hw fun xs p2 zq=>?_
  clear hw;obtain⟨rfl,hl2,⟨dx2,hR,hS,hne⟩,k2,x1,x2,eq,rfl⟩:=zq;walk_at "fq";have hR2:=hR;have R2:Rdr K a H2 r ta bs p2:=⟨dx2,hR,hS,hne⟩;have fin:(xs.length=k'+1\/cS bs mk p2=false)->Q (.ref l) H2:=fun h=>by
   have e:VhPage.chars_ mk (k'+1) p (bs.drop p)=.ok (xs,p2,bs.drop p2):=by
    rw[eq];rcases h with h | h
    ·rw[h,Nat.sub_self,VhPage.chars_];unfold Vh.gives;show Except.ok (xs++[],_,_)=_;rw[y08]
    ·rw[Zeh h];show Except.ok (xs++[],_,_)=_;rw[y08]
   exact q1 xs p2 H2 l (JJ e (by cases xs <;> simp at x1 ⊢)) x2 x1 hl0 lr k2 hl2 R2
  walk_at "gr";refine⟨_,.inl (.inl (.inl hl2)),?_⟩;walk_at "gr";rw[Zy];by_cases hlen:xs.length=k'+1
  ·rw[if_neg (by lia)];walk_at "gr";exact fin (.inl hlen)
  ·rw[if_pos (by lia)];walk_at "gr";refine ex6 r ma ta bs mk p2 ⟨rfl,R2,(hma.kp k2).1 _ Kp.refl,?_⟩;walk_at "gr";walk_at "gr";cases hend:Zh2 bs mk p2 with
   | true =>
    rw[if_neg (by decide)];walk_at "gr";refine fin (.inr ?_);unfold Zh2 at hend;rw[Bool.or_eq_true,Bool.or_eq_true,decide_eq_true_eq,decide_eq_true_eq,Bool.and_eq_true] at hend;rcases hend with hend | hend
    ·exact ZmW hm33 hend
    ·exact ZlW hend.1 (by simpa using hend.2)
   | false =>
     rw[if_pos rfl];walk_at "gr";have h32:pk bs p2≠32:=fun z=>by unfold Zh2 at hend;rw[z] at hend;simp at hend
     have h10:pk bs p2≠10:=fun z=>by unfold Zh2 at hend;rw[z] at hend;simp at hend
     walk_at "gr";refine⟨fun σ' H'=>∃m',m' < k'+1-xs.length/\W m' σ' H',fun _ _ z=>z,?_⟩;walk_at "gr";have ex:k'+1-xs.length=(k'+1-(xs.length+1))+1:=by lia
     walk_at "gr";refine⟨.inl ⟨rfl,_,.inl (.inl hl2)⟩,?_⟩;walk_at "gr";refine ex6 r ma ta bs mk p2 ⟨rfl,R2,(hma.kp k2).1,fun c hc=>(hma.2 c hc).2,fun n3 p3 H3 e3 k3 R3=>?_,fun p3 H3 e3 R3=>?_⟩
     ·have hs2:cS bs mk p2=true:=by
       cases z:cS bs mk p2 with
       | true=>rfl
       | false=>rw[Vd z] at e3;cases e3
      have hl3:H3 l=some (.lst (lV xs)):=k3 _ _ hl2 (by simpa using lr);walk_at "gr";refine⟨_,hl3,?_,k'+1-(xs.length+1),by lia,?_⟩
      ·rw[Zy];exact y0s (show xs.length<=1000 by lia) (by decide)
      ·rw[hW,ZiO];have k4:Kp [r] H (upd H3 l (HO.lst (lV (xs++[n3])))):=(k2.trans k3).put2 (.inr hl0);have R4:Rdr K a (upd H3 l (HO.lst (lV (xs++[n3])))) r ta bs p3:=by
        walk_at "fp";obtain⟨dx1,a1,a2,a3⟩:=R3;walk_at "fq";exact⟨dx1,Zx (Ne.symm lr) a1,k4.seq (by simpa using hne) hS0,hne⟩
       walk_at "gr";refine ex2 (xs++[n3]) p3 ⟨rfl,Zd,R4,k4,by simp,by simp;lia,?_,by simp⟩;walk_at "gr";rw[eq,ex,Zhn hs2 e3,W5];simp
     ·refine q2 p3 H3 ?_ R3;by_cases hs2:cS bs mk p2=true
      ·exact .inl (ZgM (by rw[eq,ex,Zfy hs2 e3];rfl))
      ·have hs2:cS bs mk p2=false:=by simpa using hs2
       rw[Vd hs2] at e3;injection e3 with e3;subst e3;refine .inr ⟨xs,JJ ?_ (by cases xs <;> simp at x1 ⊢),h32,h10⟩;rw[eq,Zeh hs2];show Except.ok (xs++[],_,_)=_;rw[y08]
 ·refine q2 p1 H1 (.inl ?_) R1;by_cases hs:cS bs mk p=true
  ·exact ZgM (Zfy hs e1)
  ·have hs:cS bs mk p=false:=by simpa using hs
   rw[Vd hs] at e1;injection e1 with e1;subst e1;exact ZjB (Zeh hs)
def LN (H H':Hp)(x:List Nat)(v:V):Prop:=∃l,v=.ref l/\H' l=some (.lst (lV x))/\H l=none
theorem Paired.snoc {α β:Type}{R:α->β->Prop}:∀{xs:List α}{ys:List β}{x:α}{y:β},Paired R xs ys->R x y->Paired R (xs++[x]) (ys++[y])
 | _,_,_,_,.nil,h=>.cons h .nil
 | _,_,_,_,.cons r t,h=>.cons r (Paired.snoc t h)
theorem Paired.app {α β:Type}{R:α->β->Prop}:∀{xs xs':List α}{ys ys':List β},Paired R xs ys->Paired R xs' ys'->Paired R (xs++xs') (ys++ys')
 | _,_,_,_,.nil,h=>h
 | _,_,_,_,.cons r t,h=>.cons r (Paired.app t h)
def OutR (K:Frag)(a:Ad)(H:Hp)(r ta:Addr)(bs mk:List UInt8)(p n k:Nat)(Q:VK)(E:XK):Prop :=
 (∀xs vs p' H' l,VhPage.row_ (someChars_ mk k) n p (bs.drop p)=(if pk bs p'=10 then .ok (xs,p'+1,bs.drop (p'+1)) else .error p')->1<=xs.length->xs.length<=n->(∀x∈xs,x.length<=k)->H l=none->Kp [r] H H'->H' l=some (.lst vs)->Paired (LN H H') xs vs ->
  Rdr K a H' r ta bs p'->Q (.ref l) H') /\
 ∀p' H',VhPage.row_ (someChars_ mk k) n p (bs.drop p)=.error p'->Rdr K a H' r ta bs p'->E (.ref a.CE) none H'
def Yr (K:Frag)(a:Ad):Sp:=fun vs H Q E=>∃(r ma ta:Addr) (bs mk:List UInt8) (p n k:Nat),vs=[.ref r,.int (n:Int),.int (k:Int),.ref ma]/\Rdr K a H r ta bs p/\MkOk K H r ma mk/\1<=n/\n<=8192/\1<=k/\k<=1000 /\
 OutR K a H r ta bs mk p n k Q E
noncomputable abbrev YF:Stmt:=Yv (top 70) 12
theorem Xk:Zm ["self","most_things","most","marks","things"] ["self","most_things","most","marks"] (Zh YF):=by walk_at "sc"
theorem V5 {f:Addr}{fd:FuncData}(F:Fun K "take_things" "Reader.take_things" YF f fd)(T:Txt K mg a)(c_Reader_take_thing:Yn P w K mg base (CX1 P w a.CE) 4 a.CR "take_thing" ["self","most","marks"] (YC K a))(c_Reader_sees:Yn P w K mg base CX0 2 a.CR "sees" ["self","sign"] (Z2 K a))(c_Reader_take:Yn P w K mg base (CX1 P w a.CE) 3 a.CR "take" ["self","sign"] (Z1 K a)):FnOk P w K mg base (CX1 P w a.CE) 5 f fd ["self","most_things","most","marks"] (Yr K a):=by
 refine F.okE Xk (by walk_at "ln") (fun cdv A outer s H vs Q E hr h=>?_);walk_at "fp";refine el8 h fun r ma ta bs mk p n k zq=>?_
 clear h;obtain⟨rfl,⟨dx,hR,hS,hne⟩,hma,hn1,hn2,hk1,hk2,q1,q2⟩:=zq;walk_at "fq";have nd:=Xk.nd;refine⟨_,(Zb (Zl (i:=4) nd rfl (Or.inl rfl) (ZW (Za (Zt (pv 0) T.clReader c_Reader_take_thing hr Ye (Za (pv 2) (Za (pv 3) Zc))) Zc))) (Zb (Yg PassesOwn.leaving (PW.pt (YV (X1 (Zt (pv 0) T.clReader c_Reader_sees hr Zu (Za ZB Zc))) (YQ (Zn Xp (Zp Zj rfl T.len y13 (Za (pv 4) Zc)) (pv 1) (Zs _))))) (Zb (Zr (Zt (pv 0) T.clReader c_Reader_take hr Ye (Za ZB Zc))) (Ze (Zr (Yj y0y y11 y12 ZZ (pv 4) (Za (Zt (pv 0) T.clReader c_Reader_take_thing hr Ye (Za (pv 2) (Za (pv 3) Zc))) Zc)))))) (Ze (Zo (pv 4))))),?_⟩;walk_at "gs";have hR2:=hR;have R:Rdr K a H r ta bs p:=⟨dx,hR,hS,hne⟩;have hS0:=hS;obtain⟨n',rfl⟩:∃n',n=n'+1:=⟨n-1,by lia⟩
 walk_at "gr";have bad:∀{m p1:Nat},(pk bs p1≠32/\pk bs p1≠10)->Xy (someChars_ mk k) m p1 (bs.drop p1)=.error p1:=fun h=>ZbM h.2 (.inr h.1)
 walk_at "gr";refine ex7 r ma ta bs mk p k ⟨rfl,R,hma,hk1,hk2,fun x p1 H1 l1 e1 x2 x1 hl1 l1r k1 hx R1=>?_,fun p1 H1 e1 R1=>?_⟩
 ·walk_at "gr";refine⟨(show 1<=sizeLine by decide),fun l hl=>?_⟩;walk_at "gr";have lr:l≠r:=fun z=>by
   walk_at "fp";obtain⟨_,h,_⟩:=R1;walk_at "fq";rw[z,h] at hl;cases hl
  have hl0:H l=none:=k1.free (by simpa using lr) hl;have ll1:l1≠l:=fun z=>by rw[z,hl] at hx;cases hx
  obtain⟨W,hW⟩:∃W:WT,W=fun m σ H'=>∃(xs:List (List Nat)) (vs:List V) (p':Nat),σ=[some (.ref r),some (.int ((n'+1:Nat):Int)),some (.int (k:Int)),some (.ref ma),some (.ref l)]/\H' l=some (.lst vs)/\Paired (fun x v=>LN H H' x v/\v≠.ref l) xs vs/\Rdr K a H' r ta bs p'/\Kp [r] H H'/\1<=xs.length/\xs.length<=n'+1/\(∀x∈xs,x.length<=k) /\
   VhPage.row_ (someChars_ mk k) (n'+1) p (bs.drop p)=preO xs (Xy (someChars_ mk k) (n'+1-xs.length) p' (bs.drop p'))/\m=n'+1-xs.length:=⟨_,rfl⟩
  walk_at "gr";refine⟨W,⟨_,by
   rw[hW];have k2:Kp [r] H1 (upd H1 l (HO.lst [V.ref l1])):=Kp.new hl;have R2:Rdr K a (upd H1 l (HO.lst [V.ref l1])) r ta bs p1:=by
    walk_at "fp";obtain⟨dx1,a1,a2,a3⟩:=R1;walk_at "fq";exact Rdr.move (dx:=dx1) a2 a3 k2 (Zx (Ne.symm lr) a1)
   exact ex3 [x] [.ref l1] p1 ⟨rfl,Zd,.cons ⟨⟨l1,rfl,Zx ll1 hx,hl1⟩,fun z=>ll1 (V.ref.inj z)⟩ .nil,R2,k1.trans k2,by simp,by simp,by simpa using x2,Zde e1,rfl⟩⟩,fun m σ H2 hw=>?_⟩
  rw[hW] at hw;walk_at "fp";refine el3 hw fun xs vs p2 zq=>?_
  clear hw;obtain⟨rfl,hl2,hP,⟨dx2,hR,hS,hne⟩,k2,x1,x2,x3,eq,rfl⟩:=zq;walk_at "fq";have hR2:=hR;have R2:Rdr K a H2 r ta bs p2:=⟨dx2,hR,hS,hne⟩;have hlen:=Paired.length hP;have fin:(xs.length=n'+1\/pk bs p2≠32)->Q (.ref l) H2:=fun h=>by
   refine q1 xs vs p2 H2 l ?_ x1 x2 x3 hl0 k2 hl2 (Paired.mapP hP fun _ _ z=>z.1) R2;rw[eq];by_cases h10:pk bs p2=10
   ·rw[ZkI h10,if_pos h10];show Except.ok (xs++[],_,_)=_;rw[y08]
   ·rw[ZbM h10 (h.imp (fun z=>by lia) id),if_neg h10];rfl
  walk_at "gr";refine ex6 r ta bs p2 _ 32 ⟨rfl,R2,by decide,by decide,?_⟩;walk_at "gr";walk_at "gr";by_cases h32:pk bs p2=32
  ·rw[if_pos (by simpa using h32)];walk_at "gr";refine⟨_,.inl (.inl (.inl hl2)),?_⟩;walk_at "gr";rw[<- hlen];by_cases hfull:xs.length=n'+1
   ·rw[if_neg (by lia)];walk_at "gr";exact fin (.inl hfull)
   ·rw[if_pos (by lia)];walk_at "gr";refine⟨fun σ' H'=>∃m',m' < n'+1-xs.length/\W m' σ' H',fun _ _ z=>z,?_⟩;walk_at "gr";have ex:n'+1-xs.length=(n'+1-(xs.length+1))+1:=by lia
    have eqt:VhPage.row_ (someChars_ mk k) (n'+1) p (bs.drop p)=preO xs (VhPage.row_ (someChars_ mk k) (n'+1-xs.length) (p2+1) (bs.drop (p2+1))):=by rw[eq,ZkH h32 (by lia)]
    walk_at "gr";refine ex6 r ta bs p2 _ 32 ⟨rfl,R2,by decide,by decide,fun _ p3 H3 e3 k3 R3=>?_,fun p3 H3 e3 R3=>?_⟩
    ·have ep:p3=p2+1:=by
      rw[Y6 (c:=32) h32] at e3;injection e3 with e3;injection e3 with _ e3;injection e3 with e3 _;exact e3.symm
     subst ep;walk_at "fp";obtain⟨dx3,hR,hS,hne⟩:=R3;walk_at "fq";have hR2:=hR;have R3:Rdr K a H3 r ta bs (p2+1):=⟨dx3,hR,hS,hne⟩;have hl3:H3 l=some (.lst vs):=k3 _ _ hl2 (by simpa using lr);simp only[tBM,U7];walk_at "gr";refine⟨.inl ⟨rfl,_,.inl (.inl hl3)⟩,?_⟩;walk_at "gr";refine ex7 r ma ta bs mk (p2+1) k ⟨rfl,R3,hma.kp (k2.trans k3),hk1,hk2,fun x p4 H4 l4 e4 y2 y1 hl4 l4r k4 hx4 R4=>?_,fun p4 H4 e4 R4=>?_⟩
     ·have hl4':H4 l=some (.lst vs):=k4 _ _ hl3 (by simpa using lr);have ne4:l4≠l:=fun z=>by rw[z,hl3] at hl4;cases hl4
      walk_at "gr";refine⟨_,hl4',?_,n'+1-(xs.length+1),by lia,?_⟩
      ·rw[<- hlen];exact y0s (show xs.length<=8192 by lia) (by decide)
      ·rw[hW];have k5:Kp [r] H (upd H4 l (HO.lst (vs++[V.ref l4]))):=((k2.trans k3).trans k4).put2 (.inr hl0);have R5:Rdr K a (upd H4 l (HO.lst (vs++[V.ref l4]))) r ta bs p4:=by
        walk_at "fp";obtain⟨dx1,a1,a2,a3⟩:=R4;walk_at "fq";exact⟨dx1,Zx (Ne.symm lr) a1,k5.seq (by simpa using hne) hS0,hne⟩
       walk_at "gr";refine ex3 (xs++[x]) (vs++[.ref l4]) p4 ⟨rfl,Zd,Paired.snoc (Paired.mapP hP ?_) ⟨⟨l4,rfl,Zx ne4 hx4,(k2.trans k3).free (by simpa using l4r) hl4⟩,fun z=>ne4 (V.ref.inj z)⟩,R5,k5,by simp,by simp;lia,fun z hz=>(y0d.mp hz).elim (x3 z) (fun h=>by rw[List.mem_singleton.mp h];exact y2),?_,by simp⟩
       ·rintro y v ⟨⟨b,rfl,hb,hb0⟩,nb⟩;have br:b≠r:=fun z=>by
         walk_at "fp";obtain⟨_,h,_⟩:=R;walk_at "fq";rw[z,h] at hb0;cases hb0
        have nb:b≠l:=fun z=>nb (by rw[z])
        exact⟨⟨b,rfl,Zx nb (k4 _ _ (k3 _ _ hb (by simpa using br)) (by simpa using br)),hb0⟩,fun z=>nb (V.ref.inj z)⟩
       ·rw[eqt,ex,Zde e4,W5];simp
     ·refine q2 p4 H4 ?_ R4;rw[eqt,ex];rcases e4 with e4 | ⟨x,e4,hb⟩
      ·rw[ZdV e4];rfl
      ·rw[Zde e4,bad hb];rfl
    ·rw[Y6 (c:=32) h32] at e3;cases e3
  ·rw[if_neg (by simpa using h32)];walk_at "gr";exact fin (.inr h32)
 ·refine q2 p1 H1 ?_ R1;rcases e1 with e1 | ⟨x,e1,hb⟩
  ·exact ZdV e1
  ·rw[Zde e1,bad hb];rfl
theorem Paired.get {α β:Type}{R:α->β->Prop}:∀{xs:List α}{ys:List β}{i:Nat}{y:β},Paired R xs ys->ys[i]?=some y->∃x,xs[i]?=some x/\R x y
 | _,_,_,_,.nil,e=>by simp at e
 | _,_,0,_,.cons r _,e=>by simp at e;subst e;exact ex1 _ (r)
 | _,_,i+1,y,.cons _ t,e=>by
  obtain⟨u,h1,h2⟩:=Paired.get (i:=i) (y:=y) t (by simpa using e);exact⟨u,by simpa using h1,h2⟩
theorem Paired.getL {α β:Type}{R:α->β->Prop}:∀{xs:List α}{ys:List β},Paired R xs ys->xs.length=ys.length
 | _,_,.nil=>rfl
 | _,_,.cons _ t=>by simp[Paired.getL t]
def XO (K:Frag)(a:Ad):Sp:=fun vs H Q E=>∃(r ab ta:Addr) (bs:List UInt8) (p:Nat) (bds:List (Nat×Nat)),vs=[.ref r,.ref ab]/\Rdr K a H r ta bs p/\BdT K ab bds/\bds.length<=8 /\
 (∀xs p' H' l,hdr bds p (bs.drop p)=.ok (xs,p',bs.drop p')->xs.length=bds.length->H l=none->Kp [r] H H'->H' l=some (.lst (lV xs))->Rdr K a H' r ta bs p'->Q (.ref l) H') /\
 ∀p' H',hdr bds p (bs.drop p)=.error p'->Rdr K a H' r ta bs p'->E (.ref a.CE) none H'
noncomputable abbrev Y1:Stmt:=Yv (top 70) 7
theorem XT:Zm ["self","all_bounds","numbers","bounds"] ["self","all_bounds"] (Zh Y1):=by walk_at "sc"
theorem Jf {f:Addr}{fd:FuncData}(F:Fun K "take_head" "Reader.take_head" Y1 f fd)(T:Txt K mg a)(c_Reader_take:Yn P w K mg base (CX1 P w a.CE) 3 a.CR "take" ["self","sign"] (Z1 K a))(c_Reader_take_number:Yn P w K mg base (CX1 P w a.CE) 3 a.CR "take_number" ["self","low","high"] (ZL K a)):FnOk P w K mg base (CX1 P w a.CE) 4 f fd ["self","all_bounds"] (XO K a):=by
 refine F.okE XT (by walk_at "ln") (fun cdv A outer s H vs Q E hr h=>?_);walk_at "fp";refine el6 h fun r ab ta bs p bds zq=>?_
 clear h;obtain⟨rfl,⟨dx,hR,hS,hne⟩,hB,hb8,q1,q2⟩:=zq;walk_at "fq";have nd:=XT.nd;refine⟨_,(Zb (Zl (i:=2) nd rfl (Or.inl rfl) (ZW Zc)) (Zb (Zr (Zt (pv 0) T.clReader c_Reader_take hr Ye (Za ZB Zc))) (Zb (Y7 PassesOwn.leaving rfl (Zmg (pv 1)) (ZK (i:=3) nd rfl (Or.inl rfl)) (Zb (ZV (Zn Jc (Zp Zj rfl T.len y13 (Za (pv 2) Zc)) Zg (Zs _)) (Ze (Zr (Zt (pv 0) T.clReader c_Reader_take hr Ye (Za ZB Zc)))) Zv) (Ze (Zr (Yj y0y y11 y12 ZZ (pv 2) (Za (Zt (pv 0) T.clReader c_Reader_take_number hr Ye (Za (ZE Yl (pv 3) Zg (fun _ _=>rfl)) (Za (ZE Yl (pv 3) Zg (fun _ _=>rfl)) Zc))) Zc)))))) (Zb (Zr (Zt (pv 0) T.clReader c_Reader_take hr Ye (Za ZB Zc))) (Ze (Zo (pv 2))))))),?_⟩;walk_at "gs";have hR2:=hR;have R:Rdr K a H r ta bs p:=⟨dx,hR,hS,hne⟩;have hS0:=hS;walk_at "fp";obtain⟨bv,tB,hP⟩:=hB;walk_at "fq";have hbl:=Paired.getL hP;walk_at "gr";refine⟨by decide,fun l hl=>?_⟩;walk_at "gr";have lr:l≠r:=fun z=>by rw[z,hR] at hl;cases hl
 have k0:Kp [r] H (upd H l (HO.lst [])):=Kp.new hl;have hR:upd H l (HO.lst []) r=some (HO.ins a.CR dx (rf ta p)):=Zx (Ne.symm lr) hR;have R0:Rdr K a (upd H l (HO.lst [])) r ta bs p:=Rdr.move (dx:=dx) hS hne k0 hR;walk_at "gr";refine ex6 r ta bs p _ 94 ⟨rfl,R0,by decide,by decide,fun _ p1 H1 e1 k1 R1=>?_,fun p1 H1 e1 R1=>q2 p1 H1 (ZX e1) R1⟩;walk_at "gr";obtain⟨Pv,hPv⟩:∃Pv:WT,Pv=fun i σ H'=>∃(xs:List Nat) (p':Nat) (o:Option V),σ=[some (.ref r),some (.ref ab),some (.ref l),o]/\xs.length=i/\H' l=some (.lst (lV xs))/\Rdr K a H' r ta bs p'/\Kp [r] H H'/\hdr bds p (bs.drop p)=hd (bds.drop i) xs p' (bs.drop p'):=⟨_,rfl⟩
 walk_at "gr";refine⟨_,rfl,_,rfl,⟨_,tB _⟩,ZlK (xs:=bv) Pv ?_ (fun _ _ _ _ _=>tB _) ?_ ?_⟩
 ·rw[hPv];walk_at "gr";refine ex3 [] p1 none ⟨rfl,rfl,k1 _ _ Zd (by simpa using lr),R1,k0.trans k1,?_⟩;walk_at "gr";unfold hdr;rw[ZJ e1,List.drop_zero]
 ·intro i v σ H2 hi hw;rw[hPv] at hw;walk_at "fp";refine el3 hw fun xs p2 o zq=>?_
  clear hw;obtain⟨rfl,hxl,hl2,⟨dx2,hR,hS,hne⟩,k2,eq⟩:=zq;walk_at "fq";have hR2:=hR;have R2:Rdr K a H2 r ta bs p2:=⟨dx2,hR,hS,hne⟩;walk_at "fp";obtain⟨bd,hbd,b,rfl,tb,hhi⟩:=Paired.get hP hi;walk_at "fq";have hib:=(y0a.mp hbd).1;have edrop:bds.drop i=bd::bds.drop (i+1):=by
   rw[List.drop_eq_getElem_cons hib];rw[y09 hib] at hbd;injection hbd with hbd;rw[hbd]
  rw[edrop] at eq
  -- the number and what follows
  have step:∀p3 H3,Rdr K a H3 r ta bs p3->Kp [r] H2 H3->hdr bds p (bs.drop p)=Vh.andThen (Vh.num bd.1 bd.2) (fun x=>hd (bds.drop (i+1)) (xs++[x])) p3 (bs.drop p3) ->
    ∀Qk:VK,(∀(x:Nat) H4,H4 l=some (.lst (lV xs))->Pv (i+1) [some (.ref r),some (.ref ab),some (.ref l),some (.ref b)] (upd H4 l (.lst (lV xs++[V.int (x:Int)])))->Qk (.int (x:Int)) H4) ->
    ZL K a [.ref r,.int (bd.1:Int),.int (bd.2:Int)] H3 Qk E:=fun p3 H3 R3 k3 eq3 Qk hQ=>by
   refine ex6 r ta bs p3 bd.1 bd.2 ⟨rfl,R3,hhi,fun x p4 H4 e4 _ _ k4 R4=>?_,fun p4 H4 e4 R4=>?_⟩
   ·have hl4:H4 l=some (.lst (lV xs)):=k4 _ _ (k3 _ _ hl2 (by simpa using lr)) (by simpa using lr);refine hQ x H4 hl4 ?_;rw[hPv,ZiO];have k5:Kp [r] H (upd H4 l (.lst (lV (xs++[x])))):=((k2.trans k3).trans k4).put2 (.inr hl);walk_at "fp";obtain⟨dx4,a1,a2,a3⟩:=R4;walk_at "fq";exact ex3 (xs++[x]) p4 _ ⟨rfl,by simp[hxl],Zd,⟨dx4,Zx (Ne.symm lr) a1,k5.seq (by simpa using hne) hS0,hne⟩,k5,by rw[eq3,ZJ e4]⟩
   ·exact q2 p4 H4 (by rw[eq3];exact Jg e4 fun x hd=>Zke hd _ _ (by simp)) R4
  walk_at "gr";refine⟨_,.inl (.inl (.inl hl2)),?_⟩;walk_at "gr";rw[Zy];by_cases h0:0<xs.length
  ·rw[if_pos (by lia)];walk_at "gr";have ne:xs≠[]:=by intro z;rw[z] at h0;simp at h0
   rw[hd_s _ _ _ ne] at eq;walk_at "gr";refine ex6 r ta bs p2 _ 32 ⟨rfl,R2,by decide,by decide,fun _ p3 H3 e3 k3 R3=>?_,fun p3 H3 e3 R3=>q2 p3 H3 (by rw[eq];exact ZX e3) R3⟩;walk_at "gr";rw[ZJ e3] at eq;have st:=step p3 H3 R3 k3 eq;walk_at "fp";obtain⟨dx3,hR,hS,hne⟩:=R3;walk_at "fq";have hR2:=hR;have hl3:H3 l=some (.lst (lV xs)):=k3 _ _ hl2 (by simpa using lr);walk_at "gr";refine⟨.inl ⟨rfl,_,.inl (.inl hl3)⟩,?_⟩;walk_at "gr";refine⟨_,tb _,_,rfl,?_⟩;walk_at "gr";refine⟨_,tb _,_,rfl,?_⟩;walk_at "gr";refine st _ fun x H4 hl4 hP4=>?_
   walk_at "gr";exact⟨_,hl4,by rw[Zy];exact y0s (show _<=8 by first | lia | (simp only[y04];lia)) (by decide),hP4⟩
  ·rw[if_neg (by lia)];walk_at "gr";have e:xs=[]:=by cases xs with | nil=>rfl | cons _ _=>simp at h0
   subst e;have st:=step p2 H2 R2 Kp.refl eq;walk_at "gr";refine⟨.inl ⟨rfl,_,.inl (.inl hl2)⟩,?_⟩;walk_at "gr";refine⟨_,tb _,_,rfl,?_⟩;walk_at "gr";refine⟨_,tb _,_,rfl,?_⟩;walk_at "gr";refine st _ fun x H4 hl4 hP4=>?_
   walk_at "gr";exact⟨_,hl4,by rw[Zy];exact y0s (show _<=8 by first | lia | (simp only[y04];lia)) (by decide),hP4⟩
 ·intro σ H2 hw;rw[hPv] at hw;walk_at "fp";refine el3 hw fun xs p2 o zq=>?_
  clear hw;obtain⟨rfl,hxl,hl2,⟨dx2,hR,hS,hne⟩,k2,eq⟩:=zq;walk_at "fq";have hR2:=hR;have R2:Rdr K a H2 r ta bs p2:=⟨dx2,hR,hS,hne⟩;rw[show bds.drop bv.length=[] from List.drop_of_length_le (by lia),hd] at eq;walk_at "gr";refine ex6 r ta bs p2 _ 10 ⟨rfl,R2,by decide,by decide,fun _ p3 H3 e3 k3 R3=>?_,fun p3 H3 e3 R3=>q2 p3 H3 (by rw[eq];exact ZX e3) R3⟩;walk_at "gr";rw[ZJ e3] at eq;have hl3:H3 l=some (.lst (lV xs)):=k3 _ _ hl2 (by simpa using lr);walk_at "gr";exact q1 xs p3 H3 l eq (by lia) hl (k2.trans k3) hl3 R3
theorem Zkj {K:Frag}{a:Addr}{xs:List V}{g:TG}{tb:TS}{D:Ends}{σ:L2.St}{H:Hp}(Pv:WT)(h0:Pv 0 σ H)(hl:∀i σ H,i<=xs.length->Pv i σ H->SqL K H a xs)
  (hs:∀i x σ H T,xs[i]?=some x->Pv i σ H->H T=none->g (.ref T) σ (upd H T (.tup [.int (i:Nat),x])) fun σ2 H2=>tb { D with nx:=Pv (i+1),ct:=Pv (i+1),bk:=D.nx } σ2 H2) (hd:∀σ H,Pv xs.length σ H->D.nx σ H) :
  ∃W:Nat->Nat->L2.St->Hp->Prop,(∃m,W 0 m σ H)/\∀i m σ H,W i m σ H ->
   ((Ite K a).stop i H/\D.nx σ H)\/((Ite K a).go i H/\∃N:L2.St->Hp->Prop,(∀σ' H',N σ' H'->∃m',m' < m/\W (i+1) m' σ' H')/\∀x H',(Ite K a).yld i H x H'->g x σ H' fun σ2 H2=>tb { D with nx:=N,ct:=N,bk:=D.nx } σ2 H2):=by
 refine⟨fun i m σ H=>i+m=xs.length/\Pv i σ H,⟨xs.length,by simp,h0⟩,?_⟩;rintro i m σ H ⟨hm,p⟩;have q:=hl i σ H (by lia) p;cases m with
 | zero =>
  have e:i=xs.length:=by lia
  subst e;exact .inl ⟨⟨xs,q,y0r _⟩,hd σ H p⟩
 | succ m =>
  refine .inr ⟨⟨xs,xs[i]'(by lia),q,by simp[show i<xs.length by lia]⟩,Pv (i+1),fun σ' H' p'=>⟨m,by lia,by lia,p'⟩,?_⟩;rintro v H' ⟨t,x,rfl,ht,rfl,hx⟩;exact hs i x σ H t (hx xs q) p ht
noncomputable def ZT (sep:Nat):List (List Nat)->List Nat
 | []=>[]
 | [x]=>x
 | x::y::r=>x++sep::ZT sep (y::r)
theorem ZaH (sep:Nat)(x:List Nat):∀(ys:List (List Nat)),ys≠[]->ZT sep (ys++[x])=ZT sep ys++sep::x
 | [],h=>absurd rfl h
 | [y],_=>rfl
 | y::z::r,_=>by
  show y++sep::ZT sep (z::r++[x])=(y++sep::ZT sep (z::r))++sep::x;rw[ZaH sep x (z::r) (by simp)];simp
theorem ZD {α:Type}{l:List α}{i:Nat}{x:α}(h:l[i]?=some x):l.take (i+1)=l.take i++[x]:=by
 rw[List.take_add_one,h];rfl
theorem Zfl (sep:Nat):∀(ys:List (List Nat)) (i:Nat),(ZT sep (ys.take i)).length<=(ZT sep ys).length
 | [],i=>by simp[ZT]
 | [y],i=>by cases i <;> simp[ZT]
 | y::z::r,i=>by
  cases i with
  | zero=>simp[ZT]
  | succ i =>
   cases i with
   | zero=>simp[ZT]
   | succ i =>
    have:=Zfl sep (z::r) (i+1);simp only[List.take_succ_cons,ZT,y01,y02] at this ⊢;lia
def VI (K:Frag)(a:Ad):Sp:=fun vs H Q _=>∃(lt:Addr) (us:List V) (xs:List (List Nat)) (sep:Nat),vs=[.ref lt,.int (sep:Int)]/\H lt=some (.lst us)/\Paired (fun x v=>∃l,v=V.ref l/\H l=some (.lst (lV x))) xs us/\(ZT sep xs).length<=16777216 /\
 ∀H' p,H p=none->Kp [] H H'->H' p=some (.lst (lV (ZT sep xs)))->Q (.ref p) H'
noncomputable abbrev ZdU:Stmt:=top 11
theorem ZeP:Zm ["things","between","characters","k","thing"] ["things","between"] (Zh ZdU):=by walk_at "sc"
theorem ZiF {f:Addr}{fd:FuncData}(F:Fun K "joined" "joined" ZdU f fd)(T:Txt K mg a):FnOk P w K mg base CX0 1 f fd ["things","between"] (VI K a):=by
 refine F.ok ZeP (by walk_at "ln") (fun cdv A outer s H vs Q E hr h=>?_);refine el4 h fun lt us xs sep zq=>?_
 clear h;obtain⟨rfl,hlt,hP,hlen,q⟩:=zq;have nd:=ZeP.nd;refine⟨_,(Zb (Zl (i:=2) nd rfl (Or.inl rfl) (ZW Zc)) (Zb (Y7 PassesOwn.never rfl (Zlf rfl T.enumerate (Za (pv 0) Zc)) (ZkM rfl (ZbA (ZK (i:=3) nd rfl (Or.inl rfl)) (ZbA (ZK (i:=4) nd rfl (Or.inl rfl)) Ziz))) (Zb (ZV (Zn Jc (pv 3) Zg (Zs _)) (Ze (Zr (Yj y0y y11 y12 ZZ (pv 2) (Za (pv 1) Zc)))) Zv) (Ze (Zr (Yj y0y y0z y10 ZG (pv 2) (Za (pv 4) Zc)))))) (Ze (Zo (pv 2))))),?_⟩;walk_at "rd";refine⟨by decide,fun l hl=>?_⟩;have nlt:lt≠l:=Zf hlt hl;obtain⟨Pv,hPv⟩:∃Pv:WT,Pv=fun i σ H'=>∃o1 o2:Option V,σ=[some (.ref lt),some (.int (sep:Int)),some (.ref l),o1,o2]/\Kp [] H H'/\H' l=some (.lst (lV (ZT sep (xs.take i)))):=⟨_,rfl⟩
 refine⟨_,rfl,_,_,rfl,.inl (.inl (Zx nlt hlt)),Zkj (xs:=us) Pv ?_ ?_ ?_ ?_⟩
 ·rw[hPv];exact ex2 none none ⟨rfl,Kp.new hl,by rw[Zd];rfl⟩
 ·intro i σ H' _ hw;rw[hPv] at hw;refine el2 hw fun o1 o2 zq=>?_
  clear hw;obtain⟨rfl,k,_⟩:=zq;exact .inl (.inl (k.z hlt))
 ·intro i v σ H2 t hi hw ht;rw[hPv] at hw;refine el2 hw fun o1 o2 zq=>?_
  clear hw;obtain⟨rfl,k,hl2⟩:=zq;obtain⟨x,hx,b,rfl,hb⟩:=Paired.get hP hi;have tl:l≠t:=Zf hl2 ht;have bl:b≠l:=Zf hb hl;have tot:=Zfl sep xs (i+1);rw[ZD hx] at tot;walk_at "rd";refine⟨_,.inl (.inl Zd),rfl,_,_,rfl,_,_,rfl,rfl,?_⟩;have hb2:H2 b=some (.lst (lV x)):=k.z hb;have bt:b≠t:=Zf hb2 ht;have hz:sizeLine=16777216:=by decide
  have lt2:upd H2 t (HO.tup [V.int (i:Int),V.ref b]) l=some (.lst (lV (ZT sep (xs.take i)))):=Zx tl hl2;have bt2:upd H2 t (HO.tup [V.int (i:Int),V.ref b]) b=some (.lst (lV x)):=Zx bt hb2;refine ex1 _ (?_);have kk:Kp [] H (upd H2 t (HO.tup [V.int (i:Int),V.ref b])):=k.trans (Kp.new ht);by_cases h0:0<i
  ·have ne:xs.take i≠[]:=by
    intro z;have h1:=congrArg List.length z;have h2:i<xs.length:=(y0a.mp hx).1;rw[y0h,y04] at h1;lia
   rw[ZaH sep x _ ne,y01,y02] at tot;rw[if_pos (by lia)];refine⟨.inl ⟨rfl,_,.inl (.inl lt2)⟩,_,lt2,by rw[Zy];lia,.inl ⟨rfl,_,.inl (.inl Zd)⟩,_,rfl,_,Zd,_,Zx bl bt2,by rw[y01,Zy,Zy];simp;lia,?_⟩;rw[hPv];refine ex2 _ _ ⟨rfl,(kk.put2 (.inr hl)).put2 (.inr hl),?_⟩;rw[Zd,ZD hx,ZaH sep x _ ne];unfold lV;simp
  ·have i0:i=0:=by lia
   subst i0;rw[if_neg (by lia)];refine⟨.inl ⟨rfl,_,.inl (.inl lt2)⟩,_,rfl,_,lt2,_,bt2,by rw[Zy,Zy];simp[ZT] at tot ⊢;lia,?_⟩;rw[hPv];refine ex2 _ _ ⟨rfl,kk.put2 (.inr hl),?_⟩;rw[Zd,ZD hx];simp[ZT,lV]
 ·intro σ H2 hw;rw[hPv] at hw;refine el2 hw fun o1 o2 zq=>?_
  clear hw;obtain⟨rfl,k,hl2⟩:=zq;walk_at "rd";refine q H2 l hl k ?_;rw[hl2,<- Paired.length hP,List.take_length]
noncomputable def wf (s:Settings)(r h p w g e:Addr):List (Str×V):=[("width",.int (s.width:Int)),("height",.int (s.height:Int)),("indent",.int (s.indent:Int)),("every",.int (s.every:Int)),("anew",.int (s.anew:Int)),("loose",.int (s.loose:Int)),
 ("rows",.ref r),("head",.ref h),("paragraphs",.ref p),("words",.ref w),("signs",.ref g),("entries",.ref e)]
theorem Xe {f:Str}{v:V}:∀{l:List (Str×V)},((l.map (·.1)).contains f)=false->putF f v l=l++[(f,v)]
 | [],_=>rfl
 | (g,x)::r,h=>by
  have h':(f==g || (r.map (·.1)).contains f)=false:=by simpa[List.contains_cons] using h
  rw[Bool.or_eq_false_iff] at h';show(if g=f then _ else _)=_;rw[if_neg (fun z=>by rw[z] at h';simp at h'),Xe h'.2];rfl
theorem Z5 {f:Str}{v:V}{fs:List (Str×V)}{n:Nat}(h:fs.length<=n):(putF f v fs).length<=n+1:=y0q (Ji f v fs) (by lia)
theorem Zm3 (s:Settings)(r h p w g e:Addr):putF "entries" (.ref e) (putF "signs" (.ref g) (putF "words" (.ref w) (putF "paragraphs" (.ref p) (putF "head" (.ref h) (putF "rows" (.ref r) (putF "loose" (.int (s.loose:Int)) (putF "anew" (.int (s.anew:Int))
  (putF "every" (.int (s.every:Int)) (putF "indent" (.int (s.indent:Int)) (putF "height" (.int (s.height:Int)) (putF "width" (.int (s.width:Int)) [])))))))))))=wf s r h p w g e:=by
 rw[Xe (l:=[]) rfl];simp only[List.cons_append,List.nil_append];rw[Xe (l:=[_]) rfl];simp only[List.cons_append,List.nil_append];rw[Xe (l:=[_,_]) rfl];simp only[List.cons_append,List.nil_append];rw[Xe (l:=[_,_,_]) rfl];simp only[List.cons_append,List.nil_append];rw[Xe (l:=[_,_,_,_]) rfl];simp only[List.cons_append,List.nil_append];rw[Xe (l:=[_,_,_,_,_]) rfl];simp only[List.cons_append,List.nil_append];rw[Xe (l:=[_,_,_,_,_,_]) rfl];simp only[List.cons_append,List.nil_append];rw[Xe (l:=[_,_,_,_,_,_,_]) rfl];simp only[List.cons_append,List.nil_append];rw[Xe (l:=[_,_,_,_,_,_,_,_]) rfl];simp only[List.cons_append,List.nil_append];rw[Xe (l:=[_,_,_,_,_,_,_,_,_]) rfl];simp only[List.cons_append,List.nil_append];rw[Xe (l:=[_,_,_,_,_,_,_,_,_,_]) rfl];simp only[List.cons_append,List.nil_append];rw[Xe (l:=[_,_,_,_,_,_,_,_,_,_,_]) rfl];simp only[List.cons_append,List.nil_append];rfl
theorem nd6 {r h p w g e:Addr}(h1:h≠r)(p1:p≠r)(p2:p≠h)(w1:w≠r)(w2:w≠h)(w3:w≠p)(g1:g≠r)(g2:g≠h)(g3:g≠p)(g4:g≠w)(e1:e≠r)(e2:e≠h)(e3:e≠p)(e4:e≠w)(e5:e≠g):[r,h,p,w,g,e].Nodup:=by
 simp[List.nodup_cons];exact⟨⟨h1.symm,p1.symm,w1.symm,g1.symm,e1.symm⟩,⟨p2.symm,w2.symm,g2.symm,e2.symm⟩,⟨w3.symm,g3.symm,e3.symm⟩,⟨g4.symm,e4.symm⟩,e5.symm⟩
structure Stg (a:Ad)(H G:Hp)(x dx:Addr)(F:List (Str×V))(l:List Addr):Prop where
 at_:G x=some (.ins a.CW dx F)
 kp:Kp [x] H G
 al:∀b∈l,H b=none/\G b=some (.lst [])/\b≠x
 nd:l.Nodup
theorem Stg.look {H G:Hp}{x dx p:Addr}{F:List (Str×V)}{l:List Addr}(S:Stg a H G x dx F l)(hp:G p=none):upd G p (.lst []) x=some (.ins a.CW dx F):=by
 rw[Zk (Zf S.at_ hp)];exact S.at_
theorem Stg.step {H G:Hp}{x dx p:Addr}{F:List (Str×V)}{l:List Addr}(S:Stg a H G x dx F l)(hp:G p=none)(f:Str):Stg a H (upd (upd G p (.lst [])) x (.ins a.CW dx (putF f (.ref p) F))) x dx (putF f (.ref p) F) (l++[p]):=by
 have px:p≠x:=fun z=>by rw[z,S.at_] at hp;cases hp
 refine⟨Zd,(S.kp.trans (Kp.new hp)).trans (Kp.put (by simp)),fun b hb=>?_,?_⟩
 ·rcases y0d.mp hb with h | h
  ·obtain⟨h1,h2,h3⟩:=S.al b h;exact⟨h1,by rw[Zk h3,Zk (Zf h2 hp)];exact h2,h3⟩
  ·have e:b=p:=by simpa using h
   subst e;exact⟨S.kp.free (by simpa using px) hp,by rw[Zk px,Zd],px⟩
 ·rw[List.nodup_append];refine⟨S.nd,by simp,fun b hb c hc=>?_⟩;have e:c=p:=by simpa using hc
  subst e;exact Zf (S.al b hb).2.1 hp
def ZaT (K:Frag)(a:Ad):Sp:=fun vs H Q _=>∃(x dx se:Addr) (s:Settings),vs=[.ref x,.ref se]/\H x=some (.ins a.CW dx [])/\H se=some (.lst [.int (s.width:Int),.int (s.height:Int),.int (s.indent:Int),.int (s.every:Int),.int (s.anew:Int),.int (s.loose:Int)]) /\
 ∀H' r h p w g e,Kp [x] H H'->H' x=some (.ins a.CW dx (wf s r h p w g e))->(∀b∈[r,h,p,w,g,e],H b=none/\H' b=some (.lst []))->[r,h,p,w,g,e].Nodup->Q .non H'
noncomputable abbrev U3:Stmt:=Yv (top 83) 0
theorem Za4:Zm ["self","settings"] ["self","settings"] (Zh U3):=by walk_at "sc"
theorem Ze9 {f:Addr}{fd:FuncData}(F:Fun K "__init__" "Work.__init__" U3 f fd)(T:Txt K mg a):FnOk P w K mg base CX0 1 f fd ["self","settings"] (ZaT K a):=by
 refine F.ok Za4 (by walk_at "ln") (fun cdv A outer s H vs Q E hr h=>?_);refine el4 h fun x dx se s zq=>?_
 clear h;obtain⟨rfl,hR,hse,q⟩:=zq;have nd:=Za4.nd;refine⟨_,(Zb (ZM (pv 0) (ZE ZA (pv 1) Zg (fun _ _=>rfl)) rfl) (Zb (ZM (pv 0) (ZE ZA (pv 1) Zg (fun _ _=>rfl)) rfl) (Zb (ZM (pv 0) (ZE ZA (pv 1) Zg (fun _ _=>rfl)) rfl) (Zb (ZM (pv 0) (ZE ZA (pv 1) Zg (fun _ _=>rfl)) rfl) (Zb (ZM (pv 0) (ZE ZA (pv 1) Zg (fun _ _=>rfl)) rfl) (Zb (ZM (pv 0) (ZE ZA (pv 1) Zg (fun _ _=>rfl)) rfl) (Zb (ZM (pv 0) (ZW Zc) rfl) (Zb (ZM (pv 0) (ZW Zc) rfl) (Zb (ZM (pv 0) (ZW Zc) rfl) (Zb (ZM (pv 0) (ZW Zc) rfl) (Zb (ZM (pv 0) (ZW Zc) rfl) (Ze (ZM (pv 0) (ZW Zc) rfl))))))))))))),?_⟩;have hR2:=hR;walk_at "gs";walk_at "gr";have sx:se≠x:=WM hse hR (by intro z;cases z);have hq:∀o,SqL K (upd H x o) se [.int (s.width:Int),.int (s.height:Int),.int (s.indent:Int),.int (s.every:Int),.int (s.anew:Int),.int (s.loose:Int)]:=fun o=>.inl (.inl (Zx sx hse))
 have l1:∀{u:V},(putF "width" u []).length<=1:=fun {u}=>Z5 (y0r 0)
 refine⟨_,.inl (.inl hse),_,rfl,g_v0 (X9 hR T.clWork T.n_width ⟨by decide,?_⟩)⟩;walk_at "gr";refine⟨_,hq _,_,rfl,g_v0 (Zct T.clWork T.n_height ⟨y0s l1 (by decide),?_⟩)⟩;walk_at "gr";refine⟨_,hq _,_,rfl,g_v0 (Zct T.clWork T.n_indent ⟨y0s (Z5 l1) (by decide),?_⟩)⟩;walk_at "gr";refine⟨_,hq _,_,rfl,g_v0 (Zct T.clWork T.n_every ⟨y0s (Z5 (Z5 l1)) (by decide),?_⟩)⟩;walk_at "gr";refine⟨_,hq _,_,rfl,g_v0 (Zct T.clWork T.n_anew ⟨y0s (Z5 (Z5 (Z5 l1))) (by decide),?_⟩)⟩;walk_at "gr";refine⟨_,hq _,_,rfl,g_v0 (Zct T.clWork T.n_loose ⟨y0s (Z5 (Z5 (Z5 (Z5 l1)))) (by decide),?_⟩)⟩;walk_at "gr";have l6:=Z5 (f:="loose") (v:=V.int (s.loose:Int)) (Z5 (f:="anew") (v:=V.int (s.anew:Int)) (Z5 (f:="every") (v:=V.int (s.every:Int)) (Z5 (f:="indent") (v:=V.int (s.indent:Int)) (Z5 (f:="height") (v:=V.int (s.height:Int)) (l1 (u:=V.int (s.width:Int)))))));have key:=Zm3 s;generalize hF6:putF "loose" (V.int (s.loose:Int)) (putF "anew" (V.int (s.anew:Int)) (putF "every" (V.int (s.every:Int)) (putF "indent" (V.int (s.indent:Int)) (putF "height" (V.int (s.height:Int)) (putF "width" (V.int (s.width:Int)) [])))))=F6 at l6 key ⊢;have hz:(0:Nat)<=sizeLine:=by decide
 have S0:Stg a H (upd H x (HO.ins a.CW dx F6)) x dx F6 []:=⟨Zd,Kp.put (by simp),fun b hb=>absurd hb (by simp),List.nodup_nil⟩;refine⟨hz,fun p0 h0=>g_v0 (X9 (S0.look h0) T.clWork T.n_rows ⟨by lia,?_⟩)⟩;walk_at "gr";have S1:=S0.step h0 "rows";refine⟨hz,fun p1 h1=>g_v0 (X9 (S1.look h1) T.clWork T.n_head ⟨y0s (Z5 l6) (by decide),?_⟩)⟩;walk_at "gr";have S2:=S1.step h1 "head";refine⟨hz,fun p2 h2=>g_v0 (X9 (S2.look h2) T.clWork T.n_paragraphs ⟨y0s (Z5 (Z5 l6)) (by decide),?_⟩)⟩;walk_at "gr";have S3:=S2.step h2 "paragraphs";refine⟨hz,fun p3 h3=>g_v0 (X9 (S3.look h3) T.clWork T.n_words ⟨y0s (Z5 (Z5 (Z5 l6))) (by decide),?_⟩)⟩;walk_at "gr";have S4:=S3.step h3 "words";refine⟨hz,fun p4 h4=>g_v0 (X9 (S4.look h4) T.clWork T.n_signs ⟨y0s (Z5 (Z5 (Z5 (Z5 l6)))) (by decide),?_⟩)⟩;walk_at "gr";have S5:=S4.step h4 "signs";refine⟨hz,fun p5 h5=>g_v0 (X9 (S5.look h5) T.clWork T.n_entries ⟨y0s (Z5 (Z5 (Z5 (Z5 (Z5 l6))))) (by decide),?_⟩)⟩;walk_at "gr";have S6:=S5.step h5 "entries";refine q _ p0 p1 p2 p3 p4 p5 S6.kp ?_ (fun b hb=>⟨(S6.al b hb).1,(S6.al b hb).2.1⟩) S6.nd;rw[<- key];exact S6.at_
theorem ZdF (s:Settings)(r h p w g e:Addr):(wf s r h p w g e).lookup ("rows":Str)=some (.ref r):=by rfl
theorem ZfP (s:Settings)(r h p w g e:Addr):(wf s r h p w g e).lookup ("head":Str)=some (.ref h):=by rfl
theorem XH (s:Settings)(r h p w g e:Addr):(wf s r h p w g e).lookup ("paragraphs":Str)=some (.ref p):=by rfl
theorem Jw (s:Settings)(r h p w g e:Addr):(wf s r h p w g e).lookup ("words":Str)=some (.ref w):=by rfl
theorem Zbx (s:Settings)(r h p w g e:Addr):(wf s r h p w g e).lookup ("signs":Str)=some (.ref g):=by rfl
theorem Uo (s:Settings)(r h p w g e:Addr):(wf s r h p w g e).lookup ("entries":Str)=some (.ref e):=by rfl
def WkAt (a:Ad)(H:Hp)(wk dw:Addr)(s:Settings)(r h p w g e:Addr):Prop:=H wk=some (.ins a.CW dw (wf s r h p w g e))
def TRow (H H':Hp)(x:Nat×Nat×Nat)(v:V):Prop:=∃t,v=.ref t/\H' t=some (.tup [.int (x.1:Int),.int (x.2.1:Int),.int (x.2.2:Int)])/\H t=none
def ZaQ (K:Frag)(a:Ad):Sp:=fun vs H Q E=>∃(r ta wk dw:Addr) (bs:List UInt8) (p:Nat) (s:Settings) (aR aH aP aW aS aE:Addr),vs=[.ref r,.ref wk]/\Rdr K a H r ta bs p/\WkAt a H wk dw s aR aH aP aW aS aE/\H aR=some (.lst [])/\r≠wk/\ta≠aR /\
 (∀xs us p' H',widths_ 64 33 p (bs.drop p)=.ok (xs,p',bs.drop p')->Kp [r,aR] H H'->H' aR=some (.lst us)->Paired (TRow H H') xs us->Rdr K a H' r ta bs p'->Q .non H') /\
 ∀p' H',widths_ 64 33 p (bs.drop p)=.error p'->Rdr K a H' r ta bs p'->E (.ref a.CE) none H'
noncomputable abbrev UY:Stmt:=top 84
theorem ZaZ:Zm ["reader","work","low","lo","hi","width"] ["reader","work"] (Zh UY):=by walk_at "sc"
theorem Ze4 {f:Addr}{fd:FuncData}(F:Fun K "read_rows" "read_rows" UY f fd)(T:Txt K mg a)(c_Reader_sees:Yn P w K mg base CX0 2 a.CR "sees" ["self","sign"] (Z2 K a))(c_Reader_take:Yn P w K mg base (CX1 P w a.CE) 3 a.CR "take" ["self","sign"] (Z1 K a))(c_Reader_take_number:Yn P w K mg base (CX1 P w a.CE) 3 a.CR "take_number" ["self","low","high"] (ZL K a)):FnOk P w K mg base (CX1 P w a.CE) 4 f fd ["reader","work"] (ZaQ K a):=by
 refine F.okE ZaZ (by walk_at "ln") (fun cdv A outer s H vs Q E hr h=>?_);refine el13 h fun r ta wk dw bs p s aR aH aP aW aS aE zq=>?_
 clear h;obtain⟨rfl,⟨dx,hR,hS,hne⟩,hWk,haR,rwk,taR,q1,q2⟩:=zq;have nd:=ZaZ.nd;refine⟨_,(Zb (Zl (i:=2) nd rfl (Or.inl rfl) (ZP T.cFIRST_LETTER)) (Ze (Yg PassesOwn.leaving (PW.pt (YV (X1 (Zt (pv 0) T.clReader c_Reader_sees hr Zu (Za ZB Zc))) (YV (Zn Xp (Zp Zj rfl T.len y13 (Za (Zq (pv 1) rfl) Zc)) (ZP T.cMOST_ROWS) (Zs _)) (YQ (Zn WC (pv 2) (ZP T.cLAST_CHARACTER) (Zs _)))))) (Zb (Zr (Zt (pv 0) T.clReader c_Reader_take hr Ye (Za ZB Zc))) (Zb (Zl (i:=3) nd rfl (Or.inl rfl) (Zt (pv 0) T.clReader c_Reader_take_number hr Ye (Za (pv 2) (Za (ZP T.cLAST_CHARACTER) Zc)))) (Zb (Zr (Zt (pv 0) T.clReader c_Reader_take hr Ye (Za ZB Zc))) (Zb (Zl (i:=4) nd rfl (Or.inl rfl) (Zt (pv 0) T.clReader c_Reader_take_number hr Ye (Za (pv 3) (Za (ZP T.cLAST_CHARACTER) Zc)))) (Zb (Zr (Zt (pv 0) T.clReader c_Reader_take hr Ye (Za ZB Zc))) (Zb (Zl (i:=5) nd rfl (Or.inl rfl) (Zt (pv 0) T.clReader c_Reader_take_number hr Ye (Za Zg (Za Zg Zc)))) (Zb (Zr (Zt (pv 0) T.clReader c_Reader_take hr Ye (Za ZB Zc))) (Zb (Zr (Yj y0y y11 y12 ZZ (Zq (pv 1) rfl) (Za (X3 (Za (pv 3) (Za (pv 4) (Za (pv 5) Zc)))) Zc))) (Ze (Zl (i:=2) nd rfl (Or.inl rfl) (Zw ZS (pv 4) Zg)))))))))))))),?_⟩;have hR2:=hR;have hWk:H wk=some (.ins a.CW dw (wf s aR aH aP aW aS aE)):=hWk;have hWk2:=hWk;have hWk0:=hWk;have R:Rdr K a H r ta bs p:=⟨dx,hR,hS,hne⟩;have hS0:=hS;have raR:r≠aR:=WM hR haR (by intro z;cases z);have wkaR:wk≠aR:=WM hWk haR (by intro z;cases z);have big:LARGEST<10 ^ 11:=by decide
 walk_at "gs";walk_at "gr";obtain⟨W,hW⟩:∃W:WT,W=fun m σ H'=>∃(xs:List (Nat×Nat×Nat)) (us:List V) (lo p':Nat) (o1 o2 o3:Option V),σ=[some (.ref r),some (.ref wk),some (.int (lo:Int)),o1,o2,o3]/\H' aR=some (.lst us)/\Paired (TRow H H') xs us/\Rdr K a H' r ta bs p'/\Kp [r,aR] H H'/\xs.length<=64 /\
  widths_ 64 33 p (bs.drop p)=preO xs (widths_ (64-xs.length) lo p' (bs.drop p'))/\m=64-xs.length:=⟨_,rfl⟩
 walk_at "gr";refine⟨W,⟨_,by
  rw[hW];exact ex7 [] [] 33 p none none none ⟨rfl,haR,.nil,R,Kp.refl,by simp,by rw[JX];rfl,rfl⟩⟩,fun m σ H2 hw=>?_⟩
 rw[hW] at hw;walk_at "fp";refine el7 hw fun xs us lo p2 o1 o2 o3 zq=>?_
 clear hw;obtain⟨rfl,hu,hP,⟨dx2,hR,hS,hne⟩,k2,x64,eq,rfl⟩:=zq;walk_at "fq";have hR2:=hR;have R2:Rdr K a H2 r ta bs p2:=⟨dx2,hR,hS,hne⟩;have hlen:=Paired.length hP;have hWk:H2 wk=some (.ins a.CW dw (wf s aR aH aP aW aS aE)):=k2 _ _ hWk0 (by simp[Ne.symm rwk,wkaR]);have hWk2:=hWk;have fin:(64-xs.length=0\/pk bs p2≠40\/LARGEST<lo)->Q .non H2:=fun h=>by
  refine q1 xs us p2 H2 ?_ k2 hu hP R2;rw[eq,ZfO h];show Except.ok (xs++[],_,_)=_;rw[y08]
 walk_at "gw";refine ex6 r ta bs p2 _ 40 ⟨rfl,R2,by decide,by decide,?_⟩;walk_at "gw";walk_at "gw";by_cases h40:pk bs p2=40
 ·rw[if_pos (by simpa using h40)];walk_at "gw";refine⟨_,.inl (.inl (.inl hu)),?_⟩;walk_at "gw";rw[<- hlen];by_cases hfull:xs.length=64
  ·rw[if_neg (by lia)];walk_at "gw";exact fin (.inl (by lia))
  ·rw[if_pos (by lia)];walk_at "gw";by_cases hbig:LARGEST<lo
   ·rw[if_neg (by unfold LARGEST at hbig;lia)];walk_at "gw";exact fin (.inr (.inr hbig))
   ·rw[if_pos (by unfold LARGEST at hbig;lia)];walk_at "gw";refine⟨fun σ' H'=>∃m',m' < 64-xs.length/\W m' σ' H',fun _ _ z=>z,?_⟩;walk_at "gw";have ex:64-xs.length=(64-(xs.length+1))+1:=by lia
    rw[ex,Zia h40 (by lia)] at eq;have er:∀{i:Nat},wRow (64-(xs.length+1)) lo (p2+1) (bs.drop (p2+1))=.error i->widths_ 64 33 p (bs.drop p)=.error i:=fun h=>by rw[eq,h];rfl
    unfold wRow at er eq;walk_at "gw";refine ex6 r ta bs p2 _ 40 ⟨rfl,R2,by decide,by decide,fun _ p3 H3 e3 k3 R3=>?_,fun p3 H3 e3 R3=>by rw[Y6 (c:=40) h40] at e3;cases e3⟩;walk_at "gw";have ep:p3=p2+1:=by
     rw[Y6 (c:=40) h40] at e3;injection e3 with e3;injection e3 with _ e3;injection e3 with e3 _;exact e3.symm
    subst ep;walk_at "fp";obtain⟨dx3,hR,hS,hne⟩:=R3;walk_at "fq";have hR2:=hR;have R3:Rdr K a H3 r ta bs (p2+1):=⟨dx3,hR,hS,hne⟩;walk_at "gw";refine ex6 r ta bs (p2+1) lo LARGEST ⟨rfl,R3,big,fun x p4 H4 e4 _ hx k4 R4=>?_,fun p4 H4 e4 R4=>q2 p4 H4 (er (Jg e4 fun x hd=>Xf hd)) R4⟩;walk_at "gw";rw[ZJ e4] at er eq;walk_at "fp";obtain⟨dx4,hR,hS,hne⟩:=R4;walk_at "fq";have hR2:=hR;have R4:Rdr K a H4 r ta bs p4:=⟨dx4,hR,hS,hne⟩;walk_at "gw";refine ex6 r ta bs p4 _ 32 ⟨rfl,R4,by decide,by decide,fun _ p5 H5 e5 k5 R5=>?_,fun p5 H5 e5 R5=>q2 p5 H5 (er (ZX e5)) R5⟩;walk_at "gw";rw[ZJ e5] at er eq;walk_at "fp";obtain⟨dx5,hR,hS,hne⟩:=R5;walk_at "fq";have hR2:=hR;have R5:Rdr K a H5 r ta bs p5:=⟨dx5,hR,hS,hne⟩;walk_at "gw";refine ex6 r ta bs p5 x LARGEST ⟨rfl,R5,big,fun y p6 H6 e6 hxy hy k6 R6=>?_,fun p6 H6 e6 R6=>q2 p6 H6 (er (Jg e6 fun x hd=>Xf hd)) R6⟩;walk_at "gw";rw[ZJ e6] at er eq;walk_at "fp";obtain⟨dx6,hR,hS,hne⟩:=R6;walk_at "fq";have hR2:=hR;have R6:Rdr K a H6 r ta bs p6:=⟨dx6,hR,hS,hne⟩;walk_at "gw";refine ex6 r ta bs p6 _ 32 ⟨rfl,R6,by decide,by decide,fun _ p7 H7 e7 k7 R7=>?_,fun p7 H7 e7 R7=>q2 p7 H7 (er (ZX e7)) R7⟩;walk_at "gw";rw[ZJ e7] at er eq;walk_at "fp";obtain⟨dx7,hR,hS,hne⟩:=R7;walk_at "fq";have hR2:=hR;have R7:Rdr K a H7 r ta bs p7:=⟨dx7,hR,hS,hne⟩;walk_at "gw";refine ex6 r ta bs p7 0 2 ⟨rfl,R7,by decide,fun z p8 H8 e8 _ hz k8 R8=>?_,fun p8 H8 e8 R8=>q2 p8 H8 (er (Jg e8 fun x hd=>Xf hd)) R8⟩;walk_at "gw";rw[ZJ e8] at er eq;walk_at "fp";obtain⟨dx8,hR,hS,hne⟩:=R8;walk_at "fq";have hR2:=hR;have R8:Rdr K a H8 r ta bs p8:=⟨dx8,hR,hS,hne⟩;walk_at "gw";refine ex6 r ta bs p8 _ 10 ⟨rfl,R8,by decide,by decide,fun _ p9 H9 e9 k9 R9=>?_,fun p9 H9 e9 R9=>q2 p9 H9 (er (ZX e9)) R9⟩;walk_at "gw";rw[ZJ e9,Zac] at eq;have k29:Kp [r] H2 H9:=((((((k3.trans k4).trans k5).trans k6).trans k7).trans k8).trans k9);have hWk:H9 wk=some (.ins a.CW dw (wf s aR aH aP aW aS aE)):=k29 _ _ hWk (by simp[Ne.symm rwk]);have hWk2:=hWk;have hu9:H9 aR=some (.lst us):=k29 _ _ hu (by simp[Ne.symm raR]);walk_at "gw";refine⟨.inl ⟨rfl,_,.inl (.inl hu9)⟩,?_⟩;walk_at "gw";refine⟨y0q (show 3<=1000 by decide) (by decide),fun t ht=>?_⟩;walk_at "gw";refine⟨us,Zx (Zf hu9 ht) hu9,by rw[<- hlen];exact y0s x64 (by decide),?_⟩;walk_at "gw";refine⟨64-(xs.length+1),by lia,?_⟩;walk_at "gw";rw[hW];have taR':t≠aR:=Ne.symm (Zf hu9 ht);have tr':t≠r:=fun z=>by obtain⟨_,h,_⟩:=R9;rw[z,h] at ht;cases ht
    have k9':Kp [r,aR] H H9:=k2.trans (k29.mono (by simp));have ht0:H t=none:=k9'.free (by simp[taR',tr']) ht;have kF:Kp [r,aR] H (upd (upd H9 t (HO.tup [V.int (x:Int),V.int (y:Int),V.int (z:Int)])) aR (HO.lst (us++[V.ref t]))):=(k9'.put2 (.inr ht0)).put2 (.inl (by simp));walk_at "fp";obtain⟨dx9,a1,a2,a3⟩:=R9;walk_at "fq";walk_at "gw";refine ex7 (xs++[(x,y,z)]) (us++[.ref t]) (y+1) p9 _ _ _ ⟨rfl,Zd,Paired.snoc (Paired.mapP hP ?_) ⟨t,rfl,by rw[Zk taR',Zd],ht0⟩,
     ⟨dx9,by rw[Zk raR,Zk (Ne.symm tr')];exact a1,kF.seq (by simp[hne,taR]) hS0,hne⟩,kF,by simp;lia,?_,by simp⟩
    ·rintro q v ⟨b,rfl,hb,hb0⟩;have br:b≠r:=fun z=>by obtain⟨_,h,_⟩:=R;rw[z,h] at hb0;cases hb0
     have baR:b≠aR:=fun z=>by rw[z,haR] at hb0;cases hb0
     have hb9:=k29 _ _ hb (by simp[br]);exact ex1 b (⟨by rw[Zk baR,Zk (Zf hb9 ht)];exact hb9,hb0⟩)
    ·rw[eq,W5];simp
 ·rw[if_neg (by simpa using h40)];walk_at "gw";exact fin (.inr (.inl h40))
def Zm0 (H H':Hp)(x:Nat×Nat)(v:V):Prop:=∃t,v=.ref t/\H' t=some (.tup [.int (x.1:Int),.int (x.2:Int)])/\H t=none
theorem Ve {bs:List UInt8}{p p':Nat}{c:UInt8}{x:Unit}(h:pk bs p=c.toNat)(e:Vh.byte_ c p (bs.drop p)=.ok (x,p',bs.drop p')):p'=p+1:=by
 rw[Y6 h] at e;injection e with e;injection e with _ e;injection e with e _;exact e.symm
def Wg (K:Frag)(a:Ad):Sp:=fun vs H Q E=>∃(r ta wk dw:Addr) (bs:List UInt8) (p:Nat) (s:Settings) (aR aH aP aW aS aE:Addr),vs=[.ref r,.ref wk]/\Rdr K a H r ta bs p/\WkAt a H wk dw s aR aH aP aW aS aE/\H aP=some (.lst [])/\H aW=some (.lst [])/\aP≠aW/\r≠wk/\ta≠aP/\ta≠aW /\
 (∀xs us vs p' H',paras_ 4096 8192 p (bs.drop p)=.ok (xs,p',bs.drop p')->xs.flatten.length<=8192->Kp [r,aP,aW] H H'->H' aW=some (.lst us)->Paired (LN H H') xs.flatten us->H' aP=some (.lst vs)->Paired (Zm0 H H') (JC 0 xs) vs->Rdr K a H' r ta bs p'->Q .non H') /\
 ∀p' H',paras_ 4096 8192 p (bs.drop p)=.error p'->Rdr K a H' r ta bs p'->E (.ref a.CE) none H'
noncomputable abbrev Xb:Stmt:=top 85
theorem Wm:Zm ["reader","work","first"] ["reader","work"] (Zh Xb):=by walk_at "sc"
theorem J1 {f:Addr}{fd:FuncData}(F:Fun K "read_paragraphs" "read_paragraphs" Xb f fd)(T:Txt K mg a)(c_Reader_sees:Yn P w K mg base CX0 2 a.CR "sees" ["self","sign"] (Z2 K a))(c_Reader_take:Yn P w K mg base (CX1 P w a.CE) 3 a.CR "take" ["self","sign"] (Z1 K a))(c_Reader_take_things:Yn P w K mg base (CX1 P w a.CE) 5 a.CR "take_things" ["self","most_things","most","marks"] (Yr K a)):FnOk P w K mg base (CX1 P w a.CE) 6 f fd ["reader","work"] (Wg K a):=by
 refine F.okE Wm (by walk_at "ln") (fun cdv A outer s H vs Q E hr h=>?_);refine el13 h fun r ta wk dw bs p s aR aH aP aW aS aE zq=>?_
 clear h;obtain⟨rfl,⟨dx,hR,hS,hne⟩,hWk,haP,haW,aPW,rwk,taP,taW,q1,q2⟩:=zq;have nd:=Wm.nd;refine⟨_,(Ze (Yg PassesOwn.leaving (PW.pt (YV (X1 (Zt (pv 0) T.clReader c_Reader_sees hr Zu (Za ZB Zc))) (YV (Zn Xp (Zp Zj rfl T.len y13 (Za (Zq (pv 1) rfl) Zc)) (ZP T.cMOST_PARAGRAPHS) (Zs _)) (YQ (Zn Xp (Zp Zj rfl T.len y13 (Za (Zq (pv 1) rfl) Zc)) (ZP T.cMOST_WORDS) (Zs _)))))) (Zb (Zr (Zt (pv 0) T.clReader c_Reader_take hr Ye (Za ZB Zc))) (Zb (Zl (i:=2) nd rfl (Or.inl rfl) (Zp Zj rfl T.len y13 (Za (Zq (pv 1) rfl) Zc))) (Zb (Zr (Yj y0y y0z y10 ZG (Zq (pv 1) rfl) (Za (Zt (pv 0) T.clReader c_Reader_take_things hr Ye (Za (Zw Z6 (ZP T.cMOST_WORDS) (pv 2)) (Za (ZP T.cMOST_LETTERS) (Za (X3 Zc) Zc)))) Zc))) (Zb (Zr (Yj y0y y11 y12 ZZ (Zq (pv 1) rfl) (Za (X3 (Za (pv 2) (Za (Zp Zj rfl T.len y13 (Za (Zq (pv 1) rfl) Zc)) Zc))) Zc))) (Ze (Zr (Zt (pv 0) T.clReader c_Reader_take hr Ye (Za ZB Zc)))))))))),?_⟩;walk_at "gs";have hR2:=hR;have hWk:H wk=some (.ins a.CW dw (wf s aR aH aP aW aS aE)):=hWk;have hWk2:=hWk;have hWk0:=hWk;have R:Rdr K a H r ta bs p:=⟨dx,hR,hS,hne⟩;have hS0:=hS;have raP:r≠aP:=WM hR haP (by intro z;cases z);have raW:r≠aW:=WM hR haW (by intro z;cases z);have wkaP:wk≠aP:=WM hWk haP (by intro z;cases z);have wkaW:wk≠aW:=WM hWk haW (by intro z;cases z);obtain⟨W,hW⟩:∃W:WT,W=fun m σ H'=>∃(xs:List (List (List Nat))) (us vs:List V) (p':Nat) (o:Option V),σ=[some (.ref r),some (.ref wk),o]/\H' aW=some (.lst us)/\Paired (LN H H') xs.flatten us/\H' aP=some (.lst vs)/\Paired (Zm0 H H') (JC 0 xs) vs/\Rdr K a H' r ta bs p'/\Kp [r,aP,aW] H H'/\xs.length<=4096/\xs.flatten.length<=8192 /\
  paras_ 4096 8192 p (bs.drop p)=preO xs (paras_ (4096-xs.length) (8192-xs.flatten.length) p' (bs.drop p'))/\m=4096-xs.length:=⟨_,rfl⟩
 walk_at "gw";refine⟨W,⟨_,by
  rw[hW];exact ex5 [] [] [] p none ⟨rfl,haW,.nil,haP,.nil,R,Kp.refl,by simp,by simp,by rw[JX];rfl,rfl⟩⟩,fun m σ H2 hw=>?_⟩
 rw[hW] at hw;walk_at "fp";refine el5 hw fun xs us vs p2 o zq=>?_
 clear hw;obtain⟨rfl,hu,hPu,hv,hPv,⟨dx2,hR,hS,hne⟩,k2,x1,x2,eq,rfl⟩:=zq;walk_at "fq";have hR2:=hR;have R2:Rdr K a H2 r ta bs p2:=⟨dx2,hR,hS,hne⟩;have hlu:=Paired.length hPu;have hlv:=Paired.length hPv;rw[JB] at hlv;have hWk:H2 wk=some (.ins a.CW dw (wf s aR aH aP aW aS aE)):=k2 _ _ hWk0 (by simp[Ne.symm rwk,wkaP,wkaW]);have hWk2:=hWk;have fin:(4096-xs.length=0\/pk bs p2≠62\/8192-xs.flatten.length=0)->Q .non H2:=fun h=>by
  refine q1 xs us vs p2 H2 ?_ x2 k2 hu hPu hv hPv R2;rw[eq,ZhM h];show Except.ok (xs++[],_,_)=_;rw[y08]
 walk_at "gw";refine ex6 r ta bs p2 _ 62 ⟨rfl,R2,by decide,by decide,?_⟩;walk_at "gw";walk_at "gw";by_cases h62:pk bs p2=62
 ·rw[if_pos (by simpa using h62)];walk_at "gw";refine⟨_,.inl (.inl (.inl hv)),?_⟩;walk_at "gw";rw[<- hlv];by_cases hfull:xs.length=4096
  ·rw[if_neg (by lia)];walk_at "gw";exact fin (.inl (by lia))
  ·rw[if_pos (by lia)];walk_at "gw";refine⟨_,.inl (.inl (.inl hu)),?_⟩;walk_at "gw";rw[<- hlu];by_cases hbig:xs.flatten.length=8192
   ·rw[if_neg (by lia)];walk_at "gw";exact fin (.inr (.inr (by lia)))
   ·rw[if_pos (by lia)];walk_at "gw";refine⟨fun σ' H'=>∃m',m' < 4096-xs.length/\W m' σ' H',fun _ _ z=>z,?_⟩;walk_at "gw";have ex:4096-xs.length=(4096-(xs.length+1))+1:=by lia
    rw[ex,ZjN h62 (by lia)] at eq;have er:∀{i:Nat},VhPage.row_ (someChars_ [] 64) (8192-xs.flatten.length) (p2+1) (bs.drop (p2+1))=.error i->paras_ 4096 8192 p (bs.drop p)=.error i:=fun h=>by rw[eq,ZX h];rfl
    walk_at "gw";refine ex6 r ta bs p2 _ 62 ⟨rfl,R2,by decide,by decide,fun _ p3 H3 e3 k3 R3=>?_,fun p3 H3 e3 R3=>by rw[Y6 (c:=62) h62] at e3;cases e3⟩;walk_at "gw";have ep:=Ve (c:=62) h62 e3;rw[ep] at R3;walk_at "fp";obtain⟨dx3,hR,hS,hne⟩:=R3;walk_at "fq";have hR2:=hR;have R3:Rdr K a H3 r ta bs (p2+1):=⟨dx3,hR,hS,hne⟩;have hWk:H3 wk=some (.ins a.CW dw (wf s aR aH aP aW aS aE)):=k3 _ _ hWk (by simp[Ne.symm rwk]);have hWk2:=hWk;have hu3:H3 aW=some (.lst us):=k3 _ _ hu (by simp[Ne.symm raW]);have hv3:H3 aP=some (.lst vs):=k3 _ _ hv (by simp[Ne.symm raP]);walk_at "gw";refine⟨_,.inl (.inl (.inl hu3)),?_⟩;walk_at "gw";refine⟨.inl ⟨rfl,_,.inl (.inl hu3)⟩,?_⟩;walk_at "gw";refine⟨by decide,fun t ht=>?_⟩;walk_at "gw";have tr:t≠r:=fun z=>by rw[z,hR] at ht;cases ht
    have kt:Kp [r] H3 (upd H3 t (HO.tup [])):=Kp.new ht;have hR:upd H3 t (HO.tup []) r=some (HO.ins a.CR dx3 (rf ta ((p2+1:Nat):Int))):=Zx (Ne.symm tr) hR;have R4:Rdr K a (upd H3 t (HO.tup [])) r ta bs (p2+1):=Rdr.move (dx:=dx3) hS hne kt hR;have hR2:=hR;have e8:(8192:Int)-(us.length:Int)=((8192-xs.flatten.length:Nat):Int):=by rw[<- hlu];lia
    rw[e8];have mk0:MkOk K (upd H3 t (HO.tup [])) r t []:=⟨fun H' k'=>.inl (.inl (k' _ _ Zd (by simp[tr]))),fun c hc=>absurd hc (by simp)⟩;walk_at "gw";refine ex8 r t ta bs [] (p2+1) (8192-xs.flatten.length) 64 ⟨rfl,R4,mk0,by lia,by lia,by lia,by lia,fun ys ws p5 H5 l5 e5 y1 y2 y3 hl5 k5 hl5' hPw R5=>?_,fun p5 H5 e5 R5=>q2 p5 H5 (er e5) R5⟩;walk_at "gw";have k25:Kp [r] H2 H5:=(k3.trans kt).trans k5;have hu5:H5 aW=some (.lst us):=k25 _ _ hu (by simp[Ne.symm raW]);have hv5:H5 aP=some (.lst vs):=k25 _ _ hv (by simp[Ne.symm raP]);have lW:aW≠l5:=fun z=>by
     rw[<- z,Zk (Zf hu3 ht),hu3] at hl5;cases hl5
    have hlw:=Paired.length hPw;walk_at "gw";refine ex2 us ws ⟨hu5,hl5',by rw[<- hlu,<- hlw];exact y0q (show _<=8192 by lia) (by decide),?_⟩;walk_at "gw"
    -- behind extend
    have k25':Kp [r,aP,aW] H H5:=k2.trans (k25.mono (by simp));have kE:Kp [r,aP,aW] H (upd H5 aW (HO.lst (us++ws))):=k25'.put2 (.inl (by simp));walk_at "fp";obtain⟨dx5,hR,hS,hne⟩:=R5;walk_at "fq";have hR:upd H5 aW (HO.lst (us++ws)) r=some (HO.ins a.CR dx5 (rf ta (p5:Int))):=Zx raW hR;have hR2:=hR;have hWk:upd H5 aW (HO.lst (us++ws)) wk=some (.ins a.CW dw (wf s aR aH aP aW aS aE)):=Zx wkaW (k25 _ _ (k2 _ _ hWk0 (by simp[Ne.symm rwk,wkaP,wkaW])) (by simp[Ne.symm rwk]));have hWk2:=hWk;have hv6:upd H5 aW (HO.lst (us++ws)) aP=some (.lst vs):=Zx aPW hv5;walk_at "gw";refine⟨.inl ⟨rfl,_,.inl (.inl hv6)⟩,?_⟩;walk_at "gw";refine⟨_,.inl (.inl (.inl Zd)),?_⟩;walk_at "gw";refine⟨(show 2<=sizeLine by decide),fun t2 ht2=>?_⟩;walk_at "gw";refine⟨vs,Zx (Zf hv6 ht2) hv6,by rw[<- hlv];exact y0s x1 (by decide),?_⟩;walk_at "gw";have t2P:t2≠aP:=Ne.symm (Zf hv6 ht2);have t2W:t2≠aW:=fun z=>by rw[z,Zd] at ht2;cases ht2
    have t2r:t2≠r:=fun z=>by rw[z,hR] at ht2;cases ht2
    have ht20:H t2=none:=kE.free (by simp[t2P,t2W,t2r]) ht2;generalize hG:upd (upd (upd H5 aW (HO.lst (us++ws))) t2 (HO.tup [V.int (us.length:Int),V.int ((us++ws).length:Int)])) aP (HO.lst (vs++[V.ref t2]))=G;have kG:Kp [r,aP,aW] H G:=by rw[<- hG];exact(kE.put2 (.inr ht20)).put2 (.inl (by simp))
    have GR:G r=some (HO.ins a.CR dx5 (rf ta (p5:Int))):=by rw[<- hG,Zk raP,Zk (Ne.symm t2r)];exact hR
    have RG:Rdr K a G r ta bs p5:=⟨dx5,GR,kG.seq (by simp[hne,taP,taW]) hS0,hne⟩;have GW:G aW=some (.lst (us++ws)):=by rw[<- hG,Zk (Ne.symm aPW),Zk (Ne.symm t2W),Zd]
    have GP:G aP=some (.lst (vs++[V.ref t2])):=by rw[<- hG,Zd]
    have Gt:G t2=some (.tup [V.int (us.length:Int),V.int ((us++ws).length:Int)]):=by rw[<- hG,Zk t2P,Zd]
    have keep:∀b o,H5 b=some o->b≠aW->b≠aP->G b=some o:=fun b o e n1 n2=>by
     have e6:upd H5 aW (HO.lst (us++ws)) b=some o:=Zx n1 e;rw[<- hG,Zk n2,Zk (Zf e6 ht2)];exact e6
    clear hG;have hR:=GR;have hR2:=hR;walk_at "gw";refine ex6 r ta bs p5 _ 10 ⟨rfl,RG,by decide,by decide,fun _ p6 H6 e6 k6 R6=>?_,fun p6 H6 e6 R6=>?_⟩
    ·have h10:pk bs p5=10:=by
      apply Decidable.byContradiction;intro z;rw[Vf (c:=10) z] at e6;cases e6
     have ep:=Ve (c:=10) h10 e6;rw[ep] at R6;rw[if_pos h10] at e5;rw[ZJ e5,Zac] at eq;walk_at "gw";refine⟨4096-(xs.length+1),by lia,?_⟩;walk_at "gw";rw[hW];have k6':Kp [r,aP,aW] H H6:=kG.trans (k6.mono (by simp));have fr:∀b,H b=none->b≠r/\b≠aP/\b≠aW:=fun b hb=>⟨fun z=>(by obtain⟨_,h,_⟩:=R;rw[z,h] at hb;cases hb),fun z=>(by rw[z,haP] at hb;cases hb),fun z=>(by rw[z,haW] at hb;cases hb)⟩
     walk_at "gw";refine ex5 (xs++[ys]) (us++ws) (vs++[.ref t2]) (p5+1) _ ⟨rfl,k6 _ _ GW (by simp[Ne.symm raW]),?_,k6 _ _ GP (by simp[Ne.symm raP]),?_,R6,k6',by simp;lia,?_,?_,by simp⟩
     ·rw[List.flatten_append,List.flatten_cons,List.flatten_nil,y08];refine Paired.app (Paired.mapP hPu ?_) (Paired.mapP hPw ?_)
      ·rintro q v ⟨b,rfl,hb,hb0⟩;walk_at "fp";obtain⟨n1,n2,n3⟩:=fr b hb0;walk_at "fq";exact ex1 b (⟨k6 _ _ (keep _ _ (k25 _ _ hb (by simp[n1])) n3 n2) (by simp[n1]),hb0⟩)
      ·rintro q v ⟨b,rfl,hb,hb0⟩;have br:b≠r:=fun z=>by obtain⟨_,h,_⟩:=R4;rw[z,h] at hb0;cases hb0
       have hb3:H3 b=none:=kt.free (by simpa using br) hb0;have bP:b≠aP:=fun z=>by rw[z,hv3] at hb3;cases hb3
       have bW:b≠aW:=fun z=>by rw[z,hu3] at hb3;cases hb3
       exact ex1 b (⟨k6 _ _ (keep _ _ hb bW bP) (by simp[br]),(k2.trans (k3.mono (by simp))).free (by simp[br,bP,bW]) hb3⟩)
     ·rw[Zc8];refine Paired.snoc (Paired.mapP hPv ?_) ⟨t2,rfl,?_,ht20⟩
      ·rintro q v ⟨b,rfl,hb,hb0⟩;walk_at "fp";obtain⟨n1,n2,n3⟩:=fr b hb0;walk_at "fq";exact ex1 b (⟨k6 _ _ (keep _ _ (k25 _ _ hb (by simp[n1])) n3 n2) (by simp[n1]),hb0⟩)
      ·have:=k6 _ _ Gt (by simp[t2r]);rw[this,y01,<- hlu,<- hlw];simp
     ·rw[List.flatten_append,y01,List.flatten_cons,List.flatten_nil,y08];lia
     ·rw[eq,W5];simp[Nat.sub_sub,Nat.add_comm]
    ·by_cases h10:pk bs p5=10
     ·rw[Y6 (c:=10) h10] at e6;cases e6
     ·rw[Vf (c:=10) h10] at e6;injection e6 with e6;subst e6;rw[if_neg h10] at e5;exact q2 _ H6 (er e5) R6
 ·rw[if_neg (by simpa using h62)];walk_at "gw";exact fin (.inr (.inl h62))
theorem Zjk:bsV VhPage.MARKBYTES=X6.map V.int:=by decide +kernel
theorem Zls (T:Txt K mg a)(H:Hp)(r:Addr):MkOk K H r a.aMARKS VhPage.MARKBYTES:=⟨fun H' _=>by rw[Zjk];exact T.tMARKS H',by decide +kernel⟩
theorem Zlt (T:Txt K mg a)(H:Hp)(r:Addr):MkOk K H r a.aCARET [94]:=⟨fun H' _=>T.tCARET H',by decide +kernel⟩
def UB (K:Frag)(a:Ad):Sp:=fun vs H Q E=>∃(r ta:Addr) (bs:List UInt8) (p n:Nat),vs=[.ref r,.int (n:Int)]/\Rdr K a H r ta bs p/\n<=8192 /\
 (∀xs us p' H' l,VhPage.tokens_ n p (bs.drop p)=(if pk bs p'=10 then .ok (xs,p'+1,bs.drop (p'+1)) else .error p')->xs.length<=n->H l=none->Kp [r] H H'->H' l=some (.lst us)->Paired (LN H H') xs us->Rdr K a H' r ta bs p'->Q (.ref l) H') /\
 ∀p' H',VhPage.tokens_ n p (bs.drop p)=.error p'->Rdr K a H' r ta bs p'->E (.ref a.CE) none H'
noncomputable abbrev WW:Stmt:=top 87
theorem UF:Zm ["reader","most","tokens"] ["reader","most"] (Zh WW):=by walk_at "sc"
theorem ZcN {f:Addr}{fd:FuncData}(F:Fun K "read_tokens" "read_tokens" WW f fd)(T:Txt K mg a)(c_Reader_sees:Yn P w K mg base CX0 2 a.CR "sees" ["self","sign"] (Z2 K a))(c_Reader_take:Yn P w K mg base (CX1 P w a.CE) 3 a.CR "take" ["self","sign"] (Z1 K a))(c_Reader_take_thing:Yn P w K mg base (CX1 P w a.CE) 4 a.CR "take_thing" ["self","most","marks"] (YC K a)):FnOk P w K mg base (CX1 P w a.CE) 5 f fd ["reader","most"] (UB K a):=by
 refine F.okE UF (by walk_at "ln") (fun cdv A outer s H vs Q E hr h=>?_);refine el5 h fun r ta bs p n zq=>?_
 clear h;obtain⟨rfl,⟨dx,hR,hS,hne⟩,hn,q1,q2⟩:=zq;have nd:=UF.nd;refine⟨_,(Zb (Zl (i:=2) nd rfl (Or.inl rfl) (ZW Zc)) (Zb (Yg PassesOwn.leaving (PW.pt (YV (X1 (Zt (pv 0) T.clReader c_Reader_sees hr Zu (Za ZB Zc))) (YQ (Zn Xp (Zp Zj rfl T.len y13 (Za (pv 2) Zc)) (pv 1) (Zs _))))) (Zb (Zr (Zt (pv 0) T.clReader c_Reader_take hr Ye (Za ZB Zc))) (Zb (ZV (PW.pt (ZcL (X1 (Zt (pv 0) T.clReader c_Reader_sees hr Zu (Za ZB Zc))) (JU (X1 (Zt (pv 0) T.clReader c_Reader_sees hr Zu (Za ZB Zc)))))) (Ze (Wo T.exc rfl (Za ZB Zc))) Zv) (Ze (Zr (Yj y0y y11 y12 ZZ (pv 2) (Za (Zt (pv 0) T.clReader c_Reader_take_thing hr Ye (Za (ZP T.cMOST_LETTERS) (Za (Ja T.cMARKS) Zc))) Zc))))))) (Ze (Zo (pv 2))))),?_⟩;walk_at "gs";have hR2:=hR;have R:Rdr K a H r ta bs p:=⟨dx,hR,hS,hne⟩;have hS0:=hS;walk_at "gr";refine⟨by decide,fun l hl=>?_⟩;walk_at "gr";have lr:l≠r:=fun z=>by rw[z,hR] at hl;cases hl
 have k0:Kp [r] H (upd H l (HO.lst [])):=Kp.new hl;have R0:Rdr K a (upd H l (HO.lst [])) r ta bs p:=Rdr.move (dx:=dx) hS hne k0 (Zx (Ne.symm lr) hR);obtain⟨W,hW⟩:∃W:WT,W=fun m σ H'=>∃(xs:List (List Nat)) (us:List V) (p':Nat),σ=[some (.ref r),some (.int (n:Int)),some (.ref l)]/\H' l=some (.lst us)/\Paired (fun x v=>LN H H' x v/\v≠.ref l) xs us/\Rdr K a H' r ta bs p'/\Kp [r] H H'/\xs.length<=n /\
  VhPage.tokens_ n p (bs.drop p)=preO xs (Xy VhPage.token_ (n-xs.length) p' (bs.drop p'))/\m=n-xs.length:=⟨_,rfl⟩
 walk_at "gr";refine⟨W,⟨_,by
  rw[hW];exact ex3 [] [] p ⟨rfl,Zd,.nil,R0,k0,by simp,by rw[JX];rfl,rfl⟩⟩,fun m σ H2 hw=>?_⟩
 rw[hW] at hw;walk_at "fp";refine el3 hw fun xs us p2 zq=>?_
 clear hw;obtain⟨rfl,hl2,hP,⟨dx2,hR,hS,hne⟩,k2,x2,eq,rfl⟩:=zq;walk_at "fq";have hR2:=hR;have R2:Rdr K a H2 r ta bs p2:=⟨dx2,hR,hS,hne⟩;have hlen:=Paired.length hP;have fin:(xs.length=n\/pk bs p2≠32)->Q (.ref l) H2:=fun h=>by
  refine q1 xs us p2 H2 l ?_ x2 hl k2 hl2 (Paired.mapP hP fun _ _ z=>z.1) R2;rw[eq];by_cases h10:pk bs p2=10
  ·rw[ZkI h10,if_pos h10];show Except.ok (xs++[],_,_)=_;rw[y08]
  ·rw[ZbM h10 (h.imp (fun z=>by lia) id),if_neg h10];rfl
 walk_at "gr";refine ex6 r ta bs p2 _ 32 ⟨rfl,R2,by decide,by decide,?_⟩;walk_at "gr";walk_at "gr";by_cases h32:pk bs p2=32
 ·rw[if_pos (by simpa using h32)];walk_at "gr";refine⟨_,.inl (.inl (.inl hl2)),?_⟩;walk_at "gr";rw[<- hlen];by_cases hfull:xs.length=n
  ·rw[if_neg (by lia)];walk_at "gr";exact fin (.inl hfull)
  ·rw[if_pos (by lia)];walk_at "gr";refine⟨fun σ' H'=>∃m',m' < n-xs.length/\W m' σ' H',fun _ _ z=>z,?_⟩;walk_at "gr";have ex:n-xs.length=(n-(xs.length+1))+1:=by lia
   have eqt:VhPage.tokens_ n p (bs.drop p)=preO xs (VhPage.row_ VhPage.token_ (n-xs.length) (p2+1) (bs.drop (p2+1))):=by rw[eq,ZkH h32 (by lia)]
   walk_at "gr";refine ex6 r ta bs p2 _ 32 ⟨rfl,R2,by decide,by decide,fun _ p3 H3 e3 k3 R3=>?_,fun p3 H3 e3 R3=>by rw[Y6 (c:=32) h32] at e3;cases e3⟩;walk_at "gr";have ep:=Ve (c:=32) h32 e3;rw[ep] at R3;walk_at "fp";obtain⟨dx3,hR,hS,hne⟩:=R3;walk_at "fq";have hR2:=hR;have R3:Rdr K a H3 r ta bs (p2+1):=⟨dx3,hR,hS,hne⟩;have hl3:H3 l=some (.lst us):=k3 _ _ hl2 (by simpa using lr);have no:(pk bs (p2+1)=91\/pk bs (p2+1)=35)->E (.ref a.CE) none H3:=fun h=>q2 (p2+1) H3 (by rw[eqt,ex,ZdV (Zjw h)];rfl) R3
   walk_at "gr";refine ex6 r ta bs (p2+1) _ 91 ⟨rfl,R3,by decide,by decide,?_⟩;walk_at "gr";walk_at "gr";by_cases h91:pk bs (p2+1)=91
   ·rw[if_pos (by simpa using h91)];walk_at "gr";exact⟨by decide,no (.inl h91)⟩
   ·rw[if_neg (by simpa using h91)];walk_at "gr";refine ex6 r ta bs (p2+1) _ 35 ⟨rfl,R3,by decide,by decide,?_⟩;walk_at "gr";walk_at "gr";by_cases h35:pk bs (p2+1)=35
    ·rw[if_pos (by simpa using h35)];walk_at "gr";exact⟨by decide,no (.inr h35)⟩
    ·rw[if_neg (by simpa using h35)];walk_at "gr";have tok:=Zjv (bs:=bs) (p:=p2+1) h91 h35;walk_at "gr";refine⟨.inl ⟨rfl,_,.inl (.inl hl3)⟩,?_⟩;walk_at "gr";refine ex7 r _ ta bs VhPage.MARKBYTES (p2+1) 64 ⟨rfl,R3,Zls T H3 r,by decide,by decide,fun x p4 H4 l4 e4 y2 y1 hl4 l4r k4 hx4 R4=>?_,fun p4 H4 e4 R4=>?_⟩
     ·have hl4':H4 l=some (.lst us):=k4 _ _ hl3 (by simpa using lr);have ne4:l4≠l:=fun z=>by rw[z,hl3] at hl4;cases hl4
      rw[<- tok] at e4;walk_at "gr";refine⟨_,hl4',?_,n-(xs.length+1),by lia,?_⟩
      ·rw[<- hlen];exact y0s (show xs.length<=8192 by lia) (by decide)
      ·rw[hW];have k5:Kp [r] H (upd H4 l (HO.lst (us++[V.ref l4]))):=((k2.trans k3).trans k4).put2 (.inr hl);have R5:Rdr K a (upd H4 l (HO.lst (us++[V.ref l4]))) r ta bs p4:=by
        walk_at "fp";obtain⟨dx1,a1,a2,a3⟩:=R4;walk_at "fq";exact⟨dx1,Zx (Ne.symm lr) a1,k5.seq (by simpa using hne) hS0,hne⟩
       walk_at "gr";refine ex3 (xs++[x]) (us++[.ref l4]) p4 ⟨rfl,Zd,Paired.snoc (Paired.mapP hP ?_) ⟨⟨l4,rfl,Zx ne4 hx4,(k2.trans k3).free (by simpa using l4r) hl4⟩,fun z=>ne4 (V.ref.inj z)⟩,R5,k5,by simp;lia,?_,by simp⟩
       ·rintro y v ⟨⟨b,rfl,hb,hb0⟩,nb⟩;have br:b≠r:=fun z=>by
         walk_at "fp";obtain⟨_,h,_⟩:=R;walk_at "fq";rw[z,h] at hb0;cases hb0
        have nb:b≠l:=fun z=>nb (by rw[z])
        exact⟨⟨b,rfl,Zx nb (k4 _ _ (k3 _ _ hb (by simpa using br)) (by simpa using br)),hb0⟩,fun z=>nb (V.ref.inj z)⟩
       ·rw[eqt,ex,Zde e4,W5];simp
     ·refine q2 p4 H4 ?_ R4;rw[<- tok] at e4;rw[eqt,ex];rcases e4 with e4 | ⟨x,e4,hb⟩
      ·rw[ZdV e4];rfl
      ·rw[Zde e4,ZbM hb.2 (.inr hb.1)];rfl
 ·rw[if_neg (by simpa using h32)];walk_at "gr";exact fin (.inr h32)
def TEnt (H H':Hp)(x:VhPage.Entry)(v:V):Prop:=∃t l us,v=.ref t/\H' t=some (.tup [.int (x.first:Int),.int (x.count:Int),.ref l])/\H t=none/\H' l=some (.lst us)/\H l=none/\Paired (LN H H') x.toks us
def VE (K:Frag)(a:Ad):Sp:=fun vs H Q E=>∃(r ta wk dw:Addr) (bs:List UInt8) (p n:Nat) (s:Settings) (us:List V) (aR aH aP aW aS aE:Addr),vs=[.ref r,.ref wk]/\Rdr K a H r ta bs p/\WkAt a H wk dw s aR aH aP aW aS aE/\H aE=some (.lst [])/\H aW=some (.lst us)/\us.length=n/\n<=8192/\aE≠aW/\r≠wk/\ta≠aE /\
 (∀xs vs p' H',entries_ n 4096 0 65536 p (bs.drop p)=.ok (xs,p',bs.drop p')->Kp [r,aE] H H'->H' aE=some (.lst vs)->Paired (TEnt H H') xs vs->Rdr K a H' r ta bs p'->Q .non H') /\
 ∀p' H',entries_ n 4096 0 65536 p (bs.drop p)=.error p'->Rdr K a H' r ta bs p'->E (.ref a.CE) none H'
noncomputable abbrev Wv:Stmt:=top 88
theorem VM:Zm ["reader","work","left","first","count","tokens"] ["reader","work"] (Zh Wv):=by walk_at "sc"
theorem Zcc {f:Addr}{fd:FuncData}(F:Fun K "read_entries" "read_entries" Wv f fd)(T:Txt K mg a)(c_Reader_sees:Yn P w K mg base CX0 2 a.CR "sees" ["self","sign"] (Z2 K a))(c_Reader_take:Yn P w K mg base (CX1 P w a.CE) 3 a.CR "take" ["self","sign"] (Z1 K a))(c_Reader_take_number:Yn P w K mg base (CX1 P w a.CE) 3 a.CR "take_number" ["self","low","high"] (ZL K a))(c_read_tokens:FnC P w K mg base (CX1 P w a.CE) 5 "read_tokens" ["reader","most"] (UB K a)):FnOk P w K mg base (CX1 P w a.CE) 6 f fd ["reader","work"] (VE K a):=by
 refine F.okE VM (by walk_at "ln") (fun cdv A outer s H vs Q E hr h=>?_);refine el15 h fun r ta wk dw bs p n s us aR aH aP aW aS aE zq=>?_
 clear h;obtain⟨rfl,⟨dx,hR,hS,hne⟩,hWk,haE,haW,hun,hn,aEW,rwk,taE,q1,q2⟩:=zq;have nd:=VM.nd;refine⟨_,(Zb (Zl (i:=2) nd rfl (Or.inl rfl) (ZP T.cMOST_TOKENS)) (Zb (Zl (i:=3) nd rfl (Or.inl rfl) Zg) (Ze (Yg PassesOwn.leaving (PW.pt (YV (X1 (Zt (pv 0) T.clReader c_Reader_sees hr Zu (Za ZB Zc))) (YV (Zn Xp (Zp Zj rfl T.len y13 (Za (Zq (pv 1) rfl) Zc)) (ZP T.cMOST_ENTRIES) (Zs _)) (YQ (Zn Jc (Zp Zj rfl T.len y13 (Za (Zq (pv 1) rfl) Zc)) Zg (Zs _)))))) (Zb (Zr (Zt (pv 0) T.clReader c_Reader_take hr Ye (Za ZB Zc))) (Zb (Zl (i:=3) nd rfl (Or.inl rfl) (Zt (pv 0) T.clReader c_Reader_take_number hr Ye (Za (pv 3) (Za (Zp Zj rfl T.len y13 (Za (Zq (pv 1) rfl) Zc)) Zc)))) (Zb (Zr (Zt (pv 0) T.clReader c_Reader_take hr Ye (Za ZB Zc))) (Zb (Zl (i:=4) nd rfl (Or.inl rfl) (Zt (pv 0) T.clReader c_Reader_take_number hr Ye (Za Zg (Za (Zw Z6 (Zp Zj rfl T.len y13 (Za (Zq (pv 1) rfl) Zc)) (pv 3)) Zc)))) (Zb (Zl (i:=5) nd rfl (Or.inl rfl) (Zi c_read_tokens hr Ye (Za (pv 0) (Za (Zp (ZfB rfl) rfl T.min boot_min (Za (pv 2) (Za (ZP T.cMOST_TOKENS_OF_ENTRY) Zc))) Zc)))) (Zb (Zr (Zt (pv 0) T.clReader c_Reader_take hr Ye (Za ZB Zc))) (Zb (Zr (Yj y0y y11 y12 ZZ (Zq (pv 1) rfl) (Za (X3 (Za (pv 3) (Za (pv 4) (Za (pv 5) Zc)))) Zc))) (Ze (JW (i:=2) nd rfl (Or.inl rfl) (Zp Zj rfl T.len y13 (Za (pv 5) Zc)) Zmx))))))))))))),?_⟩;walk_at "gs";have hR2:=hR;have hWk:H wk=some (.ins a.CW dw (wf s aR aH aP aW aS aE)):=hWk;have hWk2:=hWk;have hWk0:=hWk;have R:Rdr K a H r ta bs p:=⟨dx,hR,hS,hne⟩;have hS0:=hS;have raE:r≠aE:=WM hR haE (by intro z;cases z);have raW:r≠aW:=WM hR haW (by intro z;cases z);have wkaE:wk≠aE:=WM hWk haE (by intro z;cases z);walk_at "gr";obtain⟨W,hW⟩:∃W:WT,W=fun m σ H'=>∃(xs:List VhPage.Entry) (vs:List V) (left fst p':Nat) (o1 o2:Option V),σ=[some (.ref r),some (.ref wk),some (.int (left:Int)),some (.int (fst:Int)),o1,o2]/\H' aE=some (.lst vs)/\Paired (TEnt H H') xs vs/\Rdr K a H' r ta bs p'/\Kp [r,aE] H H'/\xs.length<=4096 /\
  entries_ n 4096 0 65536 p (bs.drop p)=preO xs (entries_ n (4096-xs.length) fst left p' (bs.drop p'))/\m=4096-xs.length:=⟨_,rfl⟩
 walk_at "gr";refine⟨W,⟨_,by
  rw[hW];exact ex7 [] [] 65536 0 p none none ⟨rfl,haE,.nil,R,Kp.refl,by simp,by rw[JX];rfl,rfl⟩⟩,fun m σ H2 hw=>?_⟩
 rw[hW] at hw;walk_at "fp";refine el7 hw fun xs vs left fst p2 o1 o2 zq=>?_
 clear hw;obtain⟨rfl,hv,hPv,⟨dx2,hR,hS,hne⟩,k2,x1,eq,rfl⟩:=zq;walk_at "fq";have hR2:=hR;have R2:Rdr K a H2 r ta bs p2:=⟨dx2,hR,hS,hne⟩;have hlv:=Paired.length hPv;have hWk:H2 wk=some (.ins a.CW dw (wf s aR aH aP aW aS aE)):=k2 _ _ hWk0 (by simp[Ne.symm rwk,wkaE]);have hWk2:=hWk;have haW2:H2 aW=some (.lst us):=k2 _ _ haW (by simp[Ne.symm raW,Ne.symm aEW]);have fin:(4096-xs.length=0\/pk bs p2≠91\/n=0)->Q .non H2:=fun h=>by
  refine q1 xs vs p2 H2 ?_ k2 hv hPv R2;rw[eq,Zft h];show Except.ok (xs++[],_,_)=_;rw[y08]
 walk_at "gw";refine ex6 r ta bs p2 _ 91 ⟨rfl,R2,by decide,by decide,?_⟩;walk_at "gw";walk_at "gw";by_cases h91:pk bs p2=91
 ·rw[if_pos (by simpa using h91)];walk_at "gw";refine⟨_,.inl (.inl (.inl hv)),?_⟩;walk_at "gw";rw[<- hlv];by_cases hfull:xs.length=4096
  ·rw[if_neg (by lia)];walk_at "gw";exact fin (.inl (by lia))
  ·rw[if_pos (by lia)];walk_at "gw";refine⟨_,.inl (.inl (.inl haW2)),?_⟩;walk_at "gw";rw[hun];by_cases hz:n=0
   ·rw[if_neg (by lia)];walk_at "gw";exact fin (.inr (.inr hz))
   ·rw[if_pos (by lia)];walk_at "gw";refine⟨fun σ' H'=>∃m',m' < 4096-xs.length/\W m' σ' H',fun _ _ z=>z,?_⟩;walk_at "gw";have ex:4096-xs.length=(4096-(xs.length+1))+1:=by lia
    rw[ex,Zh1 h91 (by lia)] at eq;have er:∀{i:Nat},eRow n (4096-(xs.length+1)) fst left (p2+1) (bs.drop (p2+1))=.error i->entries_ n 4096 0 65536 p (bs.drop p)=.error i:=fun h=>by rw[eq,h];rfl
    unfold eRow at er eq;walk_at "gw";refine ex6 r ta bs p2 _ 91 ⟨rfl,R2,by decide,by decide,fun _ p3 H3 e3 k3 R3=>?_,fun p3 H3 e3 R3=>by rw[Y6 (c:=91) h91] at e3;cases e3⟩;walk_at "gw";have ep:=Ve (c:=91) h91 e3;rw[ep] at R3;walk_at "fp";obtain⟨dx3,hR,hS,hne⟩:=R3;walk_at "fq";have hR2:=hR;have R3:Rdr K a H3 r ta bs (p2+1):=⟨dx3,hR,hS,hne⟩;have hWk:H3 wk=some (.ins a.CW dw (wf s aR aH aP aW aS aE)):=k3 _ _ hWk (by simp[Ne.symm rwk]);have hWk2:=hWk;have haW3:H3 aW=some (.lst us):=k3 _ _ haW2 (by simp[Ne.symm raW]);walk_at "gw";refine⟨_,.inl (.inl (.inl haW3)),?_⟩;walk_at "gw";refine ex6 r ta bs (p2+1) fst n ⟨by rw[hun],R3,by lia,fun x p4 H4 e4 hx1 hx2 k4 R4=>?_,fun p4 H4 e4 R4=>q2 p4 H4 (er (Jg e4 fun x hd=>Xf hd)) R4⟩;walk_at "gw";rw[ZJ e4] at er eq;walk_at "fp";obtain⟨dx4,hR,hS,hne⟩:=R4;walk_at "fq";have hR2:=hR;have R4:Rdr K a H4 r ta bs p4:=⟨dx4,hR,hS,hne⟩;have hWk:H4 wk=some (.ins a.CW dw (wf s aR aH aP aW aS aE)):=k4 _ _ hWk (by simp[Ne.symm rwk]);have hWk2:=hWk;have haW4:H4 aW=some (.lst us):=k4 _ _ haW3 (by simp[Ne.symm raW]);walk_at "gw";refine ex6 r ta bs p4 _ 32 ⟨rfl,R4,by decide,by decide,fun _ p5 H5 e5 k5 R5=>?_,fun p5 H5 e5 R5=>q2 p5 H5 (er (ZX e5)) R5⟩;walk_at "gw";rw[ZJ e5] at er eq;walk_at "fp";obtain⟨dx5,hR,hS,hne⟩:=R5;walk_at "fq";have hR2:=hR;have R5:Rdr K a H5 r ta bs p5:=⟨dx5,hR,hS,hne⟩;have hWk:H5 wk=some (.ins a.CW dw (wf s aR aH aP aW aS aE)):=k5 _ _ hWk (by simp[Ne.symm rwk]);have hWk2:=hWk;have haW5:H5 aW=some (.lst us):=k5 _ _ haW4 (by simp[Ne.symm raW]);walk_at "gw";refine⟨_,.inl (.inl (.inl haW5)),?_⟩;walk_at "gw";refine ex6 r ta bs p5 0 (n-x) ⟨?_,R5,by lia,fun y p6 H6 e6 _ hy k6 R6=>?_,fun p6 H6 e6 R6=>q2 p6 H6 (er (Jg e6 fun x hd=>?_)) R6⟩
    ·rw[hun,show(n:Int)-(x:Int)=((n-x:Nat):Int) by lia];rfl
    ·rw[ZJ e6] at er eq;walk_at "fp";obtain⟨dx6,hR,hS,hne⟩:=R6;walk_at "fq";have hR2:=hR;have R6:Rdr K a H6 r ta bs p6:=⟨dx6,hR,hS,hne⟩;walk_at "gw";have em:(if (1024:Int)<(left:Int) then(1024:Int) else(left:Int))=((min 1024 left:Nat):Int):=by
      by_cases z:1024<left
      ·rw[if_pos (by lia)];lia
      ·rw[if_neg (by lia)];lia
     rw[em];walk_at "gw";refine ex5 r ta bs p6 (min 1024 left) ⟨rfl,R6,by lia,fun ys ws p7 H7 l7 e7 hys hl7 k7 hl7' hPw R7=>?_,fun p7 H7 e7 R7=>q2 p7 H7 (er (ZX e7)) R7⟩;walk_at "gw";walk_at "fp";obtain⟨dx7,hR,hS,hne⟩:=R7;walk_at "fq";have hR2:=hR;have R7:Rdr K a H7 r ta bs p7:=⟨dx7,hR,hS,hne⟩;have l7r:l7≠r:=fun z=>by obtain⟨_,h,_⟩:=R6;rw[z,h] at hl7;cases hl7
     walk_at "gw";refine ex6 r ta bs p7 _ 10 ⟨rfl,R7,by decide,by decide,fun _ p8 H8 e8 k8 R8=>?_,fun p8 H8 e8 R8=>?_⟩
     ·have h10:pk bs p7=10:=by
       apply Decidable.byContradiction;intro z;rw[Vf (c:=10) z] at e8;cases e8
      have ep:=Ve (c:=10) h10 e8;rw[ep] at R8;rw[if_pos h10] at e7;rw[ZJ e7,Zac] at eq;have k26:Kp [r] H2 H6:=((k3.trans k4).trans k5).trans k6;have k28:Kp [r] H2 H8:=(k26.trans k7).trans k8;have hv8:H8 aE=some (.lst vs):=k28 _ _ hv (by simp[Ne.symm raE]);have hWk:H8 wk=some (.ins a.CW dw (wf s aR aH aP aW aS aE)):=k28 _ _ (k2 _ _ hWk0 (by simp[Ne.symm rwk,wkaE])) (by simp[Ne.symm rwk]);have hWk2:=hWk;have hl8:H8 l7=some (.lst ws):=k8 _ _ hl7' (by simp[l7r]);have l7E:l7≠aE:=fun z=>by rw[z,k26 _ _ hv (by simp[Ne.symm raE])] at hl7;cases hl7
      have hlw:=Paired.length hPw;walk_at "gw";refine⟨.inl ⟨rfl,_,.inl (.inl hv8)⟩,?_⟩;walk_at "gw";refine⟨(show 3<=sizeLine by decide),fun t ht=>?_⟩;walk_at "gw";refine⟨vs,Zx (Zf hv8 ht) hv8,by rw[<- hlv];exact y0s x1 (by decide),?_⟩;walk_at "gw";have tE:t≠aE:=Ne.symm (Zf hv8 ht);have tl7:l7≠t:=Zf hl8 ht;have tr:t≠r:=fun z=>by obtain⟨_,h,_⟩:=R8;rw[z,h] at ht;cases ht
      walk_at "gw";refine⟨ws,.inl (.inl (.inl (by rw[Zk l7E,Zk tl7];exact hl8))),?_⟩;walk_at "gw";refine⟨4096-(xs.length+1),by lia,?_⟩;walk_at "gw";rw[hW];have k8':Kp [r,aE] H H8:=k2.trans (k28.mono (by simp));have ht0:H t=none:=k8'.free (by simp[tE,tr]) ht;have kF:Kp [r,aE] H (upd (upd H8 t (HO.tup [V.int (x:Int),V.int (y:Int),V.ref l7])) aE (HO.lst (vs++[V.ref t]))):=(k8'.put2 (.inr ht0)).put2 (.inl (by simp));have fr:∀b,H b=none->b≠r/\b≠aE:=fun b hb=>⟨fun z=>(by obtain⟨_,h,_⟩:=R;rw[z,h] at hb;cases hb),fun z=>(by rw[z,haE] at hb;cases hb)⟩
      have up:∀b o,H8 b=some o->b≠aE->upd (upd H8 t (HO.tup [V.int (x:Int),V.int (y:Int),V.ref l7])) aE (HO.lst (vs++[V.ref t])) b=some o:=fun b o e n1=>by
       rw[Zk n1,Zk (Zf e ht)];exact e
      have hl70:H l7=none:=(k2.trans (k26.mono (by simp))).free (by simp[l7r,l7E]) hl7;walk_at "fp";obtain⟨dx8,a1,a2,a3⟩:=R8;walk_at "fq";have eleft:(left:Int)-(ws.length:Int)=((left-ys.length:Nat):Int):=by rw[<- hlw];lia
      walk_at "gw";refine ex7 (xs++[⟨x,y,ys⟩]) (vs++[.ref t]) (left-ys.length) x (p7+1) _ _ ⟨by rw[eleft],Zd,Paired.snoc (Paired.mapP hPv ?_) ⟨t,l7,ws,rfl,by rw[Zk tE,Zd],ht0,up _ _ hl8 l7E,hl70,Paired.mapP hPw ?_⟩,
       ⟨dx8,up _ _ a1 raE,kF.seq (by simp[hne,taE]) hS0,hne⟩,kF,by simp;lia,?_,by simp⟩
      ·rintro q v ⟨b,l,us',rfl,hb,hb0,hl,hl0,hq⟩;obtain⟨n1,n2⟩:=fr b hb0;obtain⟨n3,n4⟩:=fr l hl0;walk_at "gw";refine ex3 b l us' ⟨rfl,up _ _ (k28 _ _ hb (by simp[n1])) n2,hb0,up _ _ (k28 _ _ hl (by simp[n3])) n4,hl0,Paired.mapP hq ?_⟩;walk_at "gw";rintro q v ⟨c,rfl,hc,hc0⟩;obtain⟨n5,n6⟩:=fr c hc0;exact ex1 c (⟨up _ _ (k28 _ _ hc (by simp[n5])) n6,hc0⟩)
      ·rintro q v ⟨c,rfl,hc,hc0⟩;have cr:c≠r:=fun z=>by obtain⟨_,h,_⟩:=R6;rw[z,h] at hc0;cases hc0
       have cE:c≠aE:=fun z=>by rw[z,k26 _ _ hv (by simp[Ne.symm raE])] at hc0;cases hc0
       exact ex1 c (⟨up _ _ (k8 _ _ hc (by simp[cr])) cE,(k2.trans (k26.mono (by simp))).free (by simp[cr,cE]) hc0⟩)
      ·rw[eq,W5];simp
     ·by_cases h10:pk bs p7=10
      ·rw[Y6 (c:=10) h10] at e8;cases e8
      ·rw[Vf (c:=10) h10] at e8;injection e8 with e8;subst e8;rw[if_neg h10] at e7;exact q2 _ H8 (er (ZX e7)) R8
    ·rw[ZfT];exact ZX (ZbM (by lia) (.inr (by lia)))
 ·rw[if_neg (by simpa using h91)];walk_at "gw";exact fin (.inr (.inl h91))
noncomputable def YD (xs:List (Nat×List (List Nat)))(k:Nat):List (List (List Nat)):=(xs.filter fun x=>x.1==k).map (·.2)
theorem ZeM (xs:List (Nat×List (List Nat)))(k:Nat)(l:List (List Nat)):YD (xs++[(k,l)]) k=YD xs k++[l]:=by simp[YD]
theorem ZhH (xs:List (Nat×List (List Nat))){i k:Nat}(h:k≠i)(l:List (List Nat)):YD (xs++[(i,l)]) k=YD xs k:=by
 have:(i==k)=false:=by rw[beq_eq_false_iff_ne];exact Ne.symm h
 simp[YD,this]
theorem Jk (sep m:Nat):∀(ys:List (List Nat)),(∀x∈ys,x.length<=m)->(ZT sep ys).length<=ys.length * (m+1)
 | [],_=>by simp[ZT]
 | [y],h=>by
  have:=h y (by simp);simp[ZT];lia
 | y::z::r,h=>by
  have h1:=h y (by simp);have h2:=Jk sep m (z::r) (fun x hx=>h x (by simp at hx ⊢;exact .inr hx));simp only[ZT,y01,y02] at h2 ⊢;have e:(r.length+1+1) * (m+1)=(r.length+1) * (m+1)+(m+1):=by rw[Nat.add_mul (r.length+1) 1,Nat.one_mul]
  lia
theorem Zk1 (s:Settings)(r h p w g e g':Addr):putF "signs" (.ref g') (wf s r h p w g e)=wf s r h p w g' e:=by rfl
theorem Zk2 (s:Settings)(r h p w g e h':Addr):putF "head" (.ref h') (wf s r h p w g e)=wf s r h' p w g e:=by rfl
theorem ZbJ (s:Settings)(r h p w g e:Addr):(wf s r h p w g e).length=12:=rfl
def SgAt (H H':Hp)(gs:List Addr)(xs:List (Nat×List (List Nat))):Prop:=∀k g,gs[k]?=some g->∃ts,H' g=some (.lst ts)/\Paired (fun y v=>LN H H' y v/\∀g'∈gs,v≠.ref g') ((YD xs k).map (ZT 32)) ts
def JG (K:Frag)(a:Ad):Sp:=fun vs H Q E=>∃(r ta wk dw:Addr) (bs:List UInt8) (p n:Nat) (s:Settings) (us:List V) (aR aH aP aW aS aE:Addr),vs=[.ref r,.ref wk]/\Rdr K a H r ta bs p/\WkAt a H wk dw s aR aH aP aW aS aE/\H aW=some (.lst us)/\us.length=n/\n<=8192/\r≠wk/\ta≠wk /\
 (∀xs gs p' H' D,signs_ n 4096 0 p (bs.drop p)=.ok (xs,p',bs.drop p')->Kp [r,wk] H H'->WkAt a H' wk dw s aR aH aP aW D aE->H D=none->H' D=some (.lst (gs.map V.ref))->gs.length=n->(∀g∈gs,H g=none)->SgAt H H' gs xs->Rdr K a H' r ta bs p'->Q .non H') /\
 ∀p' H',signs_ n 4096 0 p (bs.drop p)=.error p'->Rdr K a H' r ta bs p'->E (.ref a.CE) none H'
noncomputable abbrev Xn:Stmt:=top 86
theorem JN:Zm ["reader","work","word","count","low","things"] ["reader","work"] (Zh Xn):=by walk_at "sc"
theorem ZcF:Jv ["reader","work","word","count","low","things"] (Zh Xn) (lcSc (Zbl (stI (ZI Xn) 0))) [("word",2)]:=by walk_at "bk"
theorem Zd6 {f:Addr}{fd:FuncData}(F:Fun K "read_signs" "read_signs" Xn f fd)(T:Txt K mg a)(c_Reader_sees:Yn P w K mg base CX0 2 a.CR "sees" ["self","sign"] (Z2 K a))(c_Reader_take:Yn P w K mg base (CX1 P w a.CE) 3 a.CR "take" ["self","sign"] (Z1 K a))(c_Reader_take_number:Yn P w K mg base (CX1 P w a.CE) 3 a.CR "take_number" ["self","low","high"] (ZL K a))(c_Reader_take_things:Yn P w K mg base (CX1 P w a.CE) 5 a.CR "take_things" ["self","most_things","most","marks"] (Yr K a))(c_joined:FnC P w K mg base CX0 1 "joined" ["things","between"] (VI K a)):FnOk P w K mg base (CX1 P w a.CE) 6 f fd ["reader","work"] (JG K a):=by
 refine F.okE JN (by walk_at "ln") (fun cdv A outer s H vs Q E hr h=>?_);refine el15 h fun r ta wk dw bs p n s us aR aH aP aW aS aE zq=>?_
 clear h;obtain⟨rfl,⟨dx,hR,hS,hne⟩,hWk,haW,hun,hn,rwk,tawk,q1,q2⟩:=zq;have nd:=JN.nd;refine⟨_,(Zb (ZM (pv 1) (ZhK rfl nd (Xz (Zq (pv 1) rfl)) ZcF (fun _ _ _ _ _=>(ZK (i:=2) nd rfl (Or.inl rfl))) (fun _ _ _ _ _=>WB) (fun _ _ _ _ _=>(ZW Zc))) rfl) (Zb (Zl (i:=3) nd rfl (Or.inl rfl) Zg) (Zb (Zl (i:=4) nd rfl (Or.inl rfl) Zg) (Ze (Yg PassesOwn.leaving (PW.pt (YV (X1 (Zt (pv 0) T.clReader c_Reader_sees hr Zu (Za ZB Zc))) (YV (Zn Xp (pv 3) (ZP T.cMOST_SIGNS) (Zs _)) (YQ (Zn Jc (Zp Zj rfl T.len y13 (Za (Zq (pv 1) rfl) Zc)) Zg (Zs _)))))) (Zb (Zr (Zt (pv 0) T.clReader c_Reader_take hr Ye (Za ZB Zc))) (Zb (Zl (i:=4) nd rfl (Or.inl rfl) (Zt (pv 0) T.clReader c_Reader_take_number hr Ye (Za (pv 4) (Za (Zw Z6 (Zp Zj rfl T.len y13 (Za (Zq (pv 1) rfl) Zc)) Zg) Zc)))) (Zb (Zr (Zt (pv 0) T.clReader c_Reader_take hr Ye (Za ZB Zc))) (Zb (Zl (i:=5) nd rfl (Or.inl rfl) (Zt (pv 0) T.clReader c_Reader_take_things hr Ye (Za (ZP T.cMOST_SIGN_THINGS) (Za (ZP T.cMOST_SIGN_CHARACTERS) (Za (Ja T.cCARET) Zc))))) (Zb (Zr (Zt (pv 0) T.clReader c_Reader_take hr Ye (Za ZB Zc))) (Zb (Zr (Yj y0y y11 y12 ZZ (ZE ZA (Zq (pv 1) rfl) (pv 4) (fun _ _=>rfl)) (Za (Zi c_joined hr Zu (Za (pv 5) (Za (ZP T.cBLANK) Zc))) Zc))) (Ze (JW (i:=3) nd rfl (Or.inl rfl) Zg Zbg))))))))))))),?_⟩;walk_at "gs";have hWk:H wk=some (.ins a.CW dw (wf s aR aH aP aW aS aE)):=hWk;have hWk0:=hWk;have hR0:=hR;have R:Rdr K a H r ta bs p:=⟨dx,hR,hS,hne⟩;have hS0:=hS;have raW:r≠aW:=WM hR haW (by intro z;cases z);have wkaW:wk≠aW:=WM hWk haW (by intro z;cases z);have z0:0<=sizeLine:=by decide
 walk_at "gw";refine⟨_,rfl,ex5 wk a.CW dw _ _ ⟨ rfl,hWk,T.clWork,T.n_words,Jw s aR aH aP aW aS aE,aW,rfl,⟨_,.inl (.inl haW)⟩,fun D hD=>?_⟩⟩;walk_at "gw";have nD:aW≠D:=Zf haW hD;obtain⟨Pv,hPv⟩:∃Pv:Nat->Hp->Prop,Pv=fun i H'=>∃gs:List Addr,gs.length=i/\H' D=some (.lst (gs.map V.ref))/\Kp [] H H'/\(∀g∈gs,H g=none/\H' g=some (.lst [])/\g≠D)/\gs.Nodup:=⟨_,rfl⟩
 refine Zcq (xs:=us) Pv ?_ ?_ ?_ ?_
 ·rw[hPv];exact⟨[],rfl,Zd,Kp.new hD,fun g hg=>absurd hg (by simp),List.nodup_nil⟩
 ·intro i H' _ hw;rw[hPv] at hw;walk_at "fp";obtain⟨gs,_,_,k,_⟩:=hw;walk_at "fq";exact .inl (.inl (k.z haW))
 ·intro i x H2 hi hw;rw[hPv] at hw;walk_at "fp";obtain⟨gs,hg1,hg2,k,hg3,hg4⟩:=hw;walk_at "fq";walk_at "gw";refine⟨rfl,?_⟩;walk_at "gw";walk_at "gr";refine⟨z0,fun g hg=>?_⟩;walk_at "gr";have gD:D≠g:=Zf hg2 hg;walk_at "gr";refine⟨gs.map V.ref,Zx gD hg2,by rw[y03,hg1];exact y0t (y0a.mp hi).1 (by rw[hun];exact y0q hn (by decide)),?_⟩;rw[hPv];have hg0:H g=none:=k.free (by simp) hg;walk_at "gr";refine⟨gs++[g],by simp[hg1],by rw[Zd];simp,(k.trans (Kp.new hg)).put2 (.inr hD),fun c hc=>?_,?_⟩
  ·rcases y0d.mp hc with h | h
   ·walk_at "fp";obtain⟨h1,h2,h3⟩:=hg3 c h;walk_at "fq";exact⟨h1,by rw[Zk h3,Zk (Zf h2 hg)];exact h2,h3⟩
   ·have e:c=g:=by simpa using h
    subst e;exact⟨hg0,by rw[Zk (Ne.symm gD),Zd],Ne.symm gD⟩
  ·rw[List.nodup_append];walk_at "gr";refine⟨hg4,by simp,fun b hb c hc=>?_⟩;walk_at "gr";have e:c=g:=by simpa using hc
   subst e;exact Zf (hg3 b hb).2.1 hg
 ·intro H2 hw;rw[hPv] at hw;walk_at "fp";obtain⟨gs,hg1,hg2,k,hg3,hg4⟩:=hw;walk_at "fq";rw[hun] at hg1;have hWk:H2 wk=some (.ins a.CW dw (wf s aR aH aP aW aS aE)):=k.z hWk0;walk_at "gr";refine X9 hWk T.clWork T.n_signs ⟨by rw[ZbJ];decide,?_⟩;walk_at "gr";rw[Zk1];have Dwk:wk≠D:=Zf hWk0 hD;have Dr:r≠D:=Zf hR0 hD;generalize hG:upd H2 wk (HO.ins a.CW dw (wf s aR aH aP aW D aE))=G;have GD:G D=some (.lst (gs.map V.ref)):=by rw[<- hG,Zk (Ne.symm Dwk)];exact hg2
  have Gg:∀g∈gs,H g=none/\G g=some (.lst [])/\g≠D:=fun g hg=>by
   walk_at "fp";obtain⟨h1,h2,h3⟩:=hg3 g hg;walk_at "fq";exact⟨h1,by rw[<- hG,Zk (Ne.symm (Zf hWk0 h1))];exact h2,h3⟩
  have kG:Kp [r,wk] H G:=by rw[<- hG];exact(k.mono (by simp)).put2 (.inl (by simp))
  have GR:G r=some (.ins a.CR dx (rf ta (p:Int))):=by rw[<- hG,Zk rwk];exact k.z hR0
  have GW:G wk=some (.ins a.CW dw (wf s aR aH aP aW D aE)):=by rw[<- hG,Zd]
  clear hG;have fr:∀b,H b=none->b≠r/\b≠wk:=fun b hb=>⟨fun z=>(by rw[z,hR0] at hb;cases hb),fun z=>(by rw[z,hWk0] at hb;cases hb)⟩
  have RG:Rdr K a G r ta bs p:=⟨dx,GR,kG.seq (by simp[hne,tawk]) hS0,hne⟩;obtain⟨W,hW⟩:∃W:WT,W=fun m σ H'=>∃(xs:List (Nat×List (List Nat))) (low p':Nat) (o1 o2:Option V),σ=[some (.ref r),some (.ref wk),o1,some (.int (xs.length:Int)),some (.int (low:Int)),o2]/\H' D=some (.lst (gs.map V.ref))/\SgAt H H' gs xs/\H' wk=some (.ins a.CW dw (wf s aR aH aP aW D aE))/\Rdr K a H' r ta bs p'/\Kp [r,wk] H H'/\xs.length<=4096 /\
   signs_ n 4096 0 p (bs.drop p)=preO xs (signs_ n (4096-xs.length) low p' (bs.drop p'))/\m=4096-xs.length:=⟨_,rfl⟩
  walk_at "gr";refine⟨W,⟨_,by
   rw[hW];walk_at "gr";refine ex5 [] 0 p _ none ⟨rfl,GD,fun j g hg=>⟨[],(Gg g (y0f hg)).2.1,.nil⟩,GW,RG,kG,by simp,by rw[JX];rfl,rfl⟩⟩,fun m σ H2 hw=>?_⟩
  rw[hW] at hw;walk_at "fp";refine el5 hw fun xs low p2 o1 o2 zq=>?_
  clear hw;obtain⟨rfl,hD2,hSg,hWk,⟨dx2,hR,hS,hne⟩,k2,x1,eq,rfl⟩:=zq;walk_at "fq";have hR2:=hR;have hWk2:=hWk;have R2:Rdr K a H2 r ta bs p2:=⟨dx2,hR,hS,hne⟩;have haW2:H2 aW=some (.lst us):=k2 _ _ haW (by simp[Ne.symm raW,Ne.symm wkaW]);have fin:(4096-xs.length=0\/pk bs p2≠123\/n=0)->Q .non H2:=fun h=>by
   refine q1 xs gs p2 H2 D ?_ k2 hWk hD hD2 hg1 (fun g hg=>(Gg g hg).1) hSg R2;rw[eq,ZhG h];show Except.ok (xs++[],_,_)=_;rw[y08]
  walk_at "gw";refine ex6 r ta bs p2 _ 123 ⟨rfl,R2,by decide,by decide,?_⟩;walk_at "gw";walk_at "gw";by_cases h123:pk bs p2=123
  ·rw[if_pos (by simpa using h123)];walk_at "gw";by_cases hfull:xs.length=4096
   ·rw[if_neg (by lia)];walk_at "gw";exact fin (.inl (by lia))
   ·rw[if_pos (by lia)];walk_at "gw";refine⟨_,.inl (.inl (.inl haW2)),?_⟩;walk_at "gw";rw[hun];by_cases hz:n=0
    ·rw[if_neg (by lia)];walk_at "gw";exact fin (.inr (.inr hz))
    ·rw[if_pos (by lia)];walk_at "gw";refine⟨fun σ' H'=>∃m',m' < 4096-xs.length/\W m' σ' H',fun _ _ z=>z,?_⟩;walk_at "gw";have ex:4096-xs.length=(4096-(xs.length+1))+1:=by lia
     rw[ex,ZjC h123 (by lia)] at eq;have er:∀{i:Nat},sRow n (4096-(xs.length+1)) low (p2+1) (bs.drop (p2+1))=.error i->signs_ n 4096 0 p (bs.drop p)=.error i:=fun h=>by rw[eq,h];rfl
     unfold sRow at er eq;walk_at "gw";refine ex6 r ta bs p2 _ 123 ⟨rfl,R2,by decide,by decide,fun _ p3 H3 e3 k3 R3=>?_,fun p3 H3 e3 R3=>by rw[Y6 (c:=123) h123] at e3;cases e3⟩;walk_at "gw";have ep:=Ve (c:=123) h123 e3;rw[ep] at R3;walk_at "fp";obtain⟨dx3,hR,hS,hne⟩:=R3;walk_at "fq";have hR2:=hR;have R3:Rdr K a H3 r ta bs (p2+1):=⟨dx3,hR,hS,hne⟩;have hWk:H3 wk=some (.ins a.CW dw (wf s aR aH aP aW D aE)):=k3 _ _ hWk (by simp[Ne.symm rwk]);have hWk2:=hWk;have haW3:H3 aW=some (.lst us):=k3 _ _ haW2 (by simp[Ne.symm raW]);walk_at "gw";refine⟨_,.inl (.inl (.inl haW3)),?_⟩;walk_at "gw";refine ex6 r ta bs (p2+1) low (n-1) ⟨by rw[hun,show(n:Int)-1=((n-1:Nat):Int) by lia],R3,by lia,fun x p4 H4 e4 hx1 hx2 k4 R4=>?_,fun p4 H4 e4 R4=>q2 p4 H4 (er (Jg e4 fun x hd=>Xf hd)) R4⟩;walk_at "gw";rw[ZJ e4] at er eq;walk_at "fp";obtain⟨dx4,hR,hS,hne⟩:=R4;walk_at "fq";have hR2:=hR;have R4:Rdr K a H4 r ta bs p4:=⟨dx4,hR,hS,hne⟩;walk_at "gw";refine ex6 r ta bs p4 _ 32 ⟨rfl,R4,by decide,by decide,fun _ p5 H5 e5 k5 R5=>?_,fun p5 H5 e5 R5=>q2 p5 H5 (er (ZX e5)) R5⟩;walk_at "gw";rw[ZJ e5] at er eq;walk_at "fp";obtain⟨dx5,hR,hS,hne⟩:=R5;walk_at "fq";have hR2:=hR;have R5:Rdr K a H5 r ta bs p5:=⟨dx5,hR,hS,hne⟩;walk_at "gw";refine ex8 r _ ta bs [94] p5 4 16 ⟨rfl,R5,Zlt T H5 r,by decide,by decide,by decide,by decide,fun ys ws p7 H7 l7 e7 y1 y2 y3 hl7 k7 hl7' hPw R7=>?_,fun p7 H7 e7 R7=>q2 p7 H7 (er (ZX e7)) R7⟩;walk_at "gw";walk_at "fp";obtain⟨dx7,hR,hS,hne⟩:=R7;walk_at "fq";have hR2:=hR;have R7:Rdr K a H7 r ta bs p7:=⟨dx7,hR,hS,hne⟩;have l7r:l7≠r:=fun z=>by obtain⟨_,h,_⟩:=R5;rw[z,h] at hl7;cases hl7
     walk_at "gw";refine ex6 r ta bs p7 _ 10 ⟨rfl,R7,by decide,by decide,fun _ p8 H8 e8 k8 R8=>?_,fun p8 H8 e8 R8=>?_⟩
     ·have h10:pk bs p7=10:=by
       apply Decidable.byContradiction;intro z;rw[Vf (c:=10) z] at e8;cases e8
      have ep:=Ve (c:=10) h10 e8;rw[ep] at R8;rw[if_pos h10] at e7;rw[ZJ e7,Zac] at eq;have k25:Kp [r] H2 H5:=(k3.trans k4).trans k5;have k28:Kp [r] H2 H8:=(k25.trans k7).trans k8;have hD8:H8 D=some (.lst (gs.map V.ref)):=k28 _ _ hD2 (by simp[Ne.symm Dr]);have hWk:H8 wk=some (.ins a.CW dw (wf s aR aH aP aW D aE)):=k28 _ _ ‹H2 wk=_› (by simp[Ne.symm rwk]);have hWk2:=hWk;have hl8:H8 l7=some (.lst ws):=k8 _ _ hl7' (by simp[l7r]);obtain⟨g,hg⟩:∃g,gs[x]?=some g:=⟨_,y09 (by lia)⟩
      have hgm:g∈gs:=y0f hg;walk_at "fp";obtain⟨hgn,_,hgD⟩:=Gg g hgm;walk_at "fq";obtain⟨gr,gwk⟩:=fr g hgn;walk_at "fp";obtain⟨ts,hts,hPts⟩:=hSg x g hg;walk_at "fq";have hts8:H8 g=some (.lst ts):=k28 _ _ hts (by simp[gr]);have hPw8:Paired (fun y v=>∃l,v=V.ref l/\H8 l=some (.lst (lV y))) ys ws:=Paired.mapP hPw (by
       rintro y v ⟨b,rfl,hb,hb0⟩;have br:b≠r:=fun z=>by obtain⟨_,h,_⟩:=R5;rw[z,h] at hb0;cases hb0
       exact ex1 b (k8 _ _ hb (by simp[br])))
      have jb:=Jk 32 16 ys y3;walk_at "gw";refine⟨_,.inl (.inl hD8),_,XA (v:=V.ref g) (by rw[y0l,hg];rfl),?_⟩;walk_at "gw";refine⟨.inl ⟨rfl,_,.inl (.inl hts8)⟩,?_⟩;walk_at "gw";refine ex4 l7 ws ys 32 ⟨rfl,hl8,hPw8,by lia,fun H9 j hj k9 hj9=>?_⟩;have hts9:H9 g=some (.lst ts):=k9.z hts8;have hlt:=Paired.length hPts;have few:ts.length<=4096:=by
       rw[<- hlt,y03];unfold YD;rw[y03];exact y0q (List.length_filter_le _ _) x1
      walk_at "gw";refine⟨ts,hts9,y0s few (by decide),?_⟩;walk_at "gw";refine⟨4096-(xs.length+1),by lia,?_⟩;walk_at "gw";rw[hW];have k8':Kp [r,wk] H H8:=k2.trans (k28.mono (by simp));have k9':Kp [r,wk] H H9:=k8'.trans (k9.mono (by simp));have jr:j≠r:=fun z=>by obtain⟨_,h,_⟩:=R8;rw[z,h] at hj;cases hj
      have jwk:j≠wk:=fun z=>by rw[z,hWk] at hj;cases hj
      have jg:j≠g:=fun z=>by rw[z,hts8] at hj;cases hj
      have hj0:H j=none:=k8'.free (by simp[jr,jwk]) hj;have kF:Kp [r,wk] H (upd H9 g (HO.lst (ts++[V.ref j]))):=k9'.put2 (.inr hgn);have up:∀b o,H9 b=some o->b≠g->upd H9 g (HO.lst (ts++[V.ref j])) b=some o:=fun b o e n1=>Zx n1 e
      walk_at "fp";obtain⟨dx8,a1,a2,a3⟩:=R8;walk_at "fq";have ec:((xs.length:Int)+1)=(((xs++[(x,ys)]).length:Nat):Int):=by simp
      -- lists that hold letters are no signs' lists
      have keepL:∀(y:List Nat) (v:V),LN H H2 y v->(∀g'∈gs,v≠.ref g')->LN H (upd H9 g (HO.lst (ts++[V.ref j]))) y v:=by
       rintro y v ⟨b,rfl,hb,hb0⟩ nb;obtain⟨n1,n2⟩:=fr b hb0;exact ex1 b (⟨up _ _ (k9.z (k28 _ _ hb (by simp[n1]))) (fun z=>nb g hgm (by rw[z])),hb0⟩)
      walk_at "gw";refine ex5 (xs++[(x,ys)]) x (p7+1) _ _ ⟨by rw[ec],up _ _ (k9.z hD8) (Ne.symm hgD),?_,up _ _ (k9.z hWk) (Ne.symm gwk),⟨dx8,up _ _ (k9.z a1) (Ne.symm gr),kF.seq (by simp[hne,tawk]) hS0,hne⟩,kF,by simp;lia,?_,by simp⟩
      ·intro k' g' hg';have hgm':g'∈gs:=y0f hg';walk_at "fp";obtain⟨ts',hts',hP'⟩:=hSg k' g' hg';walk_at "fq";have gr':=(fr g' (Gg g' hgm').1).1;by_cases hk:k'=x
       ·subst hk;have e:g'=g:=Option.some.inj (hg'.symm.trans hg);subst e;walk_at "gw";refine⟨ts++[.ref j],Zd,?_⟩;walk_at "gw";rw[ZeM,y07];refine Paired.snoc (Paired.mapP hPts fun y v z=>⟨keepL y v z.1 z.2,z.2⟩) ⟨⟨j,rfl,Zx jg hj9,hj0⟩,fun g2 hg2 z=>?_⟩;obtain⟨i2,hi2⟩:=List.getElem?_of_mem hg2;walk_at "fp";obtain⟨t2,ht2,_⟩:=hSg i2 g2 hi2;walk_at "fq";have g2r:=(fr g2 (Gg g2 hg2).1).1;have z:j=g2:=V.ref.inj z;rw[z,k28 _ _ ht2 (by simp[g2r])] at hj;cases hj
       ·have ne:g'≠g:=fun z=>hk (Zlr hg4 hg' (by rw[z];exact hg))
        walk_at "gw";refine⟨ts',up _ _ (k9.z (k28 _ _ hts' (by simp[gr']))) ne,?_⟩;walk_at "gw";rw[ZhH xs hk];exact Paired.mapP hP' fun y v z=>⟨keepL y v z.1 z.2,z.2⟩
      ·rw[eq,W5];simp
     ·by_cases h10:pk bs p7=10
      ·rw[Y6 (c:=10) h10] at e8;cases e8
      ·rw[Vf (c:=10) h10] at e8;injection e8 with e8;subst e8;rw[if_neg h10] at e7;exact q2 _ H8 (er (ZX e7)) R8
  ·rw[if_neg (by simpa using h123)];walk_at "gw";exact fin (.inr (.inl h123))
theorem SqL.is (T:Txt K mg a){H:Hp}{ta:Addr}{xs:List V}(h:SqL K H ta xs):∃o,H ta=some o:=by
 rcases h with(h | ⟨o,h⟩) | ⟨o,_,_,h,hc,_⟩
 ·exact⟨_,h⟩
 ·exact⟨_,h⟩
 ·exact absurd hc (T.nl _ _ h)
def LI (H:Hp)(x:List Nat)(v:V):Prop:=∃l,v=.ref l/\H l=some (.lst (lV x))
def RowI (H:Hp)(x:Nat×Nat×Nat)(v:V):Prop:=∃t,v=.ref t/\H t=some (.tup [.int (x.1:Int),.int (x.2.1:Int),.int (x.2.2:Int)])
def ZnE (H:Hp)(x:Nat×Nat)(v:V):Prop:=∃t,v=.ref t/\H t=some (.tup [.int (x.1:Int),.int (x.2:Int)])
def EntI (H:Hp)(x:VhPage.Entry)(v:V):Prop:=∃t l us,v=.ref t/\H t=some (.tup [.int (x.first:Int),.int (x.count:Int),.ref l])/\H l=some (.lst us)/\Paired (LI H) x.toks us
def SgI (H:Hp)(gs:List Addr)(xs:List (Nat×List (List Nat))):Prop:=∀k g,gs[k]?=some g->∃ts,H g=some (.lst ts)/\Paired (LI H) ((YD xs k).map (ZT 32)) ts
structure WRep (a:Ad)(H:Hp)(wk:Addr)(w:Work)(hb:List UInt8):Prop where
 ex:∃dw aR aH aP aW aS aE rs ps ws gs es,H wk=some (.ins a.CW dw (wf w.set aR aH aP aW aS aE))/\H aR=some (.lst rs)/\Paired (RowI H) w.widths rs/\H aH=some (.lst (bsV hb))/\H aP=some (.lst ps)/\Paired (ZnE H) (JC 0 w.paras) ps /\
  H aW=some (.lst ws)/\Paired (LI H) w.paras.flatten ws/\H aS=some (.lst (gs.map V.ref))/\gs.length=w.paras.flatten.length/\SgI H gs w.signs/\H aE=some (.lst es)/\Paired (EntI H) w.entries es
def Zjt (bs hb:List UInt8):Prop:=∃s p0 x p1,VhPage.settings_ 0 bs=.ok (s,p0,bs.drop p0)/\widths_ 64 33 p0 (bs.drop p0)=.ok (x,p1,bs.drop p1)/\hb=bs.take p1
theorem mem5 {p:Addr->Prop}{a b c d e:Addr}(h1:p a)(h2:p b)(h3:p c)(h4:p d)(h5:p e):∀x∈[a,b,c,d,e],p x:=fun x hx=>by
 simp only[y0b,List.not_mem_nil,or_false] at hx;rcases hx with h | h | h | h | h <;> (rw[h];assumption)
def ZaP (K:Frag)(a:Ad):Sp:=fun vs H Q E=>∃(r ta:Addr) (bs:List UInt8),vs=[.ref r]/\Rdr K a H r ta bs 0 /\
 (∀w hb wk H',readWork bs=.ok w->Zjt bs hb->w.paras.flatten.length<=8192->Kp [r] H H'->WRep a H' wk w hb->Q (.ref wk) H') /\
 ∀p' H',readWork bs=.error p'->Rdr K a H' r ta bs p'->E (.ref a.CE) none H'
theorem Zkt (bs:List UInt8)(p:Nat):cutV (bsV bs) none (some (p:Int))=bsV (bs.take p):=by
 unfold cutV;rw[HT.sIx_none,HT.sIx_nat,List.drop_zero,Nat.sub_zero,Ul];unfold bsV;rw[<- List.map_take];congr 1;by_cases h:p<=bs.length
 ·rw[Nat.min_eq_left h]
 ·rw[Nat.min_eq_right (by lia),y0e (y0r _),y0e (by lia)]
theorem Zgr {G H' H'':Hp}{S:List Addr}{b:Addr}{o:HO}(k:Kp S H' H'')(hs:∀c∈S,∃o,G c=some o)(hb0:G b=none)(hb:H' b=some o):H'' b=some o:=k b o hb fun z=>by
 obtain⟨o',h⟩:=hs b z;rw[hb0] at h;cases h
noncomputable abbrev UX:Stmt:=top 89
theorem ZaY:Zm ["reader","work"] ["reader"] (Zh UX):=by walk_at "sc"
theorem Ze3 {f:Addr}{fd:FuncData}(F:Fun K "read_work" "read_work" UX f fd)(T:Txt K mg a)(c_Work_init:Zeo P w K mg base CX0 1 a.CW "Work" ["self","settings"] (ZaT K a))(c_read_rows:FnC P w K mg base (CX1 P w a.CE) 4 "read_rows" ["reader","work"] (ZaQ K a))(c_read_paragraphs:FnC P w K mg base (CX1 P w a.CE) 6 "read_paragraphs" ["reader","work"] (Wg K a))(c_read_signs:FnC P w K mg base (CX1 P w a.CE) 6 "read_signs" ["reader","work"] (JG K a))(c_read_entries:FnC P w K mg base (CX1 P w a.CE) 6 "read_entries" ["reader","work"] (VE K a))(c_Reader_take_end:Yn P w K mg base (CX1 P w a.CE) 2 a.CR "take_end" ["self"] (Wi K a))(c_Reader_take_head:Yn P w K mg base (CX1 P w a.CE) 4 a.CR "take_head" ["self","all_bounds"] (XO K a)):FnOk P w K mg base (CX1 P w a.CE) 7 f fd ["reader"] (ZaP K a):=by
 refine F.okE ZaY (by walk_at "ln") (fun cdv A outer s H vs Q E hr h=>?_);walk_at "fp";refine el3 h fun r ta bs zq=>?_
 clear h;obtain⟨rfl,⟨dx,hR,hS,hne⟩,q1,q2⟩:=zq;walk_at "fq";have nd:=ZaY.nd;refine⟨_,(Zb (Zl (i:=1) nd rfl (Or.inl rfl) (W6 c_Work_init hr Zu (Za (Zt (pv 0) T.clReader c_Reader_take_head hr Ye (Za (Ja T.cSETTING_BOUNDS) Zc)) Zc))) (Zb (Zr (Zi c_read_rows hr Ye (Za (pv 0) (Za (pv 1) Zc)))) (Zb (ZM (pv 1) (JY ZbV (Zq (pv 0) rfl) Zf5 (U8 (Zq (pv 0) rfl))) rfl) (Zb (Zr (Zi c_read_paragraphs hr Ye (Za (pv 0) (Za (pv 1) Zc)))) (Zb (Zr (Zi c_read_signs hr Ye (Za (pv 0) (Za (pv 1) Zc)))) (Zb (Zr (Zi c_read_entries hr Ye (Za (pv 0) (Za (pv 1) Zc)))) (Zb (Zr (Xo (pv 0) T.clReader c_Reader_take_end hr Ye)) (Ze (Zo (pv 1)))))))))),?_⟩;have hR2:=hR;have hWk:=hR;have hWk2:=hR;have hR0:=hR;have R:Rdr K a H r ta bs 0:=⟨dx,hR,hS,hne⟩;have hS0:=hS;obtain⟨ot,hta⟩:=SqL.is T hS;have er:∀{i:Nat},(Vh.andThen VhPage.settings_ fun(s:Settings)=>Vh.andThen (widths_ 64 33) fun(w:List (Nat×Nat×Nat))=>Vh.andThen (paras_ 4096 8192) fun(p:List (List Vh.Letters))=>Vh.andThen (signs_ p.flatten.length 4096 0) fun(g:List (Nat×List Vh.Letters))=>Vh.andThen (entries_ p.flatten.length 4096 0 65536) fun(e:List VhPage.Entry)=>VhPage.end_ (⟨s,w,p,g,e⟩:Work)) 0 (bs.drop 0)=.error i->readWork bs=.error i:=fun h=>by
  unfold readWork Vh.readAll;rw[List.drop_zero] at h;rw[h]
 have ok:∀{x p' b'},(Vh.andThen VhPage.settings_ fun(s:Settings)=>Vh.andThen (widths_ 64 33) fun(w:List (Nat×Nat×Nat))=>Vh.andThen (paras_ 4096 8192) fun(p:List (List Vh.Letters))=>Vh.andThen (signs_ p.flatten.length 4096 0) fun(g:List (Nat×List Vh.Letters))=>Vh.andThen (entries_ p.flatten.length 4096 0 65536) fun(e:List VhPage.Entry)=>VhPage.end_ (⟨s,w,p,g,e⟩:Work)) 0 (bs.drop 0)=.ok (x,p',b')->readWork bs=.ok x:=fun h=>by
  unfold readWork Vh.readAll;rw[List.drop_zero] at h;rw[h]
 walk_at "gs";walk_at "gr";refine ex6 r a.aSETTING_BOUNDS ta bs 0 bdS ⟨rfl,R,T.tSETTING_BOUNDS,by decide,fun xs p1 H1 l1 e1 hxl hl1 k1 hl1' R1=>?_,fun p1 H1 e1 R1=>q2 p1 H1 (er (ZX (by rw[ZaX];exact Zmm e1))) R1⟩;walk_at "gr";obtain⟨s,e1,hl1'⟩:∃s:Settings,VhPage.settings_ 0 (bs.drop 0)=.ok (s,p1,bs.drop p1)/\H1 l1=some (.lst [.int (s.width:Int),.int (s.height:Int),.int (s.indent:Int),.int (s.every:Int),.int (s.anew:Int),.int (s.loose:Int)]):=by
  match xs,hxl with
  | [x0,x1,x2,x3,x4,x5],_=>exact⟨⟨x0,x1,x2,x3,x4,x5⟩,by rw[ZaX];exact Zml e1,hl1'⟩
 rw[ZJ e1] at er ok;intro wk dw nwk ndw newk;walk_at "fp";obtain⟨dx1,hR,hS,hne⟩:=R1;walk_at "fq";have R1:Rdr K a H1 r ta bs p1:=⟨dx1,hR,hS,hne⟩;have rwk:r≠wk:=Zf hR nwk;have rdw:r≠dw:=Zf hR ndw;have tawk:ta≠wk:=Zf (k1 _ _ hta (by simp[hne])) nwk;have l1wk:l1≠wk:=Zf hl1' nwk;have l1dw:l1≠dw:=Zf hl1' ndw;have hwk0:H wk=none:=k1.free (by simp[Ne.symm rwk]) nwk;walk_at "gr";refine ex4 wk dw l1 s ⟨rfl,Zd,by rw[Zk l1wk,Zk l1dw];exact hl1',fun H2 aR aH aP aW aS aE k2 hWk al nd6=>⟨rfl,?_⟩⟩;walk_at "gr";have six:∀b∈[aR,aH,aP,aW,aS,aE],b≠wk/\H1 b=none/\H b=none/\b≠r/\b≠ta/\H2 b=some (.lst []):=fun b hb=>by
  obtain⟨h1,h2⟩:=al b hb;have n1:b≠wk:=fun z=>by rw[z,Zd] at h1;cases h1
  rw[Zk n1] at h1;have n2:b≠dw:=fun z=>by rw[z,Zd] at h1;cases h1
  rw[Zk n2] at h1;have n3:b≠r:=fun z=>by rw[z,hR] at h1;cases h1
  exact⟨n1,h1,k1.free (by simp[n3]) h1,n3,fun z=>(by rw[z,k1 _ _ hta (by simp[hne])] at h1;cases h1),h2⟩
 walk_at "fp";obtain⟨aRwk,aR1,aR0,aRr,aRta,aR2⟩:=six aR (by simp);walk_at "fq";walk_at "fp";obtain⟨aHwk,aH1,aH0,aHr,aHta,aH2⟩:=six aH (by simp);walk_at "fq";walk_at "fp";obtain⟨aPwk,aP1,aP0,aPr,aPta,aP2⟩:=six aP (by simp);walk_at "fq";walk_at "fp";obtain⟨aWwk,aW1,aW0,aWr,aWta,aW2⟩:=six aW (by simp);walk_at "fq";walk_at "fp";obtain⟨aEwk,aE1,aE0,aEr,aEta,aE2⟩:=six aE (by simp);walk_at "fq";have ndd:aR≠aP/\aR≠aW/\aR≠aE/\aP≠aW/\aP≠aE/\aW≠aE:=by
  simp only[List.nodup_cons,y0b,not_or] at nd6;exact⟨nd6.1.2.1,nd6.1.2.2.1,nd6.1.2.2.2.2.1,nd6.2.2.1.1,nd6.2.2.1.2.2.1,nd6.2.2.2.1.2.1⟩
 walk_at "fp";obtain⟨RP,RW,RE,PW,PE,WE⟩:=ndd;walk_at "fq";have k02:Kp [r] H H2:=fun c o e n=>by
  have e1:=k1 c o e n;have n1:c≠wk:=Zf e1 nwk;exact k2 c o (by rw[Zk n1,Zk (Zf e1 ndw)];exact e1) (by simp[n1])
 have hR:H2 r=some (HO.ins a.CR dx1 (rf ta (p1:Int))):=k2 _ _ (by rw[Zk rwk,Zk rdw];exact hR) (by simp[rwk]);have R2:Rdr K a H2 r ta bs p1:=Rdr.move (dx:=dx1) hS0 hne k02 hR;walk_at "gr";refine ex13 r ta wk dw bs p1 s aR aH aP aW aS aE ⟨rfl,R2,hWk,aR2,rwk,Ne.symm aRta,fun ws rs p2 H3 e3 k3 hrs hPr R3=>?_,fun p2 H3 e3 R3=>q2 p2 H3 (er (ZX e3)) R3⟩;walk_at "gr";have hd0:Zjt bs (bs.take p2):=⟨s,p1,ws,p2,by rw[List.drop_zero] at e1;exact e1,e3,rfl⟩;rw[ZJ e3] at er ok;walk_at "fp";obtain⟨dx3,hR,hS,hne⟩:=R3;walk_at "fq";have hR2:=hR;have hWk:H3 wk=some (HO.ins a.CW dw (wf s aR aH aP aW aS aE)):=k3 _ _ hWk (by simp[Ne.symm rwk,Ne.symm aRwk]);have hWk2:=hWk;walk_at "gw";refine⟨_,hS,fun hp hhp=>?_⟩;walk_at "gw";have hpwk:wk≠hp:=Zf hWk hhp;have hpr:r≠hp:=Zf hR hhp;rw[Zkt];walk_at "gw";refine X9 (Zx hpwk hWk) T.clWork T.n_head ⟨by rw[ZbJ];decide,?_⟩;walk_at "gw";rw[Zk2];generalize hG:upd (upd H3 hp (HO.lst (bsV (bs.take p2)))) wk (HO.ins a.CW dw (wf s aR hp aP aW aS aE))=H4;have k34:Kp [wk] H3 H4:=by rw[<- hG];exact(Kp.new hhp).trans (Kp.put (by simp))
 have hH4:H4 hp=some (.lst (bsV (bs.take p2))):=by rw[<- hG,Zk (Ne.symm hpwk),Zd]
 have hWk:H4 wk=some (HO.ins a.CW dw (wf s aR hp aP aW aS aE)):=by rw[<- hG,Zd]
 clear hG;have hWk2:=hWk;have hR:H4 r=some (HO.ins a.CR dx3 (rf ta (p2:Int))):=k34 _ _ hR (by simp[rwk]);have hR2:=hR;have k24:Kp [r,aR,wk] H2 H4:=(k3.mono (by simp)).trans (k34.mono (by simp));have R4:Rdr K a H4 r ta bs p2:=⟨dx3,hR,k24.seq (by simp[hne,Ne.symm aRta,tawk]) (k02.seq (by simp[hne]) hS0),hne⟩;have aP4:H4 aP=some (.lst []):=k24 _ _ aP2 (by simp[aPr,Ne.symm RP,aPwk]);have aW4:H4 aW=some (.lst []):=k24 _ _ aW2 (by simp[aWr,Ne.symm RW,aWwk]);have aE4:H4 aE=some (.lst []):=k24 _ _ aE2 (by simp[aEr,Ne.symm RE,aEwk]);walk_at "gw";refine ex13 r ta wk dw bs p2 s aR hp aP aW aS aE ⟨rfl,R4,hWk,aP4,aW4,PW,rwk,Ne.symm aPta,Ne.symm aWta,fun ps us vs p3 H5 e5 hps k5 hus hPu hvs hPv R5=>?_,fun p3 H5 e5 R5=>q2 p3 H5 (er (ZX e5)) R5⟩;walk_at "gw";rw[ZJ e5] at er ok;have hWk:H5 wk=some (HO.ins a.CW dw (wf s aR hp aP aW aS aE)):=k5 _ _ hWk (by simp[Ne.symm rwk,Ne.symm aPwk,Ne.symm aWwk]);have hWk2:=hWk;have aE5:H5 aE=some (.lst []):=k5 _ _ aE4 (by simp[aEr,Ne.symm PE,Ne.symm WE]);have hlu:=Paired.length hPu;walk_at "gw";refine ex15 r ta wk dw bs p3 ps.flatten.length s us aR hp aP aW aS aE ⟨rfl,R5,hWk,hus,hlu.symm,hps,rwk,tawk,fun sg gs p4 H6 D e6 k6 hWk6 hD0 hD hgl hg0 hSg R6=>?_,fun p4 H6 e6 R6=>q2 p4 H6 (er (ZX e6)) R6⟩;walk_at "gw";rw[ZJ e6] at er ok;have hWk:H6 wk=some (HO.ins a.CW dw (wf s aR hp aP aW D aE)):=hWk6;have hWk2:=hWk;have aE6:H6 aE=some (.lst []):=k6 _ _ aE5 (by simp[aEr,aEwk]);have hus6:H6 aW=some (.lst us):=k6 _ _ hus (by simp[aWr,aWwk]);walk_at "gw";refine ex15 r ta wk dw bs p4 ps.flatten.length s us aR hp aP aW D aE ⟨rfl,R6,hWk,aE6,hus6,hlu.symm,hps,Ne.symm WE,rwk,Ne.symm aEta,fun en es p5 H7 e7 k7 hes hPe R7=>?_,fun p5 H7 e7 R7=>q2 p5 H7 (er (ZX e7)) R7⟩;walk_at "gw";rw[ZJ e7] at er ok;walk_at "fp";obtain⟨dx7,hR,hS,hne⟩:=R7;walk_at "fq";have R7:Rdr K a H7 r ta bs p5:=⟨dx7,hR,hS,hne⟩;have hR2:=hR;walk_at "gw";refine ex4 r ta bs p5 ⟨rfl,R7,fun hend=>?_,fun hend=>q2 p5 H7 (er ?_) R7⟩
 ·have fin:VhPage.end_ (⟨s,ws,ps,sg,en⟩:Work) p5 (bs.drop p5)=.ok (⟨s,ws,ps,sg,en⟩,p5,bs.drop p5):=by
   unfold VhPage.end_ Vh.byNext;rw[Zz,hend];rfl
  walk_at "gr";have dom2:∀c∈[r,wk,aP,aW,aE],∃o,H2 c=some o:=mem5 (p:=fun c=>∃o,H2 c=some o) (by obtain⟨_,h,_⟩:=R2;exact⟨_,h⟩) ⟨_,‹H2 wk=some (HO.ins a.CW dw (wf s aR aH aP aW aS aE))›⟩ ⟨_,aP2⟩ ⟨_,aW2⟩ ⟨_,aE2⟩
  have dn:∀c∈[r,wk,aP,aW,aE],¬ c=aR:=mem5 (p:=fun c=>¬ c=aR) (Ne.symm aRr) (Ne.symm aRwk) (Ne.symm RP) (Ne.symm RW) (Ne.symm RE)
  have dom3:∀c∈[r,wk,aP,aW,aE],∃o,H3 c=some o:=fun c hc=>by
   obtain⟨o,ho⟩:=dom2 c hc;by_cases z:c=r
   ·rw[z];exact⟨_,‹H3 r=some _›⟩
   ·exact⟨o,k3 _ _ ho (by simp only[y0b,List.not_mem_nil,or_false,not_or];exact⟨z,dn c hc⟩)⟩
  have dom4:∀c∈[r,wk,aP,aW,aE],∃o,H4 c=some o:=mem5 (p:=fun c=>∃o,H4 c=some o) (by obtain⟨_,h,_⟩:=R4;exact⟨_,h⟩) ⟨_,‹H4 wk=some (HO.ins a.CW dw (wf s aR hp aP aW aS aE))›⟩ ⟨_,aP4⟩ ⟨_,aW4⟩ ⟨_,aE4⟩
  have dom5:∀c∈[r,wk,aP,aW,aE],∃o,H5 c=some o:=mem5 (p:=fun c=>∃o,H5 c=some o) (by obtain⟨_,h,_⟩:=R5;exact⟨_,h⟩) ⟨_,‹H5 wk=some (HO.ins a.CW dw (wf s aR hp aP aW aS aE))›⟩ ⟨_,hvs⟩ ⟨_,hus⟩ ⟨_,aE5⟩
  have k67:Kp [r,wk,aP,aW,aE] H6 H7:=k7.mono (by simp);have k57:Kp [r,wk,aP,aW,aE] H5 H7:=(k6.mono (by simp)).trans k67;have k47:Kp [r,wk,aP,aW,aE] H4 H7:=(k5.mono (by intro b hb;simp at hb ⊢;rcases hb with h | h | h <;> simp[h])).trans k57;have k37:Kp [r,wk,aP,aW,aE] H3 H7:=(k34.mono (by simp)).trans k47;refine q1 ⟨s,ws,ps,sg,en⟩ (bs.take p2) wk H7 (ok fin) hd0 hps (fun c o e n=>?_) ⟨dw,aR,hp,aP,aW,D,aE,rs,vs,us,gs,es,k7 _ _ hWk (by simp[Ne.symm rwk,Ne.symm aEwk]),?_,?_,?_,?_,?_,?_,?_,?_,hgl,?_,hes,?_⟩
  ·have e2:=k02 c o e n;have n1:c≠aR:=fun z=>by rw[z,aR0] at e;cases e
   refine k37 c o (k3 c o e2 (by simp at n ⊢;exact⟨n,n1⟩)) ?_;walk_at "gr";simp at n ⊢;exact⟨n,fun z=>(by rw[z,hwk0] at e;cases e),fun z=>(by rw[z,aP0] at e;cases e),fun z=>(by rw[z,aW0] at e;cases e),fun z=>(by rw[z,aE0] at e;cases e)⟩
  ·exact k37 _ _ hrs (by simp[aRr,aRwk,RP,RW,RE])
  ·exact Paired.mapP hPr (by rintro x v ⟨t,rfl,h,h0⟩;exact ex1 t (Zgr k37 dom2 h0 h))
  ·exact Zgr k47 dom3 hhp hH4
  ·exact k7 _ _ (k6 _ _ hvs (by simp[aPr,aPwk])) (by simp[aPr,PE])
  ·exact Paired.mapP hPv (by rintro x v ⟨t,rfl,h,h0⟩;exact ex1 t (Zgr k57 dom4 h0 h))
  ·exact k7 _ _ hus6 (by simp[aWr,WE])
  ·exact Paired.mapP hPu (by rintro x v ⟨t,rfl,h,h0⟩;exact ex1 t (Zgr k57 dom4 h0 h))
  ·exact Zgr k67 dom5 hD0 hD
  ·intro j g hg;walk_at "fp";obtain⟨ts,h1,h2⟩:=hSg j g hg;walk_at "fq";exact⟨ts,Zgr k67 dom5 (hg0 g (y0f hg)) h1,Paired.mapP h2 (by rintro x v ⟨⟨t,rfl,h,h0⟩,_⟩;exact ex1 t (Zgr k67 dom5 h0 h))⟩
  ·exact Paired.mapP hPe (by
    rintro x v ⟨t,l,us',rfl,h,_,h2,_,h3⟩;exact ex3 t l us' ⟨rfl,h,h2,Paired.mapP h3 (by rintro y v ⟨b,rfl,hb,_⟩;exact ex1 b (hb))⟩)
 ·unfold VhPage.end_ Vh.byNext;rw[Zz];cases e:bs[p5]? with
  | none=>exact absurd e hend
  | some c=>rfl
theorem YJ {H:Hp}{p:Addr}{xs:List V}{j:Nat}{v:V}{Q:VK}(h:H p=some (.lst xs))(e:xs[j]?=some v)(q:Q v H):rIxL K (.ref p) (.int (j:Int)) H Q:=⟨p,xs,(j:Int),v,rfl,rfl,.inl (.inl h),XA e,q⟩
theorem Y4 {H:Hp}{p:Addr}{xs:List V}(j:Nat){v:V}{Q:VK}(h:H p=some (.tup xs))(e:xs[j]?=some v)(q:Q v H):rIxT K (.ref p) (.int (j:Int)) H Q:=⟨p,xs,(j:Int),v,rfl,rfl,.inl (.inl h),XA e,q⟩
theorem Zhm (c:Nat):∀l:List Nat,(l.map (fun(n:Nat)=>(n:Int))).contains (c:Int)=l.contains c
 | []=>rfl
 | x::l=>by
  rw[y05,List.contains_cons,List.contains_cons,Zhm c l];congr 1;by_cases z:c=x
  ·subst z;simp
  ·rw[beq_eq_false_iff_ne.mpr z,beq_eq_false_iff_ne];lia
theorem Zlv (c:Nat):X6.contains (c:Int)=VhPage.isMark c:=Zhm c Vh.MARKS
theorem Paired.get2 {α β:Type}{R:α->β->Prop}:∀{xs:List α}{ys:List β}{i:Nat}{x:α},Paired R xs ys->xs[i]?=some x->∃y,ys[i]?=some y/\R x y
 | _,_,_,_,.nil,e=>by simp at e
 | _,_,0,_,.cons r _,e=>by simp at e;subst e;exact ex1 _ (r)
 | _,_,i+1,y,.cons _ t,e=>by
  obtain⟨u,h1,h2⟩:=Paired.get2 (i:=i) (x:=y) t (by simpa using e);exact⟨u,by simpa using h1,h2⟩
def US (H:Hp)(rw:Addr)(rs:List (Nat×Nat×Nat)):Prop:=∃us,H rw=some (.lst us)/\Paired (RowI H) rs us/\ZfK rs/\rs.length<=64
theorem US.keep {H H':Hp}{rw:Addr}{rs:List (Nat×Nat×Nat)}(h:US H rw rs)(k:Kp [] H H'):US H' rw rs:=by
 obtain⟨us,h1,h2,h3⟩:=h;exact⟨us,k.z h1,Paired.mono (fun x v ⟨t,e,ht⟩=>⟨t,e,k.z ht⟩) h2,h3⟩
def ZgL (K:Frag)(a:Ad):Sp:=fun vs H Q _=>∃(rw:Addr) (rs:List (Nat×Nat×Nat)) (c:Nat),vs=[.ref rw,.int (c:Int)]/\US H rw rs/\Q (.int (Uk rs c:Nat)) H
noncomputable abbrev Zf3:Stmt:=top 8
theorem ZgO:Zm ["rows","character","low","high","middle"] ["rows","character"] (Zh Zf3):=by walk_at "sc"
theorem ZjS {f:Addr}{fd:FuncData}(F:Fun K "cells" "cells" Zf3 f fd)(T:Txt K mg a):FnOk P w K mg base CX0 1 f fd ["rows","character"] (ZgL K a):=by
 refine F.ok ZgO (by walk_at "ln") (fun cdv A outer s H vs Q E hr h=>?_);walk_at "fp";refine el3 h fun rw rs c zq=>?_
 clear h;obtain⟨rfl,⟨us,hrw,hP,ok,hn⟩,q⟩:=zq;walk_at "fq";have nd:=ZgO.nd;refine⟨_,(Zb (Zl (i:=2) nd rfl (Or.inl rfl) Zg) (Zb (Zl (i:=3) nd rfl (Or.inl rfl) (Zp Zj rfl T.len y13 (Za (pv 0) Zc))) (Zb (Yg PassesOwn.never (Zn Xp (pv 2) (pv 3) (Zs _)) (Zb (Zl (i:=4) nd rfl (Or.inl rfl) (Zw Zay (Zw ZS (pv 2) (pv 3)) Zg)) (Ze (ZV (Zn Xp (ZE Yl (ZE ZA (pv 0) (pv 4) (fun _ _=>rfl)) Zg (fun _ _=>rfl)) (pv 1) (Zs _)) (Ze (Zl (i:=2) nd rfl (Or.inl rfl) (Zw ZS (pv 4) Zg))) (Ze (Zl (i:=3) nd rfl (Or.inl rfl) (pv 4))))))) (Zb (ZV (PW.pt (YV (Zn Xp (pv 2) (Zp Zj rfl T.len y13 (Za (pv 0) Zc)) (Zs _)) (YV (Zn WC (ZE Yl (ZE ZA (pv 0) (pv 2) (fun _ _=>rfl)) Zg (fun _ _=>rfl)) (pv 1) (Zs _)) (YQ (Zn Zbe (pv 1) (Ja T.cMARKS) (by with_unfolding_all rfl)))))) (Ze (Zo (ZE Yl (ZE ZA (pv 0) (pv 2) (fun _ _=>rfl)) Zg (fun _ _=>rfl)))) Zv) (Ze (Zo Zg)))))),?_⟩;have hlu:=Paired.length hP;walk_at "rd";refine⟨_,.inl (.inl (.inl hrw)),?_⟩;obtain⟨W,hW⟩:∃W:WT,W=fun m σ H'=>H'=H/\∃(lo hi:Nat) (o:Option V),σ=[some (.ref rw),some (.int (c:Int)),some (.int (lo:Int)),some (.int (hi:Int)),o]/\m=hi-lo/\hi<=rs.length/\lo<=hi/\(∀i x,rs[i]?=some x->i<lo->x.2.1<c)/\(∀i x,rs[i]?=some x->hi<=i->c<=x.2.1):=⟨_,rfl⟩
 refine⟨W,⟨_,by rw[hW];exact⟨rfl,0,us.length,none,by simp,rfl,by lia,y0u _,fun i x _ z=>absurd z (Nat.not_lt_zero i),fun i x hx z=>by rw[y0a] at hx;obtain⟨h,_⟩:=hx;lia⟩⟩,fun m σ H2 hw=>?_⟩;rw[hW] at hw;walk_at "fp";obtain⟨rfl,lo,hi,o,rfl,rfl,hhi,hle,b1,b2⟩:=hw;walk_at "fq";walk_at "rd";split
 ·rename_i h;refine⟨fun σ' H'=>∃m',m' < hi-lo/\W m' σ' H',fun _ _ z=>z,⟨by lia,by lia⟩,?_⟩;have em:((lo:Int)+(hi:Int)) / 2=(((lo+hi) / 2:Nat):Int):=by lia
  rw[em];generalize hm:(lo+hi) / 2=m;have hm1:lo<=m:=by lia
  have hm2:m<hi:=by lia
  obtain⟨x,hx⟩:∃x,rs[m]?=some x:=⟨rs[m]'(by lia),y09 (by lia)⟩
  walk_at "fp";obtain⟨y,hy,t,rfl,ht⟩:=Paired.get2 hP hx;walk_at "fq";refine YJ hrw hy (Y4 1 ht rfl ⟨_,rfl,?_⟩);split
  ·rename_i h1;refine⟨hi-(m+1),by lia,?_⟩;rw[hW];refine⟨rfl,m+1,hi,_,rfl,rfl,hhi,by lia,fun i y hy l=>?_,b2⟩;have:=ZiW ok hy hx (by lia);lia
  ·rename_i h1;refine⟨m-lo,by lia,?_⟩;rw[hW];refine⟨rfl,ex3 lo m _ ⟨ rfl,rfl,by lia,by lia,b1,fun i y hy l=>?_⟩⟩;have:=ZiW ok hx hy l;lia
 ·rename_i h;have e:lo=hi:=by lia
  subst e;rw[Zjj ok b1 b2] at q;refine⟨_,.inl (.inl (.inl hrw)),?_⟩;split
  ·rename_i h1;obtain⟨x,hx⟩:∃x,rs[lo]?=some x:=⟨rs[lo]'(by lia),y09 (by lia)⟩
   walk_at "fp";obtain⟨y,hy,t,rfl,ht⟩:=Paired.get2 hP hx;walk_at "fq";rw[hx] at q;refine YJ hrw hy (Y4 0 ht rfl ⟨_,rfl,?_⟩);split
   ·rename_i h2;refine⟨_,.inr (T.tMARKS _),rfl,Zaa X6,?_⟩;rw[J7,Zlv];have h3:x.1<=c:=by lia
    simp only[h3,if_true] at q;split
    ·rename_i h4;rw[if_neg (by rw[h4];decide)] at q;exact YJ hrw hy (Y4 2 ht rfl q)
    ·rename_i h4;rw[if_pos (by simpa using h4)] at q;exact q
   ·rename_i h2;have h3:¬ x.1<=c:=by lia
    simp only[h3,if_false,ite_self] at q;exact q
  ·rename_i h1;rw[y0p (by lia)] at q;simp only[ite_self] at q;exact q
def Yx (K:Frag)(a:Ad):Sp:=fun vs H Q _=>∃(rw th:Addr) (rs:List (Nat×Nat×Nat)) (l:List Nat),vs=[.ref rw,.ref th]/\US H rw rs/\H th=some (.lst (lV l))/\l.length<=1048576/\∀H',Kp [] H H'->Q (.int (YH rs l:Nat)) H'
noncomputable abbrev Yi:Stmt:=top 9
theorem WH:Zm ["rows","thing","character"] ["rows","thing"] (Zh Yi):=by walk_at "sc"
theorem Jt:Jv ["rows","thing","character"] (Zh Yi) (lcSc (Zkm (Zbl (stI (ZI Yi) 0)) 0)) [("character",2)]:=by walk_at "bk"
theorem ZaC {f:Addr}{fd:FuncData}(F:Fun K "cells_of_thing" "cells_of_thing" Yi f fd)(T:Txt K mg a)(c_cells:FnC P w K mg base CX0 1 "cells" ["rows","character"] (ZgL K a)):FnOk P w K mg base CX0 2 f fd ["rows","thing"] (Yx K a):=by
 refine F.ok WH (by walk_at "ln") (fun cdv A outer s H vs Q E hr h=>?_);walk_at "fp";refine el4 h fun rw th rs l zq=>?_
 clear h;obtain⟨rfl,R,hth,hl,q⟩:=zq;walk_at "fq";have nd:=WH.nd;refine⟨_,(Ze (Zo (Zp (Zjg rfl) rfl T.sum boot_sum (Za (ZhK rfl nd (Xz (pv 1)) Jt (fun _ _ _ _ _=>(ZK (i:=2) nd rfl (Or.inl rfl))) (fun _ _ _ _ _=>WB) (fun _ _ _ _ _=>(Zi c_cells hr Zu (Za (pv 0) (Za (pv 2) Zc))))) Zc)))),?_⟩;have e0:YH rs (l.take 0)=0:=rfl;refine⟨_,rfl,th,rfl,⟨_,.inl (.inl hth)⟩,fun D hD=>?_⟩;have nD:th≠D:=Zf hth hD;obtain⟨Pv,hPv⟩:∃Pv:Nat->Hp->Prop,Pv=fun i H'=>Kp [] H H'/\H' D=some (.lst (lV ((l.map (Uk rs)).take i))):=⟨_,rfl⟩
 have hlv:(lV l).length=l.length:=y03 _;refine Zcq (xs:=lV l) Pv ?_ ?_ ?_ ?_
 ·rw[hPv];exact⟨Kp.new hD,Zd⟩
 ·intro i H' _ hw;rw[hPv] at hw;exact .inl (.inl (hw.1 _ _ hth (by simp)))
 ·intro i x H2 hi hw;rw[hPv] at hw;obtain⟨k,hD2⟩:=hw;obtain⟨n,hn,rfl⟩:∃n,l[i]?=some n/\V.int (n:Int)=x:=by
   unfold lV at hi;rw[y0l] at hi;cases h:l[i]? with
   | none=>rw[h] at hi;cases hi
   | some n=>rw[h] at hi;exact ex1 n (by simpa using hi)
  refine⟨rfl,?_⟩;simp only[tYes];walk_at "rd";refine⟨_,rfl,_,rfl,ex3 rw rs n ⟨ rfl,R.keep k,?_⟩⟩;have hil:=(y0a.mp hn).1;refine⟨_,hD2,by unfold lV;rw[y03,y0h];exact y0s (Nat.min_le_left _ _) (y0t (y0t hil hl) (by decide)),?_⟩;rw[hPv];refine⟨k.put2 (.inr hD),?_⟩;rw[Zd];have:(l.map (Uk rs)).take (i+1)=(l.map (Uk rs)).take i++[Uk rs n]:=ZD (by rw[y0l,hn];rfl);rw[this];unfold lV;rw[y07];rfl
 ·intro H2 hw;rw[hPv] at hw;obtain⟨k,hD2⟩:=hw;rw[hlv,y0e (by simp)] at hD2;have e:∀x:List Nat,((x.map fun n:Nat=>(n:Int)).sum)=(x.sum:Nat):=fun x=>by
   induction x with
   | nil=>rfl
   | cons y x ih=>rw[y05,y06,y06,ih];simp
  refine ex2 D ((l.map (Uk rs)).map (fun(n:Nat)=>(n:Int))) ⟨rfl,.inl (.inl ?_),?_⟩
  ·rw[hD2];unfold lV;rw[List.map_map,List.map_map,List.map_map];rfl
  ·rw[e];exact q H2 k
theorem Zmp {x:Str}{g:TG}{tt:TT}{te:TE}{vs:List Nat}{σ:L2.St}{H1:Hp}{D:Addr}{Qd:Hp->Prop}(Pv:Nat->Hp->Prop)(h0:Pv 0 (upd H1 D (.lst [])))
  (hs:∀i c H,x.cps[i]?=some c->Pv i H->g (.str ⟨#[c]⟩) (wipe σ vs) H fun σ2 H2=>wipe σ2 vs=wipe σ vs/\tt σ2 H2 fun b H3 =>
   if b=true then te σ2 H3 fun y H4=>∃acc,H4 D=some (.lst acc)/\acc.length<sizeLine/\Pv (i+1) (upd H4 D (.lst (acc++[y]))) else Pv (i+1) H3) (hd:∀H,Pv x.cps.size H->Qd H) :
  ∃W:Nat->Nat->Hp->Prop,(∃m,W 0 m (upd H1 D (.lst [])))/\∀i m H,W i m H ->
   ((Its x).stop i H/\Qd H)\/((Its x).go i H/\∃Nx:Hp->Prop,(∀H',Nx H'->∃m',m' < m/\W (i+1) m' H')/\∀v H',(Its x).yld i H v H'->g v (wipe σ vs) H' fun σ2 H2=>wipe σ2 vs=wipe σ vs/\tt σ2 H2 fun b H3 =>
    if b=true then te σ2 H3 fun y H4=>∃acc,H4 D=some (.lst acc)/\acc.length<sizeLine/\Nx (upd H4 D (.lst (acc++[y]))) else Nx H3):=by
 refine⟨fun i m H=>m=x.cps.size-i/\i<=x.cps.size/\Pv i H,⟨x.cps.size,by simp,y0u _,h0⟩,?_⟩;rintro i m H ⟨rfl,hi,p⟩;by_cases hlt:i<x.cps.size
 ·refine .inr ⟨hlt,Pv (i+1),fun H' p'=>⟨x.cps.size-(i+1),by lia,rfl,hlt,p'⟩,?_⟩;rintro v H' ⟨e,c,hc,rfl⟩;subst e;exact hs i c _ hc p
 ·have e:i=x.cps.size:=by lia
  subst e;exact .inl ⟨y0r _,hd H p⟩
def ZQ (K:Frag)(a:Ad):Sp:=fun vs H Q _=>∃(x:Str),vs=[.str x]/\x.cps.size<=1048576/\∀H' p,H p=none->Kp [] H H'->H' p=some (.lst (lV x.cps.toList))->Q (.ref p) H'
noncomputable abbrev Yt:Stmt:=top 10
theorem Vy:Zm ["text","sign"] ["text"] (Zh Yt):=by walk_at "sc"
theorem Zah:Jv ["text","sign"] (Zh Yt) (lcSc (Zbl (stI (ZI Yt) 0))) [("sign",1)]:=by walk_at "bk"
theorem Zbs {f:Addr}{fd:FuncData}(F:Fun K "characters_of" "characters_of" Yt f fd)(T:Txt K mg a):FnOk P w K mg base CX0 1 f fd ["text"] (ZQ K a):=by
 refine F.ok Vy (by walk_at "ln") (fun cdv A outer s H vs Q E hr h=>?_);obtain⟨x,rfl,hx,q⟩:=h;have nd:=Vy.nd;refine⟨_,(Ze (Zo (ZhK rfl nd (Zmh (pv 0)) Zah (fun _ _ _ _ _=>(ZK (i:=1) nd rfl (Or.inl rfl))) (fun _ _ _ _ _=>WB) (fun _ _ _ _ _=>(Zp Zhp rfl T.ord boot_ord (Za (pv 1) Zc)))))),?_⟩;refine⟨_,rfl,x,rfl,fun D hD=>?_⟩;obtain⟨Pv,hPv⟩:∃Pv:Nat->Hp->Prop,Pv=fun i H'=>Kp [] H H'/\H' D=some (.lst (lV (x.cps.toList.take i))):=⟨_,rfl⟩
 refine Zmp Pv ?_ ?_ ?_
 ·rw[hPv];exact⟨Kp.new hD,Zd⟩
 ·intro i c H2 hi hw;rw[hPv] at hw;obtain⟨k,hD2⟩:=hw;refine⟨rfl,?_⟩;simp only[tYes];walk_at "rd";refine⟨_,rfl,_,rfl,rfl,_,hD2,?_,?_⟩
  ·unfold lV;rw[y03,y0h,Array.length_toList];exact y0s (y0q (Nat.min_le_right _ _) hx) (by decide)
  ·rw[hPv];refine⟨k.put2 (.inr hD),?_⟩;rw[Zd,ZD (x:=c) (by rw[Array.getElem?_toList];exact hi)];unfold lV;rw[y07];rfl
 ·intro H2 hw;rw[hPv] at hw;obtain⟨k,hD2⟩:=hw;rw[y0e (by simp)] at hD2;exact q H2 D hD k hD2
def Xh (K:Frag)(a:Ad):Sp:=fun vs H Q _=>∃(c:Nat),vs=[.int (c:Int)]/\c<0x110000/\∀p,H p=none->Q (.ref p) (upd H p (.lst (bsV (Vh.charOf c))))
noncomputable abbrev YE:Stmt:=top 12
theorem Xj:Zm ["character","last","middle"] ["character"] (Zh YE):=by walk_at "sc"
theorem V4 {f:Addr}{fd:FuncData}(F:Fun K "bytes_of_character" "bytes_of_character" YE f fd)(T:Txt K mg a):FnOk P w K mg base CX0 1 f fd ["character"] (Xh K a):=by
 refine F.ok Xj (by walk_at "ln") (fun cdv A outer s H vs Q E hr h=>?_);obtain⟨c,rfl,hc,q⟩:=h;have nd:=Xj.nd;refine⟨_,(Zb (ZV (Zn Xp (pv 0) Zg (Zs _)) (Ze (Zo (ZW (Za (pv 0) Zc)))) Zv) (Zb (Zl (i:=1) nd rfl (Or.inl rfl) (Zw ZS Zg (Zw Ze2 (pv 0) Zg))) (Zb (ZV (Zn Xp (pv 0) Zg (Zs _)) (Ze (Zo (ZW (Za (Zw ZS Zg (Zw Zay (pv 0) Zg)) (Za (pv 1) Zc))))) Zv) (Zb (Zl (i:=2) nd rfl (Or.inl rfl) (Zw ZS Zg (Zw Ze2 (Zw Zay (pv 0) Zg) Zg))) (Zb (ZV (Zn Xp (pv 0) Zg (Zs _)) (Ze (Zo (ZW (Za (Zw ZS Zg (Zw Zay (pv 0) Zg)) (Za (pv 2) (Za (pv 1) Zc)))))) Zv) (Ze (Zo (ZW (Za (Zw ZS Zg (Zw Zay (pv 0) Zg)) (Za (Zw ZS Zg (Zw Ze2 (Zw Zay (pv 0) Zg) Zg)) (Za (pv 2) (Za (pv 1) Zc)))))))))))),?_⟩;walk_at "rd";generalize h65:(65536:Int)=b65;have z1:1<=sizeLine:=by decide
 have z2:2<=sizeLine:=by decide
 have z3:3<=sizeLine:=by decide
 have z4:4<=sizeLine:=by decide
 have d1:CDiv (c:Int) 64:=⟨by decide,by decide⟩;have d2:CDiv (c:Int) 4096:=⟨by decide,by decide⟩;have d3:CDiv (c:Int) 262144:=⟨by decide,by decide⟩;have b1:∀{n:Nat}{i:Int},n<256->i=n->V.int i=V.int ((UInt8.ofNat n).toNat:Int):=fun h e=>by
  subst e;rw[UInt8.toNat_ofNat_of_lt' (by simpa using h)]
 unfold Vh.charOf bsV at q;split
 ·rename_i h;rw[if_pos (by lia)] at q;refine⟨z1,fun p hp=>?_⟩;have:=q p hp;rw[y05,List.map_nil,<- b1 (i:=(c:Int)) (by lia) rfl] at this;exact this
 ·rename_i h;rw[if_neg (by lia)] at q;refine⟨by decide,?_⟩;split
  ·rename_i h1;rw[if_pos (by lia)] at q;refine⟨d1,z2,fun p hp=>?_⟩;have:=q p hp;rw[y05,y05,List.map_nil,<- b1 (i:=192+(c:Int) / 64) (by lia) (by lia),<- b1 (i:=128+(c:Int) % 64) (by lia) (by lia)] at this;exact this
  ·rename_i h1;rw[if_neg (by lia)] at q;refine⟨d1,by decide,?_⟩;split
   ·rename_i h2;rw[if_pos (by lia)] at q;refine⟨d2,z3,fun p hp=>?_⟩;have:=q p hp;rw[y05,y05,y05,List.map_nil,<- b1 (i:=224+(c:Int) / 4096) (by lia) (by lia),<- b1 (i:=128+(c:Int) / 64 % 64) (by lia) (by lia),<- b1 (i:=128+(c:Int) % 64) (by lia) (by lia)] at this;exact this
   ·rename_i h2;rw[if_neg (by lia)] at q;refine⟨d3,d2,by decide,z4,fun p hp=>?_⟩;have:=q p hp;rw[y05,y05,y05,y05,List.map_nil,<- b1 (i:=240+(c:Int) / 262144) (by lia) (by lia),<- b1 (i:=128+(c:Int) / 4096 % 64) (by lia) (by lia),<- b1 (i:=128+(c:Int) / 64 % 64) (by lia) (by lia),<- b1 (i:=128+(c:Int) % 64) (by lia) (by lia)] at this;exact this
theorem Zg7 {l:List Nat}{i:Nat}{x:V}(hi:(lV l)[i]?=some x):∃n:Nat,l[i]?=some n/\V.int (n:Int)=x:=by
 unfold lV at hi;rw[y0l] at hi;cases h:l[i]? with
 | none=>rw[h] at hi;cases hi
 | some n=>rw[h] at hi;exact ex1 n (by simpa using hi)
theorem ZeE:∀xs:List Nat,(Vh.spelt xs).length<=4 * xs.length
 | []=>y0r _
 | x::xs=>by
  have h1:(Vh.charOf x).length<=4:=by unfold Vh.charOf;(repeat' split) <;> simp
  have:=ZeE xs;unfold Vh.spelt at this ⊢;rw[y0m,y01,y02];lia
theorem Zc7 (xs:List Nat)(c:Nat):Vh.spelt (xs++[c])=Vh.spelt xs++Vh.charOf c:=by unfold Vh.spelt;rw[List.flatMap_append];simp
def ZbU (K:Frag)(a:Ad):Sp:=fun vs H Q _=>∃(l:Addr) (xs:List Nat),vs=[.ref l]/\H l=some (.lst (lV xs))/\(∀c∈xs,c<0x110000)/\xs.length<=4194303/\∀H' p,H p=none->Kp [] H H'->H' p=some (.lst (bsV (Vh.spelt xs)))->Q (.ref p) H'
noncomputable abbrev Zas:Stmt:=top 13
theorem Zb1:Zm ["characters","found","character"] ["characters"] (Zh Zas):=by walk_at "sc"
theorem Zgg {f:Addr}{fd:FuncData}(F:Fun K "bytes_of" "bytes_of" Zas f fd)(T:Txt K mg a)(c_bytes_of_character:FnC P w K mg base CX0 1 "bytes_of_character" ["character"] (Xh K a)):FnOk P w K mg base CX0 2 f fd ["characters"] (ZbU K a):=by
 refine F.ok Zb1 (by walk_at "ln") (fun cdv A outer s H vs Q E hr h=>?_);refine el2 h fun l xs zq=>?_
 clear h;obtain⟨rfl,hl,hc,hn,q⟩:=zq;have nd:=Zb1.nd;refine⟨_,(Zb (Zl (i:=1) nd rfl (Or.inl rfl) (ZW Zc)) (Zb (Y7 PassesOwn.never rfl (Xz (pv 0)) (ZK (i:=2) nd rfl (Or.inl rfl)) (Ze (Zr (Yj y0y y0z y10 ZG (pv 1) (Za (Zi c_bytes_of_character hr Zu (Za (pv 2) Zc)) Zc))))) (Ze (Zo (pv 1))))),?_⟩;walk_at "rd";refine⟨by decide,fun D hD=>?_⟩;have nD:l≠D:=Zf hl hD;obtain⟨Pv,hPv⟩:∃Pv:WT,Pv=fun i σ H'=>∃o:Option V,σ=[some (.ref l),some (.ref D),o]/\Kp [] H H'/\H' D=some (.lst (bsV (Vh.spelt (xs.take i)))):=⟨_,rfl⟩
 refine⟨_,rfl,_,rfl,⟨_,.inl (.inl (Zx nD hl))⟩,W9 (xs:=lV xs) Pv ?_ ?_ ?_ ?_⟩
 ·rw[hPv];exact⟨none,rfl,Kp.new hD,Zd⟩
 ·intro i σ H' _ hw;rw[hPv] at hw;obtain⟨o,rfl,k,_⟩:=hw;exact .inl (.inl (k.z hl))
 ·intro i v σ H2 hi hw;rw[hPv] at hw;obtain⟨o,rfl,k,hD2⟩:=hw;obtain⟨n,hn',rfl⟩:=Zg7 hi;have tot:=ZeE (xs.take (i+1));have hle:(xs.take (i+1)).length<=xs.length:=by rw[y0h];lia
  rw[ZD hn',Zc7,y01] at tot;rw[ZD hn'] at hle;have hz:sizeLine=16777216:=by decide
  walk_at "rd";refine⟨.inl ⟨rfl,_,.inl (.inl hD2)⟩,n,rfl,hc n (y0f hn'),fun p hp=>?_⟩;have nDp:D≠p:=Zf hD2 hp;have hD3:upd H2 p (HO.lst (bsV (Vh.charOf n))) D=some (.lst (bsV (Vh.spelt (xs.take i)))):=Zx nDp hD2;refine ex1 _ (⟨_,hD3,_,Zd,by rw[Ul,Ul];lia,?_⟩);rw[hPv];refine⟨_,rfl,(k.trans (Kp.new hp)).put2 (.inr hD),?_⟩;rw[Zd,ZD hn',Zc7];unfold bsV;rw[y07]
 ·intro σ H2 hw;rw[hPv] at hw;obtain⟨o,rfl,k,hD2⟩:=hw;rw[Zy,y0e (y0r _)] at hD2;walk_at "rd";exact q H2 D hD k hD2
def ZaR (K:Frag)(a:Ad):Sp:=fun vs H Q _=>∃(t r:Nat) (b:Bool),vs=[.int (t:Int),.int (r:Int),.bl b]/\r<=1000000/\Q (.int (VhPage.lineCost r t b:Nat)) H
noncomputable abbrev UZ:Stmt:=top 15
theorem Za0:Zm ["taken","room","is_last"] ["taken","room","is_last"] (Zh UZ):=by walk_at "sc"
theorem Ze5 {f:Addr}{fd:FuncData}(F:Fun K "line_cost" "line_cost" UZ f fd)(T:Txt K mg a):FnOk P w K mg base CX0 1 f fd ["taken","room","is_last"] (ZaR K a):=by
 refine F.ok Za0 (by walk_at "ln") (fun cdv A outer s H vs Q E hr h=>?_);refine el3 h fun t r b zq=>?_
 clear h;obtain⟨rfl,hr0,q⟩:=zq;have nd:=Za0.nd;refine⟨_,(Zb (ZV (PW.pt (ZcL (W3 (pv 2) (fun _=>rfl)) (JU (Zn Jc (pv 0) (pv 1) (Zs _))))) (Ze (Zo Zg)) Zv) (Ze (Zo (Zw ZkP (Zw Z6 (pv 1) (pv 0)) Zg)))),?_⟩;unfold VhPage.lineCost at q;walk_at "rd";refine⟨b,rfl,?_⟩;cases b
 ·rw[if_neg (by decide)];split
  ·rename_i h;rw[if_pos (.inr (by lia))] at q;exact q
  ·rename_i h;rw[if_neg (by simp;lia)] at q;refine⟨⟨by decide,by decide,by lia⟩,?_⟩;have e:((r:Int)-(t:Int)) ^ Int.toNat 2=(((r-t) ^ 2:Nat):Int):=by
    have e1:((r:Int)-(t:Int))=((r-t:Nat):Int):=by lia
    rw[e1,Int.natCast_pow];rfl
   rw[e];exact q
 ·rw[if_pos rfl];rw[if_pos (.inl rfl)] at q;exact q
noncomputable def Zkp (r:Nat)(xs:List Nat)(e:Nat):Nat:=if e<xs.length then e+(bst r xs (tab r xs) e).2 else xs.length
noncomputable def Zil (r:Nat)(xs:List Nat)(e:Nat):List V:=[.int (VA r xs e:Nat),.int (Zkp r xs e:Nat),.int (W7 r xs e:Nat)]
def ZkD (H:Hp)(r:Nat)(xs:List Nat)(e:Nat)(v:V):Prop:=∃t,v=.ref t/\H t=some (.tup (Zil r xs e))
def Wh (K:Frag)(a:Ad):Sp:=fun vs H Q _=>∃(tk tl:Addr) (us:List V) (xs:List Nat) (start room r:Nat),vs=[.ref tk,.ref tl,.int (start:Int),.int (room:Int)]/\H tk=some (.lst (lV xs))/\H tl=some (.lst us)/\start<xs.length/\room<=1000000 /\
 (∀e,start<e->e<=xs.length->∃v,us[e]?=some v/\ZkD H r xs e v) /\
 ∀p,H p=none->Q (.ref p) (upd H p (.tup [.int ((bst room xs (tab r xs) start).1:Nat),.int (start+(bst room xs (tab r xs) start).2:Nat),.int (1+W7 r xs (start+(bst room xs (tab r xs) start).2):Nat)]))
noncomputable abbrev U2:Stmt:=top 16
theorem Za3:Zm ["takes","tails","start","room","end","taken","best_end","least","total"] ["takes","tails","start","room"] (Zh U2):=by walk_at "sc"
theorem Ze8 {f:Addr}{fd:FuncData}(F:Fun K "best_from" "best_from" U2 f fd)(T:Txt K mg a)(c_line_cost:FnC P w K mg base CX0 1 "line_cost" ["taken","room","is_last"] (ZaR K a)):FnOk P w K mg base CX0 2 f fd ["takes","tails","start","room"] (Wh K a):=by
 refine F.ok Za3 (by walk_at "ln") (fun cdv A outer s H vs Q E hr h=>?_);refine el7 h fun tk tl us xs start room r zq=>?_
 clear h;obtain⟨rfl,htk,htl,hs,hroom,hT,q⟩:=zq;have nd:=Za3.nd;refine⟨_,(Zb (Zl (i:=4) nd rfl (Or.inl rfl) (Zw ZS (pv 2) Zg)) (Zb (Zl (i:=5) nd rfl (Or.inl rfl) (ZE ZA (pv 0) (pv 2) (fun _ _=>rfl))) (Zb (Zl (i:=6) nd rfl (Or.inl rfl) (pv 4)) (Zb (Zl (i:=7) nd rfl (Or.inl rfl) (Zw ZS (Zi c_line_cost hr Zu (Za (pv 5) (Za (pv 3) (Za (X4 Wb (pv 4) (Zp Zj rfl T.len y13 (Za (pv 0) Zc)) (Zs _)) Zc)))) (ZE Yl (ZE ZA (pv 1) (pv 4) (fun _ _=>rfl)) Zg (fun _ _=>rfl)))) (Zb (Yg PassesOwn.never (Zn Xp (pv 4) (Zp Zj rfl T.len y13 (Za (pv 0) Zc)) (Zs _)) (Zb (JW (i:=5) nd rfl (Or.inl rfl) (Zw ZS Zg (ZE ZA (pv 0) (pv 4) (fun _ _=>rfl))) Zbg) (Zb (JW (i:=4) nd rfl (Or.inl rfl) Zg Zbg) (Zb (ZV (Zn Jc (pv 5) (pv 3) (Zs _)) (Ze ZgS) Zv) (Zb (Zl (i:=8) nd rfl (Or.inl rfl) (Zw ZS (Zi c_line_cost hr Zu (Za (pv 5) (Za (pv 3) (Za (X4 Wb (pv 4) (Zp Zj rfl T.len y13 (Za (pv 0) Zc)) (Zs _)) Zc)))) (ZE Yl (ZE ZA (pv 1) (pv 4) (fun _ _=>rfl)) Zg (fun _ _=>rfl)))) (Ze (ZV (Zn WC (pv 8) (pv 7) (Zs _)) (Zb (Zl (i:=7) nd rfl (Or.inl rfl) (pv 8)) (Ze (Zl (i:=6) nd rfl (Or.inl rfl) (pv 4)))) Zv))))))) (Ze (Zo (X3 (Za (pv 7) (Za (pv 6) (Za (Zw ZS Zg (ZE Yl (ZE ZA (pv 1) (pv 6) (fun _ _=>rfl)) Zg (fun _ _=>rfl))) Zc))))))))))),?_⟩;obtain⟨x,hx⟩:∃x,xs[start]?=some x:=⟨xs[start],y09 hs⟩
 have hlv:∀{e y:Nat},xs[e]?=some y->(lV xs)[e]?=some (V.int (y:Int)):=fun h=>by unfold lV;rw[y0l,h];rfl
 walk_at "rd";refine YJ htk (hlv hx) ⟨_,.inl (.inl (.inl htk)),x,room,decide (start+1=xs.length),?_,hroom,?_⟩
 ·rw[Zy];have:decide ((start:Int)+1=(xs.length:Int))=decide (start+1=xs.length):=decide_eq_decide.mpr (by lia);rw[this]
 walk_at "fp";obtain⟨v1,hv1,t1,rfl,ht1⟩:=hT (start+1) (by lia) (by lia);walk_at "fq";have es:(start:Int)+1=((start+1:Nat):Int):=rfl;rw[es];refine YJ htl hv1 (Y4 0 ht1 rfl ⟨_,rfl,_,rfl,?_⟩);obtain⟨W,hW⟩:∃W:WT,W=fun m σ H'=>H'=H/\∃(e taken be least:Nat) (o:Option V),σ=[some (.ref tk),some (.ref tl),some (.int (start:Int)),some (.int (room:Int)),some (.int (e:Int)),some (.int (taken:Int)),some (.int ((start+be:Nat):Int)),some (.int (least:Int)),o]/\m=xs.length-e/\start<e/\e<=xs.length/\1<=be/\start+be<=xs.length /\
  bst room xs (tab r xs) start=VhPage.bestLine room (e-start) taken (xs.drop e) ((tab r xs).drop e) (least,be):=⟨_,rfl⟩
 refine⟨W,⟨_,by rw[hW];exact⟨rfl,ex5 (start+1) x 1 (VhPage.lineCost room x (decide (start+1=xs.length))+VA r xs (start+1)) none ⟨rfl,rfl,by lia,by lia,by lia,by lia,by rw[Zh7 room xs r start hx,Nat.add_sub_cancel_left]⟩⟩⟩,fun m σ H2 hw=>?_⟩;rw[hW] at hw;walk_at "fp";obtain⟨rfl,e,taken,be,least,o,rfl,rfl,he1,he2,hb1,hb2,hB⟩:=hw;walk_at "fq";have fin:∀b:Nat×Nat,bst room xs (tab r xs) start=b->b.2=be->b.1=least->rIxL K (V.ref tl) (V.int ((start+be:Nat):Int)) H2 fun x H1=>rIxT K x (V.int 2) H1 fun y H2=>∃j,y=V.int j/\(3<=sizeLine/\∀p,H2 p=none->Q (V.ref p) (upd H2 p (HO.tup [V.int (least:Int),V.int ((start+be:Nat):Int),V.int (1+j)]))):=fun b hb h2 h1=>by
  walk_at "fp";obtain⟨v2,hv2,t2,rfl,ht2⟩:=hT (start+be) (by lia) (by lia);walk_at "fq";refine YJ htl hv2 (Y4 2 ht2 rfl ⟨_,rfl,by decide,fun p hp=>?_⟩);have:=q p hp;rw[hb,h2,h1] at this;exact this
 walk_at "rd";refine⟨_,.inl (.inl (.inl htk)),?_⟩;rw[Zy];split
 ·rename_i h;have he:e<xs.length:=by lia
  obtain⟨y,hy⟩:∃y,xs[e]?=some y:=⟨xs[e],y09 he⟩
  rw[Zjl room xs r start e taken _ he1 hy] at hB;refine⟨fun σ' H'=>∃m',m' < xs.length-e/\W m' σ' H',fun _ _ z=>z,?_⟩;refine YJ htk (hlv hy) ⟨_,rfl,?_⟩;split
  ·rename_i h1;rw[if_pos (by lia)] at hB;simp only[Zip];walk_at "rd";exact fin _ hB rfl rfl
  ·rename_i h1;rw[if_neg (by lia)] at hB;refine⟨_,.inl (.inl (.inl htk)),taken+1+y,room,decide (e+1=xs.length),?_,hroom,?_⟩
   ·rw[Zy];have:decide ((e:Int)+1=(xs.length:Int))=decide (e+1=xs.length):=decide_eq_decide.mpr (by lia);rw[this];have:(taken:Int)+(1+(y:Int))=((taken+1+y:Nat):Int):=by lia
    rw[this]
   walk_at "fp";obtain⟨v2,hv2,t2,rfl,ht2⟩:=hT (e+1) (by lia) (by lia);walk_at "fq";have ee:(e:Int)+1=((e+1:Nat):Int):=rfl;have et:(taken:Int)+(1+(y:Int))=((taken+1+y:Nat):Int):=by lia
   rw[ee,et];refine YJ htl hv2 (Y4 0 ht2 rfl ⟨_,rfl,_,rfl,?_⟩);have ec:((VhPage.lineCost room (taken+1+y) (decide (e+1=xs.length)):Nat):Int)+((VA r xs (e+1):Nat):Int)=((VhPage.lineCost room (taken+1+y) (decide (e+1=xs.length))+VA r xs (e+1):Nat):Int):=by lia
   rw[ec];generalize VhPage.lineCost room (taken+1+y) (decide (e+1=xs.length))+VA r xs (e+1)=tot at *;split
   ·rename_i h2;rw[if_pos (by simp only[];lia)] at hB;refine⟨xs.length-(e+1),by lia,?_⟩;rw[hW];have eb:start+(e+1-start)=e+1:=by lia
    exact⟨rfl,e+1,taken+1+y,e+1-start,tot,_,by rw[eb],rfl,by lia,by lia,by lia,by lia,hB⟩
   ·rename_i h2;rw[if_neg (by simp only[];lia)] at hB;refine⟨xs.length-(e+1),by lia,?_⟩;rw[hW];exact⟨rfl,ex5 (e+1) (taken+1+y) be least _ ⟨rfl,rfl,by lia,by lia,by lia,by lia,hB⟩⟩
 ·rename_i h;have he:e=xs.length:=by lia
  subst he;rw[List.drop_eq_nil_of_le (y0r _)] at hB;exact fin _ hB rfl rfl
theorem ZcV {X:Cx}{K:Frag}(h:X.K=K):Zep X (.builtin "len") (fun xs H Q=>∃p ys,xs=[.ref p]/\(SqL K H p ys\/SqT K H p ys)/\Q (.int ys.length) H):=by subst h;exact Zj
theorem Zfk {X:Cx}{K:Frag}(h:X.K=K):IxR X (rIxL K):=by subst h;exact ZA
def Ju (H:Hp)(tl:Addr)(r:Nat)(xs:List Nat):Prop:=∃us,H tl=some (.lst us)/\us.length=xs.length+1/\∀e,1<=e->e<=xs.length->∃v,us[e]?=some v/\ZkD H r xs e v
def UW (K:Frag)(a:Ad):Sp:=fun vs H Q _=>∃(tk:Addr) (xs:List Nat) (room:Nat),vs=[.ref tk,.int (room:Int)]/\H tk=some (.lst (lV xs))/\0<xs.length/\xs.length<=1048576/\room<=1000000 /\
 ∀H' p,H p=none->Kp [] H H'->Ju H' p room xs->Q (.ref p) H'
noncomputable abbrev WI:Stmt:=top 17
theorem ZbW:Zm ["takes","room","tails","k","start"] ["takes","room"] (Zh WI):=by walk_at "sc"
theorem Zei:Jv ["takes","room","tails","k","start"] (Zh WI) (lcSc (Zbl (stI (ZI WI) 0))) [("k",3)]:=by walk_at "bk"
theorem Zgb {f:Addr}{fd:FuncData}(F:Fun K "tails_of" "tails_of" WI f fd)(T:Txt K mg a)(c_best_from:FnC P w K mg base CX0 2 "best_from" ["takes","tails","start","room"] (Wh K a)):FnOk P w K mg base CX0 3 f fd ["takes","room"] (UW K a):=by
 refine F.ok ZbW (by walk_at "ln") (fun cdv A outer s H vs Q E hr h=>?_);refine el3 h fun tk xs room zq=>?_
 clear h;obtain⟨rfl,htk,hn0,hn,hroom,q⟩:=zq;have nd:=ZbW.nd;refine⟨_,(Zb (JV (i:=2) rfl nd rfl rfl (ZbN rfl rfl rfl rfl) (Zb8 rfl T.range (Za (Zw ZS (Zp Zj rfl T.len y13 (Za (pv 0) Zc)) Zg) Zc)) Zei (fun _ _ _ _ _=>(ZK (i:=3) nd rfl (Or.inl rfl))) (fun _ _ _ _ _=>WB) (fun _ _ _ _ _=>(X3 (Za Zg (Za (Zp (ZcV (K:=K) rfl) rfl T.len y13 (Za (pv 0) Zc)) (Za Zg Zc)))))) (Zb (Y7 PassesOwn.never rfl (Zb7 rfl T.range (Za (Zw Z6 (Zp Zj rfl T.len y13 (Za (pv 0) Zc)) Zg) (Za Zg (Za (ZeW ZaN Zg) Zc)))) (ZK (i:=4) nd rfl (Or.inl rfl)) (Ze (ZkL (Zi c_best_from hr Zu (Za (pv 0) (Za (pv 2) (Za (pv 4) (Za (pv 1) Zc))))) (ZkN (pv 2) (pv 4) ZgN)))) (Ze (Zo (pv 2))))),?_⟩;have hlen:(lV xs).length=xs.length:=Zy xs;refine⟨_,rfl,tk,_,rfl,.inl (.inl (.inl htk)),_,_,rfl,rfl,_,rfl,by rw[hlen];lia,by rw[hlen];lia,fun D hD=>?_⟩;have nD:tk≠D:=Zf htk hD;have ej:Int.toNat (((lV xs).length:Nat)+1:Int)=xs.length+1:=by rw[hlen];lia
 rw[ej];have t0:([.int (0:Int),.int (xs.length:Int),.int (0:Int)]:List V)=Zil room xs xs.length:=by
  unfold Zil VA Zkp W7;simp only[Nat.lt_irrefl,if_false];rfl
 obtain⟨Pv,hPv⟩:∃Pv:Nat->Hp->Prop,Pv=fun i H'=>Kp [] H H'/\∃us,us.length=i/\H' D=some (.lst us)/\∀v∈us,ZkD H' room xs xs.length v:=⟨_,rfl⟩
 refine J6 Pv ?_ ?_ ?_
 ·rw[hPv];exact⟨Kp.new hD,[],rfl,Zd,fun v hv=>by simp at hv⟩
 ·intro i H2 hi hw;rw[hPv] at hw;walk_at "fp";obtain⟨k,us,hul,hD2,hus⟩:=hw;walk_at "fq";refine⟨rfl,?_⟩;simp only[tYes];walk_at "rd";refine⟨_,rfl,_,rfl,_,.inl (.inl (.inl (k.z htk))),by decide,fun t ht=>?_⟩;have nDt:D≠t:=Zf hD2 ht;refine⟨us,Zx nDt hD2,by rw[hul];exact y0t hi (y0q (Nat.succ_le_succ hn) (by decide)),?_⟩;rw[hPv];have kk:=k.trans (Kp.new (o:=HO.tup [V.int 0,V.int ↑(lV xs).length,V.int 0]) ht);refine⟨kk.put2 (.inr hD),us++[.ref t],by simp[hul],Zd,fun v hv=>?_⟩;rcases y0d.mp hv with h | h
  ·walk_at "fp";obtain⟨t',e,h'⟩:=hus v h;walk_at "fq";exact⟨t',e,by rw[Zk (fun z=>by rw[z,hD2] at h';cases h'),Zk (Zf h' ht)];exact h'⟩
  ·have e:v=.ref t:=by simpa using h
   exact⟨t,e,by rw[Zk (Ne.symm nDt),Zd,hlen,t0]⟩
 ·intro H2 hw;rw[hPv] at hw;walk_at "fp";obtain⟨k,us,hul,hD2,hus⟩:=hw;walk_at "fq";clear hPv Pv;have htk2:=k.z htk;walk_at "rd";obtain⟨Pv,hPv⟩:∃Pv:WT,Pv=fun i σ H'=>Kp [] H H'/\∃(o:Option V) (us:List V),σ=[some (.ref tk),some (.int (room:Int)),some (.ref D),none,o]/\us.length=xs.length+1/\H' D=some (.lst us)/\∀e,1<=e->xs.length<=e+i->e<=xs.length->∃v,us[e]?=some v/\ZkD H' room xs e v:=⟨_,rfl⟩
  refine⟨_,rfl,tk,rfl,_,.inl (.inl (.inl htk2)),_,_,rfl,rfl,_,rfl,ex4 _ _ _ _ ⟨ rfl,RgC.neg (by lia) (by lia) (by lia) (by lia),ZaJ Pv ?_ ?_ ?_⟩⟩
  ·rw[hPv];refine⟨k,none,us,rfl,hul,hD2,fun e h1 h2 h3=>?_⟩;have e1:e=xs.length:=by lia
   subst e1;exact⟨us[xs.length],y09 (by lia),hus _ (List.getElem_mem _)⟩
  ·intro i σ H3 hi hw;rw[hlen] at hi;rw[hPv] at hw;walk_at "fp";obtain⟨k3,o,us3,rfl,hul3,hD3,hT3⟩:=hw;walk_at "fq";have hst:((lV xs).length:Int)-1+(i:Int) * -1=((xs.length-1-i:Nat):Int):=by rw[hlen];lia
   rw[hst];obtain⟨st,hst'⟩:∃st,st=xs.length-1-i:=⟨_,rfl⟩
   rw[<- hst'];walk_at "rd";refine ex7 tk D us3 xs st room room ⟨rfl,k3.z htk,hD3,by lia,hroom,fun e h1 h2=>hT3 e (by lia) (by lia) h2,fun p hp=>?_⟩;have nDp:D≠p:=Zf hD3 hp;refine⟨_,rfl,_,rfl,ex4 D us3 (st:Int) st ⟨ rfl,rfl,Zx nDp hD3,?_,?_⟩⟩
   ·unfold ixN;rw[if_pos (by lia),if_pos (by lia)];simp
   ·have c1:=Yw (room:=room) (T:=tab room xs) (i:=st) (xs:=xs) (by lia);have ev:([.int ((bst room xs (tab room xs) st).1:Nat),.int (st+(bst room xs (tab room xs) st).2:Nat),.int (1+W7 room xs (st+(bst room xs (tab room xs) st).2):Nat)]:List V)=Zil room xs st:=by
     unfold Zil VA Zkp;rw[if_pos (by lia),if_pos (by lia),ZaF room xs (e:=st) (by lia),Zeg room xs (i:=st) (by lia) (by lia),ZaF room xs (by lia),y02,Nat.add_comm 1]
    rw[ev,hPv];refine⟨(k3.trans (Kp.new hp)).put2 (.inr hD),_,us3.set st (.ref p),rfl,by rw[List.length_set];exact hul3,Zd,fun e h1 h2 h3=>?_⟩;by_cases z:e=st
    ·subst z;exact⟨.ref p,by rw[List.getElem?_set_self (by lia)],p,rfl,by rw[Zk (Ne.symm nDp),Zd]⟩
    ·walk_at "fp";obtain⟨v,hv,t,rfl,ht⟩:=hT3 e h1 (by lia) h3;walk_at "fq";exact⟨_,by rw[List.getElem?_set_ne (Ne.symm z)];exact hv,t,rfl,by rw[Zk (fun z=>by rw[z,hD3] at ht;cases ht),Zk (Zf ht hp)];exact ht⟩
  ·intro σ H3 hw;rw[hPv] at hw;walk_at "fp";obtain⟨k3,o,us3,rfl,hul3,hD3,hT3⟩:=hw;walk_at "fq";walk_at "rd";exact q H3 D hD k3 ⟨us3,hD3,hul3,fun e h1 h2=>hT3 e h1 (by rw[hlen];lia) h2⟩
noncomputable def sums:Nat->List Nat->List Nat
 | _,[]=>[]
 | a,c::cs=>(a+c)::sums (a+c) cs
theorem WQ:∀(a:Nat) (l:List Nat),(sums a l).length=l.length
 | _,[]=>rfl
 | a,c::l=>by rw[sums,y02,y02,WQ]
theorem Zkw (r:Nat)(xs:List Nat)(i:Nat):(cnts r xs i).length<=xs.length:=by
 have h:∀(f:Nat) (t:List (Nat×Nat)),(VhPage.byTable f t).length<=f:=fun f=>by
  induction f with
  | zero=>intro t;exact y0r _
  | succ f ih =>
   intro t;cases t with
   | nil=>exact y0u _
   | cons x t=>exact Nat.succ_le_succ (ih _)
 have:=h (tab r xs).length ((tab r xs).drop (i-1));unfold cnts;refine y0q this ?_;unfold tab;rw[XJ,y0i];lia
def Zao (K:Frag)(a:Ad):Sp:=fun vs H Q _=>∃(tk tl:Addr) (xs:List Nat) (fr r:Nat),vs=[.ref tk,.ref tl,.int (fr:Int)]/\H tk=some (.lst (lV xs))/\Ju H tl r xs/\0<xs.length/\xs.length<=1048576/\fr<=1000000 /\
 ∀H' p,H p=none->Kp [] H H'->H' p=some (.lst (lV (sums 0 (broken fr r xs))))->Q (.ref p) H'
noncomputable abbrev Zb4:Stmt:=top 18
theorem Zdd:Zm ["takes","tails","first_room","end","ends"] ["takes","tails","first_room"] (Zh Zb4):=by walk_at "sc"
theorem ZhQ {f:Addr}{fd:FuncData}(F:Fun K "ends_of" "ends_of" Zb4 f fd)(T:Txt K mg a)(c_best_from:FnC P w K mg base CX0 2 "best_from" ["takes","tails","start","room"] (Wh K a)):FnOk P w K mg base CX0 3 f fd ["takes","tails","first_room"] (Zao K a):=by
 refine F.ok Zdd (by walk_at "ln") (fun cdv A outer s H vs Q E hr h=>?_);refine el5 h fun tk tl xs fr r zq=>?_
 clear h;obtain⟨rfl,htk,⟨us,htl,hul,hT⟩,hn0,hn,hfr,q⟩:=zq;have nd:=Zdd.nd;refine⟨_,(Zb (Zl (i:=3) nd rfl (Or.inl rfl) (ZE Yl (Zi c_best_from hr Zu (Za (pv 0) (Za (pv 1) (Za Zg (Za (pv 2) Zc))))) Zg (fun _ _=>rfl))) (Zb (Zl (i:=4) nd rfl (Or.inl rfl) (ZW (Za (pv 3) Zc))) (Zb (Yg PassesOwn.never (Zn Xp (pv 3) (Zp Zj rfl T.len y13 (Za (pv 0) Zc)) (Zs _)) (Zb (Zl (i:=3) nd rfl (Or.inl rfl) (ZE Yl (ZE ZA (pv 1) (pv 3) (fun _ _=>rfl)) Zg (fun _ _=>rfl))) (Ze (Zr (Yj y0y y11 y12 ZZ (pv 4) (Za (pv 3) Zc)))))) (Ze (Zo (pv 4)))))),?_⟩;have hlen:(lV xs).length=xs.length:=Zy xs;have c1:=Yw (room:=fr) (T:=tab r xs) (i:=0) hn0;rw[Zaf fr r xs hn0] at q;rw[Nat.zero_add] at c1;walk_at "rd";refine ex7 tk tl us xs 0 fr r ⟨rfl,htk,htl,hn0,hfr,fun e h1 h2=>hT e h1 h2,fun p hp=>?_⟩;rw[Nat.zero_add];generalize (bst fr xs (tab r xs) 0).2=e0 at *;refine Y4 1 Zd rfl ?_;walk_at "rd";refine⟨by decide,fun D hD=>?_⟩;have k1:Kp [] H (upd H p (HO.tup [V.int ((bst fr xs (tab r xs) 0).1:Nat),V.int (e0:Nat),V.int ((1+W7 r xs e0:Nat):Int)])):=Kp.new hp;have hD0:H D=none:=k1.free (by simp) hD;have k2:=k1.trans (Kp.new (o:=HO.lst [V.int (e0:Int)]) hD);generalize upd H p (HO.tup [V.int ((bst fr xs (tab r xs) 0).1:Nat),V.int (e0:Nat),V.int ((1+W7 r xs e0:Nat):Int)])=H1 at *;obtain⟨W,hW⟩:∃W:WT,W=fun m σ H'=>Kp [] H H'/\∃(e:Nat) (l:List Nat),σ=[some (.ref tk),some (.ref tl),some (.int (fr:Int)),some (.int (e:Int)),some (.ref D)]/\m=xs.length-e/\1<=e/\e<=xs.length/\H' D=some (.lst (lV l))/\l++sums e (cnts r xs e)=sums 0 (e0::cnts r xs e0):=⟨_,rfl⟩
 refine⟨W,⟨_,by rw[hW];exact⟨k2,e0,[e0],rfl,rfl,c1.1,c1.2,Zd,by rw[sums,Nat.zero_add];rfl⟩⟩,fun m σ H2 hw=>?_⟩;rw[hW] at hw;walk_at "fp";obtain⟨k,e,l,rfl,rfl,he1,he2,hD2,hl⟩:=hw;walk_at "fq";walk_at "rd";refine⟨_,.inl (.inl (.inl (k.z htk))),?_⟩;rw[hlen];split
 ·rename_i h;have he:e<xs.length:=by lia
  refine⟨fun σ' H'=>∃m',m' < xs.length-e/\W m' σ' H',fun _ _ z=>z,?_⟩;walk_at "fp";obtain⟨v,hv,t,rfl,ht⟩:=hT e he1 he2;walk_at "fq";refine YJ (k.z htl) hv (Y4 1 (k.z ht) rfl ?_);have ee:Zkp r xs e=e+(bst r xs (tab r xs) e).2:=if_pos he;have c2:=Yw (room:=r) (T:=tab r xs) (i:=e) he;rw[Zeg r xs he1 he,sums] at hl;rw[ee];have c3:e<e+(bst r xs (tab r xs) e).2:=by lia
  generalize e+(bst r xs (tab r xs) e).2=e' at *;have hll:l.length<=xs.length:=by
   have:=congrArg List.length hl;rw[y01,y02,WQ,sums,y02,WQ] at this;have:=Zkw r xs e0;lia
  walk_at "rd";refine⟨.inl ⟨rfl,_,.inl (.inl hD2)⟩,_,hD2,by rw[Zy];exact y0s (y0q hll hn) (by decide),xs.length-e',by lia,?_⟩;rw[hW];refine⟨k.put2 (.inr hD0),e',l++[e'],rfl,rfl,by lia,by lia,?_,by rw[y0j];exact hl⟩;rw[Zd];unfold lV;rw[y07];rfl
 ·rename_i h;rw[ZbE r xs he1 (by lia),sums,y08] at hl;rw[hl] at hD2;exact q H2 D hD0 k hD2
theorem Zm6 {X:Cx}{K:Frag}(h:X.K=K)(hu:X.A.units+64<cLine):OpR X (compareOp .Eq) (rEqD K):=by subst h;exact Zmk hu
noncomputable def Uh (x:List Nat):List PyData:=x.map fun(n:Nat)=>PyData.int (n:Int)
theorem Zja (H:Hp):∀x:List Nat,ZgE K H (lV x) (Uh x)
 | []=>.nil
 | n::x=>.cons (.int _) (Zja H x)
theorem Zhh:∀x:List Nat,PyData.canLayAll0 (Uh x)=true
 | []=>rfl
 | n::x=>by
  show(PyData.canLay0 (.int n) && PyData.canLayAll0 (Uh x))=true;rw[Zhh x];rfl
theorem Zdw:∀x:List Nat,PyData.depthAll (Uh x)=0
 | []=>rfl
 | n::x=>by
  show max (PyData.depth (.int n)) (PyData.depthAll (Uh x))=0;rw[Zdw x];rfl
theorem Zcy (x:List Nat):SeqAt.shaped (.list (Uh x))=true:=by
 unfold SeqAt.shaped;have h1:PyData.canLay0 (.list (Uh x))=true:=Zhh x;have h2:PyData.depth (.list (Uh x))=1:=by
  show PyData.depthAll (Uh x)+1=1;rw[Zdw]
 rw[h1,h2];rfl
theorem Zhi:∀x y:List Nat,PyData.eqvAll (Uh x) (Uh y)=(x==y)
 | [],[]=>rfl
 | [],_::_=>rfl
 | _::_,[]=>rfl
 | m::x,n::y=>by
  show(PyData.eqv (.int m) (.int n) && PyData.eqvAll (Uh x) (Uh y))=_;rw[Zhi x y];show((((m:Nat):Int)==((n:Nat):Int)) && (x==y))=(m==n && (x==y));congr 1;by_cases z:m=n
  ·subst z;simp
  ·rw[beq_eq_false_iff_ne.mpr z,beq_eq_false_iff_ne];lia
theorem ZmQ {H:Hp}{p q:Addr}{x y:List Nat}{Q:VK}(h1:H p=some (.lst (lV x)))(h2:H q=some (.lst (lV y)))(k:Q (.bl (x==y)) H):rEqD K (.ref p) (.ref q) H Q :=
 ⟨.list (Uh x),.list (Uh y),.lst (.inl (.inl h1)) (Zja H x),.lst (.inl (.inl h2)) (Zja H y),Zcy x,Zcy y,by
  have e:PyData.eqv (.list (Uh x)) (.list (Uh y))=(x==y):=Zhi x y;rw[e];exact k⟩
theorem V8 {n:Nat}(h:n<2 ^ 64):((n:Int).natAbs).log2<1920:=by
 rw[Int.natAbs_natCast];by_cases z:n=0
 ·subst z;decide
 ·exact Nat.lt_trans ((Nat.log2_lt z).mpr h) (by decide)
theorem Yq (x y:Str):(x++y).cps.toList=x.cps.toList++y.cps.toList:=by
 show(x.cps++y.cps).toList=_;simp
theorem Y9 (x:Str):x.length=x.cps.toList.length:=by
 show x.cps.size=_;simp
theorem Zgi (n:Nat):(Str.ofString (toString (n:Int))).length=(VhPage.num10 n).length:=by rw[Y9,Wp]
theorem ZlO (l:List Nat):(lV l).all Ug=true:=by
 unfold lV;rw[List.all_map,List.all_eq_true];intro _ _;rfl
def Yb (H:Hp)(wl:Addr)(wds:List (List Nat)):Prop:=∃ws,H wl=some (.lst ws)/\Paired (LI H) wds ws
theorem Yb.get {H:Hp}{wl:Addr}{wds:List (List Nat)}(h:Yb H wl wds){k:Nat}(hk:k<wds.length):∃ws l,H wl=some (.lst ws)/\ws[k]?=some (.ref l)/\H l=some (.lst (lV (wds.getD k []))):=by
 obtain⟨ws,h1,h2⟩:=h;obtain⟨y,hy,l,rfl,hl⟩:=Paired.get2 h2 (y09 hk);exact ex2 ws l ⟨h1,hy,by rw[List.getD_eq_getElem?_getD,y09 hk];exact hl⟩
theorem Yb.keep {H H':Hp}{wl:Addr}{wds:List (List Nat)}(h:Yb H wl wds)(k:Kp [] H H'):Yb H' wl wds:=by
 obtain⟨ws,h1,h2⟩:=h;exact⟨ws,k.z h1,Paired.mono (fun x v ⟨t,e,ht⟩=>⟨t,e,k.z ht⟩) h2⟩
noncomputable def ZeQ (wds:List (List Nat))(lf le f:Nat):List Nat:=((List.range (le-lf)).map fun d=>lf+d).filter fun d=>wds.getD d []==wds.getD f []
noncomputable def Vl (wds:List (List Nat))(lf le f:Nat):List Nat:=if (ZeQ wds lf le f).length<=1 then[] else 94::VhPage.num10 ((ZeQ wds lf le f).findIdx (fun d=>d==f)+1)
def XL (K:Frag)(a:Ad):Sp:=fun vs H Q _=>∃(wl:Addr) (wds:List (List Nat)) (lf le f:Nat),vs=[.ref wl,.int (lf:Int),.int (le:Int),.int (f:Int)]/\Yb H wl wds/\lf<=f/\f<le/\le<=wds.length/\wds.length<=8192 /\
 ∀H' (x:Str),Kp [] H H'->x.cps.toList=Vl wds lf le f->Q (.str x) H'
noncomputable abbrev Z7:Stmt:=top 21
theorem XR:Zm ["words","line_first","line_end","f","like","k"] ["words","line_first","line_end","f"] (Zh Z7):=by walk_at "sc"
theorem Um:Jv ["words","line_first","line_end","f","like","k"] (Zh Z7) (lcSc (Zbl (stI (ZI Z7) 0))) [("k",5)]:=by walk_at "bk"
theorem Jd {f:Addr}{fd:FuncData}(F:Fun K "place_among_like" "place_among_like" Z7 f fd)(T:Txt K mg a):FnOk P w K mg base CX0 1 f fd ["words","line_first","line_end","f"] (XL K a):=by
 refine F.ok XR (by walk_at "ln") (fun cdv A outer s H vs Q E hr h=>?_);refine el5 h fun wl wds lf le f zq=>?_
 clear h;obtain⟨rfl,hw,h1,h2,h3,h4,q⟩:=zq;have nd:=XR.nd;refine⟨_,(Zb (JV (i:=4) rfl nd rfl rfl (ZbN rfl rfl rfl rfl) (X2 rfl T.range (Za (pv 1) (Za (pv 2) Zc))) Um (fun _ _ _ _ _=>(ZK (i:=5) nd rfl (Or.inl rfl))) (fun _ _ _ _ _=>(Zld (Zn (Zm6 (K:=K) rfl hr.units) (ZE (Zfk (K:=K) rfl) (pv 0) (pv 5) (fun _ _=>rfl)) (ZE (Zfk (K:=K) rfl) (pv 0) (pv 3) (fun _ _=>rfl)) (Zs _)))) (fun _ _ _ _ _=>(pv 5))) (Zb (ZV (Zn Wb (Zp Zj rfl T.len y13 (Za (pv 4) Zc)) Zg (Zs _)) (Ze (Zo ZB)) Zv) (Ze (Zo (Zw Zaz ZB (Zca Zbi rfl T.str boot_str (Za (Zw ZS (Yj y0y PySem.F.slot_list_index PySem.F.type_list_index Zj0 (pv 4) (Za (pv 3) Zc)) Zg) Zc))))))),?_⟩;refine⟨_,rfl,_,rfl,_,_,rfl,⟨by lia,by lia,by lia,by lia⟩,fun D hD=>?_⟩;have en:Int.toNat ((le:Int)-(lf:Int))=le-lf:=by lia
 rw[en];obtain⟨Pv,hPv⟩:∃Pv:Nat->Hp->Prop,Pv=fun i H'=>Kp [] H H'/\H' D=some (.lst (lV (((List.range i).map fun d=>lf+d).filter fun d=>wds.getD d []==wds.getD f []))):=⟨_,rfl⟩
 refine J6 Pv ?_ ?_ ?_
 ·rw[hPv];exact⟨Kp.new hD,Zd⟩
 ·intro i H2 hi hw2;rw[hPv] at hw2;obtain⟨k,hD2⟩:=hw2;refine⟨rfl,?_⟩;obtain⟨ws,l1,g1,g2,g3⟩:=(hw.keep k).get (k:=lf+i) (by lia);obtain⟨ws',l2,g1',g2',g3'⟩:=(hw.keep k).get (k:=f) (by lia);have ei:(lf:Int)+(i:Int)=((lf+i:Nat):Int):=by lia
  rw[ei];refine⟨_,rfl,_,rfl,YJ g1 g2 ⟨_,rfl,_,rfl,YJ g1' g2' (ZmQ g3 g3' ⟨_,rfl,?_⟩)⟩⟩;have es:(((List.range (i+1)).map fun d=>lf+d).filter fun d=>wds.getD d []==wds.getD f [])=(((List.range i).map fun d=>lf+d).filter fun d=>wds.getD d []==wds.getD f [])++if (wds.getD (lf+i) []==wds.getD f [])=true then[lf+i] else[]:=by
   rw[List.range_succ,y07,List.filter_append,y05,List.map_nil,List.filter_cons,List.filter_nil]
  have hlen:(((List.range i).map fun d=>lf+d).filter fun d=>wds.getD d []==wds.getD f []).length<=i:=by
   refine y0q (List.length_filter_le _ _) ?_;rw[y03,List.length_range];exact y0r _
  simp only[];split
  ·rename_i h;refine⟨_,rfl,_,hD2,by rw[Zy];exact y0s hlen (y0t (by lia:i<8192+1) (by decide)),?_⟩;rw[hPv];refine⟨k.put2 (.inr hD),?_⟩;rw[Zd,es,if_pos h];unfold lV;rw[y07];rfl
  ·rename_i h;rw[hPv];refine⟨k,?_⟩;rw[es,if_neg h,y08];exact hD2
 ·intro H2 hw2;rw[hPv] at hw2;obtain⟨k,hD2⟩:=hw2;have q':=q H2;unfold Vl ZeQ at q';have hf:f∈(((List.range (le-lf)).map fun d=>lf+d).filter fun d=>wds.getD d []==wds.getD f []):=by
   rw[List.mem_filter];refine⟨y0k.mpr ⟨f-lf,List.mem_range.mpr (by lia),by lia⟩,by simp⟩
  have hb:(((List.range (le-lf)).map fun d=>lf+d).filter fun d=>wds.getD d []==wds.getD f []).length<=8192:=by
   refine y0q (List.length_filter_le _ _) ?_;rw[y03,List.length_range];lia
  generalize (((List.range (le-lf)).map fun d=>lf+d).filter fun d=>wds.getD d []==wds.getD f [])=L at *;have hpos:0<L.length:=List.length_pos_of_mem hf;walk_at "rd";refine⟨_,.inl (.inl (.inl hD2)),?_⟩;rw[Zy];split
  ·rename_i h;refine q' _ k ?_;rw[if_pos (by lia)];rfl
  ·rename_i h;have hj:L.findIdx (fun d=>d==f)<L.length:=List.findIdx_lt_length_of_exists ⟨f,hf,by simp⟩;have hjv:L[L.findIdx (fun d=>d==f)]?=some f:=by
    rw[y09 hj];have:=List.findIdx_getElem (w:=hj);simp at this;rw[this]
   have hbef:∀(m:Nat) (z':V),m<L.findIdx (fun d=>d==f)->(lV L)[m]?=some z'->eqV z' (.int (f:Int))=false:=fun m z' hm hz=>by
    obtain⟨n,hn,rfl⟩:=Zg7 hz;have h5:=List.not_of_lt_findIdx hm;obtain⟨hm',en'⟩:=y0a.mp hn;rw[en'] at h5;have h6:n≠f:=by simpa using h5
    show((n:Int)==(f:Int))=false;rw[beq_eq_false_iff_ne];lia
   have ej:((L.findIdx (fun d=>d==f):Nat):Int)+1=((L.findIdx (fun d=>d==f)+1:Nat):Int):=rfl;refine⟨.inl ⟨rfl,_,.inl (.inl hD2)⟩,ex5 D (lV L) _ (L.findIdx (fun d=>d==f)) _ ⟨ rfl,rfl,.inl (.inl hD2),rfl,ZlO L,by unfold lV;rw[y0l,hjv];rfl,by show((f:Int)==(f:Int))=true;simp,hbef,_,rfl,?_,?_,?_⟩⟩
   ·rw[ej];exact V8 (by lia)
   ·rw[ej,Zgi];have:=YI (n:=L.findIdx (fun d=>d==f)+1) (k:=5) (by decide) (by lia);have e1:(Str.ofString "^").length=1:=by decide
    rw[e1];exact y0q (Nat.add_le_add_left this 1) (by decide)
   ·refine q' _ k ?_;rw[if_neg (by lia),Yq,ej,Wp];have e1:(Str.ofString "^").cps.toList=[94]:=by decide
    rw[e1];rfl
noncomputable def keyL (wds:List (List Nat))(lf le f m:Nat):List Nat:=91::((if m=0 then[43] else[])++((if f<wds.length then wds.getD f []++Vl wds lf le f else[])++((if 2<=m then 126::(VhPage.num10 m++126::wds.getD (f+m-1) []) else[])++[93])))
theorem Zev (wds:List (List Nat))(lf le f:Nat)(h:le-lf<=8192):(Vl wds lf le f).length<=6:=by
 unfold Vl;split
 ·exact y0u _
 ·have h1:(ZeQ wds lf le f).length<=8192:=by
   unfold ZeQ;refine y0q (List.length_filter_le _ _) ?_;rw[y03,List.length_range];exact h
  have h2:=List.findIdx_le_length (xs:=ZeQ wds lf le f) (p:=fun d=>d==f);have:=YI (n:=(ZeQ wds lf le f).findIdx (fun d=>d==f)+1) (k:=5) (by decide) (by lia);rw[y02];lia
theorem Xs (x y:List Nat):lV x++lV y=lV (x++y):=by unfold lV;rw[y07]
theorem Zc2 {wds:List (List Nat)}(h5:∀x∈wds,x.length<=64)(k:Nat):(wds.getD k []).length<=64:=by
 rw[List.getD_eq_getElem?_getD];cases h:wds[k]? with
 | none=>simp
 | some x=>exact h5 x (y0f h)
def ZeJ (K:Frag)(a:Ad):Sp:=fun vs H Q _=>∃(wl:Addr) (wds:List (List Nat)) (lf le f m:Nat),vs=[.ref wl,.int (lf:Int),.int (le:Int),.int (f:Int),.int (m:Int)]/\Yb H wl wds/\f+m<=wds.length/\(f<wds.length->lf<=f/\f<le)/\le<=wds.length/\wds.length<=8192/\(∀x∈wds,x.length<=64) /\
 ∀H' p,H p=none->Kp [] H H'->H' p=some (.lst (lV (keyL wds lf le f m)))->Q (.ref p) H'
noncomputable abbrev ZdT:Stmt:=top 22
theorem ZeO:Zm ["words","line_first","line_end","f","m","key"] ["words","line_first","line_end","f","m"] (Zh ZdT):=by walk_at "sc"
theorem ZiE {f:Addr}{fd:FuncData}(F:Fun K "key_of" "key_of" ZdT f fd)(T:Txt K mg a)(c_characters_of:FnC P w K mg base CX0 1 "characters_of" ["text"] (ZQ K a))(c_place_among_like:FnC P w K mg base CX0 1 "place_among_like" ["words","line_first","line_end","f"] (XL K a)):FnOk P w K mg base CX0 2 f fd ["words","line_first","line_end","f","m"] (ZeJ K a):=by
 refine F.ok ZeO (by walk_at "ln") (fun cdv A outer s H vs Q E hr h=>?_);walk_at "fp";refine el6 h fun wl wds lf le f m zq=>?_
 clear h;obtain⟨rfl,hw,h1,h2,h3,h4,h5,q⟩:=zq;walk_at "fq";have nd:=ZeO.nd;refine⟨_,(Zb (ZV (Zn Wb (pv 3) (Zp Zj rfl T.len y13 (Za (pv 0) Zc)) (Zs _)) (Ze (Zo (Zi c_characters_of hr Zu (Za ZB Zc)))) Zv) (Zb (Zl (i:=5) nd rfl (Or.inl rfl) (Zi c_characters_of hr Zu (Za (Zd1 (Zn Wb (pv 4) Zg (Zs _)) ZB ZB) Zc))) (Zb (Zr (Yj y0y y0z y10 ZG (pv 5) (Za (ZE ZA (pv 0) (pv 3) (fun _ _=>rfl)) Zc))) (Zb (Zr (Yj y0y y0z y10 ZG (pv 5) (Za (Zi c_characters_of hr Zu (Za (Zi c_place_among_like hr Zu (Za (pv 0) (Za (pv 1) (Za (pv 2) (Za (pv 3) Zc))))) Zc)) Zc))) (Zb (ZV (Zn Zlm (pv 4) Zg (Zs _)) (Zb (Zr (Yj y0y y0z y10 ZG (pv 5) (Za (Zi c_characters_of hr Zu (Za (Zf7 (PEs.cons ZB (PEs.cons (Zli (pv 4)) (PEs.cons ZB PEs.nil)))) Zc)) Zc))) (Ze (Zr (Yj y0y y0z y10 ZG (pv 5) (Za (ZE ZA (pv 0) (Zw Z6 (Zw ZS (pv 3) (pv 4)) Zg) (fun _ _=>rfl)) Zc))))) Zv) (Zb (Zr (Yj y0y y0z y10 ZG (pv 5) (Za (Zi c_characters_of hr Zu (Za ZB Zc)) Zc))) (Ze (Zo (pv 5))))))))),?_⟩;have hw0:=hw;walk_at "fp";obtain⟨ws,hwl,hP⟩:=hw;walk_at "fq";have hlw:=Paired.length hP;walk_at "rd";refine⟨_,.inl (.inl (.inl hwl)),?_⟩;split
 ·rename_i h;have hf:f=wds.length:=by lia
  have hm:m=0:=by lia
  refine⟨_,rfl,by decide,fun H' p hp k hl=>q H' p hp k ?_⟩;rw[hl];have e1:(Str.ofString "[+]").cps.toList=[91,43,93]:=by decide
  rw[e1];unfold keyL;rw[if_pos hm,if_neg (by lia),if_neg (by lia)];rfl
 ·rename_i h;have hf:f<wds.length:=by lia
  obtain⟨g1,g2⟩:=h2 hf;have hz:sizeLine=16777216:=by decide
  have w1:=Zc2 h5 f;have w2:=Zev wds lf le f (by lia);have w3:=Zc2 h5 (f+m-1);have w4:=YI (n:=m) (k:=5) (by decide) (by lia);have w5:(if m=0 then[43] else[]:List Nat).length<=1:=by split <;> simp
  have b1:(Str.ofString "]").cps.toList=[93]:=by decide
  have b2:(Str.ofString "~").cps.toList=[126]:=by decide
  unfold keyL at q;rw[if_pos hf] at q;split <;> rename_i hm
  case' isTrue =>
   have e1:(Str.ofString "[+").cps.toList=[91,43]:=by decide
   refine⟨_,rfl,by decide,fun H1 p hp k1 hl1=>?_⟩;rw[e1] at hl1
   replace hl1:H1 p=some (.lst (lV (91::(if m=0 then[43] else[])))):=by rw[hl1,if_pos (by lia)]
  case' isFalse =>
   have e1:(Str.ofString "[").cps.toList=[91]:=by decide
   refine⟨_,rfl,by decide,fun H1 p hp k1 hl1=>?_⟩;rw[e1] at hl1
   replace hl1:H1 p=some (.lst (lV (91::(if m=0 then[43] else[])))):=by rw[hl1,if_neg (by lia)]
  all_goals
   generalize (if m=0 then[43] else[]:List Nat)=hd at *;walk_at "fp";obtain⟨ws1,l1,a1,a2,a3⟩:=(hw0.keep k1).get hf;walk_at "fq";refine⟨.inl ⟨rfl,_,.inl (.inl hl1)⟩,YJ a1 a2 ⟨p,rfl,_,rfl,_,hl1,_,a3,by rw[Zy,Zy,y02];lia,.inl ⟨rfl,_,.inl (.inl Zd)⟩,?_⟩⟩;rw[Xs];have k2:Kp [] H (upd H1 p (.lst (lV (91::hd++wds.getD f [])))):=k1.put2 (.inr hp);generalize hG:upd H1 p (.lst (lV (91::hd++wds.getD f [])))=H2 at *;have hl2:H2 p=some (.lst (lV (91::hd++wds.getD f []))):=by rw[<- hG,Zd]
   refine ex5 wl wds lf le f ⟨rfl,hw0.keep k2,g1,g2,h3,h4,fun H3 x k3 hx=>⟨x,rfl,?_,fun H4 p4 hp4 k4 hl4=>?_⟩⟩
   ·rw[<- Array.length_toList,hx];lia
   rw[hx] at hl4;have k5:=(k2.trans k3).trans k4;have hl5:=k4.z (k3 _ _ hl2 (by simp));refine ex1 p (ex1 p4 (⟨_,hl5,_,hl4,by rw[Zy,Zy,y01,y02];lia,?_⟩));rw[Xs];have k6:Kp [] H (upd H4 p (.lst (lV (91::hd++wds.getD f []++Vl wds lf le f)))):=k5.put2 (.inr hp);generalize hG6:upd H4 p (.lst (lV (91::hd++wds.getD f []++Vl wds lf le f)))=H6 at *;have hl6:H6 p=some (.lst (lV (91::hd++wds.getD f []++Vl wds lf le f))):=by rw[<- hG6,Zd]
   have b0:(Str.empty).cps.toList=[]:=by decide
   have fin:∀(H6:Hp) (l:List Nat),Kp [] H H6->H6 p=some (.lst (lV l))->l.length<=1000->l++[93]=91::(hd++(wds.getD f []++Vl wds lf le f++((if 2<=m then 126::(VhPage.num10 m++126::wds.getD (f+m-1) []) else[])++[93])))->ZQ K a [V.str (Str.ofString "]")] H6 (fun x H1=>∃l,V.ref p=V.ref l/\∃x_1,x=V.ref x_1/\∃x,H1 l=some (HO.lst x)/\∃x_2,H1 x_1=some (HO.lst x_2)/\x.length+x_2.length<=sizeLine/\Q (V.ref p) (upd H1 l (HO.lst (x++x_2)))) E0:=fun H6 l k6 hl6 hll he=>by
    refine⟨_,rfl,by decide,fun H7 p7 hp7 k7 hl7=>⟨p,rfl,p7,rfl,_,k7.z hl6,_,hl7,?_,q _ p hp ((k6.trans k7).put2 (.inr hp)) ?_⟩⟩
    ·rw[b1,Zy,Zy];simp only[y01,y02,y04];lia
    ·rw[Zd,b1,Xs,he]
   by_cases hm2:2<=m
   ·rw[if_pos (by lia)];rw[if_pos hm2] at fin;have j3:(Str.empty++Str.ofString "~"++Str.ofString (toString (m:Int))++Str.ofString "~").cps.toList=126::(VhPage.num10 m++[126]):=by
     rw[Yq,Yq,Yq,b0,b2,Wp];simp
    have jl:(Str.empty++Str.ofString "~"++Str.ofString (toString (m:Int))++Str.ofString "~").length<=sizeLine:=by
     rw[Y9,j3];simp only[y01,y02,y04];lia
    refine⟨.inl ⟨rfl,_,.inl (.inl hl6)⟩,_,rfl,by decide,_,rfl,_,rfl,V8 (by lia),_,rfl,?_,_,rfl,jl,jl,_,rfl,?_,fun H7 p7 hp7 k7 hl7=>?_⟩
    ·rw[Y9,Yq,Yq,b0,b2,Wp];simp only[y01,y02,y04];lia
    ·rw[<- Array.length_toList,j3];simp only[y01,y02,y04];lia
    rw[j3] at hl7;have hl8:=k7.z hl6;refine ex1 p (ex1 p7 (⟨_,hl8,_,hl7,by rw[Zy,Zy];simp only[y01,y02,y04];lia,.inl ⟨rfl,_,.inl (.inl Zd)⟩,?_⟩));rw[Xs];have k9:Kp [] H (upd H7 p (.lst (lV (91::hd++wds.getD f []++Vl wds lf le f++126::(VhPage.num10 m++[126]))))):=(k6.trans k7).put2 (.inr hp);obtain⟨ws9,l9,c1,c2,c3⟩:=(hw0.keep k9).get (k:=f+m-1) (by lia);have ef:(f:Int)+(m:Int)-1=((f+m-1:Nat):Int):=by lia
    rw[ef];refine YJ c1 c2 ⟨p,rfl,_,rfl,_,Zd,_,c3,by rw[Zy,Zy];simp only[y01,y02,y04];lia,.inl ⟨rfl,_,.inl (.inl Zd)⟩,?_⟩;rw[Xs];refine fin _ _ (k9.put2 (.inr hp)) Zd (by simp only[y01,y02,y04];lia) (by simp)
   ·rw[if_neg (by lia)];rw[if_neg hm2] at fin;exact⟨.inl ⟨rfl,_,.inl (.inl hl6)⟩,fin _ _ k6 hl6 (by simp only[y01,y02,y04];lia) (by simp)⟩
theorem Zkb {X:Cx}{K:Frag}{e:Expr}{f:Str}{pos:Pos}{ta:TE}(h:X.K=K)(he:PE X e ta)(hb:attributeBase e f X.env (eval e X.env)=eval e X.env):PE X (.Attribute e f pos) (tFld K ta f):=by subst h;exact Zq he hb
def XM (K:Frag)(a:Ad):Sp:=fun vs H Q _=>∃(n:Nat),vs=[.int (n:Int)]/\n<100000/\∀H' p,H p=none->Kp [] H H'->H' p=some (.lst (lV (35::VhPage.num10 n)))->Q (.ref p) H'
noncomputable abbrev Wy:Stmt:=top 24
theorem VP:Zm ["number"] ["number"] (Zh Wy):=by walk_at "sc"
theorem Zcf {f:Addr}{fd:FuncData}(F:Fun K "number_thing" "number_thing" Wy f fd)(T:Txt K mg a)(c_characters_of:FnC P w K mg base CX0 1 "characters_of" ["text"] (ZQ K a)):FnOk P w K mg base CX0 2 f fd ["number"] (XM K a):=by
 refine F.ok VP (by walk_at "ln") (fun cdv A outer s H vs Q E hr h=>?_);walk_at "fp";obtain⟨n,rfl,hn,q⟩:=h;walk_at "fq";have nd:=VP.nd;refine⟨_,(Ze (Zo (Zi c_characters_of hr Zu (Za (Zf7 (PEs.cons ZB (PEs.cons (Zli (pv 0)) PEs.nil))) Zc)))),?_⟩;have b0:(Str.empty).cps.toList=[]:=by decide
 have b2:(Str.ofString "#").cps.toList=[35]:=by decide
 have w4:=YI (n:=n) (k:=5) (by decide) (by lia);have hz:sizeLine=16777216:=by decide
 have j3:(Str.empty++Str.ofString "#"++Str.ofString (toString (n:Int))).cps.toList=35::VhPage.num10 n:=by
  rw[Yq,Yq,b0,b2,Wp];simp
 have jl:(Str.empty++Str.ofString "#"++Str.ofString (toString (n:Int))).length<=sizeLine:=by
  rw[Y9,j3,y02];lia
 walk_at "rd";refine ex1 _ (⟨by decide,_,rfl,_,rfl,V8 (by lia),_,rfl,jl,jl,_,rfl,?_,fun H7 p7 hp7 k7 hl7=>?_⟩)
 ·rw[<- Array.length_toList,j3,y02];lia
 ·rw[j3] at hl7;exact q H7 p7 hp7 k7 hl7
def isWk (o:HO):Prop:=∀C d f,o=.ins C d f->∃s r h p w g e,f=wf s r h p w g e
theorem isWk.lst (xs:List V):isWk (.lst xs):=fun C d f z=>by cases z
theorem isWk.tup (xs:List V):isWk (.tup xs):=fun C d f z=>by cases z
theorem isWk.wk (C d:Addr)(s:Settings)(r h p w g e:Addr):isWk (.ins C d (wf s r h p w g e)):=fun C d f z=>by cases z;exact⟨_,_,_,_,_,_,_,rfl⟩
def KW (H H':Hp):Prop:=∀b o,H b=some o->isWk o->H' b=some o
theorem KW.trans {H1 H2 H3:Hp}(k:KW H1 H2)(k':KW H2 H3):KW H1 H3:=fun b o h i=>k' b o (k b o h i) i
theorem _root_.L2.Kp.kw {H H':Hp}(k:Kp [] H H'):KW H H':=fun b o h _=>k b o h (by simp)
theorem _root_.L2.Kp.kwX {H H':Hp}{x:Addr}{o:HO}(k:Kp [x] H H')(hx:H x=some o)(n:¬ isWk o):KW H H':=fun b o' h i=>k b o' h (by
 simp only[y0b,List.not_mem_nil,or_false];intro z;rw[z,hx] at h;cases h;exact n i)
theorem LI.keepW {H H':Hp}(k:KW H H'){x:List Nat}{v:V}(h:LI H x v):LI H' x v:=by
 obtain⟨l,e,hl⟩:=h;exact⟨l,e,k _ _ hl (isWk.lst _)⟩
theorem US.keepW {H H':Hp}{rw:Addr}{rs:List (Nat×Nat×Nat)}(h:US H rw rs)(k:KW H H'):US H' rw rs:=by
 obtain⟨us,h1,h2,h3⟩:=h;exact⟨us,k _ _ h1 (isWk.lst _),Paired.mono (fun x v ⟨t,e,ht⟩=>⟨t,e,k _ _ ht (isWk.tup _)⟩) h2,h3⟩
theorem Yb.keepW {H H':Hp}{wl:Addr}{wds:List (List Nat)}(h:Yb H wl wds)(k:KW H H'):Yb H' wl wds:=by
 obtain⟨ws,h1,h2⟩:=h;exact⟨ws,k _ _ h1 (isWk.lst _),Paired.mono (fun x v z=>z.keepW k) h2⟩
theorem Ju.keepW {H H':Hp}{tl:Addr}{r:Nat}{xs:List Nat}(h:Ju H tl r xs)(k:KW H H'):Ju H' tl r xs:=by
 obtain⟨us,h1,h2,h3⟩:=h;refine⟨us,k _ _ h1 (isWk.lst _),h2,fun e a1 a2=>?_⟩;obtain⟨v,hv,t,e1,ht⟩:=h3 e a1 a2;exact⟨v,hv,t,e1,k _ _ ht (isWk.tup _)⟩
theorem WRep.keepW {H H':Hp}{wk:Addr}{wo:Work}{hb:List UInt8}(h:WRep a H wk wo hb)(k:KW H H'):WRep a H' wk wo hb:=by
 refine el12 h.ex fun dw aR aH aP aW aS aE rs ps ws gs es zq=>?_
 obtain⟨h1,h2,h3,h4,h5,h6,h7,h8,h9,h10,h11,h12,h13⟩:=zq;have kl:∀{b xs},H b=some (.lst xs)->H' b=some (.lst xs):=fun h=>k _ _ h (isWk.lst _)
 have kt:∀{b xs},H b=some (.tup xs)->H' b=some (.tup xs):=fun h=>k _ _ h (isWk.tup _)
 refine⟨ex12 dw aR aH aP aW aS aE rs ps ws gs es ⟨k _ _ h1 (isWk.wk _ _ _ _ _ _ _ _ _),kl h2,Paired.mono (fun x v ⟨t,e,ht⟩=>⟨t,e,kt ht⟩) h3,kl h4,kl h5,Paired.mono (fun x v ⟨t,e,ht⟩=>⟨t,e,kt ht⟩) h6,kl h7,Paired.mono (fun x v z=>z.keepW k) h8,kl h9,h10,?_,kl h12,?_⟩⟩
 ·intro i g hg;obtain⟨ts,t1,t2⟩:=h11 i g hg;exact⟨ts,kl t1,Paired.mono (fun x v z=>z.keepW k) t2⟩
 ·exact Paired.mono (fun x v ⟨t,l,us,e,t1,t2,t3⟩=>⟨t,l,us,e,kt t1,kl t2,Paired.mono (fun x v z=>z.keepW k) t3⟩) h13
def WkR (a:Ad)(H:Hp)(wk:Addr)(wo:Work)(hb:List UInt8):Prop:=WRep a H wk wo hb/\ZfK wo.widths/\wo.widths.length<=64
theorem WkR.wk {a:Ad}{H:Hp}{wk:Addr}{wo:Work}{hb:List UInt8}(h:WkR a H wk wo hb):∃dw aR aH aP aW aS aE,H wk=some (.ins a.CW dw (wf wo.set aR aH aP aW aS aE)):=by
 refine el12 h.1.ex fun dw aR aH aP aW aS aE rs ps ws gs es zq=>?_
 obtain⟨h,_⟩:=zq;exact⟨dw,aR,aH,aP,aW,aS,aE,h⟩
theorem WkR.keepW {H H':Hp}{wk:Addr}{wo:Work}{hb:List UInt8}(h:WkR a H wk wo hb)(k:KW H H'):WkR a H' wk wo hb:=⟨h.1.keepW k,h.2⟩
theorem WkR.keep {H H':Hp}{wk:Addr}{wo:Work}{hb:List UInt8}(h:WkR a H wk wo hb)(k:Kp [] H H'):WkR a H' wk wo hb:=h.keepW k.kw
def WS (K:Frag)(a:Ad):Sp:=fun vs H Q _=>∃(wk:Addr) (wo:Work) (hb:List UInt8) (n:Nat),vs=[.ref wk,.int (n:Int)]/\WkR a H wk wo hb/\n<100000/\YH wo.widths (35::VhPage.num10 n)<=wo.set.width /\
 ∀H',Kp [] H H'->Q (.int (wo.set.width-YH wo.widths (35::VhPage.num10 n):Nat)) H'
noncomputable abbrev VW:Stmt:=top 25
theorem JQ:Zm ["work","number"] ["work","number"] (Zh VW):=by walk_at "sc"
theorem Zd9 {f:Addr}{fd:FuncData}(F:Fun K "first_room" "first_room" VW f fd)(T:Txt K mg a)(c_cells_of_thing:FnC P w K mg base CX0 2 "cells_of_thing" ["rows","thing"] (Yx K a))(c_number_thing:FnC P w K mg base CX0 2 "number_thing" ["number"] (XM K a)):FnOk P w K mg base CX0 3 f fd ["work","number"] (WS K a):=by
 refine F.ok JQ (by walk_at "ln") (fun cdv A outer s H vs Q E hr h=>?_);walk_at "fp";refine el4 h fun wk wo hb n zq=>?_
 clear h;obtain⟨rfl,hw,hn,ht,q⟩:=zq;walk_at "fq";have nd:=JQ.nd;refine⟨_,(Ze (Zo (Zw Z6 (Zq (pv 0) rfl) (Zi c_cells_of_thing hr Zu (Za (Zq (pv 0) rfl) (Za (Zi c_number_thing hr Zu (Za (pv 1) Zc)) Zc)))))),?_⟩;have hw0:=hw;walk_at "fp";refine el12 hw.1.ex fun dw aR aH aP aW aS aE rs ps ws gs es zq=>?_
 obtain⟨hWk,h2,h3,_⟩:=zq;obtain⟨_,ok,hl⟩:=hw;walk_at "fq";have hWk2:=hWk;have hR:=hWk;have hR2:=hWk;walk_at "wk";refine⟨_,rfl,n,rfl,hn,fun H1 p hp k1 hl1=>⟨aR,p,wo.widths,_,rfl,US.keep ⟨rs,h2,h3,ok,hl⟩ k1,hl1,?_,fun H2 k2=>⟨_,rfl,_,rfl,?_⟩⟩⟩
 ·have w4:=YI (n:=n) (k:=5) (by decide) (by lia);rw[y02];lia
 ·rw[show((wo.set.width:Int)-(YH wo.widths (35::VhPage.num10 n):Nat))=((wo.set.width-YH wo.widths (35::VhPage.num10 n):Nat):Int) by lia];exact q H2 (k1.trans k2)
noncomputable def nf (aT aK aL:Addr):List (Str×V):=putF "tails" (.ref aL) (putF "takes" (.ref aK) (putF "things" (.ref aT) []))
theorem ZiH (t k l:Addr):(nf t k l).lookup ("things":Str)=some (V.ref t):=by rfl
theorem Zg2 (t k l:Addr):(nf t k l).lookup ("takes":Str)=some (V.ref k):=by rfl
theorem Zg3 (t k l:Addr):(nf t k l).lookup ("tails":Str)=some (V.ref l):=by rfl
noncomputable def Yu (wo:Work)(ts:List (List Nat)):List Nat:=0::ts.map (YH wo.widths)
def UT (a:Ad)(H:Hp)(x:Addr)(wo:Work)(ts:List (List Nat)):Prop:=∃dx aT aK aL,H x=some (.ins a.CN dx (nf aT aK aL))/\Yb H aT ts/\H aK=some (.lst (lV (Yu wo ts)))/\Ju H aL wo.set.width (Yu wo ts)/\ts.length<=100000
def ZaU (K:Frag)(a:Ad):Sp:=fun vs H Q _=>∃(x dx wk th:Addr) (wo:Work) (hb:List UInt8) (ts:List (List Nat)),vs=[.ref x,.ref wk,.ref th]/\H x=some (.ins a.CN dx [])/\WkR a H wk wo hb/\wo.set.width<=240/\Yb H th ts/\ts.length<=100000/\(∀t∈ts,t.length<=1048576) /\
 ∀H',Kp [x] H H'->UT a H' x wo ts->Q .non H'
noncomputable abbrev X0:Stmt:=Yv (top 23) 0
theorem Za6:Zm ["self","work","things","thing"] ["self","work","things"] (Zh X0):=by walk_at "sc"
theorem ZcW:Jv ["self","work","things","thing"] (Zh X0) (lcSc (exR (Zbl (stI (ZI X0) 1)))) [("thing",3)]:=by walk_at "bk"
theorem Zfb {f:Addr}{fd:FuncData}(F:Fun K "__init__" "Note.__init__" X0 f fd)(T:Txt K mg a)(c_tails_of:FnC P w K mg base CX0 3 "tails_of" ["takes","room"] (UW K a))(c_cells_of_thing:FnC P w K mg base CX0 2 "cells_of_thing" ["rows","thing"] (Yx K a)):FnOk P w K mg base CX0 4 f fd ["self","work","things"] (ZaU K a):=by
 refine F.ok Za6 (by walk_at "ln") (fun cdv A outer s H vs Q E hr h=>?_);walk_at "fp";refine el7 h fun x dx wk th wo hb ts zq=>?_
 clear h;obtain⟨rfl,hR,hw,hW,hth,hts,htl,q⟩:=zq;walk_at "fq";have nd:=Za6.nd;refine⟨_,(Zb (ZM (pv 0) (pv 2) rfl) (Zb (ZM (pv 0) (Zw Zdh (ZW (Za Zg Zc)) (ZhK rfl nd (Xz (pv 2)) ZcW (fun _ _ _ _ _=>(ZK (i:=3) nd rfl (Or.inl rfl))) (fun _ _ _ _ _=>WB) (fun _ _ _ _ _=>(Zi c_cells_of_thing hr Zu (Za (Zkb (K:=K) rfl (pv 1) rfl) (Za (pv 3) Zc)))))) rfl) (Ze (ZM (pv 0) (Zi c_tails_of hr Zu (Za (Zq (pv 0) rfl) (Za (Zq (pv 1) rfl) Zc))) rfl)))),?_⟩;have hw0:=hw;walk_at "fp";refine el12 hw.1.ex fun dw aR aH aP aW aS aE rs ps ws gs es zq=>?_
 obtain⟨hWk,h2,h3,_⟩:=zq;obtain⟨_,ok,hl⟩:=hw;walk_at "fq";have hWk2:=hWk;have hR2:=hR;have hrow:US H aR wo.widths:=⟨rs,h2,h3,ok,hl⟩;have nx:¬ isWk (.ins a.CN dx []):=fun z=>by obtain⟨s,r,h,p,w,g,e,z⟩:=z _ _ _ rfl;cases z
 have xwk:wk≠x:=WM hWk hR (by intro z;injection z with _ _ z;cases z);walk_at "fp";obtain⟨tv,hth1,hth2⟩:=hth;walk_at "fq";have thx:th≠x:=WM hth1 hR (by intro z;cases z);have htv:=Paired.length hth2;walk_at "wk";refine⟨T.clNote,T.nN_things,by decide,by decide,fun p hp=>?_⟩;have px:p≠x:=fun z=>by rw[z,Zd] at hp;cases hp
 have hp0:H p=none:=by rw[Zk px] at hp;exact hp
 have k0:Kp [x] H (upd H x (HO.ins a.CN dx (putF "things" (V.ref th) []))):=Kp.put (by simp);have k1:Kp [x] H (upd (upd H x (HO.ins a.CN dx (putF "things" (V.ref th) []))) p (HO.lst [V.int 0])):=k0.trans (Kp.new hp);have hx1:upd (upd H x (HO.ins a.CN dx (putF "things" (V.ref th) []))) p (HO.lst [V.int 0]) x=some (HO.ins a.CN dx (putF "things" (V.ref th) [])):=by rw[Zk (Ne.symm px),Zd]
 have hp1:upd (upd H x (HO.ins a.CN dx (putF "things" (V.ref th) []))) p (HO.lst [V.int 0]) p=some (HO.lst [V.int 0]):=Zd;generalize upd (upd H x (HO.ins a.CN dx (putF "things" (V.ref th) []))) p (HO.lst [V.int 0])=H1 at *;have kw1:=k1.kwX hR nx;have hth':=kw1 _ _ hth1 (isWk.lst _);refine⟨_,rfl,th,rfl,⟨_,.inl (.inl hth')⟩,fun D hD=>?_⟩;have Dx:x≠D:=Zf hx1 hD;have Dp:p≠D:=Zf hp1 hD;have hD0:H D=none:=k1.free (by simp[Ne.symm Dx]) hD;obtain⟨Pv,hPv⟩:∃Pv:Nat->Hp->Prop,Pv=fun i H'=>Kp [] H1 H'/\H' D=some (.lst (lV ((ts.map (YH wo.widths)).take i))):=⟨_,rfl⟩
 refine Zcq (xs:=tv) Pv ?_ ?_ ?_ ?_
 ·rw[hPv];exact⟨Kp.new hD,Zd⟩
 ·intro i H' _ hw';rw[hPv] at hw';exact .inl (.inl (hw'.1 _ _ hth' (by simp)))
 ·intro i v H2 hi hw';rw[hPv] at hw';obtain⟨k2,hD2⟩:=hw';have kw2:=kw1.trans k2.kw;walk_at "fp";obtain⟨t,ht,l,rfl,hlt⟩:=Paired.get hth2 hi;walk_at "fq";have hWk':=kw2 _ _ hWk (isWk.wk _ _ _ _ _ _ _ _ _);refine⟨rfl,?_⟩;simp only[tYes];refine⟨_,rfl,ex5 wk a.CW dw _ _ ⟨ rfl,hWk',T.clWork,T.n_rows,ZdF wo.set aR aH aP aW aS aE,_,rfl,ex4 aR l wo.widths t ⟨ rfl,hrow.keepW kw2,kw2 _ _ hlt (isWk.lst _),htl t (y0f ht),fun H3 k3=>?_⟩⟩⟩;have hil:i<ts.length:=(y0a.mp ht).1;refine⟨_,k3.z hD2,by rw[Zy,y0h];exact y0s (Nat.min_le_left _ _) (y0t (y0t hil hts) (by decide)),?_⟩;rw[hPv];refine⟨(k2.trans k3).put2 (.inr hD),?_⟩;rw[Zd,ZD (x:=YH wo.widths t) (by rw[y0l,ht];rfl)];unfold lV;rw[y07];rfl
 ·intro H2 hw';rw[hPv] at hw';obtain⟨k2,hD2⟩:=hw';rw[<- htv,y0e (by simp)] at hD2;have hp2:=k2.z hp1;have hx2:=k2.z hx1;have hlt:(ts.map (YH wo.widths)).length<=100000:=by rw[y03];exact hts
  have hz:sizeLine=16777216:=by decide
  refine ex4 p D _ _ ⟨rfl,rfl,hp2,hD2,by rw[Zy];simp only[y02,y04];lia,fun E0' hE=>?_⟩;have eK:[V.int 0]++lV (ts.map (YH wo.widths))=lV (Yu wo ts):=rfl;rw[eK];have Ex:x≠E0':=Zf hx2 hE;have k12:=(k1.trans (k2.mono (by simp))).trans (Kp.new (o:=HO.lst (lV (Yu wo ts))) hE);have k3:Kp [x] H (upd (upd H2 E0' (HO.lst (lV (Yu wo ts)))) x (HO.ins a.CN dx (putF "takes" (V.ref E0') (putF "things" (V.ref th) [])))):=k12.put2 (.inl (by simp));have kw3:=k3.kwX hR nx;have hWk3:=kw3 _ _ hWk (isWk.wk _ _ _ _ _ _ _ _ _);have hE3:upd (upd H2 E0' (HO.lst (lV (Yu wo ts)))) x (HO.ins a.CN dx (putF "takes" (V.ref E0') (putF "things" (V.ref th) []))) E0'=some (.lst (lV (Yu wo ts))):=by rw[Zk (Ne.symm Ex),Zd]
  refine ex3 a.CN dx (putF "things" (V.ref th) []) ⟨Zx Ex hx2,T.clNote,T.nN_takes,(show(1:Nat)<1000 by decide),T.clNote,T.nN_takes,_,rfl,_,_,_,hWk3,T.clWork,T.n_width,_,rfl,E0',Yu wo ts,wo.set.width,rfl,hE3,?_,?_,by lia,fun H4 p4 hp4 k4 hT4=>?_⟩
  ·unfold Yu;simp
  ·unfold Yu;rw[y02];lia
  have hx4:=k4 _ _ (Zd:upd (upd H2 E0' (HO.lst (lV (Yu wo ts)))) x (HO.ins a.CN dx (putF "takes" (V.ref E0') (putF "things" (V.ref th) []))) x=_) (by simp);have hE4:=k4.z hE3;have k5:=k3.trans (k4.mono (by simp));have k6:Kp [x] H (upd H4 x (HO.ins a.CN dx (putF "tails" (V.ref p4) (putF "takes" (V.ref E0') (putF "things" (V.ref th) []))))):=k5.put2 (.inl (by simp));have nx4:¬ isWk (HO.ins a.CN dx (putF "takes" (V.ref E0') (putF "things" (V.ref th) []))):=fun z=>by
   walk_at "fp";obtain⟨s,r,h,p,w,g,e,z⟩:=z _ _ _ rfl;walk_at "fq";have:=congrArg List.length z;cases this
  have kw46:KW H4 (upd H4 x (HO.ins a.CN dx (putF "tails" (V.ref p4) (putF "takes" (V.ref E0') (putF "things" (V.ref th) []))))):=(Kp.put (S:=[x]) (by simp)).kwX hx4 nx4;refine ex3 _ _ _ ⟨hx4,T.clNote,T.nN_tails,(show(2:Nat)<1000 by decide),q _ k6 ⟨dx,th,E0',p4,Zd,Yb.keepW ⟨tv,hth1,hth2⟩ (k6.kwX hR nx),kw46 _ _ hE4 (isWk.lst _),hT4.keepW kw46,hts⟩⟩
theorem UT.keepW {H H':Hp}{x:Addr}{wo:Work}{ts:List (List Nat)}(h:UT a H x wo ts)(k:KW H H')(hx:H' x=H x):UT a H' x wo ts:=by
 obtain⟨dx,aT,aK,aL,h1,h2,h3,h4,h5⟩:=h;exact ex4 dx aT aK aL ⟨by rw[hx];exact h1,h2.keepW k,k _ _ h3 (isWk.lst _),h4.keepW k,h5⟩
theorem UT.keep {H H':Hp}{x:Addr}{wo:Work}{ts:List (List Nat)}(h:UT a H x wo ts)(k:Kp [] H H'):UT a H' x wo ts:=by
 have h0:=h;obtain⟨dx,aT,aK,aL,h1,_⟩:=h0;exact h.keepW k.kw (by rw[h1];exact k.z h1)
noncomputable def Zfp (wo:Work)(ts:List (List Nat))(n:Nat):List Nat:=broken wo.set.width wo.set.width (((35::VhPage.num10 n)::ts).map (YH wo.widths))
def XN (K:Frag)(a:Ad):Sp:=fun vs H Q _=>∃(wk nt:Addr) (wo:Work) (hb:List UInt8) (ts:List (List Nat)) (n:Nat),vs=[.ref wk,.ref nt,.int (n:Int)]/\WkR a H wk wo hb/\wo.set.width<=240/\UT a H nt wo ts/\n<100000/\YH wo.widths (35::VhPage.num10 n)<=wo.set.width /\
 ∀H',Kp [] H H'->Q (.int ((Zfp wo ts n).length:Nat)) H'
noncomputable abbrev Y0:Stmt:=top 26
theorem XS:Zm ["work","note","number"] ["work","note","number"] (Zh Y0):=by walk_at "sc"
theorem Je {f:Addr}{fd:FuncData}(F:Fun K "count_foot_lines" "count_foot_lines" Y0 f fd)(T:Txt K mg a)(c_best_from:FnC P w K mg base CX0 2 "best_from" ["takes","tails","start","room"] (Wh K a))(c_first_room:FnC P w K mg base CX0 3 "first_room" ["work","number"] (WS K a)):FnOk P w K mg base CX0 4 f fd ["work","note","number"] (XN K a):=by
 refine F.ok XS (by walk_at "ln") (fun cdv A outer s H vs Q E hr h=>?_);walk_at "fp";refine el6 h fun wk nt wo hb ts n zq=>?_
 clear h;obtain⟨rfl,hw,hW,hN,hn,ht,q⟩:=zq;walk_at "fq";have nd:=XS.nd;refine⟨_,(Ze (Zo (ZE Yl (Zi c_best_from hr Zu (Za (Zq (pv 1) rfl) (Za (Zq (pv 1) rfl) (Za Zg (Za (Zi c_first_room hr Zu (Za (pv 0) (Za (pv 2) Zc))) Zc))))) Zg (fun _ _=>rfl)))),?_⟩;have hN0:=hN;walk_at "fp";obtain⟨dx,aT,aK,aL,hR,hT1,hK,hL,hl⟩:=hN;walk_at "fq";have hR2:=hR;have hWk:=hR;have hWk2:=hR;have hlen:0<(Yu wo ts).length:=by unfold Yu;simp
 walk_at "wk";refine⟨T.clNote,T.nN_takes,_,Zg2 aT aK aL,T.clNote,T.nN_tails,_,Zg3 aT aK aL,?_⟩;refine ex4 wk wo hb n ⟨rfl,hw,hn,ht,fun H1 k1=>?_⟩;walk_at "fp";obtain⟨us,htl,hul,hT⟩:=hL.keepW k1.kw;walk_at "fq";refine ex7 aK aL us (Yu wo ts) 0 _ wo.set.width ⟨rfl,k1.z hK,htl,hlen,by lia,fun e h1 h2=>hT e h1 h2,fun p hp=>⟨p,rfl,_,.inl (.inl Zd),_,rfl,?_⟩⟩;rw[Nat.zero_add,<- Zh6 _ _ _ hlen];have e:broken (wo.set.width-YH wo.widths (35::VhPage.num10 n)) wo.set.width (Yu wo ts)=Zfp wo ts n:=ZcC ht _;rw[e];exact q _ (k1.trans (Kp.new hp))
theorem Paired.drop {α β:Type}{R:α->β->Prop}:∀{xs:List α}{ys:List β} (k:Nat),Paired R xs ys->Paired R (xs.drop k) (ys.drop k)
 | _,_,0,h=>h
 | _,_,k+1,.nil=>.nil
 | _,_,k+1,.cons _ t=>Paired.drop k t
theorem Paired.take {α β:Type}{R:α->β->Prop}:∀{xs:List α}{ys:List β} (k:Nat),Paired R xs ys->Paired R (xs.take k) (ys.take k)
 | _,_,0,_=>.nil
 | _,_,k+1,.nil=>.nil
 | _,_,k+1,.cons r t=>.cons r (Paired.take k t)
theorem ZlT (us:List V){x y:Nat}(h:y<=us.length)(h':x<=y):cutV us (some (x:Int)) (some (y:Int))=(us.drop x).take (y-x):=by
 unfold cutV;rw[HT.sIx_nat,HT.sIx_nat,Nat.min_eq_left h,Nat.min_eq_left (y0q h' h)]
noncomputable def upTo (br:List Nat)(i:Nat):Nat:=(br.take i).sum
theorem ZdH:∀(br:List Nat) (s i:Nat),i<br.length->(sums s br)[i]?=some (s+upTo br (i+1))
 | [],_,_,h=>by simp at h
 | c::br,s,0,_=>by simp[sums,upTo]
 | c::br,s,i+1,h=>by
  rw[sums,List.getElem?_cons_succ,ZdH br (s+c) i (by simpa using h)];simp[upTo,List.take_succ_cons];lia
theorem Jx (br:List Nat){i c:Nat}(h:br[i]?=some c):upTo br (i+1)=upTo br i+c:=by
 unfold upTo;rw[ZD h];simp
theorem ZfQ (br:List Nat)(i:Nat):upTo br i<=br.sum:=by
 unfold upTo;have:=List.take_append_drop i br;have h2:((br.take i)++(br.drop i)).sum=br.sum:=by rw[this]
 rw[y0o] at h2;lia
theorem Zjf {α:Type}:∀(br:List Nat) (l:List α) (i c:Nat),br[i]?=some c->(VhPage.cut br l)[i]?=some ((l.drop (upTo br i)).take c)
 | [],_,_,_,h=>by simp at h
 | d::br,l,0,c,h=>by simp at h;subst h;simp[VhPage.cut,upTo]
 | d::br,l,i+1,c,h=>by
  rw[VhPage.cut,List.getElem?_cons_succ,Zjf br (l.drop d) i c (by simpa using h),List.drop_drop];simp[upTo,List.take_succ_cons]
theorem Zgz {α:Type}:∀(br:List Nat) (l:List α),(VhPage.cut br l).length=br.length
 | [],_=>rfl
 | d::br,l=>by rw[VhPage.cut,y02,y02,Zgz]
theorem ZeY {α β:Type}{R:α->β->Prop}:∀{xs:List α}{ys:List β},xs.length=ys.length->(∀(i:Nat) (x:α) (y:β),xs[i]?=some x->ys[i]?=some y->R x y)->Paired R xs ys
 | [],[],_,_=>.nil
 | [],_::_,h,_=>by simp at h
 | _::_,[],h,_=>by simp at h
 | x::xs,y::ys,h,r=>.cons (r 0 x y rfl rfl) (ZeY (by simpa using h) fun i a b h1 h2=>r (i+1) a b (by simpa using h1) (by simpa using h2))
theorem ZlS (us:List V){x y:Nat}(h:x<=y):cutV us (some (x:Int)) (some (y:Int))=(us.drop x).take (y-x):=by
 unfold cutV;rw[HT.sIx_nat,HT.sIx_nat];by_cases h1:x<=us.length
 ·rw[Nat.min_eq_left h1];by_cases h2:y<=us.length
  ·rw[Nat.min_eq_left h2]
  ·rw[Nat.min_eq_right (by lia),y0e (by simp),y0e (by simp;lia)]
 ·rw[Nat.min_eq_right (show us.length<=x by lia),Nat.min_eq_right (show us.length<=y by lia),List.drop_of_length_le (show us.length<=x by lia)];simp
def ForW (J:It)(H1:Hp)(σ:L2.St)(g:TG)(tb:TS)(D:Ends):Prop:=∃W:Nat->Nat->L2.St->Hp->Prop,(∃m,W 0 m σ H1)/\∀i m σ H,W i m σ H ->
 (J.stop i H/\D.nx σ H)\/(J.go i H/\∃N:L2.St->Hp->Prop,(∀σ' H',N σ' H'->∃m',m' < m/\W (i+1) m' σ' H')/\∀x H',J.yld i H x H'->g x σ H' fun σ2 H2=>tb { D with nx:=N,ct:=N,bk:=D.nx } σ2 H2)
theorem ZkU {tl:TE}{g:TG}{tb:TS}{D:Ends}{σ:L2.St}{H:Hp}(h:tl σ H fun x H1=>∃a,x=.ref a/\(∃xs,SqL K H1 a xs)/\ForW (Itl K a) H1 σ g tb D):tFor (ZlE K tl) g tb D σ H:=h
def LsN (H H':Hp)(xs:List (List Nat))(la:List Addr):Prop:=Paired (fun x p=>H p=none/\H' p=some (.lst (lV x))) xs la
def VH (K:Frag)(a:Ad):Sp:=fun vs H Q _=>∃(th en:Addr) (wa:List Addr) (xs:List (List Nat)) (br:List Nat),vs=[.ref th,.ref en]/\H th=some (.lst (wa.map V.ref))/\Paired (fun x p=>H p=some (.lst (lV x))) xs wa/\H en=some (.lst (lV (sums 0 br)))/\xs.length<=100001/\br.length<=100001/\(∀x∈xs,x.length<=160) /\
 ∀H' l la,H l=none->Kp [] H H'->H' l=some (.lst (la.map V.ref))->LsN H H' ((VhPage.cut br xs).map (ZT 32)) la->Q (.ref l) H'
noncomputable abbrev WA:Stmt:=top 19
theorem VR:Zm ["things","ends","lines","start","end"] ["things","ends"] (Zh WA):=by walk_at "sc"
theorem Zch {f:Addr}{fd:FuncData}(F:Fun K "joined_lines" "joined_lines" WA f fd)(T:Txt K mg a)(c_joined:FnC P w K mg base CX0 1 "joined" ["things","between"] (VI K a)):FnOk P w K mg base CX0 2 f fd ["things","ends"] (VH K a):=by
 refine F.ok VR (by walk_at "ln") (fun cdv A outer s H vs Q E hr h=>?_);walk_at "fp";refine el5 h fun th en wa xs br zq=>?_
 clear h;obtain⟨rfl,hth,hP,hen,hn,hbn,h64,q⟩:=zq;walk_at "fq";have nd:=VR.nd;refine⟨_,(Zb (Zl (i:=2) nd rfl (Or.inl rfl) (ZW Zc)) (Zb (Zl (i:=3) nd rfl (Or.inl rfl) Zg) (Zb (Y7 PassesOwn.never rfl (Xz (pv 1)) (ZK (i:=4) nd rfl (Or.inl rfl)) (Zb (Zr (Yj y0y y11 y12 ZZ (pv 2) (Za (Zi c_joined hr Zu (Za (JY ZbV (pv 0) (U8 (pv 3)) (U8 (pv 4))) (Za (ZP T.cBLANK) Zc))) Zc))) (Ze (Zl (i:=3) nd rfl (Or.inl rfl) (pv 4))))) (Ze (Zo (pv 2)))))),?_⟩;have hz:sizeLine=16777216:=by decide
 have hwl:=Paired.length hP;walk_at "gs";walk_at "gr";refine⟨(show 0<=sizeLine by decide),fun l hl=>?_⟩;walk_at "gr";have lth:th≠l:=Zf hth hl;have len':en≠l:=Zf hen hl;obtain⟨Pv,hPv⟩:∃Pv:WT,Pv=fun i σ H'=>∃(o:Option V) (la:List Addr),σ=[some (.ref th),some (.ref en),some (.ref l),some (.int ((upTo br i:Nat):Int)),o]/\H' l=some (.lst (la.map V.ref))/\Kp [] H H'/\Paired (fun x p=>(H p=none/\p≠l)/\H' p=some (.lst (lV x))) (((VhPage.cut br xs).take i).map (ZT 32)) la:=⟨_,rfl⟩
 refine ZkU ?_;walk_at "gr";refine ex1 en (⟨⟨_,.inl (.inl (Zx len' hen))⟩,W9 (xs:=lV (sums 0 br)) Pv ?_ ?_ ?_ ?_⟩)
 ·rw[hPv];exact ex2 none [] ⟨rfl,Zd,Kp.new hl,.nil⟩
 ·intro i σ H' _ hw';rw[hPv] at hw';refine el2 hw' fun _ _ zq=>?_
  clear hw';obtain⟨rfl,_,k,_⟩:=zq;exact .inl (.inl (k.z hen))
 ·intro i v σ H2 hi hw';rw[hPv] at hw';refine el2 hw' fun o la zq=>?_
  clear hw';obtain⟨rfl,hl2,k2,hP2⟩:=zq;walk_at "fp";obtain⟨n,hn',rfl⟩:=Zg7 hi;walk_at "fq";have hib:i<br.length:=by
   have:=(y0a.mp hn').1;rw[WQ] at this;exact this
  rw[ZdH br 0 i hib,Nat.zero_add] at hn';cases hn';have hbi:br[i]?=some br[i]:=y09 hib;have eup:=Jx br hbi;have hll:=Paired.length hP2;rw[y03,y0h,Zgz] at hll;walk_at "gr";refine⟨.inl ⟨rfl,_,.inl (.inl hl2)⟩,?_⟩;walk_at "gr";refine⟨_,.inl (.inl (k2.z hth)),fun s1 hs1=>?_⟩;have ed:(((wa.map V.ref).drop (upTo br i)).take (upTo br (i+1)-upTo br i))=((wa.drop (upTo br i)).take br[i]).map V.ref:=by rw[show upTo br (i+1)-upTo br i=br[i] by lia,List.map_take,List.map_drop]
  rw[ZlS _ (show upTo br i<=upTo br (i+1) by lia),ed];walk_at "gr";have k3:Kp [] H2 (upd H2 s1 (HO.lst (((wa.drop (upTo br i)).take br[i]).map V.ref))):=Kp.new hs1;have hPd:Paired (fun x v=>∃l,v=V.ref l/\upd H2 s1 (HO.lst (((wa.drop (upTo br i)).take br[i]).map V.ref)) l=some (.lst (lV x))) ((xs.drop (upTo br i)).take br[i]) (((wa.drop (upTo br i)).take br[i]).map V.ref):=by
   have h1:=Paired.take br[i] (Paired.drop (upTo br i) hP);refine ZeY (by rw[y03];exact Paired.length h1) fun j x y hx hy=>?_
   rw[y0l] at hy;cases e:((wa.drop (upTo br i)).take br[i])[j]? with
   | none=>rw[e] at hy;cases hy
   | some z =>
    rw[e] at hy;cases hy;walk_at "fp";obtain⟨x',hx',hz'⟩:=Paired.get h1 e;walk_at "fq";rw[hx] at hx';cases hx';exact ex1 z (k3.z (k2 _ _ hz' (by simp)))
  have hjl:(ZT 32 ((xs.drop (upTo br i)).take br[i])).length<=16777216:=by
   have b1:=Jk 32 160 ((xs.drop (upTo br i)).take br[i]) (fun x hx=>h64 x (List.mem_of_mem_drop (List.mem_of_mem_take hx)));have b2:((xs.drop (upTo br i)).take br[i]).length<=100001:=by rw[y0h,y0i];lia
   have b3:=Nat.mul_le_mul_right (160+1) b2;lia
  refine ex4 s1 _ ((xs.drop (upTo br i)).take br[i]) 32 ⟨rfl,Zd,hPd,hjl,fun H4 p4 hp4 k4 hl4=>?_⟩;have hl24:H4 l=some (.lst (la.map V.ref)):=k4.z (k3 _ _ hl2 (by simp));have p4l:p4≠l:=fun z=>by rw[z,k3.z hl2] at hp4;cases hp4
  walk_at "gr";refine⟨_,hl24,by rw[y03];lia,?_⟩;walk_at "gr";rw[hPv];have kA:Kp [] H H4:=(k2.trans k3).trans k4;refine ex2 _ (la++[p4]) ⟨rfl,by rw[Zd,y07];rfl,kA.put2 (.inr hl),?_⟩;rw[ZD (Zjf br xs i br[i] hbi),y07];exact Paired.snoc (Paired.mono (fun x p h=>⟨h.1,Zx h.1.2 (k4.z (k3 _ _ h.2 (by simp)))⟩) hP2) ⟨⟨(k2.trans k3).free (by simp) hp4,p4l⟩,Zx p4l hl4⟩
 ·intro σ H2 hw';rw[hPv] at hw';refine el2 hw' fun o la zq=>?_
  clear hw';obtain⟨rfl,hl2,k2,hP2⟩:=zq;rw[Zy,WQ,<- Zgz br xs,y0e (y0r _)] at hP2;refine hM _ _ _ ?_;walk_at "gr";exact q H2 l la hl k2 hl2 (Paired.mono (fun x p h=>⟨h.1.1,h.2⟩) hP2)
theorem Zlb {H:Hp}{xs:List (List Nat)}{vs:List V}(h:Paired (LI H) xs vs):∃wa,vs=wa.map V.ref/\Paired (fun x p=>H p=some (.lst (lV x))) xs wa:=by
 induction h with
 | nil=>exact⟨[],rfl,.nil⟩
 | cons r _ ih =>
  obtain⟨l,rfl,h1⟩:=r;obtain⟨wa,rfl,ih⟩:=ih;exact⟨l::wa,rfl,.cons h1 ih⟩
def Vq (K:Frag)(a:Ad):Sp:=fun vs H Q _=>∃(wk nt:Addr) (wo:Work) (hb:List UInt8) (ts:List (List Nat)) (n:Nat),vs=[.ref wk,.ref nt,.int (n:Int)]/\WkR a H wk wo hb/\wo.set.width<=240/\UT a H nt wo ts/\n<100000/\YH wo.widths (35::VhPage.num10 n)<=wo.set.width/\(∀t∈ts,t.length<=160) /\
 ∀H' l la,H l=none->Kp [] H H'->H' l=some (.lst (la.map V.ref))->LsN H H' ((VhPage.cut (Zfp wo ts n) ((35::VhPage.num10 n)::ts)).map (ZT 32)) la->Q (.ref l) H'
noncomputable abbrev XX:Stmt:=top 27
theorem Vw:Zm ["work","note","number","things"] ["work","note","number"] (Zh XX):=by walk_at "sc"
theorem Zbq {f:Addr}{fd:FuncData}(F:Fun K "foot_lines_of" "foot_lines_of" XX f fd)(T:Txt K mg a)(c_joined_lines:FnC P w K mg base CX0 2 "joined_lines" ["things","ends"] (VH K a))(c_ends_of:FnC P w K mg base CX0 3 "ends_of" ["takes","tails","first_room"] (Zao K a))(c_number_thing:FnC P w K mg base CX0 2 "number_thing" ["number"] (XM K a))(c_first_room:FnC P w K mg base CX0 3 "first_room" ["work","number"] (WS K a)):FnOk P w K mg base CX0 4 f fd ["work","note","number"] (Vq K a):=by
 refine F.ok Vw (by walk_at "ln") (fun cdv A outer s H vs Q E hr h=>?_);walk_at "fp";refine el6 h fun wk nt wo hb ts n zq=>?_
 clear h;obtain⟨rfl,hw,hW,hN,hn,ht,htl,q⟩:=zq;walk_at "fq";have nd:=Vw.nd;refine⟨_,(Zb (Zl (i:=3) nd rfl (Or.inl rfl) (Zw Zdh (ZW (Za (Zi c_number_thing hr Zu (Za (pv 2) Zc)) Zc)) (Zq (pv 1) rfl))) (Ze (Zo (Zi c_joined_lines hr Zu (Za (pv 3) (Za (Zi c_ends_of hr Zu (Za (Zq (pv 1) rfl) (Za (Zq (pv 1) rfl) (Za (Zi c_first_room hr Zu (Za (pv 0) (Za (pv 2) Zc))) Zc)))) Zc)))))),?_⟩;have hN0:=hN;walk_at "fp";obtain⟨dx,aT,aK,aL,hR,hT1,hK,hL,hl⟩:=hN;walk_at "fq";have hlen:0<(Yu wo ts).length:=by unfold Yu;simp
 have hz:sizeLine=16777216:=by decide
 walk_at "fp";obtain⟨tv,hT2,hT3⟩:=hT1;walk_at "fq";walk_at "fp";obtain⟨ta,rfl,hT4⟩:=Zlb hT3;walk_at "fq";have htv:=Paired.length hT4;have hlw:∀t∈((35::VhPage.num10 n)::ts:List (List Nat)),t.length<=160:=fun t ht'=>by
  rcases y0b.mp ht' with h | h
  ·have w4:=YI (n:=n) (k:=5) (by decide) (by lia);rw[h,y02];lia
  ·exact htl t h
 have eb:broken (wo.set.width-YH wo.widths (35::VhPage.num10 n)) wo.set.width (Yu wo ts)=Zfp wo ts n:=ZcC ht _;have hbl:(Zfp wo ts n).length<=100001:=by
  have h1:=ZcD (wo.set.width-YH wo.widths (35::VhPage.num10 n)) wo.set.width (Yu wo ts);rw[eb] at h1;have h2:(Yu wo ts).length=ts.length+1:=by unfold Yu;simp
  lia
 walk_at "gs";walk_at "gr";refine⟨n,rfl,hn,fun H1 p1 hp1 k1 hl1=>?_⟩;walk_at "gr";refine⟨(show 1<=sizeLine by decide),fun p2 hp2=>?_⟩;have k2:Kp [] H (upd H1 p2 (HO.lst [V.ref p1])):=k1.trans (Kp.new hp2);walk_at "gr";refine J8 (k2.z hR) T.clNote T.nN_things (ZiH aT aK aL) ?_;walk_at "gr";refine ex4 p2 aT _ _ ⟨rfl,rfl,Zd,k2.z hT2,by simp only[y02,y04,y03];lia,fun p3 hp3=>?_⟩;have k3:Kp [] H (upd (upd H1 p2 (HO.lst [V.ref p1])) p3 (HO.lst ([V.ref p1]++ta.map V.ref))):=k2.trans (Kp.new hp3);have k13:Kp [] H1 (upd (upd H1 p2 (HO.lst [V.ref p1])) p3 (HO.lst ([V.ref p1]++ta.map V.ref))):=(Kp.new hp2).trans (Kp.new hp3);have hp3':upd (upd H1 p2 (HO.lst [V.ref p1])) p3 (HO.lst ([V.ref p1]++ta.map V.ref)) p3=some (HO.lst ((p1::ta).map V.ref)):=Zd;generalize upd (upd H1 p2 (HO.lst [V.ref p1])) p3 (HO.lst ([V.ref p1]++ta.map V.ref))=H3 at k3 k13 hp3' ⊢;walk_at "gr";refine J8 (k3.z hR) T.clNote T.nN_takes (Zg2 aT aK aL) ?_;walk_at "gr";refine J8 (k3.z hR) T.clNote T.nN_tails (Zg3 aT aK aL) ?_;walk_at "gr";refine ex4 wk wo hb n ⟨rfl,hw.keep k3,hn,ht,fun H5 k5=>?_⟩;have k35:=k3.trans k5;walk_at "gr";refine ex5 aK aL (Yu wo ts) _ wo.set.width ⟨rfl,k35.z hK,hL.keepW k35.kw,hlen,?_,by lia,fun H6 p6 hp6 k6 hl6=>?_⟩
 ·unfold Yu;rw[y02,y03];lia
 rw[eb] at hl6;have k36:=k5.trans k6;walk_at "gr";refine ex5 p3 p6 (p1::ta) ((35::VhPage.num10 n)::ts) (Zfp wo ts n) ⟨rfl,k36.z hp3',.cons ((k13.trans k36).z hl1) (Paired.mono (fun x p h=>(k3.trans k36).z h) hT4),hl6,by rw[y02];lia,hbl,hlw,fun H7 l la hl7 k7 hla hLs=>?_⟩;walk_at "gr";have k06:=k3.trans k36;exact q H7 l la (k06.free (by simp) hl7) (k06.trans k7) hla (Paired.mono (fun x p h=>⟨k06.free (by simp) h.1,h.2⟩) hLs)
noncomputable def lnf (f e:Nat)(o c:Bool)(t:Nat)(n:V):List (Str×V):=[("first",.int (f:Int)),("end",.int (e:Int)),("opens",.bl o),("closes",.bl c),("taken",.int (t:Int)),("note",n)]
theorem Zcl (f e:Nat)(o c:Bool)(t:Nat)(n:V):(lnf f e o c t n).lookup ("first":Str)=some (.int (f:Int)):=by rfl
theorem Zed (f e:Nat)(o c:Bool)(t:Nat)(n:V):(lnf f e o c t n).lookup ("end":Str)=some (.int (e:Int)):=by rfl
theorem Zck (f e:Nat)(o c:Bool)(t:Nat)(n:V):(lnf f e o c t n).lookup ("opens":Str)=some (.bl o):=by rfl
theorem Zdj (f e:Nat)(o c:Bool)(t:Nat)(n:V):(lnf f e o c t n).lookup ("closes":Str)=some (.bl c):=by rfl
theorem ZbC (f e:Nat)(o c:Bool)(t:Nat)(n:V):(lnf f e o c t n).lookup ("note":Str)=some n:=by rfl
theorem Zlw (f e:Nat)(o c:Bool)(t:Nat)(n n':V):putF "note" n' (lnf f e o c t n)=lnf f e o c t n':=by rfl
def ZaV (K:Frag)(a:Ad):Sp:=fun vs H Q _=>∃(x dx:Addr) (f e:Nat) (o c:Bool) (t:Nat),vs=[.ref x,.int (f:Int),.int (e:Int),.bl o,.bl c,.int (t:Int)]/\H x=some (.ins a.CL dx [])/\Q .non (upd H x (.ins a.CL dx (lnf f e o c t .non)))
noncomputable abbrev U5:Stmt:=Yv (top 29) 0
theorem Za7:Zm ["self","first","end","opens","closes","taken"] ["self","first","end","opens","closes","taken"] (Zh U5):=by walk_at "sc"
theorem Zfc {f:Addr}{fd:FuncData}(F:Fun K "__init__" "Line.__init__" U5 f fd)(T:Txt K mg a):FnOk P w K mg base CX0 1 f fd ["self","first","end","opens","closes","taken"] (ZaV K a):=by
 refine F.ok Za7 (by walk_at "ln") (fun cdv A outer s H vs Q E hr h=>?_);refine el7 h fun x dx f e o c t zq=>?_
 clear h;obtain⟨rfl,hR,q⟩:=zq;have nd:=Za7.nd;refine⟨_,(Zb (ZM (pv 0) (pv 1) rfl) (Zb (ZM (pv 0) (pv 2) rfl) (Zb (ZM (pv 0) (pv 3) rfl) (Zb (ZM (pv 0) (pv 4) rfl) (Zb (ZM (pv 0) (pv 5) rfl) (Ze (ZM (pv 0) ZeX rfl))))))),?_⟩;have hR2:=hR;have hWk:=hR;have hWk2:=hR;walk_at "wk";refine⟨T.clLine,T.nL_first,(show(0:Nat)<1000 by decide),T.clLine,T.nL_end,(show(1:Nat)<1000 by decide),T.clLine,T.nL_opens,(show(2:Nat)<1000 by decide),T.clLine,T.nL_closes,(show(3:Nat)<1000 by decide),T.clLine,T.nL_taken,(show(4:Nat)<1000 by decide),T.clLine,T.nL_note,(show(5:Nat)<1000 by decide),?_⟩;simp only[WP];exact q
noncomputable abbrev wtk (wo:Work)(k:Nat):Nat:=wtkS wo k
def JD (K:Frag)(a:Ad):Sp:=fun vs H Q _=>∃(wk:Addr) (wo:Work) (hb:List UInt8) (k:Nat),vs=[.ref wk,.int (k:Int)]/\WkR a H wk wo hb/\k<wo.paras.flatten.length/\(∀x∈wo.paras.flatten,x.length<=64) /\
 ∀H',Kp [] H H'->Q (.int (wtk wo k:Nat)) H'
noncomputable abbrev VS:Stmt:=top 30
theorem JK:Zm ["work","k"] ["work","k"] (Zh VS):=by walk_at "sc"
theorem Zd3 {f:Addr}{fd:FuncData}(F:Fun K "word_takes" "word_takes" VS f fd)(T:Txt K mg a)(c_cells_of_thing:FnC P w K mg base CX0 2 "cells_of_thing" ["rows","thing"] (Yx K a)):FnOk P w K mg base CX0 3 f fd ["work","k"] (JD K a):=by
 refine F.ok JK (by walk_at "ln") (fun cdv A outer s H vs Q E hr h=>?_);refine el4 h fun wk wo hb k zq=>?_
 clear h;obtain⟨rfl,hw,hk,h5,q⟩:=zq;have nd:=JK.nd;refine⟨_,(Ze (Zo (Zw ZS (Zi c_cells_of_thing hr Zu (Za (Zq (pv 0) rfl) (Za (ZE ZA (Zq (pv 0) rfl) (pv 1) (fun _ _=>rfl)) Zc))) (Zp Zj rfl T.len y13 (Za (ZE ZA (Zq (pv 0) rfl) (pv 1) (fun _ _=>rfl)) Zc))))),?_⟩;have hw0:=hw;walk_at "fp";refine el12 hw.1.ex fun dw aR aH aP aW aS aE rs ps ws gs es zq=>?_
 obtain⟨hWk,h2,h3,h4,h6,h7,h8,h9,h10,h11,h12,_⟩:=zq;obtain⟨_,ok,hl⟩:=hw;walk_at "fq";have hWk2:=hWk;have hR:=hWk;have hR2:=hWk;walk_at "wk";walk_at "fp";obtain⟨ws',l,g1,g2,g3⟩:=Yb.get ⟨ws,h8,h9⟩ hk;walk_at "fq";have hkg:k<gs.length:=by lia
 obtain⟨g,hg⟩:∃g,gs[k]?=some g:=⟨gs[k],y09 hkg⟩
 walk_at "fp";obtain⟨tv,t1,t2⟩:=h12 k g hg;walk_at "fq";have htl:=Paired.length t2;refine⟨_,.inl (.inl g1),_,XA g2,aR,l,wo.widths,_,rfl,⟨rs,h2,h3,ok,hl⟩,g3,y0q (Zc2 h5 k) (by decide),fun H1 k1=>?_⟩;refine ex3 _ _ _ ⟨k1.z hWk,T.clWork,T.n_signs,_,Zbx wo.set aR aH aP aW aS aE,aS,rfl,_,.inl (.inl (k1.z h10)),_,XA (v:=V.ref g) (by rw[y0l,hg];rfl),g,rfl,_,.inl (.inl (.inl (k1.z t1))),_,rfl,?_⟩;rw[<- htl,y03];exact q H1 k1
noncomputable def Zmc (wo:Work)(o:Bool):Nat:=if o=true then wo.set.width-wo.set.indent else wo.set.width
def Zda (K:Frag)(a:Ad):Sp:=fun vs H Q _=>∃(wk:Addr) (wo:Work) (hb:List UInt8) (o:Bool),vs=[.ref wk,.bl o]/\WkR a H wk wo hb/\wo.set.indent<=wo.set.width/\Q (.int (Zmc wo o:Nat)) H
noncomputable abbrev Zb3:Stmt:=top 31
theorem Zdc:Zm ["work","opens"] ["work","opens"] (Zh Zb3):=by walk_at "sc"
theorem ZhP {f:Addr}{fd:FuncData}(F:Fun K "room_of" "room_of" Zb3 f fd)(T:Txt K mg a):FnOk P w K mg base CX0 1 f fd ["work","opens"] (Zda K a):=by
 refine F.ok Zdc (by walk_at "ln") (fun cdv A outer s H vs Q E hr h=>?_);refine el4 h fun wk wo hb o zq=>?_
 clear h;obtain⟨rfl,hw,hI,q⟩:=zq;have nd:=Zdc.nd;refine⟨_,(Zb (ZV (W3 (pv 1) (fun _=>rfl)) (Ze (Zo (Zw Z6 (Zq (pv 0) rfl) (Zq (pv 0) rfl)))) Zv) (Ze (Zo (Zq (pv 0) rfl)))),?_⟩;walk_at "fp";refine el7 (WkR.wk hw) fun dw aR aH aP aW aS aE hWk=>?_
 walk_at "fq";have hWk2:=hWk;have hR:=hWk;have hR2:=hWk;unfold Zmc at q;walk_at "wk";refine⟨o,rfl,?_⟩;cases o
 ·rw[if_neg (by decide)] at *;walk_at "wk";refine ex1 _ (?_);exact q
 ·rw[if_pos rfl] at *;walk_at "wk";refine ex1 _ (ex1 _ (ex1 _ (ex1 _ (?_))));have ew:(wo.set.width:Int)-(wo.set.indent:Int)=((wo.set.width-wo.set.indent:Nat):Int):=by lia
  rw[ew];exact q
def Zjs (a:Ad)(H:Hp)(wo:Work)(x:VhPage.Line)(v:V):Prop:=∃l d,v=.ref l/\H l=some (.ins a.CL d (lnf x.first (x.first+x.count) x.begins x.ends (V9 wo x) .non))
noncomputable def Yk (wo:Work)(f e:Nat):List Nat:=(List.range (e-f)).map fun d=>wtk wo (f+d)
theorem VY:∀(a:Nat) (b:Bool) (l:List Nat),(rowLines a b l).length=l.length
 | _,_,[]=>rfl
 | a,b,c::l=>by rw[rowLines,y02,y02,VY]
theorem Za8:∀(br:List Nat) (a:Nat) (b:Bool) (i c:Nat),br[i]?=some c->(rowLines a b br)[i]?=some ⟨a+upTo br i,c,(if i=0 then b else false),decide (i+1=br.length)⟩
 | [],_,_,_,_,h=>by simp at h
 | d::br,a,b,0,c,h=>by
  simp at h;subst h;rw[rowLines,List.getElem?_cons_zero];have e:br.isEmpty=decide (0+1=(d::br).length):=by cases br <;> simp
  rw[e];simp[upTo]
 | d::br,a,b,i+1,c,h=>by
  rw[rowLines,List.getElem?_cons_succ,Za8 br (a+d) false i c (by simpa using h)];have e1:a+d+upTo br i=a+upTo (d::br) (i+1):=by unfold upTo;rw[List.take_succ_cons,y06];lia
  have e2:decide (i+1=br.length)=decide (i+1+1=(d::br).length):=decide_eq_decide.mpr (by rw[y02];lia);rw[e1,e2];simp
theorem Zid {br:List Nat}(h:∀c∈br,1<=c){i:Nat}(hi:i<=br.length):i<=upTo br i:=by
 induction i with
 | zero=>exact y0u _
 | succ i ih =>
  have hc:br[i]?=some br[i]:=y09 (by lia);have:=h _ (List.getElem_mem (l:=br) (n:=i) (by lia));have:=ih (by lia);rw[Jx br hc];lia
theorem Zic {br:List Nat}(h:∀c∈br,1<=c){i:Nat}(hi:i<=br.length):upTo br i=br.sum↔i=br.length:=by
 constructor
 ·intro e;by_cases z:i=br.length
  ·exact z
  ·have hc:br[i]?=some br[i]:=y09 (by lia);have h1:=h _ (List.getElem_mem (l:=br) (n:=i) (by lia));have h2:=Jx br hc;have h3:=ZfQ br (i+1);lia
 ·intro e;subst e;unfold upTo;rw[y0e (y0r _)]
theorem ZhA (wo:Work)(f0 e0 up c:Nat)(b e:Bool)(h:up+c<=e0-f0):(VhPage.Line.spots ⟨f0+up,c,b,e⟩).map (wtkS wo)=((Yk wo f0 e0).drop up).take c:=by
 apply List.ext_getElem?;intro k;unfold VhPage.Line.spots Yk;rw[List.map_map];by_cases hk:k<c
 ·rw[List.getElem?_take_of_lt hk,y0l,List.getElem?_range hk,List.getElem?_drop,y0l,List.getElem?_range (by lia)];show some (wtkS wo (f0+up+k))=some (wtkS wo (f0+(up+k)));rw[Nat.add_assoc]
 ·rw[y0p (by rw[y03,List.length_range];exact Nat.le_of_not_lt hk),y0p (by rw[y0h];lia)]
theorem ZdI:∀l:List Nat,(l.map fun(n:Nat)=>(n:Int)).sum=((l.sum:Nat):Int)
 | []=>rfl
 | x::l=>by rw[y05,y06,y06,ZdI l];lia
def Xg (K:Frag)(a:Ad):Sp:=fun vs H Q _=>∃(wk:Addr) (wo:Work) (hb:List UInt8) (f e:Nat),vs=[.ref wk,.int (f:Int),.int (e:Int)]/\WkR a H wk wo hb/\f<e/\e<=wo.paras.flatten.length/\wo.paras.flatten.length<=8192/\(∀x∈wo.paras.flatten,x.length<=64)/\wo.set.width<=240/\wo.set.indent<=wo.set.width /\
 ∀H' p us,H p=none->Kp [] H H'->H' p=some (.lst us)->Paired (fun x v=>Zjs a H' wo x v/\∀l,v=.ref l->H l=none) (rowLines f true (broken (wo.set.width-wo.set.indent) wo.set.width (Yk wo f e))) us->(us.Nodup)->Q (.ref p) H'
noncomputable abbrev ZY:Stmt:=top 32
theorem Xi:Zm ["work","first","end","takes","k","tails","lines","start","line_end","taken"] ["work","first","end"] (Zh ZY):=by walk_at "sc"
theorem Vg:Jv ["work","first","end","takes","k","tails","lines","start","line_end","taken"] (Zh ZY) (lcSc (Zbl (stI (ZI ZY) 0))) [("k",4)]:=by walk_at "bk"
theorem V3 {f:Addr}{fd:FuncData}(F:Fun K "lines_of_paragraph" "lines_of_paragraph" ZY f fd)(T:Txt K mg a)(c_tails_of:FnC P w K mg base CX0 3 "tails_of" ["takes","room"] (UW K a))(c_ends_of:FnC P w K mg base CX0 3 "ends_of" ["takes","tails","first_room"] (Zao K a))(c_word_takes:FnC P w K mg base CX0 3 "word_takes" ["work","k"] (JD K a))(c_room_of:FnC P w K mg base CX0 1 "room_of" ["work","opens"] (Zda K a))(c_Line_init:Zeo P w K mg base CX0 1 a.CL "Line" ["self","first","end","opens","closes","taken"] (ZaV K a)):FnOk P w K mg base CX0 4 f fd ["work","first","end"] (Xg K a):=by
 refine F.ok Xi (by walk_at "ln") (fun cdv A outer s H vs Q E hr h=>?_);refine el5 h fun wk wo hb f0 e0 zq=>?_
 clear h;obtain⟨rfl,hw,hfe,he,hn,h5,hW,hI,q⟩:=zq;have nd:=Xi.nd;refine⟨_,(Zb (JV (i:=3) rfl nd rfl rfl (ZbN rfl rfl rfl rfl) (X2 rfl T.range (Za (pv 1) (Za (pv 2) Zc))) Vg (fun _ _ _ _ _=>(ZK (i:=4) nd rfl (Or.inl rfl))) (fun _ _ _ _ _=>WB) (fun _ _ _ _ _=>(Zi c_word_takes hr Zu (Za (pv 0) (Za (pv 4) Zc))))) (Zb (Zl (i:=5) nd rfl (Or.inl rfl) (Zi c_tails_of hr Zu (Za (pv 3) (Za (Zi c_room_of hr Zu (Za (pv 0) (Za ZhL Zc))) Zc)))) (Zb (Zl (i:=6) nd rfl (Or.inl rfl) (ZW Zc)) (Zb (Zl (i:=7) nd rfl (Or.inl rfl) Zg) (Zb (Y7 PassesOwn.never rfl (Xz (Zi c_ends_of hr Zu (Za (pv 3) (Za (pv 5) (Za (Zi c_room_of hr Zu (Za (pv 0) (Za ZhL Zc))) Zc))))) (ZK (i:=8) nd rfl (Or.inl rfl)) (Zb (Zl (i:=9) nd rfl (Or.inl rfl) (Zw Z6 (Zw Z6 (Zw ZS (Zp (Zjg rfl) rfl T.sum boot_sum (Za (JY ZbV (pv 3) (U8 (pv 7)) (U8 (pv 8))) Zc)) (pv 8)) (pv 7)) Zg)) (Zb (Zr (Yj y0y y11 y12 ZZ (pv 6) (Za (W6 c_Line_init hr Zu (Za (Zw ZS (pv 1) (pv 7)) (Za (Zw ZS (pv 1) (pv 8)) (Za (X4 Wb (pv 7) Zg (Zs _)) (Za (X4 Wb (Zw ZS (pv 1) (pv 8)) (pv 2) (Zs _)) (Za (pv 9) Zc)))))) Zc))) (Ze (Zl (i:=7) nd rfl (Or.inl rfl) (pv 8)))))) (Ze (Zo (pv 6)))))))),?_⟩;have hw0:=hw;walk_at "fp";refine el12 hw.1.ex fun dw aR aH aP aW aS aE rs ps ws gs es zq=>?_
 obtain⟨hWk0,_⟩:=zq;obtain⟨_,ok,hl⟩:=hw;walk_at "fq";have hz:sizeLine=16777216:=by decide
 refine⟨_,rfl,_,rfl,_,_,rfl,⟨by lia,by lia,by lia,by lia⟩,fun D hD=>?_⟩;have en:Int.toNat ((e0:Int)-(f0:Int))=e0-f0:=by lia
 rw[en];obtain⟨Pv,hPv⟩:∃Pv:Nat->Hp->Prop,Pv=fun i H'=>Kp [] H H'/\H' D=some (.lst (lV ((List.range i).map fun d=>wtk wo (f0+d)))):=⟨_,rfl⟩
 refine J6 Pv ?_ ?_ ?_
 ·rw[hPv];exact⟨Kp.new hD,Zd⟩
 ·intro i H2 hi hw2;rw[hPv] at hw2;obtain⟨k,hD2⟩:=hw2;refine⟨rfl,?_⟩;have ei:(f0:Int)+(i:Int)=((f0+i:Nat):Int):=by lia
  rw[ei];simp only[tYes];refine⟨_,rfl,_,rfl,ex4 wk wo hb (f0+i) ⟨ rfl,hw0.keep k,by lia,h5,fun H3 k3=>?_⟩⟩;refine⟨_,k3.z hD2,by rw[Zy,y03,List.length_range];lia,?_⟩;rw[hPv];refine⟨(k.trans k3).put2 (.inr hD),?_⟩;rw[Zd,List.range_succ,y07];unfold lV;rw[y07];rfl
 ·intro H2 hw2;rw[hPv] at hw2;obtain⟨k,hD2⟩:=hw2;clear hPv Pv;have hD2:H2 D=some (.lst (lV (Yk wo f0 e0))):=hD2;have hpl:(Yk wo f0 e0).length=e0-f0:=by unfold Yk;simp
  walk_at "rd";refine ex4 wk wo hb false ⟨rfl,hw0.keep k,hI,D,Yk wo f0 e0,wo.set.width,rfl,hD2,by lia,by lia,by lia,fun H3 p3 hp3 k3 hT3=>?_⟩;walk_at "rd";refine⟨by decide,fun p4 hp4=>?_⟩;have k23:Kp [] H H3:=k.trans k3;have k4:Kp [] H (upd H3 p4 (HO.lst [])):=k23.trans (Kp.new hp4);have hp0:H p4=none:=k23.free (by simp) hp4;have hD4:upd H3 p4 (HO.lst []) D=some (.lst (lV (Yk wo f0 e0))):=(Kp.new (S:=[]) hp4) _ _ (k3.z hD2) (by simp);have hT4:Ju (upd H3 p4 (HO.lst [])) p3 wo.set.width (Yk wo f0 e0):=hT3.keepW (Kp.new (S:=[]) hp4).kw;refine⟨_,rfl,_,rfl,_,rfl,ex4 wk wo hb true ⟨ rfl,hw0.keep k4,hI,ex5 D p3 (Yk wo f0 e0) (wo.set.width-wo.set.indent) wo.set.width ⟨ rfl,hD4,hT4,by lia,by lia,by lia,fun H5 p5 hp5 k5 hl5=>?_⟩⟩⟩;have hsum:=ZaL (wo.set.width-wo.set.indent) wo.set.width (Yk wo f0 e0) (by lia);have hpos:=ZaM (wo.set.width-wo.set.indent) wo.set.width (Yk wo f0 e0) (by lia);rw[hpl] at hsum;have k45:=k4.trans k5;have hp45:H5 p4=some (.lst []):=k5.z Zd;have hD5:H5 D=some (.lst (lV (Yk wo f0 e0))):=k5.z hD4;have p45:p5≠p4:=fun z=>by rw[z,Zd] at hp5;cases hp5
  have p4D:D≠p4:=fun z=>by rw[<- z,k3.z hD2] at hp4;cases hp4
  generalize broken (wo.set.width-wo.set.indent) wo.set.width (Yk wo f0 e0)=br at *;obtain⟨Pv,hPv⟩:∃Pv:WT,Pv=fun i σ H'=>∃o o2:Option V,σ=[some (.ref wk),some (.int (f0:Int)),some (.int (e0:Int)),some (.ref D),none,some (.ref p3),some (.ref p4),some (.int (upTo br i:Nat)),o,o2]/\Kp [] H H'/\Kp [p4] H5 H'/\∃us,H' p4=some (.lst us)/\Paired (fun x v=>Zjs a H' wo x v/\∀l,v=.ref l->H l=none) ((rowLines f0 true br).take i) us/\us.Nodup:=⟨_,rfl⟩
  refine ex1 p5 (⟨⟨_,.inl (.inl hl5)⟩,W9 (xs:=lV (sums 0 br)) Pv ?_ ?_ ?_ ?_⟩)
  ·rw[hPv];exact ex2 none none ⟨rfl,k45,Kp.refl,[],hp45,.nil,List.nodup_nil⟩
  ·intro i σ H' _ hw';rw[hPv] at hw';walk_at "fp";refine el2 hw' fun o o2 zq=>?_
   clear hw';obtain⟨rfl,k,k',_⟩:=zq;walk_at "fq";exact .inl (.inl (k' _ _ hl5 (by simp[p45])))
  ·intro i v σ H7 hi hw';rw[hPv] at hw';walk_at "fp";refine el2 hw' fun o o2 zq=>?_
   clear hw';obtain⟨rfl,k7,k7',us,hus,hP,hnd⟩:=zq;walk_at "fq";walk_at "fp";obtain⟨e,he',rfl⟩:=Zg7 hi;walk_at "fq";have hib:i<br.length:=by
    have:=(y0a.mp he').1;rw[WQ] at this;exact this
   obtain⟨c,hc⟩:∃c,br[i]?=some c:=⟨br[i],y09 hib⟩
   rw[ZdH br 0 i hib,Nat.zero_add] at he';have he2:upTo br (i+1)=e:=by simpa using he'
   have hsu:=Jx br hc;have hul:=ZfQ br (i+1);have hcp:=hpos c (y0f hc);have hD7:H7 D=some (.lst (lV (Yk wo f0 e0))):=k7' _ _ hD5 (by simp[p4D]);have hul2:upTo br i<=upTo br (i+1):=by lia
   have hge:=Zid hpos (i:=i) (by lia);have hga:=Zic hpos (i:=i+1) (by lia);have h9:=Zid hpos (i:=br.length) (y0r _);have h10:=ZfQ br br.length;walk_at "rd";refine⟨_,.inl (.inl hD7),fun p8 hp8=>?_⟩;rw[ZlT (lV (Yk wo f0 e0)) (x:=upTo br i) (y:=e) (by rw[Zy];lia) (by lia)];have el:((lV (Yk wo f0 e0)).drop (upTo br i)).take (e-upTo br i)=((((Yk wo f0 e0).drop (upTo br i)).take c).map fun(n:Nat)=>(n:Int)).map V.int:=by
    unfold lV;rw[<- List.map_drop,<- List.map_take,List.map_map,show e-upTo br i=c by lia];rfl
   rw[el];have k8:Kp [] H7 (upd H7 p8 (HO.lst (((((Yk wo f0 e0).drop (upTo br i)).take c).map fun(n:Nat)=>(n:Int)).map V.int))):=Kp.new hp8;refine ex2 p8 _ ⟨rfl,.inl (.inl Zd),?_⟩;generalize upd H7 p8 (HO.lst (((((Yk wo f0 e0).drop (upTo br i)).take c).map fun(n:Nat)=>(n:Int)).map V.int))=H8 at *;have hus8:H8 p4=some (.lst us):=k8.z hus;refine ex1 _ (⟨.inl ⟨rfl,_,.inl (.inl hus8)⟩,fun x dx hx hdx hxd=>?_⟩);have ef:(f0:Int)+(e:Int)=((f0+e:Nat):Int):=by lia
   have ef2:(f0:Int)+(upTo br i:Nat)=((f0+upTo br i:Nat):Int):=by lia
   have d1:decide (((upTo br i:Nat):Int)=0)=(if i=0 then true else false):=by
    by_cases z:i=0
    ·subst z;simp[upTo]
    ·rw[if_neg z];exact decide_eq_false (by lia)
   have d2:decide (((f0+e:Nat):Int)=(e0:Int))=decide (i+1=br.length):=decide_eq_decide.mpr (by
    rw[<- hga];lia)
   have htk:V9 wo ⟨f0+upTo br i,c,(if i=0 then true else false),decide (i+1=br.length)⟩=(((Yk wo f0 e0).drop (upTo br i)).take c).sum+(c-1):=by
    unfold V9 VhPage.takes;rw[ZhA wo f0 e0 (upTo br i) c _ _ (by lia),y0h,y0i,hpl,show min c (e0-f0-upTo br i)=c by lia]
   rw[ef,ef2,ZdI,d1,d2];have et:(((((Yk wo f0 e0).drop (upTo br i)).take c).sum:Nat):Int)+(e:Int)-(upTo br i:Nat)-1=((V9 wo ⟨f0+upTo br i,c,(if i=0 then true else false),decide (i+1=br.length)⟩:Nat):Int):=by
    rw[htk];lia
   rw[et];have x4:p4≠x:=Zf hus8 hx;have dx4:p4≠dx:=Zf hus8 hdx;have k78:=k7.trans k8;have hx0:H x=none:=k78.free (by simp) hx;refine ex7 x dx (f0+upTo br i) (f0+e) _ _ _ ⟨rfl,Zd,rfl,us,?_,?_,?_⟩
   ·rw[WP,Zk x4,Zk dx4];exact hus8
   ·have:=Paired.length hP;rw[y0h,VY] at this;have hz:sizeLine=16777216:=by decide
    lia
   ·rw[WP];generalize hN:HO.ins a.CL dx (lnf (f0+upTo br i) (f0+e) (if i=0 then true else false) (decide (i+1=br.length)) (V9 wo ⟨f0+upTo br i,c,(if i=0 then true else false),decide (i+1=br.length)⟩) .non)=N;have hk:Kp [] H8 (upd (upd H8 dx (HO.own x)) x N):=fun b o hb' _=>by
     rw[Zk (Zf hb' hx),Zk (Zf hb' hdx)];exact hb'
    have hxl:upd (upd H8 dx (HO.own x)) x N x=some N:=Zd;generalize upd (upd H8 dx (HO.own x)) x N=H9 at *;rw[hPv];refine ex2 _ _ ⟨by rw[he2],(k78.trans hk).put2 (.inr hp0),(k7'.trans ((k8.trans hk).mono (by simp))).put2 (.inl (by simp)),us++[V.ref x],Zd,?_,?_⟩
    ·rw[ZD (Za8 br f0 true i c hc)];refine Paired.snoc (Paired.mono (fun y v z=>?_) hP) ⟨⟨x,dx,rfl,?_⟩,fun l z=>by cases z;exact hx0⟩
     ·walk_at "fp";obtain⟨⟨l,d,e1,e2⟩,nl⟩:=z;walk_at "fq";exact⟨⟨l,d,e1,by rw[Zk (fun z=>by rw[z,hus] at e2;cases e2)];exact hk _ _ (k8.z e2) (by simp)⟩,nl⟩
     ·rw[Zk (Ne.symm x4),hxl,<- hN];have e3:f0+upTo br i+c=f0+e:=by lia
      simp only[e3]
    ·rw[List.nodup_append];refine⟨hnd,by simp,fun b hb' y hy=>?_⟩;have ey:y=V.ref x:=by simpa using hy
     subst ey;intro z;subst z;obtain⟨j,hj⟩:=List.mem_iff_getElem?.mp hb';walk_at "fp";obtain⟨y,_,⟨l,d,e1,e2⟩,_⟩:=Paired.get hP hj;walk_at "fq";cases e1;rw[k8.z e2] at hx;cases hx
  ·intro σ H7 hw';rw[hPv] at hw';walk_at "fp";refine el2 hw' fun o o2 zq=>?_
   clear hw';obtain⟨rfl,k7,k7',us,hus,hP,hnd⟩:=zq;walk_at "fq";rw[Zy,WQ,y0e (by rw[VY];exact y0r _)] at hP;walk_at "rd";exact q H7 p4 us hp0 k7 hus hP hnd
noncomputable def Yp (wo:Work)(es:List VhPage.Entry)(k:Nat):List (List Nat):=(es.filter fun e=>lineOf (lnl wo) e.first==k).flatMap fun e=>keyL wo.paras.flatten ((laid wo).line k).first (((laid wo).line k).first+((laid wo).line k).count) e.first e.count::e.toks
noncomputable def ZN (wo:Work)(k:Nat):List (List Nat):=Yp wo wo.entries k
theorem ZfU (wo:Work)(es:List VhPage.Entry){k:Nat}(e:VhPage.Entry)(h:lineOf (lnl wo) e.first=k):Yp wo (es++[e]) k=Yp wo es k++(keyL wo.paras.flatten ((laid wo).line k).first (((laid wo).line k).first+((laid wo).line k).count) e.first e.count::e.toks):=by
 unfold Yp;rw[List.filter_append,List.flatMap_append];simp[h]
theorem Zii (wo:Work)(es:List VhPage.Entry){k:Nat}(e:VhPage.Entry)(h:lineOf (lnl wo) e.first≠k):Yp wo (es++[e]) k=Yp wo es k:=by
 unfold Yp;rw[List.filter_append,List.flatMap_append];simp[h]
theorem Zka (wo:Work)(k:Nat)(e:VhPage.Entry):(laid wo).key k e=keyL wo.paras.flatten ((laid wo).line k).first (((laid wo).line k).first+((laid wo).line k).count) e.first e.count:=by
 have hs:(laid wo).words.size=wo.paras.flatten.length:=by rw[Zdl];simp
 unfold VhPage.Laid.key keyL VhPage.Laid.which Vl ZeQ VhPage.Line.spots;simp only[hs,Ub,Nat.add_sub_cancel_left]
theorem Zc3 (wo:Work)(k:Nat):ZN wo k=[]↔(wo.entries.filter fun e=>lineOf (lnl wo) e.first==k)=[]:=by
 unfold ZN Yp;constructor
 ·intro h;cases z:(wo.entries.filter fun e=>lineOf (lnl wo) e.first==k) with
  | nil=>rfl
  | cons e es=>rw[z] at h;simp at h
 ·intro h;rw[h];rfl
theorem Zci (wo:Work){k:Nat}(hk:k<(lnl wo).length)(n:Nat):(laid wo).note k n=if ZN wo k=[] then[] else(35::VhPage.num10 n)::ZN wo k:=by
 unfold VhPage.Laid.note;simp only[];rw[Xr wo hk];by_cases h:ZN wo k=[]
 ·rw[if_pos h,(Zc3 wo k).mp h];rfl
 ·rw[if_neg h,if_neg (by rw[List.isEmpty_iff];exact fun z=>h ((Zc3 wo k).mpr z))];congr 1;unfold ZN Yp;congr 1;funext e;rw[Zka]
theorem ZjO (wo:Work){k:Nat}(hk:k<(lnl wo).length)(i:Nat):ownN (laid wo) i k=if ZN wo k=[] then 0 else(Zfp wo (ZN wo k) ((laid wo).numberOf i k)).length:=by
 unfold ownN VhPage.Laid.footOf;simp only[];rw[Zhl,Zci wo hk,Y3];split
 ·rfl
 ·rfl
theorem Zak (wo:Work):∀(es:List VhPage.Entry) (k:Nat),(Yp wo es k).length<=(es.map fun e=>e.toks.length+2).sum
 | [],k=>y0r _
 | e::es,k=>by
  have ih:=Zak wo es k;unfold Yp at *;rw[List.filter_cons,y05,y06];split
  ·rw[y0m,y01,y02];lia
  ·lia
theorem ZlC (wds:List (List Nat))(h5:∀x∈wds,x.length<=64)(lf le f m:Nat)(h:le-lf<=8192)(hm:m<=8192):(keyL wds lf le f m).length<=1000:=by
 have w1:=Zc2 h5 f;have w2:=Zev wds lf le f h;have w3:=Zc2 h5 (f+m-1);have w4:=YI (n:=m) (k:=5) (by decide) (by lia);unfold keyL;have h1:(if m=0 then[43] else[]:List Nat).length<=1:=by split <;> simp
 have h2:(if f<wds.length then wds.getD f []++Vl wds lf le f else[]).length<=70:=by
  split
  ·rw[y01];lia
  ·simp
 have h3:(if 2<=m then 126::(VhPage.num10 m++126::wds.getD (f+m-1) []) else[]).length<=100:=by
  split
  ·simp only[y01,y02];lia
  ·simp
 simp only[y01,y02,y04];lia
theorem Zco {wo:Work}(ok:WOk wo){k:Nat}{x:VhPage.Line}(h:(lnl wo)[k]?=some x):1<=x.count/\x.first+x.count<=wo.paras.flatten.length:=by
 have:=Wa (Ym ok) h;lia
theorem Zey {wo:Work}(ok:WOk wo){k:Nat}(hk:k<(lnl wo).length):∀t∈ZN wo k,t.length<=1048576:=by
 intro t ht;unfold ZN Yp at ht;obtain⟨e,he,ht⟩:=List.mem_flatMap.mp ht;have he:=(List.mem_filter.mp he).1;have:=ok.ent e he;have hz:=ok.size;have hx:(lnl wo)[k]?=some (lnl wo)[k]:=y09 hk;have hb:=Zco ok hx;rcases y0b.mp ht with rfl | ht
 ·rw[X8 wo hx];refine y0q (ZlC _ (fun x hx=>?_) _ _ _ _ (by lia) (by lia)) (by decide);obtain⟨q,hq,hx⟩:=List.mem_flatten.mp hx;exact((ok.para q hq).2 x hx).2.1
 ·exact y0q (this.2.2.2 t ht).2.1 (by decide)
theorem ZbH {wo:Work}(ok:WOk wo):∀x∈wo.paras.flatten,x.length<=64:=fun x hx=>by
 obtain⟨q,hq,hx⟩:=List.mem_flatten.mp hx;exact((ok.para q hq).2 x hx).2.1
theorem Zko {wo:Work}(ok:WOk wo)(he:wo.entries≠[]):0<(lnl wo).length:=by
 obtain⟨e,es,h⟩:∃e es,wo.entries=e::es:=by
  cases z:wo.entries with
  | nil=>exact absurd z he
  | cons e es=>exact⟨e,es,rfl⟩
 have:=(ok.ent e (by rw[h];simp)).2.1;have hc:=Ym ok;cases z:lnl wo with
 | nil=>rw[z] at hc;have:0=wo.paras.flatten.length:=hc;lia
 | cons x l=>simp
theorem Zij {t:TT}{σ:L2.St}{H:Hp}{Q:Bool->Hp->Prop}(b:Bool)(h:∀Q:Bool->Hp->Prop,Q b H->t σ H Q)(q:Q b H):t σ H Q:=h Q q
theorem Va {p q:Nat}{f:Str}{σ:L2.St}{H:Hp}{Q:VK}{ll l C d:Addr}{us:List V}{fs:List (Str×V)}{j:Nat}{v:V}(h1:σ[p]?=some (some (.ref ll)))(h2:σ[q]?=some (some (.int (j:Int))))(h3:H ll=some (.lst us))(h4:us[j]?=some (.ref l))(h5:H l=some (.ins C d fs))(c:Cls K C)(n:ZC K C f)(h6:fs.lookup f=some v)(hq:Q v H):tFld K (tOp (rIxL K) (tVar p) (tVar q)) f σ H Q :=
 ⟨_,h1,_,h2,YJ h3 h4 ⟨l,C,d,fs,v,rfl,h5,c,n,h6,hq⟩⟩
def ThAt (H H':Hp)(gs:List Addr)(wo:Work)(es:List VhPage.Entry):Prop:=∀k g,gs[k]?=some g->∃ts,H' g=some (.lst ts)/\Paired (fun y v=>LI H' y v/\∀g'∈gs,v≠.ref g') (Yp wo es k) ts
def ZkX (a:Ad)(H:Hp)(wo:Work)(ll:Addr)(us:List V):Prop:=H ll=some (.lst us)/\Paired (Zjs a H wo) (lnl wo) us
def Wf (K:Frag)(a:Ad):Sp:=fun vs H Q _=>∃(wk ll:Addr) (wo:Work) (hb:List UInt8) (us:List V),vs=[.ref wk,.ref ll]/\WkR a H wk wo hb/\WOk wo/\ZkX a H wo ll us /\
 ∀H' p (gs:List Addr),H p=none->Kp [] H H'->H' p=some (.lst (gs.map V.ref))->gs.length=(lnl wo).length->(∀k g,gs[k]?=some g->Yb H' g (ZN wo k))->Q (.ref p) H'
noncomputable abbrev Yd:Stmt:=top 33
theorem Wk:Zm ["work","lines","things","line","at","entry"] ["work","lines"] (Zh Yd):=by walk_at "sc"
theorem Uy:Jv ["work","lines","things","line","at","entry"] (Zh Yd) (lcSc (Zbl (stI (ZI Yd) 0))) [("line",3)]:=by walk_at "bk"
theorem J0 {f:Addr}{fd:FuncData}(F:Fun K "things_of_notes" "things_of_notes" Yd f fd)(T:Txt K mg a)(c_key_of:FnC P w K mg base CX0 2 "key_of" ["words","line_first","line_end","f","m"] (ZeJ K a)):FnOk P w K mg base CX0 3 f fd ["work","lines"] (Wf K a):=by
 refine F.ok Wk (by walk_at "ln") (fun cdv A outer s H vs Q E hr h=>?_);refine el5 h fun wk ll wo hb us zq=>?_
 clear h;obtain⟨rfl,hw,ok,hL,q⟩:=zq;have nd:=Wk.nd;refine⟨_,(Zb (JV (i:=2) rfl nd rfl rfl (ZbN rfl rfl rfl rfl) (Xz (pv 1)) Uy (fun _ _ _ _ _=>(ZK (i:=3) nd rfl (Or.inl rfl))) (fun _ _ _ _ _=>WB) (fun _ _ _ _ _=>(ZW Zc))) (Zb (Zl (i:=4) nd rfl (Or.inl rfl) Zg) (Zb (Y7 PassesOwn.never rfl (Xz (Zq (pv 0) rfl)) (ZK (i:=5) nd rfl (Or.inl rfl)) (Zb (Yg PassesOwn.never (PW.pt (YV (Zn Xp (pv 4) (Zw Z6 (Zp Zj rfl T.len y13 (Za (pv 1) Zc)) Zg) (Zs _)) (YQ (Zn Zlm (ZE Yl (pv 5) Zg (fun _ _=>rfl)) (Zq (ZE ZA (pv 1) (pv 4) (fun _ _=>rfl)) rfl) (Zs _))))) (Ze (JW (i:=4) nd rfl (Or.inl rfl) Zg Zbg))) (Zb (Zr (Yj y0y y11 y12 ZZ (ZE ZA (pv 2) (pv 4) (fun _ _=>rfl)) (Za (Zi c_key_of hr Zu (Za (Zq (pv 0) rfl) (Za (Zq (ZE ZA (pv 1) (pv 4) (fun _ _=>rfl)) rfl) (Za (Zq (ZE ZA (pv 1) (pv 4) (fun _ _=>rfl)) rfl) (Za (ZE Yl (pv 5) Zg (fun _ _=>rfl)) (Za (ZE Yl (pv 5) Zg (fun _ _=>rfl)) Zc)))))) Zc))) (Ze (Zr (Yj y0y y0z y10 ZG (ZE ZA (pv 2) (pv 4) (fun _ _=>rfl)) (Za (ZE Yl (pv 5) Zg (fun _ _=>rfl)) Zc))))))) (Ze (Zo (pv 2)))))),?_⟩;have hw0:=hw;walk_at "fp";refine el12 hw.1.ex fun dw aR aH aP aW aS aE rs ps ws gs0 es zq=>?_
 obtain⟨hWk0,h2,h3,h4,h5,h6,h7,h8,h9,h10,h11,h12,h13⟩:=zq;obtain⟨_,rok,hl⟩:=hw;walk_at "fq";have hlu:=Paired.length hL.2;have hn8:=ok.size;have hll:=X7 ok;have hz:sizeLine=16777216:=by decide
 refine⟨_,rfl,ll,rfl,⟨_,.inl (.inl hL.1)⟩,fun D hD=>?_⟩;obtain⟨Pv,hPv⟩:∃Pv:Nat->Hp->Prop,Pv=fun i H'=>∃gs:List Addr,gs.length=i/\H' D=some (.lst (gs.map V.ref))/\Kp [] H H'/\(∀g∈gs,H g=none/\H' g=some (.lst [])/\g≠D)/\gs.Nodup:=⟨_,rfl⟩
 refine Zcq (xs:=us) Pv ?_ ?_ ?_ ?_
 ·rw[hPv];exact⟨[],rfl,Zd,Kp.new hD,fun g hg=>absurd hg (by simp),List.nodup_nil⟩
 ·intro i H' _ hw;rw[hPv] at hw;walk_at "fp";obtain⟨gs,_,_,k,_⟩:=hw;walk_at "fq";exact .inl (.inl (k.z hL.1))
 ·intro i x H2 hi hw;rw[hPv] at hw;walk_at "fp";obtain⟨gs,hg1,hg2,k,hg3,hg4⟩:=hw;walk_at "fq";refine⟨rfl,?_⟩;simp only[tYes];walk_at "rd";refine⟨y0u _,fun g hg=>?_⟩;have gD:D≠g:=Zf hg2 hg;refine⟨gs.map V.ref,Zx gD hg2,?_,?_⟩
  ·have:=(y0a.mp hi).1;rw[y03];lia
  rw[hPv];have hg0:H g=none:=k.free (by simp) hg;refine⟨gs++[g],by simp[hg1],by rw[Zd];simp,(k.trans (Kp.new hg)).put2 (.inr hD),fun c hc=>?_,?_⟩
  ·rcases y0d.mp hc with h | h
   ·walk_at "fp";obtain⟨h1,h2,h3⟩:=hg3 c h;walk_at "fq";exact⟨h1,by rw[Zk h3,Zk (Zf h2 hg)];exact h2,h3⟩
   ·have e:c=g:=by simpa using h
    subst e;exact⟨hg0,by rw[Zk (Ne.symm gD),Zd],Ne.symm gD⟩
  ·rw[List.nodup_append];refine⟨hg4,by simp,fun b hb c hc=>?_⟩;have e:c=g:=by simpa using hc
   subst e;exact Zf (hg3 b hb).2.1 hg
 ·intro H2 hw;rw[hPv] at hw;walk_at "fp";obtain⟨gs,hg1,hg2,k2,hg3,hg4⟩:=hw;walk_at "fq";clear hPv Pv;have hWk:=k2.z hWk0;have hWk2:=hWk;have hR:=hWk;have hR2:=hWk;have hE2:=k2.z h12;walk_at "wk";obtain⟨Pv,hPv⟩:∃Pv:WT,Pv=fun i σ H'=>∃(A:Nat) (o:Option V),σ=[some (.ref wk),some (.ref ll),some (.ref D),none,some (.int (A:Int)),o]/\Kp [] H H'/\H' D=some (.lst (gs.map V.ref))/\ThAt H H' gs wo (wo.entries.take i)/\(A=0\/A<(lnl wo).length)/\∀t x,t<A->(lnl wo)[t]?=some x->∀e∈wo.entries.drop i,x.first+x.count<=e.first:=⟨_,rfl⟩
  refine⟨_,rfl,ex5 wk a.CW dw _ _ ⟨ rfl,hWk,T.clWork,T.n_entries,Uo wo.set aR aH aP aW aS aE,aE,rfl,⟨_,.inl (.inl hE2)⟩,W9 (xs:=es) Pv ?_ ?_ ?_ ?_⟩⟩
  ·rw[hPv];exact ex2 0 none ⟨rfl,k2,hg2,fun j g hg=>⟨[],(hg3 g (y0f hg)).2.1,.nil⟩,.inl rfl,fun t x ht=>by lia⟩
  ·intro i σ H' _ hw';rw[hPv] at hw';walk_at "fp";refine el2 hw' fun A o zq=>?_
   clear hw';obtain⟨rfl,k,_⟩:=zq;walk_at "fq";exact .inl (.inl (k.z h12))
  ·intro i v σ H3 hi hw';rw[hPv] at hw';walk_at "fp";refine el2 hw' fun A o zq=>?_
   clear hw';obtain⟨rfl,k3,hD3,hT3,hA,hB⟩:=zq;walk_at "fq";walk_at "fp";obtain⟨en,hen,t,tl,tv,rfl,ht,htl,htv⟩:=Paired.get h13 hi;walk_at "fq";have hmem:en∈wo.entries:=y0f hen;have hne:0<(lnl wo).length:=Zko ok (fun z=>by rw[z] at hmem;simp at hmem);have hdr:wo.entries.drop i=en::wo.entries.drop (i+1):=by
    obtain⟨hx,ex⟩:=y0a.mp hen;rw[List.drop_eq_getElem_cons hx,ex]
   walk_at "rd";have hB0:∀t x,t<A->(lnl wo)[t]?=some x->x.first+x.count<=en.first:=fun t x h1 h2=>hB t x h1 h2 en (by rw[hdr];simp)
   obtain⟨W,hW⟩:∃W:WT,W=fun m σ H'=>H'=H3/\∃(A':Nat),σ=[some (.ref wk),some (.ref ll),some (.ref D),none,some (.int (A':Int)),some (.ref t)]/\m=(lnl wo).length-A'/\A' < (lnl wo).length/\∀t x,t<A'->(lnl wo)[t]?=some x->x.first+x.count<=en.first:=⟨_,rfl⟩
   refine⟨W,⟨_,by rw[hW];exact⟨rfl,A,rfl,rfl,by lia,hB0⟩⟩,fun m σ H4 hw4=>?_⟩;rw[hW] at hw4;walk_at "fp";obtain⟨rfl,A',rfl,rfl,hA',hB'⟩:=hw4;walk_at "fq";obtain⟨x,hx⟩:∃x,(lnl wo)[A']?=some x:=⟨_,y09 hA'⟩
   walk_at "fp";obtain⟨v,hv,l,d,rfl,hl0⟩:=Paired.get2 hL.2 hx;walk_at "fq";have hl4:=k3.z hl0;have hL4:=k3.z hL.1;have ht4:=k3.z ht;refine Zij (t:=tAnd _ _) (decide (A'+1<(lnl wo).length/\x.first+x.count<=en.first)) (fun Q0 hQ=>?_) ?_
   ·walk_at "rd";refine⟨_,.inl (.inl (.inl hL4)),?_⟩;rw[<- hlu];by_cases hn1:A'+1<(lnl wo).length
    ·rw[if_pos (by lia)];refine Y4 0 ht4 rfl (Va rfl rfl hL4 hv hl4 T.clLine T.nL_end (Zed _ _ _ _ _ _) ⟨_,rfl,_,rfl,?_⟩);have e1:decide (((x.first+x.count:Nat):Int)<=(en.first:Int))=decide (A'+1<(lnl wo).length/\x.first+x.count<=en.first):=decide_eq_decide.mpr (by lia);rw[e1];exact hQ
    ·rw[if_neg (by lia)];have e1:decide (A'+1<(lnl wo).length/\x.first+x.count<=en.first)=false:=decide_eq_false (by lia);rw[e1] at hQ;exact hQ
   ·by_cases hd:A'+1<(lnl wo).length/\x.first+x.count<=en.first
    ·rw[if_pos (by simpa using hd)];refine⟨fun σ' H'=>∃m',m' < (lnl wo).length-A'/\W m' σ' H',fun _ _ z=>z,?_⟩;walk_at "rd";refine⟨(lnl wo).length-(A'+1),by lia,?_⟩;rw[hW];refine⟨rfl,A'+1,rfl,rfl,by lia,fun t y ht hy=>?_⟩;by_cases z:t=A'
     ·subst z;rw[hx] at hy;cases hy;exact hd.2
     ·exact hB' t y (by lia) hy
    ·rw[if_neg (by simpa using hd)];have hlo:lineOf (lnl wo) en.first=A':=Zfg (lnl wo) 0 _ A' (Ym ok) (y0u _) hA' hB' (by
      by_cases z:A'+1=(lnl wo).length
      ·exact .inl z
      ·exact .inr ⟨x,hx,by lia⟩)
     have hxb:=Zco ok hx;have hxl:=X8 wo hx;have hoe:=ok.ent en hmem;have hcg:=Wa (Ym ok) hx;obtain⟨g,hg⟩:∃g,gs[A']?=some g:=⟨_,y09 (by lia)⟩
     have hgm:g∈gs:=y0f hg;walk_at "fp";obtain⟨ts,hts,hPts⟩:=hT3 A' g hg;walk_at "fq";have hW4:=k3.z h7;have hwk4:=k3.z hWk0;have hxf:x.first<=en.first:=by
      cases A' with
      | zero=>rw[Zdx (Ym ok) hx];lia
      | succ B' =>
       have hy:(lnl wo)[B']?=some (lnl wo)[B']:=y09 (by lia);rw[Zdz (Ym ok) hy hx];exact hB' B' _ (by lia) hy
     have hxe:en.first<wo.paras.flatten.length->en.first<x.first+x.count:=fun hf=>by
      by_cases z:A'+1=(lnl wo).length
      ·rw[ZdA (Ym ok) hx z];exact hf
      ·lia
     have htl2:ts.length<=73728:=by
      rw[<- Paired.length hPts];refine y0q (Zak wo _ _) (y0q ?_ (ZfS ok));have:=List.take_append_drop i wo.entries;have e2:((wo.entries.take i++wo.entries.drop i).map fun e=>e.toks.length+2).sum=(wo.entries.map fun e=>e.toks.length+2).sum:=by rw[this]
      rw[y07,y0o] at e2;lia
     walk_at "fp";obtain⟨hgn,_,hgD⟩:=hg3 g hgm;walk_at "fq";walk_at "rd";refine YJ (v:=V.ref g) hD3 (j:=A') (by rw[y0l,hg];rfl) ⟨.inl ⟨rfl,_,.inl (.inl hts)⟩,?_⟩;refine⟨_,rfl,ex5 wk a.CW dw _ _ ⟨ rfl,hwk4,T.clWork,T.n_words,Jw wo.set aR aH aP aW aS aE,?_⟩⟩;refine Va rfl rfl hL4 hv hl4 T.clLine T.nL_first (Zcl _ _ _ _ _ _) ?_;refine Va rfl rfl hL4 hv hl4 T.clLine T.nL_end (Zed _ _ _ _ _ _) ?_;refine Y4 0 ht4 rfl (Y4 1 ht4 rfl ?_);refine ex6 aW wo.paras.flatten x.first (x.first+x.count) en.first en.count ⟨rfl,Yb.keep ⟨ws,h7,h8⟩ k3,hoe.1,fun hf=>⟨hxf,hxe hf⟩,hxb.2,hn8,ZbH ok,fun H5 p5 hp5 k5 hl5=>?_⟩;have k35:=k3.trans k5;have hts5:=k5.z hts;have p5g:p5≠g:=fun z=>by rw[z,hts] at hp5;cases hp5
     refine ex1 g (⟨ts,hts5,by lia,?_⟩);have tg:t≠g:=Zf ht hgn;have tlg:tl≠g:=Zf htl hgn;have htvl:=Paired.length htv;refine YJ (v:=V.ref g) (p:=D) (xs:=gs.map V.ref) (j:=A') (Zx (Ne.symm hgD) (k5.z hD3)) (by rw[y0l,hg];rfl) ⟨.inl ⟨rfl,_,.inl (.inl Zd)⟩,?_⟩;refine Y4 2 (Zx tg (k35.z ht)) rfl ⟨g,rfl,tl,rfl,_,Zd,tv,Zx tlg (k35.z htl),by simp only[y01,y02,y04];lia,?_⟩;rw[WP,hPv];have kF:Kp [] H (upd H5 g (HO.lst (ts++[V.ref p5]++tv))):=k35.put2 (.inr hgn);have up:∀b o,H5 b=some o->b≠g->upd H5 g (HO.lst (ts++[V.ref p5]++tv)) b=some o:=fun b o e n1=>Zx n1 e
     have keepL:∀(y:List Nat) (v:V),(LI H4 y v/\∀g'∈gs,v≠.ref g')->LI (upd H5 g (HO.lst (ts++[V.ref p5]++tv))) y v/\∀g'∈gs,v≠.ref g':=by
      rintro y v ⟨⟨b,rfl,hb⟩,nb⟩;exact⟨⟨b,rfl,up _ _ (k5.z hb) (fun z=>nb g hgm (by rw[z]))⟩,nb⟩
     refine ex2 A' _ ⟨rfl,kF,up _ _ (k5.z hD3) (Ne.symm hgD),?_,.inr hA',?_⟩
     ·intro k' g' hg';have hgm':g'∈gs:=y0f hg';walk_at "fp";obtain⟨ts',hts',hP'⟩:=hT3 k' g' hg';walk_at "fq";rw[ZD hen];by_cases hk:k'=A'
      ·subst hk;have e:g'=g:=Option.some.inj (hg'.symm.trans hg);subst e;refine⟨ts++[.ref p5]++tv,Zd,?_⟩;rw[ZfU wo _ en hlo,hxl,List.append_cons (Yp wo (wo.entries.take i) k')];refine Paired.app (Paired.snoc (Paired.mono keepL hPts) ⟨⟨p5,rfl,up _ _ hl5 p5g⟩,fun g2 hg2 z=>?_⟩) (Paired.mono (fun y v z=>?_) htv)
       ·obtain⟨i2,hi2⟩:=List.getElem?_of_mem hg2;walk_at "fp";obtain⟨t2,ht2,_⟩:=hT3 i2 g2 hi2;walk_at "fq";have z:p5=g2:=V.ref.inj z;rw[z,ht2] at hp5;cases hp5
       ·walk_at "fp";obtain⟨b,rfl,hb⟩:=z;walk_at "fq";refine⟨⟨b,rfl,up _ _ (k35.z hb) (Zf hb hgn)⟩,fun g2 hg2 z=>?_⟩;have z:b=g2:=V.ref.inj z;rw[z,(hg3 g2 hg2).1] at hb;cases hb
      ·have ne:g'≠g:=fun z=>hk (Zlr hg4 hg' (by rw[z];exact hg))
       refine⟨ts',up _ _ (k5.z hts') ne,?_⟩;rw[Zii wo _ en (by rw[hlo];exact Ne.symm hk)];exact Paired.mono keepL hP'
     ·intro t' y ht' hy e he;have h1:=hB' t' y ht' hy;have h2:(wo.entries.drop i).Pairwise (fun x y=>x.first<=y.first):=List.Pairwise.sublist (List.drop_sublist i _) ok.rise;rw[hdr,List.pairwise_cons] at h2;have:=h2.1 e he;lia
  ·intro σ H3 hw';rw[hPv] at hw';walk_at "fp";refine el2 hw' fun A o zq=>?_
   clear hw';obtain⟨rfl,k3,hD3,hT3,hA,hB⟩:=zq;walk_at "fq";walk_at "rd";refine q H3 D gs hD k3 hD3 (by lia) fun j g hg=>?_
   walk_at "fp";obtain⟨ts,t1,t2⟩:=hT3 j g hg;walk_at "fq";rw[y0e (by rw[Paired.length h13];exact y0r _)] at t2;exact⟨ts,t1,Paired.mono (fun x v z=>z.1) t2⟩
def Zh9 (a:Ad)(H:Hp)(wo:Work)(k:Nat)(v:V):Prop:=(ZN wo k=[]/\v=.non)\/(ZN wo k≠[]/\∃nt,v=.ref nt/\UT a H nt wo (ZN wo k))
def ZgD (a:Ad)(H:Hp)(ll:Addr)(wo:Work):Prop:=∃us,H ll=some (.lst us)/\us.length=(lnl wo).length/\∀k x,(lnl wo)[k]?=some x->∃l d nv,us[k]?=some (V.ref l)/\H l=some (.ins a.CL d (lnf x.first (x.first+x.count) x.begins x.ends (V9 wo x) nv))/\Zh9 a H wo k nv
theorem Zh9.keep {H H':Hp}{wo:Work}{k:Nat}{v:V}(h:Zh9 a H wo k v)(kp:Kp [] H H'):Zh9 a H' wo k v:=by
 rcases h with h | ⟨h1,nt,e,h2⟩
 ·exact .inl h
 ·exact .inr ⟨h1,nt,e,h2.keep kp⟩
theorem UR (s:Settings)(q:List Vh.Letters):∀(ps:List (List Vh.Letters)) (b:Nat) (t:List Nat),linesFrom s b t (ps++[q])=linesFrom s b t ps++rowLines (b+ps.flatten.length) true (broken (s.width-s.indent) s.width ((t.drop ps.flatten.length).take q.length))
 | [],b,t=>by simp[linesFrom]
 | p::ps,b,t=>by
  rw[List.cons_append,linesFrom,UR s q ps,linesFrom,y0j,List.drop_drop,List.flatten_cons,y01,Nat.add_assoc]
theorem ZeI:∀(ps:List (List Vh.Letters)) (b i:Nat) (q:List Vh.Letters),ps[i]?=some q->(JC b ps)[i]?=some (b+(ps.take i).flatten.length,b+(ps.take i).flatten.length+q.length)
 | [],b,i,q,h=>by simp at h
 | p::ps,b,0,q,h=>by simp at h;subst h;simp[JC]
 | p::ps,b,i+1,q,h=>by
  rw[JC,List.getElem?_cons_succ,ZeI ps (b+p.length) i q (by simpa using h),List.take_succ_cons,List.flatten_cons,y01,Nat.add_assoc]
theorem ZiC (wo:Work){f e:Nat}(h:e<=wo.paras.flatten.length):Yk wo f e=((tkl wo).drop f).take (e-f):=by
 apply List.ext_getElem?;intro k;unfold Yk;by_cases hk:k<e-f
 ·rw[List.getElem?_take_of_lt hk,y0l,List.getElem?_range hk,List.getElem?_drop,Zk4 wo (by lia)];rfl
 ·rw[y0p (by rw[y03,List.length_range];lia),y0p (by rw[y0h];lia)]
theorem Zik (ps:List (List Vh.Letters)){i:Nat}{q:List Vh.Letters}(h:ps[i]?=some q):(ps.take i).flatten.length+q.length<=ps.flatten.length:=by
 have e:ps=ps.take i++q::ps.drop (i+1):=by
  obtain⟨hx,ex⟩:=y0a.mp h;have:=List.take_append_drop i ps;rw[List.drop_eq_getElem_cons hx,ex] at this;exact this.symm
 conv=>rhs;rw[e]
 simp only[List.flatten_append,List.flatten_cons,y01];lia
theorem ZkR {C d:Addr}(f e:Nat)(o c:Bool)(t:Nat)(n:V):¬ isWk (.ins C d (lnf f e o c t n)):=fun z=>by
 obtain⟨s,r,h,p,w,g,e',z⟩:=z _ _ _ rfl;have:=congrArg List.length z;rw[ZbJ] at this;cases this
theorem ZjX {C d C' d':Addr}(x y z:Addr)(f e:Nat)(o c:Bool)(t:Nat)(n:V):(HO.ins C d (nf x y z))≠.ins C' d' (lnf f e o c t n):=fun q=>by
 injection q with _ _ q;have:=congrArg List.length q;cases this
def ZbR (K:Frag)(a:Ad):Sp:=fun vs H Q _=>∃(wk:Addr) (wo:Work) (hb:List UInt8),vs=[.ref wk]/\WkR a H wk wo hb/\WOk wo /\
 ∀H' p,H p=none->Kp [] H H'->ZgD a H' p wo->Q (.ref p) H'
noncomputable abbrev Zaq:Stmt:=top 34
theorem ZbY:Zm ["work","lines","paragraph","things","k","line"] ["work"] (Zh Zaq):=by walk_at "sc"
theorem Zgd {f:Addr}{fd:FuncData}(F:Fun K "lines_of" "lines_of" Zaq f fd)(T:Txt K mg a)(c_things_of_notes:FnC P w K mg base CX0 3 "things_of_notes" ["work","lines"] (Wf K a))(c_lines_of_paragraph:FnC P w K mg base CX0 4 "lines_of_paragraph" ["work","first","end"] (Xg K a))(c_Note_init:Zeo P w K mg base CX0 4 a.CN "Note" ["self","work","things"] (ZaU K a)):FnOk P w K mg base CX0 6 f fd ["work"] (ZbR K a):=by
 refine F.ok ZbY (by walk_at "ln") (fun cdv A outer s H vs Q E hr h=>?_);refine el3 h fun wk wo hb zq=>?_
 clear h;obtain⟨rfl,hw,ok,q⟩:=zq;have nd:=ZbY.nd;refine⟨_,(Zb (Zl (i:=1) nd rfl (Or.inl rfl) (ZW Zc)) (Zb (Y7 PassesOwn.never rfl (Xz (Zq (pv 0) rfl)) (ZK (i:=2) nd rfl (Or.inl rfl)) (Ze (Zr (Yj y0y y0z y10 ZG (pv 1) (Za (Zi c_lines_of_paragraph hr Zu (Za (pv 0) (Za (ZE Yl (pv 2) Zg (fun _ _=>rfl)) (Za (ZE Yl (pv 2) Zg (fun _ _=>rfl)) Zc)))) Zc))))) (Zb (Zl (i:=3) nd rfl (Or.inl rfl) (Zi c_things_of_notes hr Zu (Za (pv 0) (Za (pv 1) Zc)))) (Zb (Y7 PassesOwn.never rfl (Zb8 rfl T.range (Za (Zp Zj rfl T.len y13 (Za (pv 1) Zc)) Zc)) (ZK (i:=4) nd rfl (Or.inl rfl)) (Ze (ZV (Zn Jc (Zp Zj rfl T.len y13 (Za (ZE ZA (pv 3) (pv 4) (fun _ _=>rfl)) Zc)) Zg (Zs _)) (Zb (Zl (i:=5) nd rfl (Or.inl rfl) (ZE ZA (pv 1) (pv 4) (fun _ _=>rfl))) (Ze (ZM (pv 5) (W6 c_Note_init hr Zu (Za (pv 0) (Za (ZE ZA (pv 3) (pv 4) (fun _ _=>rfl)) Zc))) rfl))) Zv))) (Ze (Zo (pv 1))))))),?_⟩;have hw0:=hw;walk_at "fp";refine el12 hw.1.ex fun dw aR aH aP aW aS aE rs ps ws gs0 es zq=>?_
 obtain⟨hWk0,h2,h3,h4,h5,h6,h7,h8,h9,h10,h11,h12,h13⟩:=zq;obtain⟨_,rok,hl⟩:=hw;walk_at "fq";have hz:sizeLine=16777216:=by decide
 have hn8:=ok.size;have hll:=X7 ok;have hsb:=YT ok.set;walk_at "rd";refine⟨by decide,fun p hp=>?_⟩;have kp:Kp [] H (upd H p (HO.lst [])):=Kp.new hp;obtain⟨Pv,hPv⟩:∃Pv:WT,Pv=fun i σ H'=>∃o:Option V,σ=[some (.ref wk),some (.ref p),o,none,none,none]/\Kp [] H H'/\∃us,H' p=some (.lst us)/\Paired (fun x v=>Zjs a H' wo x v/\∀l,v=.ref l->H l=none) (linesFrom wo.set 0 (tkl wo) (wo.paras.take i)) us/\us.Nodup:=⟨_,rfl⟩
 refine⟨_,rfl,ex5 wk a.CW dw _ _ ⟨ rfl,kp.z hWk0,T.clWork,T.n_paragraphs,XH wo.set aR aH aP aW aS aE,aP,rfl,⟨_,.inl (.inl (kp.z h5))⟩,W9 (xs:=ps) Pv ?_ ?_ ?_ ?_⟩⟩
 ·rw[hPv];exact⟨none,rfl,kp,[],Zd,.nil,List.nodup_nil⟩
 ·intro i σ H' _ hw';rw[hPv] at hw';walk_at "fp";obtain⟨o,rfl,k,_⟩:=hw';walk_at "fq";exact .inl (.inl (k.z h5))
 ·intro i v σ H3 hi hw';rw[hPv] at hw';walk_at "fp";obtain⟨o,rfl,k3,us,hus,hP3,hnd⟩:=hw';walk_at "fq";walk_at "fp";obtain⟨sp,hsp,t,rfl,ht⟩:=Paired.get h6 hi;walk_at "fq";have hil:i<wo.paras.length:=by
   have:=(y0a.mp hsp).1;rw[JB] at this;exact this
  obtain⟨pq,hpq⟩:∃pq,wo.paras[i]?=some pq:=⟨_,y09 hil⟩
  rw[ZeI _ 0 i pq hpq,Nat.zero_add] at hsp;cases hsp;have hpn:0<pq.length:=List.length_pos_iff.mpr (ok.para pq (y0f hpq)).1;have htf:=Zik wo.paras hpq;have ht3:=k3.z ht;walk_at "rd";refine⟨.inl ⟨rfl,_,.inl (.inl hus)⟩,Y4 0 ht3 rfl (Y4 1 ht3 rfl ?_)⟩;refine ex5 wk wo hb _ _ ⟨rfl,hw0.keep k3,by lia,htf,hn8,ZbH ok,by lia,by lia,fun H4 p4 us4 hp4 k4 hl4 hP4 hn4=>?_⟩;have p4p:p4≠p:=fun z=>by rw[z,hus] at hp4;cases hp4
  have e1:Yk wo (wo.paras.take i).flatten.length ((wo.paras.take i).flatten.length+pq.length)=((tkl wo).drop (wo.paras.take i).flatten.length).take pq.length:=by
   rw[ZiC wo htf,Nat.add_sub_cancel_left]
  rw[e1] at hP4;have e2:=UR wo.set pq (wo.paras.take i) 0 (tkl wo);rw[Nat.zero_add,<- ZD hpq] at e2;have hus4:=k4.z hus;refine ex1 p4 (⟨us,hus4,us4,hl4,?_,?_⟩)
  ·have h1:=Paired.length hP3;have h2:=Paired.length hP4;have h3:(linesFrom wo.set 0 (tkl wo) (wo.paras.take (i+1))).length=us.length+us4.length:=by rw[e2,y01,h1,h2]
   have h4:=Zad (Jr wo.set (wo.paras.take (i+1)) 0 (tkl wo) (fun q hq=>(ok.para q (List.mem_of_mem_take hq)).1) (by
    rw[Zih,ZD hpq,List.flatten_append,y01];simpa using htf))
   rw[ZD hpq,List.flatten_append,y01] at h4;rw[ZD hpq] at h3;have h5:[pq].flatten.length=pq.length:=by simp
   lia
  ·rw[hPv];refine⟨_,rfl,(k3.trans k4).put2 (.inr hp),us++us4,Zd,?_,?_⟩
   ·rw[e2];refine Paired.app (Paired.mono (fun x v z=>?_) hP3) (Paired.mono (fun x v z=>?_) hP4)
    ·walk_at "fp";obtain⟨⟨l,d,e,h⟩,f⟩:=z;walk_at "fq";exact⟨⟨l,d,e,by rw[Zk (fun z=>by rw[z,hus] at h;cases h)];exact k4.z h⟩,f⟩
    ·walk_at "fp";obtain⟨⟨l,d,e,h⟩,f⟩:=z;walk_at "fq";refine⟨⟨l,d,e,by rw[Zk (fun z=>by rw[z,hus4] at h;cases h)];exact h⟩,fun l' e'=>?_⟩;exact k3.free (by simp) (f l' e')
   ·rw[List.nodup_append];refine⟨hnd,hn4,fun b hb y hy z=>?_⟩;subst z;obtain⟨j,hj⟩:=List.mem_iff_getElem?.mp hb;obtain⟨j',hj'⟩:=List.mem_iff_getElem?.mp hy;walk_at "fp";obtain⟨x,_,⟨l,d,e,h⟩,_⟩:=Paired.get hP3 hj;walk_at "fq";walk_at "fp";obtain⟨x',_,_,f⟩:=Paired.get hP4 hj';walk_at "fq";rw[f l e] at h;cases h
 ·intro σ H3 hw';rw[hPv] at hw';walk_at "fp";obtain⟨o,rfl,k3,us,hus,hP3,hnd⟩:=hw';walk_at "fq";have hpl:ps.length=wo.paras.length:=by rw[<- Paired.length h6,JB]
  rw[hpl,y0e (y0r _)] at hP3;have hP3:Paired (fun x v=>Zjs a H3 wo x v/\∀l,v=.ref l->H l=none) (lnl wo) us:=hP3;clear hPv Pv;have hLI:ZkX a H3 wo p us:=⟨hus,Paired.mono (fun x v z=>z.1) hP3⟩;have hul:=Paired.length hP3;walk_at "rd";refine ex5 wk p wo hb us ⟨rfl,hw0.keep k3,ok,hLI,fun H4 tp gs htp k4 htg hgl hgw=>?_⟩;have k34:=k3.trans k4;have tpp:tp≠p:=fun z=>by rw[z,hus] at htp;cases htp
  obtain⟨Pv,hPv⟩:∃Pv:WT,Pv=fun i σ H'=>∃o1 o2:Option V,σ=[some (.ref wk),some (.ref p),o,some (.ref tp),o1,o2]/\Kp [] H H'/\H' p=some (.lst us)/\H' tp=some (.lst (gs.map V.ref))/\(∀k g,gs[k]?=some g->Yb H' g (ZN wo k))/\∀k x,(lnl wo)[k]?=some x->∃l d nv,us[k]?=some (V.ref l)/\H' l=some (.ins a.CL d (lnf x.first (x.first+x.count) x.begins x.ends (V9 wo x) nv))/\H l=none/\(k<i->Zh9 a H' wo k nv)/\(i<=k->nv=.non):=⟨_,rfl⟩
  refine⟨_,rfl,p,rfl,us,.inl (.inl (.inl (k4.z hus))),_,rfl,?_,?_,Ue (n:=us.length) Pv ?_ ?_ ?_⟩
  ·lia
  ·lia
  ·rw[hPv];refine ex2 none none ⟨rfl,k34,k4.z hus,htg,hgw,fun k x hx=>?_⟩;walk_at "fp";obtain⟨v,hv,⟨l,d,rfl,hl⟩,hf⟩:=Paired.get2 hP3 hx;walk_at "fq";exact ex3 l d _ ⟨hv,k4.z hl,hf l rfl,fun z=>by lia,fun _=>rfl⟩
  ·intro i σ H5 hi hw';rw[hPv] at hw';walk_at "fp";refine el2 hw' fun o1 o2 zq=>?_
   clear hw';obtain⟨rfl,k5,hus5,htg5,hgw5,hLn⟩:=zq;walk_at "fq";have ei:(0:Int)+(i:Int)=((i:Nat):Int):=by lia
   rw[ei];obtain⟨x,hx⟩:∃x,(lnl wo)[i]?=some x:=⟨_,y09 (by lia)⟩
   walk_at "fp";obtain⟨l,d,nv,hv,hl5,hl0,_,hnv⟩:=hLn i x hx;walk_at "fq";have hnv:=hnv (y0r _);subst hnv;obtain⟨g,hg⟩:∃g,gs[i]?=some g:=⟨_,y09 (by lia)⟩
   walk_at "fp";obtain⟨tv,htv,hPt⟩:=hgw5 i g hg;walk_at "fq";have htl:=Paired.length hPt;have hwi:=Kp.trans (S:=[]) k5 Kp.refl;walk_at "rd";refine YJ htg5 (v:=V.ref g) (by rw[y0l,hg];rfl) ⟨g,rfl,_,.inl (.inl (.inl htv)),?_⟩;by_cases hts:ZN wo i=[]
   ·rw[if_neg (by rw[<- htl,hts];simp),hPv];refine ex2 _ _ ⟨rfl,k5,hus5,htg5,hgw5,fun k y hy=>?_⟩;walk_at "fp";obtain⟨l',d',nv',a1,a2,a3,a4,a5⟩:=hLn k y hy;walk_at "fq";refine⟨l',d',nv',a1,a2,a3,fun h=>?_,fun h=>a5 (by lia)⟩;by_cases z:k=i
    ·subst z;exact .inl ⟨hts,a5 (y0r _)⟩
    ·exact a4 (by lia)
   ·have hpos:=List.length_pos_iff.mpr hts;rw[if_pos (by lia)];refine YJ hus5 hv ?_;refine⟨_,rfl,_,rfl,_,rfl,YJ htg5 (v:=V.ref g) (by rw[y0l,hg];rfl) ?_⟩;intro nx ndx hnx hndx hnn;have k6:Kp [] H5 (upd (upd H5 ndx (HO.own nx)) nx (HO.ins a.CN ndx [])):=fun c o e _=>by
     rw[Zk (Zf e hnx),Zk (Zf e hndx)];exact e
    have hx6:upd (upd H5 ndx (HO.own nx)) nx (HO.ins a.CN ndx []) nx=some (HO.ins a.CN ndx []):=Zd;generalize upd (upd H5 ndx (HO.own nx)) nx (HO.ins a.CN ndx [])=H6 at *;have tl1:=Zak wo wo.entries i;have tl2:=ZfS ok;refine ex7 nx ndx wk g wo hb (ZN wo i) ⟨rfl,hx6,(hw0.keep k5).keep k6,by lia,Yb.keep ⟨tv,htv,hPt⟩ k6,y0q tl1 (by lia),Zey ok (by lia),fun H7 k7 hN7=>⟨rfl,?_⟩⟩;have k57:Kp [] H5 H7:=fun b o e _=>k7 _ _ (k6.z e) (by simp[Zf e hnx])
    have hl7:=k57.z hl5;have lnx:nx≠l:=fun z=>by rw[z,hl5] at hnx;cases hnx
    have pl:p≠l:=WM hus5 hl5 (by intro z;cases z);have tpl:tp≠l:=WM htg5 hl5 (by intro z;cases z);refine⟨_,rfl,ex4 l a.CL d _ ⟨ rfl,hl7,T.clLine,T.nL_note,(show(6:Nat)<1000 by decide),?_⟩⟩;rw[Zlw,hPv];have kwF:KW H5 (upd H7 l (HO.ins a.CL d (lnf x.first (x.first+x.count) x.begins x.ends (V9 wo x) (.ref nx)))):=fun b o e i'=>by
     have bl:b≠l:=fun z=>by
      rw[z,hl5] at e;cases e;exact ZkR _ _ _ _ _ _ i'
     rw[Zk bl];exact k57.z e
    have kw7:KW H7 (upd H7 l (HO.ins a.CL d (lnf x.first (x.first+x.count) x.begins x.ends (V9 wo x) (.ref nx)))):=fun b o e i'=>by
     have bl:b≠l:=fun z=>by
      rw[z,hl7] at e;cases e;exact ZkR _ _ _ _ _ _ i'
     rw[Zk bl];exact e
    refine ex2 _ _ ⟨rfl,(k5.trans k57).put2 (.inr hl0),Zx pl (k57.z hus5),Zx tpl (k57.z htg5),fun k g' hg'=>(hgw5 k g' hg').keepW kwF,fun k y hy=>?_⟩;walk_at "fp";obtain⟨l',d',nv',a1,a2,a3,a4,a5⟩:=hLn k y hy;walk_at "fq";by_cases z:k=i
    ·subst z;rw[hx] at hy;cases hy;refine ex3 l d (.ref nx) ⟨hv,Zd,hl0,fun _=>.inr ⟨hts,nx,rfl,hN7.keepW kw7 (by rw[Zk lnx])⟩,fun h=>by lia⟩
    ·have ll':l'≠l:=fun e=>z (Zlr hnd a1 (by rw[e];exact hv))
     refine⟨l',d',nv',a1,Zx ll' (k57.z a2),a3,fun h=>?_,fun h=>a5 (by lia)⟩;rcases a4 (by lia) with b1 | ⟨b1,nt,b2,b3⟩
     ·exact .inl b1
     ·refine .inr ⟨b1,nt,b2,?_⟩;walk_at "fp";obtain⟨dn,x1,x2,x3,b4,_⟩:=id b3;walk_at "fq";have ntl:nt≠l:=WM b4 hl5 (ZjX _ _ _ _ _ _ _ _ _);exact b3.keepW kwF (by rw[Zk ntl,k57.z b4,b4])
  ·intro σ H5 hw';rw[hPv] at hw';walk_at "fp";refine el2 hw' fun o1 o2 zq=>?_
   clear hw';obtain⟨rfl,k5,hus5,htg5,hgw5,hLn⟩:=zq;walk_at "fq";walk_at "rd";refine q H5 p hp k5 ⟨us,hus5,hul.symm,fun k x hx=>?_⟩;walk_at "fp";obtain⟨l,d,nv,hv,hl5,hl0,hN,_⟩:=hLn k x hx;walk_at "fq";exact ex3 l d nv ⟨hv,hl5,hN (by have:=(y0a.mp hx).1;lia)⟩
noncomputable def pgf (k f e c o r t:Nat):List (Str×V):=[("kind",.int (k:Int)),("first",.int (f:Int)),("end",.int (e:Int)),("came",.int (c:Int)),("own",.int (o:Int)),("rest",.int (r:Int)),("cost",.int (t:Int))]
theorem ZeV (k f e c o r t:Nat):(pgf k f e c o r t).lookup ("first":Str)=some (.int (f:Int)):=by rfl
theorem Zd0 (k f e c o r t:Nat):(pgf k f e c o r t).lookup ("end":Str)=some (.int (e:Int)):=by rfl
theorem ZgU (k f e c o r t:Nat):(pgf k f e c o r t).lookup ("came":Str)=some (.int (c:Int)):=by rfl
theorem ZiA (k f e c o r t:Nat):(pgf k f e c o r t).lookup ("own":Str)=some (.int (o:Int)):=by rfl
theorem ZbB (k f e c o r t:Nat):(pgf k f e c o r t).lookup ("rest":Str)=some (.int (r:Int)):=by rfl
theorem U9 (k f e c o r t n:Nat):putF "came" (.int (n:Int)) (pgf k f e c o r t)=pgf k f e n o r t:=by rfl
theorem Zdg (k f e c o r t n:Nat):putF "own" (.int (n:Int)) (pgf k f e c o r t)=pgf k f e c n r t:=by rfl
theorem Zb9 (k f e c o r t n:Nat):putF "rest" (.int (n:Int)) (pgf k f e c o r t)=pgf k f e c o n t:=by rfl
theorem Zf6 (k f e c o r t n:Nat):putF "cost" (.int (n:Int)) (pgf k f e c o r t)=pgf k f e c o r n:=by rfl
theorem YW (k f e c o r t:Nat):(pgf k f e c o r t).length<1000:=by show(7:Nat)<1000;decide
def ZfL (a:Ad)(H:Hp)(x:Addr)(p:VhPage.Page)(t:Nat):Prop:=∃d,H x=some (.ins a.CP d (pgf (VhG.kindOf p) p.first (p.first+p.lines) p.before p.own p.on.length t))
def Wj (K:Frag)(a:Ad):Sp:=fun vs H Q _=>∃(x dx:Addr) (k f e:Nat),vs=[.ref x,.int (k:Int),.int (f:Int),.int (e:Int)]/\H x=some (.ins a.CP dx [])/\Q .non (upd H x (.ins a.CP dx (pgf k f e 0 0 0 0)))
noncomputable abbrev U4:Stmt:=Yv (top 39) 0
theorem Za5:Zm ["self","kind","first","end"] ["self","kind","first","end"] (Zh U4):=by walk_at "sc"
theorem Zfa {f:Addr}{fd:FuncData}(F:Fun K "__init__" "Page.__init__" U4 f fd)(T:Txt K mg a):FnOk P w K mg base CX0 1 f fd ["self","kind","first","end"] (Wj K a):=by
 refine F.ok Za5 (by walk_at "ln") (fun cdv A outer s H vs Q E hr h=>?_);walk_at "fp";refine el5 h fun x dx k f e zq=>?_
 clear h;obtain⟨rfl,hR,q⟩:=zq;walk_at "fq";have nd:=Za5.nd;refine⟨_,(Zb (ZM (pv 0) (pv 1) rfl) (Zb (ZM (pv 0) (pv 2) rfl) (Zb (ZM (pv 0) (pv 3) rfl) (Zb (ZM (pv 0) Zg rfl) (Zb (ZM (pv 0) Zg rfl) (Zb (ZM (pv 0) Zg rfl) (Ze (ZM (pv 0) Zg rfl)))))))),?_⟩;have hR2:=hR;have hWk:=hR;have hWk2:=hR;walk_at "wk";refine⟨T.clPage,T.nP_kind,(show(0:Nat)<1000 by decide),T.clPage,T.nP_first,(show(1:Nat)<1000 by decide),T.clPage,T.nP_end,(show(2:Nat)<1000 by decide),T.clPage,T.nP_came,(show(3:Nat)<1000 by decide),T.clPage,T.nP_own,(show(4:Nat)<1000 by decide),T.clPage,T.nP_rest,(show(5:Nat)<1000 by decide),T.clPage,T.nP_cost,(show(6:Nat)<1000 by decide),?_⟩;simp only[WP];exact q
def PgR (a:Ad)(H:Hp)(wk ll:Addr)(wo:Work):Prop:=(∃hb,WkR a H wk wo hb)/\WOk wo/\ZgD a H ll wo
theorem PgR.keep {H H':Hp}{wk ll:Addr}{wo:Work}(h:PgR a H wk ll wo)(k:Kp [] H H'):PgR a H' wk ll wo:=by
 obtain⟨⟨hb,h1⟩,h2,us,h3,h4,h5⟩:=h;refine⟨⟨hb,h1.keep k⟩,h2,us,k.z h3,h4,fun j x hx=>?_⟩;obtain⟨l,d,nv,a1,a2,a3⟩:=h5 j x hx;exact⟨l,d,nv,a1,k.z a2,a3.keep k⟩
theorem PgR.get {H:Hp}{wk ll:Addr}{wo:Work}(h:PgR a H wk ll wo){k:Nat}(hk:k<(lnl wo).length):∃us l d nv x,H ll=some (.lst us)/\us.length=(lnl wo).length/\us[k]?=some (V.ref l)/\(lnl wo)[k]?=some x/\(laid wo).line k=x/\H l=some (.ins a.CL d (lnf x.first (x.first+x.count) x.begins x.ends (V9 wo x) nv))/\Zh9 a H wo k nv:=by
 obtain⟨_,_,us,h3,h4,h5⟩:=h;have hx:(lnl wo)[k]?=some (lnl wo)[k]:=y09 hk;obtain⟨l,d,nv,a1,a2,a3⟩:=h5 k _ hx;exact ex5 us l d nv _ ⟨h3,h4,a1,hx,X8 wo hx,a2,a3⟩
theorem PgR.len {H:Hp}{wk ll:Addr}{wo:Work}(h:PgR a H wk ll wo):∃us,H ll=some (.lst us)/\us.length=(lnl wo).length:=by
 obtain⟨_,_,us,h3,h4,_⟩:=h;exact⟨us,h3,h4⟩
theorem Zji {wo:Work}(ok:WOk wo)(c:Nat):Uk wo.widths c<=2:=by
 unfold Uk;split
 ·lia
 ·split
  ·rename_i x hx;exact(ok.row x (List.mem_of_find?_eq_some hx)).2.2.2
  ·lia
theorem Zez {wo:Work}(ok:WOk wo):∀l:List Nat,YH wo.widths l<=2 * l.length
 | []=>y0r _
 | c::l=>by
  have h1:=Zez ok l;have h2:=Zji ok c;unfold YH at *;rw[y05,y06,y02];lia
theorem Zg0 {wo:Work}(ok:WOk wo){n:Nat}(h:n<100000):YH wo.widths (35::VhPage.num10 n)<=wo.set.width:=by
 have h1:=Zez ok (35::VhPage.num10 n);have w4:=YI (n:=n) (k:=5) (by decide) (by lia);have:=YT ok.set;rw[y02] at h1;lia
def Xa (K:Frag)(a:Ad):Sp:=fun vs H Q _=>∃(wk:Addr) (wo:Work) (hb:List UInt8) (k i:Nat),vs=[.ref wk,.int (k:Int),.int (i:Int)]/\WkR a H wk wo hb/\i<=k/\wo.set.anew<=1/\Q (.int ((laid wo).numberOf i k:Nat)) H
noncomputable abbrev Xx:Stmt:=top 40
theorem WG:Zm ["work","k","page_first"] ["work","k","page_first"] (Zh Xx):=by walk_at "sc"
theorem ZaB {f:Addr}{fd:FuncData}(F:Fun K "number_of_line" "number_of_line" Xx f fd)(T:Txt K mg a):FnOk P w K mg base CX0 1 f fd ["work","k","page_first"] (Xa K a):=by
 refine F.ok WG (by walk_at "ln") (fun cdv A outer s H vs Q E hr h=>?_);walk_at "fp";refine el5 h fun wk wo hb k i zq=>?_
 clear h;obtain⟨rfl,hw,hik,hA,q⟩:=zq;walk_at "fq";have nd:=WG.nd;refine⟨_,(Zb (ZV (Zn Wb (Zq (pv 0) rfl) Zg (Zs _)) (Ze (Zo (Zw Z6 (Zw ZS (pv 1) Zg) (pv 2)))) Zv) (Ze (Zo (Zw ZS (pv 1) Zg)))),?_⟩;walk_at "fp";refine el7 (WkR.wk hw) fun dw aR aH aP aW aS aE hWk=>?_
 walk_at "fq";have hWk2:=hWk;have hR:=hWk;have hR2:=hWk;have e0:(laid wo).numberOf i k=if wo.set.anew=0 then k+1 else k-i+1:=rfl
 rw[e0] at q;walk_at "wk";refine ex1 _ (⟨rfl,?_⟩);have ea:(V.int (wo.set.anew:Int)=V.int 1)↔wo.set.anew=1:=⟨fun z=>by injection z with z;lia,fun z=>by rw[z];rfl⟩;by_cases h:wo.set.anew=1
 ·rw[if_pos (ea.mpr h)];rw[if_neg (by lia)] at q;have e1:(k:Int)+1-(i:Int)=((k-i+1:Nat):Int):=by lia
  rw[e1];exact q
 ·rw[if_neg (fun z=>h (ea.mp z))];rw[if_pos (by lia)] at q;exact q
theorem Zbf {wo:Work}(ok:WOk wo){i k:Nat}(hk:k<(lnl wo).length):(laid wo).numberOf i k<100000:=by
 have e0:(laid wo).numberOf i k=if wo.set.anew=0 then k+1 else k-i+1:=rfl
 have:=X7 ok;have:=ok.size;rw[e0];split <;> lia
def Yc (K:Frag)(a:Ad):Sp:=fun vs H Q _=>∃(wk ll:Addr) (wo:Work) (k i:Nat),vs=[.ref wk,.ref ll,.int (k:Int),.int (i:Int)]/\PgR a H wk ll wo/\i<=k/\k<(lnl wo).length/\∀H',Kp [] H H'->Q (.int (ownN (laid wo) i k:Nat)) H'
noncomputable abbrev Xw:Stmt:=top 41
theorem WF:Zm ["work","lines","k","page_first"] ["work","lines","k","page_first"] (Zh Xw):=by walk_at "sc"
theorem ZaA {f:Addr}{fd:FuncData}(F:Fun K "own_foot_lines" "own_foot_lines" Xw f fd)(T:Txt K mg a)(c_count_foot_lines:FnC P w K mg base CX0 4 "count_foot_lines" ["work","note","number"] (XN K a))(c_number_of_line:FnC P w K mg base CX0 1 "number_of_line" ["work","k","page_first"] (Xa K a)):FnOk P w K mg base CX0 5 f fd ["work","lines","k","page_first"] (Yc K a):=by
 refine F.ok WF (by walk_at "ln") (fun cdv A outer s H vs Q E hr h=>?_);walk_at "fp";refine el5 h fun wk ll wo k i zq=>?_
 clear h;obtain⟨rfl,hP,hik,hk,q⟩:=zq;walk_at "fq";have nd:=WF.nd;refine⟨_,(Zb (ZV (Zn ZkQ (Zq (ZE ZA (pv 1) (pv 2) (fun _ _=>rfl)) rfl) ZeX (Zs _)) (Ze (Zo Zg)) Zv) (Ze (Zo (Zi c_count_foot_lines hr Zu (Za (pv 0) (Za (Zq (ZE ZA (pv 1) (pv 2) (fun _ _=>rfl)) rfl) (Za (Zi c_number_of_line hr Zu (Za (pv 0) (Za (pv 2) (Za (pv 3) Zc)))) Zc))))))),?_⟩;walk_at "fp";obtain⟨us,l,d,nv,x,h1,h2,h3,h4,h5,hR,h7⟩:=hP.get hk;walk_at "fq";walk_at "fp";obtain⟨⟨hb,hw⟩,ok,_⟩:=hP;walk_at "fq";rw[ZjO wo hk] at q;have hR2:=hR;have hWk:=hR;have hWk2:=hR;have hA:=YT ok.set;walk_at "rd";have hns:=Zbf ok (i:=i) hk;have hnr:=Zg0 ok hns;refine Va rfl rfl h1 h3 hR T.clLine T.nL_note (ZbC _ _ _ _ _ _) ?_;rcases h7 with⟨h7,rfl⟩ | ⟨h7,nt,rfl,hN⟩
 ·rw[if_pos h7] at q;rw[if_pos rfl];exact q H Kp.refl
 ·rw[if_neg h7] at q;rw[if_neg (by intro z;cases z)];refine Va rfl rfl h1 h3 hR T.clLine T.nL_note (ZbC _ _ _ _ _ _) ?_;refine ex5 wk wo hb k i ⟨rfl,hw,hik,by lia,wk,nt,wo,hb,ZN wo k,_,rfl,hw,by lia,hN,hns,hnr,fun H' k'=>?_⟩;exact q H' k'
def JF (K:Frag)(a:Ad):Sp:=fun vs H Q _=>∃(c f:Nat),vs=[.int (c:Int),.int (f:Int)]/\Q (.int (VhPage.wantsOf c f:Nat)) H
noncomputable abbrev ZdS:Stmt:=top 42
theorem ZeN:Zm ["count","foot_count"] ["count","foot_count"] (Zh ZdS):=by walk_at "sc"
theorem ZiD {f:Addr}{fd:FuncData}(F:Fun K "wanted" "wanted" ZdS f fd)(T:Txt K mg a):FnOk P w K mg base CX0 1 f fd ["count","foot_count"] (JF K a):=by
 refine F.ok ZeN (by walk_at "ln") (fun cdv A outer s H vs Q E hr h=>?_);walk_at "fp";refine el2 h fun c f zq=>?_
 clear h;obtain⟨rfl,q⟩:=zq;walk_at "fq";have nd:=ZeN.nd;refine⟨_,(Zb (ZV (Zn Jc (pv 1) Zg (Zs _)) (Ze (Zo (Zw ZS (Zw ZS (pv 0) (pv 1)) Zg))) Zv) (Ze (Zo (pv 0)))),?_⟩;unfold VhPage.wantsOf at q;walk_at "rd";split
 ·rename_i h;rw[if_neg (by lia)] at q;have e:(c:Int)+(f:Int)+1=((c+f+1:Nat):Int):=by lia
  rw[e];exact q
 ·rename_i h;have hf:f=0:=by lia
  subst hf;exact q
theorem Zfs {p:Nat}{ti:TE}{f:Str}{σ:L2.St}{H:Hp}{Q:VK}{ll l C d:Addr}{us:List V}{fs:List (Str×V)}{j:Nat}{v:V}(h1:σ[p]?=some (some (.ref ll)))(h2:∀Q:VK,Q (.int (j:Int)) H->ti σ H Q)(h3:H ll=some (.lst us))(h4:us[j]?=some (.ref l))(h5:H l=some (.ins C d fs))(c:Cls K C)(n:ZC K C f)(h6:fs.lookup f=some v)(hq:Q v H):tFld K (tOp (rIxL K) (tVar p) ti) f σ H Q :=
 ⟨_,h1,h2 _ (YJ h3 h4 ⟨l,C,d,fs,v,rfl,h5,c,n,h6,hq⟩)⟩
theorem Zha {Q:VK}{i j:Int}{H:Hp}(e:j=i)(q:Q (.int i) H):Q (.int j) H:=by rw[e];exact q
def WhI (H:Hp)(i:Nat)(p:VhPage.Page)(v:V):Prop:=∃t,v=.ref t/\H t=some (.tup [.int (i+p.lines:Nat),.int (p.wants:Nat)])
def UA (K:Frag)(a:Ad):Sp:=fun vs H Q _=>∃(wk ll:Addr) (wo:Work) (i:Nat) (c:List (List Vh.Letters)),vs=[.ref wk,.ref ll,.int (i:Int),.int (c.length:Nat)]/\PgR a H wk ll wo/\i<=(lnl wo).length /\
 ∀H' p us,H p=none->Kp [] H H'->H' p=some (.lst us)->Paired (WhI H' i) (wl (laid wo) i c) us->Q (.ref p) H'
noncomputable abbrev WV:Stmt:=top 43
theorem UE:Zm ["work","lines","first","carried","found","foot_count","k","wants"] ["work","lines","first","carried"] (Zh WV):=by walk_at "sc"
theorem ZcM {f:Addr}{fd:FuncData}(F:Fun K "whole_pages" "whole_pages" WV f fd)(T:Txt K mg a)(c_own_foot_lines:FnC P w K mg base CX0 5 "own_foot_lines" ["work","lines","k","page_first"] (Yc K a))(c_wanted:FnC P w K mg base CX0 1 "wanted" ["count","foot_count"] (JF K a)):FnOk P w K mg base CX0 6 f fd ["work","lines","first","carried"] (UA K a):=by
 refine F.ok UE (by walk_at "ln") (fun cdv A outer s H vs Q E hr h=>?_);refine el5 h fun wk ll wo i c zq=>?_
 clear h;obtain⟨rfl,hP,hi,q⟩:=zq;have nd:=UE.nd;refine⟨_,(Zb (Zl (i:=4) nd rfl (Or.inl rfl) (ZW Zc)) (Zb (Zl (i:=5) nd rfl (Or.inl rfl) (pv 3)) (Zb (Y7 PassesOwn.never rfl (X2 rfl T.range (Za (pv 2) (Za (Zp Zj rfl T.len y13 (Za (pv 1) Zc)) Zc))) (ZK (i:=6) nd rfl (Or.inl rfl)) (Zb (JW (i:=5) nd rfl (Or.inl rfl) (Zi c_own_foot_lines hr Zu (Za (pv 0) (Za (pv 1) (Za (pv 6) (Za (pv 2) Zc))))) Zbg) (Zb (Zl (i:=7) nd rfl (Or.inl rfl) (Zi c_wanted hr Zu (Za (Zw Z6 (Zw ZS (pv 6) Zg) (pv 2)) (Za (pv 5) Zc)))) (Zb (ZV (Zn Jc (pv 7) (Zq (pv 0) rfl) (Zs _)) (Ze ZgS) Zv) (Ze (Zr (Yj y0y y11 y12 ZZ (pv 4) (Za (X3 (Za (Zw ZS (pv 6) Zg) (Za (pv 7) Zc))) Zc)))))))) (Ze (Zo (pv 4)))))),?_⟩;walk_at "fp";obtain⟨us,h1,h2⟩:=hP.len;walk_at "fq";have hP0:=hP;walk_at "fp";obtain⟨⟨hb,hw⟩,ok,_⟩:=hP;walk_at "fq";have hz:sizeLine=16777216:=by decide
 have hn:=X7 ok;have hn8:=ok.size;have hsz:=Z0 wo;walk_at "rd";refine⟨by decide,fun p hp=>?_⟩;have kp:Kp [] H (upd H p (HO.lst [])):=Kp.new hp;have hsb:=YT ok.set;have hfin:∀(d:Nat) (H':Hp) (fs:List V),Kp [] H H'->H' p=some (.lst fs)->Paired (WhI H' i) ((List.range d).map fun e=>whole (laid wo) i c (i+e)) fs->i+d<=(lnl wo).length->(∀e,e<d->Z8 (laid wo) i c.length (i+e)<=wo.set.height)->((lnl wo).length<=i+d\/wo.set.height<Z8 (laid wo) i c.length (i+d))->Q (.ref p) H':=fun d H' fs k1 h1 h2 h3 h4 h5=>by
  refine q H' p fs hp k1 h1 ?_;rw[Zk0 (laid wo) i c d (by lia) h4 (by rw[hsz];exact h5)];exact h2
 obtain⟨Pv,hPv⟩:∃Pv:WT,Pv=fun d σ H'=>∃o1 o2:Option V,σ=[some (.ref wk),some (.ref ll),some (.int (i:Int)),some (.int (c.length:Nat)),some (.ref p),some (.int (c.length+ownS (laid wo) i (i+d):Nat)),o1,o2]/\Kp [] H H'/\∃fs,H' p=some (.lst fs)/\Paired (WhI H' i) ((List.range d).map fun e=>whole (laid wo) i c (i+e)) fs/\∀e,e<d->Z8 (laid wo) i c.length (i+e)<=wo.set.height:=⟨_,rfl⟩
 have en:Int.toNat ((us.length:Int)-(i:Int))=(lnl wo).length-i:=by lia
 refine⟨_,rfl,_,rfl,ll,rfl,us,.inl (.inl (.inl (kp.z h1))),_,_,rfl,⟨by lia,by lia,by lia,by lia⟩,?_⟩;rw[en];refine Ue Pv ?_ ?_ ?_
 ·rw[hPv];exact ex2 none none ⟨by rw[Nat.add_zero,ZgY];rfl,kp,[],Zd,.nil,fun e he=>by lia⟩
 ·intro d σ H3 hd hw';rw[hPv] at hw';walk_at "fp";refine el2 hw' fun o1 o2 zq=>?_
  clear hw';obtain⟨rfl,k3,fs,hfs,hPf,hwk⟩:=zq;walk_at "fq";have ei:(i:Int)+(d:Int)=((i+d:Nat):Int):=by lia
  rw[ei];walk_at "rd";refine ex5 wk ll wo (i+d) i ⟨rfl,hP0.keep k3,by lia,by lia,fun H4 k4=>?_⟩;have k34:=k3.trans k4;walk_at "fp";refine el7 (WkR.wk (hw.keep k34)) fun dw aR aH aP aW aS aE hWk0=>?_
  walk_at "fq";have eo:((c.length+ownS (laid wo) i (i+d):Nat):Int)+(ownN (laid wo) i (i+d):Nat)=((c.length+ownS (laid wo) i (i+(d+1)):Nat):Int):=by
   have:=Ze0 (laid wo) (i:=i) (k:=i+d) (by lia);rw[<- Nat.add_assoc,this];lia
  have ek:((i+d:Nat):Int)+1-(i:Int)=((d+1:Nat):Int):=by lia
  have ew:VhPage.wantsOf (d+1) (c.length+ownS (laid wo) i (i+(d+1)))=Z8 (laid wo) i c.length (i+d):=by
   unfold Z8;rw[show i+d+1-i=d+1 by lia,Nat.add_assoc]
  refine ex1 _ (?_);rw[eo,ek];refine ex2 (d+1) _ ⟨rfl,?_⟩;rw[ew];refine⟨_,rfl,ex5 wk a.CW dw _ _ ⟨ rfl,hWk0,T.clWork,T.n_height,rfl,_,rfl,_,rfl,?_⟩⟩;have hfs4:=k4.z hfs;have hPf4:Paired (WhI H4 i) ((List.range d).map fun e=>whole (laid wo) i c (i+e)) fs:=Paired.mono (fun x v ⟨t,e,ht⟩=>⟨t,e,k4.z ht⟩) hPf;have hfl:=Paired.length hPf;rw[y03,List.length_range] at hfl;by_cases hbig:wo.set.height<Z8 (laid wo) i c.length (i+d)
  ·rw[if_pos (by lia)];simp only[Zip];walk_at "rd";exact hfin d H4 fs k34 hfs4 hPf4 (by lia) hwk (.inr hbig)
  ·rw[if_neg (by lia)];refine⟨.inl ⟨rfl,_,.inl (.inl hfs4)⟩,by decide,fun t ht=>?_⟩;have pt:p≠t:=Zf hfs4 ht;have kt:Kp [] H4 (upd H4 t (HO.tup [V.int (((i+d:Nat):Int)+1),V.int (Z8 (laid wo) i c.length (i+d):Nat)])):=Kp.new ht;have ht5:upd H4 t (HO.tup [V.int (((i+d:Nat):Int)+1),V.int (Z8 (laid wo) i c.length (i+d):Nat)]) t=some (HO.tup [V.int (((i+d:Nat):Int)+1),V.int (Z8 (laid wo) i c.length (i+d):Nat)]):=Zd;generalize upd H4 t (HO.tup [V.int (((i+d:Nat):Int)+1),V.int (Z8 (laid wo) i c.length (i+d):Nat)])=H5 at *;have hfs5:=kt.z hfs4;refine⟨fs,hfs5,by lia,?_⟩;rw[hPv];refine ex2 _ _ ⟨rfl,(k34.trans kt).put2 (.inr hp),fs++[.ref t],Zd,?_,fun e he=>?_⟩
   ·rw[List.range_succ,y07];have up:∀b xs,H5 b=some (.tup xs)->upd H5 p (HO.lst (fs++[V.ref t])) b=some (.tup xs):=fun b xs h=>Zx (WM h hfs5 (by intro z;cases z)) h
    refine Paired.snoc (Paired.mono (fun x v ⟨t',e,ht'⟩=>⟨t',e,up _ _ (kt.z ht')⟩) hPf4) ⟨t,rfl,up _ _ ?_⟩;rw[ht5,Y8];have e5:i+(whole (laid wo) i c (i+d)).lines=i+d+1:=by show i+(i+d+1-i)=_;lia
    rw[e5];rfl
   ·by_cases z:e=d
    ·subst z;lia
    ·exact hwk e (by lia)
 ·intro σ H3 hw';rw[hPv] at hw';walk_at "fp";refine el2 hw' fun o1 o2 zq=>?_
  clear hw';obtain⟨rfl,k3,fs,hfs,hPf,hwk⟩:=zq;walk_at "fq";walk_at "rd";exact hfin _ H3 fs k3 hfs hPf (by lia) hwk (.inl (by lia))
def YZ (K:Frag)(a:Ad):Sp:=fun vs H Q _=>∃(wk ll:Addr) (wo:Work) (i:Nat) (c:List (List Vh.Letters)),vs=[.ref wk,.ref ll,.int (i:Int),.int (c.length:Nat)]/\PgR a H wk ll wo/\i<=(lnl wo).length/\∀H',Kp [] H H'->Q (.bl (!(wl (laid wo) i c).isEmpty)) H'
noncomputable abbrev Wz:Stmt:=top 44
theorem VQ:Zm ["work","lines","first","carried"] ["work","lines","first","carried"] (Zh Wz):=by walk_at "sc"
theorem Zcg {f:Addr}{fd:FuncData}(F:Fun K "may_be_whole" "may_be_whole" Wz f fd)(T:Txt K mg a)(c_wanted:FnC P w K mg base CX0 1 "wanted" ["count","foot_count"] (JF K a))(c_own_foot_lines:FnC P w K mg base CX0 5 "own_foot_lines" ["work","lines","k","page_first"] (Yc K a)):FnOk P w K mg base CX0 6 f fd ["work","lines","first","carried"] (YZ K a):=by
 refine F.ok VQ (by walk_at "ln") (fun cdv A outer s H vs Q E hr h=>?_);refine el5 h fun wk ll wo i c zq=>?_
 clear h;obtain⟨rfl,hP,hi,q⟩:=zq;have nd:=VQ.nd;refine⟨_,(Zb (ZV (Zn Wb (pv 2) (Zp Zj rfl T.len y13 (Za (pv 1) Zc)) (Zs _)) (Ze (Zo ZhL)) Zv) (Ze (Zo (X4 WC (Zi c_wanted hr Zu (Za Zg (Za (Zw ZS (pv 3) (Zi c_own_foot_lines hr Zu (Za (pv 0) (Za (pv 1) (Za (pv 2) (Za (pv 2) Zc)))))) Zc))) (Zq (pv 0) rfl) (Zs _))))),?_⟩;walk_at "fp";obtain⟨us,h1,h2⟩:=hP.len;walk_at "fq";have hP0:=hP;walk_at "fp";obtain⟨⟨hb,hw⟩,ok,_⟩:=hP;walk_at "fq";have hsz:=Z0 wo;have hw':wl (laid wo) i c=[]↔((lnl wo).length<=i\/wo.set.height<Z8 (laid wo) i c.length i):=by
  have:=ZcZ (laid wo) i c (by lia);rw[hsz] at this;exact this
 have heq:(!(wl (laid wo) i c).isEmpty)=decide (¬ ((lnl wo).length<=i\/wo.set.height<Z8 (laid wo) i c.length i)):=by
  by_cases z:wl (laid wo) i c=[]
  ·rw[decide_eq_false (fun y=>y (hw'.mp z)),z];rfl
  ·rw[decide_eq_true (p:=¬ ((lnl wo).length<=i\/wo.set.height<Z8 (laid wo) i c.length i)) (fun y=>z (hw'.mpr y))];cases y:wl (laid wo) i c with
   | nil=>exact absurd y z
   | cons p l=>rfl
 rw[heq] at q;walk_at "rd";refine⟨_,.inl (.inl (.inl h1)),?_⟩;by_cases hin:i=us.length
 ·rw[if_pos (by lia)];rw[decide_eq_false (fun y=>y (.inl (by lia)))] at q;exact q H Kp.refl
 ·rw[if_neg (by lia)];refine ex5 wk ll wo i i ⟨rfl,hP0,y0r _,by lia,fun H2 k2=>⟨_,rfl,1,c.length+ownN (laid wo) i i,?_,?_⟩⟩
  ·have e1:(c.length:Int)+(ownN (laid wo) i i:Nat)=((c.length+ownN (laid wo) i i:Nat):Int):=by lia
   rw[e1];rfl
  ·walk_at "fp";refine el7 (WkR.wk (hw.keep k2)) fun dw aR aH aP aW aS aE hWk0=>?_
   walk_at "fq";refine⟨_,rfl,ex5 wk a.CW dw _ _ ⟨ rfl,hWk0,T.clWork,T.n_height,rfl,_,rfl,_,rfl,?_⟩⟩;have e2:VhPage.wantsOf 1 (c.length+ownN (laid wo) i i)=Z8 (laid wo) i c.length i:=by
    unfold Z8;rw[show i+1-i=1 by lia,Zd2]
   have e3:decide (((VhPage.wantsOf 1 (c.length+ownN (laid wo) i i):Nat):Int)<=(wo.set.height:Int))=decide (¬ ((lnl wo).length<=i\/wo.set.height<Z8 (laid wo) i c.length i)):=decide_eq_decide.mpr (by
    rw[e2];lia)
   rw[e3];exact q H2 k2
def JH (K:Frag)(a:Ad):Sp:=fun vs H Q _=>∃(wk ll:Addr) (wo:Work) (i e:Nat),vs=[.ref wk,.ref ll,.int (i:Int),.int (e:Int)]/\PgR a H wk ll wo/\i<e/\e<=(lnl wo).length/\Q (.int (Zg5 (laid wo) i e:Nat)) H
noncomputable abbrev VU:Stmt:=top 45
theorem JO:Zm ["work","lines","first","end","cost"] ["work","lines","first","end"] (Zh VU):=by walk_at "sc"
theorem Zd7 {f:Addr}{fd:FuncData}(F:Fun K "loose_cost" "loose_cost" VU f fd)(T:Txt K mg a):FnOk P w K mg base CX0 1 f fd ["work","lines","first","end"] (JH K a):=by
 refine F.ok JO (by walk_at "ln") (fun cdv A outer s H vs Q E hr h=>?_);refine el5 h fun wk ll wo i e zq=>?_
 clear h;obtain⟨rfl,hP,hie,he,q⟩:=zq;have nd:=JO.nd;refine⟨_,(Zb (Zl (i:=4) nd rfl (Or.inl rfl) Zg) (Zb (ZV (PW.pt (YV (W3 (Zq (ZE ZA (pv 1) (Zw Z6 (pv 3) Zg) (fun _ _=>rfl)) rfl) (fun _=>rfl)) (YQ (UO (W3 (Zq (ZE ZA (pv 1) (Zw Z6 (pv 3) Zg) (fun _ _=>rfl)) rfl) (fun _=>rfl)))))) (Ze (JW (i:=4) nd rfl (Or.inl rfl) (Zq (pv 0) rfl) Zbg)) Zv) (Zb (ZV (PW.pt (YV (W3 (Zq (ZE ZA (pv 1) (pv 2) (fun _ _=>rfl)) rfl) (fun _=>rfl)) (YQ (UO (W3 (Zq (ZE ZA (pv 1) (pv 2) (fun _ _=>rfl)) rfl) (fun _=>rfl)))))) (Ze (JW (i:=4) nd rfl (Or.inl rfl) (Zq (pv 0) rfl) Zbg)) Zv) (Ze (Zo (pv 4)))))),?_⟩;obtain⟨us,l,d,nv,x,h1,h2,h3,h4,h5,h6,h7⟩:=hP.get (k:=e-1) (by lia);obtain⟨us',l',d',nv',x',g1,g2,g3,g4,g5,g6,g7⟩:=hP.get (k:=i) (by lia);walk_at "fp";obtain⟨⟨hb,hw⟩,ok,_⟩:=hP;walk_at "fq";walk_at "fp";refine el7 (WkR.wk hw) fun dw aR aH aP aW aS aE hWk0=>?_
 walk_at "fq";have hix:∀(σ:L2.St),σ[3]?=some (some (.int (e:Int)))->∀Q:VK,Q (.int ((e-1:Nat):Int)) H->tOp (rI0 fun i j=>V.int (i-j)) (tVar 3) (tC (V.int 1)) σ H Q:=fun σ hσ Q hQ=>by
  refine⟨_,hσ,_,_,rfl,rfl,?_⟩;show Q (.int ((e:Int)-1)) H;rw[show(e:Int)-1=((e-1:Nat):Int) by lia];exact hQ
 unfold Zg5 at q;rw[h5,g5,Y3] at q;walk_at "rd";refine Zfs rfl (hix _ rfl) h1 h3 h6 T.clLine T.nL_opens (Zck _ _ _ _ _ _) ⟨x.begins,rfl,?_⟩;by_cases hA:x.begins=true
 case' neg =>
  rw[if_neg hA];rw[if_neg (fun z=>hA z.1)] at q
 case' pos =>
  rw[if_pos hA];refine Zfs rfl (hix _ rfl) h1 h3 h6 T.clLine T.nL_closes (Zdj _ _ _ _ _ _) ⟨x.ends,rfl,?_⟩;by_cases hB:x.ends=false
  case' pos =>
   rw[if_pos hB];refine⟨_,rfl,ex5 wk a.CW dw _ _ ⟨ rfl,hWk0,T.clWork,T.n_loose,rfl,_,rfl,?_⟩⟩;rw[if_pos ⟨hA,hB⟩] at q
  case' neg =>
   rw[if_neg hB];rw[if_neg (fun z=>hB z.2)] at q
 all_goals
  refine Va rfl rfl g1 g3 g6 T.clLine T.nL_closes (Zdj _ _ _ _ _ _) ⟨x'.ends,rfl,?_⟩;by_cases hC:x'.ends=true
  ·rw[if_pos hC];refine Va rfl rfl g1 g3 g6 T.clLine T.nL_opens (Zck _ _ _ _ _ _) ⟨x'.begins,rfl,?_⟩;by_cases hD:x'.begins=false
   ·rw[if_pos hD];refine⟨_,rfl,ex5 wk a.CW dw _ _ ⟨ rfl,hWk0,T.clWork,T.n_loose,rfl,_,rfl,?_⟩⟩;rw[if_pos ⟨hC,hD⟩] at q;exact Zha (by lia) q
   ·rw[if_neg hD];rw[if_neg (fun z=>hD z.2)] at q;exact Zha (by lia) q
  ·rw[if_neg hC];rw[if_neg (fun z=>hC z.1)] at q;exact Zha (by lia) q
def WR (K:Frag)(a:Ad):Sp:=fun vs H Q _=>∃(wk ll:Addr) (wo:Work) (i e n:Nat),vs=[.ref wk,.ref ll,.int (i:Int),.int (e:Int),.int (n:Int)]/\PgR a H wk ll wo/\i<e/\e<=(lnl wo).length/\n<=wo.set.height/\Q (.int (ZbK (laid wo) i e n:Nat)) H
noncomputable abbrev VT:Stmt:=top 46
theorem JM:Zm ["work","lines","first","end","wants","cost"] ["work","lines","first","end","wants"] (Zh VT):=by walk_at "sc"
theorem Zd5 {f:Addr}{fd:FuncData}(F:Fun K "whole_cost" "whole_cost" VT f fd)(T:Txt K mg a)(c_loose_cost:FnC P w K mg base CX0 1 "loose_cost" ["work","lines","first","end"] (JH K a)):FnOk P w K mg base CX0 2 f fd ["work","lines","first","end","wants"] (WR K a):=by
 refine F.ok JM (by walk_at "ln") (fun cdv A outer s H vs Q E hr h=>?_);refine el6 h fun wk ll wo i e n zq=>?_
 clear h;obtain⟨rfl,hP,hie,he,hn,q⟩:=zq;have nd:=JM.nd;refine⟨_,(Zb (Zl (i:=5) nd rfl (Or.inl rfl) (Zi c_loose_cost hr Zu (Za (pv 0) (Za (pv 1) (Za (pv 2) (Za (pv 3) Zc)))))) (Zb (ZV (Zn Xp (pv 3) (Zp Zj rfl T.len y13 (Za (pv 1) Zc)) (Zs _)) (Ze (JW (i:=5) nd rfl (Or.inl rfl) (Zw ZkP (Zw Z6 (Zq (pv 0) rfl) (pv 4)) Zg) Zbg)) Zv) (Ze (Zo (pv 5))))),?_⟩;walk_at "fp";obtain⟨us,h1,h2⟩:=hP.len;walk_at "fq";have hP0:=hP;walk_at "fp";obtain⟨⟨hb,hw⟩,ok,_⟩:=hP;walk_at "fq";walk_at "fp";refine el7 (WkR.wk hw) fun dw aR aH aP aW aS aE hWk0=>?_
 walk_at "fq";have hsb:=YT ok.set;unfold ZbK at q;rw[Z0,Y3] at q;walk_at "rd";refine ex5 wk ll wo i e ⟨rfl,hP0,hie,he,_,.inl (.inl (.inl h1)),?_⟩;by_cases hen:e<(lnl wo).length
 ·rw[if_pos (by lia)];rw[if_pos hen] at q;refine⟨_,rfl,ex5 wk a.CW dw _ _ ⟨ rfl,hWk0,T.clWork,T.n_height,rfl,_,rfl,⟨by decide,by decide,by lia⟩,_,rfl,?_⟩⟩;have e1:((wo.set.height:Int)-(n:Int)) ^ Int.toNat 2=(((wo.set.height-n) ^ 2:Nat):Int):=by
   have e1:((wo.set.height:Int)-(n:Int))=((wo.set.height-n:Nat):Int):=by lia
   rw[e1,Int.natCast_pow];rfl
  rw[e1];exact Zha (by lia) q
 ·rw[if_neg (by lia)];rw[if_neg hen] at q;exact q
noncomputable abbrev bst1 (wo:Work)(j:Nat):Nat:=(best (laid wo) (Yy wo) j []).1
def ZcJ (us:List V)(wo:Work)(i:Nat):Prop:=us.length=(lnl wo).length+1/\∀j,i<j->j<=(lnl wo).length->us[j]?=some (.int (bst1 wo j:Nat))
def WU (K:Frag)(a:Ad):Sp:=fun vs H Q _=>∃(wk ll cs:Addr) (wo:Work) (i:Nat) (c:List (List Vh.Letters)) (us:List V),vs=[.ref wk,.ref ll,.ref cs,.int (i:Int),.int (c.length:Nat)]/\PgR a H wk ll wo/\i<=(lnl wo).length/\H cs=some (.lst us)/\ZcJ us wo i/\wl (laid wo) i c≠[] /\
 ∀H' t p,Kp [] H H'->ZcX (laid wo) (Yy wo) i (wl (laid wo) i c)=some (cst (laid wo) (Yy wo) i p,p)->H' t=some (.tup [.int (cst (laid wo) (Yy wo) i p:Nat),.int (i+p.lines:Nat)])->Q (.ref t) H'
noncomputable abbrev VX:Stmt:=top 47
theorem JR:Zm ["work","lines","costs","first","carried","best","found","end","cost"] ["work","lines","costs","first","carried"] (Zh VX):=by walk_at "sc"
theorem Zea {f:Addr}{fd:FuncData}(F:Fun K "best_whole" "best_whole" VX f fd)(T:Txt K mg a)(c_whole_pages:FnC P w K mg base CX0 6 "whole_pages" ["work","lines","first","carried"] (UA K a))(c_whole_cost:FnC P w K mg base CX0 2 "whole_cost" ["work","lines","first","end","wants"] (WR K a)):FnOk P w K mg base CX0 7 f fd ["work","lines","costs","first","carried"] (WU K a):=by
 refine F.ok JR (by walk_at "ln") (fun cdv A outer s H vs Q E hr h=>?_);refine el7 h fun wk ll cs wo i c us zq=>?_
 clear h;obtain⟨rfl,hP,hi,hcs,hC,hne,q⟩:=zq;have nd:=JR.nd;refine⟨_,(Zb (Zl (i:=5) nd rfl (Or.inl rfl) ZeX) (Zb (Y7 PassesOwn.never rfl (Xz (Zi c_whole_pages hr Zu (Za (pv 0) (Za (pv 1) (Za (pv 3) (Za (pv 4) Zc)))))) (ZK (i:=6) nd rfl (Or.inl rfl)) (Zb (Zl (i:=7) nd rfl (Or.inl rfl) (ZE Yl (pv 6) Zg (fun _ _=>rfl))) (Zb (Zl (i:=8) nd rfl (Or.inl rfl) (Zw ZS (Zi c_whole_cost hr Zu (Za (pv 0) (Za (pv 1) (Za (pv 3) (Za (pv 7) (Za (ZE Yl (pv 6) Zg (fun _ _=>rfl)) Zc)))))) (ZE ZA (pv 2) (pv 7) (fun _ _=>rfl)))) (Ze (ZV (PW.pt (ZcL (Zn ZkQ (pv 5) ZeX (Zs _)) (JU (Zn WC (pv 8) (ZE Yl (pv 5) Zg (fun _ _=>rfl)) (Zs _))))) (Ze (Zl (i:=5) nd rfl (Or.inl rfl) (X3 (Za (pv 8) (Za (pv 7) Zc))))) Zv))))) (Ze (Zo (pv 5))))),?_⟩;have hsz:=Z0 wo;walk_at "fp";obtain⟨_,ok,_⟩:=id hP;walk_at "fq";walk_at "rd";obtain⟨Wl,hWl⟩:∃Wl,Wl=wl (laid wo) i c:=⟨_,rfl⟩
 obtain⟨bv,hbv⟩:∃bv:Hp->Option (Nat×VhPage.Page)->V->Prop,bv=fun H' b v=>match b with
  | none=>v=.non
  | some y=>∃t,v=.ref t/\H' t=some (.tup [.int (y.1:Nat),.int (i+y.2.lines:Nat)]):=⟨_,rfl⟩
 refine⟨_,rfl,_,rfl,_,rfl,_,rfl,ex5 wk ll wo i c ⟨ rfl,hP,hi,fun H1 p1 us1 hp1 k1 hl1 hW1=>?_⟩⟩;rw[<- hWl] at hW1 hne q;obtain⟨Pv,hPv⟩:∃Pv:WT,Pv=fun d σ H'=>∃(v:V) (o1 o2 o3:Option V),σ=[some (.ref wk),some (.ref ll),some (.ref cs),some (.int (i:Int)),some (.int (c.length:Nat)),some v,o1,o2,o3]/\Kp [] H1 H'/\bv H' (ZcX (laid wo) (Yy wo) i (Wl.take d)) v:=⟨_,rfl⟩
 refine ex1 p1 (⟨⟨_,.inl (.inl hl1)⟩,W9 (xs:=us1) Pv ?_ ?_ ?_ ?_⟩)
 ·rw[hPv];refine ex4 .non none none none ⟨rfl,Kp.refl,?_⟩;rw[hbv];rfl
 ·intro d σ H' _ hw';rw[hPv] at hw';walk_at "fp";refine el4 hw' fun v o1 o2 o3 zq=>?_
  clear hw';obtain⟨rfl,k,_⟩:=zq;walk_at "fq";exact .inl (.inl (k.z hl1))
 ·intro d v σ H3 hd hw';rw[hPv] at hw';walk_at "fp";refine el4 hw' fun bvv o1 o2 o3 zq=>?_
  clear hw';obtain⟨rfl,k3,hbest⟩:=zq;walk_at "fq";walk_at "fp";obtain⟨pg,hpg,t,rfl,ht⟩:=Paired.get hW1 hd;walk_at "fq";have hmem:pg∈wl (laid wo) i c:=by rw[<- hWl];exact y0f hpg
  walk_at "fp";obtain⟨k,hik,hkn,hpk,hwk⟩:=Zeq (laid wo) i c (by lia) hmem;walk_at "fq";have hlines:i+pg.lines=k+1:=by rw[hpk];show i+(k+1-i)=k+1;lia
  have hwants:pg.wants<=wo.set.height:=by rw[hpk,Y8];exact hwk
  have ht3:=k3.z ht;rw[hlines] at ht3;have hcs3:=k3.z (k1 _ _ hcs (by simp));have hcst:cst (laid wo) (Yy wo) i pg=ZbK (laid wo) i (k+1) pg.wants+bst1 wo (k+1):=by
   unfold cst;rw[hlines]
  walk_at "rd";refine Y4 0 ht3 rfl (Y4 1 ht3 rfl ⟨wk,ll,wo,i,k+1,pg.wants,rfl,(hP.keep k1).keep k3,by lia,by lia,hwants,?_⟩);refine YJ hcs3 (hC.2 (k+1) (by lia) (by lia)) ⟨_,rfl,_,rfl,?_⟩;have ec:((ZbK (laid wo) i (k+1) pg.wants:Nat):Int)+(bst1 wo (k+1):Nat)=((cst (laid wo) (Yy wo) i pg:Nat):Int):=by rw[hcst];lia
  rw[ec];have hsn:=Zh8 (laid wo) (Yy wo) i (Wl.take d) pg;rw[<- ZD hpg] at hsn;rw[hbv] at hbest;have new:ZcX (laid wo) (Yy wo) i (Wl.take (d+1))=some (cst (laid wo) (Yy wo) i pg,pg)->∀p,H3 p=none->Pv (d+1) [some (V.ref wk),some (V.ref ll),some (V.ref cs),some (V.int (i:Int)),some (V.int (c.length:Nat)),some (V.ref p),some (V.ref t),some (V.int (k+1:Nat)),some (V.int (cst (laid wo) (Yy wo) i pg:Nat))] (upd H3 p (HO.tup [V.int (cst (laid wo) (Yy wo) i pg:Nat),V.int (k+1:Nat)])):=fun hn p hp=>by
   rw[hPv];refine ex4 (.ref p) _ _ _ ⟨rfl,k3.trans (Kp.new hp),?_⟩;rw[hn,hbv];exact ex1 p (by rw[Zd,hlines])
  cases hbp:ZcX (laid wo) (Yy wo) i (Wl.take d) with
  | none =>
   rw[hbp] at hsn hbest;have hbest:bvv=.non:=hbest;rw[if_pos hbest];exact⟨by decide,new hsn⟩
  | some y =>
   rw[hbp] at hsn hbest;walk_at "fp";obtain⟨t',rfl,ht'⟩:=hbest;walk_at "fq";rw[if_neg (by intro z;cases z)];refine Y4 0 ht' rfl ⟨_,rfl,?_⟩;by_cases hle:cst (laid wo) (Yy wo) i pg<=y.1
   ·rw[if_pos (by lia)];simp only[] at hsn;rw[if_pos hle] at hsn;exact⟨by decide,new hsn⟩
   ·rw[if_neg (by lia),hPv];simp only[] at hsn;rw[if_neg hle] at hsn;refine ex4 (.ref t') _ _ _ ⟨rfl,k3,?_⟩;rw[hsn,hbv];exact ex1 t' (ht')
 ·intro σ H3 hw';rw[hPv] at hw';walk_at "fp";refine el4 hw' fun bvv o1 o2 o3 zq=>?_
  clear hw';obtain⟨rfl,k3,hbest⟩:=zq;walk_at "fq";rw[<- Paired.length hW1,y0e (y0r _)] at hbest;walk_at "fp";obtain⟨pg,hpg,hb⟩:=ZdE (laid wo) (Yy wo) i Wl hne;walk_at "fq";rw[hbv,hb] at hbest;walk_at "fp";obtain⟨t,rfl,ht⟩:=hbest;walk_at "fq";walk_at "rd";exact q H3 t pg (k1.trans k3) hb ht
theorem ZjQ (L:VhPage.Laid)(i k:Nat):((List.range (k-i)).map fun e=>ownN L i (i+e)).sum=ownS L i k:=by
 unfold ownS VhPage.Laid.ownFoot ownN;rw[List.length_flatMap]
theorem ZlB (l:List Nat):lV l=(l.map fun(n:Nat)=>(n:Int)).map V.int:=by
 unfold lV;rw[List.map_map];rfl
def JE (K:Frag)(a:Ad):Sp:=fun vs H Q _=>∃(wk ll:Addr) (wo:Work) (i k:Nat) (c:List (List Vh.Letters)),vs=[.ref wk,.ref ll,.int (i:Int),.int (k+1:Nat),.int (c.length:Nat)]/\PgR a H wk ll wo/\i<=k/\k<(lnl wo).length/\Z8 (laid wo) i c.length k<=wo.set.height /\
 ∀H' x,H x=none->Kp [] H H'->ZfL a H' x (whole (laid wo) i c k) (ZbK (laid wo) i (k+1) (Z8 (laid wo) i c.length k))->Q (.ref x) H'
noncomputable abbrev Xm:Stmt:=top 48
theorem JL:Zm ["work","lines","first","end","carried","page","k"] ["work","lines","first","end","carried"] (Zh Xm):=by walk_at "sc"
theorem ZcE:Jv ["work","lines","first","end","carried","page","k"] (Zh Xm) (lcSc (Zkm (Zbl (stI (ZI Xm) 2)) 0)) [("k",6)]:=by walk_at "bk"
theorem Zd4 {f:Addr}{fd:FuncData}(F:Fun K "whole_page" "whole_page" Xm f fd)(T:Txt K mg a)(c_Page_init:Zeo P w K mg base CX0 1 a.CP "Page" ["self","kind","first","end"] (Wj K a))(c_whole_cost:FnC P w K mg base CX0 2 "whole_cost" ["work","lines","first","end","wants"] (WR K a))(c_wanted:FnC P w K mg base CX0 1 "wanted" ["count","foot_count"] (JF K a))(c_own_foot_lines:FnC P w K mg base CX0 5 "own_foot_lines" ["work","lines","k","page_first"] (Yc K a)):FnOk P w K mg base CX0 6 f fd ["work","lines","first","end","carried"] (JE K a):=by
 refine F.ok JL (by walk_at "ln") (fun cdv A outer s H vs Q E hr h=>?_);refine el6 h fun wk ll wo i k c zq=>?_
 clear h;obtain⟨rfl,hP,hik,hk,hw,q⟩:=zq;have nd:=JL.nd;refine⟨_,(Zb (Zl (i:=5) nd rfl (Or.inl rfl) (W6 c_Page_init hr Zu (Za (ZP T.cWHOLE) (Za (pv 2) (Za (pv 3) Zc))))) (Zb (ZM (pv 5) (pv 4) rfl) (Zb (ZM (pv 5) (Zp (Zjg rfl) rfl T.sum boot_sum (Za (ZhK rfl nd (X2 rfl T.range (Za (pv 2) (Za (pv 3) Zc))) ZcE (fun _ _ _ _ _=>(ZK (i:=6) nd rfl (Or.inl rfl))) (fun _ _ _ _ _=>WB) (fun _ _ _ _ _=>(Zi c_own_foot_lines hr Zu (Za (pv 0) (Za (pv 1) (Za (pv 6) (Za (pv 2) Zc))))))) Zc)) rfl) (Zb (ZM (pv 5) (Zi c_whole_cost hr Zu (Za (pv 0) (Za (pv 1) (Za (pv 2) (Za (pv 3) (Za (Zi c_wanted hr Zu (Za (Zw Z6 (pv 3) (pv 2)) (Za (Zw ZS (Zq (pv 5) rfl) (Zq (pv 5) rfl)) Zc))) Zc)))))) rfl) (Ze (Zo (pv 5))))))),?_⟩;have ok:=hP.2.1;have hll:=X7 ok;have hn8:=ok.size;have hz:sizeLine=16777216:=by decide
 walk_at "rd";intro x dx hx hdx hxd;refine ex5 x dx 0 i (k+1) ⟨rfl,Zd,rfl,?_⟩;rw[WP];have k1:Kp [] H (upd (upd H dx (HO.own x)) x (HO.ins a.CP dx (pgf 0 i (k+1) 0 0 0 0))):=fun b o e _=>by
  rw[Zk (Zf e hx),Zk (Zf e hdx)];exact e
 have hx1:upd (upd H dx (HO.own x)) x (HO.ins a.CP dx (pgf 0 i (k+1) 0 0 0 0)) x=some (HO.ins a.CP dx (pgf 0 i (k+1) 0 0 0 0)):=Zd;generalize upd (upd H dx (HO.own x)) x (HO.ins a.CP dx (pgf 0 i (k+1) 0 0 0 0))=H1 at *;refine⟨_,rfl,_,rfl,ex4 x a.CP dx _ ⟨ rfl,hx1,T.clPage,T.nP_came,YW _ _ _ _ _ _ _,?_⟩⟩;rw[U9];have k2:Kp [] H (upd H1 x (HO.ins a.CP dx (pgf 0 i (k+1) c.length 0 0 0))):=k1.put2 (.inr hx);have hx2:upd H1 x (HO.ins a.CP dx (pgf 0 i (k+1) c.length 0 0 0)) x=some (HO.ins a.CP dx (pgf 0 i (k+1) c.length 0 0 0)):=Zd;generalize upd H1 x (HO.ins a.CP dx (pgf 0 i (k+1) c.length 0 0 0))=H2 at *;have en:Int.toNat (((k+1:Nat):Int)-(i:Int))=k+1-i:=by lia
 refine⟨_,rfl,_,rfl,_,_,rfl,⟨by lia,by lia,by lia,by lia⟩,fun D hD=>?_⟩;rw[en];have xD:x≠D:=Zf hx2 hD;obtain⟨Pv,hPv⟩:∃Pv:Nat->Hp->Prop,Pv=fun d H'=>Kp [] H2 H'/\H' D=some (.lst (lV ((List.range d).map fun e=>ownN (laid wo) i (i+e)))):=⟨_,rfl⟩
 refine J6 Pv ?_ ?_ ?_
 ·rw[hPv];exact⟨Kp.new hD,Zd⟩
 ·intro d H3 hd hw';rw[hPv] at hw';obtain⟨k3,hD3⟩:=hw';refine⟨rfl,?_⟩;have ei:(i:Int)+(d:Int)=((i+d:Nat):Int):=by lia
  rw[ei];simp only[tYes];refine⟨_,rfl,_,rfl,_,rfl,_,rfl,ex5 wk ll wo (i+d) i ⟨ rfl,hP.keep (k2.trans k3),by lia,by lia,fun H4 k4=>?_⟩⟩;refine⟨_,k4.z hD3,by rw[Zy,y03,List.length_range];lia,?_⟩;rw[hPv];refine⟨(k3.trans k4).put2 (.inr hD),?_⟩;rw[Zd,List.range_succ,y07];unfold lV;rw[y07];rfl
 ·intro H3 hw';rw[hPv] at hw';obtain⟨k3,hD3⟩:=hw';clear hPv Pv;have hx3:=k3.z hx2;rw[ZlB] at hD3;refine ex2 D _ ⟨rfl,.inl (.inl hD3),_,rfl,x,a.CP,dx,_,rfl,hx3,T.clPage,T.nP_own,YW _ _ _ _ _ _ _,?_⟩;rw[ZdI,ZjQ,Zdg];have k4:Kp [] H (upd H3 x (HO.ins a.CP dx (pgf 0 i (k+1) c.length (ownS (laid wo) i (k+1)) 0 0))):=(k2.trans k3).put2 (.inr hx);have hx4:upd H3 x (HO.ins a.CP dx (pgf 0 i (k+1) c.length (ownS (laid wo) i (k+1)) 0 0)) x=some (HO.ins a.CP dx (pgf 0 i (k+1) c.length (ownS (laid wo) i (k+1)) 0 0)):=Zd;generalize upd H3 x (HO.ins a.CP dx (pgf 0 i (k+1) c.length (ownS (laid wo) i (k+1)) 0 0))=H4 at *;refine⟨_,rfl,_,rfl,_,rfl,_,rfl,_,rfl,_,rfl,_,_,rfl,rfl,_,rfl,ex5 x a.CP dx _ _ ⟨ rfl,hx4,T.clPage,T.nP_came,ZgU _ _ _ _ _ _ _,_,rfl,ex5 x a.CP dx _ _ ⟨ rfl,hx4,T.clPage,T.nP_own,ZiA _ _ _ _ _ _ _,_,_,rfl,rfl,?_⟩⟩⟩;refine⟨k+1-i,c.length+ownS (laid wo) i (k+1),?_,?_⟩
  ·have e1:((k+1:Nat):Int)-(i:Int)=((k+1-i:Nat):Int):=by lia
   have e2:(c.length:Int)+(ownS (laid wo) i (k+1):Nat)=((c.length+ownS (laid wo) i (k+1):Nat):Int):=by lia
   show[V.int (((k+1:Nat):Int)-(i:Int)),V.int ((c.length:Int)+(ownS (laid wo) i (k+1):Nat))]=_;rw[e1,e2]
  ·refine ex6 wk ll wo i (k+1) (Z8 (laid wo) i c.length k) ⟨rfl,hP.keep k4,by lia,by lia,hw,?_⟩;refine⟨_,rfl,ex4 x a.CP dx _ ⟨ rfl,hx4,T.clPage,T.nP_cost,YW _ _ _ _ _ _ _,?_⟩⟩;rw[Zf6];refine⟨_,rfl,q _ x hx (k4.put2 (.inr hx)) ⟨dx,?_⟩⟩;rw[Zd];have e3:(whole (laid wo) i c k).first+(whole (laid wo) i c k).lines=k+1:=by show i+(k+1-i)=k+1;lia
   rw[e3];rfl
def ZbS (K:Frag)(a:Ad):Sp:=fun vs H Q _=>∃(wk ll:Addr) (wo:Work) (i:Nat) (c:List (List Vh.Letters)),vs=[.ref wk,.ref ll,.int (i:Int),.int (c.length:Nat)]/\PgR a H wk ll wo/\i<(lnl wo).length/\c.length+3<=wo.set.height/\wl (laid wo) i c=[] /\
 ∀H' x,H x=none->Kp [] H H'->ZfL a H' x ((laid wo).cutPage i c) 0->Q (.ref x) H'
noncomputable abbrev Zar:Stmt:=top 49
theorem ZbZ:Zm ["work","lines","first","carried","page"] ["work","lines","first","carried"] (Zh Zar):=by walk_at "sc"
theorem Zge {f:Addr}{fd:FuncData}(F:Fun K "cut_page" "cut_page" Zar f fd)(T:Txt K mg a)(c_Page_init:Zeo P w K mg base CX0 1 a.CP "Page" ["self","kind","first","end"] (Wj K a))(c_own_foot_lines:FnC P w K mg base CX0 5 "own_foot_lines" ["work","lines","k","page_first"] (Yc K a)):FnOk P w K mg base CX0 6 f fd ["work","lines","first","carried"] (ZbS K a):=by
 refine F.ok ZbZ (by walk_at "ln") (fun cdv A outer s H vs Q E hr h=>?_);refine el5 h fun wk ll wo i c zq=>?_
 clear h;obtain⟨rfl,hP,hi,hc,hw,q⟩:=zq;have nd:=ZbZ.nd;refine⟨_,(Zb (Zl (i:=4) nd rfl (Or.inl rfl) (W6 c_Page_init hr Zu (Za (ZP T.cCUT) (Za (pv 2) (Za (Zw ZS (pv 2) Zg) Zc))))) (Zb (ZM (pv 4) (pv 3) rfl) (Zb (ZM (pv 4) (Zw Z6 (Zw Z6 (Zq (pv 0) rfl) Zg) (pv 3)) rfl) (Zb (ZM (pv 4) (Zw Z6 (Zi c_own_foot_lines hr Zu (Za (pv 0) (Za (pv 1) (Za (pv 2) (Za (pv 2) Zc))))) (Zq (pv 4) rfl)) rfl) (Ze (Zo (pv 4))))))),?_⟩;have ok:=hP.2.1;obtain⟨hb,hwk⟩:=hP.1;have hbig:wo.set.height<Z8 (laid wo) i c.length i:=by
  have:=(ZcZ (laid wo) i c (by rw[Z0];lia)).mp hw;rw[Z0,Y3] at this;lia
 unfold Z8 at hbig;rw[Zd2,show i+1-i=1 by lia] at hbig;unfold VhPage.wantsOf at hbig;have hbig2:wo.set.height-2<c.length+ownN (laid wo) i i:=by
  split at hbig <;> lia
 walk_at "rd";intro x dx hx hdx hxd;have ei1:(i:Int)+1=((i+1:Nat):Int):=by lia
 rw[ei1];refine ex5 x dx 1 i (i+1) ⟨rfl,Zd,rfl,?_⟩;rw[WP];have k1:Kp [] H (upd (upd H dx (HO.own x)) x (HO.ins a.CP dx (pgf 1 i (i+1) 0 0 0 0))):=fun b o e _=>by
  rw[Zk (Zf e hx),Zk (Zf e hdx)];exact e
 have hx1:upd (upd H dx (HO.own x)) x (HO.ins a.CP dx (pgf 1 i (i+1) 0 0 0 0)) x=some (HO.ins a.CP dx (pgf 1 i (i+1) 0 0 0 0)):=Zd;generalize upd (upd H dx (HO.own x)) x (HO.ins a.CP dx (pgf 1 i (i+1) 0 0 0 0))=H1 at *;refine⟨_,rfl,_,rfl,ex4 x a.CP dx _ ⟨ rfl,hx1,T.clPage,T.nP_came,YW _ _ _ _ _ _ _,?_⟩⟩;rw[U9];have k2:Kp [] H (upd H1 x (HO.ins a.CP dx (pgf 1 i (i+1) c.length 0 0 0))):=k1.put2 (.inr hx);have hx2:upd H1 x (HO.ins a.CP dx (pgf 1 i (i+1) c.length 0 0 0)) x=some (HO.ins a.CP dx (pgf 1 i (i+1) c.length 0 0 0)):=Zd;generalize upd H1 x (HO.ins a.CP dx (pgf 1 i (i+1) c.length 0 0 0))=H2 at *;walk_at "fp";refine el7 (WkR.wk (hwk.keep k2)) fun dw aR aH aP aW aS aE hWk2=>?_
 walk_at "fq";refine⟨_,rfl,ex5 wk a.CW dw _ _ ⟨ rfl,hWk2,T.clWork,T.n_height,rfl,_,_,rfl,rfl,_,rfl,_,_,rfl,rfl,_,rfl,ex4 x a.CP dx _ ⟨ rfl,hx2,T.clPage,T.nP_own,YW _ _ _ _ _ _ _,?_⟩⟩⟩;have eo:(wo.set.height:Int)-2-(c.length:Nat)=((wo.set.height-2-c.length:Nat):Int):=by lia
 simp only[];rw[eo,Zdg];have k3:Kp [] H (upd H2 x (HO.ins a.CP dx (pgf 1 i (i+1) c.length (wo.set.height-2-c.length) 0 0))):=k2.put2 (.inr hx);have hx3:upd H2 x (HO.ins a.CP dx (pgf 1 i (i+1) c.length (wo.set.height-2-c.length) 0 0)) x=some (HO.ins a.CP dx (pgf 1 i (i+1) c.length (wo.set.height-2-c.length) 0 0)):=Zd;generalize upd H2 x (HO.ins a.CP dx (pgf 1 i (i+1) c.length (wo.set.height-2-c.length) 0 0))=H3 at *;refine⟨_,rfl,_,rfl,_,rfl,_,rfl,ex5 wk ll wo i i ⟨ rfl,hP.keep k3,y0r _,hi,fun H4 k4=>?_⟩⟩;have hx4:=k4.z hx3;refine⟨_,rfl,ex5 x a.CP dx _ _ ⟨ rfl,hx4,T.clPage,T.nP_own,ZiA _ _ _ _ _ _ _,_,_,rfl,rfl,_,rfl,ex4 x a.CP dx _ ⟨ rfl,hx4,T.clPage,T.nP_rest,YW _ _ _ _ _ _ _,?_⟩⟩⟩;have er:((ownN (laid wo) i i:Nat):Int)-(wo.set.height-2-c.length:Nat)=((c.length+ownN (laid wo) i i-(wo.set.height-2):Nat):Int):=by lia
 simp only[];rw[er,Zb9];refine⟨_,rfl,q _ x hx ((k3.trans k4).put2 (.inr hx)) ⟨dx,?_⟩⟩;rw[Zd];have e1:((laid wo).cutPage i c).on.length=c.length+ownN (laid wo) i i-(wo.set.height-2):=by
  have:((laid wo).cutPage i c).on=(c++(laid wo).ownFoot i (i+1)).drop (wo.set.height-2):=rfl;rw[this,y0i,y01,<- Zd2];rfl
 rw[e1];rfl
def JI (K:Frag)(a:Ad):Sp:=fun vs H Q _=>∃(wk:Addr) (wo:Work) (hb:List UInt8) (i:Nat) (c:List (List Vh.Letters)),vs=[.ref wk,.int (i:Int),.int (c.length:Nat)]/\WkR a H wk wo hb/\6<=wo.set.height /\
 ∀H' x,H x=none->Kp [] H H'->ZfL a H' x ((laid wo).alonePage i c) 0->Q (.ref x) H'
noncomputable abbrev VV:Stmt:=top 50
theorem JP:Zm ["work","first","carried","page"] ["work","first","carried"] (Zh VV):=by walk_at "sc"
theorem Zd8 {f:Addr}{fd:FuncData}(F:Fun K "foot_alone" "foot_alone" VV f fd)(T:Txt K mg a)(c_Page_init:Zeo P w K mg base CX0 1 a.CP "Page" ["self","kind","first","end"] (Wj K a)):FnOk P w K mg base CX0 3 f fd ["work","first","carried"] (JI K a):=by
 refine F.ok JP (by walk_at "ln") (fun cdv A outer s H vs Q E hr h=>?_);refine el5 h fun wk wo hb i c zq=>?_
 clear h;obtain⟨rfl,hw,hh,q⟩:=zq;have nd:=JP.nd;refine⟨_,(Zb (Zl (i:=3) nd rfl (Or.inl rfl) (W6 c_Page_init hr Zu (Za (ZP T.cFOOT_ALONE) (Za (pv 1) (Za (pv 1) Zc))))) (Zb (ZM (pv 3) (Zp (ZfB rfl) rfl T.min boot_min (Za (pv 2) (Za (Zw Z6 (Zq (pv 0) rfl) Zg) Zc))) rfl) (Zb (ZM (pv 3) (Zw Z6 (pv 2) (Zq (pv 3) rfl)) rfl) (Ze (Zo (pv 3)))))),?_⟩;walk_at "rd";intro x dx hx hdx hxd;refine ex5 x dx 2 i i ⟨rfl,Zd,rfl,?_⟩;rw[WP];have k1:Kp [] H (upd (upd H dx (HO.own x)) x (HO.ins a.CP dx (pgf 2 i i 0 0 0 0))):=fun b o e _=>by
  rw[Zk (Zf e hx),Zk (Zf e hdx)];exact e
 have hx1:upd (upd H dx (HO.own x)) x (HO.ins a.CP dx (pgf 2 i i 0 0 0 0)) x=some (HO.ins a.CP dx (pgf 2 i i 0 0 0 0)):=Zd;generalize upd (upd H dx (HO.own x)) x (HO.ins a.CP dx (pgf 2 i i 0 0 0 0))=H1 at *;walk_at "fp";refine el7 (WkR.wk (hw.keep k1)) fun dw aR aH aP aW aS aE hWk1=>?_
 walk_at "fq";refine⟨_,rfl,_,rfl,ex5 wk a.CW dw _ _ ⟨ rfl,hWk1,T.clWork,T.n_height,rfl,_,_,rfl,rfl,_,_,rfl,_,rfl,ex4 x a.CP dx _ ⟨ rfl,hx1,T.clPage,T.nP_came,YW _ _ _ _ _ _ _,?_⟩⟩⟩;have eo:(if (wo.set.height:Int)-1<(c.length:Nat) then(wo.set.height:Int)-1 else(c.length:Nat))=((min c.length (wo.set.height-1):Nat):Int):=by
  split <;> lia
 rw[eo,U9];have k2:Kp [] H (upd H1 x (HO.ins a.CP dx (pgf 2 i i (min c.length (wo.set.height-1)) 0 0 0))):=k1.put2 (.inr hx);have hx2:upd H1 x (HO.ins a.CP dx (pgf 2 i i (min c.length (wo.set.height-1)) 0 0 0)) x=some (HO.ins a.CP dx (pgf 2 i i (min c.length (wo.set.height-1)) 0 0 0)):=Zd;generalize upd H1 x (HO.ins a.CP dx (pgf 2 i i (min c.length (wo.set.height-1)) 0 0 0))=H2 at *;refine⟨_,rfl,_,rfl,ex5 x a.CP dx _ _ ⟨ rfl,hx2,T.clPage,T.nP_came,ZgU _ _ _ _ _ _ _,_,_,rfl,rfl,_,rfl,ex4 x a.CP dx _ ⟨ rfl,hx2,T.clPage,T.nP_rest,YW _ _ _ _ _ _ _,?_⟩⟩⟩;have er:((c.length:Nat):Int)-(min c.length (wo.set.height-1):Nat)=((c.length-(wo.set.height-1):Nat):Int):=by lia
 simp only[];rw[er,Zb9];refine⟨_,rfl,q _ x hx (k2.put2 (.inr hx)) ⟨dx,?_⟩⟩;rw[Zd];have e1:((laid wo).alonePage i c).on.length=c.length-(wo.set.height-1):=by
  have:((laid wo).alonePage i c).on=c.drop (wo.set.height-1):=rfl;rw[this,y0i]
 rw[e1];rfl
def Wr (K:Frag)(a:Ad):Sp:=fun vs H Q _=>∃(wk ll:Addr) (wo:Work) (i:Nat) (c:List (List Vh.Letters)),vs=[.ref wk,.ref ll,.int (i:Int),.int (c.length:Nat)]/\PgR a H wk ll wo/\i<=(lnl wo).length/\wl (laid wo) i c=[] /\
 ∀H' x,H x=none->Kp [] H H'->ZfL a H' x (ZH (laid wo) i c) 0->Q (.ref x) H'
noncomputable abbrev WX:Stmt:=top 51
theorem UG:Zm ["work","lines","first","carried"] ["work","lines","first","carried"] (Zh WX):=by walk_at "sc"
theorem ZcO {f:Addr}{fd:FuncData}(F:Fun K "forced_page" "forced_page" WX f fd)(T:Txt K mg a)(c_foot_alone:FnC P w K mg base CX0 3 "foot_alone" ["work","first","carried"] (JI K a))(c_cut_page:FnC P w K mg base CX0 6 "cut_page" ["work","lines","first","carried"] (ZbS K a)):FnOk P w K mg base CX0 7 f fd ["work","lines","first","carried"] (Wr K a):=by
 refine F.ok UG (by walk_at "ln") (fun cdv A outer s H vs Q E hr h=>?_);refine el5 h fun wk ll wo i c zq=>?_
 clear h;obtain⟨rfl,hP,hi,hw,q⟩:=zq;have nd:=UG.nd;refine⟨_,(Zb (ZV (PW.pt (YV (Zn Xp (pv 2) (Zp Zj rfl T.len y13 (Za (pv 1) Zc)) (Zs _)) (YQ (Zn WC (pv 3) (Zw Z6 (Zq (pv 0) rfl) Zg) (Zs _))))) (Ze (Zo (Zi c_cut_page hr Zu (Za (pv 0) (Za (pv 1) (Za (pv 2) (Za (pv 3) Zc))))))) Zv) (Ze (Zo (Zi c_foot_alone hr Zu (Za (pv 0) (Za (pv 2) (Za (pv 3) Zc))))))),?_⟩;walk_at "fp";obtain⟨us,h1,h2⟩:=hP.len;walk_at "fq";have hP0:=hP;walk_at "fp";obtain⟨⟨hb,hwk⟩,ok,_⟩:=hP;walk_at "fq";have hwk0:=hwk;walk_at "fp";refine el7 (WkR.wk hwk) fun dw aR aH aP aW aS aE hWk0=>?_
 walk_at "fq";have hsb:=YT ok.set;unfold ZH at q;rw[Z0,Y3] at q;walk_at "rd";refine⟨_,.inl (.inl (.inl h1)),?_⟩;by_cases hin:i<(lnl wo).length
 ·rw[if_pos (by lia)];refine⟨_,rfl,ex5 wk a.CW dw _ _ ⟨ rfl,hWk0,T.clWork,T.n_height,rfl,_,rfl,?_⟩⟩;by_cases hc:c.length+3<=wo.set.height
  ·rw[if_pos (by lia)];rw[if_pos ⟨hin,hc⟩] at q;exact ex5 wk ll wo i c ⟨rfl,hP0,hin,hc,hw,q⟩
  ·rw[if_neg (by lia)];rw[if_neg (fun z=>hc z.2)] at q;exact ex5 wk wo hb i c ⟨rfl,hwk0,by lia,q⟩
 ·rw[if_neg (by lia)];rw[if_neg (fun z=>hin z.1)] at q;exact ex5 wk wo hb i c ⟨rfl,hwk0,by lia,q⟩
theorem Zjx {t:TT}{σ:L2.St}{H:Hp}{Q:Bool->Hp->Prop}(b:Bool)(h:∀Q:Bool->Hp->Prop,(∀H',Kp [] H H'->Q b H')->t σ H Q)(q:∀H',Kp [] H H'->Q b H'):t σ H Q:=h Q q
theorem ZcJ.mono {us:List V}{wo:Work}{i j:Nat}(h:ZcJ us wo i)(hij:i<=j):ZcJ us wo j:=⟨h.1,fun e h1 h2=>h.2 e (by lia) h2⟩
def ZaS (K:Frag)(a:Ad):Sp:=fun vs H Q _=>∃(wk ll cs:Addr) (wo:Work) (i:Nat) (us:List V),vs=[.ref wk,.ref ll,.ref cs,.int (i:Int)]/\PgR a H wk ll wo/\i<(lnl wo).length/\H cs=some (.lst us)/\ZcJ us wo i/\∀H',Kp [] H H'->Q (.int (bst1 wo i:Nat)) H'
noncomputable abbrev U1:Stmt:=top 52
theorem Za2:Zm ["work","lines","costs","first","carried","page"] ["work","lines","costs","first"] (Zh U1):=by walk_at "sc"
theorem Ze7 {f:Addr}{fd:FuncData}(F:Fun K "cost_from" "cost_from" U1 f fd)(T:Txt K mg a)(c_forced_page:FnC P w K mg base CX0 7 "forced_page" ["work","lines","first","carried"] (Wr K a))(c_best_whole:FnC P w K mg base CX0 7 "best_whole" ["work","lines","costs","first","carried"] (WU K a))(c_may_be_whole:FnC P w K mg base CX0 6 "may_be_whole" ["work","lines","first","carried"] (YZ K a)):FnOk P w K mg base CX0 8 f fd ["work","lines","costs","first"] (ZaS K a):=by
 refine F.ok Za2 (by walk_at "ln") (fun cdv A outer s H vs Q E hr h=>?_);refine el6 h fun wk ll cs wo i0 us zq=>?_
 clear h;obtain⟨rfl,hP,hi,hcs,hC,q⟩:=zq;have nd:=Za2.nd;refine⟨_,(Zb (Zl (i:=4) nd rfl (Or.inl rfl) Zg) (Zb (Yg PassesOwn.never (PW.pt (YV (PW.pt (ZcL (Zn Xp (pv 3) (Zp Zj rfl T.len y13 (Za (pv 1) Zc)) (Zs _)) (JU (Zn Jc (pv 4) Zg (Zs _))))) (YQ (UO (X1 (Zi c_may_be_whole hr Zu (Za (pv 0) (Za (pv 1) (Za (pv 3) (Za (pv 4) Zc)))))))))) (Zb (Zl (i:=5) nd rfl (Or.inl rfl) (Zi c_forced_page hr Zu (Za (pv 0) (Za (pv 1) (Za (pv 3) (Za (pv 4) Zc)))))) (Zb (Zl (i:=3) nd rfl (Or.inl rfl) (Zq (pv 5) rfl)) (Ze (Zl (i:=4) nd rfl (Or.inl rfl) (Zq (pv 5) rfl)))))) (Zb (ZV (Zn Wb (pv 3) (Zp Zj rfl T.len y13 (Za (pv 1) Zc)) (Zs _)) (Ze (Zo Zg)) Zv) (Ze (Zo (ZE Yl (Zi c_best_whole hr Zu (Za (pv 0) (Za (pv 1) (Za (pv 2) (Za (pv 3) (Za (pv 4) Zc)))))) Zg (fun _ _=>rfl))))))),?_⟩;walk_at "fp";obtain⟨_,ok,_⟩:=id hP;walk_at "fq";have hF:=Y5 ok;have hsz:=Z0 wo;walk_at "rd";obtain⟨W,hW⟩:∃W:WT,W=fun m σ H'=>Kp [] H H'/\∃(i:Nat) (c:List (List Vh.Letters)) (o:Option V),σ=[some (.ref wk),some (.ref ll),some (.ref cs),some (.int (i:Int)),some (.int (c.length:Nat)),o]/\m=meas (laid wo) (Yy wo) i c/\i0<=i/\i<=(lnl wo).length/\(best (laid wo) (Yy wo) i c).1=bst1 wo i0:=⟨_,rfl⟩
 refine⟨W,⟨_,by rw[hW];exact⟨Kp.refl,ex3 i0 [] none ⟨ rfl,rfl,y0r _,by lia,rfl⟩⟩⟩,fun m σ H2 hw2=>?_⟩;rw[hW] at hw2;walk_at "fp";obtain⟨k2,i,c,o,rfl,rfl,hi0,hin,hbest⟩:=hw2;walk_at "fq";walk_at "fp";obtain⟨lv,hl1,hl2⟩:=(hP.keep k2).len;walk_at "fq";refine Zjx (t:=tAnd _ _) (decide (i<(lnl wo).length\/0<c.length) && (wl (laid wo) i c).isEmpty) (fun Q0 hQ=>?_) (fun H3 k3=>?_)
 ·walk_at "rd";refine⟨_,.inl (.inl (.inl hl1)),?_⟩;rw[hl2];have hmay:(i<(lnl wo).length\/0<c.length)->YZ K a [V.ref wk,V.ref ll,V.int (i:Int),V.int (c.length:Nat)] H2 (fun x H1=>∃c,x=V.bl c/\Q0 (!c) H1) E0:=fun hh=>by
   refine ex5 wk ll wo i c ⟨rfl,hP.keep k2,hin,fun H3 k3=>⟨_,rfl,?_⟩⟩;have:=hQ H3 k3;rw[decide_eq_true hh,Bool.true_and] at this;rw[Bool.not_not];exact this
  by_cases h1:i<(lnl wo).length
  ·rw[if_pos (by lia)];exact hmay (.inl h1)
  ·rw[if_neg (by lia)];by_cases h2:0<c.length
   ·rw[if_pos (by lia)];exact hmay (.inr h2)
   ·rw[if_neg (by lia)];have:=hQ H2 Kp.refl;rw[decide_eq_false (by lia),Bool.false_and] at this;exact this
 ·have k23:=k2.trans k3;walk_at "fp";obtain⟨lv3,hl3,hl4⟩:=(hP.keep k23).len;walk_at "fq";by_cases hh:i<(lnl wo).length\/0<c.length
  ·by_cases hwl:wl (laid wo) i c=[]
   ·have hc':i<(laid wo).lines.size\/c≠[]:=by
     rcases hh with h | h
     ·exact .inl (by lia)
     ·exact .inr (List.length_pos_iff.mp h)
    rw[if_pos (by rw[decide_eq_true hh,hwl];rfl)];refine⟨fun σ' H'=>∃m',m' < meas (laid wo) (Yy wo) i c/\W m' σ' H',fun _ _ z=>z,?_⟩;walk_at "rd";refine ex5 wk ll wo i c ⟨rfl,hP.keep k23,hin,hwl,fun H4 x hx k4 hpg=>?_⟩;obtain⟨d,hpg⟩:=hpg;refine⟨_,rfl,ex5 x a.CP d _ _ ⟨ rfl,hpg,T.clPage,T.nP_end,Zd0 _ _ _ _ _ _ _,?_⟩⟩;refine⟨_,rfl,ex5 x a.CP d _ _ ⟨ rfl,hpg,T.clPage,T.nP_rest,ZbB _ _ _ _ _ _ _,?_⟩⟩;have hm:=W8 hF (by lia) hwl hc';refine⟨_,hm,?_⟩;rw[hW];have hfl:=Xt (L:=laid wo) (c:=c) (i:=i) (by lia);refine⟨k23.trans k4,i+(ZH (laid wo) i c).lines,(ZH (laid wo) i c).on,_,by rw[Ud],rfl,by lia,by lia,?_⟩;rw[<- hbest]
    conv=>rhs;rw[Vi hF hwl hc']
   ·have hin':i<(lnl wo).length:=by
     have:¬ (laid wo).lines.size<=i:=fun z=>hwl ((ZcZ (laid wo) i c (by lia)).mpr (.inl z))
     lia
    rw[if_neg (by
     cases z:wl (laid wo) i c with
     | nil=>exact absurd z hwl
     | cons p l=>simp)]
    walk_at "rd";refine⟨_,.inl (.inl (.inl hl3)),?_⟩;rw[hl4,if_neg (by intro z;injection z with z;lia)];refine ex7 wk ll cs wo i c us ⟨rfl,hP.keep k23,hin,k23.z hcs,hC.mono hi0,hwl,fun H4 t p k4 hbp ht=>?_⟩;walk_at "fp";obtain⟨p',_,hb1,hb2⟩:=Uu hF (by lia) hwl;walk_at "fq";rw[hb1] at hbp;have hpp:p'=p:=by
     have:=Option.some.inj hbp;exact(Prod.mk.inj this).2
    subst hpp;refine Y4 0 ht rfl ?_;have e1:cst (laid wo) (Yy wo) i p'=bst1 wo i0:=by rw[<- hbest,hb2]
    rw[e1];exact q H4 (k23.trans k4)
  ·have hc0:c=[]:=List.length_eq_zero_iff.mp (by lia);have hin':i=(lnl wo).length:=by lia
   rw[if_neg (by rw[decide_eq_false hh];simp)];walk_at "rd";refine⟨_,.inl (.inl (.inl hl3)),?_⟩;rw[hl4,if_pos (by rw[hin'])];subst hc0;rw[Vj (laid wo) (Yy wo) (by lia)] at hbest;have:=q H3 k23;rw[<- hbest] at this;exact this
def ZbT (K:Frag)(a:Ad):Sp:=fun vs H Q _=>∃(wk ll:Addr) (wo:Work),vs=[.ref wk,.ref ll]/\PgR a H wk ll wo /\
 ∀H' p us,H p=none->Kp [] H H'->H' p=some (.lst us)->us.length=(lnl wo).length+1->(∀j,j<=(lnl wo).length->us[j]?=some (.int (bst1 wo j:Nat)))->Q (.ref p) H'
noncomputable abbrev WJ:Stmt:=top 53
theorem Zb0:Zm ["work","lines","costs","k","first"] ["work","lines"] (Zh WJ):=by walk_at "sc"
theorem Zej:Jv ["work","lines","costs","k","first"] (Zh WJ) (lcSc (Zbl (stI (ZI WJ) 0))) [("k",3)]:=by walk_at "bk"
theorem Zgf {f:Addr}{fd:FuncData}(F:Fun K "costs_of" "costs_of" WJ f fd)(T:Txt K mg a)(c_cost_from:FnC P w K mg base CX0 8 "cost_from" ["work","lines","costs","first"] (ZaS K a)):FnOk P w K mg base CX0 9 f fd ["work","lines"] (ZbT K a):=by
 refine F.ok Zb0 (by walk_at "ln") (fun cdv A outer s H vs Q E hr h=>?_);refine el3 h fun wk ll wo zq=>?_
 clear h;obtain⟨rfl,hP,q⟩:=zq;have nd:=Zb0.nd;refine⟨_,(Zb (JV (i:=2) rfl nd rfl rfl (ZbN rfl rfl rfl rfl) (Zb8 rfl T.range (Za (Zw ZS (Zp Zj rfl T.len y13 (Za (pv 1) Zc)) Zg) Zc)) Zej (fun _ _ _ _ _=>(ZK (i:=3) nd rfl (Or.inl rfl))) (fun _ _ _ _ _=>WB) (fun _ _ _ _ _=>Zg)) (Zb (Y7 PassesOwn.never rfl (Zb7 rfl T.range (Za (Zw Z6 (Zp Zj rfl T.len y13 (Za (pv 1) Zc)) Zg) (Za (ZeW ZaN Zg) (Za (ZeW ZaN Zg) Zc)))) (ZK (i:=4) nd rfl (Or.inl rfl)) (Ze (ZkL (Zi c_cost_from hr Zu (Za (pv 0) (Za (pv 1) (Za (pv 2) (Za (pv 4) Zc))))) (ZkN (pv 2) (pv 4) ZgN)))) (Ze (Zo (pv 2))))),?_⟩;walk_at "fp";obtain⟨lv,hl1,hl2⟩:=hP.len;walk_at "fq";walk_at "fp";obtain⟨_,ok,_⟩:=id hP;walk_at "fq";have hll:=X7 ok;have hn8:=ok.size;have hz:sizeLine=16777216:=by decide
 have hsz:=Z0 wo;refine⟨_,rfl,ll,_,rfl,.inl (.inl (.inl hl1)),_,_,rfl,rfl,_,rfl,by lia,by lia,fun D hD=>?_⟩;have en:Int.toNat ((lv.length:Int)+1)=(lnl wo).length+1:=by lia
 rw[en];obtain⟨Pv,hPv⟩:∃Pv:Nat->Hp->Prop,Pv=fun i H'=>Kp [] H H'/\H' D=some (.lst (List.replicate i (V.int 0))):=⟨_,rfl⟩
 refine J6 Pv ?_ ?_ ?_
 ·rw[hPv];exact⟨Kp.new hD,Zd⟩
 ·intro i H2 hi hw;rw[hPv] at hw;obtain⟨k,hD2⟩:=hw;refine⟨rfl,?_⟩;simp only[tYes];walk_at "rd";refine⟨_,hD2,by rw[y0g];lia,?_⟩;rw[hPv];refine⟨k.put2 (.inr hD),?_⟩;rw[Zd,<- List.replicate_succ']
 ·intro H2 hw;rw[hPv] at hw;obtain⟨k2,hD2⟩:=hw;clear hPv Pv;have hl1':=k2.z hl1;walk_at "rd";obtain⟨Pv,hPv⟩:∃Pv:WT,Pv=fun i σ H'=>Kp [] H H'/\∃(o:Option V) (us:List V),σ=[some (.ref wk),some (.ref ll),some (.ref D),none,o]/\us.length=(lnl wo).length+1/\H' D=some (.lst us)/\∀j,(lnl wo).length<=j+i->j<=(lnl wo).length->us[j]?=some (.int (bst1 wo j:Nat)):=⟨_,rfl⟩
  refine⟨_,rfl,ll,rfl,_,.inl (.inl (.inl hl1')),_,_,rfl,rfl,_,rfl,_,rfl,ex4 _ _ _ _ ⟨ rfl,RgC.neg (by lia) (by lia) (by lia) (by lia),ZaJ Pv ?_ ?_ ?_⟩⟩
  ·rw[hPv];refine⟨k2,none,_,rfl,y0g ..,hD2,fun j h1 h2=>?_⟩;have:j=(lnl wo).length:=by lia
   subst this;have e0:bst1 wo (lnl wo).length=0:=by
    unfold bst1;rw[Vj (laid wo) (Yy wo) (by lia)]
   rw[List.getElem?_replicate,if_pos (by lia),e0];rfl
  ·intro i σ H3 hi hw;rw[hPv] at hw;walk_at "fp";obtain⟨k3,o,us,rfl,hul,hD3,hT3⟩:=hw;walk_at "fq";have hst:(lv.length:Int)-1+(i:Int) * -1=(((lnl wo).length-1-i:Nat):Int):=by lia
   rw[hst];obtain⟨st,hst'⟩:∃st,st=(lnl wo).length-1-i:=⟨_,rfl⟩
   rw[<- hst'];walk_at "rd";refine ex6 wk ll D wo st us ⟨rfl,hP.keep k3,by lia,hD3,⟨hul,fun j h1 h2=>hT3 j (by lia) h2⟩,fun H4 k4=>?_⟩;have hD4:=k4.z hD3;refine⟨_,rfl,_,rfl,ex4 D us (st:Int) st ⟨ rfl,rfl,hD4,?_,?_⟩⟩
   ·unfold ixN;rw[if_pos (by lia),if_pos (by lia)];simp
   ·rw[hPv];refine⟨(k3.trans k4).put2 (.inr hD),_,us.set st (.int (bst1 wo st:Nat)),rfl,by rw[List.length_set];exact hul,Zd,fun j h1 h2=>?_⟩;by_cases z:j=st
    ·subst z;rw[List.getElem?_set_self (by lia)]
    ·rw[List.getElem?_set_ne (Ne.symm z)];exact hT3 j (by lia) h2
  ·intro σ H3 hw;rw[hPv] at hw;walk_at "fp";obtain⟨k3,o,us,rfl,hul,hD3,hT3⟩:=hw;walk_at "fq";walk_at "rd";exact q H3 D us hD k3 hD3 hul (fun j hj=>hT3 j (by lia) hj)
def Zjr (a:Ad)(H:Hp)(x:VhPage.Page×Nat)(v:V):Prop:=∃l,v=.ref l/\ZfL a H l x.1 x.2
def ZbQ (K:Frag)(a:Ad):Sp:=fun vs H Q _=>∃(wk ll:Addr) (wo:Work),vs=[.ref wk,.ref ll]/\PgR a H wk ll wo /\
 ∀H' p us,H p=none->Kp [] H H'->H' p=some (.lst us)->Paired (Zjr a H') (VC (laid wo) (laid wo).pages) us->Q (.ref p) H'
noncomputable abbrev Zap:Stmt:=top 54
theorem ZbX:Zm ["work","lines","costs","pages","first","carried","page"] ["work","lines"] (Zh Zap):=by walk_at "sc"
theorem Zgc {f:Addr}{fd:FuncData}(F:Fun K "pages_of" "pages_of" Zap f fd)(T:Txt K mg a)(c_costs_of:FnC P w K mg base CX0 9 "costs_of" ["work","lines"] (ZbT K a))(c_may_be_whole:FnC P w K mg base CX0 6 "may_be_whole" ["work","lines","first","carried"] (YZ K a))(c_whole_page:FnC P w K mg base CX0 6 "whole_page" ["work","lines","first","end","carried"] (JE K a))(c_forced_page:FnC P w K mg base CX0 7 "forced_page" ["work","lines","first","carried"] (Wr K a))(c_best_whole:FnC P w K mg base CX0 7 "best_whole" ["work","lines","costs","first","carried"] (WU K a)):FnOk P w K mg base CX0 10 f fd ["work","lines"] (ZbQ K a):=by
 refine F.ok ZbX (by walk_at "ln") (fun cdv A outer s H vs Q E hr h=>?_);refine el3 h fun wk ll wo zq=>?_
 clear h;obtain⟨rfl,hP,q⟩:=zq;have nd:=ZbX.nd;refine⟨_,(Zb (Zl (i:=2) nd rfl (Or.inl rfl) (Zi c_costs_of hr Zu (Za (pv 0) (Za (pv 1) Zc)))) (Zb (Zl (i:=3) nd rfl (Or.inl rfl) (ZW Zc)) (Zb (Zl (i:=4) nd rfl (Or.inl rfl) Zg) (Zb (Zl (i:=5) nd rfl (Or.inl rfl) Zg) (Zb (Yg PassesOwn.never (PW.pt (ZcL (Zn Xp (pv 4) (Zp Zj rfl T.len y13 (Za (pv 1) Zc)) (Zs _)) (JU (Zn Jc (pv 5) Zg (Zs _))))) (Zb (ZV (X1 (Zi c_may_be_whole hr Zu (Za (pv 0) (Za (pv 1) (Za (pv 4) (Za (pv 5) Zc)))))) (Ze (Zl (i:=6) nd rfl (Or.inl rfl) (Zi c_whole_page hr Zu (Za (pv 0) (Za (pv 1) (Za (pv 4) (Za (ZE Yl (Zi c_best_whole hr Zu (Za (pv 0) (Za (pv 1) (Za (pv 2) (Za (pv 4) (Za (pv 5) Zc)))))) Zg (fun _ _=>rfl)) (Za (pv 5) Zc)))))))) (Ze (Zl (i:=6) nd rfl (Or.inl rfl) (Zi c_forced_page hr Zu (Za (pv 0) (Za (pv 1) (Za (pv 4) (Za (pv 5) Zc)))))))) (Zb (Zr (Yj y0y y11 y12 ZZ (pv 3) (Za (pv 6) Zc))) (Zb (Zl (i:=4) nd rfl (Or.inl rfl) (Zq (pv 6) rfl)) (Ze (Zl (i:=5) nd rfl (Or.inl rfl) (Zq (pv 6) rfl))))))) (Ze (Zo (pv 3)))))))),?_⟩;walk_at "fp";obtain⟨_,ok,_⟩:=id hP;walk_at "fq";have hF:=Y5 ok;have hsz:=Z0 wo;have hms:=Zdi ok;have hz:sizeLine=16777216:=by decide
 walk_at "rd";refine ex3 wk ll wo ⟨rfl,hP,fun H1 cs cu hcs0 k1 hcs hcl hcu=>⟨by decide,fun p hp=>?_⟩⟩;have hpH:H p=none:=k1.free (by simp) hp;have kp:Kp [] H1 (upd H1 p (HO.lst [])):=Kp.new hp;obtain⟨W,hW⟩:∃W:WT,W=fun m σ H'=>Kp [] H1 H'/\∃(i:Nat) (c:List (List Vh.Letters)) (o:Option V) (us:List V) (dn:List (VhPage.Page×Nat)),σ=[some (.ref wk),some (.ref ll),some (.ref cs),some (.ref p),some (.int (i:Int)),some (.int (c.length:Nat)),o]/\m=meas (laid wo) (Yy wo) i c/\i<=(lnl wo).length/\H' p=some (.lst us)/\Paired (Zjr a H') dn us/\VC (laid wo) (laid wo).pages=dn++VC (laid wo) (best (laid wo) (Yy wo) i c).2/\us.length+meas (laid wo) (Yy wo) i c<=meas (laid wo) (Yy wo) 0 []:=⟨_,rfl⟩
 refine⟨W,⟨_,by
  rw[hW];exact⟨kp,0,[],none,[],[],rfl,rfl,y0u _,Zd,.nil,by rw[<- Zax hF];rfl,by simp⟩⟩,fun m σ H2 hw2=>?_⟩
 rw[hW] at hw2;walk_at "fp";obtain⟨k2,i,c,o,us,dn,rfl,rfl,hin,hus,hPg,hall,hmeas⟩:=hw2;walk_at "fq";have k12:=k1.trans k2;have hPk:=hP.keep k12;walk_at "fp";obtain⟨lv,hl1,hl2⟩:=hPk.len;walk_at "fq";refine Zij (t:=tOr _ _) (decide (i<(lnl wo).length\/0<c.length)) (fun Q0 hQ=>?_) ?_
 ·walk_at "rd";refine⟨_,.inl (.inl (.inl hl1)),?_⟩;rw[hl2];by_cases h1:i<(lnl wo).length
  ·rw[if_pos (by lia)];rw[decide_eq_true (.inl h1)] at hQ;exact hQ
  ·rw[if_neg (by lia)];have e1:decide ((0:Int)<(c.length:Nat))=decide (i<(lnl wo).length\/0<c.length):=decide_eq_decide.mpr (by lia);rw[e1];exact hQ
 ·by_cases hh:i<(lnl wo).length\/0<c.length
  ·rw[if_pos (by simpa using hh)];refine⟨fun σ' H'=>∃m',m' < meas (laid wo) (Yy wo) i c/\W m' σ' H',fun _ _ z=>z,?_⟩;have hc':i<(laid wo).lines.size\/c≠[]:=by
    rcases hh with h | h
    ·exact .inl (by lia)
    ·exact .inr (List.length_pos_iff.mp h)
   walk_at "rd";refine ex5 wk ll wo i c ⟨rfl,hPk,hin,fun H3 k3=>⟨_,rfl,?_⟩⟩;have hPk3:=hPk.keep k3;have k23:=k2.trans k3;have hpl:=Paired.length hPg;by_cases hwl:wl (laid wo) i c=[]
   ·rw[if_neg (by rw[hwl];simp)];refine ex5 wk ll wo i c ⟨rfl,hPk3,hin,hwl,fun H5 x hx k5 hpg=>?_⟩;have hm:=W8 hF (by lia) hwl hc';have hfl:=Xt (L:=laid wo) (c:=c) (i:=i) (by lia);have hwc:=Zet hF hwl hc';have k25:=k23.trans k5;have hpg0:=hpg;obtain⟨d,hpg⟩:=hpg;have hus5:=k5.z (k3 _ _ hus (by simp));have xp:x≠p:=fun z=>by rw[z,hus5] at hpg;cases hpg
    refine⟨.inl ⟨rfl,_,.inl (.inl hus5)⟩,us,hus5,by lia,?_⟩;have hpg6:upd H5 p (HO.lst (us++[V.ref x])) x=some (HO.ins a.CP d (pgf (VhG.kindOf (ZH (laid wo) i c)) (ZH (laid wo) i c).first ((ZH (laid wo) i c).first+(ZH (laid wo) i c).lines) (ZH (laid wo) i c).before (ZH (laid wo) i c).own (ZH (laid wo) i c).on.length 0)):=Zx xp hpg;refine⟨_,rfl,ex5 x a.CP d _ _ ⟨ rfl,hpg6,T.clPage,T.nP_end,Zd0 _ _ _ _ _ _ _,?_⟩⟩;refine⟨_,rfl,ex5 x a.CP d _ _ ⟨ rfl,hpg6,T.clPage,T.nP_rest,ZbB _ _ _ _ _ _ _,?_⟩⟩;refine⟨_,hm,?_⟩;rw[hW];refine⟨k25.put2 (.inr hp),i+(ZH (laid wo) i c).lines,(ZH (laid wo) i c).on,_,us++[.ref x],dn++[(ZH (laid wo) i c,0)],by rw[Ud],rfl,by lia,Zd,?_,?_,?_⟩
    ·refine Paired.snoc (Paired.mono (fun y v z=>?_) hPg) ⟨x,rfl,d,hpg6⟩;walk_at "fp";obtain⟨l,e,d',h⟩:=z;walk_at "fq";exact⟨l,e,d',Zx (WM h hus (by intro z;cases z)) (k5.z (k3 _ _ h (by simp)))⟩
    ·rw[hall,hwc,y0j];rfl
    ·rw[y01];simp only[y02,y04];lia
   ·have hin':i<(lnl wo).length:=by
     have:¬ (laid wo).lines.size<=i:=fun z=>hwl ((ZcZ (laid wo) i c (by lia)).mpr (.inl z))
     lia
    rw[if_pos (by
     cases z:wl (laid wo) i c with
     | nil=>exact absurd z hwl
     | cons p l=>simp)]
    refine ex7 wk ll cs wo i c cu ⟨rfl,hPk3,hin,k23.z hcs,⟨hcl,fun j _ hj=>hcu j hj⟩,hwl,fun H4 t pg k4 hbp ht=>?_⟩;walk_at "fp";obtain⟨p',hmem,hb1,hb2⟩:=Uu hF (by lia) hwl;walk_at "fq";rw[hb1] at hbp;have hpp:p'=pg:=by
     have:=Option.some.inj hbp;exact(Prod.mk.inj this).2
    subst hpp;walk_at "fp";obtain⟨k,hik,hkn,rfl,hwk⟩:=Zeq (laid wo) i c (by lia) hmem;walk_at "fq";have e4:i+(whole (laid wo) i c k).lines=k+1:=by show i+(k+1-i)=k+1;lia
    rw[e4] at ht;have k24:=k23.trans k4;refine Y4 1 ht rfl ⟨wk,ll,wo,i,k,c,rfl,hPk3.keep k4,hik,by lia,hwk,fun H5 x hx k5 hpg=>?_⟩;have hm:=Zai (L:=laid wo) (B:=Yy wo) (c:=c) hik hkn;have hwc:=ZfN hF (by lia) hik hb2;have k25:=k24.trans k5;obtain⟨d,hpg⟩:=hpg;have hus5:=k5 _ _ (k4.z (k3 _ _ hus (by simp))) (by simp);have xp:x≠p:=fun z=>by rw[z,hus5] at hpg;cases hpg
    refine⟨.inl ⟨rfl,_,.inl (.inl hus5)⟩,us,hus5,by lia,?_⟩;have hpg6:upd H5 p (HO.lst (us++[V.ref x])) x=some (HO.ins a.CP d (pgf (VhG.kindOf (whole (laid wo) i c k)) (whole (laid wo) i c k).first ((whole (laid wo) i c k).first+(whole (laid wo) i c k).lines) (whole (laid wo) i c k).before (whole (laid wo) i c k).own (whole (laid wo) i c k).on.length (ZbK (laid wo) i (k+1) (Z8 (laid wo) i c.length k)))):=Zx xp hpg;refine⟨_,rfl,ex5 x a.CP d _ _ ⟨ rfl,hpg6,T.clPage,T.nP_end,Zd0 _ _ _ _ _ _ _,?_⟩⟩;refine⟨_,rfl,ex5 x a.CP d _ _ ⟨ rfl,hpg6,T.clPage,T.nP_rest,ZbB _ _ _ _ _ _ _,?_⟩⟩;refine⟨_,hm,?_⟩;rw[hW];refine⟨k25.put2 (.inr hp),k+1,[],some (.ref x),us++[.ref x],dn++[(whole (laid wo) i c k,ZbK (laid wo) i (k+1) (Z8 (laid wo) i c.length k))],?_,rfl,by lia,Zd,?_,?_,?_⟩
    ·have e5:(whole (laid wo) i c k).first+(whole (laid wo) i c k).lines=k+1:=e4;rw[e5];rfl
    ·refine Paired.snoc (Paired.mono (fun y v z=>?_) hPg) ⟨x,rfl,d,hpg6⟩;walk_at "fp";obtain⟨l,e,d',h⟩:=z;walk_at "fq";exact⟨l,e,d',Zx (WM h hus (by intro z;cases z)) (k5 _ _ (k4.z (k3 _ _ h (by simp))) (by simp))⟩
    ·rw[hall,hwc,y0j];rfl
    ·rw[y01];simp only[y02,y04];lia
  ·rw[if_neg (by simpa using hh)];walk_at "rd";have hc0:c=[]:=List.length_eq_zero_iff.mp (by lia);subst hc0;rw[Vj (laid wo) (Yy wo) (by lia)] at hall;refine q H2 p us hpH k12 hus ?_;rw[hall];have:dn++VC (laid wo) (((0,[]):Nat×List VhPage.Page).2)=dn:=y08 dn;rw[this];exact hPg
noncomputable def ZkG (wo:Work)(k:Nat):List Nat:=List.replicate (YD wo.signs k).length 124++wo.paras.flatten.getD k []
noncomputable def YY (wo:Work)(f e:Nat):List (List Nat):=(List.range (e-f)).map fun d=>ZkG wo (f+d)
def LcW (J:It)(H1:Hp)(g:TG)(tt:TT)(te:TE)(vs:List Nat)(σ:L2.St)(Q:VK):Prop:=∀D,H1 D=none->∃W:Nat->Nat->Hp->Prop,(∃m,W 0 m (upd H1 D (.lst [])))/\∀i m H,W i m H ->
 (J.stop i H/\Q (.ref D) H)\/(J.go i H/\∃Nx:Hp->Prop,(∀H',Nx H'->∃m',m' < m/\W (i+1) m' H')/\∀x H',J.yld i H x H'->g x (wipe σ vs) H' fun σ2 H2=>wipe σ2 vs=wipe σ vs/\tt σ2 H2 fun b H3 =>
  if b=true then te σ2 H3 fun y H4=>∃acc,H4 D=some (.lst acc)/\acc.length<sizeLine/\Nx (upd H4 D (.lst (acc++[y]))) else Nx H3)
theorem Znq {tl:TE}{g:TG}{tt:TT}{te:TE}{vs:List Nat}{σ:L2.St}{H:Hp}{Q:VK}(h:tl σ H fun x H1=>∃a,x=.ref a/\(∃xs,SqL K H1 a xs)/\LcW (Itl K a) H1 g tt te vs σ Q):tLc (ZlE K tl) g tt te vs σ H Q:=h
def Vm (K:Frag)(a:Ad):Sp:=fun vs H Q _=>∃(wk ln d:Addr) (wo:Work) (hb:List UInt8) (f e:Nat) (o c:Bool) (tk:Nat) (nv:V),vs=[.ref wk,.ref ln]/\WkR a H wk wo hb/\H ln=some (.ins a.CL d (lnf f e o c tk nv))/\f<=e/\e<=wo.paras.flatten.length/\wo.paras.flatten.length<=8192/\wo.signs.length<=4096/\(∀x∈wo.paras.flatten,x.length<=64)/\(ZT 32 (YY wo f e)).length<=16777216 /\
 ∀H' p,H p=none->Kp [] H H'->H' p=some (.lst (lV (ZT 32 (YY wo f e))))->Q (.ref p) H'
noncomputable abbrev Ys:Stmt:=top 56
theorem Vs:Zm ["work","line","things","k","text"] ["work","line"] (Zh Ys):=by walk_at "sc"
theorem Zag:Jv ["work","line","things","k","text"] (Zh Ys) (lcSc (exL (Zkm (Zbl (stI (Zl9 (stI (ZI Ys) 1)) 0)) 0))) [("text",4)]:=by walk_at "bk"
theorem Zbm {f:Addr}{fd:FuncData}(F:Fun K "printed_words" "printed_words" Ys f fd)(T:Txt K mg a)(c_joined:FnC P w K mg base CX0 1 "joined" ["things","between"] (VI K a)):FnOk P w K mg base CX0 2 f fd ["work","line"] (Vm K a):=by
 refine F.ok Vs (by walk_at "ln") (fun cdv A outer s H vs Q E hr h=>?_);walk_at "fp";refine el11 h fun wk ln d wo hb f0 e0 o c tk nv zq=>?_
 clear h;obtain⟨rfl,hw,hR,hfe,he,hn,hsg,h5,hj,q⟩:=zq;walk_at "fq";have nd:=Vs.nd;refine⟨_,(Zb (Zl (i:=2) nd rfl (Or.inl rfl) (ZW Zc)) (Zb (Y7 PassesOwn.never rfl (X2 rfl T.range (Za (Zq (pv 1) rfl) (Za (Zq (pv 1) rfl) Zc))) (ZK (i:=3) nd rfl (Or.inl rfl)) (Ze (Zr (Yj y0y y11 y12 ZZ (pv 2) (Za (Zw Zdh (ZhK rfl nd (Xz (ZE ZA (Zq (pv 0) rfl) (pv 3) (fun _ _=>rfl))) Zag (fun _ _ _ _ _=>(ZK (i:=4) nd rfl (Or.inl rfl))) (fun _ _ _ _ _=>WB) (fun _ _ _ _ _=>(ZP T.cSTROKE))) (ZE ZA (Zq (pv 0) rfl) (pv 3) (fun _ _=>rfl))) Zc))))) (Ze (Zo (Zi c_joined hr Zu (Za (pv 2) (Za (ZP T.cBLANK) Zc))))))),?_⟩;walk_at "gs";have hw0:=hw;walk_at "fp";refine el12 hw.1.ex fun dw aR aH aP aW aS aE rs ps ws gs es zq=>?_
 obtain⟨hWk0,h2,h3,h4,h6,h7,h8,h9,h10,h11,h12,_⟩:=zq;obtain⟨_,ok,hl⟩:=hw;walk_at "fq";have hz:sizeLine=16777216:=by decide
 have hWk:=hWk0;have hWk2:=hWk0;have hR2:=hR;walk_at "gw";refine⟨by decide,fun D hD=>?_⟩;walk_at "gw";have hR1:upd H D (HO.lst []) ln=some (.ins a.CL d (lnf f0 e0 o c tk nv)):=Zx (Zf hR hD) hR;walk_at "gw";refine⟨_,rfl,ex5 _ _ _ _ _ ⟨ rfl,hR1,T.clLine,T.nL_first,Zcl f0 e0 o c tk nv,_,rfl,ex5 _ _ _ _ _ ⟨ rfl,hR1,T.clLine,T.nL_end,Zed f0 e0 o c tk nv,_,_,rfl,⟨by lia,by lia,by lia,by lia⟩,?_⟩⟩⟩;walk_at "gw";obtain⟨Pv,hPv⟩:∃Pv:WT,Pv=fun i σ H'=>∃o1 o2:Option V,σ=[some (.ref wk),some (.ref ln),some (.ref D),o1,o2]/\Kp [] H H'/\∃us,H' D=some (.lst us)/\Paired (fun x v=>LI H' x v/\v≠.ref D) ((List.range i).map fun d=>ZkG wo (f0+d)) us:=⟨_,rfl⟩
 refine Ue Pv ?_ ?_ ?_
 ·rw[hPv];exact ex2 none none ⟨rfl,Kp.new hD,[],Zd,.nil⟩
 ·intro i σ H2 hi hw2;rw[hPv] at hw2;walk_at "fp";refine el2 hw2 fun o1 o2 zq=>?_
  clear hw2;obtain⟨rfl,k,us,hD2,hP⟩:=zq;walk_at "fq";have ei:(f0:Int)+(i:Int)=((f0+i:Nat):Int):=by lia
  rw[ei];have hk:f0+i<wo.paras.flatten.length:=by lia
  have hkg:f0+i<gs.length:=by lia
  obtain⟨g,hg⟩:∃g,gs[f0+i]?=some g:=⟨gs[f0+i],y09 hkg⟩
  walk_at "fp";obtain⟨tv,t1,t2⟩:=h12 (f0+i) g hg;walk_at "fq";have htl:=Paired.length t2;rw[y03] at htl;have hsl:(YD wo.signs (f0+i)).length<=4096:=by
   unfold YD;rw[y03];exact y0q (List.length_filter_le _ _) hsg
  have hus:us.length=i:=by
   have:=Paired.length hP;rw[y03,List.length_range] at this;exact this.symm
  have hWk:=k.z hWk0;walk_at "fp";obtain⟨ws',l,g1,g2,g3⟩:=Yb.get (Yb.keep ⟨ws,h8,h9⟩ k) hk;walk_at "fq";walk_at "gw";refine⟨.inl ⟨rfl,_,.inl (.inl hD2)⟩,?_⟩;walk_at "gw";refine Znq ?_;walk_at "gw";refine⟨_,.inl (.inl (k.z h10)),_,XA (j:=f0+i) (v:=V.ref g) (by rw[y0l,hg];rfl),?_⟩;have t1':=k.z t1;refine ex1 g (⟨⟨_,.inl (.inl t1')⟩,fun D2 hD2'=>?_⟩);have dD:D≠D2:=Zf hD2 hD2';obtain⟨Pw,hPw⟩:∃Pw:Nat->Hp->Prop,Pw=fun j H'=>Kp [] H2 H'/\H' D2=some (.lst (lV (List.replicate j 124))):=⟨_,rfl⟩
  refine Zcq (xs:=tv) Pw ?_ ?_ ?_ ?_
  ·rw[hPw];exact⟨Kp.new hD2',Zd⟩
  ·intro j H' _ hw';rw[hPw] at hw';exact .inl (.inl (hw'.1 _ _ t1' (by simp)))
  ·intro j v H3 hj' hw';rw[hPw] at hw';obtain⟨k3,h3'⟩:=hw';walk_at "gw";refine⟨rfl,?_⟩;walk_at "gw";have hjl:j<tv.length:=(y0a.mp hj').1;walk_at "gw";refine⟨_,h3',by rw[Zy,y0g];lia,?_⟩;walk_at "gw";rw[hPw];walk_at "gw";refine⟨k3.put2 (.inr hD2'),?_⟩;walk_at "gw";rw[Zd,List.replicate_succ'];unfold lV;rw[y07];rfl
  ·intro H3 hw';rw[hPw] at hw';obtain⟨k3,h3'⟩:=hw';have kk:=k.trans k3;have hWk:=kk.z hWk0;walk_at "gw";refine⟨_,.inl (.inl (k3.z g1)),_,XA (j:=f0+i) g2,?_⟩;walk_at "gw";refine ex4 D2 l _ _ ⟨rfl,rfl,h3',k3.z g3,?_,fun p4 hp4=>?_⟩
   ·have:=Zc2 h5 (f0+i);rw[Zy,Zy,y0g];lia
   ·have hD3:=k3.z hD2;have d4:D≠p4:=Zf hD3 hp4;walk_at "gr";refine⟨us,Zx d4 hD3,by lia,?_⟩;walk_at "gr";rw[hPv];have k4:=k3.trans (Kp.new (o:=HO.lst (lV (List.replicate tv.length 124)++lV (wo.paras.flatten.getD (f0+i) []))) hp4);walk_at "gr";refine ex2 _ _ ⟨rfl,(k.trans k4).put2 (.inr hD),us++[V.ref p4],Zd,?_⟩;walk_at "gr";rw[List.range_succ,y07];refine Paired.snoc (Paired.mono (fun x v z=>?_) hP) ⟨⟨p4,rfl,?_⟩,by intro z;cases z;exact d4 rfl⟩
    ·walk_at "fp";obtain⟨⟨l',e1,e2⟩,nl⟩:=z;walk_at "fq";exact⟨⟨l',e1,by rw[Zk (fun z=>nl (by rw[e1,z]))];exact k4.z e2⟩,nl⟩
    ·rw[Zk (Ne.symm d4),Zd,Xs,<- htl];rfl
 ·intro σ H2 hw2;rw[hPv] at hw2;walk_at "fp";refine el2 hw2 fun o1 o2 zq=>?_
  clear hw2;obtain⟨rfl,k,us,hD2,hP⟩:=zq;walk_at "fq";have en:Int.toNat ((e0:Int)-(f0:Int))=e0-f0:=by lia
  rw[en] at hP;walk_at "gr";exact ex4 D us (YY wo f0 e0) 32 ⟨rfl,hD2,Paired.mono (fun x v z=>z.1) hP,hj,fun H3 p3 hp3 k3 hl3=>q H3 p3 (k.free (by simp) hp3) (k.trans k3) hl3⟩
noncomputable def YS (wo:Work)(f n:Nat):List (List Nat):=(List.range n).flatMap fun d=>(YD wo.signs (f+d)).map (ZT 32)
noncomputable def XQ (wo:Work)(f e:Nat):List Nat:=if (YS wo f (e-f)).length=0 then[] else[32,123]++ZT 124 (YS wo f (e-f))++[125]
theorem Zis (wo:Work)(f n m:Nat)(h:n<=m):(YS wo f n).length<=(YS wo f m).length:=by
 obtain⟨d,rfl⟩:∃d,m=n+d:=⟨m-n,by lia⟩
 unfold YS;rw[List.range_add,List.flatMap_append,y01];lia
def Vn (K:Frag)(a:Ad):Sp:=fun vs H Q _=>∃(wk ln d:Addr) (wo:Work) (hb:List UInt8) (f e:Nat) (o c:Bool) (tk:Nat) (nv:V),vs=[.ref wk,.ref ln]/\WkR a H wk wo hb/\H ln=some (.ins a.CL d (lnf f e o c tk nv))/\f<=e/\e<=wo.paras.flatten.length/\wo.paras.flatten.length<=8192/\(YS wo f (e-f)).length<=4096/\(ZT 124 (YS wo f (e-f))).length<=16777000 /\
 ∀H' p,H p=none->Kp [] H H'->H' p=some (.lst (lV (XQ wo f e)))->Q (.ref p) H'
noncomputable abbrev XU:Stmt:=top 57
theorem Vt:Zm ["work","line","texts","k"] ["work","line"] (Zh XU):=by walk_at "sc"
theorem Zbn {f:Addr}{fd:FuncData}(F:Fun K "printed_signs" "printed_signs" XU f fd)(T:Txt K mg a)(c_characters_of:FnC P w K mg base CX0 1 "characters_of" ["text"] (ZQ K a))(c_joined:FnC P w K mg base CX0 1 "joined" ["things","between"] (VI K a)):FnOk P w K mg base CX0 2 f fd ["work","line"] (Vn K a):=by
 refine F.ok Vt (by walk_at "ln") (fun cdv A outer s H vs Q E hr h=>?_);walk_at "fp";refine el11 h fun wk ln d wo hb f0 e0 o c tk nv zq=>?_
 clear h;obtain⟨rfl,hw,hR,hfe,he,hn,hsg,hj,q⟩:=zq;walk_at "fq";have nd:=Vt.nd;refine⟨_,(Zb (Zl (i:=2) nd rfl (Or.inl rfl) (ZW Zc)) (Zb (Y7 PassesOwn.never rfl (X2 rfl T.range (Za (Zq (pv 1) rfl) (Za (Zq (pv 1) rfl) Zc))) (ZK (i:=3) nd rfl (Or.inl rfl)) (Ze (Zr (Yj y0y y0z y10 ZG (pv 2) (Za (ZE ZA (Zq (pv 0) rfl) (pv 3) (fun _ _=>rfl)) Zc))))) (Zb (ZV (Zn Wb (Zp Zj rfl T.len y13 (Za (pv 2) Zc)) Zg (Zs _)) (Ze (Zo (ZW Zc))) Zv) (Ze (Zo (Zw Zdh (Zw Zdh (Zi c_characters_of hr Zu (Za ZB Zc)) (Zi c_joined hr Zu (Za (pv 2) (Za (ZP T.cSTROKE) Zc)))) (Zi c_characters_of hr Zu (Za ZB Zc)))))))),?_⟩;walk_at "gs";have hw0:=hw;walk_at "fp";refine el12 hw.1.ex fun dw aR aH aP aW aS aE rs ps ws gs es zq=>?_
 obtain⟨hWk0,h2,h3,h4,h6,h7,h8,h9,h10,h11,h12,_⟩:=zq;obtain⟨_,ok,hl⟩:=hw;walk_at "fq";have hz:sizeLine=16777216:=by decide
 have hWk:=hWk0;have hWk2:=hWk0;have hR2:=hR;walk_at "gw";refine⟨by decide,fun D hD=>?_⟩;walk_at "gw";have hR1:upd H D (HO.lst []) ln=some (.ins a.CL d (lnf f0 e0 o c tk nv)):=Zx (Zf hR hD) hR;walk_at "gw";refine⟨_,rfl,ex5 _ _ _ _ _ ⟨ rfl,hR1,T.clLine,T.nL_first,Zcl f0 e0 o c tk nv,_,rfl,ex5 _ _ _ _ _ ⟨ rfl,hR1,T.clLine,T.nL_end,Zed f0 e0 o c tk nv,_,_,rfl,⟨by lia,by lia,by lia,by lia⟩,?_⟩⟩⟩;walk_at "gw";have en:Int.toNat ((e0:Int)-(f0:Int))=e0-f0:=by lia
 obtain⟨Pv,hPv⟩:∃Pv:WT,Pv=fun i σ H'=>∃o1:Option V,σ=[some (.ref wk),some (.ref ln),some (.ref D),o1]/\Kp [] H H'/\∃us,H' D=some (.lst us)/\Paired (LI H) (YS wo f0 i) us:=⟨_,rfl⟩
 refine Ue Pv ?_ ?_ ?_
 ·rw[hPv];exact⟨none,rfl,Kp.new hD,[],Zd,.nil⟩
 ·intro i σ H2 hi hw2;rw[hPv] at hw2;walk_at "fp";obtain⟨o1,rfl,k,us,hD2,hP⟩:=hw2;walk_at "fq";rw[en] at hi;have ei:(f0:Int)+(i:Int)=((f0+i:Nat):Int):=by lia
  rw[ei];have hkg:f0+i<gs.length:=by lia
  obtain⟨g,hg⟩:∃g,gs[f0+i]?=some g:=⟨gs[f0+i],y09 hkg⟩
  walk_at "fp";obtain⟨tv,t1,t2⟩:=h12 (f0+i) g hg;walk_at "fq";have htl:=Paired.length t2;have hus:=Paired.length hP;have e1:YS wo f0 (i+1)=YS wo f0 i++(YD wo.signs (f0+i)).map (ZT 32):=by unfold YS;rw[List.range_succ,List.flatMap_append];simp
  have hle:=Zis wo f0 (i+1) (e0-f0) (by lia);rw[e1,y01] at hle;have hWk:=k.z hWk0;walk_at "gw";refine⟨.inl ⟨rfl,_,.inl (.inl hD2)⟩,?_⟩;walk_at "gw";refine⟨_,.inl (.inl (k.z h10)),_,XA (j:=f0+i) (v:=V.ref g) (by rw[y0l,hg];rfl),?_⟩;walk_at "gw";refine ex2 _ _ ⟨hD2,k.z t1,by lia,?_⟩;walk_at "gr";rw[hPv];walk_at "gr";refine⟨_,rfl,k.put2 (.inr hD),us++tv,Zd,?_⟩;walk_at "gr";rw[e1];exact Paired.app hP t2
 ·intro σ H2 hw2;rw[hPv] at hw2;walk_at "fp";obtain⟨o1,rfl,k,us,hD2,hP⟩:=hw2;walk_at "fq";rw[en] at hP;have hus:=Paired.length hP;unfold XQ at q;walk_at "gr";refine⟨_,.inl (.inl (.inl hD2)),?_⟩;walk_at "gr";split
  ·rename_i h;rw[if_pos (by lia)] at q;walk_at "gr";refine⟨by decide,fun p3 hp3=>q _ p3 (k.free (by simp) hp3) (k.trans (Kp.new hp3)) Zd⟩
  ·rename_i h;rw[if_neg (by lia)] at q;have b1:(Str.ofString " {").cps.toList=[32,123]:=by decide
   have b2:(Str.ofString "}").cps.toList=[125]:=by decide
   walk_at "gr";refine⟨_,rfl,by decide,fun H3 p3 hp3 k3 hl3=>?_⟩;walk_at "gr";rw[b1] at hl3;have k13:=k.trans k3;walk_at "gr";refine ex4 D us _ 124 ⟨rfl,k3.z hD2,Paired.mono (fun x v ⟨l,e1,e2⟩=>⟨l,e1,k13.z e2⟩) hP,by lia,fun H4 p4 hp4 k4 hl4=>?_⟩;walk_at "gr";have k14:=k13.trans k4;walk_at "gr";refine ex4 p3 p4 _ _ ⟨rfl,rfl,k4.z hl3,hl4,by rw[Zy,Zy];simp only[y02,y04];lia,fun p5 hp5=>?_⟩;walk_at "gr";rw[Xs];have k15:=k14.trans (Kp.new (o:=HO.lst (lV ([32,123]++ZT 124 (YS wo f0 (e0-f0))))) hp5);walk_at "gr";refine⟨_,rfl,by decide,fun H6 p6 hp6 k6 hl6=>?_⟩;walk_at "gr";rw[b2] at hl6;walk_at "gr";refine ex4 p5 p6 _ _ ⟨rfl,rfl,k6.z Zd,hl6,by rw[Zy,Zy];simp only[y02,y04,y01];lia,fun p7 hp7=>?_⟩;walk_at "gr";rw[Xs];have k16:=k15.trans k6;exact q _ p7 (k16.free (by simp) hp7) (k16.trans (Kp.new hp7)) Zd
noncomputable def ZR (fl:List (List Nat)):List Nat:=fl.flatMap fun x=>32::x++[10]
noncomputable def Zi6 (fl:List (List Nat)):List Nat:=if fl.length=0 then[] else[126,10]++ZR fl
theorem J9 (fl:List (List Nat))(x:List Nat):ZR (fl++[x])=ZR fl++[32]++x++[10]:=by unfold ZR;rw[List.flatMap_append];simp
theorem Zgv (fl:List (List Nat))(i:Nat):(ZR (fl.take i)).length<=(ZR fl).length:=by
 have h:ZR fl=ZR (fl.take i)++ZR (fl.drop i):=by unfold ZR;rw[<- List.flatMap_append,List.take_append_drop]
 rw[h,y01];lia
def VG (K:Frag)(a:Ad):Sp:=fun vs H Q _=>∃(fa:Addr) (fl:List (List Nat)),vs=[.ref fa]/\Yb H fa fl/\(ZR fl).length<=16777000 /\
 ∀H' p,H p=none->Kp [] H H'->H' p=some (.lst (lV (Zi6 fl)))->Q (.ref p) H'
noncomputable abbrev Wx:Stmt:=top 59
theorem VO:Zm ["foot_lines","printed","foot_line"] ["foot_lines"] (Zh Wx):=by walk_at "sc"
theorem Zce {f:Addr}{fd:FuncData}(F:Fun K "printed_foot" "printed_foot" Wx f fd)(T:Txt K mg a)(c_characters_of:FnC P w K mg base CX0 1 "characters_of" ["text"] (ZQ K a)):FnOk P w K mg base CX0 2 f fd ["foot_lines"] (VG K a):=by
 refine F.ok VO (by walk_at "ln") (fun cdv A outer s H vs Q E hr h=>?_);refine el2 h fun fa fl zq=>?_
 clear h;obtain⟨rfl,⟨fv,hfa,hP⟩,hb,q⟩:=zq;have nd:=VO.nd;refine⟨_,(Zb (ZV (Zn Wb (Zp Zj rfl T.len y13 (Za (pv 0) Zc)) Zg (Zs _)) (Ze (Zo (ZW Zc))) Zv) (Zb (Zl (i:=1) nd rfl (Or.inl rfl) (Zi c_characters_of hr Zu (Za ZB Zc))) (Zb (Y7 PassesOwn.never rfl (Xz (pv 0)) (ZK (i:=2) nd rfl (Or.inl rfl)) (Zb (Zr (Yj y0y y0z y10 ZG (pv 1) (Za (Zi c_characters_of hr Zu (Za ZB Zc)) Zc))) (Zb (Zr (Yj y0y y0z y10 ZG (pv 1) (Za (pv 2) Zc))) (Ze (Zr (Yj y0y y0z y10 ZG (pv 1) (Za (Zi c_characters_of hr Zu (Za ZB Zc)) Zc))))))) (Ze (Zo (pv 1)))))),?_⟩;have hz:sizeLine=16777216:=by decide
 have hfl:=Paired.length hP;have b1:(Str.ofString "~\n").cps.toList=[126,10]:=by decide
 have b2:(Str.ofString " ").cps.toList=[32]:=by decide
 have b3:(Str.ofString "\n").cps.toList=[10]:=by decide
 unfold Zi6 at q;walk_at "gs";walk_at "gr";refine⟨_,.inl (.inl (.inl hfa)),?_⟩;walk_at "gr";by_cases h:fv.length=0
 ·rw[if_pos (by lia)] at q;rw[if_pos (by lia)];clear hM;walk_at "gr";refine⟨(show 0<=sizeLine by decide),fun p hp=>?_⟩;walk_at "gr";exact q _ p hp (Kp.new hp) Zd
 ·rw[if_neg (by lia)] at q;rw[if_neg (by lia)];walk_at "gr";refine⟨_,rfl,by decide,fun H1 p1 hp1 k1 hl1=>?_⟩;rw[b1] at hl1;walk_at "gr";obtain⟨Pv,hPv⟩:∃Pv:WT,Pv=fun i σ H'=>∃o:Option V,σ=[some (.ref fa),some (.ref p1),o]/\Kp [] H H'/\H' p1=some (.lst (lV ([126,10]++ZR (fl.take i)))):=⟨_,rfl⟩
  refine ZkU ?_;walk_at "gr";refine ex1 _ (⟨⟨_,.inl (.inl (k1.z hfa))⟩,W9 (xs:=fv) Pv ?_ ?_ ?_ ?_⟩)
  ·rw[hPv];exact⟨none,rfl,k1,hl1⟩
  ·intro i σ H' _ hw';rw[hPv] at hw';obtain⟨o,rfl,k,_⟩:=hw';exact .inl (.inl (k.z hfa))
  ·intro i v σ H2 hi hw';rw[hPv] at hw';obtain⟨o,rfl,k,hl2⟩:=hw';obtain⟨x,hx,l,rfl,hlx⟩:=Paired.get hP hi;have hle:=Zgv fl (i+1);rw[ZD hx,J9] at hle;simp only[y01,y02,y04] at hle;walk_at "gr";refine⟨.inl ⟨rfl,_,.inl (.inl hl2)⟩,?_⟩;walk_at "gr";refine⟨_,rfl,by decide,fun H3 p3 hp3 k3 hl3=>?_⟩;rw[b2] at hl3;walk_at "gr";refine ex2 _ _ ⟨k3.z hl2,hl3,by rw[Zy,Zy];simp only[y01,y02,y04];lia,?_⟩;rw[Xs];have k4:Kp [] H (upd H3 p1 (HO.lst (lV ([126,10]++ZR (fl.take i)++[32])))):=(k.trans k3).put2 (.inr hp1);have hl4:upd H3 p1 (HO.lst (lV ([126,10]++ZR (fl.take i)++[32]))) p1=some (HO.lst (lV ([126,10]++ZR (fl.take i)++[32]))):=Zd;generalize upd H3 p1 (HO.lst (lV ([126,10]++ZR (fl.take i)++[32])))=H4 at k4 hl4 ⊢;walk_at "gr";refine⟨.inl ⟨rfl,_,.inl (.inl hl4)⟩,?_⟩;walk_at "gr";refine ex2 _ _ ⟨hl4,k4.z hlx,by rw[Zy,Zy];simp only[y01,y02,y04];lia,?_⟩;rw[Xs];have k5:Kp [] H (upd H4 p1 (HO.lst (lV ([126,10]++ZR (fl.take i)++[32]++x)))):=k4.put2 (.inr hp1);have hl5:upd H4 p1 (HO.lst (lV ([126,10]++ZR (fl.take i)++[32]++x))) p1=some (HO.lst (lV ([126,10]++ZR (fl.take i)++[32]++x))):=Zd;generalize upd H4 p1 (HO.lst (lV ([126,10]++ZR (fl.take i)++[32]++x)))=H5 at k5 hl5 ⊢;walk_at "gr";refine⟨.inl ⟨rfl,_,.inl (.inl hl5)⟩,?_⟩;walk_at "gr";refine⟨_,rfl,by decide,fun H6 p6 hp6 k6 hl6=>?_⟩;rw[b3] at hl6;walk_at "gr";refine ex2 _ _ ⟨k6.z hl5,hl6,by rw[Zy,Zy];simp only[y01,y02,y04];lia,?_⟩;rw[Xs];walk_at "gr";rw[hPv];refine⟨_,rfl,(k5.trans k6).put2 (.inr hp1),?_⟩;rw[Zd,ZD hx,J9];simp
  ·intro σ H2 hw';rw[hPv] at hw';obtain⟨o,rfl,k,hl2⟩:=hw';rw[<- hfl,y0e (y0r _)] at hl2;refine hM _ _ _ ?_;walk_at "gr";exact q H2 p1 hp1 k hl2
noncomputable def WN (every n:Nat):List Nat:=if n % every=0 then List.replicate (4-(VhPage.num10 n).length) 32++VhPage.num10 n else List.replicate 4 32
noncomputable def Zg6 (wo:Work)(f e:Nat)(o:Bool)(n:Nat):List Nat:=WN wo.set.every n++[32]++List.replicate (if o=true then wo.set.indent else 0) 32++ZT 32 (YY wo f e)++XQ wo f e++[10]
theorem Zdf (x:Str):(Txt.rjust x 4).cps.toList=List.replicate (4-x.cps.toList.length) 32++x.cps.toList:=by
 unfold Txt.rjust;rw[<- Y9];by_cases h:(4:Int)<=x.length
 ·rw[if_pos h];have:4-x.length=0:=by lia
  rw[this];rfl
 ·rw[if_neg h,PyProof.Rows.padded_list];have:Int.toNat 4=4:=rfl;rw[this];simp
theorem Ziw (n:Nat):(⟨(List.replicate n (Str.ofString " ").cps).foldl (·++·) #[]⟩:Str).cps.toList=List.replicate n 32:=by
 have h:∀(n:Nat) (acc:Array Nat),((List.replicate n (Str.ofString " ").cps).foldl (·++·) acc).toList=acc.toList++List.replicate n 32:=fun n=>by
  induction n with
  | zero=>intro acc;simp
  | succ n ih =>
   intro acc;rw[List.replicate_succ,List.foldl_cons,ih];have b2:(Str.ofString " ").cps.toList=[32]:=by decide
   rw[Array.toList_append,b2,List.replicate_succ,y0j];rfl
 have:=h n #[];simpa using this
def VF (K:Frag)(a:Ad):Sp:=fun vs H Q _=>∃(wk ln d:Addr) (wo:Work) (hb:List UInt8) (f e n:Nat) (o c:Bool) (tk:Nat) (nv:V),vs=[.ref wk,.ref ln,.int (n:Int)]/\WkR a H wk wo hb/\H ln=some (.ins a.CL d (lnf f e o c tk nv))/\f<=e/\e<=wo.paras.flatten.length/\wo.paras.flatten.length<=8192/\wo.signs.length<=4096/\(∀x∈wo.paras.flatten,x.length<=64)/\(YS wo f (e-f)).length<=4096/\n<100000/\1<=wo.set.every/\wo.set.every<=100/\1<=wo.set.indent/\wo.set.indent<=16 /\
 (ZT 32 (YY wo f e)).length<=8000000/\(ZT 124 (YS wo f (e-f))).length<=8000000 /\
 ∀H' p,H p=none->Kp [] H H'->H' p=some (.lst (lV (Zg6 wo f e o n)))->Q (.ref p) H'
theorem Zhb {tt:TT}{ta tb:TE}{i:Nat}{D:Ends}{σ:L2.St}{H:Hp}(b:Bool)(v:V)(ht:∀Q:Bool->Hp->Prop,Q b H->tt σ H Q)(ha:b=true->∀Q:VK,Q v H->ta σ H Q)(hb:b=false->∀Q:VK,Q v H->tb σ H Q)(q:D.nx (σ.set i (some v)) H):tAsg (tIf tt ta tb) (VB i) D σ H:=by
 refine ht _ ?_;cases b
 ·show if false=true then _ else _
  rw[if_neg (by decide)];exact hb rfl _ q
 ·show if true=true then _ else _
  rw[if_pos rfl];exact ha rfl _ q
noncomputable abbrev Ww:Stmt:=top 58
theorem VN:Zm ["work","line","number","margin","indent","printed"] ["work","line","number"] (Zh Ww):=by walk_at "sc"
theorem Zcd {f:Addr}{fd:FuncData}(F:Fun K "printed_line" "printed_line" Ww f fd)(T:Txt K mg a)(c_characters_of:FnC P w K mg base CX0 1 "characters_of" ["text"] (ZQ K a))(c_printed_words:FnC P w K mg base CX0 2 "printed_words" ["work","line"] (Vm K a))(c_printed_signs:FnC P w K mg base CX0 2 "printed_signs" ["work","line"] (Vn K a)):FnOk P w K mg base CX0 3 f fd ["work","line","number"] (VF K a):=by
 refine F.ok VN (by walk_at "ln") (fun cdv A outer s H vs Q E hr h=>?_);walk_at "fp";refine el12 h fun wk ln d wo hb f e n o c tk nv zq=>?_
 clear h;obtain⟨rfl,hw,hR,hfe,he,hn8,hsg,h5,hsl,hn,hE1,hE2,hI1,hI2,hj1,hj2,q⟩:=zq;walk_at "fq";have nd:=VN.nd;refine⟨_,(Zb (Zl (i:=3) nd rfl (Or.inl rfl) (Zd1 (Zn Wb (Zw Ze2 (pv 2) (Zq (pv 0) rfl)) Zg (Zs _)) (Zca Zbi rfl T.str boot_str (Za (pv 2) Zc)) ZB)) (Zb (Zl (i:=4) nd rfl (Or.inl rfl) (Zd1 (W3 (Zq (pv 1) rfl) (fun _=>rfl)) (Zw ZhO ZB (Zq (pv 0) rfl)) ZB)) (Zb (Zl (i:=5) nd rfl (Or.inl rfl) (Zi c_characters_of hr Zu (Za (Zw Zaz (Zw Zaz (ZjK (pv 3) Zg) ZB) (pv 4)) Zc))) (Zb (Zr (Yj y0y y0z y10 ZG (pv 5) (Za (Zi c_printed_words hr Zu (Za (pv 0) (Za (pv 1) Zc))) Zc))) (Zb (Zr (Yj y0y y0z y10 ZG (pv 5) (Za (Zi c_printed_signs hr Zu (Za (pv 0) (Za (pv 1) Zc))) Zc))) (Zb (Zr (Yj y0y y0z y10 ZG (pv 5) (Za (Zi c_characters_of hr Zu (Za ZB Zc)) Zc))) (Ze (Zo (pv 5))))))))),?_⟩;have hw0:=hw;walk_at "fp";refine el7 (WkR.wk hw) fun dw aR aH aP aW aS aE hWk=>?_
 walk_at "fq";have w4:=YI (n:=n) (k:=5) (by decide) (by lia);have b0:(Str.ofString "").cps.toList=[]:=by decide
 have b1:(Str.ofString " ").cps.toList=[32]:=by decide
 have b2:(Str.ofString "\n").cps.toList=[10]:=by decide
 have hz:sizeLine=16777216:=by decide
 obtain⟨mx,hmx⟩:∃mx:Str,mx=if n % wo.set.every=0 then Str.ofString (toString (n:Int)) else Str.ofString "":=⟨_,rfl⟩
 have hml:mx.cps.toList=if n % wo.set.every=0 then VhPage.num10 n else[]:=by
  rw[hmx];split
  ·exact Wp n
  ·exact b0
 obtain⟨ix,hix⟩:∃ix:Str,ix=if o=true then(⟨(List.replicate wo.set.indent (Str.ofString " ").cps).foldl (·++·) #[]⟩:Str) else Str.ofString "":=⟨_,rfl⟩
 have hil:ix.cps.toList=List.replicate (if o=true then wo.set.indent else 0) 32:=by
  rw[hix];split
  ·exact Ziw _
  ·exact b0
 refine Zhb (decide (n % wo.set.every=0)) (.str mx) (fun Q0 hQ=>?_) (fun hb Q0 hQ=>?_) (fun hb Q0 hQ=>?_) ?_
 ·walk_at "rd";refine⟨_,rfl,ex5 wk a.CW dw _ _ ⟨ rfl,hWk,T.clWork,T.n_every,rfl,_,rfl,by lia,?_⟩⟩;have ed:decide ((n:Int) % (wo.set.every:Int)=0)=decide (n % wo.set.every=0):=decide_eq_decide.mpr (by lia);rw[ed];exact hQ
 ·walk_at "rd";rw[if_pos (of_decide_eq_true hb)] at hmx;rw[hmx] at hQ;exact⟨V8 (by lia),hQ⟩
 ·walk_at "rd";rw[if_neg (of_decide_eq_false hb)] at hmx;rw[hmx] at hQ;exact hQ
 ·dsimp only;refine Zhb o (.str ix) (fun Q0 hQ=>?_) (fun hb Q0 hQ=>?_) (fun hb Q0 hQ=>?_) ?_
  ·walk_at "rd";exact⟨_,rfl,ex5 ln a.CL d _ _ ⟨ rfl,hR,T.clLine,T.nL_opens,Zck _ _ _ _ _ _,o,rfl,hQ⟩⟩
  ·walk_at "rd";refine⟨_,rfl,ex5 wk a.CW dw _ _ ⟨ rfl,hWk,T.clWork,T.n_indent,rfl,_,rfl,by lia,by lia,by decide,?_⟩⟩;rw[if_pos hb] at hix;rw[hix] at hQ;rw[Int.toNat_natCast];exact hQ
  ·walk_at "rd";rw[if_neg (by rw[hb];decide)] at hix;rw[hix] at hQ;exact hQ
  ·walk_at "rd";have hjs:(Txt.rjust mx 4++Str.ofString " "++ix).cps.toList=WN wo.set.every n++[32]++List.replicate (if o=true then wo.set.indent else 0) 32:=by
    rw[Yq,Yq,Zdf,b1,hil,hml];unfold WN;split
    ·rfl
    ·simp
   have hfl:(WN wo.set.every n).length<=9:=by
    unfold WN;split
    ·rw[y01,y0g];lia
    ·rw[y0g];lia
   have hin:(if o=true then wo.set.indent else 0)<=16:=by split <;> lia
   have hrl:(Txt.rjust mx 4).length<=9:=by
    rw[Y9,Zdf,hml,y01,y0g];split
    ·lia
    ·simp
   have hbl:(Str.ofString " ").length=1:=by decide
   have hxl:ix.length<=16:=by rw[Y9,hil,y0g];exact hin
   have hal:(Txt.rjust mx 4++Str.ofString " ").length<=10:=by
    rw[Y9,Yq,b1,y01,<- Y9];simp only[y02,y04];lia
   refine⟨_,rfl,⟨mx,rfl⟩,mx,rfl,_,rfl,by decide,_,rfl,by lia,by lia,_,rfl,?_,fun H1 p1 hp1 k1 hl1=>?_⟩
   ·rw[<- Array.length_toList,hjs];simp only[y01,y0g,y02,y04];lia
   ·rw[hjs] at hl1;refine⟨.inl ⟨rfl,_,.inl (.inl hl1)⟩,ex11 wk ln d wo hb f e o c tk nv ⟨ rfl,hw0.keep k1,k1.z hR,hfe,he,hn8,hsg,h5,by lia,fun H2 p2 hp2 k2 hl2=>?_⟩⟩;have hl12:=k2.z hl1;refine ex1 p1 (ex1 p2 (⟨_,hl12,_,hl2,?_,?_⟩))
    ·rw[Zy,Zy];simp only[y01,y0g,y02,y04];lia
    rw[Xs];have k3:Kp [] H (upd H2 p1 (HO.lst (lV (WN wo.set.every n++[32]++List.replicate (if o=true then wo.set.indent else 0) 32++ZT 32 (YY wo f e))))):=(k1.trans k2).put2 (.inr hp1);have hl3:upd H2 p1 (HO.lst (lV (WN wo.set.every n++[32]++List.replicate (if o=true then wo.set.indent else 0) 32++ZT 32 (YY wo f e)))) p1=some (HO.lst (lV (WN wo.set.every n++[32]++List.replicate (if o=true then wo.set.indent else 0) 32++ZT 32 (YY wo f e)))):=Zd;generalize upd H2 p1 (HO.lst (lV (WN wo.set.every n++[32]++List.replicate (if o=true then wo.set.indent else 0) 32++ZT 32 (YY wo f e))))=H3 at *;have hsl2:(XQ wo f e).length<=8000003:=by
     unfold XQ;split
     ·simp
     ·simp only[y01,y02,y04];lia
    refine⟨.inl ⟨rfl,_,.inl (.inl hl3)⟩,ex11 wk ln d wo hb f e o c tk nv ⟨ rfl,hw0.keep k3,k3.z hR,hfe,he,hn8,hsl,by lia,fun H4 p4 hp4 k4 hl4=>?_⟩⟩;have hl34:=k4.z hl3;refine ex1 p1 (ex1 p4 (⟨_,hl34,_,hl4,?_,?_⟩))
    ·rw[Zy,Zy];simp only[y01,y0g,y02,y04];lia
    rw[Xs];have k5:Kp [] H (upd H4 p1 (HO.lst (lV (WN wo.set.every n++[32]++List.replicate (if o=true then wo.set.indent else 0) 32++ZT 32 (YY wo f e)++XQ wo f e)))):=(k3.trans k4).put2 (.inr hp1);have hl5:upd H4 p1 (HO.lst (lV (WN wo.set.every n++[32]++List.replicate (if o=true then wo.set.indent else 0) 32++ZT 32 (YY wo f e)++XQ wo f e))) p1=some (HO.lst (lV (WN wo.set.every n++[32]++List.replicate (if o=true then wo.set.indent else 0) 32++ZT 32 (YY wo f e)++XQ wo f e))):=Zd;generalize upd H4 p1 (HO.lst (lV (WN wo.set.every n++[32]++List.replicate (if o=true then wo.set.indent else 0) 32++ZT 32 (YY wo f e)++XQ wo f e)))=H5 at *;refine⟨.inl ⟨rfl,_,.inl (.inl hl5)⟩,_,rfl,by decide,fun H6 p6 hp6 k6 hl6=>?_⟩;rw[b2] at hl6;have hl56:=k6.z hl5;refine ex1 p1 (ex1 p6 (⟨_,hl56,_,hl6,?_,?_⟩))
    ·rw[Zy,Zy];simp only[y01,y0g,y02,y04];lia
    rw[Xs];exact q _ p1 hp1 ((k5.trans k6).put2 (.inr hp1)) (by rw[Zd];rfl)
theorem Zg9 (s:Nat):∀xs:List (List Nat),ZT s xs=jl s xs
 | []=>rfl
 | [_]=>rfl
 | x::y::r=>by
  show x++s::ZT s (y::r)=x++s::jl s (y::r);rw[Zg9 s (y::r)]
theorem Zee (s:Nat):ZT s=jl s:=funext (Zg9 s)
theorem Zff (wo:Work)(f e:Nat)(o:Bool)(n:Nat):Zg6 wo f e o n=Zbu wo f e o n:=by
 unfold Zg6 Zbu XQ ZaW YS Ws;rw[Zee,Zee];rfl
theorem Zi4 (fl:List (List Nat)):Zi6 fl=Uf fl:=rfl
theorem Zk8 (wo:Work)(f n:Nat):(YS wo f n).length<=wo.signs.length:=by
 have e2:=sumF (fun(x:Nat×List Vh.Letters)=>x.1) (fun _=>1) (f+n) wo.signs;rw[Uq] at e2;have e3:((List.range (f+n)).map fun k=>((wo.signs.filter fun e=>e.1==k).map fun _=>1).sum).sum=Sm (fun k=>(sgn wo k).length) 0 (f+n):=by
  unfold Sm;congr 1;apply List.map_congr_left;intro k _;rw[Uq,Nat.zero_add];show _=((wo.signs.filter fun x=>x.1==k).map (·.2)).length;rw[y03];lia
 rw[e3,ZbG,Nat.zero_add] at e2;have e4:(YS wo f n).length=Sm (fun k=>(sgn wo k).length) f n:=by
  unfold YS;rw[ZkE (fun k=>(YD wo.signs k).map (ZT 32)) f n];unfold Sm;congr 1;apply List.map_congr_left;intro k _;show((YD wo.signs (f+k)).map (ZT 32)).length=_;rw[y03];rfl
 lia
theorem Zcm (wo:Work)(i n:Nat):YB wo i (n+1)=YB wo i n++Zbu wo ((laid wo).line (i+n)).first (((laid wo).line (i+n)).first+((laid wo).line (i+n)).count) ((laid wo).line (i+n)).begins ((laid wo).numberOf i (i+n)):=by
 unfold YB;rw[List.range_succ,List.flatMap_append];simp
theorem Zcn (wo:Work)(i n:Nat):∀d,(YB wo i n).length<=(YB wo i (n+d)).length
 | 0=>y0r _
 | d+1=>by
  have:=Zcn wo i n d;rw[<- Nat.add_assoc,Zcm,y01];lia
theorem Zbc (L:VhPage.Laid)(i n:Nat):L.ownFoot i (i+(n+1))=L.ownFoot i (i+n)++L.footOf (i+n) (L.numberOf i (i+n)):=by
 unfold VhPage.Laid.ownFoot;have e1:i+(n+1)-i=n+1:=by lia
 have e2:i+n-i=n:=by lia
 rw[e1,e2,List.range_succ,List.flatMap_append];simp
theorem ZfV {wo:Work}(ok:WOk wo){k:Nat}(hk:k<(lnl wo).length):∀t∈ZN wo k,t.length<=160:=fun t ht=>by
 have hne:ZN wo k≠[]:=by intro z;rw[z] at ht;simp at ht
 have hm:t∈(laid wo).note k 0:=by rw[Zci wo hk,if_neg hne];exact y0c _ ht
 unfold VhPage.Laid.note at hm;dsimp only at hm;rw[Xr wo hk] at hm;by_cases hes:(wo.entries.filter fun e=>lineOf (lnl wo) e.first==k).isEmpty=true
 ·rw[if_pos hes] at hm;simp at hm
 ·rw[if_neg hes] at hm;rcases y0b.mp hm with z | z
  ·rw[z];have:=Us (n:=0) (by decide);rw[y02];lia
  ·obtain⟨e,he,hz⟩:=List.mem_flatMap.mp z;have hw:=(List.mem_filter.mp he).1;rcases y0b.mp hz with y | y
   ·rw[y];have:=Zg8 ok hk hw;lia
   ·have:=((ok.ent e hw).2.2.2 t y).2.1;lia
theorem Zgu {wo:Work}{k:Nat}(hk:k<(lnl wo).length)(n:Nat):(laid wo).footOf k n=if ZN wo k=[] then[] else VhPage.cut (Zfp wo (ZN wo k) n) ((35::VhPage.num10 n)::ZN wo k):=by
 unfold VhPage.Laid.footOf;simp only[];rw[Zci wo hk,Y3];split
 ·rfl
 ·rfl
theorem Zi3 {K:Frag}{a:Addr}{xs:List V}{g:TG}{tb:TS}{D:Ends}{σ:L2.St}{H:Hp}(Pv:WT)(h0:Pv 0 σ H)(hl:∀i σ H,i<=xs.length->Pv i σ H->SqL K H a xs)
  (hs:∀i x σ H T,xs[i]?=some x->Pv i σ H->H T=none->g (.ref T) σ (upd H T (.tup [.int ((i+1:Nat):Int),x])) fun σ2 H2=>tb { D with nx:=Pv (i+1),ct:=Pv (i+1),bk:=D.nx } σ2 H2) (hd:∀σ H,Pv xs.length σ H->D.nx σ H) :
  ∃W:Nat->Nat->L2.St->Hp->Prop,(∃m,W 0 m σ H)/\∀i m σ H,W i m σ H ->
   ((Ite1 K a).stop i H/\D.nx σ H)\/((Ite1 K a).go i H/\∃N:L2.St->Hp->Prop,(∀σ' H',N σ' H'->∃m',m' < m/\W (i+1) m' σ' H')/\∀x H',(Ite1 K a).yld i H x H'->g x σ H' fun σ2 H2=>tb { D with nx:=N,ct:=N,bk:=D.nx } σ2 H2):=by
 refine⟨fun i m σ H=>m=xs.length-i/\i<=xs.length/\Pv i σ H,⟨_,rfl,y0u _,h0⟩,?_⟩;rintro i m σ H ⟨rfl,hi,p⟩;have q:=hl i σ H hi p;by_cases hlt:i<xs.length
 ·refine .inr ⟨⟨xs,xs[i],q,by simp[hlt]⟩,Pv (i+1),fun σ' H' p'=>⟨xs.length-(i+1),by lia,rfl,hlt,p'⟩,fun x H' y=>?_⟩;refine el2 y fun T z zq=>?_
  clear y;obtain⟨rfl,hT,rfl,hz⟩:=zq;exact hs i z σ _ T (hz xs q) p hT
 ·have e:i=xs.length:=by lia
  subst e;exact .inl ⟨⟨xs,q,y0r _⟩,hd σ H p⟩
theorem Zkq {α:Type}{l:List α}{i:Nat}{x:α}(h:l[i]?=some x):l.drop i=x::l.drop (i+1):=by
 obtain⟨hi,e⟩:=y0a.mp h;rw[List.drop_eq_getElem_cons hi,e]
def Wt (H:Hp)(pl wt:Addr)(c:List (List Vh.Letters)):Prop:=∃us,H wt=some (.lst us)/\Paired (fun x v=>∃l,v=V.ref l/\(l≠pl/\l≠wt)/\H l=some (.lst (lV x))) (c.map (jl 32)) us
theorem Wt.keep {H H':Hp}{pl wt:Addr}{c:List (List Vh.Letters)}(h:Wt H pl wt c)(k:Kp [pl] H H')(n:wt≠pl):Wt H' pl wt c:=by
 obtain⟨us,h1,h2⟩:=h;exact⟨us,k _ _ h1 (by simpa using n),Paired.mono (fun x v ⟨l,e1,e2,e3⟩=>⟨l,e1,e2,k _ _ e3 (by simpa using e2.1)⟩) h2⟩
theorem Zlp {k:Nat}(hk:k<100000000):(Str.empty++Str.ofString "="++Str.ofString (toString (k:Int))++Str.ofString "\n").cps.toList=ZF k/\(Str.empty++Str.ofString "=").length<=1/\(Str.empty++Str.ofString "="++Str.ofString (toString (k:Int))).length<=9/\(Str.empty++Str.ofString "="++Str.ofString (toString (k:Int))++Str.ofString "\n").length<=10:=by
 have bs1:(Str.ofString "=").cps.toList=[61]:=by decide
 have bs2:(Str.ofString "\n").cps.toList=[10]:=by decide
 have be:Str.empty.cps.toList=[]:=by decide
 have nl:=YI (n:=k) (k:=8) (by decide) (by lia);have eS:(Str.empty++Str.ofString "="++Str.ofString (toString (k:Int))++Str.ofString "\n").cps.toList=ZF k:=by
  rw[Yq,Yq,Yq,be,bs1,bs2,Wp];rfl
 refine⟨eS,?_,?_,?_⟩
 ·rw[Y9,Yq,be,bs1];simp
 ·rw[Y9,Yq,Yq,be,bs1,Wp];simp;lia
 ·rw[Y9,eS];unfold ZF;simp;lia
theorem ZlU (us:List V)(k:Nat):cutV us none (some (k:Int))=us.take k:=by
 unfold cutV;rw[HT.sIx_none,HT.sIx_nat,List.drop_zero,Nat.sub_zero];by_cases h:k<=us.length
 ·rw[Nat.min_eq_left h]
 ·rw[Nat.min_eq_right (by lia),y0e (y0r _),y0e (by lia)]
theorem ZlR (us:List V)(k:Nat):cutV us (some (k:Int)) none=us.drop k:=by
 unfold cutV;rw[HT.sIx_none,HT.sIx_nat];by_cases h:k<=us.length
 ·rw[Nat.min_eq_left h,y0e (by rw[y0i];lia)]
 ·rw[Nat.min_eq_right (by lia),List.drop_of_length_le (y0r _),List.drop_of_length_le (by lia)];simp
theorem Zbd (L:VhPage.Laid)(i n:Nat):∀d,(L.ownFoot i (i+n)).length<=(L.ownFoot i (i+(n+d))).length
 | 0=>y0r _
 | d+1=>by
  have:=Zbd L i n d;rw[<- Nat.add_assoc n d 1,Zbc,y01];lia
theorem Zi5 (fl:List (List Nat)):fl.length<=(Uf fl).length:=by
 unfold Uf;split
 ·lia
 ·rw[y01];have:∀l:List (List Nat),l.length<=(l.flatMap fun x=>32::x++[10]).length:=fun l=>by
   induction l with
   | nil=>exact y0r _
   | cons z l ih=>rw[y0m,y01,y02];simp only[y01,y02,y04];lia
  have:=this fl;lia
theorem ZlX (fl:List (List Nat)):(ZR fl).length<=(Uf fl).length:=by
 unfold Uf ZR;split
 ·rename_i h;rw[List.eq_nil_of_length_eq_zero h];simp
 ·rw[y01];lia
theorem ZdB {wo:Work}:∀(ps:List VhPage.Page) (k i:Nat) (c:List (List Vh.Letters)),flow (laid wo) i c ps->c.length<=(V2 wo k ps).length
 | [],_,_,c,h=>by
  have h:c=[]:=h;rw[h];exact y0u _
 | p::r,k,i,c,h=>by
  obtain⟨h1,h2,h3,h4⟩:=h;have ih:=ZdB r (k+1) _ _ h4;have a1:=congrArg List.length h2;rw[y01,y01] at a1;have a2:=Zi5 (p.foot.map (jl 32));rw[y03] at a2;show _<=(Zf9 wo k p++V2 wo (k+1) r).length;unfold Zf9;rw[y01,y01,y01];lia
theorem ZhN {α:Type}{R:α->Addr->Prop}{xs:List α}{la:List Addr}(h:Paired R xs la):Paired (fun x v=>∃l,v=V.ref l/\R x l) xs (la.map V.ref):=by
 induction h with
 | nil=>exact .nil
 | cons r _ ih=>exact .cons ⟨_,rfl,r⟩ ih
def Vo (K:Frag)(a:Ad):Sp:=fun vs H Q _=>∃(wk ll pp:Addr) (wo:Work) (us:List V),vs=[.ref wk,.ref ll,.ref pp]/\WkR a H wk wo wo.head/\WOk wo/\ZgD a H ll wo/\H pp=some (.lst us)/\Paired (Zjr a H) (VC (laid wo) (laid wo).pages) us/\(YK wo).length<=4000000 /\
 ∀H' p,H p=none->Kp [] H H'->H' p=some (.lst (lV (YK wo)))->Q (.ref p) H'
noncomputable abbrev XV:Stmt:=top 60
theorem Vu:Zm ["work","lines","pages","printed","waiting","k","page","at","number","shown"] ["work","lines","pages"] (Zh XV):=by walk_at "sc"
theorem Zbo {f:Addr}{fd:FuncData}(F:Fun K "printed_pages" "printed_pages" XV f fd)(T:Txt K mg a)(c_characters_of:FnC P w K mg base CX0 1 "characters_of" ["text"] (ZQ K a))(c_number_of_line:FnC P w K mg base CX0 1 "number_of_line" ["work","k","page_first"] (Xa K a))(c_printed_foot:FnC P w K mg base CX0 2 "printed_foot" ["foot_lines"] (VG K a))(c_printed_line:FnC P w K mg base CX0 3 "printed_line" ["work","line","number"] (VF K a))(c_foot_lines_of:FnC P w K mg base CX0 4 "foot_lines_of" ["work","note","number"] (Vq K a)):FnOk P w K mg base CX0 5 f fd ["work","lines","pages"] (Vo K a):=by
 refine F.ok Vu (by walk_at "ln") (fun cdv A outer s H vs Q E hr h=>?_);walk_at "fp";refine el5 h fun wk ll pp wo us zq=>?_
 clear h;obtain⟨rfl,hw,ok,hLs,hpp,hPg,hlen,q⟩:=zq;walk_at "fq";have nd:=Vu.nd;refine⟨_,(Zb (Zl (i:=3) nd rfl (Or.inl rfl) (Zca ZfC rfl T.list boot_list (Za (Zq (pv 0) rfl) Zc))) (Zb (Zl (i:=4) nd rfl (Or.inl rfl) (ZW Zc)) (Zb (Y7 PassesOwn.never rfl (ZjJ rfl T.enumerate (Za (pv 2) Zc)) (ZkM rfl (ZbA (ZK (i:=5) nd rfl (Or.inl rfl)) (ZbA (ZK (i:=6) nd rfl (Or.inl rfl)) Ziz))) (Zb (Zr (Yj y0y y0z y10 ZG (pv 3) (Za (Zi c_characters_of hr Zu (Za (Zf7 (PEs.cons ZB (PEs.cons (Zli (pv 5)) (PEs.cons ZB PEs.nil)))) Zc)) Zc))) (Zb (Y7 PassesOwn.never rfl (X2 rfl T.range (Za (Zq (pv 6) rfl) (Za (Zq (pv 6) rfl) Zc))) (ZK (i:=7) nd rfl (Or.inl rfl)) (Zb (Zl (i:=8) nd rfl (Or.inl rfl) (Zi c_number_of_line hr Zu (Za (pv 0) (Za (pv 7) (Za (Zq (pv 6) rfl) Zc))))) (Zb (Zr (Yj y0y y0z y10 ZG (pv 3) (Za (Zi c_printed_line hr Zu (Za (pv 0) (Za (ZE ZA (pv 1) (pv 7) (fun _ _=>rfl)) (Za (pv 8) Zc)))) Zc))) (Ze (ZV (Zn Zll (Zq (ZE ZA (pv 1) (pv 7) (fun _ _=>rfl)) rfl) ZeX (Zs _)) (Ze (Zr (Yj y0y y0z y10 ZG (pv 4) (Za (Zi c_foot_lines_of hr Zu (Za (pv 0) (Za (Zq (ZE ZA (pv 1) (pv 7) (fun _ _=>rfl)) rfl) (Za (pv 8) Zc)))) Zc)))) Zv))))) (Zb (Zl (i:=9) nd rfl (Or.inl rfl) (Zw Z6 (Zp Zj rfl T.len y13 (Za (pv 4) Zc)) (Zq (pv 6) rfl))) (Zb (Zr (Yj y0y y0z y10 ZG (pv 3) (Za (Zi c_printed_foot hr Zu (Za (JY ZbV (pv 4) Zf5 (U8 (pv 9))) Zc)) Zc))) (Ze (Zl (i:=4) nd rfl (Or.inl rfl) (JY ZbV (pv 4) (U8 (pv 9)) Zf5)))))))) (Ze (Zo (pv 3)))))),?_⟩;have hz:sizeLine=16777216:=by decide
 have hF:=Y5 ok;have hfl:=Ur hF;have hlc:=X7 ok;have hok:=ok.size;have hsb:=YT ok.set;have hpl0:=Paired.length hPg;rw[Zer] at hpl0;have hfew:=ZeZ ok;have hP:PgR a H wk ll wo:=⟨⟨_,hw⟩,ok,hLs⟩;walk_at "fp";refine el12 (id hw).1.ex fun dw aR aH aP aW aS aE rs ps ws gs es zq=>?_
 obtain⟨hWk,h2,h3,h4,_⟩:=zq;walk_at "fq";have hWk2:=hWk;walk_at "gs";walk_at "gw";refine⟨_,.inl (.inl (.inl h4)),fun pl hpl=>?_⟩;walk_at "gw";have eh:bsV wo.head=lV (wo.head.map fun(c:UInt8)=>c.toNat):=by unfold bsV lV;rw[List.map_map];rfl
 rw[eh];have k1:Kp [] H (upd H pl (HO.lst (lV (wo.head.map fun(c:UInt8)=>c.toNat)))):=Kp.new hpl;have hpl1:upd H pl (HO.lst (lV (wo.head.map fun(c:UInt8)=>c.toNat))) pl=some (HO.lst (lV (wo.head.map fun(c:UInt8)=>c.toNat))):=Zd;generalize upd H pl (HO.lst (lV (wo.head.map fun(c:UInt8)=>c.toNat)))=H1 at k1 hpl1 ⊢;refine⟨(show 0<=sizeLine by decide),fun wt0 hwt0=>?_⟩;walk_at "gw";have wp0:wt0≠pl:=fun z=>by rw[z,hpl1] at hwt0;cases hwt0
 have hw00:H wt0=none:=k1.free (by simp) hwt0;have k2:Kp [] H (upd H1 wt0 (HO.lst [])):=k1.trans (Kp.new hwt0);obtain⟨Pv,hPv⟩:∃Pv:WT,Pv=fun i σ H'=>∃(A:List Nat) (c:List (List Vh.Letters)) (f:Nat) (wt:Addr) (o5 o6 o7 o8 o9:Option V),σ=[some (.ref wk),some (.ref ll),some (.ref pp),some (.ref pl),some (.ref wt),o5,o6,o7,o8,o9]/\Kp [] H H'/\H' pl=some (.lst (lV A))/\YK wo=A++V2 wo (i+1) ((laid wo).pages.drop i)/\flow (laid wo) f c ((laid wo).pages.drop i)/\H wt=none/\wt≠pl/\Wt H' pl wt c:=⟨_,rfl⟩
 refine⟨_,rfl,_,_,rfl,.inl (.inl (k2.z hpp)),Zi3 (xs:=us) Pv ?_ ?_ ?_ ?_⟩
 ·rw[hPv];exact ex9 _ [] 0 wt0 none none none none none ⟨rfl,k2,Zx (Ne.symm wp0) hpl1,rfl,hfl,hw00,wp0,[],Zd,.nil⟩
 ·intro i σ H' _ hw';rw[hPv] at hw';refine el9 hw' fun _ _ _ _ _ _ _ _ _ zq=>?_
  clear hw';obtain⟨rfl,k,_⟩:=zq;exact .inl (.inl (k.z hpp))
 ·intro i v σ H2 t hi hw' ht;rw[hPv] at hw';refine el9 hw' fun A c f wt o5 o6 o7 o8 o9 zq=>?_
  clear hw';obtain⟨rfl,k,hA,eA,hfw,hwt,wp,hW⟩:=zq;walk_at "fp";obtain⟨⟨pg,cst⟩,hpg',b,rfl,dp,hb⟩:=Paired.get hPg hi;walk_at "fq";have hil:i<us.length:=(y0a.mp hi).1;obtain⟨pg2,hpg⟩:∃pg2,(laid wo).pages[i]?=some pg2:=⟨_,y09 (by lia)⟩
  have hpc:=Zes (laid wo) _ _ _ hpg;rw[hpg'] at hpc;have hb:H b=some (.ins a.CP dp (pgf (VhG.kindOf pg) pg.first (pg.first+pg.lines) pg.before pg.own pg.on.length cst)):=hb;obtain⟨rfl,_⟩:pg=pg2/\True:=by injection hpc with z;injection z with z1 z2;exact⟨z1,trivial⟩
  rw[Zkq hpg] at hfw eA;walk_at "fp";obtain⟨f1,f2,f3,f4⟩:=hfw;walk_at "fq";rw[Z0] at f3;subst f1;have hcar:=ZdB _ (i+1+1) _ _ f4;have hown:=congrArg List.length f2;rw[y01,y01] at hown;have hfg:=Zi5 (pg.foot.map (jl 32));rw[y03] at hfg;have eA:YK wo=A++(ZF (i+1)++(YB wo pg.first pg.lines++Uf (pg.foot.map (jl 32))))++V2 wo (i+1+1) ((laid wo).pages.drop (i+1)):=by
   rw[eA,y0j];rfl
  have hle:=congrArg List.length eA;rw[y01,y01,y01,y01] at hle;obtain⟨eS,l1,l2,l3⟩:=Zlp (k:=i+1) (by lia);have kt:Kp [] H (upd H2 t (HO.tup [V.int ((i+1:Nat):Int),V.ref b])):=k.trans (Kp.new ht);have hA1:upd H2 t (HO.tup [V.int ((i+1:Nat):Int),V.ref b]) pl=some (.lst (lV A)):=Zx (Zf hA ht) hA;have hW1:Wt (upd H2 t (HO.tup [V.int ((i+1:Nat):Int),V.ref b])) pl wt c:=hW.keep (Kp.new ht) wp;have htt:upd H2 t (HO.tup [V.int ((i+1:Nat):Int),V.ref b]) t=some (HO.tup [V.int ((i+1:Nat):Int),V.ref b]):=Zd;generalize upd H2 t (HO.tup [V.int ((i+1:Nat):Int),V.ref b])=H3 at kt hA1 hW1 htt ⊢;clear hA hW k ht;walk_at "gw";refine ex2 t _ ⟨rfl,.inl (.inl htt),rfl,?_⟩;refine Zi1 ?_;walk_at "gw";refine Zi1 ?_;walk_at "gw";refine⟨rfl,?_⟩;walk_at "gw";refine⟨.inl ⟨rfl,_,.inl (.inl hA1)⟩,?_⟩;walk_at "gw";refine ex1 _ (⟨by lia,_,rfl,_,rfl,V8 (by lia),_,rfl,(by rw[hz];exact y0q l2 (by decide)),_,rfl,(by rw[hz];exact y0q l3 (by decide)),(by rw[hz];exact y0q l3 (by decide)),?_⟩);walk_at "gw";have ehl:(ZF (i+1)).length<=10:=by rw[<- eS,<- Y9];exact l3
  refine⟨_,rfl,by rw[<- Array.length_toList,eS];lia,fun H4 p4 hp4 k4 hl4=>?_⟩;rw[eS] at hl4;walk_at "gw";have hA4:=k4.z hA1;refine ex2 _ _ ⟨hA4,hl4,by rw[Zy,Zy];lia,?_⟩;rw[Xs];have k5:Kp [] H (upd H4 pl (HO.lst (lV (A++ZF (i+1))))):=(kt.trans k4).put2 (.inr hpl);have k35:Kp [pl] H3 (upd H4 pl (HO.lst (lV (A++ZF (i+1))))):=(k4.mono (by simp)).put2 (.inl (by simp));have hA5:upd H4 pl (HO.lst (lV (A++ZF (i+1)))) pl=some (.lst (lV (A++ZF (i+1)))):=Zd;have hW5:=hW1.keep k35 wp;generalize upd H4 pl (HO.lst (lV (A++ZF (i+1))))=H5 at k5 hA5 hW5 ⊢;clear k35 hA4 hl4 k4 hp4 hA1 hW1 kt htt;walk_at "gw";have en:Int.toNat (((pg.first+pg.lines:Nat):Int)-(pg.first:Int))=pg.lines:=by lia
  have hb5:=k5.z hb;obtain⟨Pw,hPw⟩:∃Pw:WT,Pw=fun j σ H'=>∃(o7 o8:Option V),σ=[some (.ref wk),some (.ref ll),some (.ref pp),some (.ref pl),some (.ref wt),some (.int ((i+1:Nat):Int)),some (.ref b),o7,o8,o9]/\Kp [] H H'/\H' pl=some (.lst (lV (A++ZF (i+1)++YB wo pg.first j)))/\Wt H' pl wt (c++(laid wo).ownFoot pg.first (pg.first+j)):=⟨_,rfl⟩
  refine⟨_,rfl,ex5 _ _ _ _ _ ⟨ rfl,hb5,T.clPage,T.nP_first,ZeV _ _ _ _ _ _ _,_,rfl,ex5 _ _ _ _ _ ⟨ rfl,hb5,T.clPage,T.nP_end,Zd0 _ _ _ _ _ _ _,_,_,rfl,⟨by lia,by lia,by lia,by lia⟩,Ue Pw ?_ ?_ ?_⟩⟩⟩
  ·rw[hPw];refine ex2 _ _ ⟨rfl,k5,?_,?_⟩
   ·rw[hA5];show _=some (HO.lst (lV (A++ZF (i+1)++[])));rw[y08]
   ·have e0:(laid wo).ownFoot pg.first (pg.first+0)=[]:=by unfold VhPage.Laid.ownFoot;rw[Nat.add_zero,Nat.sub_self];rfl
    rw[e0,y08];exact hW5
  ·intro j σ H6 hj hw6;rw[en] at hj;rw[hPw] at hw6;walk_at "fp";refine el2 hw6 fun o7' o8' zq=>?_
   clear hw6;obtain⟨rfl,k6,hA6,hW6⟩:=zq;walk_at "fq";have ei:(pg.first:Int)+(j:Int)=((pg.first+j:Nat):Int):=by lia
   rw[ei];have hP6:=hP.keep k6;obtain⟨lus,ln,dl,nv,x,g1,g2,g3,g4,g5,g6,g7⟩:=hP6.get (k:=pg.first+j) (by lia);have hb6:=k6.z hb;have hw6:=hw.keep k6;have hns:=Zbf ok (i:=pg.first) (k:=pg.first+j) (by lia);have hch:=Wa (Ym ok) g4;have e1:=Zcm wo pg.first j;rw[g5] at e1;have m1:=Zcn wo pg.first (j+1) (pg.lines-(j+1));rw[show j+1+(pg.lines-(j+1))=pg.lines by lia,e1,y01] at m1;have e2:=Zbc (laid wo) pg.first j;rw[Zgu (wo:=wo) (k:=pg.first+j) (by lia)] at e2;generalize hnum:(laid wo).numberOf pg.first (pg.first+j)=num at e1 e2 m1 hns;have hnr:=Zg0 ok hns;have hsg:=Zk8 wo x.first (x.first+x.count-x.first);have hlq:(ZT 32 (YY wo x.first (x.first+x.count))).length+(ZT 124 (YS wo x.first (x.first+x.count-x.first))).length<=(Zbu wo x.first (x.first+x.count) x.begins num).length:=by
    rw[<- Zff];unfold Zg6 XQ;by_cases hs0:(YS wo x.first (x.first+x.count-x.first)).length=0
    ·rw[if_pos hs0,List.eq_nil_of_length_eq_zero hs0];simp only[y01,ZT,y04];lia
    ·rw[if_neg hs0];simp only[y01];lia
   walk_at "gx";refine J8 hb6 T.clPage T.nP_first (ZeV _ _ _ _ _ _ _) ?_;walk_at "gx";refine ex5 wk wo wo.head (pg.first+j) pg.first ⟨rfl,hw6,by lia,by lia,?_⟩;rw[hnum];walk_at "gx";refine⟨.inl ⟨rfl,_,.inl (.inl hA6)⟩,?_⟩;walk_at "gx";refine⟨_,.inl (.inl g1),_,XA (j:=pg.first+j) g3,?_⟩;walk_at "gx";refine ex12 wk ln dl wo wo.head x.first (x.first+x.count) num x.begins x.ends (V9 wo x) nv ⟨rfl,hw6,g6,by lia,by lia,by lia,ok.nsigns,fun y hy=>?_,by have:=ok.nsigns;lia,hns,by lia,by lia,by lia,by lia,by lia,by lia,fun H7 p7 hp7 k7 hl7=>?_⟩
   ·walk_at "fp";obtain⟨z,hz1,hz2⟩:=List.mem_flatten.mp hy;walk_at "fq";exact((ok.para z hz1).2 y hz2).2.1
   rw[Zff] at hl7;walk_at "gx";have hA7:=k7.z hA6;refine ex2 _ _ ⟨hA7,hl7,by rw[Zy,Zy,y01,y01];lia,?_⟩;rw[Xs,y0j,<- e1];have k8:Kp [] H (upd H7 pl (HO.lst (lV (A++ZF (i+1)++YB wo pg.first (j+1))))):=(k6.trans k7).put2 (.inr hpl);have k68:Kp [pl] H6 (upd H7 pl (HO.lst (lV (A++ZF (i+1)++YB wo pg.first (j+1))))):=(k7.mono (by simp)).put2 (.inl (by simp));have hA8:upd H7 pl (HO.lst (lV (A++ZF (i+1)++YB wo pg.first (j+1)))) pl=some (.lst (lV (A++ZF (i+1)++YB wo pg.first (j+1)))):=Zd;have hW8:=hW6.keep k68 wp;generalize upd H7 pl (HO.lst (lV (A++ZF (i+1)++YB wo pg.first (j+1))))=H8 at k8 hA8 hW8 ⊢;clear k68 hA7 hl7 k7 hp7 hA6 hW6 hP6 g1 g3 g6 g7 hb6 hw6 k6;obtain⟨lus2,ln2,dl2,nv2,x2,g1,_,g3,_,_,g6,g7⟩:=(hP.keep k8).get (k:=pg.first+j) (by lia);walk_at "gx";refine⟨_,.inl (.inl g1),_,XA (j:=pg.first+j) g3,_,_,_,_,_,rfl,g6,T.clLine,T.nL_note,ZbC _ _ _ _ _ _,g_C ⟨rfl,_,rfl,?_⟩⟩;have om:=Zbd (laid wo) pg.first (j+1) (pg.lines-(j+1));rw[show j+1+(pg.lines-(j+1))=pg.lines by lia,e2,y01] at om;rcases g7 with⟨h7,rfl⟩ | ⟨h7,nt,rfl,hN⟩
   ·rw[if_neg (by simp)];walk_at "gx";rw[hPw];exact ex2 _ _ ⟨rfl,k8,hA8,by rw[e2,if_pos h7,y08];exact hW8⟩
   ·rw[if_pos (by simp)];rw[if_neg h7] at e2 om;walk_at "gx";walk_at "fp";obtain⟨wus,hwu,hwP⟩:=hW8;walk_at "fq";have hwl:=Paired.length hwP;rw[y03,y01] at hwl;refine⟨.inl ⟨rfl,_,.inl (.inl hwu)⟩,?_⟩;walk_at "gx";refine⟨_,.inl (.inl g1),_,XA (j:=pg.first+j) g3,_,_,_,_,_,rfl,g6,T.clLine,T.nL_note,ZbC _ _ _ _ _ _,?_⟩;walk_at "gx";refine ex6 wk nt wo wo.head (ZN wo (pg.first+j)) num ⟨rfl,hw.keep k8,by lia,hN,hns,hnr,ZfV ok (by lia),fun H9 l9 la hl9 k9 hla hLs=>?_⟩;walk_at "gx";have hll:=Paired.length hLs;rw[y03] at hll;refine ex2 _ _ ⟨k9.z hwu,hla,by rw[y03,<- hll,<- hwl];lia,?_⟩;walk_at "gx";rw[hPw];refine ex2 _ _ ⟨rfl,(k8.trans k9).put2 (.inr hwt),Zx (Ne.symm wp) (k9.z hA8),_,Zd,?_⟩;rw[e2,<- y0j,y07];rw[Zee] at hLs;refine Paired.app (Paired.mono (fun y v ⟨l,a1,a2,a3⟩=>⟨l,a1,a2,Zx a2.2 (k9.z a3)⟩) hwP) (Paired.mono (fun y v ⟨l,a1,a2,a3⟩=>?_) (ZhN hLs));have lpl:l≠pl:=fun z=>by rw[z,hA8] at a2;cases a2
    have lwt:l≠wt:=fun z=>by rw[z,hwu] at a2;cases a2
    exact⟨l,a1,⟨lpl,lwt⟩,Zx lwt a3⟩
  ·intro σ H6 hw6;rw[en] at hw6;rw[hPw] at hw6;walk_at "fp";refine el2 hw6 fun o7' o8' zq=>?_
   clear hw6;obtain⟨rfl,k6,hA6,wus,hwu,hwP⟩:=zq;walk_at "fq";rw[<- f2] at hwP;have hwl:=Paired.length hwP;rw[y03,y01] at hwl;have hb6:=k6.z hb;refine hM _ _ _ ?_;clear hM;walk_at "gx";refine⟨_,.inl (.inl (.inl hwu)),?_⟩;walk_at "gx";refine J8 hb6 T.clPage T.nP_rest (ZbB _ _ _ _ _ _ _) ?_;walk_at "gx";have es:(wus.length:Int)-(pg.on.length:Int)=((pg.foot.length:Nat):Int):=by lia
   rw[es];refine⟨.inl ⟨rfl,_,.inl (.inl hA6)⟩,?_⟩;walk_at "gx";refine⟨_,.inl (.inl hwu),fun s1 hs1=>?_⟩;rw[ZlU];have k7:Kp [] H6 (upd H6 s1 (HO.lst (wus.take pg.foot.length))):=Kp.new hs1;have hs1':upd H6 s1 (HO.lst (wus.take pg.foot.length)) s1=some (HO.lst (wus.take pg.foot.length)):=Zd;generalize upd H6 s1 (HO.lst (wus.take pg.foot.length))=H7 at k7 hs1' ⊢;walk_at "gx";have hfl2:(pg.foot.map (jl 32)).length=pg.foot.length:=y03 ..;have hPt:=Paired.take pg.foot.length hwP;have hPd:=Paired.drop pg.foot.length hwP;rw[y07,List.take_left' hfl2] at hPt;rw[y07,List.drop_left' hfl2] at hPd;have hbl:=ZlX (pg.foot.map (jl 32));refine ex2 s1 (pg.foot.map (jl 32)) ⟨rfl,⟨_,hs1',Paired.mono (fun y v ⟨l,a1,a2,a3⟩=>⟨l,a1,k7.z a3⟩) hPt⟩,by lia,fun H8 p8 hp8 k8 hl8=>?_⟩;rw[Zi4] at hl8;walk_at "gx";have k68:=k7.trans k8;have hA8:=k68.z hA6;refine ex2 _ _ ⟨hA8,hl8,by rw[Zy,Zy,y01,y01];lia,?_⟩;rw[Xs];have k9:Kp [] H (upd H8 pl (HO.lst (lV (A++ZF (i+1)++YB wo pg.first pg.lines++Uf (pg.foot.map (jl 32)))))):=(k6.trans k68).put2 (.inr hpl);have k89:Kp [pl] H6 (upd H8 pl (HO.lst (lV (A++ZF (i+1)++YB wo pg.first pg.lines++Uf (pg.foot.map (jl 32)))))):=(k68.mono (by simp)).put2 (.inl (by simp));have hA9:upd H8 pl (HO.lst (lV (A++ZF (i+1)++YB wo pg.first pg.lines++Uf (pg.foot.map (jl 32))))) pl=some (.lst (lV (A++ZF (i+1)++YB wo pg.first pg.lines++Uf (pg.foot.map (jl 32))))):=Zd;generalize upd H8 pl (HO.lst (lV (A++ZF (i+1)++YB wo pg.first pg.lines++Uf (pg.foot.map (jl 32)))))=H9 at k9 k89 hA9 ⊢;walk_at "gx";refine⟨_,.inl (.inl (k89 _ _ hwu (by simpa using wp))),fun w2 hw2=>?_⟩;rw[ZlR];walk_at "gx";rw[hPv];have w2p:w2≠pl:=fun z=>by rw[z,hA9] at hw2;cases hw2
   refine ex9 _ pg.on (pg.first+pg.lines) w2 _ _ _ _ _ ⟨rfl,k9.trans (Kp.new hw2),Zx (Ne.symm w2p) hA9,by rw[eA];simp only[y0j],f4,k9.free (by simp) hw2,w2p,_,Zd,Paired.mono (fun y v ⟨l,a1,a2,a3⟩=>?_) hPd⟩;have a4:=k89 _ _ a3 (by simpa using a2.1);have lw:l≠w2:=Zf a4 hw2;exact⟨l,a1,⟨a2.1,lw⟩,Zx lw a4⟩
 ·intro σ H2 hw';rw[hPv] at hw';refine el9 hw' fun A c f wt o5 o6 o7 o8 o9 zq=>?_
  clear hw';obtain⟨rfl,k,hA,eA,hfw,hwt,wp,hW⟩:=zq;rw[<- hpl0,List.drop_of_length_le (y0r _)] at eA;have eA:YK wo=A:=by rw[eA];exact y08 A
  refine hM _ _ _ ?_;walk_at "gx";exact q H2 pl hpl k (by rw[eA];exact hA)
theorem ZeF:∀l:List Nat,(Vh.spelt l).length<=4 * l.length
 | []=>y0r _
 | c::l=>by
  have ih:=ZeF l;show(Vh.charOf c++Vh.spelt l).length<=_;have:(Vh.charOf c).length<=4:=by unfold Vh.charOf;(repeat' split) <;> simp
  rw[y01,y02];lia
def Xu (K:Frag)(a:Ad):Sp:=fun vs H Q _=>∃(wk:Addr) (wo:Work),vs=[.ref wk]/\WkR a H wk wo wo.head/\WOk wo/\wo.text.length<=16384 /\
 ∀H' p,Kp [] H H'->H' p=some (.lst (bsV wo.printed))->wo.printed.length<=16777212->Q (.ref p) H'
noncomputable abbrev XW:Stmt:=top 62
theorem Vv:Zm ["work","lines"] ["work"] (Zh XW):=by walk_at "sc"
theorem Zbp {f:Addr}{fd:FuncData}(F:Fun K "printed_bytes" "printed_bytes" XW f fd)(T:Txt K mg a)(c_lines_of:FnC P w K mg base CX0 6 "lines_of" ["work"] (ZbR K a))(c_bytes_of:FnC P w K mg base CX0 2 "bytes_of" ["characters"] (ZbU K a))(c_printed_pages:FnC P w K mg base CX0 5 "printed_pages" ["work","lines","pages"] (Vo K a))(c_pages_of:FnC P w K mg base CX0 10 "pages_of" ["work","lines"] (ZbQ K a)):FnOk P w K mg base CX0 11 f fd ["work"] (Xu K a):=by
 refine F.ok Vv (by walk_at "ln") (fun cdv A outer s H vs Q E hr h=>?_);refine el2 h fun wk wo zq=>?_
 clear h;obtain⟨rfl,hw,ok,ht,q⟩:=zq;have nd:=Vv.nd;refine⟨_,(Zb (Zl (i:=1) nd rfl (Or.inl rfl) (Zi c_lines_of hr Zu (Za (pv 0) Zc))) (Ze (Zo (Zi c_bytes_of hr Zu (Za (Zi c_printed_pages hr Zu (Za (pv 0) (Za (pv 1) (Za (Zi c_pages_of hr Zu (Za (pv 0) (Za (pv 1) Zc))) Zc)))) Zc))))),?_⟩;obtain⟨hsm,_⟩:=ZdX ok ht;walk_at "gs";walk_at "gr";refine ex3 wk wo _ ⟨rfl,hw,ok,fun H1 p1 hp1 k1 hL1=>?_⟩;walk_at "gr";refine ex3 wk p1 wo ⟨rfl,⟨⟨_,hw.keep k1⟩,ok,hL1⟩,fun H2 p2 us2 hp2 k2 hl2 hPg=>?_⟩;walk_at "gr";have k12:=k1.trans k2;obtain⟨_,_,hL2⟩:=PgR.keep ⟨⟨_,hw.keep k1⟩,ok,hL1⟩ k2;refine ex5 wk p1 p2 wo us2 ⟨rfl,hw.keep k12,ok,hL2,hl2,hPg,hsm,fun H3 p3 hp3 k3 hl3=>?_⟩;walk_at "gr";refine ex2 p3 (YK wo) ⟨rfl,hl3,ZhJ ok,by lia,fun H4 p4 hp4 k4 hl4=>?_⟩;walk_at "gr";rw[Jz ok] at hl4;refine q H4 p4 ((k12.trans k3).trans k4) hl4 ?_;have:=ZeF (YK wo);rw[Jz ok] at this;lia
noncomputable def Zlz:Expr->Scope
 | .Lambda _ _ sc _=>sc
 | _=>{ kind:=.function,names:=[],isGenerator:=false,isCoroutine:=false }
noncomputable def ZlA:Expr->Expr
 | .Lambda _ b _ _=>b
 | e=>e
noncomputable def prV (b:List UInt8):List V:=if 16777216<b.length then[.int (-2)] else .int (b.length:Int)::bsV b
def Xv (K:Frag)(a:Ad):Sp:=fun vs H Q _=>∃(l:Addr) (b:List UInt8),vs=[.ref l]/\H l=some (.lst (bsV b))/\b.length<=16777212/\∀H' p,H' p=some (.lst (prV b))->Q (.ref p) H'
noncomputable abbrev XY:Stmt:=top 94
theorem Vx:Zm ["found"] ["found"] (Zh XY):=by walk_at "sc"
theorem Zbr {f:Addr}{fd:FuncData}(F:Fun K "counted_bytes" "counted_bytes" XY f fd)(T:Txt K mg a):FnOk P w K mg base CX0 1 f fd ["found"] (Xv K a):=by
 refine F.ok Vx (by walk_at "ln") (fun cdv A outer s H vs Q E hr h=>?_);refine el2 h fun l b zq=>?_
 clear h;obtain⟨rfl,hl,hb,q⟩:=zq;have nd:=Vx.nd;refine⟨_,(Zb (ZV (Zn Jc (Zp Zj rfl T.len y13 (Za (pv 0) Zc)) (ZP T.cMOST_PRINTED_BYTES) (Zs _)) (Ze (Zo (ZW (Za (ZeW ZaN Zg) Zc)))) Zv) (Ze (Zo (Zw Zdh (ZW (Za (Zp Zj rfl T.len y13 (Za (pv 0) Zc)) Zc)) (pv 0))))),?_⟩;have hz:sizeLine=16777216:=by decide
 walk_at "gs";walk_at "gr";refine⟨_,.inl (.inl (.inl hl)),?_⟩;walk_at "gr";rw[Ul,if_neg (by lia)];walk_at "gr";refine⟨_,.inl (.inl (.inl hl)),?_⟩;walk_at "gr";refine⟨(show 1<=sizeLine by decide),fun p1 hp1=>?_⟩;walk_at "gr";refine ex4 p1 l _ _ ⟨rfl,rfl,Zd,Zx (Zf hl hp1) hl,by rw[Ul];simp;lia,fun p2 hp2=>?_⟩;walk_at "gr";refine q _ p2 ?_;rw[Zd,Ul];unfold prV;rw[if_neg (by lia)];rfl
def spL (K:Frag)(a:Ad):Sp:=fun vs H Q _=>∃(wk:Addr) (wo:Work),vs=[.ref wk]/\WkR a H wk wo wo.head/\WOk wo/\wo.text.length<=16384/\∀H' p,H' p=some (.lst (prV wo.printed))->Q (.ref p) H'
noncomputable def ansC (bs:List UInt8):List V:=match readWork bs with
 | .ok wo=>prV wo.printed
 | .error _=>[.int (-6)]
def spA (K:Frag)(a:Ad)(fL:Addr):Sp:=fun vs H Q _=>∃(ta:Addr) (bs:List UInt8),vs=[.ref ta,.ref a.F_read_work,.ref fL]/\SqL K H ta (bsV bs)/\bs.length<=8191/\∀H' p,H' p=some (.lst (ansC bs))->Q (.ref p) H'
theorem ZlF {bs hb:List UInt8}{wo:Work}(h:Zjt bs hb)(e:readWork bs=.ok wo):hb=wo.head:=by
 obtain⟨s,p0,x,p1,h1,h2,rfl⟩:=h;exact Zkd h1 h2 e
noncomputable abbrev Zat:Stmt:=top 93
theorem Zb2:Zm ["t","read","answer","found"] ["t","read","answer"] (Zh Zat):=by walk_at "sc"
theorem Zgh {fL:Addr}{fdL:FuncData}{f:Addr}{fd:FuncData}(F:Fun K "answered" "answered" Zat f fd)(T:Txt K mg a)(hat:PySem.W.FnAt fL base)(FA:FnOk P w K mg base CX0 12 fL fdL ["work"] (spL K a))(hbA:∀(s:Shared) (us:List Value),us.length=["work"].length->BindsTo s fdL ⟨us,[]⟩ ((["work"]:List Str).zip us))(c_read_work:FnC P w K mg base (CX1 P w a.CE) 7 "read_work" ["reader"] (ZaP K a))(c_Reader_init:Zeo P w K mg base CX0 1 a.CR "Reader" ["self","t"] (UD K a)):FnOk P w K mg base CX0 13 f fd ["t","read","answer"] (spA K a fL):=by
 refine F.ok Zb2 (by walk_at "ln") (fun cdv A outer s H vs Q E hr h=>?_);refine el2 h fun ta bs zq=>?_
 clear h;obtain⟨rfl,hS,hlen,q⟩:=zq;have nd:=Zb2.nd;refine⟨_,(Zb (ZV (Zn Jc (Zp Zj rfl T.len y13 (Za (pv 0) Zc)) (ZP T.cMOST_TEXT_BYTES) (Zs _)) (Ze (Zo (ZW (Za (ZeW ZaN Zg) Zc)))) Zv) (Zb (by refine' Zmf (C:=a.CE) ?eT ?eg ?eb ?es;(case eT=>exact T.exc);(case eg=>exact rfl);(case eb=>exact(Zlc (i:=3) nd rfl (Or.inl rfl) (ZjI 1 c_read_work T.f_read_work hr (Za (W6 c_Reader_init hr Zu (Za (pv 0) Zc)) Zc))));(case es=>exact fun _=>(Ze (Zo (ZW (Za (ZeW ZaN Zg) Zc)))))) (Ze (Zo (ZjM 2 hat FA hbA hr Zu (Za (pv 3) Zc)))))),?_⟩;obtain⟨ot,hta⟩:=SqL.is T hS;walk_at "rd";refine⟨_,.inl hS,?_⟩;rw[Ul,if_neg (by lia)];simp only[Zim,Zin];walk_at "rd";intro x dx nx ndx nex;have tax:ta≠x:=Zf hta nx;have tadx:ta≠dx:=Zf hta ndx;have k0:Kp [] H (upd (upd H dx (HO.own x)) x (HO.ins a.CR dx [])):=fun c o e _=>by
  rw[Zk (Zf e nx),Zk (Zf e ndx)];exact e
 refine ex4 x dx ta bs ⟨rfl,Zd,k0.seq (by simp) hS,tax,fun H2 k2 R2=>⟨rfl,?_⟩⟩;refine ex3 x ta bs ⟨rfl,R2,fun wo hb wk H3 e3 hh _ k3 hw=>?_,fun p3 H3 e3 R3=>?_⟩
 ·simp only[ZkJ];walk_at "rd";obtain⟨e4,ok⟩:=ZjH e3;rw[ZlF hh e3] at hw;refine ex2 wk wo ⟨rfl,⟨hw,Zla ok,ok.rows⟩,ok,by lia,fun H' p hp=>q H' p ?_⟩;rw[hp];unfold ansC;rw[e3]
 ·intro ea;walk_at "rd";refine⟨by decide,fun l hl=>q _ l ?_⟩;rw[Zd];unfold ansC;rw[e3]
noncomputable abbrev lam0:Expr:=Zkm (Zbl (stI (ZI (top 95)) 0)) 2
theorem Zj3:ZcI "work" (Zlz lam0):=⟨rfl,rfl,rfl,rfl,by decide +kernel,by decide +kernel⟩
def sp_pages (K:Frag)(PT:Addr):Sp:=fun vs H Q _=>∃(ta:Addr) (bs:List UInt8),vs=[.ref ta]/\SqL K H ta (bsV bs)/\H PT=some (.tbl #[])/\bs.length<=8191/\∀H' p,H' p=some (.lst (ansC bs))->Q (.ref p) H'
noncomputable abbrev Xc:Stmt:=top 95
theorem ZjE:Zm ["t"] ["t"] (Zh Xc):=by walk_at "sc"
theorem ZiN {ql:Str}{f c':Addr}{A:Around}{outer:List Env}{s:Shared}{H:Hp}{v:V}{Q:VK}{E:XK}(c_counted_bytes:FnC P w K mg base CX0 1 "counted_bytes" ["found"] (Xv K a))(c_printed_bytes:FnC P w K mg base CX0 11 "printed_bytes" ["work"] (Xu K a))
  (hr:Room 11 (A.deeper (envX ql (Zlz lam0) s.heap.objs.size f (.ref c') []))) (h:spL K a [v] H Q E) :
  ∃t,PE (Zh3 P w K mg base ["work"] ql (Zlz lam0) f (.ref c') [] A outer s H E) (ZlA lam0) t/\t [some v] H Q:=by
 refine⟨_,(Zi c_counted_bytes hr Zu (Za (Zi c_printed_bytes hr Zu (Za (pv 0) Zc)) Zc)),?_⟩;obtain⟨wk,wo,hv,hw,ok,ht,q⟩:=h;cases hv;walk_at "rd";exact ex2 wk wo ⟨rfl,hw,ok,ht,fun H' p _ hp hb=>⟨p,wo.printed,rfl,hp,hb,q⟩⟩
theorem ZjR {f c gf:Addr}{oc kV doc pm ct:Value}{od an:Option Addr}{osl:Array (Option Value)}(lk:K.lookup f=some ⟨oc,od,.func (fnOf "pages" "pages" (Yo Xc) (ZI Xc) (Zh Xc) .none kV doc pm an (.ref c) ct),osl⟩)(hcd:codeIn K (.ref c) "pages"=true)(T:Txt K mg a)
  (hC:∀h,K.In h->PySem.W.CodeHd h c a.PT) (hB:base.BuiltinsAt mg a.PT) (hgP:mainGlobals≠a.PT) (hm:mg "answered"=some (.ref gf)) (hk:keepIn K (.ref gf)=true)
  (hA:∀(base':Heap) (fL:Addr) (fdL:FuncData),PySem.W.FnAt fL base'->(∀(s:Shared) (us:List Value),us.length=["work"].length->BindsTo s fdL ⟨us,[]⟩ ((["work"]:List Str).zip us))->FnOk P w K mg base' CX0 12 fL fdL ["work"] (spL K a)->FnC P w K mg base' CX0 13 "answered" ["t","read","answer"] (spA K a fL))
  (hN:∀base',FnC P w K mg base' CX0 11 "printed_bytes" ["work"] (Xu K a)) (hR:∀base',FnC P w K mg base' CX0 1 "counted_bytes" ["found"] (Xv K a)) :
  FnOk P w K mg base CX0 14 f (fnOf "pages" "pages" (Yo Xc) (ZI Xc) (Zh Xc) .none kV doc pm an (.ref c) ct) ["t"] (sp_pages K a.PT):=by
 refine ZlN lk hcd ZjE (fun vs H Q E h=>?_) (fun A outer s H vs Q E hr h=>?_)
 ·obtain⟨ta,bs,rfl,h⟩:=h;rfl
 ·refine el2 h fun ta bs zq=>?_
  clear h;obtain⟨rfl,hS,hPT,hlen,q⟩:=zq;refine⟨_,Ze (Zo (Zf8 (i:=0) (t:="t") (x:="work") (c:=c) (fr:=a.F_read_work) (rn:="read_work") (PT:=a.PT) (gf:=gf) (k:=13) (jl:=11) (spL:=spL K a) (spA:=spA K a) (ps2:=["t","read","answer"]) (E:=E) Zj3 rfl hC hB rfl (Or.inl rfl) rfl rfl rfl rfl T.f_read_work rfl hm hk hr
   (fun vs H Q E h=>by obtain⟨_,_,rfl,_⟩:=h;rfl) (fun base' f fd hM h1 h2 h3=>hA base' f fd h1 h2 h3) (fun f c' pm ctv s us hu=>match us,hu with | [_],_=>.of_eq rfl)
   (fun base' f c' A outer s H v Q E hr h=>ZiN (hR base') (hN base') hr h) Zu hgP)),?_⟩
  refine ex2 (.ref ta) (#[]) ⟨rfl,hPT,trivial,rfl,fun fL ps' hfL=>⟨ta,bs,rfl,?_,hlen,q⟩⟩;rcases hS with(h | ⟨o,h⟩) | h
  ·exact .inl (.inl (by rw[Zk (fun z=>by rw[z,hPT] at h;cases h)];exact h))
  ·exact .inl (.inr ⟨o,by rw[Zk (fun z=>by rw[z,hPT] at h;cases h)];exact h⟩)
  ·exact .inr h
end
end Vp
namespace Vp
open PySem PySem.Spec PyProof.Rows L2
open PySem.W (Codec)
theorem Uz {K:Frag}{a:Addr}{d:Option Addr}{its:Array Value}{n:Nat}{sl:Array (Option Value)}{xs:List V}(l:K.lookup a=some ⟨.type "tuple",d,.seq its n,sl⟩)(hz:its.size<=1000)(v:Vals xs its.toList)(H:Hp):SqT K H a xs :=
 .inr ⟨_,its,n,l,rfl,rfl,y0q hz (by decide),v⟩
theorem ZkS {b:Addr}{o:Obj}:∀{K:Frag},K.lookup b=some o->(b,o)∈K
 | [],h=>by cases h
 | (c,u)::r,h=>by
  rw[List.lookup_cons] at h;cases e:b==c with
  | true =>
   rw[e] at h;have h':u=o:=Option.some.inj h;rw[<- h',eq_of_beq e];exact y0n
  | false =>
   rw[e] at h;exact y0c _ (ZkS h)
theorem lcs {us:List Value}{n:Nat}(h:us.length=n+1):∃a r,us=a::r/\r.length=n:=match us,h with | a::r,h=>⟨a,r,rfl,Nat.succ.inj h⟩
theorem fb1 {K:Frag}{x qual:Str}{st:Stmt}{f:Addr}{fd:FuncData}{p0:Str}(F:Fun K x qual st f fd)(h:∀(kV doc pm:Value) (an:Option Addr) (cdv ct a0:Value),bindArgs (fnOf x qual (Yo st) (ZI st) (Zh st) .none kV doc pm an cdv ct) ⟨[a0],[]⟩=pure ([p0].zip [a0])):We K fd [p0] []:=F.binds fun kV doc pm an cdv ct us hl=>by
 obtain⟨a0,r0,rfl,h0⟩:=lcs (n:=0) hl;obtain rfl:=List.eq_nil_of_length_eq_zero h0;exact h kV doc pm an cdv ct a0
theorem fb2 {K:Frag}{x qual:Str}{st:Stmt}{f:Addr}{fd:FuncData}{p0 p1:Str}(F:Fun K x qual st f fd)(h:∀(kV doc pm:Value) (an:Option Addr) (cdv ct a0 a1:Value),bindArgs (fnOf x qual (Yo st) (ZI st) (Zh st) .none kV doc pm an cdv ct) ⟨[a0,a1],[]⟩=pure ([p0,p1].zip [a0,a1])):We K fd [p0,p1] []:=F.binds fun kV doc pm an cdv ct us hl=>by
 obtain⟨a0,r0,rfl,h0⟩:=lcs (n:=1) hl;obtain⟨a1,r1,rfl,h1⟩:=lcs (n:=0) h0;obtain rfl:=List.eq_nil_of_length_eq_zero h1;exact h kV doc pm an cdv ct a0 a1
theorem fb3 {K:Frag}{x qual:Str}{st:Stmt}{f:Addr}{fd:FuncData}{p0 p1 p2:Str}(F:Fun K x qual st f fd)(h:∀(kV doc pm:Value) (an:Option Addr) (cdv ct a0 a1 a2:Value),bindArgs (fnOf x qual (Yo st) (ZI st) (Zh st) .none kV doc pm an cdv ct) ⟨[a0,a1,a2],[]⟩=pure ([p0,p1,p2].zip [a0,a1,a2])):We K fd [p0,p1,p2] []:=F.binds fun kV doc pm an cdv ct us hl=>by
 obtain⟨a0,r0,rfl,h0⟩:=lcs (n:=2) hl;obtain⟨a1,r1,rfl,h1⟩:=lcs (n:=1) h0;obtain⟨a2,r2,rfl,h2⟩:=lcs (n:=0) h1;obtain rfl:=List.eq_nil_of_length_eq_zero h2;exact h kV doc pm an cdv ct a0 a1 a2
theorem fb4 {K:Frag}{x qual:Str}{st:Stmt}{f:Addr}{fd:FuncData}{p0 p1 p2 p3:Str}(F:Fun K x qual st f fd)(h:∀(kV doc pm:Value) (an:Option Addr) (cdv ct a0 a1 a2 a3:Value),bindArgs (fnOf x qual (Yo st) (ZI st) (Zh st) .none kV doc pm an cdv ct) ⟨[a0,a1,a2,a3],[]⟩=pure ([p0,p1,p2,p3].zip [a0,a1,a2,a3])):We K fd [p0,p1,p2,p3] []:=F.binds fun kV doc pm an cdv ct us hl=>by
 obtain⟨a0,r0,rfl,h0⟩:=lcs (n:=3) hl;obtain⟨a1,r1,rfl,h1⟩:=lcs (n:=2) h0;obtain⟨a2,r2,rfl,h2⟩:=lcs (n:=1) h1;obtain⟨a3,r3,rfl,h3⟩:=lcs (n:=0) h2;obtain rfl:=List.eq_nil_of_length_eq_zero h3;exact h kV doc pm an cdv ct a0 a1 a2 a3
theorem fb5 {K:Frag}{x qual:Str}{st:Stmt}{f:Addr}{fd:FuncData}{p0 p1 p2 p3 p4:Str}(F:Fun K x qual st f fd)(h:∀(kV doc pm:Value) (an:Option Addr) (cdv ct a0 a1 a2 a3 a4:Value),bindArgs (fnOf x qual (Yo st) (ZI st) (Zh st) .none kV doc pm an cdv ct) ⟨[a0,a1,a2,a3,a4],[]⟩=pure ([p0,p1,p2,p3,p4].zip [a0,a1,a2,a3,a4])):We K fd [p0,p1,p2,p3,p4] []:=F.binds fun kV doc pm an cdv ct us hl=>by
 obtain⟨a0,r0,rfl,h0⟩:=lcs (n:=4) hl;obtain⟨a1,r1,rfl,h1⟩:=lcs (n:=3) h0;obtain⟨a2,r2,rfl,h2⟩:=lcs (n:=2) h1;obtain⟨a3,r3,rfl,h3⟩:=lcs (n:=1) h2;obtain⟨a4,r4,rfl,h4⟩:=lcs (n:=0) h3;obtain rfl:=List.eq_nil_of_length_eq_zero h4;exact h kV doc pm an cdv ct a0 a1 a2 a3 a4
theorem fb6 {K:Frag}{x qual:Str}{st:Stmt}{f:Addr}{fd:FuncData}{p0 p1 p2 p3 p4 p5:Str}(F:Fun K x qual st f fd)(h:∀(kV doc pm:Value) (an:Option Addr) (cdv ct a0 a1 a2 a3 a4 a5:Value),bindArgs (fnOf x qual (Yo st) (ZI st) (Zh st) .none kV doc pm an cdv ct) ⟨[a0,a1,a2,a3,a4,a5],[]⟩=pure ([p0,p1,p2,p3,p4,p5].zip [a0,a1,a2,a3,a4,a5])):We K fd [p0,p1,p2,p3,p4,p5] []:=F.binds fun kV doc pm an cdv ct us hl=>by
 obtain⟨a0,r0,rfl,h0⟩:=lcs (n:=5) hl;obtain⟨a1,r1,rfl,h1⟩:=lcs (n:=4) h0;obtain⟨a2,r2,rfl,h2⟩:=lcs (n:=3) h1;obtain⟨a3,r3,rfl,h3⟩:=lcs (n:=2) h2;obtain⟨a4,r4,rfl,h4⟩:=lcs (n:=1) h3;obtain⟨a5,r5,rfl,h5⟩:=lcs (n:=0) h4;obtain rfl:=List.eq_nil_of_length_eq_zero h5;exact h kV doc pm an cdv ct a0 a1 a2 a3 a4 a5
abbrev FnI (K:Frag)(x qual:Str)(st:Stmt)(f:Addr):Prop:=∃oc od kV dc pm an cd ct sl,K.lookup f=some ⟨oc,od,.func (fnOf x qual (Yo st) (ZI st) (Zh st) .none kV dc pm an cd ct),sl⟩/\codeIn K cd qual=true/\keepIn K (.ref f)=true
abbrev TpF (K:Frag)(x:Str)(st:Stmt)(f:Addr):Prop:=nsIn K mainGlobals x=some (some (.ref f))/\FnI K x x st f
abbrev TpI (K:Frag)(x:Str)(st:Stmt):Prop:=∃f,TpF K x st f
abbrev MtI (K:Frag)(C:Addr)(x qual:Str)(st:Stmt):Prop:=∃f,findIn K (.ref C) x=some (some (.ref f))/\isFn K (.ref f)=true/\FnI K x qual st f
abbrev ClI (K:Frag)(C:Addr):Prop:=plainGet K C Str.empty=true/\hasDictIn K C=true/\plainOver K C=true/\findIn K (.ref C) "__setattr__"=some (some (.builtin "object.__setattr__"))/\makesIn K C=true/\keepIn K (.ref C)=true
theorem ClI.cls {K:Frag}{C:Addr}(z:ClI K C):Cls K C:=⟨z.1,z.2.1,z.2.2.1,z.2.2.2.1⟩
abbrev InI (K:Frag)(x:Str)(v:Int):Prop:=∃t,nsIn K mainGlobals x=some (some (.int v t))
local macro_rules | `(tactic| walk_at "bd")=>do let a:=zzn "fb1 fb2 fb3 fb4 fb5 fb6";`(tactic| (intro f fd F;first $[| (refine $a F ?_;intros;exact rfl)]*))
section
variable {P:Program}{w:World}{K:Frag}{h:Heap}{mg:Str->Option Value}{base:Heap}{CX:CXT}{k:Nat}{x qual:Str}{st:Stmt}{ps:List Str}{sp:Sp}{C:Addr}
theorem in_mk {t:Tok}{v:Int}(h:nsIn K mainGlobals x=some (some (.int v t))):InI K x v:=⟨t,h⟩
section
variable {f:Addr}{oc kV dc pm cd ct:Value}{od an:Option Addr}{sl:Array (Option Value)}
theorem tf_mk (h1:nsIn K mainGlobals x=some (some (.ref f)))(h2:K.lookup f=some ⟨oc,od,.func (fnOf x x (Yo st) (ZI st) (Zh st) .none kV dc pm an cd ct),sl⟩)(h3:codeIn K cd x=true)(h4:keepIn K (.ref f)=true):TpF K x st f:=⟨h1,_,_,_,_,_,_,_,_,_,h2,h3,h4⟩
theorem tp_mk (h1:nsIn K mainGlobals x=some (some (.ref f)))(h2:K.lookup f=some ⟨oc,od,.func (fnOf x x (Yo st) (ZI st) (Zh st) .none kV dc pm an cd ct),sl⟩)(h3:codeIn K cd x=true)(h4:keepIn K (.ref f)=true):TpI K x st:=⟨f,tf_mk h1 h2 h3 h4⟩
theorem mt_mk (h1:findIn K (.ref C) x=some (some (.ref f)))(h5:isFn K (.ref f)=true)(h2:K.lookup f=some ⟨oc,od,.func (fnOf x qual (Yo st) (ZI st) (Zh st) .none kV dc pm an cd ct),sl⟩)(h3:codeIn K cd qual=true)(h4:keepIn K (.ref f)=true):MtI K C x qual st:=⟨f,h1,h5,_,_,_,_,_,_,_,_,_,h2,h3,h4⟩
end
theorem YX {v:Int}(X:K.In h)(G:h.Ns mainGlobals mg)(q:InI K x v):∃u,mg x=some (.int v u):=q.imp fun _ e=>mg_of X G e
theorem mkF {f0:Addr}(X:K.In h)(G:h.Ns mainGlobals mg)(q:TpF K x st f0)(ok:∀(f:Addr) (fd:FuncData),Fun K x x st f fd->FnOk P w K mg base CX k f fd ps sp)(hb:∀(f:Addr) (fd:FuncData),Fun K x x st f fd->We K fd ps []:=by walk_at "bd"):FnC P w K mg base CX k x ps sp:=by
 obtain⟨hn,oc,od,kV,dc,pm,an,cd,ct,sl,hl,hc,hk⟩:=q;have F:=Zi2 (st:=st) hl hc hk;exact⟨⟨f0,_,mg_of X G hn,hk,hb _ _ F,ok _ _ F⟩⟩
theorem Zmw {f0:Addr}(q:TpF K x st f0):keepIn K (.ref f0)=true:=by
 obtain⟨_,_,_,_,_,_,_,_,_,_,_,_,h⟩:=q;exact h
theorem mkT (X:K.In h)(G:h.Ns mainGlobals mg)(q:TpI K x st)(ok:∀(f:Addr) (fd:FuncData),Fun K x x st f fd->FnOk P w K mg base CX k f fd ps sp)(hb:∀(f:Addr) (fd:FuncData),Fun K x x st f fd->We K fd ps []:=by walk_at "bd"):FnC P w K mg base CX k x ps sp:=q.elim fun _ q=>mkF X G q ok hb
theorem mkM (q:MtI K C x qual st)(ok:∀(f:Addr) (fd:FuncData),Fun K x qual st f fd->FnOk P w K mg base CX k f fd ps sp)(hb:∀(f:Addr) (fd:FuncData),Fun K x qual st f fd->We K fd ps []:=by walk_at "bd"):Yn P w K mg base CX k C x ps sp:=by
 obtain⟨f,ha,hi,oc,od,kV,dc,pm,an,cd,ct,sl,hl,hc,hk⟩:=q;have F:=Zi2 (st:=st) hl hc hk;exact⟨⟨f,_,⟨ha,hi,hk⟩,hb _ _ F,ok _ _ F⟩⟩
theorem mkI {n:Str}(hm:mg n=some (.ref C))(z:ClI K C)(q:MtI K C "__init__" qual st)(ok:∀(f:Addr) (fd:FuncData),Fun K "__init__" qual st f fd->FnOk P w K mg base CX k f fd ps sp)(hb:∀(f:Addr) (fd:FuncData),Fun K "__init__" qual st f fd->We K fd ps []:=by walk_at "bd"):Zeo P w K mg base CX k C n ps sp:=by
 obtain⟨f,ha,hi,oc,od,kV,dc,pm,an,cd,ct,sl,hl,hc,hk⟩:=q;have F:=Zi2 (st:=st) hl hc hk;exact⟨⟨f,_,hm,⟨z.2.2.2.2.1,ha,hi,z.2.2.2.2.2⟩,hb _ _ F,ok _ _ F⟩⟩
end
theorem all_mk {P:Program}{w:World}{K:Frag}{h:Heap}{mg:Str->Option Value}{fa c0 PT:Addr}{CE CR CW CL CN CP f24 f71 f72 aMARKS aENDS aSETTING_BOUNDS aCARET zza9 zza8 zza7 zza6 zza5 zza4:Addr}{zze0 zzez zzey zzex zzew zzev zzeu zzet zzes zzer zzeq zzep zzeo zzen zzem zzel zze3 zze2 zzc2 zzc1 zzc0 zzcz zzcy zzcx zzcw zzcv zzcu zzct zzcs zzcr zze1:Tok}{od72 an72 zze8 dENDS zzdw zzdr zzdq zzdp zzdo zzdn zzdm zze9:Option Addr}{sl72 zze4 sENDS zzds zzdf zzde zzdd zzdc zzdb zzda zze5:Array (Option Value)}{zze6 nENDS zzdv zzdl zzdk zzdj zzdi zzdh zzdg zze7:Nat}{oc72 kV72 dc72 pm72 cd72 ct72:Value}(X:K.In h)(G:h.Ns mainGlobals mg)(hfa:mg "pages"=some (.ref fa))(htab:PySem.W.tabIn K "pages"=some (c0,PT))(hC:∀h2,K.In h2->PySem.W.CodeHd h2 c0 PT)(hgP:mainGlobals≠PT)(qCE:PySem.W.excIn K CE [.type "ValueError",.type "Exception",.type "BaseException",.type "object"] "ValueError.__new__"=true)(nl:(K.all fun p=>!(p.2.cls==.type "list"))=true)
  (aCR:nsIn K mainGlobals "Reader"=some (some (.ref CR)))
  (zR:ClI K CR)
  (nR:findIn K (.ref CR) "t"=some none/\findIn K (.ref CR) "at"=some none)
  (aCW:nsIn K mainGlobals "Work"=some (some (.ref CW)))
  (zW:ClI K CW)
  (nW:findIn K (.ref CW) "width"=some none/\findIn K (.ref CW) "height"=some none/\findIn K (.ref CW) "indent"=some none/\findIn K (.ref CW) "every"=some none/\findIn K (.ref CW) "anew"=some none/\findIn K (.ref CW) "loose"=some none/\findIn K (.ref CW) "rows"=some none/\findIn K (.ref CW) "head"=some none/\findIn K (.ref CW) "paragraphs"=some none/\findIn K (.ref CW) "words"=some none/\findIn K (.ref CW) "signs"=some none/\findIn K (.ref CW) "entries"=some none)
  (aCL:nsIn K mainGlobals "Line"=some (some (.ref CL)))
  (zL:ClI K CL)
  (nL:findIn K (.ref CL) "first"=some none/\findIn K (.ref CL) "end"=some none/\findIn K (.ref CL) "opens"=some none/\findIn K (.ref CL) "closes"=some none/\findIn K (.ref CL) "taken"=some none/\findIn K (.ref CL) "note"=some none)
  (aCN:nsIn K mainGlobals "Note"=some (some (.ref CN)))
  (zN:ClI K CN)
  (nN:findIn K (.ref CN) "things"=some none/\findIn K (.ref CN) "takes"=some none/\findIn K (.ref CN) "tails"=some none)
  (aCP:nsIn K mainGlobals "Page"=some (some (.ref CP)))
  (zP:ClI K CP)
  (nP:findIn K (.ref CP) "kind"=some none/\findIn K (.ref CP) "first"=some none/\findIn K (.ref CP) "end"=some none/\findIn K (.ref CP) "came"=some none/\findIn K (.ref CP) "own"=some none/\findIn K (.ref CP) "rest"=some none/\findIn K (.ref CP) "cost"=some none)
  (aCE:nsIn K mainGlobals "NoText"=some (some (.ref CE)))
  (zzec:InI K "BLANK" 32)
  (zzd5:InI K "STROKE" 124)
  (zzb4:InI K "FIRST_LETTER" 33)
  (zzbj:InI K "LAST_CHARACTER" 1114111)
  (zzb2:InI K "MOST_LETTERS" 64)
  (zzeb:InI K "WHOLE" 0)
  (iCUT:InI K "CUT" 1)
  (zzcq:InI K "FOOT_ALONE" 2)
  (zzd1:InI K "NO_BYTE" 256)
  (zzc9:InI K "MOST_ROWS" 64)
  (zza3:InI K "MOST_PARAGRAPHS" 4096)
  (zzco:InI K "MOST_WORDS" 8192)
  (zzcp:InI K "MOST_SIGNS" 4096)
  (zzb3:InI K "MOST_ENTRIES" 4096)
  (zzcd:InI K "MOST_TOKENS" 65536)
  (zzac:InI K "MOST_TOKENS_OF_ENTRY" 1024)
  (zzas:InI K "MOST_SIGN_THINGS" 4)
  (zzad:InI K "MOST_SIGN_CHARACTERS" 16)
  (zza2:InI K "MOST_TEXT_BYTES" 1048576)
  (zzal:InI K "MOST_PRINTED_BYTES" 16777216)
  (zzed:nsIn K mainGlobals "MARKS"=some (some (.ref aMARKS)))
  (zzd8:K.lookup aMARKS=some ⟨.type "tuple",zze8,.seq #[.int 124 zze0,.int 47 zzez,.int 40 zzey,.int 41 zzex,.int 91 zzew,.int 93 zzev,.int 60 zzeu,.int 62 zzet,.int 123 zzes,.int 125 zzer,.int 61 zzeq,.int 43 zzep,.int 126 zzeo,.int 94 zzen,.int 35 zzem,.int 34 zzel] zze6,zze4⟩)
  (gENDS:nsIn K mainGlobals "ENDS"=some (some (.ref aENDS)))
  (lENDS:K.lookup aENDS=some ⟨.type "tuple",dENDS,.seq #[.int 32 zze3,.int 10 zze2] nENDS,sENDS⟩)
  (zzbk:nsIn K mainGlobals "SETTING_BOUNDS"=some (some (.ref aSETTING_BOUNDS)))
  (zzbi:K.lookup aSETTING_BOUNDS=some ⟨.type "tuple",zzdw,.seq #[.ref zza9,.ref zza8,.ref zza7,.ref zza6,.ref zza5,.ref zza4] zzdv,zzds⟩)
  (zza1:K.lookup zza9=some ⟨.type "tuple",zzdr,.seq #[.int 20 zzc2,.int 240 zzc1] zzdl,zzdf⟩)
  (zza0:K.lookup zza8=some ⟨.type "tuple",zzdq,.seq #[.int 6 zzc0,.int 240 zzcz] zzdk,zzde⟩)
  (zzaz:K.lookup zza7=some ⟨.type "tuple",zzdp,.seq #[.int 1 zzcy,.int 16 zzcx] zzdj,zzdd⟩)
  (zzay:K.lookup zza6=some ⟨.type "tuple",zzdo,.seq #[.int 1 zzcw,.int 100 zzcv] zzdi,zzdc⟩)
  (zzax:K.lookup zza5=some ⟨.type "tuple",zzdn,.seq #[.int 0 zzcu,.int 1 zzct] zzdh,zzdb⟩)
  (zzaw:K.lookup zza4=some ⟨.type "tuple",zzdm,.seq #[.int 0 zzcs,.int 10000 zzcr] zzdg,zzda⟩)
  (zzee:nsIn K mainGlobals "CARET"=some (some (.ref aCARET)))
  (zzd9:K.lookup aCARET=some ⟨.type "tuple",zze9,.seq #[.int 94 zze1] zze7,zze5⟩)
  (zzek:nsIn K mainGlobals "len"=some none)
  (zzeh:nsIn K mainGlobals "ord"=some none)
  (zzei:nsIn K mainGlobals "min"=some none)
  (zzej:nsIn K mainGlobals "max"=some none)
  (zzd2:nsIn K mainGlobals "range"=some none)
  (zzce:nsIn K mainGlobals "enumerate"=some none)
  (zzeg:nsIn K mainGlobals "str"=some none)
  (zzd7:nsIn K mainGlobals "list"=some none)
  (zzef:nsIn K mainGlobals "sum"=some none)
  (zzch:TpI K "is_letter" U0)
  (zzbx:TpI K "begins_some" WY)
  (zzbl:TpI K "size_by_lead" Wu)
  (zzbh:TpI K "bounds_behind" XZ)
  (zzb1:MtI K CR "__init__" "Reader.__init__" W2)
  (zzb0:MtI K CR "peek" "Reader.peek" W1)
  (zzbz:MtI K CR "sees" "Reader.sees" W0)
  (zzby:MtI K CR "take" "Reader.take" WZ)
  (zzar:MtI K CR "take_end" "Reader.take_end" Xd)
  (zzaj:MtI K CR "take_digit" "Reader.take_digit" YM)
  (zzah:MtI K CR "take_number" "Reader.take_number" YG)
  (zzaa:MtI K CR "take_long_letter" "Reader.take_long_letter" Z9)
  (zzab:MtI K CR "take_character" "Reader.take_character" Yf)
  (zzak:MtI K CR "ends_thing" "Reader.ends_thing" YN)
  (zzai:MtI K CR "take_thing" "Reader.take_thing" YL)
  (zzag:MtI K CR "take_things" "Reader.take_things" YF)
  (zzao:MtI K CR "take_head" "Reader.take_head" Y1)
  (zzdz:TpI K "joined" ZdU)
  (zzck:MtI K CW "__init__" "Work.__init__" U3)
  (zzcf:TpI K "read_rows" UY)
  (zzaq:TpI K "read_paragraphs" Xb)
  (zzbv:TpI K "read_tokens" WW)
  (zzbm:TpI K "read_entries" Wv)
  (zzb8:TpI K "read_signs" Xn)
  (zzbu:TpF K "read_work" UX f24)
  (zzd4:TpI K "cells" Zf3)
  (zzav:TpI K "cells_of_thing" Yi)
  (zzbg:TpI K "characters_of" Yt)
  (zzaf:TpI K "bytes_of_character" YE)
  (zzc8:TpI K "bytes_of" Zas)
  (zzcg:TpI K "line_cost" UZ)
  (zzcj:TpI K "best_from" U2)
  (zzc3:TpI K "tails_of" WI)
  (zzdu:TpI K "ends_of" Zb4)
  (zzam:TpI K "place_among_like" Z7)
  (zzdy:TpI K "key_of" ZdT)
  (zzbp:TpI K "number_thing" Wy)
  (zzcb:TpI K "first_room" VW)
  (zzcm:MtI K CN "__init__" "Note.__init__" X0)
  (zzan:TpI K "count_foot_lines" Y0)
  (zzbr:TpI K "joined_lines" WA)
  (zzbe:TpI K "foot_lines_of" XX)
  (zzcn:MtI K CL "__init__" "Line.__init__" U5)
  (zzb5:TpI K "word_takes" VS)
  (zzdt:TpI K "room_of" Zb3)
  (zzae:TpI K "lines_of_paragraph" ZY)
  (zzap:TpI K "things_of_notes" Yd)
  (zzc5:TpI K "lines_of" Zaq)
  (zzcl:MtI K CP "__init__" "Page.__init__" U4)
  (zzau:TpI K "number_of_line" Xx)
  (zzat:TpI K "own_foot_lines" Xw)
  (zzdx:TpI K "wanted" ZdS)
  (zzbt:TpI K "whole_pages" WV)
  (zzbq:TpI K "may_be_whole" Wz)
  (zzb9:TpI K "loose_cost" VU)
  (zzb7:TpI K "whole_cost" VT)
  (zzcc:TpI K "best_whole" VX)
  (zzb6:TpI K "whole_page" Xm)
  (zzc6:TpI K "cut_page" Zar)
  (zzca:TpI K "foot_alone" VV)
  (zzbw:TpI K "forced_page" WX)
  (zzci:TpI K "cost_from" U1)
  (zzc7:TpI K "costs_of" WJ)
  (zzc4:TpI K "pages_of" Zap)
  (zzba:TpI K "printed_words" Ys)
  (zzbb:TpI K "printed_signs" XU)
  (zzbo:TpI K "printed_foot" Wx)
  (zzbn:TpI K "printed_line" Ww)
  (zzbc:TpI K "printed_pages" XV)
  (zzbd:TpI K "printed_bytes" XW)
  (zzbf:TpI K "counted_bytes" XY)
  (zzbs:TpF K "answered" Zat f71)
  (zzd3:nsIn K mainGlobals "pages"=some (some (.ref f72)))
  (zzd0:K.lookup f72=some ⟨oc72,od72,.func (fnOf "pages" "pages" (Yo Xc) (ZI Xc) (Zh Xc) .none kV72 dc72 pm72 an72 cd72 ct72),sl72⟩)
  (zzd6:codeIn K cd72 "pages"=true)
  (zzea:keepIn K (.ref f72)=true) :
  ∃fd:FuncData,(∀(s:Shared) (us:List Value),us.length=(["t"]:List Str).length->BindsTo s fd ⟨us,[]⟩ ((["t"]:List Str).zip us))/\∀base:Heap,K.In base->base.Ns mainGlobals mg->base.BuiltinsAt mg PT->FnOk P w K mg base CX0 14 fa fd ["t"] (sp_pages K PT):=by
 have e:=hfa.symm.trans (mg_of X G zzd3);cases e;have hc0:cd72=.ref c0:=by
  unfold PySem.W.tabIn at htab;rw[zzd3] at htab;dsimp only at htab;rw[zzd0] at htab;dsimp only at htab;split at htab
  ·rename_i c1 hc1;split at htab
   ·split at htab
    ·injection htab with htab;injection htab with h1 h2
     first | (rw[<- h1];exact hc1) | rw[<- h1]
    ·cases htab
   ·cases htab
  ·cases htab
 subst hc0;have nl':∀b o,K.lookup b=some o->o.cls≠.type "list":=fun b o hb z=>by
  have q:=List.all_eq_true.mp nl _ (ZkS hb);rw[z] at q;exact absurd q (by decide)
 have T:Txt K mg ⟨CE,CR,CW,CL,CN,CP,aMARKS,aENDS,aSETTING_BOUNDS,aCARET,f24,PT⟩:={
  exc:=⟨mg_of X G aCE,qCE⟩
  clReader:=ClI.cls zR
  clWork:=ClI.cls zW
  clLine:=ClI.cls zL
  clNote:=ClI.cls zN
  clPage:=ClI.cls zP
  n_t:=nR.1
  n_at:=nR.2
  n_width:=nW.1
  n_height:=nW.2.1
  n_indent:=nW.2.2.1
  n_every:=nW.2.2.2.1
  n_anew:=nW.2.2.2.2.1
  n_loose:=nW.2.2.2.2.2.1
  n_rows:=nW.2.2.2.2.2.2.1
  n_head:=nW.2.2.2.2.2.2.2.1
  n_paragraphs:=nW.2.2.2.2.2.2.2.2.1
  n_words:=nW.2.2.2.2.2.2.2.2.2.1
  n_signs:=nW.2.2.2.2.2.2.2.2.2.2.1
  n_entries:=nW.2.2.2.2.2.2.2.2.2.2.2
  nL_first:=nL.1
  nL_end:=nL.2.1
  nL_opens:=nL.2.2.1
  nL_closes:=nL.2.2.2.1
  nL_taken:=nL.2.2.2.2.1
  nL_note:=nL.2.2.2.2.2
  nN_things:=nN.1
  nN_takes:=nN.2.1
  nN_tails:=nN.2.2
  nP_kind:=nP.1
  nP_first:=nP.2.1
  nP_end:=nP.2.2.1
  nP_came:=nP.2.2.2.1
  nP_own:=nP.2.2.2.2.1
  nP_rest:=nP.2.2.2.2.2.1
  nP_cost:=nP.2.2.2.2.2.2
  nl:=nl'
  len:=ns_none_of X G zzek
  ord:=ns_none_of X G zzeh
  min:=ns_none_of X G zzei
  max:=ns_none_of X G zzej
  range:=ns_none_of X G zzd2
  enumerate:=ns_none_of X G zzce
  str:=ns_none_of X G zzeg
  list:=ns_none_of X G zzd7
  sum:=ns_none_of X G zzef
  cBLANK:=YX X G zzec
  cSTROKE:=YX X G zzd5
  cFIRST_LETTER:=YX X G zzb4
  cLAST_CHARACTER:=YX X G zzbj
  cMOST_LETTERS:=YX X G zzb2
  cWHOLE:=YX X G zzeb
  cCUT:=YX X G iCUT
  cFOOT_ALONE:=YX X G zzcq
  cNO_BYTE:=YX X G zzd1
  cMOST_ROWS:=YX X G zzc9
  cMOST_PARAGRAPHS:=YX X G zza3
  cMOST_WORDS:=YX X G zzco
  cMOST_SIGNS:=YX X G zzcp
  cMOST_ENTRIES:=YX X G zzb3
  cMOST_TOKENS:=YX X G zzcd
  cMOST_TOKENS_OF_ENTRY:=YX X G zzac
  cMOST_SIGN_THINGS:=YX X G zzas
  cMOST_SIGN_CHARACTERS:=YX X G zzad
  cMOST_TEXT_BYTES:=YX X G zza2
  cMOST_PRINTED_BYTES:=YX X G zzal
  f_read_work:=mg_of X G zzbu.1
  cMARKS:=mg_of X G zzed
  tMARKS:=Uz zzd8 (by simp) (by first | exact .nil | (repeat (first | exact .nil | refine .cons ⟨_,rfl⟩ ?_ | refine .cons rfl ?_)))
  cENDS:=mg_of X G gENDS
  tENDS:=Uz lENDS (by simp) (by first | exact .nil | (repeat (first | exact .nil | refine .cons ⟨_,rfl⟩ ?_ | refine .cons rfl ?_)))
  cSETTING_BOUNDS:=mg_of X G zzbk
  tSETTING_BOUNDS:=⟨_,Uz (xs:=[V.ref zza9,V.ref zza8,V.ref zza7,V.ref zza6,V.ref zza5,V.ref zza4]) zzbi (by simp) (by first | exact .nil | (repeat (first | exact .nil | refine .cons ⟨_,rfl⟩ ?_ | refine .cons rfl ?_))),(.cons ⟨_,rfl,Uz zza1 (by simp) (by first | exact .nil | (repeat (first | exact .nil | refine .cons ⟨_,rfl⟩ ?_ | refine .cons rfl ?_))),by decide⟩ (.cons ⟨_,rfl,Uz zza0 (by simp) (by first | exact .nil | (repeat (first | exact .nil | refine .cons ⟨_,rfl⟩ ?_ | refine .cons rfl ?_))),by decide⟩ (.cons ⟨_,rfl,Uz zzaz (by simp) (by first | exact .nil | (repeat (first | exact .nil | refine .cons ⟨_,rfl⟩ ?_ | refine .cons rfl ?_))),by decide⟩ (.cons ⟨_,rfl,Uz zzay (by simp) (by first | exact .nil | (repeat (first | exact .nil | refine .cons ⟨_,rfl⟩ ?_ | refine .cons rfl ?_))),by decide⟩ (.cons ⟨_,rfl,Uz zzax (by simp) (by first | exact .nil | (repeat (first | exact .nil | refine .cons ⟨_,rfl⟩ ?_ | refine .cons rfl ?_))),by decide⟩ (.cons ⟨_,rfl,Uz zzaw (by simp) (by first | exact .nil | (repeat (first | exact .nil | refine .cons ⟨_,rfl⟩ ?_ | refine .cons rfl ?_))),by decide⟩ .nil))))))⟩
  cCARET:=mg_of X G zzee
  tCARET:=Uz zzd9 (by simp) (by first | exact .nil | (repeat (first | exact .nil | refine .cons ⟨_,rfl⟩ ?_ | refine .cons rfl ?_))) }
 refine⟨fnOf "pages" "pages" (Yo Xc) (ZI Xc) (Zh Xc) .none kV72 dc72 pm72 an72 (.ref c0) ct72,fun s us hu=>match us,hu with | [_],_=>.of_eq rfl,?_⟩;have N:=fun base:Heap =>
  have C_is_letter:=mkT (P:=P) (w:=w) (base:=base) X G zzch fun _ _ F=>Ze6 F T
  have C_begins_some:=mkT (P:=P) (w:=w) (base:=base) X G zzbx fun _ _ F=>ZcP F T
  have C_size_by_lead:=mkT (P:=P) (w:=w) (base:=base) X G zzbl fun _ _ F=>Zcb F T
  have C_bounds_behind:=mkT (P:=P) (w:=w) (base:=base) X G zzbh fun _ _ F=>Zbt F T
  have C_Reader_init:=mkI (P:=P) (w:=w) (base:=base) (mg_of X G aCR) zR zzb1 fun _ _ F=>ZcT F T
  have C_Reader_peek:=mkM (P:=P) (w:=w) (mg:=mg) (base:=base) zzb0 fun _ _ F=>ZcS F T
  have C_Reader_sees:=mkM (P:=P) (w:=w) (mg:=mg) (base:=base) zzbz fun _ _ F=>ZcR F T C_Reader_peek
  have C_Reader_take:=mkM (P:=P) (w:=w) (mg:=mg) (base:=base) zzby fun _ _ F=>ZcQ F T C_Reader_sees
  have C_Reader_take_end:=mkM (P:=P) (w:=w) (mg:=mg) (base:=base) zzar fun _ _ F=>J2 F T C_Reader_peek
  have C_Reader_take_digit:=mkM (P:=P) (w:=w) (mg:=mg) (base:=base) zzaj fun _ _ F=>Uw F T C_Reader_peek C_begins_some
  have C_Reader_take_number:=mkM (P:=P) (w:=w) (mg:=mg) (base:=base) zzah fun _ _ F=>V6 F T C_Reader_take_digit C_Reader_peek
  have C_Reader_take_long_letter:=mkM (P:=P) (w:=w) (mg:=mg) (base:=base) zzaa fun _ _ F=>Wc F T C_bounds_behind C_Reader_peek C_is_letter
  have C_Reader_take_character:=mkM (P:=P) (w:=w) (mg:=mg) (base:=base) zzab fun _ _ F=>WL F T C_Reader_peek C_size_by_lead C_Reader_take_long_letter C_is_letter
  have C_Reader_ends_thing:=mkM (P:=P) (w:=w) (mg:=mg) (base:=base) zzak fun _ _ F=>Ux F T C_Reader_peek
  have C_Reader_take_thing:=mkM (P:=P) (w:=w) (mg:=mg) (base:=base) zzai fun _ _ F=>Uv F T C_Reader_take_character C_Reader_ends_thing
  have C_Reader_take_things:=mkM (P:=P) (w:=w) (mg:=mg) (base:=base) zzag fun _ _ F=>V5 F T C_Reader_take_thing C_Reader_sees C_Reader_take
  have C_Reader_take_head:=mkM (P:=P) (w:=w) (mg:=mg) (base:=base) zzao fun _ _ F=>Jf F T C_Reader_take C_Reader_take_number
  have C_joined:=mkT (P:=P) (w:=w) (base:=base) X G zzdz fun _ _ F=>ZiF F T
  have C_Work_init:=mkI (P:=P) (w:=w) (base:=base) (mg_of X G aCW) zW zzck fun _ _ F=>Ze9 F T
  have C_read_rows:=mkT (P:=P) (w:=w) (base:=base) X G zzcf fun _ _ F=>Ze4 F T C_Reader_sees C_Reader_take C_Reader_take_number
  have C_read_paragraphs:=mkT (P:=P) (w:=w) (base:=base) X G zzaq fun _ _ F=>J1 F T C_Reader_sees C_Reader_take C_Reader_take_things
  have C_read_tokens:=mkT (P:=P) (w:=w) (base:=base) X G zzbv fun _ _ F=>ZcN F T C_Reader_sees C_Reader_take C_Reader_take_thing
  have C_read_entries:=mkT (P:=P) (w:=w) (base:=base) X G zzbm fun _ _ F=>Zcc F T C_Reader_sees C_Reader_take C_Reader_take_number C_read_tokens
  have C_read_signs:=mkT (P:=P) (w:=w) (base:=base) X G zzb8 fun _ _ F=>Zd6 F T C_Reader_sees C_Reader_take C_Reader_take_number C_Reader_take_things C_joined
  have C_read_work:=mkF (P:=P) (w:=w) (base:=base) X G zzbu fun _ _ F=>Ze3 F T C_Work_init C_read_rows C_read_paragraphs C_read_signs C_read_entries C_Reader_take_end C_Reader_take_head
  have C_cells:=mkT (P:=P) (w:=w) (base:=base) X G zzd4 fun _ _ F=>ZjS F T
  have C_cells_of_thing:=mkT (P:=P) (w:=w) (base:=base) X G zzav fun _ _ F=>ZaC F T C_cells
  have C_characters_of:=mkT (P:=P) (w:=w) (base:=base) X G zzbg fun _ _ F=>Zbs F T
  have C_bytes_of_character:=mkT (P:=P) (w:=w) (base:=base) X G zzaf fun _ _ F=>V4 F T
  have C_bytes_of:=mkT (P:=P) (w:=w) (base:=base) X G zzc8 fun _ _ F=>Zgg F T C_bytes_of_character
  have C_line_cost:=mkT (P:=P) (w:=w) (base:=base) X G zzcg fun _ _ F=>Ze5 F T
  have C_best_from:=mkT (P:=P) (w:=w) (base:=base) X G zzcj fun _ _ F=>Ze8 F T C_line_cost
  have C_tails_of:=mkT (P:=P) (w:=w) (base:=base) X G zzc3 fun _ _ F=>Zgb F T C_best_from
  have C_ends_of:=mkT (P:=P) (w:=w) (base:=base) X G zzdu fun _ _ F=>ZhQ F T C_best_from
  have C_place_among_like:=mkT (P:=P) (w:=w) (base:=base) X G zzam fun _ _ F=>Jd F T
  have C_key_of:=mkT (P:=P) (w:=w) (base:=base) X G zzdy fun _ _ F=>ZiE F T C_characters_of C_place_among_like
  have C_number_thing:=mkT (P:=P) (w:=w) (base:=base) X G zzbp fun _ _ F=>Zcf F T C_characters_of
  have C_first_room:=mkT (P:=P) (w:=w) (base:=base) X G zzcb fun _ _ F=>Zd9 F T C_cells_of_thing C_number_thing
  have C_Note_init:=mkI (P:=P) (w:=w) (base:=base) (mg_of X G aCN) zN zzcm fun _ _ F=>Zfb F T C_tails_of C_cells_of_thing
  have C_count_foot_lines:=mkT (P:=P) (w:=w) (base:=base) X G zzan fun _ _ F=>Je F T C_best_from C_first_room
  have C_joined_lines:=mkT (P:=P) (w:=w) (base:=base) X G zzbr fun _ _ F=>Zch F T C_joined
  have C_foot_lines_of:=mkT (P:=P) (w:=w) (base:=base) X G zzbe fun _ _ F=>Zbq F T C_joined_lines C_ends_of C_number_thing C_first_room
  have C_Line_init:=mkI (P:=P) (w:=w) (base:=base) (mg_of X G aCL) zL zzcn fun _ _ F=>Zfc F T
  have C_word_takes:=mkT (P:=P) (w:=w) (base:=base) X G zzb5 fun _ _ F=>Zd3 F T C_cells_of_thing
  have C_room_of:=mkT (P:=P) (w:=w) (base:=base) X G zzdt fun _ _ F=>ZhP F T
  have C_lines_of_paragraph:=mkT (P:=P) (w:=w) (base:=base) X G zzae fun _ _ F=>V3 F T C_tails_of C_ends_of C_word_takes C_room_of C_Line_init
  have C_things_of_notes:=mkT (P:=P) (w:=w) (base:=base) X G zzap fun _ _ F=>J0 F T C_key_of
  have C_lines_of:=mkT (P:=P) (w:=w) (base:=base) X G zzc5 fun _ _ F=>Zgd F T C_things_of_notes C_lines_of_paragraph C_Note_init
  have C_Page_init:=mkI (P:=P) (w:=w) (base:=base) (mg_of X G aCP) zP zzcl fun _ _ F=>Zfa F T
  have C_number_of_line:=mkT (P:=P) (w:=w) (base:=base) X G zzau fun _ _ F=>ZaB F T
  have C_own_foot_lines:=mkT (P:=P) (w:=w) (base:=base) X G zzat fun _ _ F=>ZaA F T C_count_foot_lines C_number_of_line
  have C_wanted:=mkT (P:=P) (w:=w) (base:=base) X G zzdx fun _ _ F=>ZiD F T
  have C_whole_pages:=mkT (P:=P) (w:=w) (base:=base) X G zzbt fun _ _ F=>ZcM F T C_own_foot_lines C_wanted
  have C_may_be_whole:=mkT (P:=P) (w:=w) (base:=base) X G zzbq fun _ _ F=>Zcg F T C_wanted C_own_foot_lines
  have C_loose_cost:=mkT (P:=P) (w:=w) (base:=base) X G zzb9 fun _ _ F=>Zd7 F T
  have C_whole_cost:=mkT (P:=P) (w:=w) (base:=base) X G zzb7 fun _ _ F=>Zd5 F T C_loose_cost
  have C_best_whole:=mkT (P:=P) (w:=w) (base:=base) X G zzcc fun _ _ F=>Zea F T C_whole_pages C_whole_cost
  have C_whole_page:=mkT (P:=P) (w:=w) (base:=base) X G zzb6 fun _ _ F=>Zd4 F T C_Page_init C_whole_cost C_wanted C_own_foot_lines
  have C_cut_page:=mkT (P:=P) (w:=w) (base:=base) X G zzc6 fun _ _ F=>Zge F T C_Page_init C_own_foot_lines
  have C_foot_alone:=mkT (P:=P) (w:=w) (base:=base) X G zzca fun _ _ F=>Zd8 F T C_Page_init
  have C_forced_page:=mkT (P:=P) (w:=w) (base:=base) X G zzbw fun _ _ F=>ZcO F T C_foot_alone C_cut_page
  have C_cost_from:=mkT (P:=P) (w:=w) (base:=base) X G zzci fun _ _ F=>Ze7 F T C_forced_page C_best_whole C_may_be_whole
  have C_costs_of:=mkT (P:=P) (w:=w) (base:=base) X G zzc7 fun _ _ F=>Zgf F T C_cost_from
  have C_pages_of:=mkT (P:=P) (w:=w) (base:=base) X G zzc4 fun _ _ F=>Zgc F T C_costs_of C_may_be_whole C_whole_page C_forced_page C_best_whole
  have C_printed_words:=mkT (P:=P) (w:=w) (base:=base) X G zzba fun _ _ F=>Zbm F T C_joined
  have C_printed_signs:=mkT (P:=P) (w:=w) (base:=base) X G zzbb fun _ _ F=>Zbn F T C_characters_of C_joined
  have C_printed_foot:=mkT (P:=P) (w:=w) (base:=base) X G zzbo fun _ _ F=>Zce F T C_characters_of
  have C_printed_line:=mkT (P:=P) (w:=w) (base:=base) X G zzbn fun _ _ F=>Zcd F T C_characters_of C_printed_words C_printed_signs
  have C_printed_pages:=mkT (P:=P) (w:=w) (base:=base) X G zzbc fun _ _ F=>Zbo F T C_characters_of C_number_of_line C_printed_foot C_printed_line C_foot_lines_of
  have C_printed_bytes:=mkT (P:=P) (w:=w) (base:=base) X G zzbd fun _ _ F=>Zbp F T C_lines_of C_bytes_of C_printed_pages C_pages_of
  have C_counted_bytes:=mkT (P:=P) (w:=w) (base:=base) X G zzbf fun _ _ F=>Zbr F T
  And.intro C_read_work (And.intro C_Reader_init (And.intro C_printed_bytes (C_counted_bytes)))
 have C_answered:∀(base:Heap) (fL:Addr) (fdL:FuncData),PySem.W.FnAt fL base->(∀(s:Shared) (us:List Value),us.length=["work"].length->BindsTo s fdL ⟨us,[]⟩ ((["work"]:List Str).zip us))->FnOk P w K mg base CX0 12 fL fdL ["work"] (spL K ⟨CE,CR,CW,CL,CN,CP,aMARKS,aENDS,aSETTING_BOUNDS,aCARET,f24,PT⟩)->FnC P w K mg base CX0 13 "answered" ["t","read","answer"] (spA K ⟨CE,CR,CW,CL,CN,CP,aMARKS,aENDS,aSETTING_BOUNDS,aCARET,f24,PT⟩ fL):=fun base fL fdL h1 h2 h3=>mkF X G zzbs fun _ _ F=>Zgh F T h1 h3 h2 (N base).1 (N base).2.1
 intro base _ _ hB;exact ZjR (P:=P) (w:=w) (base:=base) (a:=⟨CE,CR,CW,CL,CN,CP,aMARKS,aENDS,aSETTING_BOUNDS,aCARET,f24,PT⟩) zzd0 zzd6 T hC hB hgP (mg_of X G zzbs.1) (Zmw zzbs) C_answered (fun b=>(N b).2.2.1) (fun b=>(N b).2.2.2)
end Vp
theorem Vp.ans_pages (l:List Int)(h:(PageNeutral.text l).length<=8191):(PyWqasbc.pages l).map L2.V.int=Vp.ansC (PageNeutral.text l):=by
 have e:PyWqasbc.pages l=PageNeutral.shown (VhG.answer (.pages (PageNeutral.text l))):=rfl;rw[e];unfold VhG.answer VhG.ofWork Vp.ansC;dsimp only;rw[if_neg (show ¬ VhPage.MOST<(PageNeutral.text l).length by unfold VhPage.MOST;lia)];cases readWork (PageNeutral.text l) with
 | error i=>rfl
 | ok x =>
  show(PageNeutral.shown (VhG.prints x.printed)).map L2.V.int=Vp.prV x.printed;unfold VhG.prints Vp.prV;by_cases hw:16777216<x.printed.length
  ·rw[if_pos (show VhPage.WIDE<x.printed.length from hw),if_pos hw];rfl
  ·rw[if_neg (show ¬ VhPage.WIDE<x.printed.length from hw),if_neg hw];show(((x.printed.length:Int)::x.printed.map fun(c:UInt8)=>(c.toNat:Int)).map L2.V.int)=_;rw[y05,List.map_map];rfl
theorem Vp.u8_map (l:List Int)(h:∀x∈l,0<=x/\x<=255):l.map L2.V.int=Vp.bsV (PageNeutral.text l):=by
 unfold Vp.bsV PageNeutral.text;rw[List.map_map];refine List.map_congr_left fun x hx=>?_
 have b:=h x hx;show L2.V.int x=L2.V.int ((UInt8.ofNat x.toNat).toNat:Int);rw[UInt8.toNat_ofNat',Nat.mod_eq_of_lt (by lia),Int.toNat_of_nonneg b.1]
set_option hygiene false in
local macro_rules | `(tactic| walk_at "kc")=>`(tactic| (refine'⟨?h1,?h2,?h3,?h4,?h5,?h6⟩;(case h1=>k_is);(case h2=>k_is);(case h3=>k_is);(case h4=>k_is);(case h5=>k_is);(case h6=>k_is)))
local macro_rules | `(tactic| walk_at "k1")=>Vp.zzk "Vp.in_mk" "h1"
local macro_rules | `(tactic| walk_at "kq")=>Vp.zzk "Vp.tp_mk" "h1 h2 h3 h4"
local macro_rules | `(tactic| walk_at "kf")=>Vp.zzk "Vp.tf_mk" "h1 h2 h3 h4"
local macro_rules | `(tactic| walk_at "km")=>Vp.zzk "Vp.mt_mk" "h1 h5 h2 h3 h4"
namespace PySem.W.Fast
abbrev A:=Nat
def tw10121961767225364902:=A
def tw10315987203309221678:=A
def tw10469904251094949597:=A
def tw10526136526093239242:=A
def tw10741161028817658771:=A
def tw10749295026529477345:=A
def tw10812544524624734872:=A
def tw10852489092611461051:=A
def tw10875366502578958024:=A
def tw10927743922279438869:=A
def tw11035556422714972488:=A
def tw11039406376598071104:=A
def tw11223316133803070607:=A
def tw11326301985881434091:=A
def tw11498002408455818332:=A
def tw1154834093706936902:=A
def tw11579760053749779910:=A
def tw11672102235734377003:=A
def tw11683061101950550884:=A
def tw11965910537207104397:=A
def tw11995380366106382606:=A
def tw12048206523728926604:=A
def tw12128393450563856687:=A
def tw12185856976174259010:=A
def tw12201334717395373854:=A
def tw12325119562109990691:=A
def tw12376434962479356420:=A
def tw12402643980082807355:=A
def tw12629731708204753208:=A
def tw12752591012123432618:=A
def tw12816040027097473270:=A
def tw12862019106784502593:=A
def tw1288347763114672648:=A
def tw1291461136735110802:=A
def tw1292550891653711835:=A
def tw13053920395788080024:=A
def tw1305710212676041066:=A
def tw13145383920983631997:=A
def tw1319981016451285649:=A
def tw132212250638665498:=A
def tw13269665388505122960:=A
def tw13275246077267614295:=A
def tw13344407515102844177:=A
def tw13392200943363491228:=A
def tw134656119837787730:=A
def tw13515293327941103591:=A
def tw13536143117032880856:=A
def tw13575527543326366763:=A
def tw13609346723569160398:=A
def tw13621746391551958497:=A
def tw13680834712457387495:=A
def tw13695845134832281951:=A
def tw13699592416284511961:=A
def tw13913631317056681353:=A
def tw13932289920898461123:=A
def tw13994110666866805251:=A
def tw14123800124412408756:=A
def tw14125326029479936785:=A
def tw14127837667904192960:=A
def tw14151852549624032291:=A
def tw14152372965092257541:=A
def tw14240477425042431058:=A
def tw14270256525216535951:=A
def tw14276672298500436302:=A
def tw14362682478966240019:=A
def tw14527560841611468463:=A
def tw14538702204832789128:=A
def tw1459613693214729629:=A
def tw14605417616598292544:=A
def tw14648817223591060175:=A
def tw14693452929752984204:=A
def tw14748371657715734072:=A
def tw14814040665392397926:=A
def tw1485161315235073800:=A
def tw14857256324100524173:=A
def tw1487252412555550098:=A
def tw14959452978115408654:=A
def tw15032764007154973959:=A
def tw15166086110727555834:=A
def tw15245631654840573819:=A
def tw1531160707445379700:=A
def tw15322025094461172631:=A
def tw15342846079653264172:=A
def tw15366808976012743662:=A
def tw15460299135044480682:=A
def tw15577589381039351606:=A
def tw15589888292173604938:=A
def tw15686976116429911149:=A
def tw1570983876825896934:=A
def tw15718818759258565677:=A
def tw15739336721462973416:=A
def tw15800091249489484700:=A
def tw15815444377916944122:=A
def tw16147988410097398704:=A
def tw1616167790480528378:=A
def tw16204515009464072366:=A
def tw16273313149264986114:=A
def tw1629931449725890006:=A
def tw16311435131701059074:=A
def tw163185597824913976:=A
def tw16374284593613363981:=A
def tw16489902587708955245:=A
def tw16724151742321610430:=A
def tw16757745033477407202:=A
def tw16829042874159533531:=A
def tw16866010949272665949:=A
def tw16994024630072095579:=A
def tw17062732713558209187:=A
def tw17067382111493558856:=A
def tw17143909296187115194:=A
def tw17202766116412175860:=A
def tw17263313406131771700:=A
def tw17282024892885729784:=A
def tw17348696968844652354:=A
def tw17386291187954807434:=A
def tw17400399001842661284:=A
def tw17403620638545702298:=A
def tw17525707722021090912:=A
def tw17715264700832227058:=A
def tw1784509418965824244:=A
def tw17893169406196920723:=A
def tw17944970311988770511:=A
def tw18007959478427827617:=A
def tw18193406884694999578:=A
def tw18220998106382591879:=A
def tw1839531742841811422:=A
def tw186835367224949284:=A
def tw1897185586368285808:=A
def tw1999900171882692226:=A
def tw2087236609234314776:=A
def tw2141066316968378333:=A
def tw2144185674591194742:=A
def tw216549861752862149:=A
def tw2263165467196294027:=A
def tw2276266717319799823:=A
def tw2332239282267658362:=A
def tw2392919544850279851:=A
def tw2430118415150756535:=A
def tw2466712261821326317:=A
def tw2470495672022230795:=A
def tw2577972682023676689:=A
def tw2603496037711569022:=A
def tw2645525001096491199:=A
def tw2745690309984867561:=A
def tw291782293348994134:=A
def tw2937722121203461635:=A
def tw2973947174555146921:=A
def tw2991266883686057994:=A
def tw2994968667036107453:=A
def tw3058216316685410785:=A
def tw3134179017592421679:=A
def tw3221170312149455487:=A
def tw3351805591325410231:=A
def tw3465677216642110898:=A
def tw3472102762417158944:=A
def tw3524898246875064046:=A
def tw3626877592704092632:=A
def tw3707149410102022574:=A
def tw3804590805785534808:=A
def tw3821383095545742499:=A
def tw3881710860200748366:=A
def tw4048369407511568956:=A
def tw4107061664398944846:=A
def tw4164271641743500842:=A
def tw417773949446084303:=A
def tw4204373396717316789:=A
def tw4248689594336465695:=A
def tw4335656724830296425:=A
def tw4433347803420105978:=A
def tw4537854363546735372:=A
def tw4651268834596411064:=A
def tw4696997768272603713:=A
def tw4787545785784507587:=A
def tw4861186775357508868:=A
def tw4939924809277178027:=A
def tw4947844671749108235:=A
def tw495040981952185787:=A
def tw505896907134423745:=A
def tw5073731952369889792:=A
def tw5111403536791058131:=A
def tw5111869310081981912:=A
def tw5134038859547699099:=A
def tw5178303588066528580:=A
def tw5207959333508127119:=A
def tw5325660503648200503:=A
def tw5338446141407845248:=A
def tw5412551427868571703:=A
def tw5563399813529043369:=A
def tw5570457218491637497:=A
def tw5613814403366092916:=A
def tw5670448288588655987:=A
def tw5699499490927230477:=A
def tw5800602046346316135:=A
def tw5926872593908842565:=A
def tw5954835408271508628:=A
def tw5967188466350321226:=A
def tw6066628692547251620:=A
def tw6222145291631732086:=A
def tw6256199494583691180:=A
def tw6262406252441716550:=A
def tw629062362030169406:=A
def tw6344979876163516315:=A
def tw6389246725278320873:=A
def tw6470791345168061998:=A
def tw6588771747038942060:=A
def tw6610201458461650919:=A
def tw6631948058652203973:=A
def tw6723916256137813256:=A
def tw6785056186266019723:=A
def tw6892069200386969045:=A
def tw69020870632458716:=A
def tw7023320064534766593:=A
def tw7148213045143789825:=A
def tw7203920128627513418:=A
def tw7319718760912091833:=A
def tw7484389979006340369:=A
def tw7515555386418510006:=A
def tw7555377998996534062:=A
def tw762937154778735316:=A
def tw764678796413169332:=A
def tw7755789773463370952:=A
def tw7863812823944584700:=A
def tw7912603339440566983:=A
def tw7922225378701905054:=A
def tw794827201734353198:=A
def tw7989358383517777038:=A
def tw8026407216046065241:=A
def tw8055943165616347480:=A
def tw8151972284541353628:=A
def tw8188379127967901055:=A
def tw8209623973294064233:=A
def tw8220382353555845673:=A
def tw8255921404910752372:=A
def tw8266639382062765331:=A
def tw8283703156869468115:=A
def tw8305740226039747351:=A
def tw8316842269454380217:=A
def tw8351366106623173976:=A
def tw8353903262175480897:=A
def tw8512288980098985688:=A
def tw8516084944783676447:=A
def tw8541868335752263397:=A
def tw8701025184881321724:=A
def tw8751706296668543240:=A
def tw8783524725905318587:=A
def tw8806962920901683173:=A
def tw8817814905589852724:=A
def tw8841578654077449973:=A
def tw887518374779572247:=A
def tw8931773478281315324:=A
def tw8983618948016641766:=A
def tw9022719965303863861:=A
def tw905967977945206217:=A
def tw9254509831516667210:=A
def tw9262984556795914985:=A
def tw9284198659963605102:=A
def tw932151342445253323:=A
def tw9343397205425585876:=A
def tw9370322490096855395:=A
def tw9426412098242483916:=A
def tw9443074124533125570:=A
def tw9458601920871528812:=A
def tw9528409118898177702:=A
def tw9725040378595288537:=A
def tw9837657104669889992:=A
def tw9886291430989471030:=A
def tw9923803462543565554:=A
def tw9945337248025990757:=A
def tw9955241496333811966:=A
def tw9978138403290107290:=A
end PySem.W.Fast
open PySem PySem.W PyProof.Rows
set_option maxRecDepth 100000 in
set_option maxHeartbeats 0 in
theorem PySem.Challenge.cw_vellumpages_s02_pages_holds : PySem.Challenge.rw_vellumpages_s02_pages.Holds := by
 w_on;k_headS;(case hw=>exact⟨[.list []],by decide +kernel,by decide +kernel⟩)
 k_fillS
 refine L2.walk_specT (r:=PySem.Challenge.rw_vellumpages_s02_pages) (k:=14) (ps:=["t"]) (sp:=fun K PT=>Vp.sp_pages K PT) (by decide +kernel) rfl rfl ⟨rfl,by decide,by decide⟩ (fun w h Y=>PySem.W.kIn_of Y) rfl ?hnt ?htab ?F ?S
 case hnt =>
  intro w
  kernel_rfl
 case htab =>
  intro w
  kernel_rfl
 case F =>
  intro w mg fa c0 PT h Y KX G hmg htb hC hgP;refine' Vp.all_mk KX G hmg htb hC hgP ?qCE ?nl ?aCR ?zR ?nR ?aCW ?zW ?nW ?aCL ?zL ?nL ?aCN ?zN ?nN ?aCP ?zP ?nP ?aCE ?zzec ?zzd5 ?zzb4 ?zzbj ?zzb2 ?zzeb ?iCUT ?zzcq ?zzd1 ?zzc9 ?zza3 ?zzco ?zzcp ?zzb3 ?zzcd ?zzac ?zzas ?zzad ?zza2 ?zzal ?zzed ?zzd8 ?gENDS ?lENDS ?zzbk ?zzbi ?zza1 ?zza0 ?zzaz ?zzay ?zzax ?zzaw ?zzee ?zzd9 ?zzek ?zzeh ?zzei ?zzej ?zzd2 ?zzce ?zzeg ?zzd7 ?zzef ?zzch ?zzbx ?zzbl ?zzbh ?zzb1 ?zzb0 ?zzbz ?zzby ?zzar ?zzaj ?zzah ?zzaa ?zzab ?zzak ?zzai ?zzag ?zzao ?zzdz ?zzck ?zzcf ?zzaq ?zzbv ?zzbm ?zzb8 ?zzbu ?zzd4 ?zzav ?zzbg ?zzaf ?zzc8 ?zzcg ?zzcj ?zzc3 ?zzdu ?zzam ?zzdy ?zzbp ?zzcb ?zzcm ?zzan ?zzbr ?zzbe ?zzcn ?zzb5 ?zzdt ?zzae ?zzap ?zzc5 ?zzcl ?zzau ?zzat ?zzdx ?zzbt ?zzbq ?zzb9 ?zzb7 ?zzcc ?zzb6 ?zzc6 ?zzca ?zzbw ?zzci ?zzc7 ?zzc4 ?zzba ?zzbb ?zzbo ?zzbn ?zzbc ?zzbd ?zzbf ?zzbs ?zzd3 ?zzd0 ?zzd6 ?zzea
  (case aCR=>k_is)
  (case zR=>walk_at "kc")
  (case nR=>refine'⟨?h0,?h1⟩;(case h0=>k_is);(case h1=>k_is))
  (case aCW=>k_is)
  (case zW=>walk_at "kc")
  (case nW=>refine'⟨?h0,?h1,?h2,?h3,?h4,?h5,?h6,?h7,?h8,?h9,?h10,?h11⟩;(case h0=>k_is);(case h1=>k_is);(case h2=>k_is);(case h3=>k_is);(case h4=>k_is);(case h5=>k_is);(case h6=>k_is);(case h7=>k_is);(case h8=>k_is);(case h9=>k_is);(case h10=>k_is);(case h11=>k_is))
  (case aCL=>k_is)
  (case zL=>walk_at "kc")
  (case nL=>refine'⟨?h0,?h1,?h2,?h3,?h4,?h5⟩;(case h0=>k_is);(case h1=>k_is);(case h2=>k_is);(case h3=>k_is);(case h4=>k_is);(case h5=>k_is))
  (case aCN=>k_is)
  (case zN=>walk_at "kc")
  (case nN=>refine'⟨?h0,?h1,?h2⟩;(case h0=>k_is);(case h1=>k_is);(case h2=>k_is))
  (case aCP=>k_is)
  (case zP=>walk_at "kc")
  (case nP=>refine'⟨?h0,?h1,?h2,?h3,?h4,?h5,?h6⟩;(case h0=>k_is);(case h1=>k_is);(case h2=>k_is);(case h3=>k_is);(case h4=>k_is);(case h5=>k_is);(case h6=>k_is))
  (case aCE=>k_is)
  (case zzec=>walk_at "k1")
  (case zzd5=>walk_at "k1")
  (case zzb4=>walk_at "k1")
  (case zzbj=>walk_at "k1")
  (case zzb2=>walk_at "k1")
  (case zzeb=>walk_at "k1")
  (case iCUT=>walk_at "k1")
  (case zzcq=>walk_at "k1")
  (case zzd1=>walk_at "k1")
  (case zzc9=>walk_at "k1")
  (case zza3=>walk_at "k1")
  (case zzco=>walk_at "k1")
  (case zzcp=>walk_at "k1")
  (case zzb3=>walk_at "k1")
  (case zzcd=>walk_at "k1")
  (case zzac=>walk_at "k1")
  (case zzas=>walk_at "k1")
  (case zzad=>walk_at "k1")
  (case zza2=>walk_at "k1")
  (case zzal=>walk_at "k1")
  (case zzed=>k_is)
  (case zzd8=>k_is)
  (case gENDS=>k_is)
  (case lENDS=>k_is)
  (case zzbk=>k_is)
  (case zzbi=>k_is)
  (case zza1=>k_is)
  (case zza0=>k_is)
  (case zzaz=>k_is)
  (case zzay=>k_is)
  (case zzax=>k_is)
  (case zzaw=>k_is)
  (case zzee=>k_is)
  (case zzd9=>k_is)
  (case zzek=>k_is)
  (case zzeh=>k_is)
  (case zzei=>k_is)
  (case zzej=>k_is)
  (case zzd2=>k_is)
  (case zzce=>k_is)
  (case zzeg=>k_is)
  (case zzd7=>k_is)
  (case zzef=>k_is)
  (case zzch=>walk_at "kq")
  (case zzbx=>walk_at "kq")
  (case zzbl=>walk_at "kq")
  (case zzbh=>walk_at "kq")
  (case zzb1=>walk_at "km")
  (case zzb0=>walk_at "km")
  (case zzbz=>walk_at "km")
  (case zzby=>walk_at "km")
  (case zzar=>walk_at "km")
  (case zzaj=>walk_at "km")
  (case zzah=>walk_at "km")
  (case zzaa=>walk_at "km")
  (case zzab=>walk_at "km")
  (case zzak=>walk_at "km")
  (case zzai=>walk_at "km")
  (case zzag=>walk_at "km")
  (case zzao=>walk_at "km")
  (case zzdz=>walk_at "kq")
  (case zzck=>walk_at "km")
  (case zzcf=>walk_at "kq")
  (case zzaq=>walk_at "kq")
  (case zzbv=>walk_at "kq")
  (case zzbm=>walk_at "kq")
  (case zzb8=>walk_at "kq")
  (case zzbu=>walk_at "kf")
  (case zzd4=>walk_at "kq")
  (case zzav=>walk_at "kq")
  (case zzbg=>walk_at "kq")
  (case zzaf=>walk_at "kq")
  (case zzc8=>walk_at "kq")
  (case zzcg=>walk_at "kq")
  (case zzcj=>walk_at "kq")
  (case zzc3=>walk_at "kq")
  (case zzdu=>walk_at "kq")
  (case zzam=>walk_at "kq")
  (case zzdy=>walk_at "kq")
  (case zzbp=>walk_at "kq")
  (case zzcb=>walk_at "kq")
  (case zzcm=>walk_at "km")
  (case zzan=>walk_at "kq")
  (case zzbr=>walk_at "kq")
  (case zzbe=>walk_at "kq")
  (case zzcn=>walk_at "km")
  (case zzb5=>walk_at "kq")
  (case zzdt=>walk_at "kq")
  (case zzae=>walk_at "kq")
  (case zzap=>walk_at "kq")
  (case zzc5=>walk_at "kq")
  (case zzcl=>walk_at "km")
  (case zzau=>walk_at "kq")
  (case zzat=>walk_at "kq")
  (case zzdx=>walk_at "kq")
  (case zzbt=>walk_at "kq")
  (case zzbq=>walk_at "kq")
  (case zzb9=>walk_at "kq")
  (case zzb7=>walk_at "kq")
  (case zzcc=>walk_at "kq")
  (case zzb6=>walk_at "kq")
  (case zzc6=>walk_at "kq")
  (case zzca=>walk_at "kq")
  (case zzbw=>walk_at "kq")
  (case zzci=>walk_at "kq")
  (case zzc7=>walk_at "kq")
  (case zzc4=>walk_at "kq")
  (case zzba=>walk_at "kq")
  (case zzbb=>walk_at "kq")
  (case zzbo=>walk_at "kq")
  (case zzbn=>walk_at "kq")
  (case zzbc=>walk_at "kq")
  (case zzbd=>walk_at "kq")
  (case zzbf=>walk_at "kq")
  (case zzbs=>walk_at "kf")
  (case zzd3=>k_is)
  (case zzd0=>k_is)
  (case zzd6=>k_is)
  (case zzea=>k_is)
  (case qCE=>kernel_rfl)
  (case nl=>kernel_rfl)
 case S =>
  intro K PT H xs a hPT hwi hask hx;cases hx with
  | cons h1 h2 =>
   cases h2;cases h1 with
   | lst hs ha =>
    have e:=L2.ints_dw a.1 _ ha;subst e;have q:((Codec.inLen 0 8191 a.1 && a.1.all (Codec.inInt 0 255)) && true)=true:=hwi;rw[Bool.and_eq_true,Bool.and_eq_true] at q;have hin:∀x∈a.1,0<=x/\x<=255:=fun x hx=>Codec.inInt_iff.mp (List.all_eq_true.mp q.1.2 x hx)
    have hl:(PageNeutral.text a.1).length<=8191:=by
     unfold PageNeutral.text;rw[y03];exact(Codec.inNat_iff.mp q.1.1).2
    rw[Vp.u8_map _ hin] at hs;refine⟨_,PageNeutral.text a.1,rfl,hs,hPT,hl,fun H' p hp=>.lst (L2.SqL.of hp) ?_⟩;have ee:=Vp.ans_pages a.1 hl;rw[<- ee];exact L2.dw_ints _
end
