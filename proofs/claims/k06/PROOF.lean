import PyProof.Rows.All
import Wide.All
import OpenK.AllK
import Wide.FinOn
import Lean
import PyProof.EqAt
import PyProof.EqKinds
import PyProof.TupleCall
import KE.KDictList
import PyProof.ToksMono
import PyProof.StrCalls6
import PyProof.StrLawsTight
import PyProof.StrBlockL
import PyProof.StrLaws
import KE.KMinKey
import PyProof.ListRange
import PyProof.Rows.ReprOcc
import PyProof.Rows.StrClose
import PySem.Challenge.RW_stepjudge_k06_whole_works_read
set_option Elab.async false
set_option linter.all false
set_option maxRecDepth 100000
namespace L2
open PySem PySem.Spec PyProof.Rows
abbrev Key:=Sum Int Str
def keyIs:Key→Value→Bool
 | .inl k,v=>Value.isInt k v
 | .inr x,v=>Value.isStrOf x v
def keyH (w:World):Key→Int
 | .inl k=>hashInt k
 | .inr x=>hashStr w x
theorem keyIs_shape:∀{k:Key} {v:Value},keyIs k v=true→(∃i t,k=Sum.inl i∧v=Value.int i t)∨(∃x t,k=Sum.inr x∧v=Value.str x t)
 | .inl i,v,h=>by
  obtain⟨t,e⟩:=Value.isInt_shape (k:=i) (v:=v) h
  exact .inl ⟨i,t,rfl,e⟩
 | .inr x,v,h=>by
  obtain⟨t,e⟩:=Value.isStrOf_shape (x:=x) (v:=v) h
  exact .inr ⟨x,t,rfl,e⟩
theorem keyIs_int (i:Int) (t:Tok):keyIs (.inl i) (.int i t)=true:=by simp[keyIs,Value.isInt]
theorem keyIs_str (x:Str) (t:Tok):keyIs (.inr x) (.str x t)=true:=by simp[keyIs,Value.isStrOf]
theorem key_ll (a b:Int):decide ((Sum.inl a:Key)=Sum.inl b)=(a==b):=by
 by_cases e:a=b
 ·subst e;simp
 ·have h:¬(Sum.inl a:Key)=Sum.inl b:=fun q=>e (Sum.inl.inj q)
  rw[decide_eq_false h]
  exact(beq_eq_false_iff_ne.mpr e).symm
theorem key_rr (a b:Str):decide ((Sum.inr a:Key)=Sum.inr b)=decide (a=b):=by
 by_cases e:a=b
 ·subst e;simp
 ·have h:¬(Sum.inr a:Key)=Sum.inr b:=fun q=>e (Sum.inr.inj q)
  rw[decide_eq_false h,decide_eq_false e]
theorem key_lr (a:Int) (b:Str):decide ((Sum.inl a:Key)=Sum.inr b)=false:=decide_eq_false (fun q=>nomatch q)
theorem key_rl (a:Str) (b:Int):decide ((Sum.inr a:Key)=Sum.inl b)=false:=decide_eq_false (fun q=>nomatch q)
def mixKind (prog:Program) (w:World):PySem.KeyKind prog w Key where
 is:=keyIs
 hash:=keyH w
 inj:=fun v a b ha hb=>by
  rcases keyIs_shape ha with⟨i,t,rfl,rfl⟩|⟨x,t,rfl,rfl⟩
  ·rcases keyIs_shape hb with⟨j,u,rfl,e⟩|⟨y,u,rfl,e⟩
   ·injection e with e1 _;rw[e1]
   ·exact nomatch e
  ·rcases keyIs_shape hb with⟨j,u,rfl,e⟩|⟨y,u,rfl,e⟩
   ·exact nomatch e
   ·injection e with e1 _;rw[e1]
 byValue:=fun k v h=>by
  rcases keyIs_shape h with⟨i,t,rfl,rfl⟩|⟨x,t,rfl,rfl⟩<;>rfl
 pyHash:=fun hv h=>by
  rcases keyIs_shape hv with⟨i,t,rfl,rfl⟩|⟨x,t,rfl,rfl⟩
  ·exact wpAny_pyHash_int h
  ·exact wpAny_pyHash_str h
 eqBool:=fun hu hv h=>by
  rcases keyIs_shape hu with⟨i,t,rfl,rfl⟩|⟨x,t,rfl,rfl⟩
  ·rcases keyIs_shape hv with⟨j,u,rfl,rfl⟩|⟨y,u,rfl,rfl⟩
   ·rw[key_ll]at h;exact wpAny_eqBool_int h
   ·rw[key_lr]at h;exact SeqAt.EqAt.int_str i t y u _ _ _ _ h
  ·rcases keyIs_shape hv with⟨j,u,rfl,rfl⟩|⟨y,u,rfl,rfl⟩
   ·rw[key_rl]at h;exact SeqAt.EqAt.str_int x t j u _ _ _ _ h
   ·rw[key_rr]at h;exact wpAny_eqBool_str h
 «strs»:=fun k x t v h=>by
  rcases keyIs_shape h with⟨i,u,rfl,e⟩|⟨y,u,rfl,e⟩
  ·exact nomatch e
  ·injection e with e1 _
   subst e1
   cases v<;>rfl
theorem mixKind_int (prog:Program) (w:World) (i:Int) (t:Tok):(mixKind prog w).is (.inl i) (.int i t)=true:=keyIs_int i t
theorem mixKind_str (prog:Program) (w:World) (x:Str) (t:Tok):(mixKind prog w).is (.inr x) (.str x t)=true:=keyIs_str x t
open PySem PySem.Spec PyProof.Rows
inductive V where
 |non|bl (b:Bool)|int (i:Int)|str (x:Str)|byt (b:Array UInt8)|flt (b:UInt64)|ref (a:Addr)|ty (n:String)
 deriving DecidableEq
def RelV:V→Value→Prop
 | .non,u=>u=Value.none
 | .bl b,u=>u=Value.bool b
 | .int i,u=>∃t,u=Value.int i t
 | .str x,u=>∃t,u=Value.str x t
 | .byt b,u=>∃t,u=Value.bytes b t
 | .flt b,u=>∃t,u=Value.float b t
 | .ref a,u=>u=Value.ref a
 | .ty n,u=>u=Value.type n
abbrev Vals:List V→List Value→Prop:=Paired RelV
theorem Vals.length {xs:List V} {us:List Value} (r:Vals xs us):xs.length=us.length:=Paired.length r
theorem Vals.get:∀{xs:List V} {us:List Value} {i:Nat} {x:V},Vals xs us→xs[i]?=some x→∃u,us[i]?=some u∧RelV x u
 |_,_,_,_,.nil,e=>by simp at e
 |_,_,0,_,.cons r _,e=>by simp at e;subst e;exact⟨_,rfl,r⟩
 |_,_,i+1,x,.cons _ t,e=>by
  obtain⟨u,h1,h2⟩:=Vals.get (i:=i) (x:=x) t (by simpa using e)
  exact⟨u,by simpa using h1,h2⟩
theorem Vals.append:∀{xs ys:List V} {us ws:List Value},Vals xs us→Vals ys ws→Vals (xs++ys) (us++ws)
 |_,_,_,_,.nil,s=>s
 |_,_,_,_,.cons r t,s=>.cons r (Vals.append t s)
theorem Vals.take:∀{xs:List V} {us:List Value} (n:Nat),Vals xs us→Vals (xs.take n) (us.take n)
 |_,_,0,_=>.nil
 |_,_,_+1,.nil=>.nil
 |_,_,n+1,.cons r t=>.cons r (Vals.take n t)
theorem Vals.drop:∀{xs:List V} {us:List Value} (n:Nat),Vals xs us→Vals (xs.drop n) (us.drop n)
 |_,_,0,r=>r
 |_,_,_+1,.nil=>.nil
 |_,_,n+1,.cons _ t=>Vals.drop n t
def RelO:Option V→Option Value→Prop
 |some v,some u=>RelV v u
 |none,none=>True
 |_,_=>False
def KV {κ:Type}:List (κ×V)→List (κ×Value)→Prop:=Paired fun(p:κ×V) (q:κ×Value)=>p.1=q.1∧RelV p.2 q.2
def kV:Key→V
 | .inl i=>.int i
 | .inr x=>.str x
inductive HO where
 /-- a list -/
 |lst (xs:List V)
 /-- a tuple (never changes) -/
 |tup (xs:List V)
 /-- a dict whose keys are ints and texts;one whose keys are tuples of ints and texts (the empty one is both) -/
 |dK (kvs:List (Key×V))|dT (kvs:List (List Key×V))
 /-- a set of ints: its members,its size -/
 |set (S:Int→Bool) (n:Nat)
 /-- an instance of the class at C,its dict at dx,its attributes -/
 |ins (C dx:Addr) (fs:List (Str×V))
 /-- the dict of the instance at x -/
 |own (x:Addr)
 /-- the dict of an exception -/
 |xd (fs:List (Str×V))
 /-- a bound method,f of x -/
 |met (f x:Addr)
 /-- a range object lo,lo+1,.. below hi -/
 |rng (lo hi:Int)
 /-- a thing that is known to the object (the script;a dict while a loop walks it): read,never written while it is so -/
 |frz (o:Obj) (u:HO)
 /-- a code object's table -/
 |tbl (ps:Array Value)
 /-- any other thing,by what is true of its one object (a def of one's own: SetO a S n:=HO.ext fun h=>..) -/
 |ext (φ:Heap→Prop)
abbrev Hp:=Addr→Option HO
def upd (H:Hp) (a:Addr) (o:HO):Hp:=fun b=>if b=a then some o else H b
theorem upd_same {H:Hp} {a:Addr} {o:HO}:upd H a o a=some o:=by unfold upd;rw[if_pos rfl]
theorem upd_ne {H:Hp} {a b:Addr} {o:HO} (h:b≠a):upd H a o b=H b:=by unfold upd;rw[if_neg h]
theorem ne_of_none {H:Hp} {a b:Addr} {o:HO} (h:H a=some o) (h':H b=none):a≠b:=by
 intro e;subst e;rw[h]at h';cases h'
section
variable (P:Program) (w:World)
def ObjOk (H:Hp) (h:Heap) (a:Addr):HO→Prop
 | .lst xs=>xs.length≤sizeLine∧∃(its:List Value) (n:Nat),Vals xs its∧h.get? a=some {cls:=.type "list",data:=.seq its.toArray n}
 | .tup xs=>xs.length≤sizeLine∧∃its:List Value,Vals xs its∧IsTup h a its.toArray
 | .dK kvs=>kvs.length≤sizeLine∧(a==sysModules)=false∧∃vs,KV kvs vs∧h.DictOf (mixKind P w) a vs
 | .dT kvs=>kvs.length≤sizeLine∧(a==sysModules)=false∧∃xs:List (List Key×Addr×Value),
   Paired (fun(p:List Key×V) (q:List Key×Addr×Value)=>p.1=q.1∧H q.2.1=some (.tup (p.1.map kV))∧RelV p.2 q.2.2) kvs xs∧
   ∃o es ep,h.get? a=some o∧o.ExactDict∧o.data=.dict es ep∧es.toList=xs.map (entryOfKey (tupleKind (mixKind P w)))∧(xs.map (·.1)).Nodup
 | .set S n=>h.SetOf (intKind P w) a S n
 | .ins C dx fs=>H dx=some (.own a)∧fs.length≤1000∧dx≠a∧h.get? a=some (PySem.W.instObj C dx)∧
   ∃mA,h.Ns1 dx mA∧(∀f,RelO (fs.lookup f) (mA f))∧PySem.Within mA (fs.map (·.1))
 | .own _=>∃o,h.get? a=some o
 | .xd fs=>∃mA,h.Ns1 a mA∧∀f,RelO (fs.lookup f) (mA f)
 | .rng lo hi=>∃t u v,h.get? a=some {cls:=.type "range",data:=.fields #[.int lo t,.int hi u,.int 1 v]}
 | .frz o u=>h.get? a=some o∧ObjOk H h a u
 | .tbl ps=>h.get? a=some {cls:=.none,data:=.fields ps}
 | .met f x=>h.get? a=some (PySem.W.methodObj (.ref f) (.ref x))
 | .ext φ=>φ h∧(∃o,h.get? a=some o)∧∀h1 h2:Heap,φ h1→(∀o,h1.get? a=some o→h2.get? a=some o)→φ h2
def HOk (H:Hp) (h:Heap):Prop:=∀a o,H a=some o→ObjOk P w H h a o
end
section
variable {P:Program} {w:World} {H H':Hp} {h h':Heap} {a:Addr} {o:HO}
theorem ObjOk.lt (x:ObjOk P w H h a o):a<h.objs.size:=by
 cases o with
 |lst xs=>obtain⟨_,_,_,_,e⟩:=x;exact Heap.lt_size e
 |tup xs=>obtain⟨_,_,_,p⟩:=x;exact p.lt
 |dK kvs=>obtain⟨_,_,_,_,o,_,_,e,_⟩:=x;exact Heap.lt_size e
 |dT kvs=>obtain⟨_,_,_,_,o,_,_,e,_⟩:=x;exact Heap.lt_size e
 |set S n=>obtain⟨o,_,_,_,e,_⟩:=x;exact Heap.lt_size e
 |ins C dx fs=>obtain⟨_,_,_,e,_⟩:=x;exact Heap.lt_size e
 |own y=>obtain⟨_,e⟩:=x;exact Heap.lt_size e
 |xd fs=>obtain⟨_,⟨_,_,_,e,_⟩,_⟩:=x;exact Heap.lt_size e
 |rng lo hi=>obtain⟨_,_,_,e⟩:=x;exact Heap.lt_size e
 |frz ob u=>obtain⟨e,_⟩:=x;exact Heap.lt_size e
 |tbl ps=>exact Heap.lt_size (show h.get? a=some _ from x)
 |met f y=>exact Heap.lt_size (show h.get? a=some _ from x)
 |ext φ=>obtain⟨_,⟨_,e⟩,_⟩:=x;exact Heap.lt_size e
theorem Paired.mapP {α β:Type} {F G:α→β→Prop}:∀{l₁:List α} {l₂:List β},Paired F l₁ l₂→(∀a b,F a b→G a b)→Paired G l₁ l₂
 |_,_,.nil,_=>.nil
 |_,_,.cons r t,f=>.cons (f _ _ r) (Paired.mapP t f)
theorem ObjOk.stay (x:ObjOk P w H h a o) (k:∀b u,(b=a∨H b=some (.own a))→h.get? b=some u→h'.get? b=some u)
  (ho:∀b,H b=some (.own a)→H' b=some (.own a)) (ht:∀b xs,H b=some (.tup xs)→H' b=some (.tup xs)):ObjOk P w H' h' a o:=by
 induction o with
 |lst xs=>obtain⟨z,its,n,r,e⟩:=x;exact⟨z,its,n,r,k _ _ (.inl rfl) e⟩
 |tup xs=>obtain⟨z,its,r,ob,e,c⟩:=x;exact⟨z,its,r,ob,k _ _ (.inl rfl) e,c⟩
 |dK kvs=>obtain⟨z,y,vs,r,ob,es,ep,e,c⟩:=x;exact⟨z,y,vs,r,ob,es,ep,k _ _ (.inl rfl) e,c⟩
 |dT kvs=>
  obtain⟨z,y,xs,r,ob,es,ep,e,c⟩:=x
  exact⟨z,y,xs,Paired.mapP r fun p q z=>⟨z.1,ht _ _ z.2.1,z.2.2⟩,ob,es,ep,k _ _ (.inl rfl) e,c⟩
 |set S n=>obtain⟨ob,es,ep,t,e,c⟩:=x;exact⟨ob,es,ep,t,k _ _ (.inl rfl) e,c⟩
 |ins C dx fs=>
  obtain⟨d,z,ne,e,mA,⟨od,es,ep,e2,c⟩,r⟩:=x
  exact⟨ho _ d,z,ne,k _ _ (.inl rfl) e,mA,⟨od,es,ep,k _ _ (.inr d) e2,c⟩,r⟩
 |own y=>obtain⟨ob,e⟩:=x;exact⟨ob,k _ _ (.inl rfl) e⟩
 |xd fs=>obtain⟨mA,⟨od,es,ep,e,c⟩,r⟩:=x;exact⟨mA,⟨od,es,ep,k _ _ (.inl rfl) e,c⟩,r⟩
 |rng lo hi=>obtain⟨t,u,v,e⟩:=x;exact⟨t,u,v,k _ _ (.inl rfl) e⟩
 |frz ob u ih=>obtain⟨e,q⟩:=x;exact⟨k _ _ (.inl rfl) e,ih q⟩
 |tbl ps=>
  have e:h.get? a=some {cls:=.none,data:=.fields ps}:=x
  show h'.get? a=some {cls:=.none,data:=.fields ps}
  exact k a _ (.inl rfl) e
 |met f y=>
  have e:h.get? a=some (PySem.W.methodObj (.ref f) (.ref y)):=x
  show h'.get? a=some (PySem.W.methodObj (.ref f) (.ref y))
  exact k a _ (.inl rfl) e
 |ext φ=>obtain⟨p,⟨o,e⟩,st⟩:=x;exact⟨st _ _ p fun o q=>k _ _ (.inl rfl) q,⟨o,k _ _ (.inl rfl) e⟩,st⟩
theorem HOk.lt (x:HOk P w H h) (e:H a=some o):a<h.objs.size:=(x a o e).lt
theorem HOk.fresh (x:HOk P w H h) (e:h.objs.size≤a):H a=none:=by
 cases q:H a with
 |none=>rfl
 |some u=>exact absurd (Nat.lt_of_lt_of_le (x.lt q) e) (Nat.lt_irrefl _)
theorem HOk.kept (x:HOk P w H h) (k:∀b u,h.get? b=some u→h'.get? b=some u):HOk P w H h':=fun a o e=>
 (x a o e).stay (fun b u _ q=>k b u q) (fun _ q=>q) fun _ _ q=>q
theorem HOk.laid (x:HOk P w H h) (k:∀b u,h.get? b=some u→h'.get? b=some u) (hp:h.objs.size≤a) (new:ObjOk P w (upd H a o) h' a o):HOk P w (upd H a o) h':=fun b u e=>by
 have hn:=x.fresh hp
 by_cases hb:b=a
 ·subst hb;rw[upd_same]at e;cases e;exact new
 ·rw[upd_ne hb]at e
  exact(x b u e).stay (fun c v _ q=>k c v q) (fun c q=>by rw[upd_ne (ne_of_none q hn)];exact q) fun c xs q=>by rw[upd_ne (ne_of_none q hn)];exact q
end
def Rd (H:Hp) (a:Addr) (u:HO):Prop:=H a=some u∨∃o,H a=some (.frz o u)
theorem Rd.ok {P:Program} {w:World} {H:Hp} {h:Heap} {a:Addr} {u:HO} (r:Rd H a u) (x:HOk P w H h):ObjOk P w H h a u:=by
 rcases r with r|⟨o,r⟩
 ·exact x a u r
 ·obtain⟨_,q⟩:=x a _ r
  exact q
def Mut:Option HO→Prop
 |some (.lst _)=>True
 |some (.dK _)=>True
 |some (.dT _)=>True
 |some (.set _ _)=>True
 |some (.ins _ _ _)=>True
 |some (.ext _)=>True
 |_=>False
section
variable {P:Program} {w:World} {H:Hp} {h h':Heap} {x e:Addr} {o':HO}
theorem HOk.write (ok:HOk P w H h) (mu:Mut (H x)) (he:e=x∨H e=some (.own x)) (k:∀b u,b≠e→h.get? b=some u→h'.get? b=some u) (heo:∃u,h'.get? e=some u)
  (new:ObjOk P w (upd H x o') h' x o'):HOk P w (upd H x o') h':=fun b u q=>by
 have nown:∀c y,H c=some (.own y)→c≠x:=fun c y r z=>by subst z;rw[r]at mu;exact mu
 have ntup:∀c xs,H c=some (.tup xs)→c≠x:=fun c xs r z=>by subst z;rw[r]at mu;exact mu
 by_cases hb:b=x
 ·subst hb;rw[upd_same]at q;cases q;exact new
 ·rw[upd_ne hb]at q
  by_cases hbe:b=e
  ·have q':H b=some (.own x):=by
    rcases he with z|z
    ·exact absurd (hbe.trans z) hb
    ·rw[hbe];exact z
   rw[q]at q';cases q'
   obtain⟨v,hv⟩:=heo
   exact⟨v,by rw[hbe];exact hv⟩
  ·refine(ok b u q).stay (fun c v hc r=>k c v ?_ r) (fun c r=>by rw[upd_ne (nown c b r)];exact r) fun c xs r=>by rw[upd_ne (ntup c xs r)];exact r
   rcases hc with rfl|hc
   ·exact hbe
   ·rintro rfl
    rcases he with z|z
    ·exact nown c b hc z
    ·rw[hc]at z;cases z;exact hb rfl
end
structure Un (fs ex:List Addr) (H H':Hp) (h h':Heap):Prop where
 keep:∀b o,h.get? b=some o→H b=none→b∉fs→b∉ex→h'.get? b=some o
 slot:∀b o,h.get? b=some o→H b=none→b∈fs→b∉ex→∃sl,h'.get? b=some {o with slots:=sl}
 free:∀b o,h.get? b=some o→H b=none→b∉ex→H' b=none
 there:∀b o,h.get? b=some o→b∉ex→∃o',h'.get? b=some o'
 tups:∀b xs,H b=some (.tup xs)→H' b=some (.tup xs)
 frzs:∀b o u,H b=some (.frz o u)→H' b=some (.frz o u)
 tbls:∀b ps,H b=some (.tbl ps)→∃more,H' b=some (.tbl (ps++more))
section
variable {fs fs' ex ex':List Addr} {H H1 H2:Hp} {h h1 h2 h':Heap} {a x e:Addr} {o:HO}
theorem Un.any (u:Un fs ex H H1 h h1) {b:Addr} {ob:Obj} (q:h.get? b=some ob) (n:H b=none) (hx:b∉ex):∃sl,h1.get? b=some {ob with slots:=sl}:=by
 by_cases hb:b∈fs
 ·exact u.slot b ob q n hb hx
 ·exact⟨ob.slots,u.keep b ob q n hb hx⟩
theorem Un.kept (k:∀b u,h.get? b=some u→h'.get? b=some u):Un fs ex H H h h':=
 ⟨fun b ob q _ _ _=>k b ob q,fun b ob q _ _ _=>⟨ob.slots,k b ob q⟩,fun _ _ _ n _=>n,fun b ob q _=>⟨ob,k b ob q⟩,fun _ _ q=>q,fun _ _ _ q=>q,fun _ ps q=>⟨#[],by rw[q];simp⟩⟩
theorem Un.refl:Un fs ex H H h h:=Un.kept fun _ _ q=>q
theorem Un.laid (k:∀b u,h.get? b=some u→h'.get? b=some u) (hp:h.objs.size≤a) (hn:H a=none):Un fs ex H (upd H a o) h h' where
 keep:=fun b u q _ _ _=>k b u q
 slot:=fun b u q _ _ _=>⟨u.slots,k b u q⟩
 free:=fun b u q n _=>by rw[upd_ne (Nat.ne_of_lt (Nat.lt_of_lt_of_le (Heap.lt_size q) hp))];exact n
 there:=fun b u q _=>⟨u,k b u q⟩
 tups:=fun b xs q=>by rw[upd_ne (ne_of_none q hn)];exact q
 frzs:=fun b u xs q=>by rw[upd_ne (ne_of_none q hn)];exact q
 tbls:=fun b ps q=>⟨#[],by rw[upd_ne (ne_of_none q hn),q];simp⟩
theorem Un.write (mu:Mut (H x)) (he:e=x∨H e=some (.own x)) (k:∀b u,b≠e→h.get? b=some u→h'.get? b=some u) (heo:∃u,h'.get? e=some u):Un fs ex H (upd H x o) h h':=by
 have hx:∀b,H b=none→b≠x:=fun b n z=>by subst z;rw[n]at mu;exact mu
 have hb:∀b,H b=none→b≠e:=fun b n z=>by
  subst z
  rcases he with r|r
  ·exact hx b n r
  ·rw[n]at r;cases r
 have hm:∀b u,H b=some u→¬Mut (some u)→b≠x:=fun b u q nm z=>by subst z;rw[q]at mu;exact nm mu
 refine⟨fun b u q n _ _=>k b u (hb b n) q,fun b u q n _ _=>⟨u.slots,k b u (hb b n) q⟩,fun b u q n _=>by rw[upd_ne (hx b n)];exact n,fun b u q _=>?_,
  fun b xs q=>by rw[upd_ne (hm b _ q fun z=>z)];exact q,fun b u xs q=>by rw[upd_ne (hm b _ q fun z=>z)];exact q,fun b ps q=>⟨#[],by rw[upd_ne (hm b _ q fun z=>z),q];simp⟩⟩
 by_cases hbe:b=e
 ·subst hbe;exact heo
 ·exact⟨u,k b u hbe q⟩
end
def trk (h:Heap) (H:Hp):List Addr:=(List.range h.objs.size).filter fun a=>(H a).isSome
def hidT (h:Heap) (H:Hp):Heap:=PySem.W.hideAll h (trk h H)
theorem hidT_size (h:Heap) (H:Hp):(hidT h H).objs.size=h.objs.size:=PySem.W.hideAll_size _ _
theorem hidT_get {h:Heap} {H:Hp} {b:Addr} {o:Obj} (e:h.get? b=some o) (n:H b=none):(hidT h H).get? b=some o:=
 PySem.W.hideAll_get _ e fun hm=>by
  have q:(H b).isSome=true:=(List.mem_filter.mp hm).2
  rw[n]at q;simp at q
theorem of_hidT {h:Heap} {H:Hp} {b:Addr} {o:Obj} (e:(hidT h H).get? b=some o):h.get? b=some o∧H b=none:=by
 have e':h.get? b=some o:=PySem.W.of_hideAll (trk h H) e
 refine⟨e',?_⟩
 cases q:H b with
 |none=>rfl
 |some x=>
  have hm:b∈trk h H:=List.mem_filter.mpr ⟨List.mem_range.mpr (Heap.lt_size e'),by simp[q]⟩
  have z:(hidT h H).get? b=none:=PySem.W.hideAll_none (trk h H) hm
  rw[z]at e;cases e
def allNews (g h:Heap) (L:Addr):List (Addr×Obj):=(List.range h.objs.size).filterMap fun a=>if a=L∨(g.get? a).isSome=true then none else(h.get? a).map fun o=>(a,o)
def rest (g h:Heap) (L d:Addr):List (Addr×Obj):=(allNews g h L).filter fun p=>decide (p.1≠d)
open PySem PySem.Spec PyProof.Rows
structure Mod (K:PySem.W.Frag) (mg:Str→Option Value) (base:Heap):Prop where
 kin:K.In base
 glob:base.Ns mainGlobals mg
 blt:∃mb,base.Ns builtinsNs mb∧∀x:Str,x≠"__name__"→mb x=bootBuiltins x
 nolimit:base.NoLimit
structure Cx where
 prog:Program
 w:World
 K:PySem.W.Frag
 mg:Str→Option Value
 base:Heap
 A:Around
 N:List Str
 s₀:Shared
 H₀:Hp
 env:Env
 outer:List Env
 stack:List Env
 ex:List Addr
 fn:Str→Bool
 calm:Bool
 pn:List (Addr×Obj)
 xe:Value→Shared→Prop
def frs (l:List Env):List Addr:=l.filterMap (·.frame)
abbrev Cx.fs (X:Cx):List Addr:=frs X.outer
def Vis (sc:Scope) (x:Str):Prop:=sc.names.lookup x=some .local∨sc.names.lookup x=some .cell∨sc.names.lookup x=some .free
def Loc (sc:Scope) (x:Str):Prop:=sc.names.lookup x=some .local∨sc.names.lookup x=some .cell
def Look (env:Env) (h:Heap) (m:Str→Option Value) (x:Str) (u:Value):Prop:=
 (env.kindOf x=some .local∧m x=some u)∨((env.kindOf x=some .cell∨env.kindOf x=some .free)∧∃c,env.cells.lookup x=some c∧h.IsCell c (some u))
structure Cx.Ok (X:Cx):Prop where
 mod:Mod X.K X.mg X.base
 kind:X.env.scope.kind=.function
 glob:X.env.globals=mainGlobals
 blt:X.env.builtins=builtinsNs
 above:X.s₀.heap.objs.size≤X.env.locals
 inj:∀x y c,X.env.cells.lookup x=some c→X.env.cells.lookup y=some c→x=y
 has:∀x,(X.env.kindOf x=some .cell∨X.env.kindOf x=some .free)→∃c,X.env.cells.lookup x=some c
 cab:∀x c,X.fn x=true→X.env.cells.lookup x=some c→X.s₀.heap.objs.size≤c
 hd:X.calm=true→X.A.handled=none
 frames:X.A.frames=some X.stack
 stk:X.stack=X.outer∨(X.stack=X.env::X.outer∧X.env.frame=some X.env.locals)
 exf:∀b∈X.ex,b≠X.env.locals∧∀x c,X.env.cells.lookup x=some c→c≠b
 bs:∀b o,X.base.get? b=some o→X.s₀.heap.get? b=some o∧X.H₀ b=none
 bsz:X.base.objs.size≤X.s₀.heap.objs.size
 noex:∀b o,X.base.get? b=some o→b∉X.ex
 exfs:∀b∈X.ex,b∉X.fs
 funs:X.s₀.heap.FunFrames X.base X.outer
 frf:∀b∈X.fs,X.H₀ b=none
structure Inv (X:Cx) (pins:List (Addr×Obj)) (σ:List (Option V)) (H:Hp) (s:Shared):Prop where
 ok:X.Ok
 os:s.os=X.s₀.os
 bare:AllBare s.gens
 base:Un X.fs X.ex X.H₀ H X.s₀.heap s.heap
 loc:∃m,s.heap.Ns X.env.locals m∧∀(i:Nat) (x:Str) (v:V),X.N[i]?=some x→σ[i]?=some (some v)→Vis X.env.scope x→∃u,RelV v u∧Look X.env s.heap m x u
 cell:∀x c,X.env.cells.lookup x=some c→∃v,s.heap.IsCell c v
 free:H X.env.locals=none
 freeC:∀x c,X.env.cells.lookup x=some c→H c=none
 pin:∀p∈X.pn++pins,s.heap.get? p.1=some p.2∧H p.1=none∧p.1≠X.env.locals∧p.1∉X.fs∧∀v,p.2.data≠.cell v
 hok:HOk X.prog X.w H s.heap
 len:σ.length=X.N.length
section
variable {X:Cx} {pins:List (Addr×Obj)} {σ:List (Option V)} {H H':Hp} {s:Shared} {h':Heap}
theorem Cx.Ok.nofr (ok:X.Ok) {b:Addr} {o:Obj} (e:X.base.get? b=some o):b∉X.fs:=fun hb=>by
 have:=(ok.funs.mem hb).1
 rw[e]at this;cases this
theorem Inv.bs (I:Inv X pins σ H s):∀b o,X.base.get? b=some o→s.heap.get? b=some o∧H b=none:=fun b o e=>
 ⟨I.base.keep b o (I.ok.bs b o e).1 (I.ok.bs b o e).2 (I.ok.nofr e) (I.ok.noex b o e),I.base.free b o (I.ok.bs b o e).1 (I.ok.bs b o e).2 (I.ok.noex b o e)⟩
theorem Inv.bk (I:Inv X pins σ H s):∀b o,X.base.get? b=some o→s.heap.get? b=some o:=fun b o e=>(I.bs b o e).1
theorem Inv.mod (I:Inv X pins σ H s):Mod X.K X.mg X.base:=I.ok.mod
theorem Inv.kIn (I:Inv X pins σ H s):X.K.In s.heap:=I.ok.mod.kin.keeps I.bk
theorem Inv.lt (I:Inv X pins σ H s):X.env.locals<s.heap.objs.size:=let ⟨_,hn,_⟩:=I.loc;hn.lt
theorem Inv.sz (I:Inv X pins σ H s):X.s₀.heap.objs.size≤s.heap.objs.size:=Nat.le_trans I.ok.above (Nat.le_of_lt I.lt)
theorem Inv.nofs (I:Inv X pins σ H s) {a:Addr} (h:s.heap.objs.size≤a):a∉X.fs:=fun hb=>by
 obtain⟨_,o,ho,_⟩:=I.ok.funs.mem hb
 exact absurd (Nat.lt_of_lt_of_le (Heap.lt_size ho) (Nat.le_trans I.sz h)) (Nat.lt_irrefl _)
theorem Inv.cne (I:Inv X pins σ H s):∀x c,X.env.cells.lookup x=some c→c≠X.env.locals:=fun x c e z=>by
 obtain⟨v,o,ho,hd⟩:=I.cell x c e
 obtain⟨m,⟨o',es,ep,ho',hd',_⟩,_⟩:=I.loc
 rw[z,ho']at ho;cases ho;rw[hd']at hd;cases hd
theorem Inv.funs (I:Inv X pins σ H s):s.heap.FunFrames X.base X.outer:=by
 have all:∀(l:List Env),(∀b∈frs l,b∈X.fs)→X.s₀.heap.FunFrames X.base l→s.heap.FunFrames X.base l:=by
  intro l
  induction l with
  |nil=>intro _ _;trivial
  |cons env r ih=>
   intro hs hl
   obtain⟨hk,⟨L,o,hf,hn,ho,hd⟩,hr⟩:=hl
   have hL:L∈X.fs:=hs L (by unfold frs;rw[List.filterMap_cons,hf];exact List.mem_cons_self)
   obtain⟨sl,e⟩:=I.base.slot L o ho (I.ok.frf L hL) hL fun z=>I.ok.exfs L z hL
   exact⟨hk,⟨L,_,hf,hn,e,hd⟩,ih (fun b hb=>hs b (by unfold frs;rw[List.filterMap_cons,hf];exact List.mem_cons_of_mem _ hb)) hr⟩
 exact all X.outer (fun _ hb=>hb) I.ok.funs
theorem Inv.stack (I:Inv X pins σ H s):s.heap.FunFrames X.base X.stack:=by
 rcases I.ok.stk with e|⟨e,hf⟩
 ·rw[e];exact I.funs
 ·rw[e]
  obtain⟨m,hn,_⟩:=I.loc
  refine .cons (by rw[I.ok.kind];decide) hf hn ?_ I.funs
  exact Heap.get?_none_of_le (Nat.le_trans I.ok.bsz I.ok.above)
theorem Inv.stkSub (I:Inv X pins σ H s):∀b∈frs X.stack,b∈X.env.locals::X.fs:=fun b hb=>by
 rcases I.ok.stk with e|⟨e,hf⟩
 ·rw[e]at hb;exact List.mem_cons_of_mem _ hb
 ·rw[e]at hb
  unfold frs at hb
  rw[List.filterMap_cons,hf]at hb
  exact hb
theorem Inv.stkFree (I:Inv X pins σ H s):∀b∈frs X.stack,H b=none:=fun b hb=>by
 rcases List.mem_cons.mp (I.stkSub b hb)with e|hb
 ·rw[e];exact I.free
 ·obtain⟨_,o,ho,_⟩:=I.ok.funs.mem hb
  exact I.base.free b o ho (I.ok.frf b hb) fun z=>I.ok.exfs b z hb
theorem Inv.step {g':Array GenState} {t':Nat} {d':Drawn} {ch:List Addr} (I:Inv X pins σ H s)
  (hch:∀b∈ch,(b∈X.ex∨X.s₀.heap.objs.size≤b)∧b≠X.env.locals∧(∀x c,X.env.cells.lookup x=some c→c≠b)∧∀p∈X.pn++pins,p.1≠b)
  (keep:∀b o,b≠X.env.locals→b∉X.fs→b∉ch→s.heap.get? b=some o→H b=none→h'.get? b=some o)
  (slot:∀b o,b≠X.env.locals→b∈X.fs→b∉ch→s.heap.get? b=some o→H b=none→∃sl,h'.get? b=some {o with slots:=sl}) (free:∀b o,b∉ch→s.heap.get? b=some o→H b=none→H' b=none)
  (there:∀b o,b∉ch→s.heap.get? b=some o→∃o',h'.get? b=some o')
  (tups:∀b xs,H b=some (.tup xs)→H' b=some (.tup xs)) (frzs:∀b o u,H b=some (.frz o u)→H' b=some (.frz o u)) (tbls:∀b ps,H b=some (.tbl ps)→∃more,H' b=some (.tbl (ps++more)))
  (ns:∀m,s.heap.Ns X.env.locals m→h'.Ns X.env.locals m) (hok:HOk X.prog X.w H' h') (hg:AllBare g'):
  Inv X pins σ H' {s with heap:=h',gens:=g',drawn:=d',toks:=t'}:=by
 have neL:∀b o,X.s₀.heap.get? b=some o→b≠X.env.locals:=fun b o e=>Nat.ne_of_lt (Nat.lt_of_lt_of_le (Heap.lt_size e) I.ok.above)
 have neC:∀b o,X.s₀.heap.get? b=some o→b∉X.ex→b∉ch:=fun b o e hx hb=>by
  rcases(hch b hb).1 with z|z
  ·exact hx z
  ·exact absurd (Nat.lt_of_lt_of_le (Heap.lt_size e) z) (Nat.lt_irrefl _)
 have cellK:∀x c,X.env.cells.lookup x=some c→∀v,s.heap.IsCell c v→h'.IsCell c v:=fun x c e v hzz=>by
  obtain⟨o,ho,hd⟩:=hzz
  have nch:c∉ch:=fun z=>(hch c z).2.2.1 x c e rfl
  by_cases hc:c∈X.fs
  ·obtain⟨sl,q⟩:=slot c o (I.cne x c e) hc nch ho (I.freeC x c e)
   exact⟨_,q,hd⟩
  ·exact⟨o,keep c o (I.cne x c e) hc nch ho (I.freeC x c e),hd⟩
 refine⟨I.ok,I.os,hg,⟨fun b o e n hb hx=>?_,fun b o e n hb hx=>?_,fun b o e n hx=>?_,fun b o e hx=>?_,fun b xs e=>tups b xs (I.base.tups b xs e),fun b o xs e=>frzs b o xs (I.base.frzs b o xs e),fun b ps e=>?_⟩,?_,fun x c e=>?_,?_,fun x c e=>?_,fun p hp=>?_,hok,I.len⟩
 ·exact keep b o (neL b o e) hb (neC b o e hx) (I.base.keep b o e n hb hx) (I.base.free b o e n hx)
 ·obtain⟨sl,e1⟩:=I.base.slot b o e n hb hx
  obtain⟨sl',e2⟩:=slot b _ (neL b o e) hb (neC b o e hx) e1 (I.base.free b o e n hx)
  exact⟨sl',e2⟩
 ·obtain⟨o',e1⟩:=I.base.there b o e hx
  exact free b o' (neC b o e hx) e1 (I.base.free b o e n hx)
 ·obtain⟨o',e1⟩:=I.base.there b o e hx
  exact there b o' (neC b o e hx) e1
 ·obtain⟨m1,e1⟩:=I.base.tbls b ps e
  obtain⟨m2,e2⟩:=tbls b _ e1
  exact⟨m1++m2,by rw[e2,Array.append_assoc]⟩
 ·obtain⟨m,hn,hl⟩:=I.loc
  refine⟨m,ns m hn,fun i x v e1 e2 e3=>?_⟩
  obtain⟨u,r,l⟩:=hl i x v e1 e2 e3
  refine⟨u,r,?_⟩
  rcases l with l|⟨k,c,e,z⟩
  ·exact .inl l
  ·exact .inr ⟨k,c,e,cellK x c e _ z⟩
 ·obtain⟨v,z⟩:=I.cell x c e
  exact⟨v,cellK x c e v z⟩
 ·obtain⟨m,⟨o,_,_,ho,_⟩,_⟩:=I.loc
  exact free _ o (fun z=>(hch _ z).2.1 rfl) ho I.free
 ·obtain⟨v,o,ho,hd⟩:=I.cell x c e
  exact free c o (fun z=>(hch c z).2.2.1 x c e rfl) ho (I.freeC x c e)
 ·obtain⟨e,n,ne,nf,d⟩:=I.pin p hp
  have nch:p.1∉ch:=fun z=>(hch p.1 z).2.2.2 p hp rfl
  exact⟨keep p.1 p.2 ne nf nch e n,free p.1 p.2 nch e n,ne,nf,d⟩
theorem Inv.un {t':Nat} (I:Inv X pins σ H s) (u:Un X.fs [] H H' s.heap h') (hok:HOk X.prog X.w H' h'):Inv X pins σ H' {s with heap:=h',toks:=t'}:=by
 obtain⟨m,⟨o,es,ep,ho,r⟩,_⟩:=id I.loc
 obtain⟨sl,hL⟩:=u.any ho I.free (by simp)
 exact I.step (g':=s.gens) (d':=s.drawn) (ch:=[]) (fun _ z=>nomatch z) (fun b o _ hb _ e n=>u.keep b o e n hb (by simp)) (fun b o _ hb _ e n=>u.slot b o e n hb (by simp)) (fun b o _ e n=>u.free b o e n (by simp)) (fun b o _ e=>u.there b o e (by simp)) u.tups u.frzs u.tbls (fun m' hm=>by
  obtain⟨o',es',ep',ho',r'⟩:=hm
  rw[ho]at ho';cases ho'
  exact⟨_,es',ep',hL,r'⟩) hok I.bare
theorem Inv.call {g':Array GenState} {t':Nat} {d':Drawn} {ch:List Addr} (I:Inv X pins σ H s) (u:Un (frs X.stack) ch H H' s.heap h') (hok:HOk X.prog X.w H' h') (hg:AllBare g')
  (hch:∀b∈ch,(b∈X.ex∨X.s₀.heap.objs.size≤b)∧b≠X.env.locals∧(∀x c,X.env.cells.lookup x=some c→c≠b)∧∀p∈X.pn++pins,p.1≠b):
  Inv X pins σ H' {s with heap:=h',gens:=g',drawn:=d',toks:=t'}:=by
 obtain⟨m,⟨o,es,ep,ho,r⟩,_⟩:=id I.loc
 obtain⟨sl,hL⟩:=u.any ho I.free fun z=>(hch _ z).2.1 rfl
 exact I.step (ch:=ch) hch (fun b o hL hb hc e n=>u.keep b o e n (fun z=>(List.mem_cons.mp (I.stkSub b z)).elim hL hb) hc) (fun b o _ _ hc e n=>u.any e n hc) (fun b o hc e n=>u.free b o e n hc) (fun b o hc e=>u.there b o e hc) u.tups u.frzs u.tbls (fun m' hm=>by
  obtain⟨o',es',ep',ho',r'⟩:=hm
  rw[ho]at ho';cases ho'
  exact⟨_,es',ep',hL,r'⟩) hok hg
theorem Inv.turned {t':Nat} {it:Addr} (I:Inv X pins σ H s) (k:∀b o,b≠it→s.heap.get? b=some o→h'.get? b=some o) (hn:H it=none) (hL:it≠X.env.locals)
  (h1:it∈X.ex∨X.s₀.heap.objs.size≤it) (h2:∀x c,X.env.cells.lookup x=some c→c≠it) (h3:∀p∈X.pn++pins,p.1≠it):Inv X pins σ H {s with heap:=h',toks:=t'}:=by
 have nit:∀b u,H b=some u→b≠it:=fun b u e z=>by rw[z,hn]at e;cases e
 refine I.step (g':=s.gens) (d':=s.drawn) (ch:=[it]) (fun b hb=>?_) (fun b o _ _ hc e _=>k b o (fun z=>hc (by simp[z])) e) (fun b o _ _ hc e _=>⟨o.slots,k b o (fun z=>hc (by simp[z])) e⟩) (fun _ _ _ _ n=>n)
  (fun b o hc e=>⟨o,k b o (fun z=>hc (by simp[z])) e⟩) (fun _ _ e=>e) (fun _ _ _ e=>e) (fun b ps e=>⟨#[],by rw[e];simp⟩) (fun m hm=>?_) (fun b u e=>?_) I.bare
 ·have e:b=it:=by simpa using hb
  subst e
  exact⟨h1,hL,h2,h3⟩
 ·obtain⟨o,es,ep,ho,r⟩:=hm
  exact⟨o,es,ep,k _ o (Ne.symm hL) ho,r⟩
 ·refine(I.hok b u e).stay (fun c v hc q=>k c v ?_ q) (fun _ q=>q) fun _ _ q=>q
  rcases hc with z|z
  ·rw[z];exact nit b u e
  ·exact nit c _ z
theorem Inv.tok (I:Inv X pins σ H s) (t:Nat):Inv X pins σ H {s with toks:=t}:=I.un (h':=s.heap) (t':=t) Un.refl I.hok
theorem Inv.kept {t':Nat} (I:Inv X pins σ H s) (k:∀b u,s.heap.get? b=some u→h'.get? b=some u):Inv X pins σ H {s with heap:=h',toks:=t'}:=I.un (Un.kept k) (I.hok.kept k)
theorem Inv.laid {a:Addr} {o:HO} {t':Nat} (I:Inv X pins σ H s) (k:∀b u,s.heap.get? b=some u→h'.get? b=some u) (hp:s.heap.objs.size≤a) (new:ObjOk X.prog X.w (upd H a o) h' a o):
  Inv X pins σ (upd H a o) {s with heap:=h',toks:=t'}:=I.un (Un.laid k hp (I.hok.fresh hp)) (I.hok.laid k hp new)
theorem Inv.write {x e:Addr} {o:HO} {t':Nat} (I:Inv X pins σ H s) (mu:Mut (H x)) (he:e=x∨H e=some (.own x)) (k:∀b u,b≠e→s.heap.get? b=some u→h'.get? b=some u) (heo:∃u,h'.get? e=some u)
  (new:ObjOk X.prog X.w (upd H x o) h' x o):Inv X pins σ (upd H x o) {s with heap:=h',toks:=t'}:=I.un (Un.write mu he k heo) (I.hok.write mu he k heo new)
theorem Inv.weak {σ':List (Option V)} (I:Inv X pins σ H s) (hl:σ'.length=σ.length) (w:∀(i:Nat) v,σ'[i]?=some (some v)→σ[i]?=some (some v)):Inv X pins σ' H s:=
 ⟨I.ok,I.os,I.bare,I.base,let ⟨m,hn,hl'⟩:=I.loc;⟨m,hn,fun i x v e1 e2 e3=>hl' i x v e1 (w i v e2) e3⟩,I.cell,I.free,I.freeC,I.pin,I.hok,hl.trans I.len⟩
theorem Inv.pins_of {pins':List (Addr×Obj)} (I:Inv X pins σ H s) (h:∀p∈pins',s.heap.get? p.1=some p.2∧H p.1=none∧p.1≠X.env.locals∧p.1∉X.fs∧∀v,p.2.data≠.cell v):Inv X pins' σ H s:=
 ⟨I.ok,I.os,I.bare,I.base,I.loc,I.cell,I.free,I.freeC,fun p hp=>(List.mem_append.mp hp).elim (fun z=>I.pin p (List.mem_append_left _ z)) (h p),I.hok,I.len⟩
theorem nodup_ix {N:List Str} (hN:N.Nodup) {i j:Nat} {x:Str} (a:N[i]?=some x) (b:N[j]?=some x):i=j:=by
 obtain⟨h1,e1⟩:=List.getElem?_eq_some_iff.mp a
 obtain⟨h2,e2⟩:=List.getElem?_eq_some_iff.mp b
 exact(List.getElem_inj hN).mp (e1.trans e2.symm)
theorem store_ok2 {M:Model} {A:Around} {E:Value→Shared→Prop} {i:Nat} {x:Str} {v:V} {u:Value} {Q:Unit→Shared→Prop} (I:Inv X pins σ H s) (hN:X.N.Nodup) (hi:X.N[i]?=some x) (hx:Loc X.env.scope x) (r:RelV v u)
  (h:∀s',Inv X pins (σ.set i (some v)) H s'→(∃a,Heap.SameBut a s.heap s'.heap∧(a=X.env.locals∨X.env.cells.lookup x=some a))→Q () s') (hf:X.fn x=true∨X.env.scope.names.lookup x=some .local:=by first|exact .inl rfl|exact .inr rfl|assumption):wpAny M A (storeName X.env x u) Q E s:=by
 obtain⟨m,hn,hl⟩:=id I.loc
 have hcls:(X.env.scope.kind == .class || (X.env.scope.kind == .module&&X.env.locals !=X.env.globals))=false:=by rw[I.ok.kind];rfl
 have hiσ:i<σ.length:=by rw[I.len];exact(List.getElem?_eq_some_iff.mp hi).1
 have cne:=I.cne
 have tracked:∀{a:Addr} {h':Heap},(∃o,s.heap.get? a=some o∧H a=none)→Heap.SameBut a s.heap h'→HOk X.prog X.w H h':=fun{a h'} ha hs b ob e=>by
  obtain⟨_,_,hfree⟩:=ha
  refine(I.hok b ob e).stay (fun c w' hc q=>(hs.2 c ?_).trans q) (fun _ q=>q) fun _ _ q=>q
  rintro rfl
  rcases hc with rfl|hc
  ·rw[hfree]at e;cases e
  ·rw[hfree]at hc;cases hc
 rcases hx with hk|hk
 ·refine wpAny_storeName_local hk hn (fun h' hn' hs=>?_) hcls
  obtain⟨oL,_,_,hoL,_⟩:=id hn
  refine h _ ⟨I.ok,I.os,I.bare,⟨fun b o e n hb hx=>?_,fun b o e n hb hx=>?_,I.base.free,fun b o e hx=>?_,I.base.tups,I.base.frzs,I.base.tbls⟩,⟨_,hn',fun j y v' e1 e2 e3=>?_⟩,fun y c e=>?_,I.free,I.freeC,fun p hp=>?_,tracked ⟨oL,hoL,I.free⟩ hs,by simpa using I.len⟩ ⟨_,hs,.inl rfl⟩
  ·exact(hs.2 b (Nat.ne_of_lt (Nat.lt_of_lt_of_le (Heap.lt_size e) I.ok.above))).trans (I.base.keep b o e n hb hx)
  ·obtain⟨sl,e1⟩:=I.base.slot b o e n hb hx
   exact⟨sl,(hs.2 b (Nat.ne_of_lt (Nat.lt_of_lt_of_le (Heap.lt_size e) I.ok.above))).trans e1⟩
  ·obtain⟨o',e1⟩:=I.base.there b o e hx
   exact⟨o',(hs.2 b (Nat.ne_of_lt (Nat.lt_of_lt_of_le (Heap.lt_size e) I.ok.above))).trans e1⟩
  ·by_cases hj:j=i
   ·subst hj
    rw[hi]at e1;cases e1
    rw[List.getElem?_set_self hiσ]at e2
    cases e2
    exact⟨u,r,.inl ⟨hk,by simp⟩⟩
   ·rw[List.getElem?_set_ne (Ne.symm hj)]at e2
    obtain⟨u',r',q⟩:=hl j y v' e1 e2 e3
    refine⟨u',r',?_⟩
    rcases q with⟨k,e⟩|⟨k,c,e,z⟩
    ·refine .inl ⟨k,?_⟩
     have:y≠x:=fun e=>hj (nodup_ix hN e1 (e▸hi))
     simp[this,e]
    ·exact .inr ⟨k,c,e,z.sameBut hs (cne y c e)⟩
  ·obtain⟨w',z⟩:=I.cell y c e
   exact⟨w',z.sameBut hs (cne y c e)⟩
  ·obtain⟨e,n,ne,nf,d⟩:=I.pin p hp
   exact⟨(hs.2 p.1 ne).trans e,n,ne,nf,d⟩
 ·have hfn:X.fn x=true:=by
   rcases hf with z|z
   ·exact z
   ·rw[z]at hk;cases hk
  obtain⟨c,hc⟩:=I.ok.has x (.inl hk)
  obtain⟨w',z⟩:=I.cell x c hc
  refine wpAny_storeName_cell I.ok.kind hk hc z (fun h' hc' hs=>?_)
  obtain⟨oc,hoc,hocd⟩:=id z
  refine h {s with heap:=h'} ⟨I.ok,I.os,I.bare,⟨fun b o e n hb hx=>?_,fun b o e n hb hx=>?_,I.base.free,fun b o e hx=>?_,I.base.tups,I.base.frzs,I.base.tbls⟩,⟨m,hn.sameBut hs (Ne.symm (cne x c hc)),fun j y v' e1 e2 e3=>?_⟩,fun y c' e=>?_,I.free,I.freeC,fun p hp=>?_,tracked ⟨oc,hoc,I.freeC x c hc⟩ hs,by simpa using I.len⟩ ⟨c,hs,.inr hc⟩
  ·exact(hs.2 b (Nat.ne_of_lt (Nat.lt_of_lt_of_le (Heap.lt_size e) (I.ok.cab x c hfn hc)))).trans (I.base.keep b o e n hb hx)
  ·obtain⟨sl,e1⟩:=I.base.slot b o e n hb hx
   exact⟨sl,(hs.2 b (Nat.ne_of_lt (Nat.lt_of_lt_of_le (Heap.lt_size e) (I.ok.cab x c hfn hc)))).trans e1⟩
  ·obtain⟨o',e1⟩:=I.base.there b o e hx
   exact⟨o',(hs.2 b (Nat.ne_of_lt (Nat.lt_of_lt_of_le (Heap.lt_size e) (I.ok.cab x c hfn hc)))).trans e1⟩
  ·by_cases hj:j=i
   ·subst hj
    rw[hi]at e1;cases e1
    rw[List.getElem?_set_self hiσ]at e2
    cases e2
    exact⟨u,r,.inr ⟨.inl hk,c,hc,hc'⟩⟩
   ·rw[List.getElem?_set_ne (Ne.symm hj)]at e2
    obtain⟨u',r',q⟩:=hl j y v' e1 e2 e3
    refine⟨u',r',?_⟩
    rcases q with q|⟨k,c',e,z'⟩
    ·exact .inl q
    ·refine .inr ⟨k,c',e,z'.sameBut hs ?_⟩
     rintro rfl
     exact hj (nodup_ix hN e1 (I.ok.inj _ _ _ e hc▸hi))
  ·by_cases hcc:c'=c
   ·subst hcc;exact⟨_,hc'⟩
   ·obtain⟨w2,z2⟩:=I.cell y c' e
    exact⟨w2,z2.sameBut hs hcc⟩
  ·obtain⟨e,n,ne,nf,d⟩:=I.pin p hp
   refine⟨(hs.2 p.1 ?_).trans e,n,ne,nf,d⟩
   intro q
   rw[q,hoc]at e
   have q':oc=p.2:=Option.some.inj e
   exact d w' (by rw[← q'];exact hocd)
theorem store_ok {M:Model} {A:Around} {E:Value→Shared→Prop} {i:Nat} {x:Str} {v:V} {u:Value} {Q:Unit→Shared→Prop} (I:Inv X pins σ H s) (hN:X.N.Nodup) (hi:X.N[i]?=some x) (hx:Loc X.env.scope x) (r:RelV v u)
  (h:∀s',Inv X pins (σ.set i (some v)) H s'→Q () s') (hf:X.fn x=true∨X.env.scope.names.lookup x=some .local:=by first|exact .inl rfl|exact .inr rfl|assumption):wpAny M A (storeName X.env x u) Q E s:=
 store_ok2 I hN hi hx r (fun s' I' _=>h s' I') hf
theorem Inv.call' {s':Shared} {ch:List Addr} (I:Inv X pins σ H s) (ho:s'.os=s.os) (u:Un (frs X.stack) ch H H' s.heap s'.heap) (hok:HOk X.prog X.w H' s'.heap) (hg:AllBare s'.gens)
  (hch:∀b∈ch,(b∈X.ex∨X.s₀.heap.objs.size≤b)∧b≠X.env.locals∧(∀x c,X.env.cells.lookup x=some c→c≠b)∧∀p∈X.pn++pins,p.1≠b):Inv X pins σ H' s':=by
 obtain⟨h',g',d',t',o'⟩:=s'
 have e:o'=s.os:=ho
 subst e
 exact I.call (g':=g') (t':=t') (d':=d') u hok hg hch
end
abbrev XK:=Value→Option Addr→Hp→Prop
abbrev St:=List (Option V)
abbrev VK:=V→Hp→Prop
abbrev TE:=St→Hp→VK→Prop
abbrev TT:=St→Hp→(Bool→Hp→Prop)→Prop
abbrev TA:=St→Hp→(List V→Hp→Prop)→Prop
structure Ends where
 nx:St→Hp→Prop
 rt:VK
 bk:St→Hp→Prop:=fun _ _=>False
 ct:St→Hp→Prop:=fun _ _=>False
abbrev TS:=Ends→St→Hp→Prop
def EP (X:Cx) (pins:List (Addr×Obj)) (σ:St) (Q:VK) (u:Value) (s':Shared):Prop:=∃v H',Inv X pins σ H' s'∧RelV v u∧Q v H'
def TP (X:Cx) (pins:List (Addr×Obj)) (σ:St) (Q:Bool→Hp→Prop) (b:Bool) (s':Shared):Prop:=∃H',Inv X pins σ H' s'∧Q b H'
def AP (X:Cx) (pins:List (Addr×Obj)) (σ:St) (Q:List V→Hp→Prop) (us:List Value) (s':Shared):Prop:=∃vs H',Inv X pins σ H' s'∧Vals vs us∧Q vs H'
def SP (X:Cx) (pins:List (Addr×Obj)) (D:Ends) (f:Flow) (s':Shared):Prop:=
 match f with
 | .next=>∃σ' H',Inv X pins σ' H' s'∧D.nx σ' H'
 | .brk=>∃σ' H',Inv X pins σ' H' s'∧D.bk σ' H'
 | .cont=>∃σ' H',Inv X pins σ' H' s'∧D.ct σ' H'
 | .ret u=>∃v σ' H',Inv X pins σ' H' s'∧RelV v u∧D.rt v H'
def PE (X:Cx) (e:Expr) (t:TE):Prop:=
 ∀(pins:List (Addr×Obj)) (s:Shared) (σ:St) (H:Hp) (Q:VK),Inv X pins σ H s→t σ H Q→wpAny (model X.prog X.w) X.A (eval e X.env) (EP X pins σ Q) X.xe s
def PT (X:Cx) (e:Expr) (t:TT):Prop:=
 ∀(pins:List (Addr×Obj)) (s:Shared) (σ:St) (H:Hp) (Q:Bool→Hp→Prop),Inv X pins σ H s→t σ H Q→wpAny (model X.prog X.w) X.A (isTrue e X.env (eval e X.env)) (TP X pins σ Q) X.xe s
def PW (X:Cx) (e:Expr) (t:TT):Prop:=
 ∀(whole:Sem Value) (pins:List (Addr×Obj)) (s:Shared) (σ:St) (H:Hp) (Q:Bool→Hp→Prop),Inv X pins σ H s→t σ H Q→wpAny (model X.prog X.w) X.A (isTrue e X.env whole) (TP X pins σ Q) X.xe s
theorem PW.pt {X:Cx} {e:Expr} {t:TT} (h:PW X e t):PT X e t:=h _
def PA (X:Cx) (es:List Expr) (t:TA):Prop:=
 ∀(pos:Pos) (pins:List (Addr×Obj)) (s:Shared) (σ:St) (H:Hp) (Q:List V→Hp→Prop),Inv X pins σ H s→t σ H Q→wpAny (model X.prog X.w) X.A (spliced (backTo pos (starEach es X.env))) (AP X pins σ Q) X.xe s
def PS (X:Cx) (st:Stmt) (t:TS):Prop:=
 ∀(pins:List (Addr×Obj)) (s:Shared) (σ:St) (H:Hp) (D:Ends),Inv X pins σ H s→t D σ H→wpAny (model X.prog X.w) X.A (exec st X.env) (SP X pins D) X.xe s
def PSs (X:Cx) (st:List Stmt) (t:TS):Prop:=
 ∀(pins:List (Addr×Obj)) (s:Shared) (σ:St) (H:Hp) (D:Ends),Inv X pins σ H s→t D σ H→wpAny (model X.prog X.w) X.A (execs st X.env) (SP X pins D) X.xe s
theorem thn {α:Type} {t:Sem α} {Q Q':α→Shared→Prop} {M:Model} {A:Around} {E:Value→Shared→Prop} {s:Shared} (h:wpAny M A t Q E s) (hQ:∀a s,Q a s→Q' a s):wpAny M A t Q' E s:=wpAny_mono h hQ fun _ _ x=>x
open PySem PySem.Spec PyProof.Rows
section
variable {X:Cx}
def tVar (i:Nat):TE:=fun σ H Q=>∃v,σ[i]?=some (some v)∧Q v H
def tC (v:V):TE:=fun _ H Q=>Q v H
theorem pe_var {i:Nat} {x:Str} {pos:Pos} (hN:X.N[i]?=some x) (hv:Vis X.env.scope x) (hd:(x==("__debug__" : Str))=false:=by decide) (hcd:(x==("__classdict__" : Str))=false:=by decide):PE X (.Name x pos) (tVar i):=by
 intro pins s σ H Q I h
 obtain⟨v,e,h⟩:=h
 obtain⟨m,hn,hl⟩:=I.loc
 obtain⟨u,r,l⟩:=hl i x v hN e hv
 have fin:EP X pins σ Q u s:=⟨v,H,I,r,h⟩
 rcases l with⟨hk,hm⟩|⟨hk,c,hc,hcell⟩
 ·exact wpAny_Name (wpAny_loadName_local I.ok.kind hk hn hm fin) hd
 ·rcases hk with hk|hk
  ·exact wpAny_Name (wpAny_loadName_cell I.ok.kind hk hc hcell fin) hd
  ·exact wpAny_Name (wpAny_loadName_free I.ok.kind hk hc hcell fin hcd) hd
theorem pe_int {i j pos}:PE X (.Constant (.int i) j pos) (tC (.int i)):=fun _ _ _ H _ I h=>wpAny_Constant_int ⟨.int i,H,I.tok _,⟨_,rfl⟩,h⟩
theorem pe_bl {b j pos}:PE X (.Constant (.bool b) j pos) (tC (.bl b)):=fun _ _ _ H _ I h=>Constant_bool ⟨.bl b,H,I,rfl,h⟩
theorem pe_non {j pos}:PE X (.Constant .none j pos) (tC .non):=fun _ _ _ H _ I h=>Constant_none ⟨.non,H,I,rfl,h⟩
theorem pe_str {x j pos}:PE X (.Constant (.str x) j pos) (tC (.str x)):=fun _ _ _ H _ I h=>Calls.Constant_str ⟨.str x,H,I.tok _,⟨_,rfl⟩,h⟩
def Gl (X:Cx) (x:Str):Prop:=X.env.kindOf x=some .globalImplicit
theorem ld_glob {E:Value→Shared→Prop} {pins:List (Addr×Obj)} {s:Shared} {σ:St} {H:Hp} {x:Str} {u:Value} {pos:Pos} {Q:Value→Shared→Prop} (I:Inv X pins σ H s) (hg:Gl X x) (hm:X.mg x=some u) (h:Q u s)
  (hd:(x==("__debug__" : Str))=false:=by decide):wpAny (model X.prog X.w) X.A (eval (.Name x pos) X.env) Q E s:=
 Calls.Name_function_global I.ok.kind hg (Calls.loadGlobal_global (by rw[I.ok.glob];exact I.mod.glob.keeps I.bk) hm h) hd
theorem ld_blt {E:Value→Shared→Prop} {pins:List (Addr×Obj)} {s:Shared} {σ:St} {H:Hp} {x:Str} {u:Value} {pos:Pos} {Q:Value→Shared→Prop} (I:Inv X pins σ H s) (hg:Gl X x) (hm:X.mg x=none) (hv:bootBuiltins x=some u) (h:Q u s)
  (hn:x≠"__name__":=by decide) (hd:(x==("__debug__" : Str))=false:=by decide):wpAny (model X.prog X.w) X.A (eval (.Name x pos) X.env) Q E s:=by
 obtain⟨mb,h1,h2⟩:=I.mod.blt
 exact Calls.Name_function_global I.ok.kind hg (Calls.loadGlobal_builtin (by rw[I.ok.glob];exact I.mod.glob.keeps I.bk) hm (by rw[I.ok.blt];exact h1.keeps I.bk) ((h2 x hn).trans hv) h) hd
theorem pe_glob {x:Str} {v:V} {u:Value} {pos:Pos} (hg:Gl X x) (hm:X.mg x=some u) (r:RelV v u) (hd:(x==("__debug__" : Str))=false:=by decide):PE X (.Name x pos) (tC v):=
 fun _ _ _ H _ I h=>ld_glob I hg hm ⟨v,H,I,r,h⟩ hd
theorem pe_bltn {x:Str} {v:V} {u:Value} {pos:Pos} (hg:Gl X x) (hm:X.mg x=none) (hv:bootBuiltins x=some u) (r:RelV v u) (hn:x≠"__name__":=by decide) (hd:(x==("__debug__" : Str))=false:=by decide):PE X (.Name x pos) (tC v):=
 fun _ _ _ H _ I h=>ld_blt I hg hm hv ⟨v,H,I,r,h⟩ hn hd
variable {a b:Expr} {ta tb:TE} {pos:Pos}
variable {tA tB':TT} {rest:List Expr}
def tAnd (t u:TT):TT:=fun σ H Q=>t σ H fun c H1=>if c=true then u σ H1 Q else Q false H1
def tOr (t u:TT):TT:=fun σ H Q=>t σ H fun c H1=>if c=true then Q true H1 else u σ H1 Q
def tNot (t:TT):TT:=fun σ H Q=>t σ H fun c H1=>Q (!c) H1
theorem pw_and1 (ha:PT X a tA):PW X (.BoolOp .And [a] pos) tA:=by
 intro wh pins s σ H Q I h
 refine isTrue_and (thn (ha pins s σ H Q I h) fun c s1 e=>?_)
 cases c with
 |true=>exact isTrue_and_nil e
 |false=>exact e
theorem pw_or1 (ha:PT X a tA):PW X (.BoolOp .Or [a] pos) tA:=by
 intro wh pins s σ H Q I h
 refine isTrue_or (thn (ha pins s σ H Q I h) fun c s1 e=>?_)
 cases c with
 |false=>exact isTrue_or_nil e
 |true=>exact e
theorem pw_and (ha:PT X a tA) (hb:PW X (.BoolOp .And (b::rest) pos) tB'):PW X (.BoolOp .And (a::b::rest) pos) (tAnd tA tB'):=by
 intro wh pins s σ H Q I h
 refine isTrue_and (thn (ha pins s σ H _ I h) fun c s1 ⟨H1,I1,q1⟩=>?_)
 cases c with
 |true=>exact hb wh pins s1 σ H1 Q I1 q1
 |false=>exact⟨H1,I1,q1⟩
theorem pw_or (ha:PT X a tA) (hb:PW X (.BoolOp .Or (b::rest) pos) tB'):PW X (.BoolOp .Or (a::b::rest) pos) (tOr tA tB'):=by
 intro wh pins s σ H Q I h
 refine isTrue_or (thn (ha pins s σ H _ I h) fun c s1 ⟨H1,I1,q1⟩=>?_)
 cases c with
 |true=>exact⟨H1,I1,q1⟩
 |false=>exact hb wh pins s1 σ H1 Q I1 q1
theorem pt_not (ha:PT X a tA):PT X (.UnaryOp .Not a pos) (tNot tA):=by
 intro pins s σ H Q I h
 exact isTrue_not (ha pins s σ H (fun c H1=>Q (!c) H1) I h)
def tAndV (ta tb:TE):TE:=fun σ H Q=>ta σ H fun x H1=>∃c,x=.bl c∧if c=true then tb σ H1 Q else Q (.bl false) H1
def tOrV (ta tb:TE):TE:=fun σ H Q=>ta σ H fun x H1=>∃c,x=.bl c∧if c=true then Q (.bl true) H1 else tb σ H1 Q
def tNotV (ta:TE):TE:=fun σ H Q=>ta σ H fun x H1=>∃c,x=.bl c∧Q (.bl (!c)) H1
theorem pe_one {op} {t:TE} (h:PE X a t):PE X (.BoolOp op [a] pos) t:=fun pins s σ H Q I hw=>BoolOp_one (h pins s σ H Q I hw)
theorem pe_and (ha:PE X a ta) (hb:PE X (.BoolOp .And (b::rest) pos) tb):PE X (.BoolOp .And (a::b::rest) pos) (tAndV ta tb):=by
 intro pins s σ H Q I h
 refine BoolOp_and (thn (ha pins s σ H _ I h) fun v s1 ⟨x,H1,I1,r1,q1⟩=>?_)
 obtain⟨c,rfl,q1⟩:=q1
 cases r1
 refine wpAny_truthy_bool ?_
 cases c with
 |true=>exact hb pins s1 σ H1 Q I1 q1
 |false=>exact⟨.bl false,H1,I1,rfl,q1⟩
theorem pe_or (ha:PE X a ta) (hb:PE X (.BoolOp .Or (b::rest) pos) tb):PE X (.BoolOp .Or (a::b::rest) pos) (tOrV ta tb):=by
 intro pins s σ H Q I h
 refine BoolOp_or (thn (ha pins s σ H _ I h) fun v s1 ⟨x,H1,I1,r1,q1⟩=>?_)
 obtain⟨c,rfl,q1⟩:=q1
 cases r1
 refine wpAny_truthy_bool ?_
 cases c with
 |false=>exact hb pins s1 σ H1 Q I1 q1
 |true=>exact⟨.bl true,H1,I1,rfl,q1⟩
theorem pe_not (ha:PE X a ta):PE X (.UnaryOp .Not a pos) (tNotV ta):=by
 intro pins s σ H Q I h
 refine UnaryOp_ (thn (ha pins s σ H _ I h) fun v s1 ⟨x,H1,I1,r1,q1⟩=>?_)
 obtain⟨c,rfl,q1⟩:=q1
 cases r1
 exact not_of (wpAny_truthy_bool ⟨.bl (!c),H1,I1,rfl,q1⟩)
def tIf (t:TT) (ta tb:TE):TE:=fun σ H Q=>t σ H fun c H1=>if c=true then ta σ H1 Q else tb σ H1 Q
theorem pe_ifExp {c:Expr} (hc:PT X c tA) (ha:PE X a ta) (hb:PE X b tb):PE X (.IfExp c a b pos) (tIf tA ta tb):=by
 intro pins s σ H Q I h
 refine wpAny_IfExp (thn (hc pins s σ H _ I h) fun d s1 ⟨H1,I1,q1⟩=>?_)
 cases d with
 |true=>exact ha pins s1 σ H1 Q I1 q1
 |false=>exact hb pins s1 σ H1 Q I1 q1
end
open PySem PySem.Spec PyProof.Rows
def SqL (K:PySem.W.Frag) (H:Hp) (a:Addr) (xs:List V):Prop:=
 Rd H a (.lst xs)∨
  ∃(o:Obj) (its:Array Value) (n:Nat),K.lookup a=some o∧o.cls=.type "list"∧o.dict=none∧o.data=.seq its n∧its.size≤sizeLine∧Vals xs its.toList
def SqT (K:PySem.W.Frag) (H:Hp) (a:Addr) (xs:List V):Prop:=
 Rd H a (.tup xs)∨
  ∃(o:Obj) (its:Array Value) (n:Nat),K.lookup a=some o∧o.cls=.type "tuple"∧o.data=.seq its n∧its.size≤sizeLine∧Vals xs its.toList
def absV:Value→Option V
 | .none=>some .non
 | .bool b=>some (.bl b)
 | .int i _=>some (.int i)
 | .str x _=>some (.str x)
 | .bytes b _=>some (.byt b)
 | .float b _=>some (.flt b)
 | .ref a=>some (.ref a)
 | .type n=>some (.ty n)
 |_=>none
theorem RelV.abs {x:V} {u:Value} (r:RelV x u):absV u=some x:=by
 cases x with
 |non=>cases r;rfl
 |bl _=>cases r;rfl
 |int _=>obtain⟨t,rfl⟩:=r;rfl
 |str _=>obtain⟨t,rfl⟩:=r;rfl
 |byt _=>obtain⟨t,rfl⟩:=r;rfl
 |flt _=>obtain⟨t,rfl⟩:=r;rfl
 |ref _=>cases r;rfl
 |ty _=>cases r;rfl
theorem RelV.inj {x y:V} {u:Value} (r:RelV x u) (q:RelV y u):x=y:=Option.some.inj (r.abs.symm.trans q.abs)
theorem Vals.inj:∀{xs ys:List V} {us:List Value},Vals xs us→Vals ys us→xs=ys
 |_,_,_,.nil,.nil=>rfl
 |_,_,_,.cons r t,.cons r' t'=>by rw[r.inj r',Vals.inj t t']
section
variable {X:Cx} {pins:List (Addr×Obj)} {σ:St} {H:Hp} {s:Shared} {a:Addr} {xs ys:List V}
theorem SqL.of {K:PySem.W.Frag} (h:H a=some (.lst xs)):SqL K H a xs:=.inl (.inl h)
theorem Inv.list (I:Inv X pins σ H s) (h:SqL X.K H a xs):∃its:List Value,Vals xs its∧PlainL s.heap a its.toArray∧xs.length≤sizeLine:=by
 rcases h with h|⟨o,its,n,hk,hc,hd,hs,hz,r⟩
 ·obtain⟨z,its,n,r,e⟩:=h.ok I.hok
  exact⟨its,r,⟨_,n,e,rfl,rfl,rfl⟩,z⟩
 ·refine⟨its.toList,r,⟨o,n,I.kIn a o hk,hc,hd,by simpa using hs⟩,?_⟩
  have e:=r.length
  simp only[Array.length_toList]at e
  omega
theorem Inv.tuple (I:Inv X pins σ H s) (h:SqT X.K H a xs):∃its:List Value,Vals xs its∧IsTup s.heap a its.toArray∧xs.length≤sizeLine:=by
 rcases h with h|⟨o,its,n,hk,hc,hs,hz,r⟩
 ·obtain⟨z,its,r,p⟩:=h.ok I.hok
  exact⟨its,r,p,z⟩
 ·refine⟨its.toList,r,⟨o,I.kIn a o hk,hc,n,by simpa using hs⟩,?_⟩
  have e:=r.length
  simp only[Array.length_toList]at e
  omega
theorem Inv.list_inj (I:Inv X pins σ H s) (h:SqL X.K H a xs) (h':SqL X.K H a ys):xs=ys:=by
 obtain⟨its,r,⟨o,n,e,_,_,d⟩,_⟩:=I.list h
 obtain⟨its',r',⟨o',n',e',_,_,d'⟩,_⟩:=I.list h'
 rw[e]at e';cases e'
 rw[d]at d'
 injection d' with d1 _
 have:its=its':=by simpa using congrArg Array.toList d1
 subst this
 exact r.inj r'
theorem Inv.tuple_inj (I:Inv X pins σ H s) (h:SqT X.K H a xs) (h':SqT X.K H a ys):xs=ys:=by
 obtain⟨its,r,⟨o,e,_,n,d⟩,_⟩:=I.tuple h
 obtain⟨its',r',⟨o',e',_,n',d'⟩,_⟩:=I.tuple h'
 rw[e]at e';cases e'
 rw[d]at d'
 injection d' with d1 _
 have:its=its':=by simpa using congrArg Array.toList d1
 subst this
 exact r.inj r'
end
abbrev Cx.wish (X:Cx) (E:Value→Shared→Prop):Cx:={X with xe:=E}
abbrev Cx.nox (X:Cx):Cx:=X.wish fun _ _=>False
theorem Cx.Ok.wish {X:Cx} (ok:X.Ok) (E:Value→Shared→Prop):(X.wish E).Ok:=
 ⟨ok.mod,ok.kind,ok.glob,ok.blt,ok.above,ok.inj,ok.has,ok.cab,ok.hd,ok.frames,ok.stk,ok.exf,ok.bs,ok.bsz,ok.noex,ok.exfs,ok.funs,ok.frf⟩
theorem Cx.Ok.unwish {X:Cx} {E:Value→Shared→Prop} (ok:(X.wish E).Ok):X.Ok:=
 ⟨ok.mod,ok.kind,ok.glob,ok.blt,ok.above,ok.inj,ok.has,ok.cab,ok.hd,ok.frames,ok.stk,ok.exf,ok.bs,ok.bsz,ok.noex,ok.exfs,ok.funs,ok.frf⟩
section
variable {X:Cx} {pins:List (Addr×Obj)} {σ:St} {H:Hp} {s:Shared} {E:Value→Shared→Prop}
theorem Inv.wish (I:Inv X pins σ H s) (E:Value→Shared→Prop):Inv (X.wish E) pins σ H s:=⟨I.ok.wish E,I.os,I.bare,I.base,I.loc,I.cell,I.free,I.freeC,I.pin,I.hok,I.len⟩
theorem Inv.unwish (I:Inv (X.wish E) pins σ H s):Inv X pins σ H s:=⟨I.ok.unwish,I.os,I.bare,I.base,I.loc,I.cell,I.free,I.freeC,I.pin,I.hok,I.len⟩
theorem SP.unwish {D:Ends} {f:Flow} {s':Shared} (h:SP (X.wish E) pins D f s'):SP X pins D f s':=by
 cases f with
 |next=>obtain⟨σ',H',I,q⟩:=h;exact⟨σ',H',I.unwish,q⟩
 |brk=>obtain⟨σ',H',I,q⟩:=h;exact⟨σ',H',I.unwish,q⟩
 |cont=>obtain⟨σ',H',I,q⟩:=h;exact⟨σ',H',I.unwish,q⟩
 |ret u=>obtain⟨v,σ',H',I,r,q⟩:=h;exact⟨v,σ',H',I.unwish,r,q⟩
theorem PSs.nox {st:List Stmt} {t:TS} (h:PSs X.nox st t):PSs X st t:=fun pins s σ H D I hw=>
 wpAny_mono (h pins s σ H D (I.wish _) hw) (fun _ _ q=>q.unwish) fun _ _ z=>False.elim z
end
section
variable {X:Cx} {st:Stmt} {rest:List Stmt} {t u:TS} {e:Expr} {te:TE} {pos:Pos}
def tNext:TS:=fun D σ H=>D.nx σ H
def tSeq (t u:TS):TS:=fun D σ H=>t {D with nx:=u D} σ H
theorem pss_nil:PSs X [] tNext:=fun _ _ σ H _ I h=>wpAny_execs_nil ⟨σ,H,I,h⟩
theorem pss_cons (h1:PS X st t) (h2:PSs X rest u):PSs X (st::rest) (tSeq t u):=by
 intro pins s σ H D I h
 refine wpAny_execs_cons (thn (h1 pins s σ H {D with nx:=u D} I h) fun f s1 q=>?_)
 cases f with
 |next=>
  obtain⟨σ',H',I',q⟩:=q
  exact h2 pins s1 σ' H' D I' q
 |ret v=>exact q
 |brk=>exact q
 |cont=>exact q
theorem pss_one (h1:PS X st t):PSs X [st] t:=by
 intro pins s σ H D I h
 refine wpAny_execs_cons (thn (h1 pins s σ H D I h) fun f s1 q=>?_)
 cases f with
 |next=>exact wpAny_execs_nil q
 |ret v=>exact q
 |brk=>exact q
 |cont=>exact q
theorem Inv.quiet {pins:List (Addr×Obj)} {σ:St} {H:Hp} {s:Shared} (I:Inv X pins σ H s):interactive X.env=false:=by simp[interactive,I.ok.kind]
def tDrop (te:TE):TS:=fun D σ H=>te σ H fun _ H1=>D.nx σ H1
theorem ps_expr (he:PE X e te) (hs:swapsWith e none pos.line X.env=pure false:=by rfl):PS X (.Expr e pos) (tDrop te):=by
 intro pins s σ H D I h
 exact wpAny_Expr_any (thn (he pins s σ H _ I h) fun v s1 ⟨x,H1,I1,r1,q1⟩=>⟨σ,H1,I1,q1⟩) I.quiet hs
def tRet (te:TE):TS:=fun D σ H=>te σ H D.rt
theorem ps_ret (he:PE X e te):PS X (.Return (some e) pos) (tRet te):=by
 intro pins s σ H D I h
 exact wpAny_Return_some (thn (he pins s σ H _ I h) fun v s1 ⟨x,H1,I1,r1,q1⟩=>⟨x,σ,H1,I1,r1,q1⟩)
def tIfS (c:TT) (t u:TS):TS:=fun D σ H=>c σ H fun b H1=>if b=true then t D σ H1 else u D σ H1
theorem ps_if {c:Expr} {a b:List Stmt} {tc:TT} (hc:PT X c tc) (ha:PSs X a t) (hb:PSs X b u):PS X (.If c a b pos) (tIfS tc t u):=by
 intro pins s σ H D I h
 refine wpAny_If (thn (hc pins s σ H _ I h) fun d s1 ⟨H1,I1,q1⟩=>?_)
 cases d with
 |true=>exact ha pins s1 σ H1 D I1 q1
 |false=>exact hb pins s1 σ H1 D I1 q1
def tNever:TS:=fun _ _ _=>False
theorem ps_never:PS X st tNever:=fun _ _ _ _ _ _ h=>h.elim
end
abbrev TG:=V→St→Hp→(St→Hp→Prop)→Prop
abbrev TGs:=List V→St→Hp→(St→Hp→Prop)→Prop
def PG (X:Cx) (target:Expr) (t:TG):Prop:=
 ∀(pins:List (Addr×Obj)) (s:Shared) (σ:St) (H:Hp) (v:V) (u:Value) (Q:St→Hp→Prop),Inv X pins σ H s→RelV v u→t v σ H Q→
  wpAny (model X.prog X.w) X.A (assign target X.env u) (fun _ s'=>∃σ' H',Inv X pins σ' H' s'∧Q σ' H') X.xe s
def PGs (X:Cx) (ts:List Expr) (t:TGs):Prop:=
 ∀(pins:List (Addr×Obj)) (s:Shared) (σ:St) (H:Hp) (vs:List V) (us:List Value) (Q:St→Hp→Prop),Inv X pins σ H s→Vals vs us→t vs σ H Q→
  wpAny (model X.prog X.w) X.A (assignInOrder ((assignEach ts X.env).map (·.2)) us) (fun _ s'=>∃σ' H',Inv X pins σ' H' s'∧Q σ' H') X.xe s
section
variable {X:Cx} {pos:Pos}
def gName (i:Nat):TG:=fun v σ H Q=>Q (σ.set i (some v)) H
theorem pg_name {i:Nat} {x:Str} (hN:X.N.Nodup) (hi:X.N[i]?=some x) (hx:Loc X.env.scope x) (hf:X.fn x=true∨X.env.scope.names.lookup x=some .local:=by first|exact .inl rfl|exact .inr rfl|assumption):PG X (.Name x pos) (gName i):=by
 intro pins s σ H v u Q I r h
 exact wpAny_assign_Name (store_ok I hN hi hx r (fun s' I'=>⟨_,H,I',h⟩) hf)
def gNil:TGs:=fun vs σ H Q=>vs=[]∧Q σ H
def gCons (t:TG) (u:TGs):TGs:=fun vs σ H Q=>∃v r,vs=v::r∧t v σ H fun σ' H'=>u r σ' H' Q
theorem pgs_nil:PGs X [] gNil:=by
 intro pins s σ H vs us Q I r h
 obtain⟨e,h⟩:=h
 subst e
 cases r
 exact assignInOrder_nil ⟨σ,H,I,h⟩
theorem pgs_cons {e:Expr} {es:List Expr} {t:TG} {u:TGs} (h1:PG X e t) (h2:PGs X es u)
  (hs:(assignEach (e::es) X.env).map (·.2)=assign e X.env::(assignEach es X.env).map (·.2):=by rfl):PGs X (e::es) (gCons t u):=by
 intro pins s σ H vs us Q I r h
 obtain⟨v,vr,e1,h⟩:=h
 subst e1
 cases r with
 |cons r rr=>
  rw[hs]
  refine assignInOrder_cons (thn (h1 pins s σ H _ _ _ I r h) fun _ s1 ⟨σ1,H1,I1,q1⟩=>?_)
  exact h2 pins s1 σ1 H1 _ _ Q I1 rr q1
def gTup (K:PySem.W.Frag) (n:Nat) (t:TGs):TG:=fun v σ H Q=>∃a xs,v=.ref a∧SqT K H a xs∧xs.length=n∧t xs σ H Q
theorem pg_tup {es:List Expr} {k:Nat} {t:TGs} {n:Nat} (hc:X.calm=true) (h:PGs X es t)
  (hn:(assignEach es X.env).length=n:=by rfl) (hst:(assignEach es X.env).findIdx? (·.1)=none:=by rfl):PG X (.Tuple es k pos) (gTup X.K n t):=by
 intro pins s σ H v u Q I r hw
 obtain⟨a,xs,e1,hq,hl,hw⟩:=hw
 subst e1
 cases r
 obtain⟨its,rv,ht,hz⟩:=I.tuple hq
 refine assign_Tuple_tuple (I.ok.hd hc) ht (by simp[hn,← hl,rv.length]) hst fun h' hx=>?_
 have I1:Inv X pins σ H {s with heap:=h'}:=I.kept (t':=s.toks) fun b o e=>hx b o (Nat.ne_of_lt (Heap.lt_size e)) e
 exact h pins _ σ H xs _ Q I1 (by simpa using rv) hw
def tAsg (te:TE) (g:TG):TS:=fun D σ H=>te σ H fun x H1=>g x σ H1 D.nx
theorem ps_asg {tg e:Expr} {te:TE} {g:TG} (he:PE X e te) (hg:PG X tg g) (hs:swapsWithSole [tg] e pos.line X.env=pure false:=by rfl) (hw:swappedStores [tg] e X.env=pure none:=by rfl)
  (h1:(assignEach [tg] X.env).map (·.2)=[assign tg X.env]:=by rfl):PS X (.Assign [tg] e pos) (tAsg te g):=by
 intro pins s σ H D I h
 refine wpAny_Assign_stores (thn (he pins s σ H _ I h) fun v s1 ⟨x,H1,I1,r1,q1⟩=>?_) hs hw
 rw[h1]
 exact thn (hg pins s1 σ H1 x v _ I1 r1 q1) fun _ s2 q=>q
theorem ps_set {i:Nat} {x:Str} {e:Expr} {te:TE} {pos':Pos} (hN:X.N.Nodup) (hi:X.N[i]?=some x) (hx:Loc X.env.scope x) (he:PE X e te) (hs:swapsWith e (some (.Name x pos')) pos.line X.env=pure false:=by rfl) (hf:X.fn x=true∨X.env.scope.names.lookup x=some .local:=by first|exact .inl rfl|exact .inr rfl|assumption):
  PS X (.Assign [.Name x pos'] e pos) (tAsg te (gName i)):=by
 intro pins s σ H D I h
 refine wpAny_Assign_Name (thn (he pins s σ H _ I h) fun v s1 ⟨y,H1,I1,r1,q1⟩=>?_) hs
 exact store_ok I1 hN hi hx r1 (fun s2 I2=>⟨_,H1,I2,q1⟩) hf
def tPar (i j:Nat) (ta:TA):TS:=fun D σ H=>ta σ H fun vs H1=>∃v w,vs=[v,w]∧D.nx ((σ.set i (some v)).set j (some w)) H1
theorem ps_par {i j:Nat} {x y:Str} {a b:Expr} {ta:TA} {px py pt:Pos} {kt k2 pt2} (hc:X.calm=true) (hN:X.N.Nodup) (hi:X.N[i]?=some x) (hj:X.N[j]?=some y) (hij:i≠j)
  (hx:X.env.scope.names.lookup x=some .local) (hy:X.env.scope.names.lookup y=some .local) (ha:PA X [a,b] ta)
  (hw:swappedStores [.Tuple [.Name x px,.Name y py] kt pt] (.Tuple [a,b] k2 pt2) X.env=pure (some [x,y]))
  (hs:swapsWithSole [.Tuple [.Name x px,.Name y py] kt pt] (.Tuple [a,b] k2 pt2) pos.line X.env=pure false:=by rfl):
  PS X (.Assign [.Tuple [.Name x px,.Name y py] kt pt] (.Tuple [a,b] k2 pt2) pos) (tPar i j ta):=by
 intro pins s σ H D I h
 rw[exec_Assign_arm]
 refine wpAny_bind (wpAny_standAt ?_)
 rw[hs]
 refine wpAny_bind (wpAny_pure ?_)
 rw[if_neg (by decide)]
 refine wpAny_bind (Tuple_ (thn (ha _ pins s σ H _ I h) fun us s1 ⟨vs,H1,I1,r1,q1⟩=>?_))
 obtain⟨v,w,e1,q1⟩:=q1
 subst e1
 obtain⟨u1,u2,rfl,rv,rw'⟩:∃u1 u2,us=[u1,u2]∧RelV v u1∧RelV w u2:=by
  cases r1 with
  |cons p q=>
   cases q with
   |cons p' q'=>
    cases q'
    exact⟨_,_,rfl,p,p'⟩
 refine wpAny_newObj_type ?_ (by show 2≤sizeLine;decide)
 have I2:Inv X pins σ H1 {s1 with heap:=s1.heap.push {cls:=.type "tuple",data:=.seq [u1,u2].toArray}}:=I1.kept (t':=s1.toks) fun b o e=>Heap.get?_push_of_some _ e
 rw[hw]
 refine wpAny_bind (wpAny_pure ?_)
 show wpAny (model X.prog X.w) X.A (do rule "assign.swapped-stores";let items ← unpackItems (.ref s1.heap.objs.size) 2 none;assignInOrder [fun v=>bindName X.env y v,fun v=>bindName X.env x v] items.reverse;pure Flow.next) _ _ _
 refine wpAny_bind (wpAny_rule (wpAny_bind (unpackItems_tuple (items:=#[u1,u2]) (I.ok.hd hc) (IsTup.new s1.heap _) fun h' hx'=>?_)))
 have I3:=I2.kept (h':=h') (t':=s1.toks) fun b o e=>hx' b o (Nat.ne_of_lt (Heap.lt_size e)) e
 show wpAny _ _ (assignInOrder [fun v=>bindName X.env y v,fun v=>bindName X.env x v] [u2,u1] >>= fun _=>pure Flow.next) _ _ _
 refine wpAny_bind (assignInOrder_cons (wpAny_bindName (store_ok I3 hN hj (.inl hy) rw' (fun s2 I4=>?_) (.inr hy))))
 refine assignInOrder_cons (wpAny_bindName (store_ok I4 hN hi (.inl hx) rv (fun s3 I5=>assignInOrder_nil (wpAny_pure ?_)) (.inr hx)))
 rw[List.set_comm _ _ (Ne.symm hij)]at I5
 exact⟨_,H1,I5,q1⟩
end
section
variable {X:Cx} {pos:Pos}
def tWhile (c:TT) (tb:TS):TS:=fun D σ H=>∃W:Nat→St→Hp→Prop,(∃m,W m σ H)∧∀m σ H,W m σ H→
 c σ H fun b H1=>if b=true then ∃N:St→Hp→Prop,(∀σ' H',N σ' H'→∃m',m'<m∧W m' σ' H')∧tb {D with nx:=N,ct:=N,bk:=D.nx} σ H1 else D.nx σ H1
theorem ps_while {c:Expr} {body:List Stmt} {tc:TT} {tb:TS} (hp:PassesOwn (model X.prog X.w) X.A X.env X.xe) (hc:PT X c tc) (hb:PSs X body tb):PS X (.While c body [] pos) (tWhile tc tb):=by
 intro pins s σ H D I h
 obtain⟨W,⟨m0,w0⟩,turn⟩:=h
 refine wpAny_While (codeAny_whileLoop (fun n s'=>∃σ' H',Inv X pins σ' H' s'∧W n σ' H') ?_ m0 ⟨σ,H,I,w0⟩)
 rintro n s1 ⟨σ1,H1,I1,w1⟩
 refine wpAny_passesOwn hp (thn (hc pins s1 σ1 H1 _ I1 (turn n σ1 H1 w1)) fun b s2 ⟨H2,I2,q2⟩=>?_)
 cases b with
 |true=>
  obtain⟨N,hN,q2⟩:=q2
  rw[if_pos rfl]
  refine wpAny_passesOwn hp (thn (hb pins s2 σ1 H2 _ I2 q2) fun f s3 q3=>?_)
  cases f with
  |next=>
   obtain⟨σ3,H3,I3,n3⟩:=q3
   obtain⟨m',hm,w3⟩:=hN σ3 H3 n3
   exact⟨m',hm,σ3,H3,I3,w3⟩
  |cont=>
   obtain⟨σ3,H3,I3,n3⟩:=q3
   obtain⟨m',hm,w3⟩:=hN σ3 H3 n3
   exact⟨m',hm,σ3,H3,I3,w3⟩
  |brk=>exact q3
  |ret v=>exact q3
 |false=>
  rw[if_neg Bool.false_ne_true]
  exact wpAny_execs_nil ⟨σ1,H2,I2,q2⟩
end
structure It where
 go:Nat→Hp→Prop
 yld:Nat→Hp→V→Hp→Prop
 stop:Nat→Hp→Prop
def FpOk (X:Cx) (pins:List (Addr×Obj)) (H:Hp) (b:Addr):Prop:=
 H b=none∧b≠X.env.locals∧b∉X.fs∧(b∈X.ex∨X.s₀.heap.objs.size≤b)∧(∀x c,X.env.cells.lookup x=some c→c≠b)∧∀p∈X.pn++pins,p.1≠b
theorem Inv.fpOk {X:Cx} {pins:List (Addr×Obj)} {σ:St} {H H':Hp} {s:Shared} {b:Addr} (I:Inv X pins σ H s) (hb:s.heap.objs.size≤b) (hn:H' b=none):FpOk X pins H' b:=by
 refine⟨hn,Nat.ne_of_gt (Nat.lt_of_lt_of_le I.lt hb),I.nofs hb,.inr (Nat.le_trans I.sz hb),fun x c e z=>?_,fun p hp z=>?_⟩
 ·obtain⟨v,q⟩:=I.cell x c e
  exact absurd (Nat.lt_of_lt_of_le q.lt (by rw[z];exact hb)) (Nat.lt_irrefl _)
 ·exact absurd (Nat.lt_of_lt_of_le (Heap.lt_size (I.pin p hp).1) (by rw[z];exact hb)) (Nat.lt_irrefl _)
structure Turn (P:Program) (w:World) (K:PySem.W.Frag) (tg:Expr) (J:It) (fp:List Addr) (it:Addr) (tn:Nat→Heap→Prop):Prop where
 mem:it∈fp
 obj:∀i h,tn i h→∀b∈fp,∃o,h.get? b=some o∧∀v,o.data≠.cell v
 keep:∀i h h',tn i h→(∀b∈fp,∀o,h.get? b=some o→h'.get? b=some o)→tn i h'
 item:∀(X:Cx),X.prog=P→X.w=w→X.K=K→X.calm=true→∀(i:Nat) (pins:List (Addr×Obj)) (s:Shared) (σ:St) (H:Hp) (E:Value→Shared→Prop),Inv X pins σ H s→(∀b∈fp,FpOk X pins H b)→tn i s.heap→J.go i H→
  wpAny (model P w) X.A (pyNext (.ref it)) (fun r s1=>∃u,r=some u∧
   wpAny (model P w) X.A (letOwnedTupleGo tg (.ref it) u) (fun _ s2=>∃x H',Inv X pins σ H' s2∧RelV x u∧J.yld i H x H'∧tn (i+1) s2.heap∧∀b∈fp,H' b=none) E s1) E s
 done:∀(X:Cx),X.prog=P→X.w=w→X.K=K→X.calm=true→∀(i:Nat) (pins:List (Addr×Obj)) (s:Shared) (σ:St) (H:Hp) (E:Value→Shared→Prop),Inv X pins σ H s→(∀b∈fp,FpOk X pins H b)→tn i s.heap→J.stop i H→
  wpAny (model P w) X.A (pyNext (.ref it)) (fun r s1=>r=none∧Inv X pins σ H s1) E s
 self:∀(A:Around) (i:Nat) (s:Shared) (Q:Value→Shared→Prop) (E:Value→Shared→Prop),tn i s.heap→Q (.ref it) s→wpAny (model P w) A (pyIter (.ref it)) Q E s
abbrev TI:=St→Hp→(It→Hp→Prop)→Prop
def PIE (X:Cx) (pins:List (Addr×Obj)) (σ:St) (tg:Expr) (R:It→Hp→Prop) (itv:Value) (s2:Shared):Prop:=
 ∃(it:Addr) (fp:List Addr) (tn:Nat→Heap→Prop) (J:It) (H':Hp),itv=.ref it∧Inv X pins σ H' s2∧Turn X.prog X.w X.K tg J fp it tn∧tn 0 s2.heap∧(∀b∈fp,FpOk X pins H' b)∧R J H'
def PI (X:Cx) (tg iter:Expr) (wi:TI):Prop:=
 ∀(pins:List (Addr×Obj)) (s:Shared) (σ:St) (H:Hp) (R:It→Hp→Prop),Inv X pins σ H s→wi σ H R→
  wpAny (model X.prog X.w) X.A (eval iter X.env) (fun v s1=>wpAny (model X.prog X.w) X.A (pyIter v) (PIE X pins σ tg R) X.xe s1) X.xe s
theorem go_of {M:Model} {A:Around} {E:Value→Shared→Prop} {s:Shared} {tg:Expr} {it:Addr} {u:Value} {o:Obj} {n:String} {vs:Array Value} {Q:Unit→Shared→Prop} (ho:s.heap.get? it=some o) (hc:o.cls=.type n) (hd:o.data=.fields vs)
  (hn:["enumerate","zip","dict_itemiterator","dict_reverseitemiterator","odict_iterator","itertools.zip_longest","itertools.pairwise"].contains n=false) (hQ:Q () s):wpAny M A (letOwnedTupleGo tg (.ref it) u) Q E s:=by
 unfold letOwnedTupleGo
 cases tg<;>first
  |exact wpAny_pure hQ
  |(cases u<;>first
    |exact wpAny_pure hQ
    |(refine wpAny_bind (wpAny_load ho ?_)
      rw[hc,hd]
      show wpAny M A (if(["enumerate","zip","dict_itemiterator","dict_reverseitemiterator","odict_iterator","itertools.zip_longest","itertools.pairwise"].contains n&&vs[0]? == some (rawInt _))=true then _ else _) Q E s
      rw[if_neg (by intro h;rw[hn,Bool.false_and]at h;cases h)]
      exact wpAny_pure hQ))
def Itl (K:PySem.W.Frag) (a:Addr):It:=
 ⟨fun i H=>∃xs x,SqL K H a xs∧xs[i]?=some x,fun i H x H'=>H'=H∧∀xs,SqL K H a xs→xs[i]?=some x,fun i H=>∃xs,SqL K H a xs∧xs.length≤i⟩
def Itt (K:PySem.W.Frag) (a:Addr):It:=
 ⟨fun i H=>∃xs x,SqT K H a xs∧xs[i]?=some x,fun i H x H'=>H'=H∧∀xs,SqT K H a xs→xs[i]?=some x,fun i H=>∃xs,SqT K H a xs∧xs.length≤i⟩
def Itr (lo:Int) (n:Nat):It:=⟨fun i _=>i<n,fun i H x H'=>H'=H∧x=.int (lo+i),fun i _=>n≤i⟩
theorem turn_list {P:Program} {w:World} {K:PySem.W.Frag} {tg:Expr} (a it:Addr):Turn P w K tg (Itl K a) [it] it (fun i h=>h.IsListIter it a i) where
 mem:=by simp
 obj:=fun i h st b hb=>by
  have e:b=it:=by simpa using hb
  subst e
  obtain⟨o,e,c,d⟩:=st
  exact⟨o,e,fun v z=>by rw[d]at z;cases z⟩
 keep:=fun i h h' st k=>st.at fun o e=>k it (by simp) o e
 item:=by
  intro X hP hw hK hc i pins s σ H E I hf st hg
  subst hP hw hK
  obtain⟨xs,x,hq,hx⟩:=hg
  obtain⟨its,rv,p,hz⟩:=I.list hq
  obtain⟨u,hu,ru⟩:=rv.get hx
  obtain⟨f0,f1,f2,f3,f4,f5⟩:=hf it (by simp)
  refine wpAny_pyNext_list_item st p.isList (x:=u) (by simpa using hu) fun h' st' sb=>?_
  have I1:Inv X pins σ H {s with heap:=h'}:=I.turned (t':=s.toks) (fun b o hb e=>(sb.2 b hb).trans e) f0 f1 f3 f4 f5
  obtain⟨o,e,c,d⟩:=id st'
  exact⟨u,rfl,go_of (s:={s with heap:=h'}) e c d (by decide) ⟨x,H,I1,ru,⟨rfl,fun ys hy=>by rw[I.list_inj hy hq];exact hx⟩,st',fun b hb=>(hf b hb).1⟩⟩
 done:=by
  intro X hP hw hK hc i pins s σ H E I hf st hg
  subst hP hw hK
  obtain⟨xs,hq,hx⟩:=hg
  obtain⟨its,rv,p,hz⟩:=I.list hq
  obtain⟨f0,f1,f2,f3,f4,f5⟩:=hf it (by simp)
  have hl:=rv.length
  exact wpAny_pyNext_list_end (I.ok.hd hc) st p.isList (by simp;omega) fun h' eb=>⟨rfl,I.turned (t':=s.toks) (fun b o hb e=>eb b o hb e) f0 f1 f3 f4 f5⟩
 self:=fun _ _ _ _ _ st h=>wpAny_pyIter_listiter st h
theorem turn_tuple {P:Program} {w:World} {K:PySem.W.Frag} {tg:Expr} (a it:Addr):Turn P w K tg (Itt K a) [it] it (fun i h=>h.IsTupleIter it a i) where
 mem:=by simp
 obj:=fun i h st b hb=>by
  have e:b=it:=by simpa using hb
  subst e
  obtain⟨o,e,c,d⟩:=st
  exact⟨o,e,fun v z=>by rw[d]at z;cases z⟩
 keep:=fun i h h' st k=>st.at fun o e=>k it (by simp) o e
 item:=by
  intro X hP hw hK hc i pins s σ H E I hf st hg
  subst hP hw hK
  obtain⟨xs,x,hq,hx⟩:=hg
  obtain⟨its,rv,p,hz⟩:=I.tuple hq
  obtain⟨u,hu,ru⟩:=rv.get hx
  obtain⟨f0,f1,f2,f3,f4,f5⟩:=hf it (by simp)
  refine wpAny_pyNext_tuple_item st (show s.heap.IsTuple a its.toArray from p) (x:=u) (by simpa using hu) fun h' st' sb=>?_
  have I1:Inv X pins σ H {s with heap:=h'}:=I.turned (t':=s.toks) (fun b o hb e=>(sb.2 b hb).trans e) f0 f1 f3 f4 f5
  obtain⟨o,e,c,d⟩:=id st'
  exact⟨u,rfl,go_of (s:={s with heap:=h'}) e c d (by decide) ⟨x,H,I1,ru,⟨rfl,fun ys hy=>by rw[I.tuple_inj hy hq];exact hx⟩,st',fun b hb=>(hf b hb).1⟩⟩
 done:=by
  intro X hP hw hK hc i pins s σ H E I hf st hg
  subst hP hw hK
  obtain⟨xs,hq,hx⟩:=hg
  obtain⟨its,rv,p,hz⟩:=I.tuple hq
  obtain⟨f0,f1,f2,f3,f4,f5⟩:=hf it (by simp)
  have hl:=rv.length
  exact wpAny_pyNext_tuple_end (I.ok.hd hc) st (show s.heap.IsTuple a its.toArray from p) (by simp;omega) fun h' eb=>⟨rfl,I.turned (t':=s.toks) (fun b o hb e=>eb b o hb e) f0 f1 f3 f4 f5⟩
 self:=fun _ _ _ _ _ st h=>wpAny_pyIter_tupleiter st h
theorem turn_range {P:Program} {w:World} {K:PySem.W.Frag} {tg:Expr} (it:Addr) (lo:Int) (n:Nat):Turn P w K tg (Itr lo n) [it] it (fun i h=>IsRangeIter h it (lo+(i:Nat)*1) ((n:Int)-(i:Nat)) 1) where
 mem:=by simp
 obj:=fun i h st b hb=>by
  have e:b=it:=by simpa using hb
  subst e
  exact⟨_,st,fun v z=>by
   have z':Data.fields _=Data.cell v:=z
   cases z'⟩
 keep:=fun i h h' st k=>k it (by simp) _ st
 item:=by
  intro X hP hw hK hc i pins s σ H E I hf st hg
  subst hP hw hK
  obtain⟨f0,f1,f2,f3,f4,f5⟩:=hf it (by simp)
  have W:=Walks.range (prog:=X.prog) (w:=X.w) (I.ok.hd hc) it lo 1 n
  refine W.item i s _ _ hg st fun v h' tk hv st' kk=>?_
  obtain⟨t,rfl⟩:=hv
  have I1:Inv X pins σ H {s with heap:=h',toks:=tk}:=I.turned (fun b o hb e=>kk b o (by simpa using hb) e) f0 f1 f3 f4 f5
  refine⟨_,rfl,go_of (s:={s with heap:=h',toks:=tk}) (n:="range_iterator") st' rfl rfl (by decide) ⟨.int (lo+i),H,I1,⟨t,?_⟩,⟨rfl,rfl⟩,st',fun b hb=>(hf b hb).1⟩⟩
  rw[Int.mul_one]
 done:=by
  intro X hP hw hK hc i pins s σ H E I hf st hg
  subst hP hw hK
  obtain⟨f0,f1,f2,f3,f4,f5⟩:=hf it (by simp)
  exact wpAny_pyNext_range_end (I.ok.hd hc) st (by have:n≤i:=hg;omega) fun h' eb=>⟨rfl,I.turned (t':=s.toks) (fun b o hb e=>eb b o hb e) f0 f1 f3 f4 f5⟩
 self:=fun _ _ _ _ _ st h=>wpAny_pyIter_rangeiter st h
open PySem PySem.Spec PyProof.Rows
section
variable {X:Cx} {tg:Expr}
theorem range_it {pins:List (Addr×Obj)} {σ:St} {H:Hp} {s:Shared} {R:It→Hp→Prop} {E:Value→Shared→Prop} {lo hi:Int} {t u v:Tok} {tk:Nat} (I:Inv X pins σ H s) (h1: -(2^62)≤lo) (h2:lo<2^62) (h3: -(2^62)≤hi) (h4:hi<2^62)
  (q:R (Itr lo (hi-lo).toNat) H):wpAny (model X.prog X.w) X.A (pyIter (.ref s.heap.objs.size)) (PIE X pins σ tg R) E {s with heap:=s.heap.push {cls:=.type "range",data:=.fields #[.int lo t,.int hi u,.int 1 v]},toks:=tk}:=by
 refine wpAny_pyIter_range (IsRange.new ..) (small_one h1 h2 h3 h4) ?_
 have I1:Inv X pins σ H {s with heap:=s.heap.push {cls:=.type "range",data:=.fields #[.int lo t,.int hi u,.int 1 v]},toks:=tk}:=I.kept fun b o e=>Heap.get?_push_of_some _ e
 refine⟨(s.heap.push {cls:=.type "range",data:=.fields #[.int lo t,.int hi u,.int 1 v]}).objs.size,[(s.heap.push {cls:=.type "range",data:=.fields #[.int lo t,.int hi u,.int 1 v]}).objs.size],_,_,H,rfl,
  I1.kept (t':=tk) fun b o e=>Heap.get?_push_of_some _ e,turn_range _ lo (hi-lo).toNat,?_,fun b hb=>?_,q⟩
 ·have e1:lo+((0:Nat):Int)*1=lo:=by simp
  have e2:(((hi-lo).toNat:Nat):Int)-((0:Nat):Int)=Builtin.Range.rangeSize lo hi 1:=by rw[rangeSize_one];split<;>omega
  show IsRangeIter _ _ (lo+((0:Nat):Int)*1) ((((hi-lo).toNat:Nat):Int)-((0:Nat):Int)) 1
  rw[e1,e2]
  exact Heap.get?_push_size _ rfl
 ·have e:b=(s.heap.push {cls:=.type "range",data:=.fields #[.int lo t,.int hi u,.int 1 v]}).objs.size:=by simpa using hb
  subst e
  exact I1.fpOk (Nat.le_refl _) (I1.hok.fresh (Nat.le_refl _))
def iRng1 (ta:TA):TI:=fun σ H R=>ta σ H fun vs H1=>∃j:Int,vs=[.int j]∧-(2^62)≤j∧j<2^62∧R (Itr 0 j.toNat) H1
theorem pi_range1 {a:Expr} {ta:TA} {p pos:Pos} (hg:Gl X "range") (hm:X.mg "range"=none) (ha:PA X [a] ta) (hs:starEach [a] X.env=[(false,eval a X.env)]:=by rfl):PI X tg (.Call (.Name "range" p) [a] [] pos) (iRng1 ta):=by
 intro pins s σ H R I h
 refine Call_ (ld_blt I hg hm boot_range (PyProof.Rows.callWith_type1 (thn (ha pos pins s σ H _ I h) fun us s1 ⟨vs,H1,I1,r1,q1⟩=>?_) hs rfl))
 obtain⟨j,e,q1,q2,q⟩:=q1
 subst e
 cases r1 with
 |cons r rr=>
  cases rr
  obtain⟨t,rfl⟩:=r
  exact call_range_1 (range_it I1 (by omega) (by omega) q1 q2 (by simpa using q))
def tFor (wi:TI) (g:TG) (tb:TS):TS:=fun D σ H=>wi σ H fun J H1=>∃W:Nat→Nat→St→Hp→Prop,(∃m,W 0 m σ H1)∧∀i m σ H,W i m σ H→
 (J.stop i H∧D.nx σ H)∨(J.go i H∧∃N:St→Hp→Prop,(∀σ' H',N σ' H'→∃m',m'<m∧W (i+1) m' σ' H')∧∀x H',J.yld i H x H'→g x σ H' fun σ2 H2=>tb {D with nx:=N,ct:=N,bk:=D.nx} σ2 H2)
def pinsAt (fp:List Addr) (h:Heap):List (Addr×Obj):=fp.filterMap fun b=>(h.get? b).map fun o=>(b,o)
theorem mem_pinsAt {fp:List Addr} {h:Heap} {b:Addr} {o:Obj} (hb:b∈fp) (e:h.get? b=some o):(b,o)∈pinsAt fp h:=List.mem_filterMap.mpr ⟨b,hb,by rw[e];rfl⟩
theorem of_pinsAt {fp:List Addr} {h:Heap} {p:Addr×Obj} (hp:p∈pinsAt fp h):p.1∈fp∧h.get? p.1=some p.2:=by
 obtain⟨b,hb,e⟩:=List.mem_filterMap.mp hp
 cases q:h.get? b with
 |none=>rw[q]at e;cases e
 |some o=>
  rw[q]at e
  have e':(b,o)=p:=Option.some.inj e
  subst e'
  exact⟨hb,q⟩
theorem Inv.pinned {pins:List (Addr×Obj)} {σ:St} {H:Hp} {s:Shared} {fp:List Addr} (I:Inv X pins σ H s) (hf:∀b∈fp,FpOk X pins H b) (ho:∀b∈fp,∃o,s.heap.get? b=some o∧∀v,o.data≠.cell v):Inv X (pins++pinsAt fp s.heap) σ H s:=
 I.pins_of fun p hp=>(List.mem_append.mp hp).elim (fun z=>I.pin p (List.mem_append_right _ z)) fun z=>by
  obtain⟨hb,e⟩:=of_pinsAt z
  obtain⟨f0,f1,f2,_⟩:=hf p.1 hb
  obtain⟨o,e',d⟩:=ho p.1 hb
  rw[e]at e';cases e'
  exact⟨e,f0,f1,f2,d⟩
theorem Inv.unpinned {pins pl:List (Addr×Obj)} {σ:St} {H:Hp} {s:Shared} (I:Inv X (pins++pl) σ H s):Inv X pins σ H s:=I.pins_of fun p hp=>I.pin p (List.mem_append_right _ (List.mem_append_left _ hp))
theorem ps_for {iter:Expr} {body:List Stmt} {wi:TI} {g:TG} {tb:TS} {pos:Pos} (hp:PassesOwn (model X.prog X.w) X.A X.env X.xe) (hc:X.calm=true) (hi:PI X tg iter wi) (hg:PG X tg g) (hb:PSs X body tb)
  (hs:∀x,foldedSetIterable iter X.env x=pure x:=by intro _;rfl):PS X (.For tg iter body [] pos) (tFor wi g tb):=by
 intro pins s σ H D I h
 refine wpAny_For (thn (hi pins s σ H _ I h) fun v s1 h1=>thn h1 fun itv s2 h2=>?_) hs
 obtain⟨it,fp,tn,J,H2,e,I2,T,st2,f2,W,⟨m0,w0⟩,turn⟩:=h2
 subst e

 have stat:∀{H':Hp},(∀b∈fp,H' b=none)→∀b∈fp,FpOk X pins H' b:=fun hn b hb=>⟨hn b hb,(f2 b hb).2⟩
 refine codeAny_forLoop_any (fun n s'=>∃i σ' H',Inv X pins σ' H' s'∧tn i s'.heap∧(∀b∈fp,H' b=none)∧W i n σ' H') ?_ m0 ⟨0,σ,H2,I2,st2,fun b hb=>(f2 b hb).1,w0⟩
 rintro n s3 ⟨i,σ3,H3,I3,st3,fr3,w3⟩
 rcases turn i n σ3 H3 w3 with⟨stop,qn⟩|⟨go,N,hN,step⟩
 ·refine wpAny_passesOwn hp (thn (T.done X rfl rfl rfl hc i pins s3 σ3 H3 X.xe I3 (stat fr3) st3 stop) fun r s4 ⟨hr,I4⟩=>?_)
  subst hr
  exact wpAny_execs_nil ⟨σ3,H3,I4,qn⟩
 ·refine wpAny_passesOwn hp (thn (T.item X rfl rfl rfl hc i pins s3 σ3 H3 X.xe I3 (stat fr3) st3 go) fun r s4 ⟨u,hr,h4⟩=>?_)
  subst hr
  refine wpAny_passesOwn hp (thn h4 fun _ s5 ⟨x,H5,I5,r5,y5,st5,fr5⟩=>?_)
  have I5':=I5.pinned (stat fr5) (T.obj _ _ st5)
  refine wpAny_passesOwn hp (thn (hg _ s5 σ3 H5 x u _ I5' r5 (step x H5 y5)) fun _ s6 ⟨σ6,H6,I6,q6⟩=>?_)
  refine wpAny_passesOwn hp (thn (hb _ s6 σ6 H6 _ I6 q6) fun f s7 q7=>?_)
  have again:∀{σ7:St} {H7:Hp},Inv X (pins++pinsAt fp s5.heap) σ7 H7 s7→N σ7 H7→∃m,m<n∧∃i σ' H',Inv X pins σ' H' s7∧tn i s7.heap∧(∀b∈fp,H' b=none)∧W i m σ' H':=fun{σ7 H7} I7 n7=>by
   obtain⟨m',hm,w7⟩:=hN σ7 H7 n7
   refine⟨m',hm,i+1,σ7,H7,I7.unpinned,T.keep _ _ _ st5 fun b hb o e=>(I7.pin (b,o) (List.mem_append_right _ (List.mem_append_right _ (mem_pinsAt hb e)))).1,fun b hb=>?_,w7⟩
   obtain⟨o,e,d⟩:=T.obj _ _ st5 b hb
   exact(I7.pin (b,o) (List.mem_append_right _ (List.mem_append_right _ (mem_pinsAt hb e)))).2.1
  cases f with
  |next=>obtain⟨σ7,H7,I7,n7⟩:=q7;exact again I7 n7
  |cont=>obtain⟨σ7,H7,I7,n7⟩:=q7;exact again I7 n7
  |brk=>obtain⟨σ7,H7,I7,q7⟩:=q7;exact⟨σ7,H7,I7.unpinned,q7⟩
  |ret v=>obtain⟨x7,σ7,H7,I7,r7,q7⟩:=q7;exact⟨x7,σ7,H7,I7.unpinned,r7,q7⟩
end
open PySem PySem.Spec PyProof.Rows
abbrev R2:=V→V→Hp→VK→Prop
def OpR (X:Cx) (f:Value→Value→Sem Value) (r:R2):Prop:=
 ∀(pins:List (Addr×Obj)) (s:Shared) (σ:St) (H:Hp) (x y:V) (v u:Value) (Q:VK),Inv X pins σ H s→RelV x v→RelV y u→r x y H Q→
  wpAny (model X.prog X.w) X.A (f v u) (EP X pins σ Q) X.xe s
def UnR (X:Cx) (f:Value→Sem Value) (r:V→Hp→VK→Prop):Prop:=
 ∀(pins:List (Addr×Obj)) (s:Shared) (σ:St) (H:Hp) (x:V) (v:Value) (Q:VK),Inv X pins σ H s→RelV x v→r x H Q→
  wpAny (model X.prog X.w) X.A (f v) (EP X pins σ Q) X.xe s
def CallR (X:Cx) (f:Value) (r:List V→Hp→VK→Prop):Prop:=
 ∀(pins:List (Addr×Obj)) (s:Shared) (σ:St) (H:Hp) (xs:List V) (us:List Value) (Q:VK),Inv X pins σ H s→Vals xs us→r xs H Q→
  wpAny (model X.prog X.w) X.A (call f us) (EP X pins σ Q) X.xe s
def TruR (X:Cx) (r:V→Hp→(Bool→Hp→Prop)→Prop):Prop:=
 ∀(pins:List (Addr×Obj)) (s:Shared) (σ:St) (H:Hp) (x:V) (v:Value) (Q:Bool→Hp→Prop),Inv X pins σ H s→RelV x v→r x H Q→
  wpAny (model X.prog X.w) X.A (truthy v) (TP X pins σ Q) X.xe s
def tOp (r:R2) (ta tb:TE):TE:=fun σ H Q=>ta σ H fun x H1=>tb σ H1 fun y H2=>r x y H2 Q
def tUn (r:V→Hp→VK→Prop) (ta:TE):TE:=fun σ H Q=>ta σ H fun x H1=>r x H1 Q
def rI (C:Int→Int→Prop) (g:Int→Int→V):R2:=fun x y H Q=>∃i j,x=.int i∧y=.int j∧C i j∧Q (g i j) H
def rI0 (g:Int→Int→V):R2:=fun x y H Q=>∃i j,x=.int i∧y=.int j∧Q (g i j) H
def rU (g:Int→V):V→Hp→VK→Prop:=fun x H Q=>∃i,x=.int i∧Q (g i) H
section
variable {X:Cx} {a b c:Expr} {ta tb tc:TE} {pos:Pos}
theorem binT (ha:PE X a ta) (hb:PE X b tb) {pins:List (Addr×Obj)} {s:Shared} {σ:St} {H:Hp} {R:V→V→Hp→Prop} (I:Inv X pins σ H s)
  (h:ta σ H fun x H1=>tb σ H1 fun y H2=>R x y H2) {Q:Value→Shared→Prop} {f:Value→Value→Sem Value}
  (hf:∀v u s2 x y H2,Inv X pins σ H2 s2→RelV x v→RelV y u→R x y H2→wpAny (model X.prog X.w) X.A (f v u) Q X.xe s2):
  wpAny (model X.prog X.w) X.A (eval a X.env) (fun v s₁=>wpAny (model X.prog X.w) X.A (eval b X.env) (fun u s₂=>wpAny (model X.prog X.w) X.A (f v u) Q X.xe s₂) X.xe s₁) X.xe s:=by
 refine thn (ha pins s σ H _ I h) fun v s1 ⟨x,H1,I1,r1,q1⟩=>?_
 refine thn (hb pins s1 σ H1 _ I1 q1) fun u s2 ⟨y,H2,I2,r2,q2⟩=>?_
 exact hf v u s2 x y H2 I2 r1 r2 q2
theorem pe_op {op:Operator} {r:R2} (ho:OpR X (binaryOp op) r) (ha:PE X a ta) (hb:PE X b tb):PE X (.BinOp a op b pos) (tOp r ta tb):=by
 intro pins s σ H Q I h
 exact wpAny_BinOp (binT ha hb I h fun v u s2 x y H2 I2 rx ry q=>ho pins s2 σ H2 x y v u Q I2 rx ry q)
theorem pe_un {op:UnaryOp} {r:V→Hp→VK→Prop} (ho:UnR X (unaryOp op) r) (ha:PE X a ta):PE X (.UnaryOp op a pos) (tUn r ta):=by
 intro pins s σ H Q I h
 exact UnaryOp_ (thn (ha pins s σ H _ I h) fun v s1 ⟨x,H1,I1,r1,q1⟩=>ho pins s1 σ H1 x v Q I1 r1 q1)
theorem opI {f:Value→Value→Sem Value} {C:Int→Int→Prop} {g:Int→Int→Int}
  (rule:∀(i j:Int) (t u:Tok) (s:Shared) (Q:Value→Shared→Prop) (E:Value→Shared→Prop),C i j→Q (.int (g i j) s.toks) {s with toks:=s.toks+1}→wpAny (model X.prog X.w) X.A (f (.int i t) (.int j u)) Q E s):
  OpR X f (rI C fun i j=>.int (g i j)):=by
 intro pins s σ H x y v u Q I rx ry h
 obtain⟨i,j,rfl,rfl,hc,q⟩:=h
 obtain⟨t,rfl⟩:=rx
 obtain⟨t',rfl⟩:=ry
 exact rule i j t t' s _ _ hc ⟨.int (g i j),H,I.tok _,⟨_,rfl⟩,q⟩
theorem opI0 {f:Value→Value→Sem Value} {g:Int→Int→Int}
  (rule:∀(i j:Int) (t u:Tok) (s:Shared) (Q:Value→Shared→Prop) (E:Value→Shared→Prop),Q (.int (g i j) s.toks) {s with toks:=s.toks+1}→wpAny (model X.prog X.w) X.A (f (.int i t) (.int j u)) Q E s):
  OpR X f (rI0 fun i j=>.int (g i j)):=by
 intro pins s σ H x y v u Q I rx ry h
 obtain⟨i,j,rfl,rfl,q⟩:=h
 obtain⟨t,rfl⟩:=rx
 obtain⟨t',rfl⟩:=ry
 exact rule i j t t' s _ _ ⟨.int (g i j),H,I.tok _,⟨_,rfl⟩,q⟩
theorem opB0 {f:Value→Value→Sem Value} {g:Int→Int→Bool}
  (rule:∀(i j:Int) (t u:Tok) (s:Shared) (Q:Value→Shared→Prop) (E:Value→Shared→Prop),Q (.bool (g i j)) s→wpAny (model X.prog X.w) X.A (f (.int i t) (.int j u)) Q E s):
  OpR X f (rI0 fun i j=>.bl (g i j)):=by
 intro pins s σ H x y v u Q I rx ry h
 obtain⟨i,j,rfl,rfl,q⟩:=h
 obtain⟨t,rfl⟩:=rx
 obtain⟨t',rfl⟩:=ry
 exact rule i j t t' s _ _ ⟨.bl (g i j),H,I,rfl,q⟩
def CPow (i j:Int):Prop:=0≤j∧j≤1000000∧i.natAbs<2^64
theorem two_pow_nn (k:Nat):(0:Int)≤2^k:=by
 rw[two_pow_cast]
 exact Int.natCast_nonneg _
theorem op_add:OpR X (binaryOp .Add) (rI0 fun i j=>.int (i+j)):=opI0 fun _ _ _ _ _ _ _ q=>add_int q
theorem op_pow:OpR X (binaryOp .Pow) (rI CPow fun i j=>.int (i^j.toNat)):=opI fun _ _ _ _ _ _ _ hc q=>pow_int_small hc.1 hc.2.1 hc.2.2 q
theorem op_shr:OpR X (binaryOp .RShift) (rI (fun _ j=>0≤j) fun i j=>.int (i/2^j.toNat)):=opI fun i j _ _ _ _ _ hc q=>
 rshift_int hc (by rw[Int.fdiv_eq_ediv_of_nonneg i (two_pow_nn _)];exact q)
theorem unI {f:Value→Sem Value} {g:Int→Int}
  (rule:∀(i:Int) (t:Tok) (s:Shared) (Q:Value→Shared→Prop) (E:Value→Shared→Prop),Q (.int (g i) s.toks) {s with toks:=s.toks+1}→wpAny (model X.prog X.w) X.A (f (.int i t)) Q E s):
  UnR X f (rU fun i=>.int (g i)):=by
 intro pins s σ H x v Q I rx h
 obtain⟨i,rfl,q⟩:=h
 obtain⟨t,rfl⟩:=rx
 exact rule i t s _ _ ⟨.int (g i),H,I.tok _,⟨_,rfl⟩,q⟩
theorem un_neg:UnR X (unaryOp .USub) (rU fun i=>.int (-i)):=unI fun _ _ _ _ _ q=>neg_int q
end
def scal:V→V→Bool
 | .non,.non=>true| .non,.int _=>true| .int _,.non=>true| .non,.bl _=>true| .bl _,.non=>true| .non,.str _=>true| .str _,.non=>true
 | .int _,.int _=>true| .bl _,.bl _=>true| .str _,.str _=>true| .byt _,.byt _=>true
 | .int _,.str _=>true| .str _,.int _=>true| .bl _,.str _=>true| .str _,.bl _=>true
 |_,_=>false
def rEq:R2:=fun x y H Q=>scal x y=true∧Q (.bl (decide (x=y))) H
def rNe:R2:=fun x y H Q=>scal x y=true∧Q (.bl (!decide (x=y))) H
theorem dec_int {i j:Int}:decide (V.int i=V.int j)=(i==j):=by
 rw[Bool.eq_iff_iff]
 simp
theorem dec_bl {i j:Bool}:decide (V.bl i=V.bl j)=(i==j):=by
 rw[Bool.eq_iff_iff]
 simp
theorem dec_str {i j:Str}:decide (V.str i=V.str j)=(i==j):=by
 rw[Bool.eq_iff_iff]
 simp
theorem dec_byt {i j:Array UInt8}:decide (V.byt i=V.byt j)=(i.toList==j.toList):=by
 rw[Bool.eq_iff_iff]
 cases i
 cases j
 simp
section
variable {X:Cx} {a b c:Expr} {ta tb tc:TE} {pos:Pos}
theorem fin_bl {pins:List (Addr×Obj)} {σ:St} {H:Hp} {s:Shared} {Q:VK} {k k':Bool} (I:Inv X pins σ H s) (q:Q (.bl k) H) (e:k=k'):EP X pins σ Q (.bool k') s:=by
 subst e
 exact⟨.bl k,H,I,rfl,q⟩
theorem op_eq:OpR X (compareOp .Eq) rEq:=by
 intro pins s σ H x y v u Q I rx ry h
 obtain⟨hs,q⟩:=h
 cases x with
 |non=>
  cases rx
  cases y with
  |non=>cases ry;exact PySem.EqNone.eq_none_none (fin_bl I q (by simp))
  |bl j=>cases ry;exact PySem.EqNone.eq_none_bool (fin_bl I q (by simp))
  |int j=>obtain⟨t',rfl⟩:=ry;exact PySem.EqNone.eq_none_int (fin_bl I q (by simp))
  |str j=>obtain⟨t',rfl⟩:=ry;exact PySem.EqNone.eq_none_str (fin_bl I q (by simp))
  |_=>exact absurd (show false=true from hs) Bool.false_ne_true
 |bl i=>
  cases rx
  cases y with
  |non=>cases ry;exact PySem.EqNone.eq_bool_none (fin_bl I q (by simp))
  |bl j=>cases ry;exact eq_bool (fin_bl I q dec_bl)
  |str j=>obtain⟨t',rfl⟩:=ry;exact PySem.EqMixed.eq_bool_str (fin_bl I q (by simp))
  |_=>exact absurd (show false=true from hs) Bool.false_ne_true
 |int i=>
  obtain⟨t,rfl⟩:=rx
  cases y with
  |non=>cases ry;exact PySem.EqNone.eq_int_none (fin_bl I q (by simp))
  |int j=>obtain⟨t',rfl⟩:=ry;exact eq_int (fin_bl I q dec_int)
  |str j=>obtain⟨t',rfl⟩:=ry;exact PySem.EqMixed.eq_int_str (fin_bl I q (by simp))
  |_=>exact absurd (show false=true from hs) Bool.false_ne_true
 |str i=>
  obtain⟨t,rfl⟩:=rx
  cases y with
  |non=>cases ry;exact PySem.EqNone.eq_str_none (fin_bl I q (by simp))
  |bl j=>cases ry;exact PySem.EqMixed.eq_str_bool (fin_bl I q (by simp))
  |int j=>obtain⟨t',rfl⟩:=ry;exact PySem.EqMixed.eq_str_int (fin_bl I q (by simp))
  |str j=>obtain⟨t',rfl⟩:=ry;exact eq_str (fin_bl I q dec_str)
  |_=>exact absurd (show false=true from hs) Bool.false_ne_true
 |byt i=>
  obtain⟨t,rfl⟩:=rx
  cases y with
  |byt j=>obtain⟨t',rfl⟩:=ry;exact PySem.W.eq_bytes (fin_bl I q dec_byt)
  |_=>exact absurd (show false=true from hs) Bool.false_ne_true
 |_=>cases y<;>exact absurd (show false=true from hs) Bool.false_ne_true
theorem op_ne:OpR X (compareOp .NotEq) rNe:=by
 intro pins s σ H x y v u Q I rx ry h
 obtain⟨hs,q⟩:=h
 cases x with
 |non=>
  cases rx
  cases y with
  |non=>cases ry;exact PySem.EqNone.ne_none_none (fin_bl I q (by simp))
  |bl j=>cases ry;exact PySem.EqNone.ne_none_bool (fin_bl I q (by simp))
  |int j=>obtain⟨t',rfl⟩:=ry;exact PySem.EqNone.ne_none_int (fin_bl I q (by simp))
  |str j=>obtain⟨t',rfl⟩:=ry;exact PySem.EqNone.ne_none_str (fin_bl I q (by simp))
  |_=>exact absurd (show false=true from hs) Bool.false_ne_true
 |bl i=>
  cases rx
  cases y with
  |non=>cases ry;exact PySem.EqNone.ne_bool_none (fin_bl I q (by simp))
  |bl j=>cases ry;exact ne_bool (fin_bl I q (congrArg not dec_bl))
  |str j=>obtain⟨t',rfl⟩:=ry;exact PySem.EqMixed.ne_bool_str (fin_bl I q (by simp))
  |_=>exact absurd (show false=true from hs) Bool.false_ne_true
 |int i=>
  obtain⟨t,rfl⟩:=rx
  cases y with
  |non=>cases ry;exact PySem.EqNone.ne_int_none (fin_bl I q (by simp))
  |int j=>obtain⟨t',rfl⟩:=ry;exact ne_int (fin_bl I q (congrArg not dec_int))
  |str j=>obtain⟨t',rfl⟩:=ry;exact PySem.EqMixed.ne_int_str (fin_bl I q (by simp))
  |_=>exact absurd (show false=true from hs) Bool.false_ne_true
 |str i=>
  obtain⟨t,rfl⟩:=rx
  cases y with
  |non=>cases ry;exact PySem.EqNone.ne_str_none (fin_bl I q (by simp))
  |bl j=>cases ry;exact PySem.EqMixed.ne_str_bool (fin_bl I q (by simp))
  |int j=>obtain⟨t',rfl⟩:=ry;exact PySem.EqMixed.ne_str_int (fin_bl I q (by simp))
  |str j=>obtain⟨t',rfl⟩:=ry;exact ne_str (fin_bl I q (congrArg not dec_str))
  |_=>exact absurd (show false=true from hs) Bool.false_ne_true
 |byt i=>
  obtain⟨t,rfl⟩:=rx
  cases y with
  |byt j=>obtain⟨t',rfl⟩:=ry;exact PySem.W.ne_bytes (fin_bl I q (congrArg not dec_byt))
  |_=>exact absurd (show false=true from hs) Bool.false_ne_true
 |_=>cases y<;>exact absurd (show false=true from hs) Bool.false_ne_true
theorem op_lt:OpR X (compareOp .Lt) (rI0 fun i j=>.bl (decide (i<j))):=opB0 fun _ _ _ _ _ _ _ q=>lt_int q
theorem op_le:OpR X (compareOp .LtE) (rI0 fun i j=>.bl (decide (i≤j))):=opB0 fun _ _ _ _ _ _ _ q=>le_int q
theorem op_gt:OpR X (compareOp .Gt) (rI0 fun i j=>.bl (decide (j<i))):=opB0 fun _ _ _ _ _ _ _ q=>gt_int q
theorem op_ge:OpR X (compareOp .GtE) (rI0 fun i j=>.bl (decide (j≤i))):=opB0 fun _ _ _ _ _ _ _ q=>ge_int q
theorem op_in_str:OpR X (compareOp .In) (fun x y H Q=>∃i j,x=.str i∧y=.str j∧Q (.bl (!(Builtin.Str.occurrences j i 0 j.length 1).isEmpty)) H):=by
 intro pins s σ H x y v u Q I rx ry h
 obtain⟨i,j,rfl,rfl,q⟩:=h
 obtain⟨t,rfl⟩:=rx
 obtain⟨t',rfl⟩:=ry
 exact in_str (fin_bl I q rfl)
theorem op_isN:OpR X (compareOp .Is) (fun x y H Q=>y=.non∧Q (.bl (decide (x=.non))) H):=by
 intro pins s σ H x y v u Q I rx ry h
 obtain⟨rfl,q⟩:=h
 cases ry
 refine is_none_gen (fin_bl I q ?_)
 cases x<;>first
  |(cases rx;rfl)
  |(obtain⟨t,rfl⟩:=rx;rfl)
theorem op_notN:OpR X (compareOp .IsNot) (fun x y H Q=>y=.non∧Q (.bl (!decide (x=.non))) H):=by
 intro pins s σ H x y v u Q I rx ry h
 obtain⟨rfl,q⟩:=h
 cases ry
 refine isnot_none_gen (fin_bl I q ?_)
 cases x<;>first
  |(cases rx;rfl)
  |(obtain⟨t,rfl⟩:=rx;rfl)
theorem OpR.or {f:Value→Value→Sem Value} {r r':R2} (h:OpR X f r) (h':OpR X f r'):OpR X f (fun x y H Q=>r x y H Q∨r' x y H Q):=by
 intro pins s σ H x y v u Q I rx ry q
 rcases q with q|q
 ·exact h pins s σ H x y v u Q I rx ry q
 ·exact h' pins s σ H x y v u Q I rx ry q
theorem nomark (b:Expr) {op:CmpOp} (h:op≠.In:=by decide) (h2:op≠.NotIn:=by decide):behindInMarks op b=false:=by
 have e1:(op==CmpOp.In)=false:=by cases op<;>first|rfl|exact absurd rfl h
 have e2:(op==CmpOp.NotIn)=false:=by cases op<;>first|rfl|exact absurd rfl h2
 cases b<;>simp[behindInMarks,e1,e2]
theorem pe_cmpR {op:CmpOp} {r:R2} (ho:OpR X (compareOp op) r) (ha:PE X a ta) (hb:PE X b tb) (hm:behindInMarks op b=false):PE X (.Compare a [op] [b] pos) (tOp r ta tb):=by
 intro pins s σ H Q I h
 exact wpAny_Compare1 (binT ha hb I h fun v u s2 x y H2 I2 rx ry q=>ho pins s2 σ H2 x y v u Q I2 rx ry q) hm
def tTest (t:TE):TT:=fun σ H Q=>t σ H fun x H'=>∃k,x=.bl k∧Q k H'
theorem pt_cmpR {op:CmpOp} {r:R2} (ho:OpR X (compareOp op) r) (ha:PE X a ta) (hb:PE X b tb) (hm:behindInMarks op b=false):PT X (.Compare a [op] [b] pos) (tTest (tOp r ta tb)):=by
 intro pins s σ H Q I h
 refine wpAny_isTrue_Compare1 (thn (ha pins s σ H _ I h) fun v s1 ⟨x,H1,I1,r1,q1⟩=>thn (hb pins s1 σ H1 _ I1 q1) fun u s2 ⟨y,H2,I2,r2,q2⟩=>
  thn (ho pins s2 σ H2 x y v u _ I2 r1 r2 q2) fun c s3 ⟨z,H3,I3,r3,k,e,q3⟩=>?_) hm
 subst e
 cases r3
 exact wpAny_truthy_bool ⟨H3,I3,q3⟩
def tChain (r r':R2) (ta tb tc:TE):TE:=fun σ H Q=>ta σ H fun x H1=>tb σ H1 fun y H2=>r x y H2 fun z H3=>∃k,z=.bl k∧
 (if k=true then tc σ H3 fun w' H4=>r' y w' H4 Q else Q (.bl false) H3)
theorem pt_chain {op op':CmpOp} {r r':R2} (ho:OpR X (compareOp op) r) (ho':OpR X (compareOp op') r') (ha:PE X a ta) (hb:PE X b tb) (hc:PE X c tc)
  (hm:lastMarks [op,op'] [b,c]=false:=by with_unfolding_all rfl):PT X (.Compare a [op,op'] [b,c] pos) (tTest (tChain r r' ta tb tc)):=by
 intro pins s σ H Q I h
 refine isTrue_chain (thn (ha pins s σ H _ I h) fun v s1 ⟨x,H1,I1,r1,q1⟩=>test_link (thn (hb pins s1 σ H1 _ I1 q1) fun u s2 ⟨y,H2,I2,r2,q2⟩=>
  thn (ho pins s2 σ H2 x y v u _ I2 r1 r2 q2) fun d s3 ⟨z,H3,I3,r3,k,e,q3⟩=>?_)) hm
 subst e
 cases r3
 refine wpAny_truthy_bool ?_
 cases k with
 |false=>
  obtain⟨k',e',q'⟩:=q3
  cases e'
  exact ite_ff ⟨H3,I3,q'⟩
 |true=>
  refine ite_tt (test_last (thn (hc pins s3 σ H3 _ I3 q3) fun w' s4 ⟨z',H4,I4,r4,q4⟩=>thn (ho' pins s4 σ H4 y z' u w' _ I4 r2 r4 q4) fun d' s5 ⟨z2,H5,I5,r5,k2,e2,q5⟩=>?_))
  subst e2
  cases r5
  exact wpAny_truthy_bool ⟨H5,I5,q5⟩
def TruV (K:PySem.W.Frag) (x:V) (H:Hp) (k:Bool):Prop:=
 match x with
 | .non=>k=false
 | .bl b=>k=b
 | .int i=>k=(i !=0)
 | .str y=>y.length≤sizeLine∧k=((y.length:Int) !=0)
 | .byt y=>y.size≤sizeLine∧k=((y.size:Int) !=0)
 | .ref p=>(∃xs,SqL K H p xs∧k=!xs.isEmpty)∨(∃xs,SqT K H p xs∧k=!xs.isEmpty)∨∃kvs,H p=some (.dK kvs)∧k=!kvs.isEmpty
 |_=>False
theorem isEmpty_kv {κ:Type} {kvs:List (κ×V)} {vs:List (κ×Value)} (r:KV kvs vs):(!vs.isEmpty)=!kvs.isEmpty:=by
 cases r<;>rfl
theorem isEmpty_of {xs:List V} {its:List Value} (r:Vals xs its):(!its.toArray.isEmpty)=!xs.isEmpty:=by
 cases r<;>simp
theorem line63:(sizeLine:Nat)<2^63:=by rw[sizeLine_eq];decide
theorem tru_ok:TruR X (fun x H Q=>∃k,TruV X.K x H k∧Q k H):=by
 intro pins s σ H x v Q I rx h
 obtain⟨k,e,q⟩:=h
 have hl:=line63
 have hs:sizeLine=16777216:=sizeLine_eq
 cases x with
 |non=>
  cases rx
  have e':k=false:=e
  subst e'
  exact truthy_none ⟨H,I,q⟩
 |bl b=>
  cases rx
  have e':k=b:=e
  subst e'
  exact wpAny_truthy_bool ⟨H,I,q⟩
 |int i=>
  obtain⟨t,rfl⟩:=rx
  have e':k=(i !=0):=e
  subst e'
  exact PySem.P.truthy_int ⟨H,I,q⟩
 |str y=>
  obtain⟨t,rfl⟩:=rx
  obtain⟨hy,e'⟩:y.length≤sizeLine∧k=((y.length:Int) !=0):=e
  subst e'
  exact PySem.P.truthy_str (by omega) ⟨H,I.tok _,q⟩
 |byt y=>
  obtain⟨t,rfl⟩:=rx
  obtain⟨hy,e'⟩:y.size≤sizeLine∧k=((y.size:Int) !=0):=e
  subst e'
  exact PySem.W.truthy_bytes (by omega) ⟨H,I.tok _,q⟩
 |ref p=>
  cases rx
  have e':(∃xs,SqL X.K H p xs∧k=!xs.isEmpty)∨(∃xs,SqT X.K H p xs∧k=!xs.isEmpty)∨∃kvs,H p=some (.dK kvs)∧k=!kvs.isEmpty:=e
  rcases e' with⟨xs,hx,e'⟩|⟨xs,hx,e'⟩|⟨kvs,hx,e'⟩
  ·subst e'
   obtain⟨its,r,pl,hz⟩:=I.list hx
   have hlen:=r.length
   exact wpAny_truthy_list pl.isList (by simp only[List.size_toArray];omega) ⟨H,I.tok _,by rw[isEmpty_of r];exact q⟩
  ·subst e'
   obtain⟨its,r,pl,hz⟩:=I.tuple hx
   have hlen:=r.length
   exact truthy_tuple pl (by simp only[List.size_toArray];omega) ⟨H,I.tok _,by rw[isEmpty_of r];exact q⟩
  ·subst e'
   obtain⟨hz,hS,vs,r,m⟩:kvs.length≤sizeLine∧(p==sysModules)=false∧∃vs,KV kvs vs∧s.heap.DictOf (mixKind X.prog X.w) p vs:=I.hok p _ hx
   have hlen:kvs.length=vs.length:=Paired.length r
   exact wpAny_truthy_dict hS m (by omega) ⟨H,I.tok _,by rw[isEmpty_kv r];exact q⟩
 |_=>exact(show False from e).elim
theorem pt_truth (ha:PE X a ta) (he:∀whole,isTrue a X.env whole=(do let v ← whole;standAt a.pos;holding [v] (truthy v))):
  PT X a (fun σ H Q=>ta σ H fun x H'=>∃k,TruV X.K x H' k∧Q k H'):=by
 intro pins s σ H Q I h
 exact isTrue_plain (thn (ha pins s σ H _ I h) fun v s1 ⟨x,H1,I1,r1,q1⟩=>tru_ok pins s1 σ H1 x v Q I1 r1 q1) (he _)
theorem op_add_str:OpR X (binaryOp .Add) (fun x y H Q=>∃i j,x=.str i∧y=.str j∧i.length+j.length≤sizeLine∧Q (.str (i++j)) H):=by
 intro pins s σ H x y v u Q I rx ry h
 obtain⟨i,j,rfl,rfl,hz,q⟩:=h
 obtain⟨t,rfl⟩:=rx
 obtain⟨t',rfl⟩:=ry
 exact add_str (fun t' tk=>⟨.str (i++j),H,I.tok _,⟨_,rfl⟩,q⟩) hz
def PlainIxT (b:Expr):Prop:=∀o i,subscripted b false o i=operate [o,i] (getItem o i)
theorem pe_item_str (ha:PE X a ta) (hb:PE X b tb) (hs:PlainIxT b):
  PE X (.Subscript a b pos) (tOp (fun x y H Q=>∃z i c,x=.str z∧y=.int i∧0≤i∧i<2^63∧i<z.length∧z.cps[i.toNat]?=some c∧Q (.str ⟨#[c]⟩) H) ta tb):=by
 intro pins s σ H Q I h
 refine Subscript_ (binT ha hb I h fun v u s2 x y H2 I2 rx ry q=>?_)
 obtain⟨z,i,c,rfl,rfl,h0,h63,h1,hc,q⟩:=q
 obtain⟨t,rfl⟩:=rx
 obtain⟨t',rfl⟩:=ry
 have e:seqIndex? i z.length=some i.toNat:=PySem.StrLaws.seqIndex_nonneg h0 h1
 exact tail_any (typeIs_str s2 z t) slot_str_getitem.lookup (getItem_str (c:=c) (by
  have e1:decide (i < -(2^63:Int))=false:=decide_eq_false (by omega)
  have e2:decide (i≥2^63)=false:=decide_eq_false (by omega)
  rw[e1,e2]<;>rfl) (by rw[e];exact hc) ⟨.str ⟨#[c]⟩,H2,I2.tok _,⟨_,rfl⟩,q⟩) (hs _ _)
theorem vals1 {x:V} {us:List Value} (r:Vals [x] us):∃u,us=[u]∧RelV x u:=by
 cases r with
 |cons r1 r2=>cases r2;exact⟨_,rfl,r1⟩
theorem vals2 {x y:V} {us:List Value} (r:Vals [x,y] us):∃u w',us=[u,w']∧RelV x u∧RelV y w':=by
 cases r with
 |cons r1 r2=>
  cases r2 with
  |cons r3 r4=>cases r4;exact⟨_,_,rfl,r1,r3⟩
theorem call_abs:CallR X (.builtin "abs") (fun xs H Q=>∃i,xs=[.int i]∧Q (.int (if i<0 then -i else i)) H):=by
 intro pins s σ H xs us Q I r h
 obtain⟨i,rfl,q⟩:=h
 obtain⟨u,rfl,t,rfl⟩:=vals1 r
 exact call_abs_int fun u tk=>⟨.int (if i<0 then -i else i),H,I.tok _,⟨_,rfl⟩,q⟩
theorem call_min2 (hc:X.calm=true):CallR X (.builtin "min") (fun xs H Q=>∃i j,xs=[.int i,.int j]∧Q (.int (if j<i then j else i)) H):=by
 intro pins s σ H xs us Q I r h
 obtain⟨i,j,rfl,q⟩:=h
 obtain⟨u,w',rfl,⟨t,rfl⟩,⟨t',rfl⟩⟩:=vals2 r
 refine min_two_ints (I.ok.hd hc) fun h' tk k=>⟨_,H,I.kept k,?_,q⟩
 by_cases hj:j<i
 ·rw[if_pos hj,if_pos hj];exact⟨_,rfl⟩
 ·rw[if_neg hj,if_neg hj];exact⟨_,rfl⟩
theorem call_int1:CallR X (.type "int") (fun xs H Q=>(∃i,xs=[.int i]∧Q (.int i) H)∨∃k,xs=[.bl k]∧Q (.int (if k then 1 else 0)) H):=by
 intro pins s σ H xs us Q I r h
 rcases h with⟨i,rfl,q⟩|⟨k,rfl,q⟩
 ·obtain⟨u,rfl,t,rfl⟩:=vals1 r
  exact call_int_int ⟨.int i,H,I,⟨_,rfl⟩,q⟩
 ·obtain⟨u,rfl,r1⟩:=vals1 r
  cases r1
  exact call_int_bool ⟨.int (if k then 1 else 0),H,I.tok _,⟨_,rfl⟩,q⟩
theorem call_str_int:CallR X (.type "str") (fun xs H Q=>∃i,xs=[.int i]∧i.natAbs.log2<1920∧Q (.str (toString i)) H):=by
 intro pins s σ H xs us Q I r h
 obtain⟨i,rfl,hz,q⟩:=h
 obtain⟨u,rfl,t,rfl⟩:=vals1 r
 exact PySem.P.str_of_int hz ⟨.str _,H,I.tok _,⟨_,rfl⟩,q⟩
def LenV (K:PySem.W.Frag) (x:V) (H:Hp) (n:Nat):Prop:=
 match x with
 | .str y=>y.length≤sizeLine∧n=y.length
 | .byt y=>y.size≤sizeLine∧n=y.size
 | .ref p=>(∃xs,SqL K H p xs∧n=xs.length)∨∃xs,SqT K H p xs∧n=xs.length
 |_=>False
theorem call_len:CallR X (.builtin "len") (fun xs H Q=>∃x n,xs=[x]∧LenV X.K x H n∧Q (.int n) H):=by
 intro pins s σ H xs us Q I r h
 obtain⟨x,n,rfl,e,q⟩:=h
 obtain⟨u,rfl,rx⟩:=vals1 r
 have hl:=line63
 have hs:sizeLine=16777216:=sizeLine_eq
 cases x with
 |str y=>
  obtain⟨t,rfl⟩:=rx
  obtain⟨hy,e'⟩:y.length≤sizeLine∧n=y.length:=e
  subst e'
  exact len_str (by omega) ⟨.int _,H,I.tok _,⟨_,rfl⟩,q⟩
 |byt y=>
  obtain⟨t,rfl⟩:=rx
  obtain⟨hy,e'⟩:y.size≤sizeLine∧n=y.size:=e
  subst e'
  exact PySem.W.len_bytes (by omega) ⟨.int _,H,I.tok _,⟨_,rfl⟩,q⟩
 |ref p=>
  cases rx
  have e':(∃xs,SqL X.K H p xs∧n=xs.length)∨∃xs,SqT X.K H p xs∧n=xs.length:=e
  rcases e' with⟨xs,hx,e'⟩|⟨xs,hx,e'⟩
  ·subst e'
   obtain⟨its,r',pl,hz⟩:=I.list hx
   have hlen:=r'.length
   exact Calls.call_len_list pl.isList (by simp only[List.size_toArray];omega) ⟨.int xs.length,H,I.tok _,⟨_,by simp only[List.size_toArray];rw[hlen]⟩,q⟩
  ·subst e'
   obtain⟨its,r',pl,hz⟩:=I.tuple hx
   have hlen:=r'.length
   exact len_tuple pl (by simp only[List.size_toArray];omega) ⟨.int xs.length,H,I.tok _,⟨_,by simp only[List.size_toArray];rw[hlen]⟩,q⟩
 |_=>exact(show False from e).elim
end
open PySem PySem.Spec PyProof.Rows
theorem RelO.some_of {v:V} {o:Option Value} (r:RelO (some v) o):∃u,o=some u∧RelV v u:=by
 cases o with
 |none=>exact(show False from r).elim
 |some u=>exact⟨u,rfl,r⟩
open PySem PySem.Spec PyProof.Rows
structure Room (k:Nat) (A:Around):Prop where
 hd:A.handled=none
 dp:A.depth+3*k+5<recursionLimit
 un:A.units+16*k+200<cLine
theorem Room.mono {j k:Nat} {A:Around} (r:Room k A) (h:j≤k):Room j A:=⟨r.hd,by have:=r.dp;omega,by have:=r.un;omega⟩
theorem Room.deeper {k:Nat} {A:Around} (r:Room (k+1) A) (env:Env):Room k (A.deeper env):=
 ⟨r.hd,by have:=r.dp;show A.depth+1+3*k+5<_;omega,by have:=r.un;show A.units+3+16*k+200<_;omega⟩
theorem Room.depth {k:Nat} {A:Around} (r:Room k A):A.depth<recursionLimit:=by have:=r.dp;omega
theorem Room.units {k:Nat} {A:Around} (r:Room k A):A.units+64<cLine:=by have:=r.un;omega
def tNil:TA:=fun _ H Q=>Q [] H
def tCons (ta:TE) (tr:TA):TA:=fun σ H Q=>ta σ H fun x H1=>tr σ H1 fun xs H2=>Q (x::xs) H2
section
variable {X:Cx} {e:Expr} {es:List Expr} {te:TE} {t:TA} {pos:Pos}
theorem pa_nil:PA X [] tNil:=fun _ _ _ _ H Q I h=>Calls.spliced_nil ⟨[],H,I,.nil,h⟩
theorem pa_cons (ha:PE X e te) (hr:PA X es t) (hs:starEach (e::es) X.env=(false,eval e X.env)::starEach es X.env:=by rfl):PA X (e::es) (tCons te t):=by
 intro pos pins s σ H Q I h
 rw[hs]
 show wpAny _ _ (spliced ((false,eval e X.env)::backTo pos (starEach es X.env))) _ _ s
 refine Calls.spliced_cons (thn (ha pins s σ H _ I h) fun u s1 ⟨x,H1,I1,r1,q1⟩=>?_)
 exact thn (hr pos pins s1 σ H1 _ I1 q1) fun us s2 ⟨xs,H2,I2,r2,q2⟩=>⟨x::xs,H2,I2,.cons r1 r2,q2⟩
def tTup (t:TA):TE:=fun σ H Q=>t σ H fun xs H1=>xs.length≤sizeLine∧∀p,H1 p=none→Q (.ref p) (upd H1 p (.tup xs))
def tLst (t:TA):TE:=fun σ H Q=>t σ H fun xs H1=>xs.length≤sizeLine∧∀p,H1 p=none→Q (.ref p) (upd H1 p (.lst xs))
theorem pe_tup {x1} (h:PA X es t):PE X (.Tuple es x1 pos) (tTup t):=by
 intro pins s σ H Q I hq
 refine wpAny_Tuple_spliced (thn (h pos pins s σ H _ I hq) fun us s1 ⟨xs,H1,I1,r,z,q⟩=>⟨by rw[← r.length];exact z,?_⟩)
 have hf:H1 s1.heap.objs.size=none:=I1.hok.fresh (Nat.le_refl _)
 refine⟨.ref s1.heap.objs.size,upd H1 s1.heap.objs.size (.tup xs),I1.laid (t':=s1.toks) (fun b u e=>Heap.get?_push_of_some _ e) (Nat.le_refl _) ?_,rfl,q _ hf⟩
 exact⟨z,us,r,⟨_,Heap.get?_push_size _ rfl,rfl,_,rfl⟩⟩
theorem pe_lst (h:PA X es t):PE X (.List es pos) (tLst t):=by
 intro pins s σ H Q I hq
 refine wpAny_List_spliced (thn (h pos pins s σ H _ I hq) fun us s1 ⟨xs,H1,I1,r,z,q⟩=>⟨by rw[← r.length];exact z,?_⟩)
 have hf:H1 s1.heap.objs.size=none:=I1.hok.fresh (Nat.le_refl _)
 refine⟨.ref s1.heap.objs.size,upd H1 s1.heap.objs.size (.lst xs),I1.laid (t':=s1.toks) (fun b u e=>Heap.get?_push_of_some _ e) (Nat.le_refl _) ?_,rfl,q _ hf⟩
 exact⟨z,us,0,r,Heap.get?_push_size _ rfl⟩
end
abbrev Sp:=List V→Hp→VK→XK→Prop
abbrev CXT:=List Env→Hp→Shared→XK→Value→Shared→Prop
structure Env0 (P:Program) (w:World) (K:PySem.W.Frag) (mg:Str→Option Value) (base:Heap) (A:Around) (outer:List Env) (s:Shared) (H:Hp):Prop where
 frames:A.frames=some outer
 mod:Mod K mg base
 bs:∀b o,base.get? b=some o→s.heap.get? b=some o∧H b=none
 bsz:base.objs.size≤s.heap.objs.size
 funs:s.heap.FunFrames base outer
 frf:∀b∈frs outer,H b=none
 hok:HOk P w H s.heap
 bare:AllBare s.gens
def CE (outer:List Env) (P:Program) (w:World) (H:Hp) (s:Shared) (Q:VK) (u:Value) (s':Shared):Prop:=
 ∃v H',s'.os=s.os∧AllBare s'.gens∧Un (frs outer) [] H H' s.heap s'.heap∧HOk P w H' s'.heap∧RelV v u∧Q v H'
def CR (CX:CXT) (outer:List Env) (P:Program) (w:World) (H:Hp) (s:Shared) (Q:VK) (E:XK) (r:Result) (s':Shared):Prop:=
 match r with
 | .ok (.ret u)=>CE outer P w H s Q u s'
 | .ok _=>False
 | .error e=>CX outer H s E e s'
structure FnOk (P:Program) (w:World) (K:PySem.W.Frag) (mg:Str→Option Value) (base:Heap) (CX:CXT) (k:Nat) (f:Addr) (fd:FuncData) (ps:List Str) (sp:Sp):Prop where
 len:∀vs H Q E,sp vs H Q E→vs.length=ps.length
 run:∀(A:Around) (outer:List Env) (s:Shared) (H:Hp) (args:Args) (us:List Value) (vs:List V) (Q:VK) (E:XK),Room k A→Env0 P w K mg base A outer s H→BindsTo s fd args (ps.zip us)→Vals vs us→sp vs H Q E→
  codeAny (model P w) A (.call (.ref f) args) (CR CX outer P w H s Q E) s
theorem FnOk.mono {P:Program} {w:World} {K:PySem.W.Frag} {mg:Str→Option Value} {base:Heap} {CX:CXT} {j k:Nat} {f:Addr} {fd:FuncData} {ps:List Str} {sp:Sp} (F:FnOk P w K mg base CX j f fd ps sp) (h:j≤k):
  FnOk P w K mg base CX k f fd ps sp:=⟨F.len,fun A outer s H args us vs Q E hr=>F.run A outer s H args us vs Q E (hr.mono h)⟩
theorem FnOk.imp {P:Program} {w:World} {K:PySem.W.Frag} {mg:Str→Option Value} {base:Heap} {CX:CXT} {k:Nat} {f:Addr} {fd:FuncData} {ps:List Str} {sp sp':Sp} (F:FnOk P w K mg base CX k f fd ps sp)
  (h:∀vs H Q E,sp' vs H Q E→sp vs H Q E):FnOk P w K mg base CX k f fd ps sp':=
 ⟨fun vs H Q E q=>F.len vs H Q E (h _ _ _ _ q),fun A outer s H args us vs Q E hr he hb hv hs=>F.run A outer s H args us vs Q E hr he hb hv (h _ _ _ _ hs)⟩
section
variable {X:Cx} {pins:List (Addr×Obj)} {σ:St} {H:Hp} {s s':Shared}
theorem Inv.env0 (I:Inv X pins σ H s):Env0 X.prog X.w X.K X.mg X.base X.A X.stack s H:=
 ⟨I.ok.frames,I.ok.mod,I.bs,Nat.le_trans I.ok.bsz I.sz,I.stack,I.stkFree,I.hok,I.bare⟩
theorem Inv.after {Q:VK} {u:Value} (I:Inv X pins σ H s) (h:CE X.stack X.prog X.w H s Q u s'):EP X pins σ Q u s':=by
 obtain⟨v,H',os,bare,un,hok,r,q⟩:=h
 obtain⟨hh,g,d,t,os'⟩:=s'
 obtain rfl:os'=s.os:=os
 exact⟨v,H',I.call (h':=hh) (g':=g) (d':=d) (t':=t) (ch:=[]) un hok bare (fun b z=>absurd z (by simp)),r,q⟩
end
def tCall (sp:Sp) (dvs:List V) (E:XK) (t:TA):TE:=fun σ H Q=>t σ H fun vs H1=>sp (vs++dvs) H1 Q E
def Binds (K:PySem.W.Frag) (fd:FuncData) (ps:List Str) (ds:List Value):Prop:=
 ∀(s:Shared) (us:List Value),K.In s.heap→(us++ds).length=ps.length→BindsTo s fd ⟨us,[]⟩ (ps.zip (us++ds))
theorem Binds.all {K:PySem.W.Frag} {fd:FuncData} {ps:List Str} (h:∀us:List Value,us.length=ps.length→bindArgs fd ⟨us,[]⟩=pure (ps.zip us)):Binds K fd ps []:=fun s us _ hl=>by
 rw[List.append_nil]at hl ⊢
 exact .of_eq (h us hl)
def Passes (CX:CXT) (X:Cx) (E:XK):Prop:=∀(pins:List (Addr×Obj)) (σ:St) (H:Hp) (s:Shared) (e:Value) (s':Shared),Inv X pins σ H s→CX X.stack H s E e s'→X.xe e s'
section
variable {X:Cx} {CX:CXT} {k:Nat} {f C:Addr} {fd:FuncData} {ps:List Str} {sp:Sp} {dvs:List V} {ds:List Value} {E:XK} {x m:Str} {p pos apos:Pos} {e o:Expr} {es:List Expr} {ta:TE} {t:TA}
theorem run_fn {pins:List (Addr×Obj)} {σ:St} {H:Hp} {s:Shared} {Q:VK} {us:List Value} {vs:List V} (F:FnOk X.prog X.w X.K X.mg X.base CX k f fd ps sp) (hr:Room k X.A) (hb:Binds X.K fd ps ds) (hd:Vals dvs ds) (hx:Passes CX X E)
  (I:Inv X pins σ H s) (r:Vals vs us) (h:sp (vs++dvs) H Q E):wpAny (model X.prog X.w) X.A (call (.ref f) us) (EP X pins σ Q) X.xe s:=by
 have r2:Vals (vs++dvs) (us++ds):=r.append hd
 have hl:(us++ds).length=ps.length:=by rw[← r2.length];exact F.len _ _ _ _ h
 refine wpAny_call (codeAny_mono (F.run X.A X.stack s H ⟨us,[]⟩ (us++ds) (vs++dvs) Q E hr I.env0 (hb s us I.kIn hl) r2 h) fun r s' hq=>?_)
 cases r with
 |error e=>exact hx pins σ H s e s' I hq
 |ok fl=>
  cases fl with
  |ret u=>exact I.after hq
  |next=>exact False.elim hq
  |brk=>exact False.elim hq
  |cont=>exact False.elim hq
theorem pe_call (F:FnOk X.prog X.w X.K X.mg X.base CX k f fd ps sp) (hr:Room k X.A) (hg:Gl X x) (hm:X.mg x=some (.ref f)) (hk:PySem.W.keepIn X.K (.ref f)=true) (hb:Binds X.K fd ps ds) (hd:Vals dvs ds) (hx:Passes CX X E)
  (ha:PA X (e::es) t) (hdb:(x==("__debug__" : Str))=false:=by decide) (he:starEach (e::es) X.env=(false,eval e X.env)::starEach es X.env:=by rfl) (hpl:(backTo pos (starEach es X.env)).any (·.1)=false:=by rfl):
  PE X (.Call (.Name x p) (e::es) [] pos) (tCall sp dvs E t):=by
 intro pins s σ H Q I h
 refine wpAny_Call_Name_kw (ld_glob I hg hm ?_ hdb)
 refine PySem.W.callWith_K (h₀:=X.base) I.ok.mod.kin hk (thn (ha pos pins s σ H _ I h) fun us s1 ⟨vs,H1,I1,r,q⟩=>⟨I1.kIn,?_⟩) he hpl
 exact run_fn F hr hb hd hx I1 r q
end
structure FnScope (N P:List Str) (sc:Scope):Prop where
 kind:sc.kind=.function
 co:sc.isCoroutine=false
 gen:sc.isGenerator=false
 nd:N.Nodup
 pre:N.take P.length=P
 par:∀x∈P,sc.names.lookup x=some .local∨sc.names.lookup x=some .cell
 nofree:∀y∈sc.names,y.2≠.free
theorem bindL_out {kindOf:Str→Option NameKind} {x:Str}:∀{binds:List (Str×Value)} {m:Str→Option Value},(∀v,(x,v)∉binds)→bindL kindOf binds m x=m x
 |[],_,_=>rfl
 |(n,v)::r,m,h=>by
  unfold bindL
  rw[bindL_out fun w hw=>h w (List.mem_cons_of_mem _ hw)]
  split
  ·have:x≠n:=by rintro rfl;exact h v List.mem_cons_self
   simp[this]
  ·rfl
theorem bindC_out {kindOf:Str→Option NameKind} {x:Str}:∀{binds:List (Str×Value)} {m:Str→Option Value},(∀v,(x,v)∉binds)→bindC kindOf binds m x=m x
 |[],_,_=>rfl
 |(n,v)::r,m,h=>by
  unfold bindC
  rw[bindC_out fun w hw=>h w (List.mem_cons_of_mem _ hw)]
  split
  ·rfl
  ·have:x≠n:=by rintro rfl;exact h v List.mem_cons_self
   simp[this]
theorem bindL_get {kindOf:Str→Option NameKind} {x:Str} {v:Value}:∀{P:List Str} {vs:List Value} {i:Nat} {m:Str→Option Value},P.Nodup→P[i]?=some x→vs[i]?=some v→kindOf x=some .local→
  bindL kindOf (P.zip vs) m x=some v
 |[],_,_,_,_,h,_,_=>by simp at h
 |_::_,[],_,_,_,_,h,_=>by simp at h
 |p::P,w::vs,0,m,nd,h1,h2,hk=>by
  simp at h1 h2;subst h1;subst h2
  show bindL kindOf ((p,w)::P.zip vs) m p=_
  unfold bindL
  rw[bindL_out fun v hv=>(List.nodup_cons.mp nd).1 (List.of_mem_zip hv).1,if_pos hk]
  simp
 |p::P,w::vs,i+1,m,nd,h1,h2,hk=>by
  show bindL kindOf ((p,w)::P.zip vs) m x=_
  unfold bindL
  exact bindL_get (i:=i) (List.nodup_cons.mp nd).2 (by simpa using h1) (by simpa using h2) hk
theorem bindC_get {kindOf:Str→Option NameKind} {x:Str} {v:Value}:∀{P:List Str} {vs:List Value} {i:Nat} {m:Str→Option Value},P.Nodup→P[i]?=some x→vs[i]?=some v→kindOf x≠some .local→
  bindC kindOf (P.zip vs) m x=some v
 |[],_,_,_,_,h,_,_=>by simp at h
 |_::_,[],_,_,_,_,h,_=>by simp at h
 |p::P,w::vs,0,m,nd,h1,h2,hk=>by
  simp at h1 h2;subst h1;subst h2
  show bindC kindOf ((p,w)::P.zip vs) m p=_
  unfold bindC
  rw[bindC_out fun v hv=>(List.nodup_cons.mp nd).1 (List.of_mem_zip hv).1,if_neg hk]
  simp
 |p::P,w::vs,i+1,m,nd,h1,h2,hk=>by
  show bindC kindOf ((p,w)::P.zip vs) m x=_
  unfold bindC
  exact bindC_get (i:=i) (List.nodup_cons.mp nd).2 (by simpa using h1) (by simpa using h2) hk
def start (N:List Str) (vs:List V):St:=vs.map some++List.replicate (N.length-vs.length) none
def cxOf (CX:CXT) (P:Program) (w:World) (K:PySem.W.Frag) (mg:Str→Option Value) (base:Heap) (N:List Str) (qual:Str) (scope:Scope) (f:Addr) (cd:Value) (A:Around) (outer:List Env) (s:Shared) (H:Hp) (E:XK):Cx where
 prog:=P
 w:=w
 K:=K
 mg:=mg
 base:=base
 A:=A.deeper (envOfC qual scope s.heap.objs.size f cd)
 N:=N
 s₀:=s
 H₀:=H
 env:=envOfC qual scope s.heap.objs.size f cd
 outer:=outer
 stack:=envOfC qual scope s.heap.objs.size f cd::outer
 ex:=[]
 calm:=true
 fn:=fun _=>true
 pn:=[]
 xe:=fun e s'=>wpAny (model P w) (A.deeper (envOfC qual scope s.heap.objs.size f cd)) (leaving (envOfC qual scope s.heap.objs.size f cd) e) (fun _ s''=>CX outer H s E e s'') (fun e' s''=>CX outer H s E e' s'') s'
theorem cell_has {sc:Scope} {n:Nat} {x:Str} (h:sc.names.lookup x=some .cell):∃c,(cellsFrom n sc.names []).lookup x=some c:=by
 have q:=PySem.W.cellsFrom_some sc.names n [] (.inl h)
 exact Option.isSome_iff_exists.mp q
theorem inv_start {CX:CXT} {P:Program} {w:World} {K:PySem.W.Frag} {mg:Str→Option Value} {base:Heap} {N ps:List Str} {qual:Str} {scope:Scope} {f:Addr} {cd:Value} {A:Around} {outer:List Env} {s s1:Shared} {H:Hp} {E:XK} {us:List Value} {vs:List V}
  (S:FnScope N ps scope) (hd:A.handled=none) (e0:Env0 P w K mg base A outer s H) (hl:vs.length=ps.length) (r:Vals vs us)
  (x:InCallC s s.heap.objs.size (bindL (envOfC qual scope s.heap.objs.size f cd).kindOf (ps.zip us) fun _=>none) (cellsFrom (s.heap.objs.size+1) scope.names []) (bindC (envOfC qual scope s.heap.objs.size f cd).kindOf (ps.zip us) fun _=>none) s1):
  Inv (cxOf CX P w K mg base N qual scope f cd A outer s H E) [] (start N vs) H s1:=by
 have hpl:ps.length≤N.length:=by have:=congrArg List.length S.pre;rw[List.length_take]at this;omega
 obtain⟨h1,tk,rfl,hk⟩:=x.done
 have noA:∀b:Addr,b∉(cxOf CX P w K mg base N qual scope f cd A outer s H E).ex:=fun b z=>absurd (show b∈([]:List Addr)from z) (by simp)
 refine⟨⟨e0.mod,S.kind,rfl,rfl,Nat.le_refl _,fun y z c h1 h2=>?_,fun y hy=>?_,fun y c _ h=>?_,fun _=>hd,Around.frames_deeper e0.frames,.inr ⟨rfl,rfl⟩,fun b z=>absurd z (noA b),e0.bs,e0.bsz,fun b _ _=>noA b,fun b z=>absurd z (noA b),e0.funs,e0.frf⟩,
  rfl,e0.bare,Un.kept hk,⟨_,x.toInCall.ns,fun i y v h1 h2 h3=>?_⟩,fun y c h=>⟨_,x.cell y c h⟩,e0.hok.fresh (Nat.le_refl _),fun y c h=>?_,fun p hp=>absurd (show p∈([]:List (Addr×Obj))from hp) (by simp),e0.hok.kept hk,?_⟩
 ·exact name_of_addr x.apart (PySem.mem_of_lookup h1) (PySem.mem_of_lookup h2)
 ·have hy:scope.names.lookup y=some .cell∨scope.names.lookup y=some .free:=hy
  rcases hy with hy|hy
  ·exact cell_has hy
  ·exact absurd rfl (S.nofree _ (PySem.mem_of_lookup hy))
 ·exact Nat.le_of_lt (x.above y c (PySem.mem_of_lookup h))
 ·have hi:i<vs.length:=by
   unfold start at h2
   by_cases hi:i<vs.length
   ·exact hi
   ·rw[List.getElem?_append_right (by simpa using hi)]at h2
    rw[List.getElem?_replicate]at h2
    split at h2<;>cases h2
  have ha:vs[i]?=some v:=by
   unfold start at h2
   rw[List.getElem?_append_left (by simpa using hi),List.getElem?_map]at h2
   cases e:vs[i]? with
   |none=>rw[e]at h2;cases h2
   |some a=>rw[e]at h2;cases h2;rfl
  obtain⟨u,hu,rv⟩:=r.get ha
  have hp:ps[i]?=some y:=by
   rw[← S.pre,List.getElem?_take_of_lt (by omega)];exact h1
  have ndP:ps.Nodup:=by rw[← S.pre];exact S.nd.sublist (List.take_sublist _ _)
  refine⟨u,rv,?_⟩
  rcases S.par y (List.mem_of_getElem? hp)with k|k
  ·exact .inl ⟨k,bindL_get ndP hp hu k⟩
  ·obtain⟨c,e⟩:=cell_has (n:=s.heap.objs.size+1) k
   refine .inr ⟨.inl k,c,e,?_⟩
   have q:=x.cell y c e
   rw[bindC_get ndP hp hu (by show scope.names.lookup y≠_;rw[k];decide)]at q
   exact q
 ·exact e0.hok.fresh (Nat.le_of_lt (x.above y c (PySem.mem_of_lookup h)))
 ·unfold start
  show _=N.length
  rw[List.length_append,List.length_map,List.length_replicate]
  omega
theorem fn_of {CX:CXT} {P:Program} {w:World} {K:PySem.W.Frag} {mg:Str→Option Value} {base:Heap} {k:Nat} {f:Addr} {name qual:Str} {params:Arguments} {body:List Stmt} {scope:Scope} {dV kV doc pm cdv ct oc:Value} {an od:Option Addr}
  {osl:Array (Option Value)} {N ps:List Str} {sp:Sp} (lk:K.lookup f=some ⟨oc,od,.func (PySem.W.fnOf name qual params body scope dV kV doc pm an cdv ct),osl⟩) (hcd:PySem.W.codeIn K cdv qual=true) (S:FnScope N ps scope)
  (len:∀vs H Q E,sp vs H Q E→vs.length=ps.length)
  (hbody:∀(A:Around) (outer:List Env) (s:Shared) (H:Hp) (vs:List V) (Q:VK) (E:XK),Room k (A.deeper (envOfC qual scope s.heap.objs.size f cdv))→sp vs H Q E→
   ∃t,PSs (cxOf CX P w K mg base N qual scope f cdv A outer s H E) body t∧t {nx:=fun _ H'=>Q .non H',rt:=Q} (start N vs) H):
  FnOk P w K mg base CX (k+1) f (PySem.W.fnOf name qual params body scope dV kV doc pm an cdv ct) ps sp:=by
 refine⟨len,fun A outer s H args us vs Q E hr e0 hb r hsp=>?_⟩
 have hl:=len _ _ _ _ hsp
 have KX:K.In s.heap:=e0.mod.kin.keeps fun b o e=>(e0.bs b o e).1
 have lim:s.heap.NoLimit:=e0.mod.nolimit.keeps fun b o e=>(e0.bs b o e).1
 have hkind:∀y∈ps.zip us,scope.names.lookup y.1=some .local∨(scope.names.lookup y.1=some .cell∧((cellsFrom (s.heap.objs.size+1) scope.names []).lookup y.1).isSome=true):=fun⟨n,v⟩ hy=>by
  rcases S.par n (List.of_mem_zip hy).1 with q|q
  ·exact .inl q
  ·exact .inr ⟨q,PySem.W.cellsFrom_some _ _ _ (.inl q)⟩
 refine codeAny_call_function hr.depth (KX _ _ lk) rfl S.co S.gen rfl (PySem.W.codeRec_of KX hcd) (hb _ _ _ _ ?_)
 refine wpAny_newFunctionEnv_cells S.kind hkind fun env he s1 x=>?_
 subst he
 refine⟨lim.keeps x.toInCall.keep,codeAny_func ?_⟩
 obtain⟨t,ht,hq⟩:=hbody A outer s H vs Q E (hr.deeper _) hsp
 have I:Inv (cxOf CX P w K mg base N qual scope f cdv A outer s H E) [] (start N vs) H s1:=inv_start S hr.hd e0 hl r x
 refine wpAny_mono (ht [] s1 (start N vs) H _ I hq) (fun fl s' hs=>?_) fun e s' hs=>hs
 have fin:∀{σ':St} {H':Hp} {v:V} {u:Value},Inv (cxOf CX P w K mg base N qual scope f cdv A outer s H E) [] σ' H' s'→RelV v u→Q v H'→CE outer P w H s Q u s':=
  fun{σ' H' v u} J rv q=>⟨v,H',J.os,J.bare,J.base,J.hok,rv,q⟩
 cases fl with
 |ret u=>
  obtain⟨v,σ',H',J,rv,q⟩:=hs
  exact fin J rv q
 |next=>
  obtain⟨σ',H',J,q⟩:=hs
  exact fin (v:=V.non) (u:=Value.none) J rfl q
 |brk=>
  obtain⟨_,_,_,q⟩:=hs
  exact False.elim q
 |cont=>
  obtain⟨_,_,_,q⟩:=hs
  exact False.elim q
open PySem PySem.Spec PyProof.Rows
section
variable {X:Cx} {x:Str} {p pos:Pos} {e:Expr} {es:List Expr} {t:TA} {id T:String} {r:List V→Hp→VK→Prop}
def tCB (r:List V→Hp→VK→Prop) (t:TA):TE:=fun σ H Q=>t σ H fun vs H1=>r vs H1 Q
theorem pe_callB (hc:CallR X (.builtin id) r) (hg:Gl X x) (hm:X.mg x=none) (hv:bootBuiltins x=some (.builtin id)) (ha:PA X (e::es) t) (hn:x≠"__name__":=by decide) (hdb:(x==("__debug__" : Str))=false:=by decide)
  (he:starEach (e::es) X.env=(false,eval e X.env)::starEach es X.env:=by rfl) (hpl:(backTo pos (starEach es X.env)).any (·.1)=false:=by rfl):PE X (.Call (.Name x p) (e::es) [] pos) (tCB r t):=by
 intro pins s σ H Q I h
 refine wpAny_Call_Name_kw (ld_blt I hg hm hv ?_ hn hdb)
 exact PyProof.Rows.callWith_builtin1 (thn (ha pos pins s σ H _ I h) fun us s1 ⟨vs,H1,I1,r1,q1⟩=>hc pins s1 σ H1 vs us Q I1 r1 q1) he hpl
theorem pe_callTy (hc:CallR X (.type T) r) (hg:Gl X x) (hm:X.mg x=none) (hv:bootBuiltins x=some (.type T)) (ha:PA X (e::es) t) (hn:x≠"__name__":=by decide) (hdb:(x==("__debug__" : Str))=false:=by decide)
  (he:starEach (e::es) X.env=(false,eval e X.env)::starEach es X.env:=by rfl) (hpl:(backTo pos (starEach es X.env)).any (·.1)=false:=by rfl):PE X (.Call (.Name x p) (e::es) [] pos) (tCB r t):=by
 intro pins s σ H Q I h
 refine wpAny_Call_Name_kw (ld_blt I hg hm hv ?_ hn hdb)
 exact PyProof.Rows.callWith_type1 (thn (ha pos pins s σ H _ I h) fun us s1 ⟨vs,H1,I1,r1,q1⟩=>hc pins s1 σ H1 vs us Q I1 r1 q1) he hpl
end
end L2
namespace HT
open PySem PyProof.Rows
section
variable {prog:Program} {w:World} {A:Around} {E:Value→Shared→Prop} {s:Shared}
def sIx (n d:Nat):Option Int→Nat
 |none=>d
 |some v=>if v<0 then(v+(n:Int)).toNat else min v.toNat n
theorem sIx_none (n d:Nat):sIx n d none=d:=rfl
theorem sIx_nat (n d k:Nat):sIx n d (some (k:Int))=min k n:=by
 show(if(k:Int)<0 then((k:Int)+(n:Int)).toNat else min (k:Int).toNat n)=min k n
 rw[if_neg (by omega),Int.toNat_natCast]
theorem sIx_le (n d:Nat) (hd:d≤n) (o:Option Int):sIx n d o≤n:=by
 cases o with
 |none=>exact hd
 |some v=>
  show(if v<0 then(v+(n:Int)).toNat else min v.toNat n)≤n
  by_cases hv:v<0
  ·rw[if_pos hv];omega
  ·rw[if_neg hv];exact Nat.min_le_right _ _
theorem clip_eq (v:Int) (n d:Nat):(if v<0 then max (v+(n:Int)) 0 else min v (n:Int))=((sIx n d (some v):Nat):Int):=by
 show(if v<0 then max (v+(n:Int)) 0 else min v (n:Int))=(((if v<0 then(v+(n:Int)).toNat else min v.toNat n):Nat):Int)
 by_cases hv:v<0
 ·simp only[if_pos hv];omega
 ·simp only[if_neg hv];omega
theorem adjust_gen (lo hi:Option Int) (n:Nat):Builtin.Slice.sliceAdjust lo hi 1 (n:Int)=(((sIx n 0 lo:Nat):Int),((sIx n n hi:Nat):Int)):=by
 have h1:¬((1:Int)<0):=by omega
 unfold Builtin.Slice.sliceAdjust
 simp only[h1,if_false]
 refine Prod.ext ?_ ?_
 ·cases lo with
  |none=>rfl
  |some v=>exact clip_eq v n 0
 ·cases hi with
  |none=>rfl
  |some v=>exact clip_eq v n n
theorem places_gen (i j:Nat):Builtin.Slice.slicePlaces (i:Int) (j:Int) 1=j-i:=by
 unfold Builtin.Slice.slicePlaces
 have h1:(1:Int)>0:=by omega
 simp only[h1,if_true,Int.ediv_one]
 split<;>omega
theorem slicePart_ {v:Value} {o:Option Int} {Q:Option Int→Shared→Prop} (p:IsPart v o) (h:Q o s):wpAny (model prog w) A (Builtin.Slice.slicePartIndex v) Q E s:=by
 cases p with
 |none=>exact slicePart_none h
 |int i t=>exact slicePart_int h
theorem sliceApplied_gen {sl:Addr} {vl vu:Value} {lo hi:Option Int} {n:Nat} {Q:Int×Int×Nat→Shared→Prop} (hs:s.heap.IsSliceOf sl vl vu .none) (pl:IsPart vl lo) (pu:IsPart vu hi)
  (h:Q (((sIx n 0 lo:Nat):Int),1,sIx n n hi-sIx n 0 lo) s):wpAny (model prog w) A (Builtin.Slice.sliceApplied (.ref sl) (pure (n:Int))) Q E s:=by
 obtain⟨os,hos,hcs,hds⟩:=id hs
 unfold Builtin.Slice.sliceApplied Builtin.Slice.sliceFields
 refine wpAny_bind (wpAny_bind (wpAny_field hos hds (x:=vl) rfl (wpAny_bind (wpAny_field hos hds (x:=vu) rfl (wpAny_bind (wpAny_field hos hds (x:=.none) rfl (wpAny_pure ?_)))))))
 refine wpAny_bind (slicePart_none ?_)
 show wpAny _ _ (if((1:Int)==0)=true then _ else _) _ _ s
 rw[if_neg (by decide)]
 refine wpAny_bind (slicePart_ pl (wpAny_bind (slicePart_ pu (wpAny_bind (wpAny_pure ?_)))))
 show wpAny _ _ (match Builtin.Slice.sliceAdjust lo hi 1 (n:Int)with|(lo,hi)=>pure (lo,(1:Int),Builtin.Slice.slicePlaces lo hi 1)) _ _ s
 rw[adjust_gen lo hi n]
 show wpAny _ _ (pure (((sIx n 0 lo:Nat):Int),(1:Int),Builtin.Slice.slicePlaces ((sIx n 0 lo:Nat):Int) ((sIx n n hi:Nat):Int) 1)) _ _ s
 rw[places_gen]
 exact wpAny_pure h
theorem pick_gen (xs:Array Value) (i k:Nat):((List.range k).filterMap fun(m:Nat)=>xs[((i:Int)+(m:Int)*1).toNat]?).toArray=((xs.toList.drop i).take k).toArray:=by
 have e:(fun(m:Nat)=>xs[((i:Int)+(m:Int)*1).toNat]?)=fun m=>xs[i+m]?:=by
  funext m
  have:((i:Int)+(m:Int)*1).toNat=i+m:=by omega
  rw[this]
 rw[e]
 have:=pick_run xs i k
 rw[List.filterMap_map]at this
 have e2:((fun x=>xs[x]?) ∘ fun x=>i+x)=fun m=>xs[i+m]?:=rfl
 rw[e2]at this
 rw[this]
theorem getItem_tuple_cut {t sl:Addr} {items:Array Value} {vl vu:Value} {lo hi:Option Int} {Q:Value→Shared→Prop} (ht:IsTup s.heap t items) (hs:s.heap.IsSliceOf sl vl vu .none) (pl:IsPart vl lo) (pu:IsPart vu hi)
  (hw:¬(sIx items.size 0 lo=0∧sIx items.size items.size hi=items.size))
  (h:Q (.ref s.heap.objs.size) {s with heap:=s.heap.push {cls:=.type "tuple",data:=.seq ((items.toList.drop (sIx items.size 0 lo)).take (sIx items.size items.size hi-sIx items.size 0 lo)).toArray}})
  (hsz:items.size≤sizeLine):wpAny (model prog w) A (getItem (.ref t) (.ref sl)) Q E s:=by
 have htake:sizeOk (.seq ((items.toList.drop (sIx items.size 0 lo)).take (sIx items.size items.size hi-sIx items.size 0 lo)).toArray):=by
  show((items.toList.drop (sIx items.size 0 lo)).take (sIx items.size items.size hi-sIx items.size 0 lo)).toArray.size≤sizeLine
  rw[List.size_toArray,List.length_take,List.length_drop,Array.length_toList]
  omega
 have hj:sIx items.size items.size hi≤items.size:=sIx_le _ _ (Nat.le_refl _) hi
 obtain⟨os,hos,hcs,hds⟩:=id hs
 have hTs:s.TypeIs (.ref sl) "slice":=⟨os,hos,hcs⟩
 unfold getItem
 try with_reducible refine wpAny_holding ?_
 first|refine wpAny_bind (wpAny_pure ?_)|skip
 refine wpAny_bind (wpAny_sequenceKey ht.typeIs (by decide) ?_)
 refine wpAny_bind (wpAny_callSpecial?_slot (name:=Str.ofString "__getitem__") ht.typeIs PyProof.Rows.slot_tuple_getitem
  (wpAny_call_entry PyProof.Rows.slot_tuple_getitem ht.typeIs entry_tuple_getitem ?_ (args_tuple_getitem _ _)))
 show wpAny _ _ (Builtin.Tuple.tupleItemsOf (.ref t) >>= _) _ _ s
 refine wpAny_bind (tupleItemsOf_ ht ?_)
 refine wpAny_bind (wpAny_typeOf hTs ?_)
 rw[if_pos (by decide)]
 refine wpAny_bind (sliceApplied_gen hs pl pu ?_)
 have hno:¬((((sIx items.size 0 lo:Nat):Int)==0&&(1:Int)==1&&(sIx items.size items.size hi-sIx items.size 0 lo)==items.size)=true):=by
  intro q
  rw[Bool.and_eq_true,Bool.and_eq_true]at q
  have q1:((sIx items.size 0 lo:Nat):Int)=0:=eq_of_beq q.1.1
  have q2:sIx items.size items.size hi-sIx items.size 0 lo=items.size:=eq_of_beq q.2
  exact hw ⟨by omega,by omega⟩
 show wpAny _ _ (if(((sIx items.size 0 lo:Nat):Int)==0&&(1:Int)==1&&(sIx items.size items.size hi-sIx items.size 0 lo)==items.size)=true then _ else _) _ _ s
 rw[if_neg hno,pick_gen]
 first
  |exact wpAny_bind (m:=Builtin.Tuple.tupleExact _) (wpAny_newObj_type (wpAny_pure ⟨_,rfl,wpAny_pure h⟩) htake)
  |exact wpAny_bind (m:=Builtin.Tuple.tupleExact _) (wpAny_newObj_type (wpAny_bind (wpAny_pure (wpAny_pure ⟨_,rfl,wpAny_pure h⟩))) htake)
  |exact wpAny_bind (wpAny_bind (m:=Builtin.Tuple.tupleExact _) (wpAny_newObj_type (wpAny_pure (wpAny_pure ⟨_,rfl,wpAny_pure h⟩)) htake))
  |exact wpAny_bind (wpAny_bind (m:=Builtin.Tuple.tupleExact _) (wpAny_newObj_type (wpAny_pure ⟨_,rfl,wpAny_pure h⟩) htake))
end
end HT
namespace L2
open PySem PySem.Spec PyProof.Rows
abbrev TO:=St→Hp→(Option Int→Hp→Prop)→Prop
def PO (X:Cx) (e:Option Expr) (t:TO):Prop:=
 ∀(pins:List (Addr×Obj)) (s:Shared) (σ:St) (H:Hp) (Q:Option Int→Hp→Prop),Inv X pins σ H s→t σ H Q→
  wpAny (model X.prog X.w) X.A (evalPart e X.env) (fun u s'=>∃o H',Inv X pins σ H' s'∧IsPart u o∧Q o H') X.xe s
def tNoPart:TO:=fun _ H Q=>Q none H
def tPart (t:TE):TO:=fun σ H Q=>t σ H fun x H1=>∃i,x=.int i∧Q (some i) H1
section
variable {X:Cx} {e:Expr} {te:TE} {lo hi:Option Expr} {tl th:TO} {pos p2:Pos}
theorem po_none:PO X none tNoPart:=by
 intro pins s σ H Q I h
 rw[evalPart_none]
 exact wpAny_pure ⟨none,H,I,.none,h⟩
theorem po_some (h:PE X e te):PO X (some e) (tPart te):=by
 intro pins s σ H Q I hw
 rw[evalPart_some]
 refine thn (h pins s σ H _ I hw) fun u s1 ⟨x,H1,I1,r1,q1⟩=>?_
 obtain⟨i,rfl,q⟩:=q1
 obtain⟨t,rfl⟩:=r1
 exact⟨some i,H1,I1,.int i t,q⟩
def SlR (X:Cx) (r:V→Option Int→Option Int→Hp→VK→Prop):Prop:=
 ∀(pins:List (Addr×Obj)) (s:Shared) (σ:St) (H:Hp) (x:V) (v vl vu:Value) (lo hi:Option Int) (sl:Addr) (Q:VK),Inv X pins σ H s→RelV x v→s.heap.IsSliceOf sl vl vu .none→IsPart vl lo→IsPart vu hi→r x lo hi H Q→
  ∃T id,typeLookup (.type T) "__getitem__"=pure (some (.builtin id))∧s.TypeIs v T∧wpAny (model X.prog X.w) X.A (getItem v (.ref sl)) (EP X pins σ Q) X.xe s
theorem SlR.or {r r':V→Option Int→Option Int→Hp→VK→Prop} (h:SlR X r) (h':SlR X r'):SlR X (fun x lo hi H Q=>r x lo hi H Q∨r' x lo hi H Q):=by
 intro pins s σ H x v vl vu lo hi sl Q I rx hs pl pu q
 rcases q with q|q
 ·exact h pins s σ H x v vl vu lo hi sl Q I rx hs pl pu q
 ·exact h' pins s σ H x v vl vu lo hi sl Q I rx hs pl pu q
def tSl (r:V→Option Int→Option Int→Hp→VK→Prop) (te:TE) (tl th:TO):TE:=fun σ H Q=>te σ H fun x H1=>tl σ H1 fun l H2=>th σ H2 fun u H3=>r x l u H3 Q
theorem pe_slice {r:V→Option Int→Option Int→Hp→VK→Prop} (hr:SlR X r) (he:PE X e te) (hl:PO X lo tl) (hu:PO X hi th):PE X (.Subscript e (.Slice lo hi none p2) pos) (tSl r te tl th):=by
 intro pins s σ H Q I h
 refine Subscript_ (thn (he pins s σ H _ I h) fun v s1 ⟨x,H1,I1,r1,q1⟩=>?_)
 refine wpAny_Slice (thn (hl pins s1 σ H1 _ I1 q1) fun vl s2 ⟨l,H2,I2,pl,q2⟩=>thn (hu pins s2 σ H2 _ I2 q2) fun vu s3 ⟨u,H3,I3,pu,q3⟩=>?_)
 rw[evalPart_none]
 refine wpAny_pure ?_
 have I4:Inv X pins σ H3 {s3 with heap:=s3.heap.push {cls:=.type "slice",data:=.fields #[vl,vu,.none]}}:=I3.kept (t':=s3.toks) fun b ob q=>Heap.get?_push_of_some _ q
 obtain⟨T,id,hT,ht,hg⟩:=hr pins {s3 with heap:=s3.heap.push {cls:=.type "slice",data:=.fields #[vl,vu,.none]}} σ H3 x v vl vu l u s3.heap.objs.size Q I4 r1 (Heap.IsSliceOf.new ..) pl pu q3
 show wpAny (model X.prog X.w) X.A (subscriptTail e (.Slice lo hi none p2) v (.ref s3.heap.objs.size)) (EP X pins σ Q) X.xe {s3 with heap:=s3.heap.push {cls:=.type "slice",data:=.fields #[vl,vu,.none]}}
 exact tail_any (ops:=[.ref s3.heap.objs.size,v]) ht hT hg (by with_unfolding_all rfl)
def cutV (xs:List V) (lo hi:Option Int):List V:=(xs.drop (HT.sIx xs.length 0 lo)).take (HT.sIx xs.length xs.length hi-HT.sIx xs.length 0 lo)
theorem cutV_length (xs:List V) (lo hi:Option Int):(cutV xs lo hi).length≤xs.length:=by
 unfold cutV
 rw[List.length_take,List.length_drop]
 omega
def rSlT (K:PySem.W.Frag):V→Option Int→Option Int→Hp→VK→Prop:=fun x lo hi H Q=>∃a xs,x=.ref a∧SqT K H a xs∧
 ¬(HT.sIx xs.length 0 lo=0∧HT.sIx xs.length xs.length hi=xs.length)∧∀p,H p=none→Q (.ref p) (upd H p (.tup (cutV xs lo hi)))
theorem sl_tup:SlR X (rSlT X.K):=by
 intro pins s σ H x v vl vu lo hi sl Q I rx hs pl pu h
 obtain⟨a,xs,rfl,hx,hw,q⟩:=h
 cases rx
 obtain⟨its,r,ht,hz⟩:=I.tuple hx
 have hlen:its.toArray.size=xs.length:=by rw[List.size_toArray];exact r.length.symm
 refine⟨"tuple",_,PyProof.Rows.slot_tuple_getitem.lookup,ht.typeIs,?_⟩
 refine HT.getItem_tuple_cut ht hs pl pu (by rw[hlen];exact hw) ?_ (by rw[hlen];exact hz)
 rw[hlen]
 refine⟨.ref s.heap.objs.size,_,I.laid (t':=s.toks) (o:=.tup (cutV xs lo hi)) (fun b ob q=>Heap.get?_push_of_some _ q) (Nat.le_refl _) ?_,rfl,q _ (I.hok.fresh (Nat.le_refl _))⟩
 exact⟨Nat.le_trans (cutV_length xs lo hi) hz,_,(r.drop (HT.sIx xs.length 0 lo)).take (HT.sIx xs.length xs.length hi-HT.sIx xs.length 0 lo),IsTup.new _ _⟩
theorem Vals.nil_iff {xs:List V} {us:List Value} (r:Vals xs us):us=[]↔xs=[]:=by
 cases r with
 |nil=>simp
 |cons _ _=>simp
end
open PySem PySem.Spec PyProof.Rows
def ixN (n:Nat) (i:Int):Option Nat:=if 0≤i then(if i<n then some i.toNat else none)else if -(n:Int)≤i then some (i+n).toNat else none
def atI {α:Type} (xs:List α) (i:Int):Option α:=(ixN xs.length i).bind fun j=>xs[j]?
theorem ixN_seq {n:Nat} {i:Int} {j:Nat} (h:ixN n i=some j):seqIndex? i n=some j∧j<n∧-(n:Int)≤i∧i<n:=by
 unfold ixN at h
 by_cases h0:0≤i
 ·rw[if_pos h0]at h
  by_cases h1:i<n
  ·rw[if_pos h1]at h
   have e:i.toNat=j:=Option.some.inj h
   exact⟨by rw[seqIndex_of h0 h1,e],by omega,by omega,h1⟩
  ·rw[if_neg h1]at h;cases h
 ·rw[if_neg h0]at h
  by_cases h1: -(n:Int)≤i
  ·rw[if_pos h1]at h
   have e:(i+n).toNat=j:=Option.some.inj h
   exact⟨by rw[seqIndex_neg (by omega) h1,e],by omega,h1,by omega⟩
  ·rw[if_neg h1]at h;cases h
theorem atI_get {α:Type} {xs:List α} {i:Int} {v:α} (h:atI xs i=some v):∃j,seqIndex? i xs.length=some j∧xs[j]?=some v∧j<xs.length∧-(xs.length:Int)≤i∧i<xs.length:=by
 unfold atI at h
 cases e:ixN xs.length i with
 |none=>rw[e]at h;cases h
 |some j=>
  rw[e]at h
  obtain⟨h1,h2,h3,h4⟩:=ixN_seq e
  exact⟨j,h1,h,h2,h3,h4⟩
def PlainIx (b:Expr):Prop:=∀o i,subscripted b false o i=operate [o,i] (getItem o i)
def IxR (X:Cx) (r:R2):Prop:=
 ∀(value slice:Expr) (pins:List (Addr×Obj)) (s:Shared) (σ:St) (H:Hp) (x y:V) (v u:Value) (Q:VK),Inv X pins σ H s→RelV x v→RelV y u→r x y H Q→
  subscripted slice false v u=operate [v,u] (getItem v u)→wpAny (model X.prog X.w) X.A (subscriptTail value slice v u) (EP X pins σ Q) X.xe s
def MtR (X:Cx) (id:String) (r:V→List V→Hp→VK→Prop):Prop:=
 ∀(pins:List (Addr×Obj)) (s:Shared) (σ:St) (H:Hp) (x:V) (xs:List V) (v:Value) (us:List Value) (Q:VK),Inv X pins σ H s→RelV x v→Vals xs us→r x xs H Q→
  wpAny (model X.prog X.w) X.A (call (.builtin id) (v::us)) (EP X pins σ Q) X.xe s
section
variable {X:Cx} {a b:Expr} {ta tb:TE} {pos:Pos}
theorem IxR.or {r r':R2} (h:IxR X r) (h':IxR X r'):IxR X (fun x y H Q=>r x y H Q∨r' x y H Q):=by
 intro value slice pins s σ H x y v u Q I rx ry q hs
 rcases q with q|q
 ·exact h value slice pins s σ H x y v u Q I rx ry q hs
 ·exact h' value slice pins s σ H x y v u Q I rx ry q hs
theorem pe_ix {r:R2} (hr:IxR X r) (ha:PE X a ta) (hb:PE X b tb) (hs:PlainIx b):PE X (.Subscript a b pos) (tOp r ta tb):=by
 intro pins s σ H Q I h
 exact Subscript_ (binT ha hb I h fun v u s2 x y H2 I2 rx ry q=>hr a b pins s2 σ H2 x y v u Q I2 rx ry q (hs _ _))
def rIxL (K:PySem.W.Frag):R2:=fun x y H Q=>∃p xs i v,x=.ref p∧y=.int i∧SqL K H p xs∧atI xs i=some v∧Q v H
def rIxT (K:PySem.W.Frag):R2:=fun x y H Q=>∃p xs i v,x=.ref p∧y=.int i∧SqT K H p xs∧atI xs i=some v∧Q v H
theorem ix_list:IxR X (rIxL X.K):=by
 intro value slice pins s σ H x y v u Q I rx ry h hs
 obtain⟨p,xs,i,z,rfl,rfl,hq,he,q⟩:=h
 cases rx
 obtain⟨t,rfl⟩:=ry
 obtain⟨its,r,pl,hz⟩:=I.list hq
 obtain⟨j,h1,h2,h3,h4,h5⟩:=atI_get he
 obtain⟨w,ew,rw'⟩:=r.get h2
 have hl:=r.length
 have hn:=line63
 have fin:EP X pins σ Q w s:=⟨z,H,I,rw',q⟩
 by_cases h0:0≤i
 ·have hj:i.toNat=j:=by
   rw[seqIndex_of h0 h5]at h1
   exact Option.some.inj h1
  exact item_listR pl.isList h0 (by omega) (by rw[hj];simpa using ew) fin hs
 ·have hj:(i+(its.toArray.size:Int)).toNat=j:=by
   rw[seqIndex_neg (by omega) h4]at h1
   rw[List.size_toArray,← hl]
   exact Option.some.inj h1
  exact subscriptTail_builtinR (x:=w) pl.isList.typeIs slot_list_getitem.lookup
   (wpAny_getItem_list_neg (Q:=fun r s'=>r=w∧EP X pins σ Q r s') pl.isList (by omega) (by rw[List.size_toArray]<;>omega) (by omega) (by rw[hj];simpa using ew) ⟨rfl,fin⟩) hs
theorem ix_tup:IxR X (rIxT X.K):=by
 intro value slice pins s σ H x y v u Q I rx ry h hs
 obtain⟨p,xs,i,z,rfl,rfl,hq,he,q⟩:=h
 cases rx
 obtain⟨t,rfl⟩:=ry
 obtain⟨its,r,pl,hz⟩:=I.tuple hq
 obtain⟨j,h1,h2,h3,h4,h5⟩:=atI_get he
 obtain⟨w,ew,rw'⟩:=r.get h2
 have hl:=r.length
 have hn:=line63
 have fin:EP X pins σ Q w s:=⟨z,H,I,rw',q⟩
 exact subscriptTail_builtinR (x:=w) pl.typeIs slot_tuple_getitem.lookup
  (getItem_tuple (j:=j) (Q:=fun r s'=>r=w∧EP X pins σ Q r s') pl (by omega) (by omega) (by rw[List.size_toArray,← hl];exact h1) (by simpa using ew) ⟨rfl,fin⟩) hs
theorem slice_bounds (lo hi:Option Int) (n:Nat):(sliceBounds lo hi none n).1=((HT.sIx n 0 lo:Nat):Int)∧(sliceBounds lo hi none n).2.1=((HT.sIx n n hi:Nat):Int)∧(sliceBounds lo hi none n).2.2=1:=by
 refine⟨?_,?_,rfl⟩
 ·cases lo with
  |none=>simp[sliceBounds,HT.sIx]
  |some i=>
   simp only[sliceBounds,HT.sIx,Option.getD_none,show(1:Int)>0 by decide,if_true]
   by_cases h:i<0
   ·simp only[h,if_true]<;>omega
   ·simp only[h,if_false]<;>omega
 ·cases hi with
  |none=>simp[sliceBounds,HT.sIx]
  |some i=>
   simp only[sliceBounds,HT.sIx,Option.getD_none,show(1:Int)>0 by decide,if_true]
   by_cases h:i<0
   ·simp only[h,if_true]<;>omega
   ·simp only[h,if_false]<;>omega
theorem slicePick_cut (its:List Value) (lo hi:Option Int):slicePick its.toArray lo hi none=((its.drop (HT.sIx its.length 0 lo)).take (HT.sIx its.length its.length hi-HT.sIx its.length 0 lo)).toArray:=by
 obtain⟨h1,h2,h3⟩:=slice_bounds lo hi its.toArray.size
 unfold slicePick
 rw[h1,h2,h3]
 simp only[sliceRange_one,pick_run,List.size_toArray]<;>rfl
def rSlL (K:PySem.W.Frag):V→Option Int→Option Int→Hp→VK→Prop:=fun x lo hi H Q=>∃a xs,x=.ref a∧SqL K H a xs∧∀p,H p=none→Q (.ref p) (upd H p (.lst (cutV xs lo hi)))
theorem sl_list:SlR X (rSlL X.K):=by
 intro pins s σ H x v vl vu lo hi sl Q I rx hs pl pu h
 obtain⟨a,xs,rfl,hx,q⟩:=h
 cases rx
 obtain⟨its,r,ht,hz⟩:=I.list hx
 have hlen:=r.length
 refine⟨"list",_,slot_list_getitem.lookup,ht.isList.typeIs,?_⟩
 refine wpAny_getItem_list_slice ht.isList hs pl pu .none (by simp) ?_ (by rw[List.size_toArray]<;>omega)
 rw[slicePick_cut,← hlen]
 refine⟨.ref s.heap.objs.size,_,I.laid (t':=s.toks) (o:=.lst (cutV xs lo hi)) (fun b ob q=>Heap.get?_push_of_some _ q) (Nat.le_refl _) ?_,rfl,q _ (I.hok.fresh (Nat.le_refl _))⟩
 exact⟨Nat.le_trans (cutV_length xs lo hi) hz,_,0,(r.drop (HT.sIx xs.length 0 lo)).take (HT.sIx xs.length xs.length hi-HT.sIx xs.length 0 lo),Heap.get?_push_size _ rfl⟩
def flatV:V→Bool
 | .non=>true
 | .bl _=>true
 | .int _=>true
 | .str _=>true
 |_=>false
def eqV:V→V→Bool
 | .non,.non=>true
 | .bl a,.bl b=>a==b
 | .bl a,.int b=>(if a then 1 else 0)==b
 | .int a,.bl b=>a==(if b then 1 else 0)
 | .int a,.int b=>a==b
 | .str a,.str b=>a==b
 |_,_=>false
theorem eqAt_V {A:Around} {s:Shared} {y x:V} {u v:Value} (ry:RelV y u) (rx:RelV x v) (fy:flatV y=true) (fx:flatV x=true):SeqAt.EqAt A s u v (eqV y x):=by
 cases y with
 |non=>
  cases ry
  cases x with
  |non=>cases rx;exact SeqAt.EqAt.same _
  |bl b=>cases rx;exact SeqAt.EqAt.none_bool b
  |int b=>obtain⟨t,rfl⟩:=rx;exact SeqAt.EqAt.none_int b t
  |str b=>obtain⟨t,rfl⟩:=rx;exact SeqAt.EqAt.none_str b t
  |_=>exact absurd (show false=true from fx) Bool.false_ne_true
 |bl a=>
  cases ry
  cases x with
  |non=>cases rx;exact SeqAt.EqAt.bool_none a
  |bl b=>cases rx;exact SeqAt.EqAt.bool_bool a b
  |int b=>obtain⟨t,rfl⟩:=rx;exact SeqAt.EqAt.bool_int a b t
  |str b=>obtain⟨t,rfl⟩:=rx;exact SeqAt.EqAt.bool_str a b t
  |_=>exact absurd (show false=true from fx) Bool.false_ne_true
 |int a=>
  obtain⟨t',rfl⟩:=ry
  cases x with
  |non=>cases rx;exact SeqAt.EqAt.int_none a t'
  |bl b=>cases rx;exact SeqAt.EqAt.int_bool a t' b
  |int b=>obtain⟨t,rfl⟩:=rx;exact SeqAt.EqAt.int_int a t' b t
  |str b=>obtain⟨t,rfl⟩:=rx;exact SeqAt.EqAt.int_str a t' b t
  |_=>exact absurd (show false=true from fx) Bool.false_ne_true
 |str a=>
  obtain⟨t',rfl⟩:=ry
  cases x with
  |non=>cases rx;exact SeqAt.EqAt.str_none a t'
  |bl b=>cases rx;exact SeqAt.EqAt.str_bool a t' b
  |int b=>obtain⟨t,rfl⟩:=rx;exact SeqAt.EqAt.str_int a t' b t
  |str b=>obtain⟨t,rfl⟩:=rx;exact SeqAt.EqAt.str_str a t' b t
  |_=>exact absurd (show false=true from fx) Bool.false_ne_true
 |_=>exact absurd (show false=true from fy) Bool.false_ne_true
def eqU (x:V) (u:Value):Bool:=match u with
 | .none=>eqV .non x
 | .bool b=>eqV (.bl b) x
 | .int i _=>eqV (.int i) x
 | .str z _=>eqV (.str z) x
 |_=>false
theorem eqU_of {x y:V} {u:Value} (r:RelV y u) (f:flatV y=true):eqU x u=eqV y x:=by
 cases y with
 |non=>cases r;rfl
 |bl b=>cases r;rfl
 |int i=>obtain⟨t,rfl⟩:=r;rfl
 |str z=>obtain⟨t,rfl⟩:=r;rfl
 |_=>exact absurd (show false=true from f) Bool.false_ne_true
theorem any_eqU {x:V}:∀{xs:List V} {us:List Value},Vals xs us→xs.all flatV=true→us.any (eqU x)=xs.any fun y=>eqV y x
 |_,_,.nil,_=>rfl
 |y::xs,u::us,.cons r t,f=>by
  rw[List.all_cons,Bool.and_eq_true]at f
  rw[List.any_cons,List.any_cons,eqU_of r f.1,any_eqU t f.2]
theorem mem_eqAt {A:Around} {s:Shared} {x:V} {v:Value} (rx:RelV x v) (fx:flatV x=true):∀{xs:List V} {us:List Value},Vals xs us→xs.all flatV=true→∀u∈us,SeqAt.EqAt A s u v (eqU x u)
 |_,_,.nil,_=>fun u hu=>by cases hu
 |y::xs,u::us,.cons r t,f=>fun u' hu=>by
  rw[List.all_cons,Bool.and_eq_true]at f
  rcases List.mem_cons.mp hu with rfl|hu
  ·rw[eqU_of r f.1];exact eqAt_V r rx f.1 fx
  ·exact mem_eqAt rx fx t f.2 u' hu
def inV (x:V) (xs:List V):Bool:=xs.any fun y=>eqV y x
def rIn (K:PySem.W.Frag) (neg:Bool):R2:=fun x y H Q=>∃p xs,y=.ref p∧(SqL K H p xs∨SqT K H p xs)∧flatV x=true∧xs.all flatV=true∧Q (.bl (if neg then !inV x xs else inV x xs)) H
theorem op_in_seq:OpR X (compareOp .In) (rIn X.K false):=by
 intro pins s σ H x y v u Q I rx ry h
 obtain⟨p,xs,rfl,hq,fx,fs,q⟩:=h
 cases ry
 rcases hq with hq|hq
 ·obtain⟨its,r,pl,hz⟩:=I.list hq
  refine SeqAt.in_listAt (eqU x) pl.isList (fun w hw=>mem_eqAt rx fx r fs w (by simpa using hw)) ⟨.bl _,H,I,rfl,?_⟩
  rw[show its.toArray.any (eqU x)=its.any (eqU x) by simp,any_eqU r fs]
  exact q
 ·obtain⟨its,r,pl,hz⟩:=I.tuple hq
  refine SeqAt.in_tupleAt (eqU x) pl (fun w hw=>mem_eqAt rx fx r fs w (by simpa using hw)) ⟨.bl _,H,I,rfl,?_⟩
  rw[show its.toArray.any (eqU x)=its.any (eqU x) by simp,any_eqU r fs]
  exact q
theorem op_notIn_seq:OpR X (compareOp .NotIn) (rIn X.K true):=by
 intro pins s σ H x y v u Q I rx ry h
 obtain⟨p,xs,rfl,hq,fx,fs,q⟩:=h
 cases ry
 rcases hq with hq|hq
 ·obtain⟨its,r,pl,hz⟩:=I.list hq
  refine SeqAt.notIn_listAt (eqU x) pl.isList (fun w hw=>mem_eqAt rx fx r fs w (by simpa using hw)) ⟨.bl _,H,I,rfl,?_⟩
  rw[show its.toArray.any (eqU x)=its.any (eqU x) by simp,any_eqU r fs]
  exact q
 ·obtain⟨its,r,pl,hz⟩:=I.tuple hq
  refine SeqAt.notIn_tupleAt (eqU x) pl (fun w hw=>mem_eqAt rx fx r fs w (by simpa using hw)) ⟨.bl _,H,I,rfl,?_⟩
  rw[show its.toArray.any (eqU x)=its.any (eqU x) by simp,any_eqU r fs]
  exact q
theorem op_notIn_str:OpR X (compareOp .NotIn) (fun x y H Q=>∃i j,x=.str i∧y=.str j∧Q (.bl (!(!(Builtin.Str.occurrences j i 0 j.length 1).isEmpty))) H):=by
 intro pins s σ H x y v u Q I rx ry h
 obtain⟨i,j,rfl,rfl,q⟩:=h
 obtain⟨t,rfl⟩:=rx
 obtain⟨t',rfl⟩:=ry
 exact notIn_str ⟨.bl _,H,I,rfl,q⟩
theorem call_list_of:CallR X (.type "list") (fun xs H Q=>∃p ys,xs=[.ref p]∧(SqL X.K H p ys∨SqT X.K H p ys)∧∀l,H l=none→Q (.ref l) (upd H l (.lst ys))):=by
 intro pins s σ H xs us Q I r h
 obtain⟨p,ys,rfl,hq,q⟩:=h
 obtain⟨u,rfl,rx⟩:=vals1 r
 cases rx
 have fin:∀(its:List Value),Vals ys its→ys.length≤sizeLine→∀(h':Heap) (c':Nat),(∀b o',s.heap.get? b=some o'→h'.get? b=some o')→
   h'.get? s.heap.objs.size=some {cls:=.type "list",dict:=none,data:=.seq its.toArray c',slots:=#[]}→EP X pins σ Q (.ref s.heap.objs.size) {s with heap:=h'}:=fun its r' hz h' c' kp e=>
  ⟨.ref s.heap.objs.size,_,I.laid (t':=s.toks) kp (Nat.le_refl _) (show ObjOk X.prog X.w _ h' _ (.lst ys)from⟨hz,its,c',r',e⟩),rfl,q _ (I.hok.fresh (Nat.le_refl _))⟩
 rcases hq with hq|hq
 ·obtain⟨its,r',pl,hz⟩:=I.list hq
  have hlen:=r'.length
  obtain⟨o,ho,hc,n,hd⟩:=pl.isList
  exact call_list_seq p (.inl rfl) ho hc hd (fun h' c' kp e=>fin its r' hz h' c' kp e) (by simp only[List.size_toArray]<;>omega)
 ·obtain⟨its,r',pl,hz⟩:=I.tuple hq
  have hlen:=r'.length
  obtain⟨o,ho,hc,n,hd⟩:=pl
  exact call_list_seq p (.inr rfl) ho hc hd (fun h' c' kp e=>fin its r' hz h' c' kp e) (by simp only[List.size_toArray]<;>omega)
theorem call_tuple_of:CallR X (.type "tuple") (fun xs H Q=>∃p ys,xs=[.ref p]∧((SqL X.K H p ys∧∀l,H l=none→Q (.ref l) (upd H l (.tup ys)))∨(SqT X.K H p ys∧Q (.ref p) H))):=by
 intro pins s σ H xs us Q I r h
 obtain⟨p,ys,rfl,h⟩:=h
 obtain⟨u,rfl,rx⟩:=vals1 r
 cases rx
 rcases h with⟨hq,q⟩|⟨hq,q⟩
 ·obtain⟨its,r',pl,hz⟩:=I.list hq
  have hlen:=r'.length
  refine call_tuple_list pl.isList (fun h' kp=>?_) (by simp only[List.size_toArray]<;>omega)
  have I1:Inv X pins σ H {s with heap:=h'}:=I.kept (t':=s.toks) kp
  have I2:Inv X pins σ (upd H h'.objs.size (.tup ys)) {s with heap:=h'.push {cls:=.type "tuple",data:=.seq its.toArray}}:=
   I1.laid (t':=s.toks) (fun b o e=>Heap.get?_push_of_some _ e) (Nat.le_refl _) (show ObjOk X.prog X.w _ _ _ (.tup ys)from⟨hz,its,r',IsTup.new _ _⟩)
  exact⟨.ref h'.objs.size,_,I2,rfl,q _ (I1.hok.fresh (Nat.le_refl _))⟩
 ·obtain⟨its,r',pl,hz⟩:=I.tuple hq
  exact call_tuple_same pl ⟨.ref p,H,I,rfl,q⟩
def tyV (K:PySem.W.Frag) (T:String) (x:V) (H:Hp):Prop:=match x with
 | .str _=>T="str"
 | .int _=>T="int"
 | .ref p=>(T="list"∧∃xs,SqL K H p xs)∨(T="tuple"∧∃o,K.lookup p=some o∧o.cls=.type "tuple"∧o.dict=none)∨
   (T="dict"∧((∃kvs,H p=some (.dK kvs))∨∃kvs,H p=some (.dT kvs)))∨(T="set"∧∃S n,H p=some (.set S n))
 |_=>False
theorem tyV_is {pins:List (Addr×Obj)} {σ:St} {H:Hp} {s:Shared} {T:String} {x:V} {v:Value} (I:Inv X pins σ H s) (r:RelV x v) (ty:tyV X.K T x H):
  s.TypeIs v T∧∀a,v=.ref a→∃ob,s.heap.get? a=some ob∧ob.dict=none:=by
 cases x with
 |str z=>
  obtain⟨t,rfl⟩:=r
  cases(show T="str" from ty)
  exact⟨typeIs_str s z t,fun _ e=>nomatch e⟩
 |int i=>
  obtain⟨t,rfl⟩:=r
  cases(show T="int" from ty)
  exact⟨typeIs_int s i t,fun _ e=>nomatch e⟩
 |ref p=>
  cases r
  rcases ty with⟨rfl,xs,hq⟩|⟨rfl,o,hk,hc,hd⟩|⟨rfl,hk⟩|⟨rfl,S,n,hk⟩
  ·obtain⟨its,_,pl,_⟩:=I.list hq
   refine⟨pl.isList.typeIs,fun a e=>?_⟩
   cases e
   obtain⟨o,n,e,c,hd,_⟩:=pl
   exact⟨o,e,hd⟩
  ·refine⟨⟨o,I.kIn p o hk,hc⟩,fun a e=>?_⟩
   cases e
   exact⟨o,I.kIn _ o hk,hd⟩
  ·have z:∃o,s.heap.get? p=some o∧o.ExactDict:=by
    rcases hk with⟨kvs,hk⟩|⟨kvs,hk⟩
    ·obtain⟨_,_,_,_,o,_,_,e,ex,_⟩:=I.hok p _ hk
     exact⟨o,e,ex⟩
    ·obtain⟨_,_,_,_,o,_,_,e,ex,_⟩:=I.hok p _ hk
     exact⟨o,e,ex⟩
   obtain⟨o,e,ex⟩:=z
   refine⟨⟨o,e,ex.1⟩,fun a e2=>?_⟩
   cases e2
   exact⟨o,e,ex.2.1⟩
  ·obtain⟨o,_,_,_,e,ex,_⟩:=I.hok p _ hk
   refine⟨⟨o,e,ex.1⟩,fun a e2=>?_⟩
   cases e2
   exact⟨o,e,ex.2.1⟩
 |_=>exact False.elim ty
def tBM (K:PySem.W.Frag) (T:String) (r:V→List V→Hp→VK→Prop) (to:TE) (t:TA):TE:=fun σ H Q=>to σ H fun x H1=>tyV K T x H1∧t σ H1 fun xs H2=>r x xs H2 Q
variable {o e:Expr} {es:List Expr} {to:TE} {t:TA} {name:Str} {apos cpos:Pos} {T id:String} {r:V→List V→Hp→VK→Prop}
theorem pe_bm (pa:PlainAttrs T) (slot:Slot T name id) (hty:typeOf (.builtin id)=pure (.type "method_descriptor")) (hm:MtR X id r) (ho:PE X o to) (ha:PA X (e::es) t)
  (hbase:attributeBase o name X.env (eval o X.env)=eval o X.env:=by rfl)
  (hfew:((backTo cpos (starEach (e::es) X.env)).all (fun x=>!x.1)&&(backToKw cpos (keywordEach [] X.env)).all (fun x=>x.1.isSome)
   &&decide ((e::es).length+([]:List Keyword).length+(if([]:List Keyword).isEmpty then 0 else 1)<30))=true:=by rfl)
  (hline:(apos.endLine==cpos.line)=true:=by rfl) (hs:starEach (e::es) X.env=(false,eval e X.env)::starEach es X.env:=by rfl) (hplain:(backTo cpos (starEach es X.env)).any (·.1)=false:=by rfl):
  PE X (.Call (.Attribute o name apos) (e::es) [] cpos) (tBM X.K T r to t):=by
 intro pins s σ H Q I h
 refine wpAny_Call_method_late hbase hfew hline rfl (thn (ho pins s σ H _ I h) fun v s1 ⟨x,H1,I1,r1,ty,q1⟩=>?_)
 obtain⟨h1,h2⟩:=tyV_is I1 r1 ty
 refine⟨T,id,pa,slot,hty,h1,h2,?_⟩
 have hA:=ha cpos pins s1 σ H1 _ I1 q1
 rw[hs]at hA ⊢
 refine Calls.callWith_builtin (by show(false || (backTo cpos (starEach es X.env)).any (·.1))=false;rw[hplain]<;>rfl) (Calls.evalArgs_plain ?_)
 exact thn hA fun us s2 ⟨vs,H2,I2,r2,q2⟩=>hm pins s2 σ H2 x vs v us Q I2 r1 r2 q2
end
open PySem PySem.Spec PyProof.Rows
def MtM (X:Cx) (id:String) (r:V→List V→Hp→VK→Prop):Prop:=
 ∀(pins:List (Addr×Obj)) (s:Shared) (σ:St) (H:Hp) (x:V) (xs:List V) (v:Value) (us:List Value) (Q:VK),Inv X pins σ H s→RelV x v→Vals xs us→r x xs H Q→
  wpAny (model X.prog X.w) X.A (call (.builtin id) (v::us)) (EP X pins σ Q) X.xe s
theorem Vals.one:∀{x:V} {us:List Value},Vals [x] us→∃u,us=[u]∧RelV x u
 |_,_,.cons r .nil=>⟨_,rfl,r⟩
theorem Vals.eraseIdx:∀{xs:List V} {us:List Value} (i:Nat),Vals xs us→Vals (xs.eraseIdx i) (us.eraseIdx i)
 |_,_,_,.nil=>.nil
 |_,_,0,.cons _ t=>t
 |_,_,i+1,.cons r t=>.cons r (Vals.eraseIdx i t)
theorem len_erase {α:Type}:∀(l:List α) (i:Nat),(l.eraseIdx i).length≤l.length
 |[],_=>Nat.le_refl _
 |_::_,0=>Nat.le_succ _
 |_::r,i+1=>Nat.succ_le_succ (len_erase r i)
section
variable {X:Cx} {pins:List (Addr×Obj)} {σ:St} {H:Hp} {s:Shared} {l b:Addr} {xs ys zs:List V}
theorem Inv.lset {its its':List Value} {n:Nat} {f:Array Value→Array Value} {t':Nat} (I:Inv X pins σ H s) (hH:H l=some (.lst xs))
  (e:s.heap.get? l=some {cls:=.type "list",data:=.seq its.toArray n}) (hf:f its.toArray=its'.toArray) (hv:Vals ys its') (hz:ys.length≤sizeLine):
  Inv X pins σ (upd H l (.lst ys)) {s with heap:=s.heap.update l (Obj.mapSeq f),toks:=t'}:=by
 have q:=PySem.IsL.update e f
 rw[hf]at q
 refine I.write (x:=l) (e:=l) (by rw[hH];exact trivial) (.inl rfl) (fun b' u hb hu=>(Heap.get?_update_other s.heap (Obj.mapSeq f) (Ne.symm hb)).trans hu) ⟨_,q⟩ ?_
 exact⟨hz,its',_,hv,q⟩
theorem Inv.lnew {its:List Value} {t':Nat} (I:Inv X pins σ H s) (hv:Vals ys its) (hz:ys.length≤sizeLine):
  Inv X pins σ (upd H s.heap.objs.size (.lst ys)) {s with heap:=s.heap.push {cls:=.type "list",data:=.seq its.toArray},toks:=t'}:=
 I.laid (fun _ _ q=>Heap.get?_push_of_some _ q) (Nat.le_refl _) ⟨hz,its,0,hv,Heap.get?_push_size _ rfl⟩
theorem Inv.fresh (I:Inv X pins σ H s):H s.heap.objs.size=none:=I.hok.fresh (Nat.le_refl _)
theorem Inv.lstM (I:Inv X pins σ H s) (hH:H l=some (.lst xs)):xs.length≤sizeLine∧∃(its:List Value) (n:Nat),Vals xs its∧xs.length=its.length∧s.heap.get? l=some {cls:=.type "list",data:=.seq its.toArray n}:=by
 obtain⟨z,its,n,r,e⟩:=I.hok l _ hH
 exact⟨z,its,n,r,r.length,e⟩
end
section
variable {X:Cx}
def rAppend:V→List V→Hp→VK→Prop:=fun x vs H Q=>∃l xs y,x=.ref l∧vs=[y]∧H l=some (.lst xs)∧xs.length<sizeLine∧Q .non (upd H l (.lst (xs++[y])))
theorem mt_append:MtM X "list.append" rAppend:=by
 intro pins s σ H x vs v us Q I rx rv h
 obtain⟨l,xs,y,rfl,rfl,hH,hz,q⟩:=h
 cases rx
 obtain⟨u,rfl,ru⟩:=rv.one
 obtain⟨z,its,n,r,hl,e⟩:=I.lstM hH
 refine call_meets F.slot_list_append ⟨_,e,rfl⟩ F.entry_list_append (F.args_list_append_2 _ _) (PySem.list_append l its.toArray n u (by rw[List.size_toArray];omega)) ⟨e,?_⟩
 refine⟨.non,_,I.lset (its':=its++[u]) hH e (by simp) (r.append (.cons ru .nil)) ?_,rfl,q⟩
 rw[List.length_append,List.length_singleton]
 omega
def rPopAt:V→List V→Hp→VK→Prop:=fun x vs H Q=>∃l xs i k y,x=.ref l∧vs=[.int i]∧H l=some (.lst xs)∧-(2^63)≤i∧i<2^63∧seqIndex? i xs.length=some k∧xs[k]?=some y∧Q y (upd H l (.lst (xs.eraseIdx k)))
theorem mt_popAt:MtM X "list.pop" rPopAt:=by
 intro pins s σ H x vs v us Q I rx rv h
 obtain⟨l,xs,i,k,y,rfl,rfl,hH,h1,h2,hk,hy,q⟩:=h
 cases rx
 obtain⟨u,rfl,ru⟩:=rv.one
 obtain⟨t,rfl⟩:=ru
 obtain⟨z,its,n,r,hl,e⟩:=I.lstM hH
 obtain⟨w,hw,rw'⟩:=r.get hy
 refine call_meets F.slot_list_pop ⟨_,e,rfl⟩ F.entry_list_pop (F.args_list_pop_2 _ _)
  (MeetsSeq.list_pop_at l its.toArray n i t k w (fitsIndex_both h1 h2) (by rw[List.size_toArray,← hl];exact hk) (by rw[← Array.getElem?_toList];exact hw) (by rw[List.size_toArray];omega)) ⟨e,?_⟩
 refine⟨y,_,I.lset (its':=its.eraseIdx k) hH e ?_ (r.eraseIdx k) ?_,rw',q⟩
 ·show its.toArray.eraseIdxIfInBounds k=(its.eraseIdx k).toArray
  rw[List.eraseIdxIfInBounds_toArray]
 ·have:=len_erase xs k
  omega
end
end L2
namespace Att
open PySem PySem.W PySem.Calls PyProof.Rows
theorem ints_of_wellAll {P:Params} {h:Heap}:∀(ns:List Int) (vs:List Value),WellAll P h vs (ns.map WData.int)→IntsAre vs ns:=by
 intro ns
 induction ns with
 |nil=>
  intro vs w
  rw[List.map_nil]at w
  cases w
  exact .nil
 |cons n ns ih=>
  intro vs w
  rw[List.map_cons]at w
  cases w with
  |cons a b=>
   cases a
   exact .cons _ _ (ih _ b)
theorem script_of {l:OpenLaw} {n:Nat} (hn:l.most=some n) {P:Params} {h:Heap} {args:List WData} {vals:List Value}
  (hpre:l.row.toRowW.claim.pre args=true) (hwl:WellAll P h vals args):
  ∃a vs ns,vals=[Value.ref a]∧args=[WData.list (ns.map WData.int)]∧h.get? a=some {cls:=.type "list",data:=.seq vs.toArray}∧IntsAre vs ns∧ns.length≤n:=by
 have hsh:WShape.hasAll [] args [.list .int]=true:=(pre_splitW hpre).1
 have hc:l.pre.holds [] {args:=args}=true:=(pre_splitW hpre).2
 obtain⟨d,r,rfl,h1,h2⟩:=hasAllW_cons hsh
 obtain rfl:=hasAllW_nil h2
 obtain⟨xs,rfl,h3⟩:=hasW_list h1
 obtain⟨ns,rfl⟩:=items_int h3
 have hlen:ns.length≤n:=by
  unfold OpenLaw.pre at hc
  have h4:(WTm.not (.lt (.lit (.int (n:Int))) (.len (.arg 0)))).holds [] {args:=[.list (ns.map .int)]}=true:=by
   have h4:=(holds_andW hc).1
   rw[hn]at h4
   exact h4
  have h5:=condW_of h4 (w_not (w_lt w_lit (w_len_list (w_arg rfl))))
  rw[List.length_map]at h5
  refine Nat.le_of_not_lt fun q=>?_
  have q':(n:Int)<((ns.length:Nat):Int):=by omega
  first
   |(rw[decide_eq_true q']at h5;exact absurd h5 (by decide))
   |(simp at h5;omega)
 cases hwl with
 |cons w1 w2=>
  cases w2
  cases w1 with
  |list ho hall=>exact⟨_,_,ns,rfl,rfl,ho,ints_of_wellAll ns _ hall,hlen⟩
theorem post_true (l:OpenLaw) (args:List WData):l.row.toRowW.claim.post args (.bool true) args=true:=
 postW_of (r:=l.row.toRowW) (X:=(true==true))
  (show WShape.has [] (.bool true) .bool=true by first|rfl|decide|simp[WShape.has,WShape.arms,WShape.armsAll])
  (show(WTm.eq .res (.lit (.bool true))).value [] {args:=args,res:=some (.bool true),after:=args}=some (.bool (true==true))from w_eq_bool (w_res rfl) w_lit) rfl
theorem attach_call {l:OpenLaw} {n:Nat} {q:Program} {loose:List Str} {XP:(Str→Option Value)→Heap→Prop} {YP:World→Heap→Prop} {d:DefRec}
  (hn:l.most=some n) (hdf:d.params.defaults=[])
  (call:∀(w:World) (s₀ s₁:Shared) (mg mb:Str→Option Value) (fa:Addr) (o:Obj) (pm cd doc:Value) (a:Addr) (vs:List Value) (ns:List Int),
   Ground q loose [] XP w s₀ mg mb s₁.heap→YP w s₁.heap→
   s₁.heap.get? fa=some o→o.data=.func (docDef d.name d.params d.body d.scope pm cd doc)→s₁.heap.CodeRec cd d.name→mg d.name=some (.ref fa)→
   s₁.heap.get? a=some {cls:=.type "list",data:=.seq vs.toArray}→IntsAre vs ns→ns.length≤n→s₁.gens=#[]→
   codeAny (model l.prog w) callerA (.call (.ref fa) ⟨[.ref a],[]⟩) (fun r s'=>r=.ok (.ret (.bool true))∧OldK s₁.heap s'.heap∧s'.os=s₁.os∧AllBare s'.gens) s₁):
  WalkO q loose XP YP l.row.toRowW d [] (fun f vs=>PySem.call f vs):=by
 intro w s₀ s₁ mg mb G Y fa o pm cd doc dV kV ho hd hcd hD hmg hg args vals as hpre hlay hrd hwl hlo
 obtain rfl:dV=.none:=Dflts.none hD hdf
 obtain rfl:kV=.none:=Dflts.noKw hD
 obtain⟨a,vs,ns,rfl,rfl,hobj,hints,hlen⟩:=script_of hn hpre hwl
 refine enter_call (codeAny_mono (call w s₀ s₁ mg mb fa o pm cd doc a vs ns G Y ho (fd_plain hd) hcd hmg hobj hints hlen hg) fun r s' hq=>?_)
 obtain⟨rfl,h2,h3,h4⟩:=hq
 exact⟨.inl ⟨.bool true,.bool true,[],rfl,fun _=>rfl,.bool true,post_true l _,fun _=>⟨List.Pairwise.nil,fun _ hm=>(nomatch hm)⟩⟩,h2,h3,h4⟩
end Att
namespace L2
open PySem PySem.Spec PyProof.Rows
theorem vals_ints:∀{vs:List Value} {ns:List Int},IntsAre vs ns→Vals (ns.map V.int) vs
 |_,_,.nil=>.nil
 |_,_,.cons n t h=>.cons ⟨t,rfl⟩ (vals_ints h)
def Only (H:Hp):Prop:=∀b,H b=none∨∃o xs,H b=some (.frz o (.lst xs))
theorem law_call {P:Program} {w:World} {K:PySem.W.Frag} {mg mb:Str→Option Value} {CX:CXT} {k:Nat} {fa a:Addr} {fd:FuncData} {x:Str} {sp:Sp} {s₁:Shared} {vs:List Value} {ns:List Int}
  (KX:K.In s₁.heap) (hns:s₁.heap.Ns mainGlobals mg) (hb:s₁.heap.Ns builtinsNs mb) (hbb:∀x:Str,x≠"__name__"→mb x=bootBuiltins x) (hlim:s₁.heap.NoLimit) (hg:s₁.gens=#[])
  (ha:s₁.heap.get? a=some {cls:=.type "list",data:=.seq vs.toArray}) (hi:IntsAre vs ns) (hl:ns.length≤sizeLine) (hr:Room k callerA)
  (F:∀base:Heap,K.In base→base.Ns mainGlobals mg→FnOk P w K mg base CX k fa fd [x] sp) (hbind:∀(s:Shared) (u:Value),BindsTo s fd ⟨[u],[]⟩ [(x,u)])
  (hsp:∀H:Hp,Only H→SqL K H a (ns.map V.int)→sp [.ref a] H (fun v _=>v=.bl true) fun _ _ _=>False)
  (hCX:∀H e s',CX [] H s₁ (fun _ _ _=>False) e s'→False):
  codeAny (model P w) callerA (.call (.ref fa) ⟨[.ref a],[]⟩) (fun r s'=>r=.ok (.ret (.bool true))∧OldK s₁.heap s'.heap∧s'.os=s₁.os∧AllBare s'.gens) s₁:=by
 have rv:=vals_ints hi
 have lenV:=hi.length

 have core:∀H:Hp,Only H→SqL K H a (ns.map V.int)→HOk P w H s₁.heap→(∀b,H b≠none→b=a)→(H a≠none→K.lookup a=none)→
   codeAny (model P w) callerA (.call (.ref fa) ⟨[.ref a],[]⟩) (fun r s'=>r=.ok (.ret (.bool true))∧OldK s₁.heap s'.heap∧s'.os=s₁.os∧AllBare s'.gens) s₁:=by
  intro H hO hS hok hA hK
  have base_of:∀{b:Addr} {o:Obj},s₁.heap.get? b=some o→H b=none→(hidT s₁.heap H).get? b=some o:=fun e n=>hidT_get e n
  have noA:∀{b:Addr} {o:Obj} {es:Array DictEntry} {ep:Nat},s₁.heap.get? b=some o→o.data=.dict es ep→H b=none:=fun{b o es ep} e d=>by
   cases q:H b with
   |none=>rfl
   |some u=>
    have e':b=a:=hA b (by rw[q];simp)
    subst e'
    rw[ha]at e;cases e
    have d':Data.seq vs.toArray _=Data.dict es ep:=d
    cases d'
  have nsK:∀{b:Addr} {m:Str→Option Value},s₁.heap.Ns b m→(hidT s₁.heap H).Ns b m:=fun{b m} ⟨o,es,ep,e,d,r⟩=>⟨o,es,ep,base_of e (noA e d),d,r⟩
  have hKb:K.In (hidT s₁.heap H):=fun b o e=>base_of (KX b o e) (by
   cases q:H b with
   |none=>rfl
   |some u=>
    have e':b=a:=hA b (by rw[q];simp)
    subst e'
    rw[hK (by rw[q];simp)]at e;cases e)
  have hM:Mod K mg (hidT s₁.heap H):=⟨hKb,nsK hns,⟨mb,nsK hb,hbb⟩,let ⟨mc,h1,h2⟩:=hlim;⟨mc,nsK h1,h2⟩⟩
  have e0:Env0 P w K mg (hidT s₁.heap H) callerA [] s₁ H:=⟨rfl,hM,fun b o e=>of_hidT e,Nat.le_of_eq (hidT_size _ _),trivial,fun b hb=>absurd (show b∈([]:List Addr)from hb) (by simp),hok,.of_eq hg⟩
  refine codeAny_mono ((F _ hKb (nsK hns)).run callerA [] s₁ H ⟨[.ref a],[]⟩ [.ref a] [.ref a] _ _ hr e0 (hbind s₁ (.ref a)) (.cons rfl .nil) (hsp H hO hS)) fun r s' h=>?_
  cases r with
  |error e=>exact(hCX H e s' h).elim
  |ok fl=>
   cases fl with
   |next=>exact False.elim h
   |brk=>exact False.elim h
   |cont=>exact False.elim h
   |ret u=>
    obtain⟨v,H',os,bare,un,hok',r',q⟩:=h
    have q':v=.bl true:=q
    subst q'
    obtain rfl:u=Value.bool true:=r'
    refine⟨rfl,OldK.of_keep fun b o e=>?_,os,bare⟩
    cases q:H b with
    |none=>exact un.keep b o e q (by intro z;exact absurd (show b∈([]:List Addr)from z) (by simp)) (by simp)
    |some u=>
     rcases hO b with z|⟨ob,xs,z⟩
     ·rw[q]at z;cases z
     ·have z2:=un.frzs b ob _ z
      obtain⟨e1,_⟩:=hok b _ z
      obtain⟨e2,_⟩:=hok' b _ z2
      rw[e]at e1;cases e1
      exact e2
 cases hk:K.lookup a with
 |some o=>

  have e:=KX a o hk
  rw[ha]at e
  cases e
  refine core (fun _=>none) (fun _=>.inl rfl) (.inr ⟨_,vs.toArray,_,hk,rfl,rfl,rfl,by rw[List.size_toArray,lenV];exact hl,by simpa using rv⟩) (fun b u z=>by have z':(none:Option HO)=some u:=z;cases z') (fun b z=>absurd rfl z) fun z=>absurd rfl z
 |none=>
  refine core (fun b=>if b=a then some (.frz {cls:=.type "list",data:=.seq vs.toArray} (.lst (ns.map V.int)))else none) (fun b=>?_) (.inl (.inr ⟨{cls:=.type "list",data:=.seq vs.toArray},if_pos rfl⟩)) (fun b u z=>?_) (fun b z=>?_) fun _=>hk
  ·by_cases hb:b=a
   ·exact .inr ⟨_,_,if_pos hb⟩
   ·exact .inl (if_neg hb)
  ·by_cases hb:b=a
   ·have z':=(if_pos hb).symm.trans z
    cases z'
    subst hb
    exact⟨ha,by rw[List.length_map];exact hl,vs,_,rv,ha⟩
   ·have z':=(if_neg hb).symm.trans z
    cases z'
  ·by_cases hb:b=a
   ·exact hb
   ·exact absurd (if_neg hb) z
open PySem PySem.Spec PyProof.Rows
theorem walk_of {l:PySem.W.OpenLaw} {n k:Nat} {q:Program} {loose:List Str} {XP:(Str→Option Value)→Heap→Prop} {YP:World→Heap→Prop} {d:DefRec} {K:Params→PySem.W.Frag} {CX:World→CXT} {sp:World→Sp} {x:Str}
  (hn:l.most=some n) (hn2:n≤sizeLine) (hdf:d.params.defaults=[]) (hr:Room k callerA)
  (hY:∀(w:World) (h:Heap),YP w h→(K w.params).In h)
  (F:∀(w:World) (mg:Str→Option Value) (fa:Addr) (h:Heap),(K w.params).In h→h.Ns mainGlobals mg→mg d.name=some (.ref fa)→
   ∃fd:FuncData,(∀(s:Shared) (u:Value),BindsTo s fd ⟨[u],[]⟩ [(x,u)])∧
    ∀base:Heap,(K w.params).In base→base.Ns mainGlobals mg→FnOk l.prog w (K w.params) mg base (CX w) k fa fd [x] (sp w))
  (hsp:∀(w:World) (H:Hp) (a:Addr) (ns:List Int),ns.length≤n→Only H→SqL (K w.params) H a (ns.map V.int)→sp w [.ref a] H (fun v _=>v=.bl true) fun _ _ _=>False)
  (hCX:∀(w:World) (H:Hp) (s:Shared) (e:Value) (s':Shared),CX w [] H s (fun _ _ _=>False) e s'→False):
  PySem.W.WalkO q loose XP YP l.row.toRowW d [] (fun f vs=>PySem.call f vs):=by
 refine Att.attach_call hn hdf fun w s₀ s₁ mg mb fa o pm cd doc a vs ns G Y ho hd hcd hmg hobj hints hlen hg=>?_
 have KX:=hY w _ Y
 obtain⟨fd,hb,hF⟩:=F w mg fa _ KX G.T.g hmg
 exact law_call KX G.T.g G.T.b G.T.builtins G.T.nolimit hg hobj hints (Nat.le_trans hlen hn2) hr hF hb (fun H hO hS=>hsp w H a ns hlen hO hS) fun H e s'=>hCX w H s₁ e s'
open PySem PySem.Spec PyProof.Rows
def defArgs (s:Stmt):Arguments:=match s with
 | .FunctionDef _ a _ _ _ _ _ _ _ _=>a
 |_=>{posonlyargs:=[],args:=[],vararg:=none,kwonlyargs:=[],kw_defaults:=[],kwarg:=none,defaults:=[]}
def defBody (s:Stmt):List Stmt:=match s with
 | .FunctionDef _ _ b _ _ _ _ _ _ _=>b
 |_=>[]
def defScope (s:Stmt):Scope:=match s with
 | .FunctionDef _ _ _ _ _ _ sc _ _ _=>sc
 |_=>{kind:=.function,names:=[],isGenerator:=false,isCoroutine:=false}
abbrev CX0:CXT:=fun _ _ _ _ _ _=>False
abbrev E0:XK:=fun _ _ _=>False
theorem pass0 {X:Cx}:Passes CX0 X E0:=fun _ _ _ _ _ _ _ h=>h.elim
structure Fun (K:PySem.W.Frag) (x qual:Str) (st:Stmt) (f:Addr) (fd:FuncData):Prop where
 ex:∃(oc:Value) (od:Option Addr) (kV doc pm:Value) (an:Option Addr) (cdv ct:Value) (osl:Array (Option Value)),
  fd=PySem.W.fnOf x qual (defArgs st) (defBody st) (defScope st) .none kV doc pm an cdv ct∧K.lookup f=some ⟨oc,od,.func fd,osl⟩∧PySem.W.codeIn K cdv qual=true
 kp:PySem.W.keepIn K (.ref f)=true
section
variable {P:Program} {w:World} {K:PySem.W.Frag} {mg:Str→Option Value} {base:Heap}
theorem Fun.ok {x qual:Str} {st:Stmt} {f:Addr} {fd:FuncData} {N ps:List Str} {k:Nat} {sp:Sp} (F:Fun K x qual st f fd) (S:FnScope N ps (defScope st)) (len:∀vs H Q E,sp vs H Q E→vs.length=ps.length)
  (hbody:∀(cdv:Value) (A:Around) (outer:List Env) (s:Shared) (H:Hp) (vs:List V) (Q:VK) (E:XK),Room k (A.deeper (envOfC qual (defScope st) s.heap.objs.size f cdv))→sp vs H Q E→
   ∃t,PSs (cxOf CX0 P w K mg base N qual (defScope st) f cdv A outer s H E).nox (defBody st) t∧t {nx:=fun _ H'=>Q .non H',rt:=Q} (start N vs) H):FnOk P w K mg base CX0 (k+1) f fd ps sp:=by
 obtain⟨oc,od,kV,doc,pm,an,cdv,ct,osl,rfl,lk,hcd⟩:=F.ex
 refine fn_of lk hcd S len fun A outer s H vs Q E hr hsp=>?_
 obtain⟨t,h,q⟩:=hbody cdv A outer s H vs Q E hr hsp
 exact⟨t,h.nox,q⟩
theorem Fun.binds {x qual:Str} {st:Stmt} {f:Addr} {fd:FuncData} {ps:List Str} (F:Fun K x qual st f fd)
  (h:∀(kV doc pm:Value) (an:Option Addr) (cdv ct:Value) (us:List Value),us.length=ps.length→bindArgs (PySem.W.fnOf x qual (defArgs st) (defBody st) (defScope st) .none kV doc pm an cdv ct) ⟨us,[]⟩=pure (ps.zip us)):Binds K fd ps []:=by
 obtain⟨oc,od,kV,doc,pm,an,cdv,ct,osl,rfl,lk,hcd⟩:=F.ex
 exact .all (h kV doc pm an cdv ct)
theorem fun_mk {x qual:Str} {st:Stmt} {f:Addr} {oc:Value} {od an:Option Addr} {osl:Array (Option Value)} {kV doc pm cdv ct:Value} (l:K.lookup f=some ⟨oc,od,.func (PySem.W.fnOf x qual (defArgs st) (defBody st) (defScope st) .none kV doc pm an cdv ct),osl⟩)
  (c:PySem.W.codeIn K cdv qual=true) (k:PySem.W.keepIn K (.ref f)=true):Fun K x qual st f (PySem.W.fnOf x qual (defArgs st) (defBody st) (defScope st) .none kV doc pm an cdv ct):=⟨⟨oc,od,kV,doc,pm,an,cdv,ct,osl,rfl,l,c⟩,k⟩
end
theorem small1000 {n:Nat} (h:n≤1000):n<sizeLine:=Nat.lt_of_le_of_lt h (by decide)
def Same (H H':Hp):Prop:=∀b o,H b=some o→H' b=some o
theorem Same.refl (H:Hp):Same H H:=fun _ _ h=>h
theorem Same.trans {H H1 H2:Hp} (a:Same H H1) (b:Same H1 H2):Same H H2:=fun c o h=>b c o (a c o h)
open PySem PySem.Spec PyProof.Rows
section
variable {κ:Type} [DecidableEq κ]
def valV (kvs:List (κ×V)) (k:κ):Option V:=(kvs.find? fun kv=>decide (kv.1=k)).map (·.2)
def putK (kvs:List (κ×V)) (k:κ) (v:V):List (κ×V):=
 if(kvs.any fun kv=>decide (kv.1=k))=true then kvs.map (fun kv=>if kv.1=k then(kv.1,v)else kv)else kvs++[(k,v)]
theorem valV_pos {p:κ×V} {r:List (κ×V)} {k:κ} (e:p.1=k):valV (p::r) k=some p.2:=by simp[valV,List.find?_cons,e]
theorem valV_neg {p:κ×V} {r:List (κ×V)} {k:κ} (e:¬p.1=k):valV (p::r) k=valV r k:=by simp[valV,List.find?_cons,e]
theorem valV_any (k:κ):∀kvs:List (κ×V),(kvs.any fun kv=>decide (kv.1=k))=(valV kvs k).isSome
 |[]=>rfl
 |p::r=>by
  rw[List.any_cons]
  by_cases e:p.1=k
  ·simp only[valV_pos e,decide_eq_true e,Bool.true_or,Option.isSome_some]
  ·rw[valV_neg e,decide_eq_false e,Bool.false_or];exact valV_any k r
theorem valV_map (k j:κ) (y:V):∀kvs:List (κ×V),valV (kvs.map fun kv=>if kv.1=k then(kv.1,y)else kv) j=(valV kvs j).map fun x=>if j=k then y else x
 |[]=>rfl
 |p::r=>by
  have ih:=valV_map k j y r
  rw[List.map_cons]
  by_cases h:p.1=k
  ·rw[if_pos h]
   by_cases e:p.1=j
   ·rw[valV_pos (p:=(p.1,y)) e,valV_pos e,Option.map_some,if_pos (e.symm.trans h)]
   ·rw[valV_neg (p:=(p.1,y)) e,valV_neg e,ih]
  ·rw[if_neg h]
   by_cases e:p.1=j
   ·rw[valV_pos (p:=p) e,valV_pos e,Option.map_some,if_neg (fun z=>h (e.trans z))]
   ·rw[valV_neg (p:=p) e,valV_neg e,ih]
theorem valV_snoc (k j:κ) (y:V):∀kvs:List (κ×V),valV kvs k=none→valV (kvs++[(k,y)]) j=if j=k then some y else valV kvs j
 |[],_=>by
  by_cases e:k=j
  ·rw[if_pos e.symm];exact valV_pos (p:=(k,y)) e
  ·rw[if_neg (fun z=>e z.symm)];exact valV_neg (p:=(k,y)) e
 |p::r,hn=>by
  rw[List.cons_append]
  have hk:¬p.1=k:=fun z=>by rw[valV_pos z]at hn;cases hn
  rw[valV_neg hk]at hn
  have ih:=valV_snoc k j y r hn
  by_cases e:p.1=j
  ·rw[valV_pos e,valV_pos e,if_neg (fun z=>hk (e.trans z))]
  ·rw[valV_neg e,valV_neg e,ih]
theorem valV_put (kvs:List (κ×V)) (k j:κ) (y:V):valV (putK kvs k y) j=if j=k then some y else valV kvs j:=by
 unfold putK
 by_cases a:(kvs.any fun kv=>decide (kv.1=k))=true
 ·rw[if_pos a,valV_map]
  rw[valV_any]at a
  by_cases e:j=k
  ·obtain⟨x,hx⟩:=Option.isSome_iff_exists.mp a
   rw[if_pos e,e,hx,Option.map_some,if_pos rfl]
  ·rw[if_neg e]
   cases valV kvs j with
   |none=>rfl
   |some x=>rw[Option.map_some,if_neg e]
 ·rw[if_neg a]
  refine valV_snoc k j y kvs ?_
  rw[valV_any]at a
  cases q:valV kvs k with
  |none=>rfl
  |some x=>rw[q]at a;exact(a rfl).elim
theorem length_putK (kvs:List (κ×V)) (k:κ) (v:V):(putK kvs k v).length≤kvs.length+1:=by
 unfold putK
 split
 ·rw[List.length_map];omega
 ·rw[List.length_append,List.length_cons,List.length_nil];omega
theorem RelO.isSome_eq {o:Option V} {u:Option Value} (r:RelO o u):o.isSome=u.isSome:=by
 cases o with
 |none=>cases u with
  |none=>rfl
  |some _=>exact(show False from r).elim
 |some _=>cases u with
  |none=>exact(show False from r).elim
  |some _=>rfl
theorem KV.val {kvs:List (κ×V)} {vs:List (κ×Value)} (r:KV kvs vs) (k:κ):RelO (valV kvs k) (valueAt vs k):=by
 unfold KV at r
 induction r with
 |nil=>exact True.intro
 | @cons p q ps qs h t ih=>
  obtain⟨h1,h2⟩:=h
  by_cases e:p.1=k
  ·have e':q.1=k:=h1.symm.trans e
   have b:valueAt (q::qs) k=some q.2:=by simp[valueAt,List.find?_cons,e']
   rw[valV_pos e,b];exact h2
  ·have e':¬q.1=k:=fun z=>e (h1.trans z)
   have b:valueAt (q::qs) k=valueAt qs k:=by simp[valueAt,List.find?_cons,e']
   rw[valV_neg e,b];exact ih
theorem KV.any {kvs:List (κ×V)} {vs:List (κ×Value)} (r:KV kvs vs) (k:κ):(kvs.any fun kv=>decide (kv.1=k))=vs.any fun kv=>decide (kv.1=k):=by
 unfold KV at r
 induction r with
 |nil=>rfl
 |cons h t ih=>rw[List.any_cons,List.any_cons,ih,h.1]
theorem KV.repl {kvs:List (κ×V)} {vs:List (κ×Value)} (r:KV kvs vs) (k:κ) {y:V} {u:Value} (ry:RelV y u):
  KV (kvs.map fun kv=>if kv.1=k then(kv.1,y)else kv) (vs.map fun kv=>if kv.1=k then(kv.1,u)else kv):=by
 unfold KV at r ⊢
 induction r with
 |nil=>exact .nil
 | @cons p q ps qs h t ih=>
  rw[List.map_cons,List.map_cons]
  refine .cons ?_ ih
  obtain⟨h1,h2⟩:=h
  by_cases e:p.1=k
  ·rw[if_pos e,if_pos (h1.symm.trans e)];exact⟨h1,ry⟩
  ·rw[if_neg e,if_neg (fun z=>e (h1.trans z))];exact⟨h1,h2⟩
theorem KV.put {kvs:List (κ×V)} {vs:List (κ×Value)} (r:KV kvs vs) (k:κ) {y:V} {u:Value} (ry:RelV y u):KV (putK kvs k y) (stored vs k u):=by
 unfold putK stored
 rw[r.any k]
 by_cases e:(vs.any fun kv=>decide (kv.1=k))=true
 ·rw[if_pos e,if_pos e];exact r.repl k ry
 ·rw[if_neg e,if_neg e];exact Paired.snoc r ⟨rfl,ry⟩
end
theorem kV_is {P:Program} {w:World} {k:Key} {u:Value} (r:RelV (kV k) u):(mixKind P w).is k u=true:=by
 cases k with
 |inl i=>obtain⟨t,e⟩:=(show ∃t,u=Value.int i t from r);subst e;exact mixKind_int P w i t
 |inr x=>obtain⟨t,e⟩:=(show ∃t,u=Value.str x t from r);subst e;exact mixKind_str P w x t
theorem items_are {P:Program} {w:World}:∀{ks:List Key} {us:List Value},Vals (ks.map kV) us→ItemsAre (mixKind P w) ks us
 |[],_,r=>by rw[List.map_nil]at r;cases r;exact .nil
 |k::ks,_,r=>by
  rw[List.map_cons]at r
  cases r with
  |cons h t=>exact .cons (kV_is h) (items_are t)
abbrev KT (H:Hp):List (List Key×V)→List (List Key×Addr×Value)→Prop:=Paired fun p q=>p.1=q.1∧H q.2.1=some (.tup (p.1.map kV))∧RelV p.2 q.2.2
theorem KT.val {H:Hp} {kvs:List (List Key×V)} {xs:List (List Key×Addr×Value)} (r:KT H kvs xs) (k:List Key):RelO (valV kvs k) ((atKey xs k).map (·.2)):=by
 induction r with
 |nil=>exact True.intro
 | @cons p q ps qs h t ih=>
  obtain⟨h1,_,h2⟩:=h
  by_cases e:p.1=k
  ·have e':q.1=k:=h1.symm.trans e
   have b:atKey (q::qs) k=some q.2:=by simp[atKey,List.find?_cons,e']
   rw[valV_pos e,b];exact h2
  ·have e':¬q.1=k:=fun z=>e (h1.trans z)
   have b:atKey (q::qs) k=atKey qs k:=by simp[atKey,List.find?_cons,e']
   rw[valV_neg e,b];exact ih
section
variable {P:Program} {w:World} {H:Hp} {h:Heap} {a:Addr}
theorem rd_of {u:HO} (ok:HOk P w H h) (e:Rd H a u):ObjOk P w H h a u:=e.ok ok
theorem dk_rd {kvs:List (Key×V)} (ok:HOk P w H h) (e:Rd H a (.dK kvs)):kvs.length≤sizeLine∧(a==sysModules)=false∧∃vs,KV kvs vs∧h.DictOf (mixKind P w) a vs:=
 show ObjOk P w H h a (.dK kvs)from rd_of ok e
theorem dk_of {kvs:List (Key×V)} (ok:HOk P w H h) (e:H a=some (.dK kvs)):kvs.length≤sizeLine∧(a==sysModules)=false∧∃vs,KV kvs vs∧h.DictOf (mixKind P w) a vs:=dk_rd ok (.inl e)
theorem key_of {ks:List Key} (ok:HOk P w H h) (e:H a=some (.tup (ks.map kV))):(tupleKind (mixKind P w)).is h ks a:=by
 obtain⟨_,its,r,o,h1,h2,n,h3⟩:=(show ObjOk P w H h a (.tup (ks.map kV))from ok a _ e)
 exact⟨o,its.toArray,n,h1,h2,h3,by simpa using items_are r⟩
theorem dt_rd {kvs:List (List Key×V)} (ok:HOk P w H h) (e:Rd H a (.dT kvs)):kvs.length≤sizeLine∧(a==sysModules)=false∧
  ∃xs,KT H kvs xs∧h.DictOfH (tupleKind (mixKind P w)) a xs:=by
 obtain⟨z,y,xs,r,o,es,ep,h1,h2,h3,h4,h5⟩:=(show ObjOk P w H h a (.dT kvs)from rd_of ok e)
 refine⟨z,y,xs,r,o,es,ep,h1,h2,h3,h4,fun x hx=>?_,h5⟩
 have all:∀{l:List (List Key×V)} {m:List (List Key×Addr×Value)},KT H l m→∀x∈m,(tupleKind (mixKind P w)).is h x.1 x.2.1:=by
  intro l m q
  induction q with
  |nil=>intro x hx;exact nomatch hx
  | @cons p q ps qs hq t ih=>
   intro x hx
   rcases List.mem_cons.mp hx with e|hx
   ·subst e
    exact key_of ok (by rw[← hq.1];exact hq.2.1)
   ·exact ih x hx
 exact all r x hx
end
def DGet (H:Hp) (a:Addr) (y:V) (r:Option V):Prop:=
 (∃kvs k,Rd H a (.dK kvs)∧y=kV k∧r=valV kvs k)∨∃kvs k b,Rd H a (.dT kvs)∧y=.ref b∧H b=some (.tup (k.map kV))∧r=valV kvs k
theorem DGet.k {H:Hp} {a:Addr} {kvs:List (Key×V)} {k:Key} (e:H a=some (.dK kvs)):DGet H a (kV k) (valV kvs k):=.inl ⟨kvs,k,.inl e,rfl,rfl⟩
section
variable {X:Cx} {pins:List (Addr×Obj)} {σ:St} {H:Hp} {s:Shared} {a:Addr} {y v:V} {u r:Value} {o:Option V} {A:Around} {E:Value→Shared→Prop}
theorem Inv.big (I:Inv X pins σ H s):sysModules<s.heap.objs.size:=by
 have h:mainGlobals<s.heap.objs.size:=(I.mod.glob.keeps I.bk).lt
 exact Nat.lt_trans (by decide) h
theorem d_getItem {Q:Value→Shared→Prop} (hu:A.units+1<cLine) (I:Inv X pins σ H s) (g:DGet H a y (some v)) (ry:RelV y u) (h:∀w' s',Inv X pins σ H s'→RelV v w'→Q w' s'):
  wpAny (model X.prog X.w) A (getItem (.ref a) u) Q E s:=by
 rcases g with⟨kvs,k,e,ey,l⟩|⟨kvs,k,b,e,ey,eb,l⟩
 ·subst ey
  obtain⟨z,hd,vs,rel,dd⟩:=dk_rd I.hok e
  obtain⟨w',hw,rw'⟩:=RelO.some_of (v:=v) (o:=valueAt vs k) (by rw[l];exact rel.val k)
  exact wpAny_getItem_of (kV_is ry) dd.mapOf hw (h w' _ (I.tok _) rw')
 ·subst ey
  cases(show u=Value.ref b from ry)
  obtain⟨z,hd,xs,rel,dd⟩:=dt_rd I.hok e
  obtain⟨w',hw,rw'⟩:=RelO.some_of (v:=v) (o:=(atKey xs k).map (·.2)) (by rw[l];exact rel.val k)
  obtain⟨p,hp,hp2⟩:=Option.map_eq_some_iff.mp hw
  refine wpAny_getItem_heap (tupleKind_room_in1 hu) (key_of I.hok eb) dd hp ?_
  rw[hp2]
  exact h w' _ (I.tok _) rw'
theorem d_write {h':Heap} {t':Nat} {ob:HO} (I:Inv X pins σ H s) (mu:Mut (H a)) (hs:Heap.SameBut a s.heap h') (he:∃q,h'.get? a=some q) (new:ObjOk X.prog X.w (upd H a ob) h' a ob):
  Inv X pins σ (upd H a ob) {s with heap:=h',toks:=t'}:=
 I.write (x:=a) (e:=a) mu (.inl rfl) (fun b q hb z=>(hs.2 b hb).trans z) he new
theorem dk_new {P:Program} {w:World} {H':Hp} {h':Heap} {kvs:List (Key×V)} {vs:List (Key×Value)} (z:kvs.length≤sizeLine) (hd:(a==sysModules)=false) (rel:KV kvs vs) (dd:h'.DictOf (mixKind P w) a vs):
  ObjOk P w H' h' a (.dK kvs):=⟨z,hd,vs,rel,dd⟩
end
def NoSl (i:Expr):Prop:=∀ov iv,subscripted i false ov iv=operate [ov,iv] (getItem ov iv)
theorem subD_of {prog:Program} {w:World} {A:Around} {E:Value→Shared→Prop} {s:Shared} {env:Env} {value slice:Expr} {pos:Pos} {T id:String} {Q:Value→Shared→Prop}
  (hl:typeLookup (.type T) "__getitem__"=pure (some (.builtin id))) (hs:NoSl slice)
  (h:wpAny (model prog w) A (eval value env) (fun o s₁=>wpAny (model prog w) A (eval slice env) (fun i s₂=>s₂.TypeIs o T∧wpAny (model prog w) A (getItem o i) Q E s₂) E s₁) E s):
  wpAny (model prog w) A (eval (.Subscript value slice pos) env) Q E s:=by
 refine Subscript_ (wpAny_mono h (fun o s₁ h₁=>wpAny_mono h₁ (fun i s₂ h₂=>?_) fun _ _ x=>x) fun _ _ x=>x)
 obtain⟨hT,h₂⟩:=h₂
 unfold subscriptTail
 refine wpAny_bind ?_
 rw[getitemInPython_of_ne hT.not_modules]
 refine wpAny_bind (wpAny_specialOf hT hl ?_)
 have fin:wpAny (model prog w) A (subscripted slice false o i) (fun r s₃=>wpAny (model prog w) A (letTemporaryGo value o r >>= fun _=>pure r) Q E s₃) E s₂:=by
  rw[hs o i]
  exact wpAny_operating (wpAny_mono h₂ (fun r s₃ h₃=>wpAny_bind (wpAny_letTemporaryGo (wpAny_pure h₃))) fun _ _ x=>x)
 first
  |exact wpAny_pure (wpAny_bind fin)
  |exact wpAny_bind (wpAny_pure (wpAny_bind fin))
  |exact wpAny_bind fin
theorem dict_typeIs {X:Cx} {pins:List (Addr×Obj)} {σ:St} {H:Hp} {s:Shared} {a:Addr} {y:V} {o:Option V} (I:Inv X pins σ H s) (g:DGet H a y o):s.TypeIs (.ref a) "dict":=by
 rcases g with⟨kvs,k,e,_,_⟩|⟨kvs,k,b,e,_,_,_⟩
 ·obtain⟨_,_,vs,_,dd⟩:=dk_rd I.hok e
  exact dd.typeIs
 ·obtain⟨_,_,xs,_,dd⟩:=dt_rd I.hok e
  exact dd.typeIs
def tDGet (td ty:TE):TE:=fun σ H Q=>td σ H fun x H1=>ty σ H1 fun y H2=>∃a v,x=.ref a∧DGet H2 a y (some v)∧Q v H2
section
variable {X:Cx} {o i e value:Expr} {pos pos' tpos:Pos} {td ty tv:TE}
theorem pe_dget (hu:X.A.units+1<cLine) (ho:PE X o td) (hi:PE X i ty) (hs:NoSl i):PE X (.Subscript o i pos) (tDGet td ty):=by
 intro pins s σ H Q I h
 refine subD_of PySem.F.slot_dict_getitem.lookup hs (thn (ho pins s σ H _ I h) fun u s1 ⟨x,H1,I1,rx,q1⟩=>thn (hi pins s1 σ H1 _ I1 q1) fun iv s2 ⟨y,H2,I2,ry,a,v,ex,g,q2⟩=>?_)
 subst ex
 obtain rfl:u=Value.ref a:=rx
 exact⟨dict_typeIs I2 g,d_getItem hu I2 g ry fun w' s3 I3 rw'=>⟨v,H2,I3,rw',q2⟩⟩
end
theorem dk_empty {P:Program} {w:World} {H:Hp} (h:Heap) (hb:sysModules<h.objs.size):ObjOk P w H (h.push {cls:=.type "dict",data:=.dict #[]}) h.objs.size (.dK []):=
 ⟨Nat.zero_le _,beq_eq_false_iff_ne.mpr (Ne.symm (Nat.ne_of_lt hb)),[],.nil,Heap.DictOf.new h⟩
def tPairs:List (TE×TE)→St→Hp→(List (V×V)→Hp→Prop)→Prop
 |[],_,H,Q=>Q [] H
 |(tk,tv)::r,σ,H,Q=>tk σ H fun x H1=>tv σ H1 fun y H2=>tPairs r σ H2 fun ps H3=>Q ((x,y)::ps) H3
abbrev VV:List (V×V)→List (Value×Value)→Prop:=Paired fun p q=>RelV p.1 q.1∧RelV p.2 q.2
def PPs (X:Cx) (pos:Pos) (keys:List (Option Expr)) (values:List Expr) (trs:List (TE×TE)):Prop:=
 ∀(pins:List (Addr×Obj)) (s:Shared) (σ:St) (H:Hp) (Q:List (V×V)→Hp→Prop),Inv X pins σ H s→tPairs trs σ H Q→
  wpAny (model X.prog X.w) X.A (evalPairs (pairTrees keys values X.env pos)) (fun vs s'=>∃ps H',Inv X pins σ H' s'∧VV ps vs∧Q ps H') X.xe s
theorem pps_nil {X:Cx} {pos:Pos}:PPs X pos [] [] []:=fun pins s σ H Q I h=>pairTrees_nil_walk ⟨[],H,I,.nil,h⟩
theorem pps_cons {X:Cx} {pos:Pos} {k v:Expr} {ks:List (Option Expr)} {vs:List Expr} {tk tv:TE} {trs:List (TE×TE)} (hk:PE X k tk) (hv:PE X v tv) (hr:PPs X pos ks vs trs):
  PPs X pos (some k::ks) (v::vs) ((tk,tv)::trs):=fun pins s σ H Q I h=>
 pairTrees_cons_walk (thn (hk pins s σ H _ I h) fun u s1 ⟨x,H1,I1,rx,q1⟩=>thn (hv pins s1 σ H1 _ I1 q1) fun w2 s2 ⟨y,H2,I2,ry,q2⟩=>
  thn (hr pins s2 σ H2 _ I2 q2) fun ws s3 ⟨ps,H3,I3,rel,q3⟩=>⟨(x,y)::ps,H3,I3,.cons ⟨rx,ry⟩ rel,q3⟩)
def mergeK (kvs more:List (Key×V)):List (Key×V):=more.foldl (fun acc kv=>putK acc kv.1 kv.2) kvs
theorem KV.merge:∀{more:List (Key×V)} {rs:List (Key×Value)} {kvs:List (Key×V)} {vs:List (Key×Value)},KV more rs→KV kvs vs→KV (mergeK kvs more) (merged vs rs):=by
 intro more rs kvs vs r
 unfold KV at r
 induction r generalizing kvs vs with
 |nil=>intro q;exact q
 | @cons p q ps qs h t ih=>
  intro r0
  have e:KV (putK kvs p.1 p.2) (stored vs q.1 q.2):=by
   have:=r0.put p.1 h.2
   rw[← h.1];exact this
  exact ih e
theorem length_mergeK:∀(more kvs:List (Key×V)),(mergeK kvs more).length≤kvs.length+more.length
 |[],kvs=>by show kvs.length≤kvs.length+0;omega
 |p::r,kvs=>by
  have h1:=length_mergeK r (putK kvs p.1 p.2)
  have h2:=length_putK kvs p.1 p.2
  show(mergeK (putK kvs p.1 p.2) r).length≤_
  rw[List.length_cons];omega
theorem carries_of {P:Program} {w:World}:∀{kvs:List (Key×V)} {ws:List (Value×Value)},VV (kvs.map fun kv=>(kV kv.1,kv.2)) ws→∃rs,Carries (mixKind P w) ws rs∧KV kvs rs
 |[],_,r=>by rw[List.map_nil]at r;cases r;exact⟨[],True.intro,.nil⟩
 |p::kvs,_,r=>by
  rw[List.map_cons]at r
  cases r with
  | @cons a b as bs h t=>
   obtain⟨rs,c,q⟩:=carries_of (P:=P) (w:=w) t
   obtain⟨b1,b2⟩:=b
   exact⟨(p.1,b2)::rs,⟨kV_is h.1,rfl,c⟩,.cons ⟨rfl,h.2⟩ q⟩
def tDisp (trs:List (TE×TE)):TE:=fun σ H Q=>∀p,H p=none→tPairs trs σ (upd H p (.dK [])) fun ps H2=>H2 p=some (.dK [])∧∃kvs:List (Key×V),ps=kvs.map (fun kv=>(kV kv.1,kv.2))∧kvs.length≤15∧Q (.ref p) (upd H2 p (.dK (mergeK [] kvs)))
theorem pe_disp {X:Cx} {pos:Pos} {keys:List (Option Expr)} {values:List Expr} {trs:List (TE×TE)} (h:PPs X pos keys values trs) (hall:keys.all (·.isSome)=true) (hl:keys.length=values.length) (h0:keys≠[])
  (h15:keys.length≤15):PE X (.Dict keys values pos) (tDisp trs):=by
 intro pins s σ H Q I q
 have hn:=I.hok.fresh (Nat.le_refl s.heap.objs.size)
 have I1:=I.laid (a:=s.heap.objs.size) (o:=.dK []) (h':=s.heap.push {cls:=.type "dict",data:=.dict #[]}) (t':=s.toks) (fun _ _ q=>Heap.get?_push_of_some _ q) (Nat.le_refl _) (dk_empty s.heap I.big)
 refine wpAny_Dict_walk (knd:=mixKind X.prog X.w) hall hl h0 h15 (thn (h pins _ σ _ _ I1 (q _ hn)) fun ws s2 ⟨ps,H2,I2,rel,e,kvs,ep,lk,q2⟩=>?_)
 subst ep
 obtain⟨rs,c,rk⟩:=carries_of (P:=X.prog) (w:=X.w) rel
 obtain⟨z,hd,vs0,r0,dd⟩:=dk_of I2.hok e
 cases r0
 refine⟨rs,c,dd,fun h' dd' hs=>⟨.ref s.heap.objs.size,_,?_,rfl,q2⟩⟩
 have hz:(mergeK [] kvs).length≤sizeLine:=by
  have h1:=length_mergeK kvs []
  rw[List.length_nil]at h1
  rw[sizeLine_eq];omega
 have he:∃q,h'.get? s.heap.objs.size=some q:=let ⟨q,_,_,hq,_⟩:=dd';⟨q,hq⟩
 exact d_write I2 (by rw[e];exact True.intro) hs he (dk_new hz hd (rk.merge .nil) dd')
open PySem PySem.Spec PyProof.Rows
theorem comp_loop_go {prog:Program} {w:World} {A:Around} {R:Result→Shared→Prop} {s:Shared} {elt target iter:Expr} {ifs:List Expr} {scope:Scope} {pos:Pos} {it acc:Value} {env:Env} (I:Nat→Shared→Prop)
  (turn:∀n s,I n s→wpAny (model prog w) A (pyNext it) (fun r s₁=>match r with
   |none=>R (.ok .next) s₁
   |some v=>wpAny (model prog w) A (letOwnedTupleGo target it v) (fun _ s₁'=>wpAny (model prog w) A (assign target env v) (fun _ s₂=>
     wpAny (model prog w) A (forIn ifs true fun c r=>if r=true then do let ok ← isTrue c env (eval c env);pure (ForInStep.yield ok)else pure (ForInStep.yield r)) (fun ok s₃=>
      if ok=true then wpAny (model prog w) A (eval elt env) (fun x s₄=>
       wpAny (model prog w) A (call (.builtin "list.append") [acc,x]) (fun _ s₅=>∃m,m<n∧I m s₅) (notedBy (model prog w) A env fun e s'=>R (.error e) s') s₄) (notedBy (model prog w) A env fun e s'=>R (.error e) s') s₃
      else ∃m,m<n∧I m s₃) (notedBy (model prog w) A env fun e s'=>R (.error e) s') s₂) (notedBy (model prog w) A env fun e s'=>R (.error e) s') s₁') (notedBy (model prog w) A env fun e s'=>R (.error e) s') s₁) (notedBy (model prog w) A env fun e s'=>R (.error e) s') s)
  (n:Nat) (h:I n s):
  codeAny (model prog w) A (.compLoop (.ListComp elt [⟨target,iter,ifs,0⟩] scope pos) 0 it acc env) R s:=by
 refine codeAny_loop rfl I (fun n s hI=>?_) n h
 show wpAny _ A ((compTurn (.ListComp elt [⟨target,iter,ifs,0⟩] scope pos) 0 it acc env).onRaise (fun x=>do noteFrame x env;theTreesLotGoes x)) _ _ s
 refine wpAny_noted ?_
 rw[compTurn_list]
 refine wpAny_bind (wpAny_standAt (wpAny_bind (wpAny_mono (turn n s hI) (fun r s₁ h₁=>?_) fun _ _ h'=>h')))
 cases r with
 |none=>exact wpAny_pure h₁
 |some v=>
  refine wpAny_bind (wpAny_mono h₁ (fun _ s₁' h₁'=>?_) fun _ _ h'=>h')
  refine wpAny_bind (wpAny_mono h₁' (fun _ s₂ h₂=>wpAny_bind (wpAny_mono h₂ (fun ok s₃ h₃=>?_) fun _ _ h'=>h')) fun _ _ h'=>h')
  cases ok with
  |false=>exact wpAny_pure ⟨rfl,h₃⟩
  |true=>
   exact wpAny_bind (wpAny_bind (wpAny_mono h₃ (fun x s₄ h₄=>wpAny_bind (wpAny_mono h₄ (fun _ s₅ h₅=>wpAny_pure (wpAny_pure ⟨rfl,h₅⟩)) fun _ _ h'=>h')) fun _ _ h'=>h'))
abbrev blk (X:Cx) (scope:Scope) (cl:List (Str×Addr)) (N':List Str) (C:Addr) (s₀:Shared) (H₀:Hp) (ex:List Addr):Cx:=
 {prog:=X.prog,w:=X.w,K:=X.K,mg:=X.mg,base:=X.base,A:=X.A,N:=N',s₀:=s₀,H₀:=H₀,env:=compEnvC scope cl C X.env,outer:=X.stack,stack:=X.stack,ex:=ex,fn:=fun _=>false,calm:=X.calm,pn:=[],xe:=fun _ _=>False}
def PTs (X:Cx) (ifs:List Expr) (t:TT):Prop:=
 ∀(pins:List (Addr×Obj)) (s:Shared) (σ:St) (H:Hp) (Q:Bool→Hp→Prop),Inv X pins σ H s→t σ H Q→
  wpAny (model X.prog X.w) X.A (forIn ifs true fun c r=>if r=true then do let ok ← isTrue c X.env (eval c X.env);pure (ForInStep.yield ok)else pure (ForInStep.yield r)) (TP X pins σ Q) X.xe s
def tYes:TT:=fun _ H Q=>Q true H
theorem pts_nil {X:Cx}:PTs X [] tYes:=fun _ _ _ H _ I h=>wpAny_tests_nil ⟨H,I,h⟩
theorem pts_one {X:Cx} {c:Expr} {t:TT} (h:PT X c t):PTs X [c] t:=fun pins s σ H Q I hw=>wpAny_tests_one (h pins s σ H Q I hw)
def capV (cap:List (Option Nat)) (σ:St):St:=cap.map fun o=>o.bind fun j=>(σ[j]?).join
structure Blk (X:Cx) (scope:Scope) (cl:List (Str×Addr)) (N':List Str) (cap:List (Option Nat)):Prop where
 clos:closureFor scope X.env=pure cl
 cells:∀y∈scope.names,y.2≠.cell
 kind:scope.kind=.function
 names:∀y∈scope.names,y.2=.local→scope.names.lookup y.1=some .local
 nd:N'.Nodup
 len:cap.length=N'.length
 sub:∀x c,cl.lookup x=some c→X.env.cells.lookup x=some c
 has:∀x,((relabel scope X.env).names.lookup x=some .cell∨(relabel scope X.env).names.lookup x=some .free)→∃c,cl.lookup x=some c
 cap:∀(i:Nat) (x:Str) (j:Nat),N'[i]?=some x→cap[i]?=some (some j)→X.N[j]?=some x∧Vis X.env.scope x∧((relabel scope X.env).names.lookup x=some .cell∨(relabel scope X.env).names.lookup x=some .free)∧X.env.scope.names.lookup x≠some .local
def LeS:St→St→Prop
 |[],[]=>True
 |none::a,_::b=>LeS a b
 |some v::a,u::b=>u=some v∧LeS a b
 |_,_=>False
theorem LeS.len:∀{a b:St},LeS a b→a.length=b.length
 |[],[],_=>rfl
 |none::a,_::b,h=>congrArg (· + 1) (LeS.len (a:=a) (b:=b) h)
 |some v::a,u::b,h=>congrArg (· + 1) (LeS.len (a:=a) (b:=b) h.2)
 |[],_::_,h=>h.elim
 |none::_,[],h=>h.elim
 |some _::_,[],h=>h.elim
theorem LeS.get:∀{a b:St},LeS a b→∀(i:Nat) (v:V),a[i]?=some (some v)→b[i]?=some (some v)
 |[],[],_,i,v,e=>by simp at e
 |none::a,_::b,h,0,v,e=>by simp at e
 |none::a,_::b,h,i+1,v,e=>by
  rw[List.getElem?_cons_succ]at e ⊢
  exact LeS.get (a:=a) (b:=b) h i v e
 |some x::a,u::b,h,0,v,e=>by
  rw[List.getElem?_cons_zero]at e ⊢
  rw[h.1];exact e
 |some x::a,u::b,h,i+1,v,e=>by
  rw[List.getElem?_cons_succ]at e ⊢
  exact LeS.get (a:=a) (b:=b) h.2 i v e
 |[],_::_,h,_,_,_=>h.elim
 |none::_,[],h,_,_,_=>h.elim
 |some _::_,[],h,_,_,_=>h.elim
def tComp (cap:List (Option Nat)) (wi:TI) (g:TG) (tif:TT) (te:TE):TE:=fun σ H Q=>wi σ H fun J H1=>∃W:Nat→Nat→List V→Hp→Prop,(∃m,W 0 m [] H1)∧∀i m ys H,W i m ys H→ys.length<sizeLine∧
 ((J.stop i H∧∀D,H D=none→Q (.ref D) (upd H D (.lst ys)))∨
  (J.go i H∧∀x H',J.yld i H x H'→g x (capV cap σ) H' fun σ2 H2=>LeS (capV cap σ) σ2∧tif σ2 H2 fun b H3=>if b=true then te σ2 H3 fun v H4=>∃m',m'<m∧W (i+1) m' (ys++[v]) H4 else ∃m',m'<m∧W (i+1) m' ys H3))
def ownC (own:Option Str) (C:Addr) (cl:List (Str×Addr)):List (Str×Addr):=match own with
 |none=>cl
 |some kx=>(kx,C+1)::cl
def ownF:Option Str→Str→Bool
 |none,_=>false
 |some kx,y=>y==kx
def cellH:Option Str→Heap→Heap
 |none,h=>h
 |some _,h=>h.push {cls:=.type "cell",data:=.cell none}
theorem cellH_old (own:Option Str) {h:Heap} {b:Addr} {o:Obj} (e:h.get? b=some o):(cellH own h).get? b=some o:=by
 cases own with
 |none=>exact e
 |some _=>exact Heap.get?_push_of_some _ e
theorem own_lk {own:Option Str} {C:Addr} {cl:List (Str×Addr)} {y:Str} {c:Addr} (e:(ownC own C cl).lookup y=some c):(own=some y∧c=C+1)∨cl.lookup y=some c:=by
 cases own with
 |none=>exact .inr e
 |some kx=>
  have e:((kx,C+1)::cl).lookup y=some c:=e
  rw[List.lookup_cons]at e
  by_cases h:y=kx
  ·subst h
   rw[beq_self_eq_true]at e
   exact .inl ⟨rfl,(Option.some.inj e).symm⟩
  ·rw[show(y==kx)=false by simpa using h]at e
   exact .inr e
theorem own_lk' {own:Option Str} {C:Addr} {cl:List (Str×Addr)} {y:Str} {c:Addr} (h:own≠some y) (e:cl.lookup y=some c):(ownC own C cl).lookup y=some c:=by
 cases own with
 |none=>exact e
 |some kx=>
  show((kx,C+1)::cl).lookup y=some c
  rw[List.lookup_cons,show(y==kx)=false by simpa using fun z=>h (by rw[z])];exact e
theorem own_hd {own:Option Str} {C:Addr} {cl:List (Str×Addr)} {y:Str} (h:own=some y):(ownC own C cl).lookup y=some (C+1):=by
 rw[h]
 show((y,C+1)::cl).lookup y=_
 rw[List.lookup_cons,beq_self_eq_true]
theorem ownF_t {own:Option Str} {y:Str} (h:ownF own y=true):own=some y:=by
 cases own with
 |none=>cases h
 |some kx=>rw[show y=kx by simpa [ownF]using h]
abbrev blkG (X:Cx) (scope:Scope) (own:Option Str) (cl:List (Str×Addr)) (N':List Str) (C:Addr) (s₀:Shared) (H₀:Hp) (ex:List Addr):Cx:=
 {prog:=X.prog,w:=X.w,K:=X.K,mg:=X.mg,base:=X.base,A:=X.A,N:=N',s₀:=s₀,H₀:=H₀,env:=compEnvC scope (ownC own C cl) C X.env,outer:=X.stack,stack:=X.stack,ex:=ex,fn:=ownF own,calm:=X.calm,pn:=[],xe:=fun _ _=>False}
structure BlkG (X:Cx) (scope:Scope) (own:Option Str) (cl:List (Str×Addr)) (N':List Str) (cap:List (Option Nat)):Prop where
 clos:closureFor scope X.env=pure cl
 cf:∀n,cellsFrom (n+1) scope.names cl=ownC own n cl
 pc:∀h,pushCells h scope.names=cellH own h
 kind:scope.kind=.function
 names:∀y∈scope.names,y.2=.local→scope.names.lookup y.1=some .local
 len:cap.length=N'.length
 ono:∀kx,own=some kx→cl.lookup kx=none
 sub:∀x c,cl.lookup x=some c→X.env.cells.lookup x=some c
 has:∀x,((relabel scope X.env).names.lookup x=some .cell∨(relabel scope X.env).names.lookup x=some .free)→own=some x∨∃c,cl.lookup x=some c
 cap:∀(i:Nat) (x:Str) (j:Nat),N'[i]?=some x→cap[i]?=some (some j)→X.N[j]?=some x∧Vis X.env.scope x∧((relabel scope X.env).names.lookup x=some .cell∨(relabel scope X.env).names.lookup x=some .free)∧X.env.scope.names.lookup x≠some .local∧own≠some x
theorem newEnvG {M:Model} {A:Around} {E:Value→Shared→Prop} {s:Shared} {scope:Scope} {own:Option Str} {cl:List (Str×Addr)} {env:Env} {Q:Env→Shared→Prop} (cf:∀n,cellsFrom (n+1) scope.names cl=ownC own n cl) (pc:∀h,pushCells h scope.names=cellH own h)
  (h:∀cenv:Env,{cenv with scope:=relabel scope env}=compEnvC scope (ownC own s.heap.objs.size cl) s.heap.objs.size env→cenv.locals=s.heap.objs.size→Q cenv {s with heap:=cellH own (s.heap.push {cls:=.type "dict",data:=.dict #[]})}):
  wpAny M A (newFunctionEnv scope env.globals cl [] env.qual none .none (some env)) Q E s:=by
 simp only[newFunctionEnv,Option.isSome_some,if_true]
 refine wpAny_bind (wpAny_alloc ?_)
 refine wpAny_bind (wpAny_layCells _ (fun name kind cells=>by cases hkc:kind==NameKind.cell<;>simp[hkc]) _ _ _ _ ?_)
 rw[pc,show({s with heap:=s.heap.push {cls:=.type "dict",data:=.dict #[]}}:Shared).heap.objs.size=s.heap.objs.size+1 from Heap.size_push ..,cf,List.forIn_nil]
 exact wpAny_bind (wpAny_pure (wpAny_pure (h _ rfl rfl)))
theorem compG_core {X:Cx} {elt tg iter:Expr} {ifs:List Expr} {scope:Scope} {own:Option Str} {cl:List (Str×Addr)} {pos:Pos} {N':List Str} {cap:List (Option Nat)} {g:TG} {tif:TT} {te:TE} {pins:List (Addr×Obj)} {σ:St} {H2:Hp} {s₂:Shared} {it:Addr} {fp:List Addr} {tn:Nat→Heap→Prop} {J:It} {Q:VK} {W:Nat→Nat→List V→Hp→Prop} {m0:Nat} {RR:Value→Addr→Result→Shared→Prop} {E:Value→Shared→Prop}
  (hc:X.calm=true) (B:BlkG X scope own cl N' cap)
  (hg:∀C s₀ H₀ ex,PG (blkG X scope own cl N' C s₀ H₀ ex) tg g) (ht:∀C s₀ H₀ ex,PTs (blkG X scope own cl N' C s₀ H₀ ex) ifs tif) (he:∀C s₀ H₀ ex,PE (blkG X scope own cl N' C s₀ H₀ ex) elt te)
  (I2:Inv X pins σ H2 s₂) (T:Turn X.prog X.w X.K tg J fp it tn) (st2:tn 0 s₂.heap) (f2:∀b∈fp,FpOk X pins H2 b) (w0:W 0 m0 [] H2)
  (turn:∀i m ys H,W i m ys H→ys.length<sizeLine∧((J.stop i H∧∀D,H D=none→Q (.ref D) (upd H D (.lst ys)))∨(J.go i H∧∀x H',J.yld i H x H'→g x (capV cap σ) H' fun σ2 H2=>LeS (capV cap σ) σ2∧tif σ2 H2 fun b H3=>if b=true then te σ2 H3 fun v H4=>∃m',m'<m∧W (i+1) m' (ys++[v]) H4 else ∃m',m'<m∧W (i+1) m' ys H3)))
  (fin:∀(D C:Addr) (s4:Shared) (H':Hp) (ys:List V) (its:List Value) (k:Nat),s₂.heap.objs.size=D→D≤C→D≠C→Inv (blkG X scope own cl N' C s₂ H2 fp) [(D,{cls:=.type "list",data:=.seq its.toArray k})] (capV cap σ) H' s4→H' D=none→Vals ys its→ys.length<sizeLine→(∀D,H' D=none→Q (.ref D) (upd H' D (.lst ys)))→RR (.ref D) C (.ok .next) s4):
  wpAny (model X.prog X.w) X.A (newList []) (fun acc s₃=>wpAny (model X.prog X.w) X.A (newFunctionEnv scope X.env.globals cl [] X.env.qual none .none (some X.env)) (fun cenv s₄=>codeAny (model X.prog X.w) X.A (.compStart (.ListComp elt [⟨tg,iter,ifs,0⟩] scope pos) 0 (.ref it) acc {cenv with scope:=relabel scope X.env}) (RR acc cenv.locals) s₄) E s₃) E s₂:=by
 refine wpAny_newObj_type (newEnvG B.cf B.pc fun cenv hce hcl=>?_)
 rw[hce,hcl]
 dsimp only
 generalize hHH:s₂.heap.push {cls:=.type "list",dict:=none,data:=.seq ([]:List Value).toArray}=HH
 have hC:HH.objs.size=s₂.heap.objs.size+1:=by rw[← hHH,Heap.size_push]
 have hDC:s₂.heap.objs.size≠HH.objs.size:=by rw[hC];exact Nat.ne_of_lt (Nat.lt_succ_self _)
 generalize hh1:cellH own (HH.push {cls:=.type "dict",data:=.dict #[]})=h₁
 have old1:∀b o,(HH.push {cls:=.type "dict",data:=.dict #[]}).get? b=some o→h₁.get? b=some o:=fun b o e=>by rw[← hh1];exact cellH_old own e
 have old:∀b o,s₂.heap.get? b=some o→h₁.get? b=some o:=fun b o e=>old1 b o (Heap.get?_push_of_some _ (by rw[← hHH];exact Heap.get?_push_of_some _ e))
 have hacc:h₁.get? s₂.heap.objs.size=some {cls:=.type "list",data:=.seq ([]:List Value).toArray}:=old1 _ _ (Heap.get?_push_of_some _ (by rw[← hHH];exact Heap.get?_push_size _ rfl))
 have hns₁:h₁.Ns HH.objs.size (fun _=>none):=(Heap.Ns.new HH (.type "dict")).keeps old1
 have hcell:∀y,own=some y→h₁.get? (HH.objs.size+1)=some {cls:=.type "cell",data:=.cell none}:=fun y hy=>by
  rw[← hh1,hy,show HH.objs.size+1=(HH.push {cls:=.type "dict",data:=.dict #[]}).objs.size from(Heap.size_push ..).symm]
  exact Heap.get?_push_size _ rfl
 have hCs:s₂.heap.objs.size≤HH.objs.size:=by rw[hC];exact Nat.le_succ _
 generalize hD:s₂.heap.objs.size=D at *
 generalize hCC:HH.objs.size=C at *

 have fpD:∀b∈fp,b<D:=fun b hb=>by
  obtain⟨o,e,_⟩:=T.obj _ _ st2 b hb
  rw[← hD];exact Heap.lt_size e
 have cellD:∀x c,cl.lookup x=some c→c<D:=fun x c e=>by
  obtain⟨v,q⟩:=I2.cell x c (B.sub x c e)
  rw[← hD];exact q.lt
 have lk:∀y c,(ownC own C cl).lookup y=some c→(own=some y∧c=C+1)∨cl.lookup y=some c:=fun y c e=>own_lk e
 have lk':∀y c,own≠some y→cl.lookup y=some c→(ownC own C cl).lookup y=some c:=fun y c h e=>own_lk' h e
 have cellN:∀y c,(ownC own C cl).lookup y=some c→c≠D:=fun y c e=>by
  rcases lk y c e with⟨_,z⟩|z
  ·rw[z];exact Nat.ne_of_gt (Nat.lt_succ_of_le hCs)
  ·exact Nat.ne_of_lt (cellD y c z)
 have fsX:∀b∈frs X.stack,b∈X.env.locals::X.fs:=fun b hb=>I2.stkSub b hb
 have ok:(blkG X scope own cl N' C s₂ H2 fp).Ok:=by
  refine⟨I2.mod,B.kind,I2.ok.glob,I2.ok.blt,?_,?_,?_,?_,I2.ok.hd,I2.ok.frames,.inl rfl,fun b hb=>⟨?_,fun x c e z=>?_⟩,I2.bs,Nat.le_trans I2.ok.bsz I2.sz,fun b o e hb=>?_,fun b hb hf=>?_,I2.stack,I2.stkFree⟩
  ·show s₂.heap.objs.size≤C
   rw[hD];exact hCs
  ·intro x y c h1 h2
   rcases lk x c h1 with⟨a1,b1⟩|z1<;>rcases lk y c h2 with⟨a2,b2⟩|z2
   ·rw[a1]at a2;exact Option.some.inj a2
   ·have:=cellD y c z2;exact absurd (Nat.lt_of_lt_of_le this hCs) (by rw[b1];exact Nat.not_lt.mpr (Nat.le_succ _))
   ·have:=cellD x c z1;exact absurd (Nat.lt_of_lt_of_le this hCs) (by rw[b2];exact Nat.not_lt.mpr (Nat.le_succ _))
   ·exact I2.ok.inj x y c (B.sub x c z1) (B.sub y c z2)
  ·intro y hy
   rcases B.has y hy with h|⟨c,e⟩
   ·exact⟨C+1,own_hd h⟩
   ·by_cases h:own=some y
    ·exact⟨C+1,own_hd h⟩
    ·exact⟨c,lk' y c h e⟩
  ·intro y c hf e
   rcases lk y c e with⟨_,z⟩|z
   ·rw[z,hD];exact Nat.le_succ_of_le hCs
   ·rw[B.ono y (ownF_t hf)]at z;cases z
  ·exact Nat.ne_of_lt (Nat.lt_of_lt_of_le (fpD b hb) hCs)
  ·rcases lk x c e with⟨_,q⟩|q
   ·rw[q]at z
    exact Nat.ne_of_lt (Nat.lt_of_lt_of_le (fpD b hb) (Nat.le_succ_of_le hCs)) z.symm
   ·exact(f2 b hb).2.2.2.2.1 x c (B.sub x c q) z
  ·have h1:=f2 b hb
   rcases h1.2.2.2.1 with z|z
   ·exact I2.ok.noex b o e z
   ·have h2:=(I2.ok.bs b o e).1
    exact absurd (Nat.lt_of_lt_of_le (Heap.lt_size h2) z) (Nat.lt_irrefl _)
  ·rcases List.mem_cons.mp (fsX b hf)with z|z
   ·exact(f2 b hb).2.1 z
   ·exact(f2 b hb).2.2.1 z
 have freshH:∀a,D≤a→H2 a=none:=fun a ha=>I2.hok.fresh (by rw[hD];exact ha)
 have I4:Inv (blkG X scope own cl N' C s₂ H2 fp) [] (capV cap σ) H2 {s₂ with heap:=h₁}:=by
  refine⟨ok,rfl,I2.bare,Un.kept old,⟨_,hns₁,fun i x v e1 e2 e3=>?_⟩,fun x c e=>?_,freshH C hCs,fun x c e=>?_,fun p hp=>absurd (show p∈([]:List (Addr×Obj))from hp) (by simp),I2.hok.kept old,?_⟩
  ·have e1':N'[i]?=some x:=e1
   unfold capV at e2
   rw[List.getElem?_map]at e2
   cases hcap:cap[i]? with
   |none=>rw[hcap]at e2;cases e2
   |some o=>
    rw[hcap]at e2
    cases o with
    |none=>cases e2
    |some j=>
     obtain⟨hN,hv,hk,hnl,hnk⟩:=B.cap i x j e1' hcap
     have e4:σ[j]?=some (some v):=by
      have e5:some ((σ[j]?).join)=some (some v):=e2
      cases hq:σ[j]? with
      |none=>rw[hq]at e5;cases e5
      |some q=>rw[hq]at e5;exact e5
     obtain⟨m,hn,hl⟩:=I2.loc
     obtain⟨u,r,l⟩:=hl j x v hN e4 hv
     refine⟨u,r,.inr ⟨hk,?_⟩⟩
     rcases l with⟨k,_⟩|⟨k,c,hcl,o,ho,hd⟩
     ·exact absurd k hnl
     ·obtain⟨c',hc'⟩:=(B.has x hk).resolve_left hnk
      have e6:=B.sub x c' hc'
      rw[hcl]at e6
      cases e6
      exact⟨c,lk' x c hnk hc',o,old c o ho,hd⟩
  ·rcases lk x c e with⟨q,z⟩|z
   ·rw[z];exact⟨none,_,hcell x q,rfl⟩
   ·obtain⟨v,o,ho,hd⟩:=I2.cell x c (B.sub x c z)
    exact⟨v,o,old c o ho,hd⟩
  ·rcases lk x c e with⟨_,z⟩|z
   ·rw[z];exact freshH _ (Nat.le_succ_of_le hCs)
   ·exact I2.freeC x c (B.sub x c z)
  ·show(capV cap σ).length=N'.length
   unfold capV
   rw[List.length_map];exact B.len
 have neDC:D≠C:=hDC
 have dfs:D∉frs X.stack:=fun hb=>by
  obtain⟨_,o,ho,_⟩:=I2.stack.mem hb
  have:=Heap.lt_size ho
  rw[hD]at this
  exact absurd this (Nat.lt_irrefl _)
 have stat:∀{P:List (Addr×Obj)} {H':Hp},(∀p∈P,p.1=D)→(∀b∈fp,H' b=none)→∀b∈fp,FpOk (blkG X scope own cl N' C s₂ H2 fp) P H' b:=fun hP hn b hb=>
  ⟨hn b hb,(ok.exf b hb).1,ok.exfs b hb,.inl hb,(ok.exf b hb).2,fun p hp z=>by
   have hp':p∈_:=hp
   rw[hP p (by simpa using hp')]at z
   exact Nat.ne_of_gt (fpD b hb) z⟩
 have loop:∀s₃:Shared,s₃={s₂ with heap:=h₁}→
   codeAny (model X.prog X.w) X.A (.compLoop (.ListComp elt [⟨tg,iter,ifs,0⟩] scope pos) 0 (.ref it) (.ref D) (compEnvC scope (ownC own C cl) C X.env)) (RR (.ref D) C) s₃:=by
  rintro s₃ rfl
  refine comp_loop_go (fun n s'=>∃i ys its H' k,Inv (blkG X scope own cl N' C s₂ H2 fp) [] (capV cap σ) H' s'∧tn i s'.heap∧(∀b∈fp,H' b=none)∧H' D=none∧s'.heap.get? D=some {cls:=.type "list",data:=.seq (its:List Value).toArray k}∧Vals ys its∧W i n ys H') ?_ m0
   ⟨0,[],[],H2,0,I4,T.keep _ _ _ st2 fun b _ o e=>old b o e,fun b hb=>(f2 b hb).1,freshH D (Nat.le_refl _),hacc,.nil,w0⟩
  rintro n s' ⟨i,ys,its,H',k,Ia,sta,fra,hDa,hDo,rv,wa⟩
  obtain⟨hsz,tu⟩:=turn i n ys H' wa
  have Ib:Inv (blkG X scope own cl N' C s₂ H2 fp) [(D,{cls:=.type "list",data:=.seq its.toArray k})] (capV cap σ) H' s':=Ia.pins_of fun p hp=>by
   have hp':p=(D,{cls:=.type "list",data:=.seq its.toArray k}):=by simpa using hp
   subst hp'
   exact⟨hDo,hDa,neDC,dfs,fun v z=>nomatch z⟩
  have hPD:∀p∈[((D,{cls:=.type "list",data:=.seq its.toArray k}):Addr×Obj)],p.1=D:=fun p hp=>by
   have hp':p=(D,{cls:=.type "list",data:=.seq its.toArray k}):=by simpa using hp
   rw[hp']
  rcases tu with⟨stop,qn⟩|⟨go,step⟩
  ·refine wpAny_mono (T.done (blkG X scope own cl N' C s₂ H2 fp) rfl rfl rfl hc i _ s' (capV cap σ) H' (fun _ _=>False) Ib (stat hPD fra) sta stop) (fun r s4 hr4=>?_) fun _ _ z=>z.elim
   obtain⟨hr,Ic⟩:=hr4
   subst hr
   exact fin D C s4 H' ys its k rfl hCs neDC Ic hDa rv hsz qn
  ·refine wpAny_mono (T.item (blkG X scope own cl N' C s₂ H2 fp) rfl rfl rfl hc i _ s' (capV cap σ) H' (fun _ _=>False) Ib (stat hPD fra) sta go) (fun r s4 hr4=>?_) fun _ _ z=>z.elim
   obtain⟨u,hr,h4⟩:=hr4
   subst hr
   refine wpAny_mono h4 (fun _ s5 h5=>?_) fun _ _ z=>z.elim
   obtain⟨x,H5,I5,r5,y5,st5,fr5⟩:=h5
   have I5':=I5.pinned (stat hPD fr5) (T.obj _ _ st5)
   refine wpAny_mono (hg C s₂ H2 fp _ s5 (capV cap σ) H5 x u _ I5' r5 (step x H5 y5)) (fun _ s6 h6=>?_) fun _ _ z=>z.elim
   obtain⟨σ6,H6,I6,le6,q6⟩:=h6
   refine wpAny_mono (ht C s₂ H2 fp _ s6 σ6 H6 _ I6 q6) (fun b s7 h7=>?_) fun _ _ z=>z.elim
   obtain⟨H7,I7,q7⟩:=h7

   have back:∀{σ':St} {H'':Hp} {s'':Shared},Inv (blkG X scope own cl N' C s₂ H2 fp) ([((D,{cls:=.type "list",data:=.seq its.toArray k}):Addr×Obj)]++pinsAt fp s5.heap) σ' H'' s''→
     s''.heap.get? D=some {cls:=.type "list",data:=.seq its.toArray k}∧H'' D=none∧(∀b∈fp,H'' b=none)∧tn (i+1) s''.heap:=fun{σ' H'' s''} Iz=>by
    have pz:=fun p hp=>Iz.pin p (List.mem_append_right _ hp)
    have pD:=pz (D,{cls:=.type "list",data:=.seq its.toArray k}) (List.mem_append_left _ List.mem_cons_self)
    refine⟨pD.1,pD.2.1,fun b hb=>?_,T.keep _ _ _ st5 fun b hb o e=>(pz (b,o) (List.mem_append_right _ (mem_pinsAt hb e))).1⟩
    obtain⟨o,e,_⟩:=T.obj _ _ st5 b hb
    exact(pz (b,o) (List.mem_append_right _ (mem_pinsAt hb e))).2.1
   have hits:its.length=ys.length:=rv.length.symm
   cases b with
   |false=>
    rw[if_neg Bool.false_ne_true]at q7 ⊢
    obtain⟨m',hm,w7⟩:=q7
    obtain⟨b1,b2,b3,b4⟩:=back I7
    exact⟨m',hm,i+1,ys,its,H7,k,(I7.pins_of (pins':=[]) fun p hp=>absurd hp (by simp)).weak le6.len le6.get,b4,b3,b2,b1,rv,w7⟩
   |true=>
    rw[if_pos rfl]at q7 ⊢
    refine wpAny_mono (he C s₂ H2 fp _ s7 σ6 H7 _ I7 q7) (fun y s8 h8=>?_) fun _ _ z=>z.elim
    obtain⟨v,H8,I8,r8,m',hm,w8⟩:=h8
    obtain⟨b1,b2,b3,b4⟩:=back I8
    refine wpAny_list_append_plain (l:=D) (items:=its.toArray) (hsz:=by rw[List.size_toArray];omega) ⟨k,b1⟩ fun h' hl' hsb=>?_
    obtain⟨k',e'⟩:=hl'
    have I9:Inv (blkG X scope own cl N' C s₂ H2 fp) [] σ6 H8 {s8 with heap:=h',toks:=s8.toks}:=(I8.pins_of (pins':=[]) fun p hp=>absurd hp (by simp)).turned (it:=D) (fun b o hb e=>(hsb.2 b hb).trans e) b2 neDC (.inr (Nat.le_of_eq hD))
     (fun x c e=>cellN x c e) (fun p hp=>absurd (show p∈([]:List (Addr×Obj))from hp) (by simp))
    refine⟨m',hm,i+1,ys++[v],its++[y],H8,k',I9.weak le6.len le6.get,T.keep _ _ _ b4 fun b hb o e=>(hsb.2 b (Nat.ne_of_lt (fpD b hb))).trans e,b3,b2,?_,rv.append (.cons r8 .nil),w8⟩
    have e'':h'.get? D=_:=e'
    rw[List.push_toArray]at e''
    exact e''
 exact codeAny_compStart_list (loop _ rfl) (T.self X.A 0 _ _ _ (T.keep _ _ _ st2 fun b _ o e=>old b o e) (loop _ rfl))
theorem pe_compG {X:Cx} {elt tg iter:Expr} {ifs:List Expr} {scope:Scope} {own:Option Str} {cl:List (Str×Addr)} {pos:Pos} {N':List Str} {cap:List (Option Nat)} {wi:TI} {g:TG} {tif:TT} {te:TE}
  (hc:X.calm=true) (B:BlkG X scope own cl N' cap) (hi:PI X tg iter wi)
  (hg:∀C s₀ H₀ ex,PG (blkG X scope own cl N' C s₀ H₀ ex) tg g) (ht:∀C s₀ H₀ ex,PTs (blkG X scope own cl N' C s₀ H₀ ex) ifs tif) (he:∀C s₀ H₀ ex,PE (blkG X scope own cl N' C s₀ H₀ ex) elt te)
  (hs:∀x,foldedSetIterable iter X.env x=pure x:=by intro _;rfl):PE X (.ListComp elt [⟨tg,iter,ifs,0⟩] scope pos) (tComp cap wi g tif te):=by
 intro pins s σ H Q I h
 rw[eval_ListComp]
 refine wpAny_comprehension_free (use:=none) rfl hs B.clos B.kind B.names (thn (hi pins s σ H _ I h) fun xv s₁ h₁=>thn h₁ fun itv s₂ h₂=>?_)
 obtain⟨it,fp,tn,J,H2,e,I2,T,st2,f2,W,⟨m0,w0⟩,turn⟩:=h₂
 subst e
 refine compG_core (RR:=fun acc C=>compPost (model X.prog X.w) X.A X.xe none (EP X pins σ Q) acc C) hc B hg ht he I2 T st2 f2 w0 turn fun D C s4 H' ys its k hD hCs neDC Ic hDa rv hsz qn=>?_
 obtain⟨m,hn,_⟩:=Ic.loc
 refine⟨m,hn,fun h' hsb=>?_⟩
 have hDo4:s4.heap.get? D=some {cls:=.type "list",data:=.seq its.toArray k}:=(Ic.pin (D,_) (by simp)).1
 have hCn:H' C=none:=Ic.free
 have un:Un (frs X.stack) fp H2 (upd H' D (.lst ys)) s₂.heap h':=by
  have bs:=Ic.base
  have neC:∀b o,s₂.heap.get? b=some o→h'.get? b=s4.heap.get? b:=fun b o e=>by
   have:b<D:=by rw[← hD];exact Heap.lt_size e
   exact hsb.2 b (Nat.ne_of_lt (Nat.lt_of_lt_of_le this hCs))
  refine⟨fun b o e n h1 h2=>(neC b o e).trans (bs.keep b o e n h1 h2),fun b o e n h1 h2=>?_,fun b o e n h2=>?_,fun b o e h2=>?_,fun b xs e=>?_,fun b o u e=>?_,fun b ps e=>?_⟩
  ·obtain⟨sl,q⟩:=bs.slot b o e n h1 h2
   exact⟨sl,(neC b o e).trans q⟩
  ·have:b<D:=by rw[← hD];exact Heap.lt_size e
   rw[upd_ne (Nat.ne_of_lt this)]
   exact bs.free b o e n h2
  ·obtain⟨o',q⟩:=bs.there b o e h2
   exact⟨o',(neC b o e).trans q⟩
  ·have q:=bs.tups b xs e
   rw[upd_ne (ne_of_none q hDa)];exact q
  ·have q:=bs.frzs b o u e
   rw[upd_ne (ne_of_none q hDa)];exact q
  ·obtain⟨more,q⟩:=bs.tbls b ps e
   exact⟨more,by rw[upd_ne (ne_of_none q hDa)];exact q⟩
 have hok:HOk X.prog X.w (upd H' D (.lst ys)) h':=fun b u e=>by
  by_cases hb:b=D
  ·subst hb
   rw[upd_same]at e
   cases e
   exact⟨Nat.le_of_lt hsz,its,k,rv,(hsb.2 _ (by show _≠C;exact neDC)).trans hDo4⟩
  ·rw[upd_ne hb]at e
   refine(Ic.hok b u e).stay (fun c v hcc q=>(hsb.2 c ?_).trans q) (fun c q=>by rw[upd_ne (ne_of_none q hDa)];exact q) fun c xs q=>by rw[upd_ne (ne_of_none q hDa)];exact q
   rcases hcc with z|z
   ·rw[z];exact ne_of_none e hCn
   ·exact ne_of_none z hCn
 have If:=I2.call' (s':={s4 with heap:=h'}) (H':=upd H' D (.lst ys)) (ch:=fp) Ic.os un hok Ic.bare fun b hb=>⟨(f2 b hb).2.2.2.1,(f2 b hb).2.1,(f2 b hb).2.2.2.2.1,(f2 b hb).2.2.2.2.2⟩
 exact⟨.ref D,_,If,rfl,qn D hDa⟩
theorem nocells:∀{names:List (Str×NameKind)},(∀y∈names,y.2≠.cell)→(∀n cl,cellsFrom n names cl=cl)∧∀h,pushCells h names=h
 |[],_=>⟨fun _ _=>rfl,fun _=>rfl⟩
 |(x,k)::r,h=>by
  have hk:(k==NameKind.cell)=false:=by simpa using h (x,k) List.mem_cons_self
  obtain⟨h1,h2⟩:=nocells (names:=r) fun y hy=>h y (List.mem_cons_of_mem _ hy)
  refine⟨fun n cl=>?_,fun h=>?_⟩
  ·unfold cellsFrom
   rw[if_neg (by rw[hk];exact Bool.false_ne_true),h1]
  ·unfold pushCells
   rw[if_neg (by rw[hk];exact Bool.false_ne_true),h2]
theorem Blk.g {X:Cx} {scope:Scope} {cl:List (Str×Addr)} {N':List Str} {cap:List (Option Nat)} (B:Blk X scope cl N' cap):BlkG X scope none cl N' cap:=
 ⟨B.clos,fun n=>(nocells B.cells).1 _ _,(nocells B.cells).2,B.kind,B.names,B.len,(fun _ z=>by cases z),B.sub,fun x h=>.inr (B.has x h),fun i x j h1 h2=>let ⟨a,b,c,d⟩:=B.cap i x j h1 h2;⟨a,b,c,d,(fun z=>by cases z)⟩⟩
theorem pe_comp {X:Cx} {elt tg iter:Expr} {ifs:List Expr} {scope:Scope} {cl:List (Str×Addr)} {pos:Pos} {N':List Str} {cap:List (Option Nat)} {wi:TI} {g:TG} {tif:TT} {te:TE}
  (hc:X.calm=true) (B:Blk X scope cl N' cap) (hi:PI X tg iter wi)
  (hg:∀C s₀ H₀ ex,PG (blk X scope cl N' C s₀ H₀ ex) tg g) (ht:∀C s₀ H₀ ex,PTs (blk X scope cl N' C s₀ H₀ ex) ifs tif) (he:∀C s₀ H₀ ex,PE (blk X scope cl N' C s₀ H₀ ex) elt te)
  (hs:∀x,foldedSetIterable iter X.env x=pure x:=by intro _;rfl):PE X (.ListComp elt [⟨tg,iter,ifs,0⟩] scope pos) (tComp cap wi g tif te):=pe_compG (own:=none) hc B.g hi hg ht he hs
end L2
namespace L3
open PySem PySem.Spec PyProof.Rows L2
open PySem.W (Dat kqdOk kqdP kqdPs kqd_lay kqd_eqv)
abbrev Fg:=PySem.W.Frag
abbrev AvP:=Addr→Prop
abbrev Rho:=List (Option Dat)
def SqTA (K:Fg) (H:Hp) (Av:AvP) (a:Addr) (xs:List V):Prop:=
 (Rd H a (.tup xs)∧¬Av a)∨∃(o:Obj) (its:Array Value) (n:Nat),K.lookup a=some o∧o.cls=.type "tuple"∧o.data=.seq its n∧its.size≤sizeLine∧Vals xs its.toList
def SqLA (K:Fg) (H:Hp) (Av:AvP) (a:Addr) (xs:List V):Prop:=
 (Rd H a (.lst xs)∧¬Av a)∨∃(o:Obj) (its:Array Value) (n:Nat),K.lookup a=some o∧o.cls=.type "list"∧o.dict=none∧o.data=.seq its n∧its.size≤sizeLine∧Vals xs its.toList
theorem SqTA.sq {K:Fg} {H:Hp} {Av:AvP} {a:Addr} {xs:List V} (h:SqTA K H Av a xs):SqT K H a xs:=h.elim (fun z=>.inl z.1) .inr
theorem SqLA.sq {K:Fg} {H:Hp} {Av:AvP} {a:Addr} {xs:List V} (h:SqLA K H Av a xs):SqL K H a xs:=h.elim (fun z=>.inl z.1) .inr
mutual
inductive RepD (K:Fg) (H:Hp) (Av:AvP):V→Dat→Prop
 |non:RepD K H Av .non .none
 |bl (b:Bool):RepD K H Av (.bl b) (.bool b)
 |int (i:Int):RepD K H Av (.int i) (.int i)
 |str (x:Str):RepD K H Av (.str x) (.str x)
 |tup {a:Addr} {xs:List V} {ds:List Dat}:SqTA K H Av a xs→RepDs K H Av xs ds→RepD K H Av (.ref a) (.tuple ds)
 |lst {a:Addr} {xs:List V} {ds:List Dat}:SqLA K H Av a xs→RepDs K H Av xs ds→RepD K H Av (.ref a) (.list ds)
inductive RepDs (K:Fg) (H:Hp) (Av:AvP):List V→List Dat→Prop
 |nil:RepDs K H Av [] []
 |cons {v:V} {vs:List V} {d:Dat} {ds:List Dat}:RepD K H Av v d→RepDs K H Av vs ds→RepDs K H Av (v::vs) (d::ds)
end
section
variable {K:Fg} {H H' H1:Hp} {Av Av':AvP}
def Keep (H:Hp) (Av:AvP) (H':Hp) (Av':AvP):Prop:=∀b o,H b=some o→¬Av b→H' b=some o∧¬Av' b
theorem rd_keep (k:Keep H Av H' Av') {a:Addr} {u:HO} (h:Rd H a u∧¬Av a):Rd H' a u∧¬Av' a:=by
 obtain⟨h,n⟩:=h
 rcases h with h|⟨o,h⟩
 ·exact⟨.inl (k _ _ h n).1,(k _ _ h n).2⟩
 ·exact⟨.inr ⟨o,(k _ _ h n).1⟩,(k _ _ h n).2⟩
mutual
theorem RepD.mono (k:Keep H Av H' Av'):∀{v:V} {d:Dat},RepD K H Av v d→RepD K H' Av' v d
 |_,_,.non=>.non
 |_,_,.bl b=>.bl b
 |_,_,.int i=>.int i
 |_,_,.str x=>.str x
 |_,_,.tup h r=>.tup (h.elim (fun z=>.inl (rd_keep k z)) .inr) (RepDs.mono k r)
 |_,_,.lst h r=>.lst (h.elim (fun z=>.inl (rd_keep k z)) .inr) (RepDs.mono k r)
theorem RepDs.mono (k:Keep H Av H' Av'):∀{vs:List V} {ds:List Dat},RepDs K H Av vs ds→RepDs K H' Av' vs ds
 |_,_,.nil=>.nil
 |_,_,.cons h r=>.cons (RepD.mono k h) (RepDs.mono k r)
end
theorem keep_same (e:Same H H'):Keep H Av H' Av:=fun b o h n=>⟨e b o h,n⟩
theorem keep_weak (w:∀a,Av' a→Av a):Keep H Av H Av':=fun b o h n=>⟨h,fun z=>n (w _ z)⟩
theorem RepD.same (e:Same H H') {v:V} {d:Dat} (r:RepD K H Av v d):RepD K H' Av v d:=r.mono (keep_same e)
theorem RepDs.same (e:Same H H') {v:List V} {d:List Dat} (r:RepDs K H Av v d):RepDs K H' Av v d:=r.mono (keep_same e)
theorem RepD.weak (w:∀a,Av' a→Av a) {v:V} {d:Dat} (r:RepD K H Av v d):RepD K H Av' v d:=r.mono (keep_weak w)
theorem RepDs.weak (w:∀a,Av' a→Av a) {v:List V} {d:List Dat} (r:RepDs K H Av v d):RepDs K H Av' v d:=r.mono (keep_weak w)
theorem RepDs.length:∀{vs:List V} {ds:List Dat},RepDs K H Av vs ds→vs.length=ds.length
 |_,_,.nil=>rfl
 |_,_,.cons _ r=>congrArg (· + 1) (RepDs.length r)
theorem RepDs.get:∀{vs:List V} {ds:List Dat} {i:Nat} {d:Dat},RepDs K H Av vs ds→ds[i]?=some d→∃v,vs[i]?=some v∧RepD K H Av v d
 |_,_,_,_,.nil,e=>by simp at e
 |_,_,0,_,.cons h _,e=>by simp at e;subst e;exact⟨_,rfl,h⟩
 |_,_,i+1,d,.cons _ r,e=>by
  obtain⟨v,h1,h2⟩:=RepDs.get (i:=i) (d:=d) r (by simpa using e)
  exact⟨v,by simpa using h1,h2⟩
theorem RepDs.append:∀{vs ws:List V} {ds es:List Dat},RepDs K H Av vs ds→RepDs K H Av ws es→RepDs K H Av (vs++ws) (ds++es)
 |_,_,_,_,.nil,s=>s
 |_,_,_,_,.cons h r,s=>.cons h (RepDs.append r s)
theorem RepDs.take:∀{vs:List V} {ds:List Dat} (n:Nat),RepDs K H Av vs ds→RepDs K H Av (vs.take n) (ds.take n)
 |_,_,0,_=>.nil
 |_,_,_+1,.nil=>.nil
 |_,_,n+1,.cons r t=>.cons r (RepDs.take n t)
theorem RepDs.drop:∀{vs:List V} {ds:List Dat} (n:Nat),RepDs K H Av vs ds→RepDs K H Av (vs.drop n) (ds.drop n)
 |_,_,0,r=>r
 |_,_,_+1,.nil=>.nil
 |_,_,n+1,.cons _ t=>RepDs.drop n t
theorem RepDs.ints (ns:List Int):RepDs K H Av (ns.map V.int) (ns.map Dat.int):=by
 induction ns with
 |nil=>exact .nil
 |cons n ns ih=>exact .cons (.int n) ih
theorem same_new {p:Addr} (h:H p=none) (o:HO):Same H (upd H p o):=fun b u q=>by rw[upd_ne (ne_of_none q h)];exact q
def AvT (H:Hp) (Av:AvP):Prop:=∀a,Av a→∃o,H a=some o
theorem AvT.same (e:Same H H') (h:AvT H Av):AvT H' Av:=fun a z=>let ⟨o,q⟩:=h a z;⟨o,e a o q⟩
theorem AvT.new (h:AvT H Av) {p:Addr} (e:H p=none):¬Av p:=fun z=>by
 obtain⟨o,q⟩:=h p z
 rw[e]at q;cases q
theorem RepD.newT (h:AvT H Av) {p:Addr} {xs:List V} {ds:List Dat} (e:H p=none) (r:RepDs K H Av xs ds):RepD K (upd H p (.tup xs)) Av (.ref p) (.tuple ds):=
 .tup (.inl ⟨.inl upd_same,h.new e⟩) (r.same (same_new e _))
theorem RepD.newL (h:AvT H Av) {p:Addr} {xs:List V} {ds:List Dat} (e:H p=none) (r:RepDs K H Av xs ds):RepD K (upd H p (.lst xs)) Av (.ref p) (.list ds):=
 .lst (.inl ⟨.inl upd_same,h.new e⟩) (r.same (same_new e _))
def REnv (K:Fg) (H:Hp) (Av:AvP) (σ:L2.St) (ρ:Rho):Prop:=∀(i:Nat) (d:Dat),ρ[i]?=some (some d)→∃v,σ[i]?=some (some v)∧RepD K H Av v d
theorem REnv.same {σ:L2.St} {ρ:Rho} (e:Same H H') (h:REnv K H Av σ ρ):REnv K H' Av σ ρ:=fun i d q=>let ⟨v,a,r⟩:=h i d q;⟨v,a,r.same e⟩
def tF (K:Fg) (f:Rho→Option Dat):TE:=fun σ H Q=>∃Av ρ d,AvT H Av∧REnv K H Av σ ρ∧f ρ=some d∧∀v H',Same H H'→RepD K H' Av v d→Q v H'
def tTF (K:Fg) (f:Rho→Option Bool):TT:=fun σ H Q=>∃Av ρ b,AvT H Av∧REnv K H Av σ ρ∧f ρ=some b∧∀H',Same H H'→Q b H'
def tFA (K:Fg) (f:Rho→Option (List Dat)):TA:=fun σ H Q=>∃Av ρ ds,AvT H Av∧REnv K H Av σ ρ∧f ρ=some ds∧∀vs H',Same H H'→RepDs K H' Av vs ds→Q vs H'
end
abbrev PF (X:Cx) (e:Expr) (f:Rho→Option Dat):Prop:=PE X e (tF X.K f)
abbrev PFT (X:Cx) (e:Expr) (f:Rho→Option Bool):Prop:=PT X e (tTF X.K f)
abbrev PFA (X:Cx) (e:List Expr) (f:Rho→Option (List Dat)):Prop:=PA X e (tFA X.K f)
section
variable {X:Cx} {a b c e:Expr} {es:List Expr} {pos:Pos} {fa fb fc f:Rho→Option Dat} {fs:Rho→Option (List Dat)}
theorem pe_mono {t t':TE} (h:PE X e t) (m:∀σ H Q,t' σ H Q→t σ H Q):PE X e t':=fun pins s σ H Q I q=>h pins s σ H Q I (m σ H Q q)
theorem pt_mono {t t':TT} (h:PT X e t) (m:∀σ H Q,t' σ H Q→t σ H Q):PT X e t':=fun pins s σ H Q I q=>h pins s σ H Q I (m σ H Q q)
theorem pw_mono {t t':TT} (h:PW X e t) (m:∀σ H Q,t' σ H Q→t σ H Q):PW X e t':=fun w pins s σ H Q I q=>h w pins s σ H Q I (m σ H Q q)
theorem pa_mono {t t':TA} (h:PA X es t) (m:∀σ H Q,t' σ H Q→t σ H Q):PA X es t':=fun p pins s σ H Q I q=>h p pins s σ H Q I (m σ H Q q)
def fVar (i:Nat):Rho→Option Dat:=fun ρ=>(ρ[i]?).join
def fC (d:Dat):Rho→Option Dat:=fun _=>some d
theorem join_some {o:Option (Option Dat)} {d:Dat} (h:o.join=some d):o=some (some d):=by
 cases o with
 |none=>cases h
 |some q=>exact congrArg some h
def f2 (g:Dat→Dat→Option Dat) (fa fb:Rho→Option Dat):Rho→Option Dat:=fun ρ=>(fa ρ).bind fun a=>(fb ρ).bind fun b=>g a b
def OpD (K:Fg) (r:R2) (g:Dat→Dat→Option Dat):Prop:=∀(H:Hp) (Av:AvP) (x y:V) (dx dy d:Dat) (Q:VK),AvT H Av→RepD K H Av x dx→RepD K H Av y dy→g dx dy=some d→(∀v H',Same H H'→RepD K H' Av v d→Q v H')→r x y H Q
theorem bind_some {α β:Type} {o:Option α} {g:α→Option β} {b:β} (h:o.bind g=some b):∃a,o=some a∧g a=some b:=by
 cases o with
 |none=>cases h
 |some a=>exact⟨a,rfl,h⟩
theorem tF_op {K:Fg} {r:R2} {g:Dat→Dat→Option Dat} (hr:OpD K r g):∀σ H Q,tF K (f2 g fa fb) σ H Q→tOp r (tF K fa) (tF K fb) σ H Q:=by
 rintro σ H Q ⟨Av,ρ,d,hA,hE,hf,q⟩
 obtain⟨dx,e1,hf⟩:=bind_some hf
 obtain⟨dy,e2,hf⟩:=bind_some hf
 refine⟨Av,ρ,dx,hA,hE,e1,fun x H1 s1 r1=>⟨Av,ρ,dy,hA.same s1,hE.same s1,e2,fun y H2 s2 r2=>?_⟩⟩
 exact hr H2 Av x y dx dy d Q (hA.same (s1.trans s2)) (r1.same s2) r2 hf fun v H' s3 r3=>q v H' (s1.trans (s2.trans s3)) r3
theorem pf_bin {op:Operator} {r:R2} {g:Dat→Dat→Option Dat} (ho:OpR X (binaryOp op) r) (hd:OpD X.K r g) (ha:PF X a fa) (hb:PF X b fb):PF X (.BinOp a op b pos) (f2 g fa fb):=pe_mono (pe_op ho ha hb) (tF_op hd)
theorem pf_cmp {op:CmpOp} {r:R2} {g:Dat→Dat→Option Dat} (ho:OpR X (compareOp op) r) (hd:OpD X.K r g) (ha:PF X a fa) (hb:PF X b fb) (hm:behindInMarks op b=false):PF X (.Compare a [op] [b] pos) (f2 g fa fb):=pe_mono (pe_cmpR ho ha hb hm) (tF_op hd)
def asB:Dat→Option Bool
 | .bool b=>some b
 |_=>none
def fTest (f:Rho→Option Dat):Rho→Option Bool:=fun ρ=>(f ρ).bind asB
theorem asB_some {d:Dat} {b:Bool} (h:asB d=some b):d=.bool b:=by
 cases d<;>first|(cases h;done)|(simp only[asB,Option.some.injEq]at h;rw[h])
theorem RepD.b_inv {K:Fg} {H:Hp} {Av:AvP} {v:V} {b:Bool} (h:RepD K H Av v (.bool b)):v=.bl b:=by cases h;rfl
theorem RepD.i_inv {K:Fg} {H:Hp} {Av:AvP} {v:V} {b:Int} (h:RepD K H Av v (.int b)):v=.int b:=by cases h;rfl
theorem RepD.s_inv {K:Fg} {H:Hp} {Av:AvP} {v:V} {b:Str} (h:RepD K H Av v (.str b)):v=.str b:=by cases h;rfl
theorem RepD.n_inv {K:Fg} {H:Hp} {Av:AvP} {v:V} (h:RepD K H Av v .none):v=.non:=by cases h;rfl
theorem RepD.t_inv {K:Fg} {H:Hp} {Av:AvP} {v:V} {ds:List Dat} (h:RepD K H Av v (.tuple ds)):∃a xs,v=.ref a∧SqTA K H Av a xs∧RepDs K H Av xs ds:=by cases h with|tup h r=>exact⟨_,_,rfl,h,r⟩
theorem RepD.l_inv {K:Fg} {H:Hp} {Av:AvP} {v:V} {ds:List Dat} (h:RepD K H Av v (.list ds)):∃a xs,v=.ref a∧SqLA K H Av a xs∧RepDs K H Av xs ds:=by cases h with|lst h r=>exact⟨_,_,rfl,h,r⟩
theorem tTest_F {K:Fg} {t:TE} {f:Rho→Option Dat} (m:∀σ H Q,tF K f σ H Q→t σ H Q):∀σ H Q,tTF K (fTest f) σ H Q→tTest t σ H Q:=by
 rintro σ H Q ⟨Av,ρ,b,hA,hE,hf,q⟩
 obtain⟨d,e1,hf⟩:=bind_some hf
 have e2:=asB_some hf
 subst e2
 exact m σ H _ ⟨Av,ρ,.bool b,hA,hE,e1,fun v H' s r=>⟨b,r.b_inv,q H' s⟩⟩
theorem pft_cmp {op:CmpOp} {r:R2} {g:Dat→Dat→Option Dat} (ho:OpR X (compareOp op) r) (hd:OpD X.K r g) (ha:PF X a fa) (hb:PF X b fb) (hm:behindInMarks op b=false):PFT X (.Compare a [op] [b] pos) (fTest (f2 g fa fb)):=pt_mono (pt_cmpR ho ha hb hm) (tTest_F (tF_op hd))
def truD:Dat→Option Bool
 | .none=>some false
 | .bool b=>some b
 | .int i=>some (i !=0)
 | .str y=>if y.length≤sizeLine then some ((y.length:Int) !=0)else none
 | .list ds=>some (!ds.isEmpty)
 | .tuple ds=>some (!ds.isEmpty)
 |_=>none
def fTru (f:Rho→Option Dat):Rho→Option Bool:=fun ρ=>(f ρ).bind truD
theorem RepDs.emp {K:Fg} {H:Hp} {Av:AvP} {vs:List V} {ds:List Dat} (h:RepDs K H Av vs ds):ds.isEmpty=vs.isEmpty:=by cases h<;>rfl
theorem truD_V {K:Fg} {H:Hp} {Av:AvP} {v:V} {d:Dat} {k:Bool} (r:RepD K H Av v d) (h:truD d=some k):TruV K v H k:=by
 cases r with
 |non=>cases h;exact rfl
 |bl b=>cases h;exact rfl
 |int i=>cases h;exact rfl
 |str x=>
  simp only[truD]at h
  split at h
  ·rename_i hz;cases h;exact⟨hz,rfl⟩
  ·cases h
 |tup hq rs=>cases h;exact .inr (.inl ⟨_,hq.sq,by rw[rs.emp]⟩)
 |lst hq rs=>cases h;exact .inl ⟨_,hq.sq,by rw[rs.emp]⟩
def fAndT (f g:Rho→Option Bool):Rho→Option Bool:=fun ρ=>(f ρ).bind fun c=>if c=true then g ρ else some false
def fOrT (f g:Rho→Option Bool):Rho→Option Bool:=fun ρ=>(f ρ).bind fun c=>if c=true then some true else g ρ
def fNotT (f:Rho→Option Bool):Rho→Option Bool:=fun ρ=>(f ρ).map (!·)
variable {ft gt:Rho→Option Bool} {rest:List Expr}
abbrev PFW (X:Cx) (e:Expr) (f:Rho→Option Bool):Prop:=PW X e (tTF X.K f)
def fAnd (f g:Rho→Option Dat):Rho→Option Dat:=fun ρ=>(f ρ).bind fun d=>(asB d).bind fun c=>if c=true then g ρ else some (.bool false)
def fOr (f g:Rho→Option Dat):Rho→Option Dat:=fun ρ=>(f ρ).bind fun d=>(asB d).bind fun c=>if c=true then some (.bool true)else g ρ
def fNot (f:Rho→Option Dat):Rho→Option Dat:=fun ρ=>(f ρ).bind fun d=>(asB d).map fun c=>.bool (!c)
def fIf (ft:Rho→Option Bool) (f g:Rho→Option Dat):Rho→Option Dat:=fun ρ=>(ft ρ).bind fun c=>if c=true then f ρ else g ρ
def f1 (g:Dat→Option Dat) (fa:Rho→Option Dat):Rho→Option Dat:=fun ρ=>(fa ρ).bind g
def UnD (K:Fg) (r:V→Hp→VK→Prop) (g:Dat→Option Dat):Prop:=∀(H:Hp) (Av:AvP) (x:V) (dx d:Dat) (Q:VK),AvT H Av→RepD K H Av x dx→g dx=some d→(∀v H',Same H H'→RepD K H' Av v d→Q v H')→r x H Q
theorem pf_un {op:UnaryOp} {r:V→Hp→VK→Prop} {g:Dat→Option Dat} (ho:UnR X (unaryOp op) r) (hd:UnD X.K r g) (ha:PF X a fa):PF X (.UnaryOp op a pos) (f1 g fa):=pe_mono (pe_un ho ha) fun σ H Q hzz=>by
 obtain⟨Av,ρ,d,hA,hE,hf,q⟩:=hzz
 obtain⟨dx,e1,hf⟩:=bind_some hf
 exact⟨Av,ρ,dx,hA,hE,e1,fun x H1 s1 r1=>hd H1 Av x dx d Q (hA.same s1) r1 hf fun v H2 s2 r2=>q v H2 (s1.trans s2) r2⟩
def fNil:Rho→Option (List Dat):=fun _=>some []
def fCons (f:Rho→Option Dat) (g:Rho→Option (List Dat)):Rho→Option (List Dat):=fun ρ=>(f ρ).bind fun d=>(g ρ).map (d::·)
theorem map_some' {α β:Type} {o:Option α} {g:α→β} {b:β} (h:o.map g=some b):∃a,o=some a∧g a=b:=by
 cases o with
 |none=>cases h
 |some a=>exact⟨a,rfl,Option.some.inj h⟩
def fTup (g:Rho→Option (List Dat)):Rho→Option Dat:=fun ρ=>(g ρ).bind fun ds=>if ds.length≤sizeLine then some (.tuple ds)else none
def fLst (g:Rho→Option (List Dat)):Rho→Option Dat:=fun ρ=>(g ρ).bind fun ds=>if ds.length≤sizeLine then some (.list ds)else none
def fCall (g:List Dat→Option Dat) (fs:Rho→Option (List Dat)):Rho→Option Dat:=fun ρ=>(fs ρ).bind g
def CallD (K:Fg) (r:List V→Hp→VK→Prop) (g:List Dat→Option Dat):Prop:=∀(H:Hp) (Av:AvP) (xs:List V) (ds:List Dat) (d:Dat) (Q:VK),AvT H Av→RepDs K H Av xs ds→g ds=some d→(∀v H',Same H H'→RepD K H' Av v d→Q v H')→r xs H Q
theorem tF_call {K:Fg} {r:List V→Hp→VK→Prop} {g:List Dat→Option Dat} (hr:CallD K r g):∀σ H Q,tF K (fCall g fs) σ H Q→tCB r (tFA K fs) σ H Q:=by
 rintro σ H Q ⟨Av,ρ,d,hA,hE,hf,q⟩
 obtain⟨ds,e1,hf⟩:=bind_some hf
 exact⟨Av,ρ,ds,hA,hE,e1,fun xs H1 s1 r1=>hr H1 Av xs ds d Q (hA.same s1) r1 hf fun v H2 s2 r2=>q v H2 (s1.trans s2) r2⟩
theorem pf_callB {x:Str} {p:Pos} {id:String} {r:List V→Hp→VK→Prop} {g:List Dat→Option Dat} (hc:CallR X (.builtin id) r) (hd:CallD X.K r g) (hm:X.mg x=none) (ha:PFA X (e::es) fs) (hg:Gl X x:=by rfl) (hv:bootBuiltins x=some (.builtin id):=by rfl) (hn:x≠"__name__":=by decide) (hdb:(x==("__debug__" : Str))=false:=by decide)
  (he:starEach (e::es) X.env=(false,eval e X.env)::starEach es X.env:=by rfl) (hpl:(backTo pos (starEach es X.env)).any (·.1)=false:=by rfl):PF X (.Call (.Name x p) (e::es) [] pos) (fCall g fs):=pe_mono (pe_callB hc hg hm hv ha hn hdb he hpl) (tF_call hd)
theorem pf_callTy {x:Str} {p:Pos} {T:String} {r:List V→Hp→VK→Prop} {g:List Dat→Option Dat} (hc:CallR X (.type T) r) (hd:CallD X.K r g) (hm:X.mg x=none) (ha:PFA X (e::es) fs) (hg:Gl X x:=by rfl) (hv:bootBuiltins x=some (.type T):=by rfl) (hn:x≠"__name__":=by decide) (hdb:(x==("__debug__" : Str))=false:=by decide)
  (he:starEach (e::es) X.env=(false,eval e X.env)::starEach es X.env:=by rfl) (hpl:(backTo pos (starEach es X.env)).any (·.1)=false:=by rfl):PF X (.Call (.Name x p) (e::es) [] pos) (fCall g fs):=pe_mono (pe_callTy hc hg hm hv ha hn hdb he hpl) (tF_call hd)
def spF (K:Fg) (n:Nat) (F:List Dat→Option Dat):Sp:=fun vs H Q _=>∃Av ds d,AvT H Av∧RepDs K H Av vs ds∧ds.length=n∧F ds=some d∧∀v H',Same H H'→RepD K H' Av v d→Q v H'
def fFn (n:Nat) (F:List Dat→Option Dat) (fs:Rho→Option (List Dat)):Rho→Option Dat:=fun ρ=>(fs ρ).bind fun ds=>if ds.length=n then F ds else none
theorem tF_fn {K:Fg} {n:Nat} {F:List Dat→Option Dat} {E:XK}:∀σ H Q,tF K (fFn n F fs) σ H Q→tCall (spF K n F) [] E (tFA K fs) σ H Q:=by
 rintro σ H Q ⟨Av,ρ,d,hA,hE,hf,q⟩
 obtain⟨ds,e1,hf⟩:=bind_some hf
 split at hf
 ·rename_i hl
  exact⟨Av,ρ,ds,hA,hE,e1,fun xs H1 s1 r1=>⟨Av,ds,d,hA.same s1,by rw[List.append_nil];exact r1,hl,hf,fun v H2 s2 r2=>q v H2 (s1.trans s2) r2⟩⟩
 ·cases hf
structure Dn (P:Program) (w:World) (K:Fg) (mg:Str→Option Value) (base:Heap) (k:Nat) (x:Str) (ps:List Str) (n:Nat) (F:List Dat→Option Dat):Prop where
 ex:∃(f:Addr) (fd:FuncData),FnOk P w K mg base CX0 k f fd ps (spF K n F)∧mg x=some (.ref f)∧PySem.W.keepIn K (.ref f)=true∧Binds K fd ps []
theorem Dn.up {P:Program} {w:World} {K:Fg} {mg:Str→Option Value} {base:Heap} {j k:Nat} {x:Str} {ps:List Str} {n:Nat} {F:List Dat→Option Dat} (D:Dn P w K mg base j x ps n F) (h:j≤k):Dn P w K mg base k x ps n F:=by
 obtain⟨f,fd,h1,h2⟩:=D.ex
 exact⟨f,fd,h1.mono h,h2⟩
end
open PySem PySem.Spec PyProof.Rows L2
open PySem.W (Dat)
inductive Slot where
 |imm (d:Dat)
 |own (ds:List Dat)
 |obj (O:Addr→List V→Heap→Prop) (ds:List Dat)
 |brw (a:Addr) (xs:List V) (ds:List Dat)
def Slot.mt:Slot→Bool
 | .imm _=>false
 |_=>true
abbrev Gam:=List (Option Slot)
def immV (Γ:Gam):Rho:=Γ.map fun o=>match o with|some (.imm d)=>some d|_=>none
def allV (Γ:Gam):Rho:=Γ.map fun o=>match o with|some (.imm d)=>some d|some (.own ds)=>some (.list ds)|some (.brw _ _ ds)=>some (.list ds)|_=>none
def AvG (Av:AvP) (Γ:Gam) (ad:Nat→Addr):AvP:=fun a=>Av a∨∃(i:Nat) (s:Slot),Γ[i]?=some (some s)∧s.mt=true∧ad i=a
abbrev Hid:=List (V×Dat)
structure GA (K:Fg) (H₀:Hp) (Av:AvP) (pn:Option Addr) (hid:Hid) (H:Hp) (σ:L2.St) (Γ:Gam) (ad:Nat→Addr):Prop where
 same:Same H₀ H
 avt:AvT H₀ Av
 len:σ.length=Γ.length
 imm:∀(i:Nat) (d:Dat),Γ[i]?=some (some (.imm d))→∃v,σ[i]?=some (some v)∧RepD K H (AvG Av Γ ad) v d
 own:∀(i:Nat) (ds:List Dat),Γ[i]?=some (some (.own ds))→∃xs,σ[i]?=some (some (.ref (ad i)))∧H (ad i)=some (.lst xs)∧RepDs K H (AvG Av Γ ad) xs ds∧H₀ (ad i)=none
 inj:∀(i j:Nat) (s t:Slot),Γ[i]?=some (some s)→Γ[j]?=some (some t)→s.mt=true→t.mt=true→ad i=ad j→i=j
 hid:∀p∈hid,RepD K H (AvG Av Γ ad) p.1 p.2
 pin:∀a ds,pn=some a→Γ[0]?=some (some (.own ds))→ad 0=a
 obj:∀(i:Nat) (O:Addr→List V→Heap→Prop) (ds:List Dat),Γ[i]?=some (some (.obj O ds))→∃xs,σ[i]?=some (some (.ref (ad i)))∧H (ad i)=some (.ext (O (ad i) xs))∧RepDs K H (AvG Av Γ ad) xs ds∧H₀ (ad i)=none
 brw:∀(i:Nat) (a:Addr) (xs:List V) (ds:List Dat),Γ[i]?=some (some (.brw a xs ds))→ad i=a∧σ[i]?=some (some (.ref a))∧H a=some (.lst xs)∧RepDs K H (AvG Av Γ ad) xs ds∧H₀ a=none
def GEnv (K:Fg) (H₀:Hp) (Av:AvP) (pn:Option Addr) (hid:Hid) (H:Hp) (σ:L2.St) (Γ:Gam):Prop:=∃ad,GA K H₀ Av pn hid H σ Γ ad
section
variable {K:Fg} {H₀ H H':Hp} {Av:AvP} {pn:Option Addr} {hid:Hid} {σ:L2.St} {Γ:Gam} {ad:Nat→Addr}
theorem GA.mt (G:GA K H₀ Av pn hid H σ Γ ad) {i:Nat} {s:Slot} (h:Γ[i]?=some (some s)) (m:s.mt=true):(∃o,H (ad i)=some o)∧H₀ (ad i)=none:=by
 cases s with
 |imm d=>cases m
 |own ds=>obtain⟨xs,_,a,_,b⟩:=G.own i ds h;exact⟨⟨_,a⟩,b⟩
 |obj O ds=>obtain⟨xs,_,a,_,b⟩:=G.obj i O ds h;exact⟨⟨_,a⟩,b⟩
 |brw a xs ds=>obtain⟨e,_,a,_,b⟩:=G.brw i a xs ds h;rw[e];exact⟨⟨_,a⟩,b⟩
theorem GA.injO (G:GA K H₀ Av pn hid H σ Γ ad) (i j:Nat) (ds es:List Dat) (h1:Γ[i]?=some (some (.own ds))) (h2:Γ[j]?=some (some (.own es))) (e:ad i=ad j):i=j:=G.inj i j _ _ h1 h2 rfl rfl e
theorem GA.avG (G:GA K H₀ Av pn hid H σ Γ ad):AvT H (AvG Av Γ ad):=by
 rintro a (z|⟨i,s,e,m,rfl⟩)
 ·exact(G.avt.same G.same) a z
 ·exact(G.mt e m).1
theorem GA.envI (G:GA K H₀ Av pn hid H σ Γ ad):REnv K H (AvG Av Γ ad) σ (immV Γ):=fun i d e=>by
 unfold immV at e
 rw[List.getElem?_map]at e
 cases h:Γ[i]? with
 |none=>rw[h]at e;cases e
 |some o=>
  rw[h]at e
  cases o with
  |none=>cases e
  |some s=>
   cases s with
   |imm d'=>cases e;exact G.imm i d h
   |own ds=>cases e
   |obj O ds=>cases e
   |brw a xs ds=>cases e
theorem GA.envA (G:GA K H₀ Av pn hid H σ Γ ad):REnv K H Av σ (allV Γ):=fun i d e=>by
 unfold allV at e
 rw[List.getElem?_map]at e
 cases h:Γ[i]? with
 |none=>rw[h]at e;cases e
 |some o=>
  rw[h]at e
  cases o with
  |none=>cases e
  |some s=>
   cases s with
   |imm d'=>
    cases e
    obtain⟨v,h1,h2⟩:=G.imm i d h
    exact⟨v,h1,h2.weak fun _ z=>.inl z⟩
   |own ds=>
    cases e
    obtain⟨xs,h1,h2,h3,h4⟩:=G.own i ds h
    refine⟨_,h1,.lst (.inl ⟨.inl h2,fun z=>?_⟩) (h3.weak fun _ z=>.inl z)⟩
    obtain⟨o,q⟩:=G.avt _ z
    rw[h4]at q;cases q
   |obj O ds=>cases e
   |brw a xs ds=>
    cases e
    obtain⟨_,h1,h2,h3,h4⟩:=G.brw i a xs ds h
    refine⟨_,h1,.lst (.inl ⟨.inl h2,fun z=>?_⟩) (h3.weak fun _ z=>.inl z)⟩
    obtain⟨o,q⟩:=G.avt _ z
    rw[h4]at q;cases q
theorem GA.grow (G:GA K H₀ Av pn hid H σ Γ ad) (e:Same H H'):GA K H₀ Av pn hid H' σ Γ ad:=
 ⟨G.same.trans e,G.avt,G.len,fun i d h=>let ⟨v,a,r⟩:=G.imm i d h;⟨v,a,r.same e⟩,fun i ds h=>let ⟨xs,a,b,r,c⟩:=G.own i ds h;⟨xs,a,e _ _ b,r.same e,c⟩,G.inj,fun p hp=>(G.hid p hp).same e,G.pin,fun i O ds h=>let ⟨xs,a,b,r,c⟩:=G.obj i O ds h;⟨xs,a,e _ _ b,r.same e,c⟩,fun i a xs ds h=>let ⟨f,g,b,r,c⟩:=G.brw i a xs ds h;⟨f,g,e _ _ b,r.same e,c⟩⟩
theorem set_get {α:Type} {l:List α} {i j:Nat} {a b:α} (h:(l.set i a)[j]?=some b):(j=i∧b=a)∨(j≠i∧l[j]?=some b):=by
 by_cases e:j=i
 ·subst e
  left
  refine⟨rfl,?_⟩
  by_cases hl:j<l.length
  ·rw[List.getElem?_set_self hl]at h;exact(Option.some.inj h).symm
  ·rw[List.getElem?_eq_none (by rw[List.length_set];omega)]at h;cases h
 ·right
  rw[List.getElem?_set_ne (Ne.symm e)]at h
  exact⟨e,h⟩
theorem get_lt {α:Type} {l:List α} {i:Nat} {a:α} (h:l[i]?=some a):i<l.length:=(List.getElem?_eq_some_iff.mp h).1
theorem AvG.set_imm {i:Nat} {d:Dat}:∀a,AvG Av (Γ.set i (some (.imm d))) ad a→AvG Av Γ ad a:=by
 rintro a (z|⟨j,s,e,m,r⟩)
 ·exact .inl z
 ·rcases set_get e with⟨_,q⟩|⟨_,q⟩
  ·cases q;cases m
  ·exact .inr ⟨j,s,q,m,r⟩
theorem GA.set (G:GA K H₀ Av pn hid H σ Γ ad) {v:V} {d:Dat} (i:Nat) (r:RepD K H (AvG Av Γ ad) v d):GA K H₀ Av pn hid H (σ.set i (some v)) (Γ.set i (some (.imm d))) ad:=by
 refine⟨G.same,G.avt,by rw[List.length_set,List.length_set];exact G.len,fun j d' h=>?_,fun j ds h=>?_,fun j k s t h1 h2 m1 m2 e=>?_,fun p hp=>(G.hid p hp).weak AvG.set_imm,fun a ds e h=>?_,fun j O ds h=>?_,fun j a' xs ds h=>?_⟩
 ·have hlt:=get_lt h
  rw[List.length_set]at hlt
  rcases set_get h with⟨e,q⟩|⟨e,q⟩
  ·subst e
   cases q
   exact⟨v,List.getElem?_set_self (by rw[G.len];exact hlt),r.weak AvG.set_imm⟩
  ·obtain⟨u,a,b⟩:=G.imm j d' q
   exact⟨u,by rw[List.getElem?_set_ne (Ne.symm e)];exact a,b.weak AvG.set_imm⟩
 ·rcases set_get h with⟨e,q⟩|⟨e,q⟩
  ·cases q
  ·obtain⟨xs,a,b,c,e'⟩:=G.own j ds q
   exact⟨xs,by rw[List.getElem?_set_ne (Ne.symm e)];exact a,b,c.weak AvG.set_imm,e'⟩
 ·rcases set_get h1 with⟨_,q⟩|⟨_,q1⟩
  ·cases q;cases m1
  rcases set_get h2 with⟨_,q⟩|⟨_,q2⟩
  ·cases q;cases m2
  exact G.inj j k s t q1 q2 m1 m2 e
 ·rcases set_get h with⟨_,q⟩|⟨_,q⟩
  ·cases q
  ·exact G.pin a ds e q
 ·rcases set_get h with⟨e,q⟩|⟨e,q⟩
  ·cases q
  ·obtain⟨xs,a,b,c,e'⟩:=G.obj j O ds q
   exact⟨xs,by rw[List.getElem?_set_ne (Ne.symm e)];exact a,b,c.weak AvG.set_imm,e'⟩
 ·rcases set_get h with⟨e,q⟩|⟨e,q⟩
  ·cases q
  ·obtain⟨f,a,b,c,e'⟩:=G.brw j a' xs ds q
   exact⟨f,by rw[List.getElem?_set_ne (Ne.symm e)];exact a,b,c.weak AvG.set_imm,e'⟩
theorem GA.setOwn (G:GA K H₀ Av pn hid H σ Γ ad) {p:Addr} {xs:List V} {ds:List Dat} (i:Nat) (hi0:i≠0) (hp:H p=none) (r:RepDs K H (AvG Av Γ ad) xs ds):
  GA K H₀ Av pn hid (upd H p (.lst xs)) (σ.set i (some (.ref p))) (Γ.set i (some (.own ds))) (fun j=>if j=i then p else ad j):=by
 have sm:Same H (upd H p (.lst xs)):=same_new hp _
 have npe:∀j s,Γ[j]?=some (some s)→Slot.mt s=true→ad j≠p:=fun j s h m=>by
  obtain⟨⟨o,b⟩,_⟩:=G.mt h m
  exact ne_of_none b hp
 have kp:Keep H (AvG Av Γ ad) (upd H p (.lst xs)) (AvG Av (Γ.set i (some (.own ds))) (fun j=>if j=i then p else ad j)):=by
  intro b o h n
  refine⟨sm b o h,?_⟩
  rintro(z|⟨j,es,e,m,r⟩)
  ·exact n (.inl z)
  ·rcases set_get e with⟨e1,_⟩|⟨e1,q⟩
   ·have r':p=b:=by simpa [e1]using r
    exact ne_of_none h hp r'.symm
   ·have r':ad j=b:=by simpa [e1]using r
    exact n (.inr ⟨j,es,q,m,r'⟩)
 have oldS:∀{vs:List V} {d:List Dat},RepDs K H (AvG Av Γ ad) vs d→RepDs K (upd H p (.lst xs)) (AvG Av (Γ.set i (some (.own ds))) (fun j=>if j=i then p else ad j)) vs d:=fun h=>h.mono kp
 ·refine⟨G.same.trans sm,G.avt,by rw[List.length_set,List.length_set];exact G.len,fun j d' h=>?_,fun j es h=>?_,fun j l es fs h1 h2 m1 m2 e=>?_,fun q hq=>(G.hid q hq).mono kp,fun a es e h=>?_,fun j O es h=>?_,fun j a' zs es h=>?_⟩
  ·rcases set_get h with⟨e,q⟩|⟨e,q⟩
   ·cases q
   ·obtain⟨u,a,b⟩:=G.imm j d' q
    exact⟨u,by rw[List.getElem?_set_ne (Ne.symm e)];exact a,b.mono kp⟩
  ·have hlt:=get_lt h
   rw[List.length_set]at hlt
   rcases set_get h with⟨e,q⟩|⟨e,q⟩
   ·subst e
    cases q
    refine⟨xs,?_,?_,oldS r,?_⟩
    ·rw[if_pos rfl];exact List.getElem?_set_self (by rw[G.len];exact hlt)
    ·rw[if_pos rfl];exact upd_same
    ·rw[if_pos rfl]
     cases e0:H₀ p with
     |none=>rfl
     |some o=>have:=G.same p o e0;rw[hp]at this;cases this
   ·obtain⟨ys,a,b,c,e'⟩:=G.own j es q
    refine⟨ys,?_,?_,oldS c,?_⟩
    ·rw[if_neg e,List.getElem?_set_ne (Ne.symm e)];exact a
    ·rw[if_neg e];exact sm _ _ b
    ·rw[if_neg e];exact e'
  ·rcases set_get h1 with⟨e1,q1⟩|⟨e1,q1⟩
   ·rcases set_get h2 with⟨e2,q2⟩|⟨e2,q2⟩
    ·rw[e1,e2]
    ·rw[if_pos e1,if_neg e2]at e
     exact absurd e.symm (npe l fs q2 m2)
   ·rcases set_get h2 with⟨e2,q2⟩|⟨e2,q2⟩
    ·rw[if_neg e1,if_pos e2]at e
     exact absurd e (npe j es q1 m1)
    ·rw[if_neg e1,if_neg e2]at e
     exact G.inj j l es fs q1 q2 m1 m2 e
  ·rcases set_get h with⟨z,_⟩|⟨_,q⟩
   ·exact absurd z.symm hi0
   ·show(if 0=i then p else ad 0)=a
    rw[if_neg (Ne.symm hi0)]
    exact G.pin a es e q
  ·rcases set_get h with⟨e,q⟩|⟨e,q⟩
   ·cases q
   ·obtain⟨ys,a,b,c,e'⟩:=G.obj j O es q
    refine⟨ys,?_,?_,oldS c,?_⟩
    ·rw[if_neg e,List.getElem?_set_ne (Ne.symm e)];exact a
    ·rw[if_neg e];exact sm _ _ b
    ·rw[if_neg e];exact e'
  ·rcases set_get h with⟨e,q⟩|⟨e,q⟩
   ·cases q
   ·obtain⟨f,a,b,c,e'⟩:=G.brw j a' zs es q
    refine⟨?_,?_,sm _ _ b,oldS c,e'⟩
    ·rw[if_neg e];exact f
    ·rw[List.getElem?_set_ne (Ne.symm e)];exact a
theorem GA.change (G:GA K H₀ Av pn hid H σ Γ ad) {i:Nat} {ds es:List Dat} {ys:List V} (hi:Γ[i]?=some (some (.own ds))) (r:RepDs K H (AvG Av Γ ad) ys es):
  GA K H₀ Av pn hid (upd H (ad i) (.lst ys)) σ (Γ.set i (some (.own es))) ad:=by
 have hlt:i<Γ.length:=get_lt hi
 have av:∀a,AvG Av (Γ.set i (some (.own es))) ad a→AvG Av Γ ad a:=by
  rintro a (z|⟨j,fs,e,m,q⟩)
  ·exact .inl z
  ·rcases set_get e with⟨e1,_⟩|⟨e1,q1⟩
   ·subst e1;exact .inr ⟨j,_,hi,rfl,q⟩
   ·exact .inr ⟨j,fs,q1,m,q⟩
 have kp:Keep H (AvG Av Γ ad) (upd H (ad i) (.lst ys)) (AvG Av (Γ.set i (some (.own es))) ad):=by
  intro b o h n
  refine⟨?_,fun z=>n (av b z)⟩
  rw[upd_ne fun z=>n (.inr ⟨i,_,hi,rfl,z.symm⟩)]
  exact h
 obtain⟨xs0,g1,g2,g3,g4⟩:=G.own i ds hi
 refine⟨fun b o h=>?_,G.avt,by rw[List.length_set];exact G.len,fun j d' h=>?_,fun j fs h=>?_,fun j l fs gs h1 h2 m1 m2 e=>?_,fun p hp=>(G.hid p hp).mono kp,fun a fs e h=>?_,fun j O fs h=>?_,fun j a' zs fs h=>?_⟩
 ·rw[upd_ne (ne_of_none h g4)];exact G.same b o h
 ·rcases set_get h with⟨e,q⟩|⟨e,q⟩
  ·cases q
  ·obtain⟨u,a,b⟩:=G.imm j d' q
   exact⟨u,a,b.mono kp⟩
 ·rcases set_get h with⟨e,q⟩|⟨e,q⟩
  ·subst e
   cases q
   exact⟨ys,g1,upd_same,r.mono kp,g4⟩
  ·obtain⟨zs,a,b,c,e'⟩:=G.own j fs q
   refine⟨zs,a,?_,c.mono kp,e'⟩
   rw[upd_ne fun z=>e (G.injO j i fs ds q hi z)]
   exact b
 ·rcases set_get h1 with⟨e1,q1⟩|⟨e1,q1⟩
  ·rcases set_get h2 with⟨e2,q2⟩|⟨e2,q2⟩
   ·rw[e1,e2]
   ·subst e1;exact G.inj j l _ gs hi q2 rfl m2 e
  ·rcases set_get h2 with⟨e2,q2⟩|⟨e2,q2⟩
   ·subst e2;exact G.inj j l fs _ q1 hi m1 rfl e
   ·exact G.inj j l fs gs q1 q2 m1 m2 e
 ·rcases set_get h with⟨z,_⟩|⟨_,q⟩
  ·subst z;exact G.pin a ds e hi
  ·exact G.pin a fs e q
 ·rcases set_get h with⟨e,q⟩|⟨e,q⟩
  ·cases q
  ·obtain⟨zs,a,b,c,e'⟩:=G.obj j O fs q
   refine⟨zs,a,?_,c.mono kp,e'⟩
   rw[upd_ne fun z=>e (G.inj j i _ _ q hi rfl rfl z)]
   exact b
 ·rcases set_get h with⟨e,q⟩|⟨e,q⟩
  ·cases q
  ·obtain⟨f,a,b,c,e'⟩:=G.brw j a' zs fs q
   refine⟨f,a,?_,c.mono kp,e'⟩
   rw[upd_ne fun z=>e (G.inj j i _ _ q hi rfl rfl (f.trans z))]
   exact b
theorem GA.hide (G:GA K H₀ Av pn hid H σ Γ ad) {v:V} {d:Dat} (r:RepD K H (AvG Av Γ ad) v d):GA K H₀ Av pn ((v,d)::hid) H σ Γ ad:=
 ⟨G.same,G.avt,G.len,G.imm,G.own,G.inj,fun p hp=>by
  rcases List.mem_cons.mp hp with e|h
  ·subst e;exact r
  ·exact G.hid p h,G.pin,G.obj,G.brw⟩
theorem GA.unhide {v:V} {d:Dat} (G:GA K H₀ Av pn ((v,d)::hid) H σ Γ ad):GA K H₀ Av pn hid H σ Γ ad:=
 ⟨G.same,G.avt,G.len,G.imm,G.own,G.inj,fun p hp=>G.hid p (List.mem_cons_of_mem _ hp),G.pin,G.obj,G.brw⟩
end
inductive Fl where
 |nx (Γ:Gam)|rt (d:Dat)|bk (Γ:Gam)|ct (Γ:Gam)|rm (d:Dat) (Γ:Gam)
def endF (K:Fg) (H₀:Hp) (Av:AvP) (pn:Option Addr) (hid:Hid) (D:Ends):Fl→Prop
 | .nx Γ=>∀σ H,GEnv K H₀ Av pn hid H σ Γ→D.nx σ H
 | .rt d=>∀v H,Same H₀ H→RepD K H Av v d→D.rt v H
 | .bk Γ=>∀σ H,GEnv K H₀ Av pn hid H σ Γ→D.bk σ H
 | .ct Γ=>∀σ H,GEnv K H₀ Av pn hid H σ Γ→D.ct σ H
 | .rm d Γ=>∀σ v H ad,GA K H₀ Av pn hid H σ Γ ad→RepD K H (AvG Av Γ ad) v d→D.rt v H
def tSF (K:Fg) (g:Gam→Option Fl):TS:=fun D σ H=>∃H₀ Av pn hid Γ fl,GEnv K H₀ Av pn hid H σ Γ∧g Γ=some fl∧endF K H₀ Av pn hid D fl
abbrev PSF (X:Cx) (st:Stmt) (g:Gam→Option Fl):Prop:=PS X st (tSF X.K g)
abbrev PSFs (X:Cx) (st:List Stmt) (g:Gam→Option Fl):Prop:=PSs X st (tSF X.K g)
section
variable {X:Cx} {st:Stmt} {rest:List Stmt} {e:Expr} {f:Rho→Option Dat} {ft:Rho→Option Bool} {g g1 g2:Gam→Option Fl} {pos:Pos}
theorem ps_mono {t t':TS} (h:PS X st t) (m:∀D σ H,t' D σ H→t D σ H):PS X st t':=fun pins s σ H D I q=>h pins s σ H D I (m D σ H q)
theorem pss_mono {t t':TS} (h:PSs X rest t) (m:∀D σ H,t' D σ H→t D σ H):PSs X rest t':=fun pins s σ H D I q=>h pins s σ H D I (m D σ H q)
def sSkip:Gam→Option Fl:=fun Γ=>some (.nx Γ)
def sSeq (g1 g2:Gam→Option Fl):Gam→Option Fl:=fun Γ=>(g1 Γ).bind fun fl=>match fl with
 | .nx Γ'=>g2 Γ'
 | .rt d=>some (.rt d)
 | .bk Γ'=>some (.bk Γ')
 | .ct Γ'=>some (.ct Γ')
 | .rm d Γ'=>some (.rm d Γ')
def sNever:Gam→Option Fl:=fun _=>none
def sRet (f:Rho→Option Dat):Gam→Option Fl:=fun Γ=>(f (allV Γ)).map .rt
def sIf (ft:Rho→Option Bool) (g1 g2:Gam→Option Fl):Gam→Option Fl:=fun Γ=>(ft (allV Γ)).bind fun c=>if c=true then g1 Γ else g2 Γ
def scD:Dat→Bool
 | .none=>true| .bool _=>true| .int _=>true| .str _=>true
 |_=>false
theorem RepD.sc {K:Fg} {H:Hp} {Av Av':AvP} {v:V} {d:Dat} (h:RepD K H Av v d) (s:scD d=true):RepD K H Av' v d:=by
 cases h with
 |non=>exact .non
 |bl b=>exact .bl b
 |int i=>exact .int i
 |str x=>exact .str x
 |tup _ _=>cases s
 |lst _ _=>cases s
def sSet (i:Nat) (f:Rho→Option Dat):Gam→Option Fl:=fun Γ=>match f (immV Γ)with
 |some d=>some (.nx (Γ.set i (some (.imm d))))
 |none=>(f (allV Γ)).bind fun d=>if scD d=true then some (.nx (Γ.set i (some (.imm d))))else none
theorem tSet_F {K:Fg} {i:Nat}:∀D σ H,tSF K (sSet i f) D σ H→tAsg (tF K f) (gName i) D σ H:=by
 rintro D σ H ⟨H₀,Av,pn,hid,Γ,fl,⟨ad,G⟩,hf,q⟩
 unfold sSet at hf
 split at hf
 ·rename_i d e1
  cases hf
  exact⟨AvG Av Γ ad,immV Γ,d,G.avG,G.envI,e1,fun v H' s r=>q _ _ ⟨ad,(G.grow s).set i r⟩⟩
 ·obtain⟨d,e1,hf⟩:=bind_some hf
  split at hf
  ·rename_i hs
   cases hf
   exact⟨Av,allV Γ,d,G.avt.same G.same,G.envA,e1,fun v H' s r=>q _ _ ⟨ad,(G.grow s).set i (r.sc hs)⟩⟩
  ·cases hf
def sDrop (f:Rho→Option Dat):Gam→Option Fl:=fun Γ=>(f (allV Γ)).map fun _=>.nx Γ
abbrev Asg:=List (Nat×Dat)
inductive RepA (K:Fg) (H:Hp) (Av:AvP):List (Nat×V)→Asg→Prop
 |nil:RepA K H Av [] []
 |cons {i:Nat} {v:V} {d:Dat} {vs:List (Nat×V)} {ds:Asg}:RepD K H Av v d→RepA K H Av vs ds→RepA K H Av ((i,v)::vs) ((i,d)::ds)
def setV (σ:L2.St) (ws:List (Nat×V)):L2.St:=ws.foldl (fun σ p=>σ.set p.1 (some p.2)) σ
def setG (Γ:Gam) (ws:Asg):Gam:=ws.foldl (fun Γ p=>Γ.set p.1 (some (.imm p.2))) Γ
def setR (ρ:Rho) (ws:Asg):Rho:=ws.foldl (fun ρ p=>ρ.set p.1 (some p.2)) ρ
theorem RepA.append {K:Fg} {H:Hp} {Av:AvP}:∀{a b:List (Nat×V)} {c d:Asg},RepA K H Av a c→RepA K H Av b d→RepA K H Av (a++b) (c++d)
 |_,_,_,_,.nil,s=>s
 |_,_,_,_,.cons h r,s=>.cons h (RepA.append r s)
def tGF (K:Fg) (gt:Dat→Option Asg):TG:=fun v σ H Q=>∃Av d as,RepD K H Av v d∧gt d=some as∧∀ws,RepA K H Av ws as→Q (setV σ ws) H
def tGFs (K:Fg) (gt:List Dat→Option Asg):TGs:=fun vs σ H Q=>∃Av ds as,RepDs K H Av vs ds∧gt ds=some as∧∀ws,RepA K H Av ws as→Q (setV σ ws) H
theorem pg_mono {t t':TG} {tg:Expr} (h:PG X tg t) (m:∀v σ H Q,t' v σ H Q→t v σ H Q):PG X tg t':=fun pins s σ H v u Q I r q=>h pins s σ H v u Q I r (m v σ H Q q)
theorem pgs_mono {t t':TGs} {tg:List Expr} (h:PGs X tg t) (m:∀v σ H Q,t' v σ H Q→t v σ H Q):PGs X tg t':=fun pins s σ H v u Q I r q=>h pins s σ H v u Q I r (m v σ H Q q)
def aName (i:Nat):Dat→Option Asg:=fun d=>some [(i,d)]
def aNil:List Dat→Option Asg:=fun ds=>match ds with|[]=>some []|_=>none
def aCons (g:Dat→Option Asg) (gs:List Dat→Option Asg):List Dat→Option Asg:=fun ds=>match ds with
 |[]=>none
 |d::r=>(g d).bind fun a=>(gs r).map (a++·)
def aTup (n:Nat) (gs:List Dat→Option Asg):Dat→Option Asg:=fun d=>match d with
 | .tuple ds=>if ds.length=n then gs ds else none
 |_=>none
theorem GA.setAll {K:Fg} {H₀ H:Hp} {Av:AvP} {pn:Option Addr} {hid:Hid} {Γ0:Gam} {ad:Nat→Addr} {ws:List (Nat×V)} {as:Asg} {σ:L2.St} {Γ:Gam} (h:RepA K H (AvG Av Γ0 ad) ws as) (hw:∀a,AvG Av Γ ad a→AvG Av Γ0 ad a) (G:GA K H₀ Av pn hid H σ Γ ad):
  GA K H₀ Av pn hid H (setV σ ws) (setG Γ as) ad:=by
 induction h generalizing σ Γ with
 |nil=>exact G
 | @cons i v d vs ds h r ih=>exact ih (σ:=σ.set i (some v)) (Γ:=Γ.set i (some (.imm d))) (fun a z=>hw a (AvG.set_imm a z)) (G.set i (h.weak hw))
def sAsg (gt:Dat→Option Asg) (f:Rho→Option Dat):Gam→Option Fl:=fun Γ=>(f (immV Γ)).bind fun d=>(gt d).map fun as=>.nx (setG Γ as)
end
open PySem PySem.Spec PyProof.Rows L2
open PySem.W (Dat)
section
variable {X:Cx} {st:Stmt} {rest:List Stmt} {e:Expr} {es:List Expr} {f:Rho→Option Dat} {fs:Rho→Option (List Dat)} {ft:Rho→Option Bool} {g g1 g2:Gam→Option Fl} {pos:Pos}
def iSeq (K:Fg) (tl:TE):TI:=fun σ H R=>tl σ H fun x H1=>∃a,x=.ref a∧(((∃xs,SqL K H1 a xs)∧R (Itl K a) H1)∨((∃xs,SqT K H1 a xs)∧R (Itt K a) H1))
theorem pi_seq {tg l:Expr} {tl:TE} (hl:PE X l tl):PI X tg l (iSeq X.K tl):=by
 intro pins s σ H R I h
 refine thn (hl pins s σ H _ I h) fun v s1 ⟨x,H1,I1,r1,q1⟩=>?_
 obtain⟨a,e,q⟩:=q1
 subst e
 cases r1
 rcases q with⟨⟨xs,hq⟩,q⟩|⟨⟨xs,hq⟩,q⟩
 ·obtain⟨its,rv,p,hz⟩:=I1.list hq
  refine wpAny_pyIter_list p.isList ?_
  refine⟨s1.heap.objs.size,[s1.heap.objs.size],_,_,H1,rfl,I1.kept (t':=s1.toks) fun b o e=>Heap.get?_push_of_some _ e,turn_list a _,⟨_,Heap.get?_push_size _ rfl,rfl,rfl⟩,fun b hb=>?_,q⟩
  have e:b=s1.heap.objs.size:=by simpa using hb
  subst e
  exact I1.fpOk (Nat.le_refl _) (I1.hok.fresh (Nat.le_refl _))
 ·obtain⟨its,rv,p,hz⟩:=I1.tuple hq
  refine wpAny_pyIter_tuple (show s1.heap.IsTuple a its.toArray from p) ?_
  refine⟨s1.heap.objs.size,[s1.heap.objs.size],_,_,H1,rfl,I1.kept (t':=s1.toks) fun b o e=>Heap.get?_push_of_some _ e,turn_tuple a _,⟨_,Heap.get?_push_size _ rfl,rfl,rfl⟩,fun b hb=>?_,q⟩
  have e:b=s1.heap.objs.size:=by simpa using hb
  subst e
  exact I1.fpOk (Nat.le_refl _) (I1.hok.fresh (Nat.le_refl _))
def itemsD:Dat→Option (List Dat)
 | .list ds=>some ds
 | .tuple ds=>some ds
 |_=>none
def Over (K:Fg) (J:It) (x:V) (d:Dat) (ds:List Dat):Prop:=∀(i:Nat) (H:Hp) (Av:AvP),RepD K H Av x d→(ds.length≤i→J.stop i H)∧(∀di,ds[i]?=some di→J.go i H∧∀y H',J.yld i H y H'→H'=H∧RepD K H Av y di)
theorem over_list {K:Fg} {a:Addr} {ds:List Dat}:Over K (Itl K a) (.ref a) (.list ds) ds:=by
 intro i H Av r
 obtain⟨b,xs,e,hq,rs⟩:=r.l_inv
 cases e
 refine⟨fun h=>⟨xs,hq.sq,by rw[rs.length];exact h⟩,fun di hd=>?_⟩
 obtain⟨v,hv,rv⟩:=rs.get hd
 refine⟨⟨xs,v,hq.sq,hv⟩,fun y H' hy=>?_⟩
 obtain⟨e,hy⟩:=hy
 have:=hy xs hq.sq
 rw[hv]at this
 cases this
 exact⟨e,rv⟩
theorem over_tup {K:Fg} {a:Addr} {ds:List Dat}:Over K (Itt K a) (.ref a) (.tuple ds) ds:=by
 intro i H Av r
 obtain⟨b,xs,e,hq,rs⟩:=r.t_inv
 cases e
 refine⟨fun h=>⟨xs,hq.sq,by rw[rs.length];exact h⟩,fun di hd=>?_⟩
 obtain⟨v,hv,rv⟩:=rs.get hd
 refine⟨⟨xs,v,hq.sq,hv⟩,fun y H' hy=>?_⟩
 obtain⟨e,hy⟩:=hy
 have:=hy xs hq.sq
 rw[hv]at this
 cases this
 exact⟨e,rv⟩
theorem drop_cons {α:Type} {l:List α} {i:Nat} {a:α} (h:l[i]?=some a):l.drop i=a::l.drop (i+1):=by
 obtain⟨hl,e⟩:=List.getElem?_eq_some_iff.mp h
 rw[List.drop_eq_getElem_cons hl,e]
def forL (gt:Dat→Option Asg) (gb:Gam→Option Fl):List Dat→Gam→Option Fl
 |[],Γ=>some (.nx Γ)
 |d::r,Γ=>(gt d).bind fun as=>(gb (setG Γ as)).bind fun fl=>match fl with
  | .nx Γ'=>forL gt gb r Γ'
  | .ct Γ'=>forL gt gb r Γ'
  | .bk Γ'=>some (.nx Γ')
  | .rt v=>some (.rt v)
  | .rm v Γ'=>some (.rm v Γ')
def sFor (gt:Dat→Option Asg) (gb:Gam→Option Fl) (f:Rho→Option Dat):Gam→Option Fl:=fun Γ=>(f (immV Γ)).bind fun d=>(itemsD d).bind fun ds=>forL gt gb ds Γ
theorem for_turns {K:Fg} {gt:Dat→Option Asg} {gb:Gam→Option Fl} {D:Ends} {H₀:Hp} {Av:AvP} {pn:Option Addr} {hid:Hid} {x:V} {d:Dat} {ds:List Dat} {J:It} {σ:L2.St} {H1:Hp} {Γ:Gam} {fl:Fl} (ov:Over K J x d ds)
  (G:GEnv K H₀ Av pn ((x,d)::hid) H1 σ Γ) (hf:forL gt gb ds Γ=some fl) (q:endF K H₀ Av pn hid D fl):
  ∃W:Nat→Nat→L2.St→Hp→Prop,(∃m,W 0 m σ H1)∧∀i m σ H,W i m σ H→
   (J.stop i H∧D.nx σ H)∨(J.go i H∧∃N:L2.St→Hp→Prop,(∀σ' H',N σ' H'→∃m',m'<m∧W (i+1) m' σ' H')∧∀x H',J.yld i H x H'→tGF K gt x σ H' fun σ2 H2=>tSF K gb {D with nx:=N,ct:=N,bk:=D.nx} σ2 H2):=by
 refine⟨fun i m σ H=>m=ds.length-i∧i≤ds.length∧∃Γ,GEnv K H₀ Av pn ((x,d)::hid) H σ Γ∧forL gt gb (ds.drop i) Γ=some fl,⟨_,rfl,Nat.zero_le _,Γ,G,by rw[List.drop_zero];exact hf⟩,?_⟩
 rintro i m σ H ⟨rfl,hi,Γ,⟨ad,G⟩,hf⟩
 have rx:=G.hid (x,d) List.mem_cons_self
 cases hdi:ds[i]? with
 |none=>
  have hl:ds.length≤i:=List.getElem?_eq_none_iff.mp hdi
  rw[List.drop_eq_nil_of_le hl]at hf
  cases hf
  exact .inl ⟨(ov i H _ rx).1 hl,q σ H ⟨ad,G.unhide⟩⟩
 |some di=>
  have hlt:=get_lt hdi
  rw[drop_cons hdi]at hf
  obtain⟨as,e1,hf⟩:=bind_some (show(gt di).bind _=some fl from hf)
  obtain⟨fl1,e2,hf⟩:=bind_some hf
  obtain⟨go,yl⟩:=(ov i H _ rx).2 di hdi
  refine .inr ⟨go,fun σ' H'=>∃Γ',GEnv K H₀ Av pn ((x,d)::hid) H' σ' Γ'∧forL gt gb (ds.drop (i+1)) Γ'=some fl,fun σ' H' ⟨Γ',G',h'⟩=>⟨ds.length-(i+1),by omega,rfl,by omega,Γ',G',h'⟩,fun y H' hy=>?_⟩
  obtain⟨eH,ry⟩:=yl y H' hy
  subst eH
  refine⟨AvG Av Γ ad,di,as,ry,e1,fun ws hw=>⟨H₀,Av,pn,(x,d)::hid,setG Γ as,fl1,⟨ad,GA.setAll hw (fun _ z=>z) G⟩,e2,?_⟩⟩
  cases fl1 with
  |nx Γ'=>exact fun σ2 H2 G2=>⟨Γ',G2,hf⟩
  |ct Γ'=>exact fun σ2 H2 G2=>⟨Γ',G2,hf⟩
  |bk Γ'=>cases hf;exact fun σ2 H2 ⟨ad2,G2⟩=>q σ2 H2 ⟨ad2,G2.unhide⟩
  |rt v=>cases hf;exact q
  |rm v Γ'=>cases hf;exact fun σ2 v2 H2 ad2 G2 r2=>q σ2 v2 H2 ad2 G2.unhide r2
def rngD (lo:Int) (n:Nat):List Dat:=(List.range n).map fun(i:Nat)=>Dat.int (lo+(i:Int))
theorem rngD_get {lo:Int} {n i:Nat} {di:Dat} (h:(rngD lo n)[i]?=some di):i<n∧di=.int (lo+(i:Int)):=by
 unfold rngD at h
 rw[List.getElem?_map]at h
 cases e:(List.range n)[i]? with
 |none=>rw[e]at h;cases h
 |some k=>
  rw[e]at h
  cases h
  obtain⟨hl,e2⟩:=List.getElem?_eq_some_iff.mp e
  rw[List.length_range]at hl
  rw[List.getElem_range]at e2
  subst e2
  exact⟨hl,rfl⟩
theorem over_range {K:Fg} {lo:Int} {n:Nat}:Over K (Itr lo n) .non .none (rngD lo n):=by
 intro i H Av _
 refine⟨fun h=>?_,fun di hd=>?_⟩
 ·have:(rngD lo n).length=n:=by unfold rngD;rw[List.length_map,List.length_range]
  show n≤i
  omega
 ·obtain⟨hl,e⟩:=rngD_get hd
  refine⟨hl,fun y H' hy=>?_⟩
  obtain⟨e1,e2⟩:=hy
  subst e2
  rw[e]
  exact⟨e1,.int _⟩
def rng1:List Dat→Option (List Dat)
 |[.int j]=>if -(2^62)≤j∧j<2^62 then some (rngD 0 j.toNat)else none
 |_=>none
def sForR (rg:List Dat→Option (List Dat)) (gt:Dat→Option Asg) (gb:Gam→Option Fl) (fs:Rho→Option (List Dat)):Gam→Option Fl:=fun Γ=>(fs (allV Γ)).bind fun as=>(rg as).bind fun ds=>forL gt gb ds Γ
theorem RepDs.one_inv {K:Fg} {H:Hp} {Av:AvP} {vs:List V} {d:Dat} (h:RepDs K H Av vs [d]):∃v,vs=[v]∧RepD K H Av v d:=by
 cases h with|cons a r=>cases r;exact⟨_,rfl,a⟩
theorem RepDs.two_inv {K:Fg} {H:Hp} {Av:AvP} {vs:List V} {d e:Dat} (h:RepDs K H Av vs [d,e]):∃v u,vs=[v,u]∧RepD K H Av v d∧RepD K H Av u e:=by
 cases h with|cons a r=>obtain⟨u,rfl,b⟩:=r.one_inv;exact⟨_,u,rfl,a,b⟩
def whileF (ft:Rho→Option Bool) (gb:Gam→Option Fl):Nat→Gam→Option Fl
 |0,_=>none
 |n+1,Γ=>(ft (allV Γ)).bind fun c=>if c=true then(gb Γ).bind fun fl=>match fl with
   | .nx Γ'=>whileF ft gb n Γ'
   | .ct Γ'=>whileF ft gb n Γ'
   | .bk Γ'=>some (.nx Γ')
   | .rt v=>some (.rt v)
   | .rm v Γ'=>some (.rm v Γ')
  else some (.nx Γ)
def sWhile (fuel:Gam→Nat) (ft:Rho→Option Bool) (gb:Gam→Option Fl):Gam→Option Fl:=fun Γ=>whileF ft gb (fuel Γ) Γ
def tFL (K:Fg) (f:Rho→Option (List Dat)):TE:=fun σ H Q=>∃Av ρ ds,AvT H Av∧REnv K H Av σ ρ∧f ρ=some ds∧∀H1 p xs,Same H H1→H1 p=none→RepDs K H1 Av xs ds→Q (.ref p) (upd H1 p (.lst xs))
def gd {α:Type} (c:Prop) [Decidable c] (o:Option α):Option α:=if c then o else none
theorem gd_some {α:Type} {c:Prop} [Decidable c] {o:Option α} {a:α} (h:gd c o=some a):c∧o=some a:=by
 unfold gd at h
 split at h
 ·rename_i hc;exact⟨hc,h⟩
 ·cases h
def fSz (fs:Rho→Option (List Dat)):Rho→Option (List Dat):=fun ρ=>(fs ρ).bind fun ds=>gd (ds.length≤sizeLine) (some ds)
def sOwn (i:Nat) (f:Rho→Option (List Dat)):Gam→Option Fl:=fun Γ=>(f (immV Γ)).map fun ds=>.nx (Γ.set i (some (.own ds)))
def sApp (i:Nat) (f:Rho→Option Dat):Gam→Option Fl:=fun Γ=>match Γ[i]? with
 |some (some (.own ds))=>(f (immV Γ)).bind fun d=>gd (ds.length<sizeLine) (some (.nx (Γ.set i (some (.own (ds++[d]))))))
 |_=>none
def startG (N:List Str) (ds:List Dat):Gam:=ds.map (fun d=>some (.imm d))++List.replicate (N.length-ds.length) none
def runF (N:List Str) (g:Gam→Option Fl):List Dat→Option Dat:=fun ds=>match g (startG N ds)with
 |some (.rt d)=>some d
 |some (.nx _)=>some .none
 |_=>none
theorem ga_start {K:Fg} {H:Hp} {Av:AvP} {N:List Str} {vs:List V} {ds:List Dat} (hA:AvT H Av) (r:RepDs K H Av vs ds) (hl:ds.length≤N.length):GEnv K H Av none [] H (start N vs) (startG N ds):=by
 have nomt:∀(i:Nat) (s:Slot),(startG N ds)[i]?=some (some s)→s.mt=false:=fun i s h=>by
  unfold startG at h
  by_cases hi:i<ds.length
  ·rw[List.getElem?_append_left (by rw[List.length_map];exact hi),List.getElem?_map,List.getElem?_eq_getElem hi]at h
   cases h;rfl
  ·rw[List.getElem?_append_right (by rw[List.length_map];omega),List.getElem?_replicate]at h
   split at h<;>cases h
 refine⟨fun _=>0,Same.refl H,hA,?_,fun i d h=>?_,fun i es h=>absurd (nomt i _ h) (by simp[Slot.mt]),fun i j s _ h _ m=>absurd (nomt i s h) (by rw[m];decide),fun p hp=>absurd hp (by simp),fun a es e=>(by cases e),fun i O es h=>absurd (nomt i _ h) (by simp[Slot.mt]),fun i a xs es h=>absurd (nomt i _ h) (by simp[Slot.mt])⟩
 ·unfold L2.start startG
  rw[List.length_append,List.length_append,List.length_map,List.length_map,List.length_replicate,List.length_replicate,r.length]
 ·unfold startG at h
  by_cases hi:i<ds.length
  ·rw[List.getElem?_append_left (by rw[List.length_map];exact hi),List.getElem?_map,List.getElem?_eq_getElem hi]at h
   cases h
   obtain⟨v,hv,rv⟩:=r.get (List.getElem?_eq_getElem hi)
   refine⟨v,?_,rv.weak ?_⟩
   ·unfold L2.start
    rw[List.getElem?_append_left (by rw[List.length_map,r.length];exact hi),List.getElem?_map,hv]
    rfl
   ·rintro a (z|⟨j,s,e,m,_⟩)
    ·exact z
    ·exact absurd (nomt j s e) (by rw[m];decide)
  ·rw[List.getElem?_append_right (by rw[List.length_map];omega),List.getElem?_replicate]at h
   split at h<;>cases h
theorem dn_of {P:Program} {w:World} {K:Fg} {mg:Str→Option Value} {base:Heap} {x qual:Str} {st:Stmt} {fa:Addr} {fd:FuncData} {N ps:List Str} {k n:Nat} {g:Gam→Option Fl} {F:List Dat→Option Dat}
  (U:Fun K x qual st fa fd) (hm:mg x=some (.ref fa)) (hB:Binds K fd ps []) (S:FnScope N ps (defScope st)) (hn:ps.length=n)
  (hbody:∀(cdv:Value) (A:Around) (outer:List Env) (s:Shared) (H:Hp) (E:XK),Room k (A.deeper (envOfC qual (defScope st) s.heap.objs.size fa cdv))→PSFs (cxOf CX0 P w K mg base N qual (defScope st) fa cdv A outer s H E).nox (defBody st) g)
  (hF:∀ds d,ds.length=n→F ds=some d→runF N g ds=some d):Dn P w K mg base (k+1) x ps n F:=by
 have hpl:ps.length≤N.length:=by have:=congrArg List.length S.pre;rw[List.length_take]at this;omega
 refine⟨fa,fd,U.ok S (fun vs H Q E h=>?_) (fun cdv A outer s H vs Q E hr h=>?_),hm,U.kp,hB⟩
 ·obtain⟨Av,ds,d,_,r,hl,_⟩:=h
  rw[r.length,hl,hn]
 ·obtain⟨Av,ds,d,hA,r,hl,hd,q⟩:=h
  have hd':=hF ds d hl hd
  unfold runF at hd'
  refine⟨_,hbody cdv A outer s H E hr,?_⟩
  cases hg:g (startG N ds)with
  |none=>rw[hg]at hd';cases hd'
  |some fl=>
   refine⟨H,Av,none,[],startG N ds,fl,ga_start hA r (by omega),hg,?_⟩
   rw[hg]at hd'
   cases fl with
   |nx Γ=>cases hd';exact fun σ' H' ⟨ad,G⟩=>q _ H' G.same .non
   |rt d'=>cases hd';exact fun v H' s r=>q v H' s r
   |bk Γ=>cases hd'
   |ct Γ=>cases hd'
   |rm d' Γ=>cases hd'
end
open PySem PySem.Spec PyProof.Rows L2
open PySem.W (Dat kqdOk kqdP kqdPs kqd_lay kqd_eqv)
noncomputable section
def decD (d e:Dat):Bool:=@decide (d=e) (Classical.propDecidable _)
theorem decD_iff {d e:Dat}:decD d e=true↔d=e:=@decide_eq_true_iff _ (Classical.propDecidable _)
theorem decD_t {d e:Dat} (h:d=e):decD d e=true:=decD_iff.mpr h
theorem decD_f {d e:Dat} (h:d≠e):decD d e=false:=Bool.eq_false_iff.mpr fun z=>h (decD_iff.mp z)
variable {X:Cx} {a b c e:Expr} {es:List Expr} {pos:Pos} {fa fb fc f:Rho→Option Dat} {fs:Rho→Option (List Dat)} {ft:Rho→Option Bool}
def iD (C:Int→Int→Prop) (g:Int→Int→Dat):Dat→Dat→Option Dat:=open Classical in fun x y=>match x,y with
 | .int i,.int j=>if C i j then some (g i j)else none
 |_,_=>none
theorem iD_ok {C:Int→Int→Prop} {g:Int→Int→Dat} {i j:Int} (h:C i j):iD C g (.int i) (.int j)=some (g i j):=by
 unfold iD
 exact if_pos h
theorem iD_inv {C:Int→Int→Prop} {g:Int→Int→Dat} {x y d:Dat} (h:iD C g x y=some d):∃i j,x=.int i∧y=.int j∧C i j∧d=g i j:=by
 unfold iD at h
 split at h
 ·split at h
  ·rename_i i j hc
   cases h
   exact⟨i,j,rfl,rfl,hc,rfl⟩
  ·cases h
 ·cases h
theorem opD_i {K:Fg} {C:Int→Int→Prop} {g:Int→Int→Int}:OpD K (rI C fun i j=>.int (g i j)) (iD C fun i j=>.int (g i j)):=by
 intro H Av x y dx dy d Q hA rx ry h q
 obtain⟨i,j,rfl,rfl,hc,rfl⟩:=iD_inv h
 exact⟨i,j,rx.i_inv,ry.i_inv,hc,q _ H (Same.refl H) (.int _)⟩
theorem opD_b {K:Fg} {g:Int→Int→Bool}:OpD K (rI0 fun i j=>.bl (g i j)) (iD (fun _ _=>True) fun i j=>.bool (g i j)):=by
 intro H Av x y dx dy d Q hA rx ry h q
 obtain⟨i,j,rfl,rfl,hc,rfl⟩:=iD_inv h
 exact⟨i,j,rx.i_inv,ry.i_inv,q _ H (Same.refl H) (.bl _)⟩
def addD:Dat→Dat→Option Dat
 | .int i,.int j=>some (.int (i+j))
 | .str x,.str y=>if x.length+y.length≤sizeLine then some (.str (x++y))else none
 |_,_=>none
def CAny (_ _:Int):Prop:=True
def CBig (i j:Int):Prop:=j≠0∧j.natAbs.log2<9000
def CNz (_ j:Int):Prop:=j≠0
def CSh (_ j:Int):Prop:=0≤j
theorem op_sub':OpR X (binaryOp .Sub) (rI CAny fun i j=>.int (i-j)):=opI fun _ _ _ _ _ _ _ _ q=>sub_int q
theorem op_mul':OpR X (binaryOp .Mult) (rI IntMulOk fun i j=>.int (i*j)):=opI fun _ _ _ _ _ _ _ hc q=>mul_int q hc
theorem op_fdiv':OpR X (binaryOp .FloorDiv) (rI CBig fun i j=>.int (i.fdiv j)):=opI fun _ _ _ _ _ _ _ hc q=>floordiv_int hc.1 q (.inl (PyProof.noPylong_of_log2 hc.2))
theorem op_mod'':OpR X (binaryOp .Mod) (rI CNz fun i j=>.int (i.fmod j)):=opI fun _ _ _ _ _ _ _ hc q=>mod_int' hc q
theorem op_shr':OpR X (binaryOp .RShift) (rI CSh fun i j=>.int (i/2^j.toNat)):=op_shr
abbrev subD:Dat→Dat→Option Dat:=iD CAny fun i j=>.int (i-j)
abbrev mulD:Dat→Dat→Option Dat:=iD IntMulOk fun i j=>.int (i*j)
abbrev fdivD:Dat→Dat→Option Dat:=iD CBig fun i j=>.int (i.fdiv j)
abbrev modD:Dat→Dat→Option Dat:=iD CNz fun i j=>.int (i.fmod j)
abbrev powD:Dat→Dat→Option Dat:=iD CPow fun i j=>.int (i^j.toNat)
abbrev shrD:Dat→Dat→Option Dat:=iD CSh fun i j=>.int (i/2^j.toNat)
abbrev ltD:Dat→Dat→Option Dat:=iD (fun _ _=>True) fun i j=>.bool (decide (i<j))
abbrev leD:Dat→Dat→Option Dat:=iD (fun _ _=>True) fun i j=>.bool (decide (i≤j))
abbrev gtD:Dat→Dat→Option Dat:=iD (fun _ _=>True) fun i j=>.bool (decide (j<i))
abbrev geD:Dat→Dat→Option Dat:=iD (fun _ _=>True) fun i j=>.bool (decide (j≤i))
def negD:Dat→Option Dat
 | .int i=>some (.int (-i))
 |_=>none
mutual
theorem RepD.reads {pins:List (Addr×Obj)} {σ:L2.St} {H:Hp} {s:Shared} {Av:AvP} (I:Inv X pins σ H s):∀{v:V} {d:Dat} (n:Nat),RepD X.K H Av v d→kqdOk n d=true→∀u,RelV v u→∃as,Reads s.heap u (kqdP d) as
 |_,_,n,.non,_,u,r=>by cases(show u=Value.none from r);rw[kqdP];exact⟨_,.none⟩
 |_,_,n,.bl b,_,u,r=>by cases(show u=Value.bool b from r);rw[kqdP];exact⟨_,.bool b⟩
 |_,_,n,.int i,_,u,r=>by obtain⟨t,q⟩:=(show ∃t,u=Value.int i t from r);subst q;rw[kqdP];exact⟨_,.int i t⟩
 |_,_,n,.str x,_,u,r=>by obtain⟨t,q⟩:=(show ∃t,u=Value.str x t from r);subst q;rw[kqdP];exact⟨_,.str x t⟩
 |_,_,0,.tup _ _,hk,_,_=>by simp[kqdOk]at hk
 |_,_,0,.lst _ _,hk,_,_=>by simp[kqdOk]at hk
 |_,_,n+1,.tup (a:=a) hq rs,hk,u,r=>by
  cases(show u=Value.ref a from r)
  obtain⟨its,rv,⟨o,h1,h2,m,h3⟩,_⟩:=I.tuple hq.sq
  obtain⟨as,q⟩:=RepDs.reads I n rs (by simpa [kqdOk]using hk) its rv
  rw[kqdP]
  exact⟨as,.tuple h1 h2 h3 (by simpa using q)⟩
 |_,_,n+1,.lst (a:=a) hq rs,hk,u,r=>by
  cases(show u=Value.ref a from r)
  obtain⟨its,rv,⟨o,m,h1,h2,_,h3⟩,_⟩:=I.list hq.sq
  obtain⟨as,q⟩:=RepDs.reads I n rs (by simpa [kqdOk]using hk) its rv
  rw[kqdP]
  exact⟨_,.list h1 h2 h3 (by simpa using q)⟩
theorem RepDs.reads {pins:List (Addr×Obj)} {σ:L2.St} {H:Hp} {s:Shared} {Av:AvP} (I:Inv X pins σ H s):∀{vs:List V} {ds:List Dat} (n:Nat),RepDs X.K H Av vs ds→(∀d∈ds,kqdOk n d=true)→∀us,Vals vs us→∃as,ReadsAll s.heap us (kqdPs ds) as
 |_,_,n,.nil,_,us,r=>by cases r;rw[kqdPs];exact⟨_,.nil⟩
 |_,_,n,.cons h t,hk,us,r=>by
  cases r with
  |cons r1 r2=>
   obtain⟨as,q⟩:=RepD.reads I n h (hk _ (.head _)) _ r1
   obtain⟨bs,p⟩:=RepDs.reads I n t (fun d hm=>hk d (.tail _ hm)) _ r2
   rw[kqdPs]
   exact⟨_,.cons q p⟩
end
theorem eqv_dec (d e:Dat) (h1:kqdOk 9 d=true) (h2:kqdOk 9 e=true):PyData.eqv (kqdP d) (kqdP e)=(decD d e):=by
 have q:=kqd_eqv 9 d e 9 h1 h2
 by_cases hq:d=e
 ·rw[decD_t hq];exact q.mpr hq
 ·rw[decD_f hq];exact Bool.eq_false_iff.mpr fun x=>hq (q.mp x)
theorem shaped_of (d:Dat) (h:kqdOk 9 d=true):SeqAt.shaped (kqdP d)=true:=by
 have l:=kqd_lay 9 d h
 unfold SeqAt.shaped;rw[l.1,Bool.true_and];exact decide_eq_true (Nat.le_trans l.2 (by decide))
def rEqD (K:Fg):R2:=fun x y H Q=>∃Av d e,RepD K H Av x d∧RepD K H Av y e∧kqdOk 9 d=true∧kqdOk 9 e=true∧Q (.bl (decD d e)) H
def rNeD (K:Fg):R2:=fun x y H Q=>∃Av d e,RepD K H Av x d∧RepD K H Av y e∧kqdOk 9 d=true∧kqdOk 9 e=true∧Q (.bl (!(decD d e))) H
theorem op_eqD (hu:X.A.units+64<cLine):OpR X (compareOp .Eq) (rEqD X.K):=by
 intro pins s σ H x y v u Q I rx ry h
 obtain⟨Av,d,e,r1,r2,k1,k2,q⟩:=h
 obtain⟨as,ra⟩:=r1.reads I 9 k1 v rx
 obtain⟨bs,rb⟩:=r2.reads I 9 k2 u ry
 exact eq_dataH ra rb (shaped_of d k1) (shaped_of e k2) hu ⟨.bl _,H,I,by rw[eqv_dec d e k1 k2];rfl,q⟩
theorem op_neD (hu:X.A.units+64<cLine):OpR X (compareOp .NotEq) (rNeD X.K):=by
 intro pins s σ H x y v u Q I rx ry h
 obtain⟨Av,d,e,r1,r2,k1,k2,q⟩:=h
 obtain⟨as,ra⟩:=r1.reads I 9 k1 v rx
 obtain⟨bs,rb⟩:=r2.reads I 9 k2 u ry
 exact ne_dataH ra rb (shaped_of d k1) (shaped_of e k2) hu ⟨.bl _,H,I,by rw[eqv_dec d e k1 k2];rfl,q⟩
def eqB:Dat→Dat→Option Bool:=open Classical in fun x y=>match x,y with
 | .bool a,.bool b=>some (a==b)
 | .str a,.str b=>some (decide (a=b))
 |d,e=>if kqdOk 9 d=true∧kqdOk 9 e=true then some (decD d e)else none
def eqD:Dat→Dat→Option Dat:=fun x y=>(eqB x y).map .bool
def neD:Dat→Dat→Option Dat:=fun x y=>(eqB x y).map fun k=>.bool (!k)
theorem eqB_cases {x y:Dat} {k:Bool} (h:eqB x y=some k):(∃a b,x=.bool a∧y=.bool b∧k=(a==b))∨(∃a b,x=.str a∧y=.str b∧k=decide (a=b))∨(kqdOk 9 x=true∧kqdOk 9 y=true∧k=(decD x y)):=by
 unfold eqB at h
 split at h
 ·cases h;exact .inl ⟨_,_,rfl,rfl,rfl⟩
 ·cases h;exact .inr (.inl ⟨_,_,rfl,rfl,by congr⟩)
 ·split at h
  ·rename_i hk;cases h;exact .inr (.inr ⟨hk.1,hk.2,rfl⟩)
  ·cases h
theorem opD_eq {K:Fg}:OpD K (fun x y H Q=>rEq x y H Q∨rEqD K x y H Q) eqD:=by
 intro H Av x y dx dy d Q hA rx ry h q
 obtain⟨k,e1,rfl⟩:=map_some' h
 rcases eqB_cases e1 with⟨a,b,rfl,rfl,rfl⟩|⟨a,b,rfl,rfl,rfl⟩|⟨k1,k2,rfl⟩
 ·rw[rx.b_inv,ry.b_inv]
  exact .inl ⟨rfl,by rw[dec_bl];exact q _ H (Same.refl H) (.bl _)⟩
 ·rw[rx.s_inv,ry.s_inv]
  exact .inl ⟨rfl,by
   have:decide (V.str a=V.str b)=decide (a=b):=by simp
   rw[this];exact q _ H (Same.refl H) (.bl _)⟩
 ·exact .inr ⟨Av,dx,dy,rx,ry,k1,k2,q _ H (Same.refl H) (.bl _)⟩
theorem opD_ne {K:Fg}:OpD K (fun x y H Q=>rNe x y H Q∨rNeD K x y H Q) neD:=by
 intro H Av x y dx dy d Q hA rx ry h q
 obtain⟨k,e1,rfl⟩:=map_some' h
 rcases eqB_cases e1 with⟨a,b,rfl,rfl,rfl⟩|⟨a,b,rfl,rfl,rfl⟩|⟨k1,k2,rfl⟩
 ·rw[rx.b_inv,ry.b_inv]
  exact .inl ⟨rfl,by rw[dec_bl];exact q _ H (Same.refl H) (.bl _)⟩
 ·rw[rx.s_inv,ry.s_inv]
  exact .inl ⟨rfl,by
   have:decide (V.str a=V.str b)=decide (a=b):=by simp
   rw[this];exact q _ H (Same.refl H) (.bl _)⟩
 ·exact .inr ⟨Av,dx,dy,rx,ry,k1,k2,q _ H (Same.refl H) (.bl _)⟩
def absD:List Dat→Option Dat
 |[.int i]=>some (.int (if i<0 then -i else i))
 |_=>none
theorem callD_abs {K:Fg}:CallD K (fun xs H Q=>∃i,xs=[.int i]∧Q (.int (if i<0 then -i else i)) H) absD:=by
 intro H Av xs ds d Q hA r h q
 unfold absD at h
 split at h
 ·cases h
  obtain⟨v,rfl,rv⟩:=r.one_inv
  rw[rv.i_inv]
  exact⟨_,rfl,q _ H (Same.refl H) (.int _)⟩
 ·cases h
def strD:List Dat→Option Dat
 |[.int i]=>if i.natAbs.log2<1920 then some (.str (toString i))else none
 |_=>none
theorem callD_str {K:Fg}:CallD K (fun xs H Q=>∃i,xs=[.int i]∧i.natAbs.log2<1920∧Q (.str (toString i)) H) strD:=by
 intro H Av xs ds d Q hA r h q
 unfold strD at h
 split at h
 ·split at h
  ·rename_i hz
   cases h
   obtain⟨v,rfl,rv⟩:=r.one_inv
   rw[rv.i_inv]
   exact⟨_,rfl,hz,q _ H (Same.refl H) (.str _)⟩
  ·cases h
 ·cases h
def intD:List Dat→Option Dat
 |[.int i]=>some (.int i)
 |[.bool k]=>some (.int (if k then 1 else 0))
 |_=>none
theorem callD_int {K:Fg}:CallD K (fun xs H Q=>(∃i,xs=[.int i]∧Q (.int i) H)∨∃k,xs=[.bl k]∧Q (.int (if k then 1 else 0)) H) intD:=by
 intro H Av xs ds d Q hA r h q
 unfold intD at h
 split at h
 ·cases h
  obtain⟨v,rfl,rv⟩:=r.one_inv
  rw[rv.i_inv]
  exact .inl ⟨_,rfl,q _ H (Same.refl H) (.int _)⟩
 ·cases h
  obtain⟨v,rfl,rv⟩:=r.one_inv
  rw[rv.b_inv]
  exact .inr ⟨_,rfl,q _ H (Same.refl H) (.int _)⟩
 ·cases h
def lenD:List Dat→Option Dat
 |[.str z]=>if z.length≤sizeLine then some (.int z.length)else none
 |[.list ds]=>some (.int ds.length)
 |[.tuple ds]=>some (.int ds.length)
 |_=>none
theorem callD_len {K:Fg}:CallD K (fun xs H Q=>∃x n,xs=[x]∧LenV K x H n∧Q (.int n) H) lenD:=by
 intro H Av xs ds d Q hA r h q
 unfold lenD at h
 split at h
 ·split at h
  ·rename_i hz
   cases h
   obtain⟨v,rfl,rv⟩:=r.one_inv
   rw[rv.s_inv]
   exact⟨_,_,rfl,⟨hz,rfl⟩,q _ H (Same.refl H) (.int _)⟩
  ·cases h
 ·cases h
  obtain⟨v,rfl,rv⟩:=r.one_inv
  obtain⟨a,ys,rfl,hq,rs⟩:=rv.l_inv
  exact⟨_,_,rfl,.inl ⟨ys,hq.sq,rfl⟩,by rw[rs.length];exact q _ H (Same.refl H) (.int _)⟩
 ·cases h
  obtain⟨v,rfl,rv⟩:=r.one_inv
  obtain⟨a,ys,rfl,hq,rs⟩:=rv.t_inv
  exact⟨_,_,rfl,.inr ⟨ys,hq.sq,rfl⟩,by rw[rs.length];exact q _ H (Same.refl H) (.int _)⟩
 ·cases h
def tyD:Dat→Option String
 | .none=>some "NoneType"| .bool _=>some "bool"| .int _=>some "int"| .str _=>some "str"| .tuple _=>some "tuple"| .list _=>some "list"
 | .bytes _=>none
theorem kit_any (K:Fg) (t T:String) (ht:t∈["NoneType","bool","int","str","tuple","list"]) (hT:T∈["bool","int","str","tuple","list"]):PySem.W.kitOne K (.type t) (.type T)=some (decide (t=T) || (decide (t="bool")&&decide (T="int"))):=by
 simp only[List.mem_cons,List.not_mem_nil,or_false]at ht hT
 rcases ht with rfl|rfl|rfl|rfl|rfl|rfl<;>rcases hT with rfl|rfl|rfl|rfl|rfl<;>rfl
def isD (T:String):Dat→Option Dat:=fun d=>(tyD d).bind fun t=>if T∈["bool","int","str","tuple","list"]then some (.bool (decide (t=T) || (decide (t="bool")&&decide (T="int"))))else none
theorem call_isinst (T:String):CallR X (.builtin "isinstance") (fun xs H Q=>∃Av x d dd,xs=[x,.ty T]∧RepD X.K H Av x d∧isD T d=some (.bool dd)∧Q (.bl dd) H):=by
 intro pins s σ H xs us Q I r h
 obtain⟨Av,x,d,dd,rfl,rd,hi,q⟩:=h
 obtain⟨u,t,rfl,ru,rt⟩:=vals2 r
 cases(show t=Value.type T from rt)
 obtain⟨ty,e1,hi⟩:=bind_some (show(tyD d).bind _=some (Dat.bool dd)from hi)
 split at hi
 ·rename_i hT
  have hi':=(Option.some.inj hi).symm
  injection hi' with hi''
  have fin:∀tk,EP X pins σ Q (.bool dd) {s with toks:=tk}:=fun tk=>⟨.bl dd,H,I.tok tk,rfl,q⟩
  cases rd with
  |non=>cases e1;cases(show u=Value.none from ru);exact PySem.W.kia_one PySem.W.kitx_none I.kIn True.intro (by rw[kit_any _ _ _ (by simp) hT,hi'']) (fun z=>nomatch z) fin
  |bl y=>cases e1;cases(show u=Value.bool y from ru);exact PySem.W.kia_one PySem.W.kitx_bool I.kIn True.intro (by rw[kit_any _ _ _ (by simp) hT,hi'']) (fun z=>nomatch z) fin
  |int i=>cases e1;obtain⟨t,z⟩:=(show ∃t,u=Value.int i t from ru);cases z;exact PySem.W.kia_one PySem.W.kitx_int I.kIn True.intro (by rw[kit_any _ _ _ (by simp) hT,hi'']) (fun z=>nomatch z) fin
  |str y=>cases e1;obtain⟨t,z⟩:=(show ∃t,u=Value.str y t from ru);cases z;exact PySem.W.kia_one PySem.W.kitx_str I.kIn True.intro (by rw[kit_any _ _ _ (by simp) hT,hi'']) (fun z=>nomatch z) fin
  | @lst a xs ds hq rs=>
   cases e1
   cases(show u=Value.ref a from ru)
   obtain⟨its,_,⟨o,m,h1,h2,_⟩,_⟩:=I.list hq.sq
   exact PySem.W.kia_one PySem.W.kitx_list I.kIn ⟨o,h1,h2⟩ (by rw[kit_any _ _ _ (by simp) hT,hi'']) (fun z=>nomatch z) fin
  | @tup a xs ds hq rs=>
   cases e1
   cases(show u=Value.ref a from ru)
   obtain⟨its,_,⟨o,h1,h2,_⟩,_⟩:=I.tuple hq.sq
   exact PySem.W.kia_one PySem.W.kitx_tuple I.kIn ⟨o,h1,h2⟩ (by rw[kit_any _ _ _ (by simp) hT,hi'']) (fun z=>nomatch z) fin
 ·cases hi
theorem isD_bool {T:String} {d r:Dat} (h:isD T d=some r):∃k,r=.bool k:=by
 obtain⟨t,e1,h⟩:=bind_some (show(tyD d).bind _=some r from h)
 split at h
 ·cases h;exact⟨_,rfl⟩
 ·cases h
def ixD:Dat→Dat→Option Dat:=fun x y=>match x,y with
 | .list ds,.int i=>atI ds i
 | .tuple ds,.int i=>atI ds i
 |_,_=>none
theorem RepDs.atI {K:Fg} {H:Hp} {Av:AvP} {vs:List V} {ds:List Dat} {i:Int} {d:Dat} (r:RepDs K H Av vs ds) (h:L2.atI ds i=some d):∃v,L2.atI vs i=some v∧RepD K H Av v d:=by
 unfold L2.atI at h ⊢
 rw[r.length]
 obtain⟨j,e1,h⟩:=bind_some h
 obtain⟨v,hv,rv⟩:=r.get h
 exact⟨v,by rw[e1];exact hv,rv⟩
def cutD (ds:List Dat) (lo hi:Option Int):List Dat:=(ds.drop (HT.sIx ds.length 0 lo)).take (HT.sIx ds.length ds.length hi-HT.sIx ds.length 0 lo)
def tOF (K:Fg) (f:Rho→Option (Option Int)):TO:=fun σ H Q=>∃Av ρ o,AvT H Av∧REnv K H Av σ ρ∧f ρ=some o∧∀H',Same H H'→Q o H'
abbrev PFO (X:Cx) (e:Option Expr) (f:Rho→Option (Option Int)):Prop:=PO X e (tOF X.K f)
theorem po_mono {o:Option Expr} {t t':TO} (h:PO X o t) (m:∀σ H Q,t' σ H Q→t σ H Q):PO X o t':=fun pins s σ H Q I q=>h pins s σ H Q I (m σ H Q q)
def asI:Dat→Option Int
 | .int i=>some i
 |_=>none
theorem asI_some {d:Dat} {b:Int} (h:asI d=some b):d=.int b:=by
 cases d<;>first|(cases h;done)|(simp only[asI,Option.some.injEq]at h;rw[h])
def oNone:Rho→Option (Option Int):=fun _=>some none
def oSome (f:Rho→Option Dat):Rho→Option (Option Int):=fun ρ=>(f ρ).bind fun d=>(asI d).map some
def capR (cap:List (Option Nat)) (ρ:Rho):Rho:=cap.map fun o=>o.bind fun j=>(ρ[j]?).join
def compL (gt:Dat→Option Asg) (ft:Rho→Option Bool) (fe:Rho→Option Dat) (ρ0:Rho):List Dat→Option (List Dat)
 |[]=>some []
 |d::r=>(gt d).bind fun as=>(ft (setR ρ0 as)).bind fun c=>if c=true then(fe (setR ρ0 as)).bind fun v=>(compL gt ft fe ρ0 r).map (v::·)else compL gt ft fe ρ0 r
def fComp (cap:List (Option Nat)) (gt:Dat→Option Asg) (ft:Rho→Option Bool) (fe:Rho→Option Dat) (fi:Rho→Option Dat):Rho→Option (List Dat):=fun ρ=>(fi ρ).bind fun d=>(itemsD d).bind fun ds=>if ds.length<sizeLine then compL gt ft fe (capR cap ρ) ds else none
theorem REnv.cap {K:Fg} {H:Hp} {Av:AvP} {σ:L2.St} {ρ:Rho} (h:REnv K H Av σ ρ) (cap:List (Option Nat)):REnv K H Av (capV cap σ) (capR cap ρ):=fun i d e=>by
 unfold capR at e
 rw[List.getElem?_map]at e
 cases hc:cap[i]? with
 |none=>rw[hc]at e;cases e
 |some o=>
  rw[hc]at e
  cases o with
  |none=>cases e
  |some j=>
   have e2:some ((ρ[j]?).join)=some (some d):=e
   obtain⟨v,hv,r⟩:=h j d (join_some (Option.some.inj e2))
   refine⟨v,?_,r⟩
   unfold capV
   rw[List.getElem?_map,hc]
   show some ((σ[j]?).join)=_
   rw[hv];rfl
theorem REnv.setAll {K:Fg} {H:Hp} {Av:AvP} {ws:List (Nat×V)} {as:Asg} {σ:L2.St} {ρ:Rho} (h:RepA K H Av ws as) (hl:σ.length=ρ.length) (E:REnv K H Av σ ρ):REnv K H Av (setV σ ws) (setR ρ as):=by
 induction h generalizing σ ρ with
 |nil=>exact E
 | @cons i v d vs ds h r ih=>
  refine ih (σ:=σ.set i (some v)) (ρ:=ρ.set i (some d)) (by rw[List.length_set,List.length_set];exact hl) fun j d' e=>?_
  have hlt:=get_lt e
  rw[List.length_set]at hlt
  rcases set_get e with⟨e1,q⟩|⟨e1,q⟩
  ·subst e1
   cases q
   exact⟨v,List.getElem?_set_self (by rw[hl];exact hlt),h⟩
  ·obtain⟨u,a,b⟩:=E j d' q
   exact⟨u,by rw[List.getElem?_set_ne (Ne.symm e1)];exact a,b⟩
theorem LeS.refl:∀(a:L2.St),LeS a a
 |[]=>trivial
 |none::a=>LeS.refl a
 |some v::a=>⟨rfl,LeS.refl a⟩
theorem LeS.set:∀{a b:L2.St} {i:Nat} {x:Option V},LeS a b→a[i]?=some none→LeS a (b.set i x)
 |none::a,_::b,0,x,h,_=>h
 |some v::a,_::b,0,x,h,e=>by simp at e
 |none::a,_::b,i+1,x,h,e=>LeS.set (a:=a) (b:=b) (i:=i) h (by simpa using e)
 |some v::a,_::b,i+1,x,h,e=>⟨h.1,LeS.set (a:=a) (b:=b) (i:=i) h.2 (by simpa using e)⟩
 |[],_,_,_,_,e=>by simp at e
 |none::_,[],_,_,h,_=>h.elim
 |some _::_,[],_,_,h,_=>h.elim
theorem LeS.setAll {K:Fg} {H:Hp} {Av:AvP} {ws:List (Nat×V)} {as:Asg} {a b:L2.St} (h:RepA K H Av ws as) (hs:∀p∈as,a[p.1]?=some none) (l:LeS a b):LeS a (setV b ws):=by
 induction h generalizing b with
 |nil=>exact l
 | @cons i v d vs ds h r ih=>exact ih (fun p hp=>hs p (List.mem_cons_of_mem _ hp)) (LeS.set l (hs _ List.mem_cons_self))
def TgOk (gt:Dat→Option Asg) (cap:List (Option Nat)):Prop:=∀d as,gt d=some as→∀p∈as,cap[p.1]?=some none
theorem tg_name {i:Nat} {cap:List (Option Nat)} (h:cap[i]?=some none):TgOk (aName i) cap:=fun d as e p hp=>by
 cases e
 have:p=(i,d):=by simpa using hp
 subst this
 exact h
theorem tComp_F {K:Fg} {cap:List (Option Nat)} {gt:Dat→Option Asg} {ft:Rho→Option Bool} {fe fi:Rho→Option Dat} (ht:TgOk gt cap):∀σ H Q,tFL K (fComp cap gt ft fe fi) σ H Q→tComp cap (iSeq K (tF K fi)) (tGF K gt) (tTF K ft) (tF K fe) σ H Q:=by
 rintro σ H Q ⟨Av,ρ,out,hA,hE,hf,q⟩
 obtain⟨d,e1,hf⟩:=bind_some hf
 obtain⟨ds,e2,hf⟩:=bind_some hf
 split at hf
 ·rename_i hz
  refine⟨Av,ρ,d,hA,hE,e1,fun x H1 s1 r=>?_⟩
  have main:∀J:It,Over K J x d ds→∃W:Nat→Nat→List V→Hp→Prop,(∃m,W 0 m [] H1)∧∀i m ys H,W i m ys H→ys.length<sizeLine∧
    ((J.stop i H∧∀D,H D=none→Q (.ref D) (upd H D (.lst ys)))∨
     (J.go i H∧∀x H',J.yld i H x H'→tGF K gt x (capV cap σ) H' fun σ2 H2=>LeS (capV cap σ) σ2∧tTF K ft σ2 H2 fun b H3=>if b=true then tF K fe σ2 H3 fun v H4=>∃m',m'<m∧W (i+1) m' (ys++[v]) H4 else ∃m',m'<m∧W (i+1) m' ys H3)):=by
   intro J ov
   refine⟨fun i m ys H2=>m=ds.length-i∧i≤ds.length∧Same H1 H2∧∃o1 o2,RepDs K H2 Av ys o1∧o1.length≤i∧compL gt ft fe (capR cap ρ) (ds.drop i)=some o2∧out=o1++o2,
    ⟨_,rfl,Nat.zero_le _,Same.refl _,[],out,.nil,Nat.le_refl _,by rw[List.drop_zero];exact hf,rfl⟩,?_⟩
   rintro i m ys H2 ⟨rfl,hi,s2,o1,o2,ro,hl,hc,rfl⟩
   refine⟨by have:=ro.length;omega,?_⟩
   have rx:=r.same s2
   cases hdi:ds[i]? with
   |none=>
    have hle:ds.length≤i:=List.getElem?_eq_none_iff.mp hdi
    rw[List.drop_eq_nil_of_le hle]at hc
    cases hc
    refine .inl ⟨(ov i H2 _ rx).1 hle,fun D hD=>q H2 D ys (s1.trans s2) hD (by rw[List.append_nil];exact ro)⟩
   |some di=>
    have hlt:=get_lt hdi
    rw[drop_cons hdi]at hc
    obtain⟨as,a1,hc⟩:=bind_some (show(gt di).bind _=some o2 from hc)
    obtain⟨k,a2,hc⟩:=bind_some hc
    obtain⟨go,yl⟩:=(ov i H2 _ rx).2 di hdi
    refine .inr ⟨go,fun y H' hy=>?_⟩
    obtain⟨eH,ry⟩:=yl y H' hy
    subst eH
    refine⟨Av,di,as,ry,a1,fun ws hw=>?_⟩
    have cs:∀p∈as,(capV cap σ)[p.1]?=some none:=fun p hp=>by
     unfold capV
     rw[List.getElem?_map,ht di as a1 p hp];rfl
    have A2:=hA.same (s1.trans s2)
    have E2:REnv K H' Av (setV (capV cap σ) ws) (setR (capR cap ρ) as):=REnv.setAll hw (by unfold capV capR;rw[List.length_map,List.length_map]) ((hE.same (s1.trans s2)).cap cap)
    refine⟨LeS.setAll hw cs (LeS.refl _),Av,_,k,A2,E2,a2,fun H3 s3=>?_⟩
    cases k with
    |false=>
     rw[if_neg Bool.false_ne_true]at hc ⊢
     exact⟨ds.length-(i+1),by omega,rfl,by omega,s2.trans s3,o1,o2,ro.same s3,by omega,hc,rfl⟩
    |true=>
     rw[if_pos rfl]at hc ⊢
     obtain⟨dv,a3,hc⟩:=bind_some hc
     obtain⟨o3,a4,hc⟩:=map_some' hc
     subst hc
     refine⟨Av,_,dv,A2.same s3,E2.same s3,a3,fun v H4 s4 rv=>⟨ds.length-(i+1),by omega,rfl,by omega,s2.trans (s3.trans s4),o1++[dv],o3,(ro.same (s3.trans s4)).append (.cons rv .nil),?_,a4,?_⟩⟩
     ·rw[List.length_append,List.length_singleton];omega
     ·rw[List.append_assoc];rfl
  cases d with
  |list ds'=>
   cases e2
   obtain⟨a,xs,rfl,hq,rs⟩:=r.l_inv
   exact⟨a,rfl,.inl ⟨⟨xs,hq.sq⟩,main _ over_list⟩⟩
  |tuple ds'=>
   cases e2
   obtain⟨a,xs,rfl,hq,rs⟩:=r.t_inv
   exact⟨a,rfl,.inr ⟨⟨xs,hq.sq⟩,main _ over_tup⟩⟩
  |_=>cases e2
 ·cases hf
def fL (f:Rho→Option (List Dat)):Rho→Option Dat:=fun ρ=>(f ρ).map .list
def tYesF:Rho→Option Bool:=fun _=>some true
end
open PySem PySem.Spec PyProof.Rows L2
open PySem.W (Dat kqdOk)
section
variable {X:Cx} {a b c e:Expr} {es:List Expr} {pos:Pos} {fa fb fc f:Rho→Option Dat} {fs:Rho→Option (List Dat)} {ft:Rho→Option Bool}
def sPar (i j:Nat) (fs:Rho→Option (List Dat)):Gam→Option Fl:=fun Γ=>(fs (immV Γ)).bind fun ds=>match ds with
 |[d,d']=>some (.nx ((Γ.set i (some (.imm d))).set j (some (.imm d'))))
 |_=>none
def strsD:List Dat→Option (List Str)
 |[]=>some []
 | .str x::r=>(strsD r).map (x::·)
 |_::_=>none
def joinD:Dat→List Dat→Option Dat:=fun x as=>match x,as with
 | .str x,[.list ds]=>(strsD ds).bind fun ys=>if(ys.map (·.length)).sum+ys.length*x.length≤16777216 then some (.str (Txt.join x ys))else none
 |_,_=>none
theorem strs_of {K:Fg} {H:Hp} {Av:AvP}:∀{vs:List V} {ds:List Dat} {ys:List Str} {us:List Value},RepDs K H Av vs ds→strsD ds=some ys→Vals vs us→StrsAre us ys
 |_,_,_,_,.nil,e,r=>by cases e;cases r;exact .nil
 |_,_,_,_,.cons h t,e,r=>by
  cases h with
  |str x=>
   obtain⟨zs,e1,e2⟩:=map_some' (show(strsD _).map _=some _ from e)
   subst e2
   cases r with
   |cons r1 r2=>
    obtain⟨tk,rfl⟩:=r1
    exact .cons _ tk (strs_of t e1 r2)
  |_=>cases e
def rJoin (K:Fg):V→List V→Hp→VK→Prop:=fun x xs H Q=>∃Av z p vs ds ys,x=.str z∧xs=[.ref p]∧SqL K H p vs∧RepDs K H Av vs ds∧strsD ds=some ys∧(ys.map (·.length)).sum+ys.length*z.length≤16777216∧Q (.str (Txt.join z ys)) H
theorem mt_join:MtR X "str.join" (rJoin X.K):=by
 intro pins s σ H x xs v us Q I rx rv h
 obtain⟨Av,z,p,vs,ds,ys,rfl,rfl,hq,rs,hy,hz,q⟩:=h
 obtain⟨t,rfl⟩:=rx
 obtain⟨u,rfl,ru⟩:=vals1 rv
 cases ru
 obtain⟨its,r,pl,_⟩:=I.list hq
 exact join_list pl.isList (strs_of rs hy (by simpa using r)) hz fun t' k=>⟨.str _,H,I.tok k,⟨t',rfl⟩,q⟩
def fMeth (g:Dat→List Dat→Option Dat) (f:Rho→Option Dat) (fs:Rho→Option (List Dat)):Rho→Option Dat:=fun ρ=>(f ρ).bind fun d=>(fs ρ).bind fun ds=>g d ds
theorem blk_plain {scope:Scope} {N':List Str} (hf:∀y∈scope.names,y.2≠.free:=by decide +kernel) (hc:∀y∈scope.names,y.2≠.cell:=by decide +kernel) (hk:scope.kind=.function:=by rfl) (hn:∀y∈scope.names,y.2=.local→scope.names.lookup y.1=some .local:=by decide +kernel) (nd:N'.Nodup:=by decide +kernel):Blk X scope [] N' (N'.map fun _=>none):=by
 have rl:(relabel scope X.env).names=scope.names:=by
  unfold relabel
  exact map_eq_self (l:=scope.names) fun x hx=>by
   obtain⟨n,k⟩:=x
   have:(k==NameKind.free)=false:=by simpa using hf _ hx
   simp[this]
 refine⟨closureFor_none hf,hc,hk,hn,nd,by rw[List.length_map],fun x c h=>(by cases h),fun x h=>?_,fun i x j e1 e2=>?_⟩
 ·rw[rl]at h
  rcases h with h|h
  ·exact absurd rfl (hc _ (PySem.mem_of_lookup h))
  ·exact absurd rfl (hf _ (PySem.mem_of_lookup h))
 ·rw[List.getElem?_map]at e2
  cases h:N'[i]? with
  |none=>rw[h]at e2;cases e2
  |some y=>rw[h]at e2;cases e2
end
def spLaw (K:Fg):Sp:=fun vs H Q _=>∃(a:Addr) (ns:List Int),vs=[.ref a]∧SqL K H a (ns.map V.int)∧ns.length≤63∧∀H',Q (.bl true) H'
theorem law_of {P:Program} {w:World} {K:Fg} {mg:Str→Option Value} {base:Heap} {k:Nat} {f:Addr} {fd:FuncData} {ps:List Str} {F:List Dat→Option Dat} (h:FnOk P w K mg base CX0 k f fd ps (spF K 1 F)) (hF:∀ns:List Int,ns.length≤63→F [.list (ns.map .int)]=some (.bool true)):FnOk P w K mg base CX0 k f fd ps (spLaw K):=
 h.imp fun vs H Q E hzz=>by
  obtain⟨a,ns,e,hS,hl,q⟩:=hzz
  subst e
  refine⟨fun _=>False,[.list (ns.map .int)],.bool true,fun _ z=>z.elim,.cons (.lst ?_ (RepDs.ints ns)) .nil,rfl,hF ns hl,fun v H' _ r=>by rw[r.b_inv];exact q H'⟩
  rcases hS with h|h
  ·exact .inl ⟨h,fun z=>z⟩
  ·exact .inr h
theorem walkL {l:PySem.W.OpenLaw} {q:Program} {loose:List Str} {XP:(Str→Option Value)→Heap→Prop} {YP:World→Heap→Prop} {d:DefRec} {K:Params→Fg} {k:Nat} (hk:k≤100) (hn:l.most=some 63) (hdf:d.params.defaults=[])
  (hY:∀(w:World) (h:Heap),YP w h→(K w.params).In h)
  (F:∀(w:World) (mg:Str→Option Value) (fa:Addr) (h:Heap),(K w.params).In h→h.Ns mainGlobals mg→mg d.name=some (.ref fa)→
   ∃fd:FuncData,(∀(s:Shared) (u:Value),BindsTo s fd ⟨[u],[]⟩ [("script",u)])∧∀base:Heap,(K w.params).In base→base.Ns mainGlobals mg→FnOk l.prog w (K w.params) mg base CX0 100 fa fd ["script"] (spLaw (K w.params))):
  PySem.W.WalkO q loose XP YP l.row.toRowW d [] (fun f vs=>PySem.call f vs):=
 L2.walk_of (n:=63) (k:=100) (x:="script") (CX:=fun _=>CX0) (sp:=fun w=>spLaw (K w.params)) hn (by decide) hdf ⟨rfl,by decide,by decide⟩ hY F (fun _ _ a ns hl _ hS=>⟨a,ns,rfl,hS,hl,fun _=>rfl⟩) fun _ _ _ _ _ z=>z
open PySem PySem.Spec PyProof.Rows L2
open PySem.W (Dat kqdOk)
section
variable {X:Cx} {a b:Expr} {pos:Pos} {fa fb:Rho→Option Dat}
def rCatS (K:Fg):R2:=fun x y H Q=>∃l b xs zs,x=.ref l∧y=.ref b∧SqL K H l xs∧SqL K H b zs∧xs.length+zs.length≤sizeLine∧∀p,H p=none→Q (.ref p) (upd H p (.lst (xs++zs)))
theorem op_catS:OpR X (binaryOp .Add) (rCatS X.K):=by
 intro pins s σ H x y v u Q I rx ry h
 obtain⟨l,b,xs,zs,rfl,rfl,hH,hB,hz,q⟩:=h
 cases rx
 cases ry
 obtain⟨its,r,⟨⟨cls,dd,data,sl⟩,n,ho,hc,hd0,hd⟩,_⟩:=I.list hH
 obtain⟨its2,r2,⟨⟨cls2,dd2,data2,sl2⟩,n2,ho2,hc2,hd02,hd2⟩,_⟩:=I.list hB
 simp only at hc hd hc2 hd2
 subst hc hd hc2 hd2
 have h1:=r.length
 have h2:=r2.length
 have e:its.toArray++its2.toArray=(its++its2).toArray:=by simp
 refine PySem.concat_meets ⟨_,ho,rfl⟩ ⟨_,ho2,rfl⟩ PySem.noFill_list_add PySem.seq_list_add PySem.F.slot_list_add PySem.F.entry_list_add (PySem.F.args_list_add_2 _ _) (list_addW l b its.toArray its2.toArray n n2 dd dd2 sl sl2 (by rw[List.size_toArray,List.size_toArray];omega)) ⟨ho,ho2,?_⟩
 rw[e]
 exact⟨.ref _,_,I.lnew (t':=s.toks) (r.append r2) (by rw[List.length_append];omega),rfl,q _ I.fresh⟩
end
end L3
namespace L2
open PySem PySem.Spec PyProof.Rows
def tCompS (i:Nat) (cap:List (Option Nat)) (wi:TI) (g:TG) (tif:TT) (te:TE):TS:=fun D σ H=>tComp cap wi g tif te σ H fun v H'=>D.nx (σ.set i (some v)) H'
theorem ps_compG {X:Cx} {elt tg iter:Expr} {ifs:List Expr} {scope:Scope} {own:Option Str} {cl:List (Str×Addr)} {pos spos pos':Pos} {N':List Str} {cap:List (Option Nat)} {wi:TI} {g:TG} {tif:TT} {te:TE} {iz:Nat} {x:Str}
  (hc:X.calm=true) (B:BlkG X scope own cl N' cap) (hi:PI X tg iter wi)
  (hg:∀C s₀ H₀ ex,PG (blkG X scope own cl N' C s₀ H₀ ex) tg g) (ht:∀C s₀ H₀ ex,PTs (blkG X scope own cl N' C s₀ H₀ ex) ifs tif) (he:∀C s₀ H₀ ex,PE (blkG X scope own cl N' C s₀ H₀ ex) elt te)
  (hN:X.N.Nodup) (hxi:X.N[iz]?=some x) (hx:Loc X.env.scope x)
  (hsw:swapsWith (.ListComp elt [⟨tg,iter,ifs,0⟩] scope pos) (some (.Name x pos')) spos.line X.env=pure true)
  (hfx:X.fn x=true∨X.env.scope.names.lookup x=some .local)
  (hs:∀x,foldedSetIterable iter X.env x=pure x:=by intro _;rfl):
  PS X (.Assign [.Name x pos'] (.ListComp elt [⟨tg,iter,ifs,0⟩] scope pos) spos) (tCompS iz cap wi g tif te):=by
 intro pins s σ H DD I h
 rw[exec_Assign_Name_used _ _ _ _ hsw]
 refine wpAny_bind (wpAny_standAt (wpAny_bind ?_))
 show wpAny _ X.A (do let _ ← comprehension (.ListComp elt [⟨tg,iter,ifs,0⟩] scope pos) scope X.env _ (newList []) false (eval iter X.env) (some (assign (.Name x pos') X.env))) _ _ s
 refine wpAny_bind (wpAny_mono (wpAny_comprehension_free (use:=some (assign (.Name x pos') X.env)) (Q:=fun _ s'=>SP X pins DD .next s') rfl hs B.clos B.kind B.names (thn (hi pins s σ H _ I h) fun xv s₁ h₁=>thn h₁ fun itv s₂ h₂=>?_)) (fun _ s' hq=>wpAny_pure (wpAny_pure hq)) fun _ _ e=>e)
 obtain⟨it,fp,tn,J,H2,e,I2,T,st2,f2,W,⟨m0,w0⟩,turn⟩:=h₂
 subst e
 refine compG_core (RR:=fun acc C=>compPost (model X.prog X.w) X.A X.xe (some (assign (.Name x pos') X.env)) (fun _ s'=>SP X pins DD .next s') acc C) (Q:=fun v H'=>DD.nx (σ.set iz (some v)) H') hc B hg ht he I2 T st2 f2 w0 turn fun D C s4 H' ys its k hD hCs neDC Ic hDa rv hsz qn=>?_
 obtain⟨m,hn,_⟩:=Ic.loc
 have hDo4:s4.heap.get? D=some {cls:=.type "list",data:=.seq its.toArray k}:=(Ic.pin (D,_) (by simp)).1
 have hCn:H' C=none:=Ic.free
 have un:Un (frs X.stack) fp H2 (upd H' D (.lst ys)) s₂.heap s4.heap:=by
  have bs:=Ic.base
  refine⟨fun b o e n h1 h2=>bs.keep b o e n h1 h2,fun b o e n h1 h2=>bs.slot b o e n h1 h2,fun b o e n h2=>?_,fun b o e h2=>bs.there b o e h2,fun b xs e=>?_,fun b o u e=>?_,fun b ps e=>?_⟩
  ·have:b<D:=by rw[← hD];exact Heap.lt_size e
   rw[upd_ne (Nat.ne_of_lt this)]
   exact bs.free b o e n h2
  ·have q:=bs.tups b xs e
   rw[upd_ne (ne_of_none q hDa)];exact q
  ·have q:=bs.frzs b o u e
   rw[upd_ne (ne_of_none q hDa)];exact q
  ·obtain⟨more,q⟩:=bs.tbls b ps e
   exact⟨more,by rw[upd_ne (ne_of_none q hDa)];exact q⟩
 have hok:HOk X.prog X.w (upd H' D (.lst ys)) s4.heap:=fun b u e=>by
  by_cases hb:b=D
  ·subst hb
   rw[upd_same]at e
   cases e
   exact⟨Nat.le_of_lt hsz,its,k,rv,hDo4⟩
  ·rw[upd_ne hb]at e
   exact(Ic.hok b u e).stay (fun c v hcc q=>q) (fun c q=>by rw[upd_ne (ne_of_none q hDa)];exact q) fun c xs q=>by rw[upd_ne (ne_of_none q hDa)];exact q
 have If:=I2.call' (s':=s4) (H':=upd H' D (.lst ys)) (ch:=fp) Ic.os un hok Ic.bare fun b hb=>⟨(f2 b hb).2.2.2.1,(f2 b hb).2.1,(f2 b hb).2.2.2.2.1,(f2 b hb).2.2.2.2.2⟩
 have hCl:C≠X.env.locals:=Nat.ne_of_gt (Nat.lt_of_lt_of_le (by rw[← hD];exact I2.lt) hCs)
 have hCc:∀y c,X.env.cells.lookup y=some c→c≠C:=fun y c e=>by
  obtain⟨v,q⟩:=I2.cell y c e
  exact Nat.ne_of_lt (Nat.lt_of_lt_of_le (by rw[← hD];exact q.lt) hCs)
 refine wpAny_assign_Name (store_ok2 If hN hxi hx (v:=.ref D) rfl (fun s5 I5 hch=>?_) hfx)
 obtain⟨aa,hsb5,haa⟩:=hch
 have hCa:C≠aa:=by
  rcases haa with z|z
  ·rw[z];exact hCl
  ·exact Ne.symm (hCc x aa z)
 refine⟨m,hn.sameBut hsb5 hCa,fun h' hsb=>?_⟩
 have hCD:upd H' D (.lst ys) C=none:=by rw[upd_ne (Ne.symm neDC)];exact hCn
 have I6:Inv X pins (σ.set iz (some (.ref D))) (upd H' D (.lst ys)) {s5 with heap:=h',toks:=s5.toks}:=I5.turned (it:=C) (fun b o hb e=>(hsb.2 b hb).trans e) hCD hCl (.inr (Nat.le_trans I2.sz (by rw[hD];exact hCs))) hCc (fun p hp z=>by
  have h1:=(I2.pin p hp).1
  have h2:p.1<D:=by rw[← hD];exact Heap.lt_size h1
  exact absurd z (Nat.ne_of_lt (Nat.lt_of_lt_of_le h2 hCs)))
 exact⟨_,_,I6,qn D hDa⟩
theorem ps_comp {X:Cx} {elt tg iter:Expr} {ifs:List Expr} {scope:Scope} {cl:List (Str×Addr)} {pos spos pos':Pos} {N':List Str} {cap:List (Option Nat)} {wi:TI} {g:TG} {tif:TT} {te:TE} {iz:Nat} {x:Str}
  (hc:X.calm=true) (B:Blk X scope cl N' cap) (hi:PI X tg iter wi)
  (hg:∀C s₀ H₀ ex,PG (blk X scope cl N' C s₀ H₀ ex) tg g) (ht:∀C s₀ H₀ ex,PTs (blk X scope cl N' C s₀ H₀ ex) ifs tif) (he:∀C s₀ H₀ ex,PE (blk X scope cl N' C s₀ H₀ ex) elt te)
  (hN:X.N.Nodup) (hxi:X.N[iz]?=some x) (hx:Loc X.env.scope x)
  (hsw:swapsWith (.ListComp elt [⟨tg,iter,ifs,0⟩] scope pos) (some (.Name x pos')) spos.line X.env=pure true)
  (hfx:X.fn x=true∨X.env.scope.names.lookup x=some .local)
  (hs:∀x,foldedSetIterable iter X.env x=pure x:=by intro _;rfl):
  PS X (.Assign [.Name x pos'] (.ListComp elt [⟨tg,iter,ifs,0⟩] scope pos) spos) (tCompS iz cap wi g tif te):=ps_compG (own:=none) hc B.g hi hg ht he hN hxi hx hsw hfx hs
end L2
namespace L3
open PySem PySem.Spec PyProof.Rows L2
open PySem.W (Dat kqdOk)
section
variable {X:Cx} {a b:Expr} {pos:Pos} {fa fb:Rho→Option Dat} {ft:Rho→Option Bool}
theorem lookup_fv {f:Str→Addr}:∀{fv:List Str} {y:Str},y∈fv→(fv.map fun x=>(x,f x)).lookup y=some (f y)
 |x::r,y,h=>by
  rw[List.map_cons,List.lookup_cons]
  by_cases e:y=x
  ·subst e;simp
  ·have:(y==x)=false:=by simpa using e
   rw[this]
   exact lookup_fv (by simpa [e]using h)
theorem of_lookup_fv {f:Str→Addr}:∀{fv:List Str} {y:Str} {c:Addr},(fv.map fun x=>(x,f x)).lookup y=some c→y∈fv∧c=f y
 |[],y,c,h=>by simp at h
 |x::r,y,c,h=>by
  rw[List.map_cons,List.lookup_cons]at h
  by_cases e:y=x
  ·subst e
   simp at h
   exact⟨List.mem_cons_self,h.symm⟩
  ·have:(y==x)=false:=by simpa using e
   rw[this]at h
   obtain⟨h1,h2⟩:=of_lookup_fv h
   exact⟨List.mem_cons_of_mem _ h1,h2⟩
theorem blk_cap {scope:Scope} {tn fv:List Str} {js:List Nat} (hcl:closureFor scope X.env=pure (fv.map fun x=>(x,(X.env.cells.lookup x).getD 0)))
  (hf:∀y∈scope.names,y.2=.free→y.1∈fv) (hc:∀y∈scope.names,y.2≠.cell) (hk:scope.kind=.function) (hn:∀y∈scope.names,y.2=.local→scope.names.lookup y.1=some .local) (nd:(tn++fv).Nodup)
  (hl:fv.length=js.length) (hs:∀x∈fv,∃c,X.env.cells.lookup x=some c)
  (hj:∀p∈fv.zip js,X.N[p.2]?=some p.1∧Vis X.env.scope p.1∧((relabel scope X.env).names.lookup p.1=some .cell∨(relabel scope X.env).names.lookup p.1=some .free)∧X.env.scope.names.lookup p.1≠some .local):
  Blk X scope (fv.map fun x=>(x,(X.env.cells.lookup x).getD 0)) (tn++fv) ((tn.map fun _=>none)++js.map some):=by
 refine⟨hcl,hc,hk,hn,nd,by rw[List.length_append,List.length_append,List.length_map,List.length_map,hl],fun y c h=>?_,fun y h=>?_,fun i x j e1 e2=>?_⟩
 ·obtain⟨h1,h2⟩:=of_lookup_fv h
  obtain⟨c',e⟩:=hs y h1
  rw[h2,e];rfl
 ·have hm:(y,NameKind.cell)∈(relabel scope X.env).names∨(y,NameKind.free)∈(relabel scope X.env).names:=h.elim (fun z=>.inl (PySem.mem_of_lookup z)) fun z=>.inr (PySem.mem_of_lookup z)
  have:y∈fv:=by
   rcases hm with hm|hm
   all_goals
    obtain⟨⟨n,k⟩,hp,e⟩:=List.mem_map.mp hm
    dsimp only at e
    split at e
    ·rename_i hcond
     have hk:k=.free:=by
      cases k<;>first|rfl|(simp at hcond)
     first
      |(cases e;done)
      |(cases e;exact hf _ hp hk)
    ·first
      |(cases e;done)
      |(cases e;exact absurd rfl (hc _ hp))
      |(cases e;exact hf _ hp rfl)
  exact⟨_,lookup_fv this⟩
 ·by_cases hi:i<tn.length
  ·rw[List.getElem?_append_left (by rw[List.length_map];exact hi),List.getElem?_map,List.getElem?_eq_getElem hi]at e2
   cases e2
  ·rw[List.getElem?_append_right (by omega)]at e1
   rw[List.getElem?_append_right (by rw[List.length_map];omega),List.length_map,List.getElem?_map]at e2
   cases ej:js[i-tn.length]? with
   |none=>rw[ej]at e2;cases e2
   |some j'=>
    rw[ej]at e2
    cases e2
    refine hj (x,j) ?_
    have h1:=(List.getElem?_eq_some_iff.mp e1)
    have h2:=(List.getElem?_eq_some_iff.mp ej)
    have h3:(fv.zip js)[i-tn.length]?=some (x,j):=by rw[List.getElem?_zip_eq_some];exact⟨e1,ej⟩
    exact List.mem_of_getElem? h3
end
open PySem PySem.Spec PyProof.Rows L2
open PySem.W (Dat kqdOk)
section
variable {X:Cx} {a b c e:Expr} {pos:Pos} {fa fb fc f:Rho→Option Dat} {fs:Rho→Option (List Dat)}
def flatD:Dat→Bool
 | .none=>true| .bool _=>true| .int _=>true| .str _=>true
 |_=>false
def eqF:Dat→Dat→Bool
 | .none,.none=>true
 | .bool a,.bool b=>a==b
 | .bool a,.int b=>(if a then 1 else 0)==b
 | .int a,.bool b=>a==(if b then 1 else 0)
 | .int a,.int b=>a==b
 | .str a,.str b=>a==b
 |_,_=>false
theorem RepD.flat {K:Fg} {H:Hp} {Av:AvP} {v:V} {d:Dat} (r:RepD K H Av v d) (h:flatD d=true):flatV v=true:=by
 cases r<;>first|rfl|cases h
theorem RepD.eqF {K:Fg} {H:Hp} {Av:AvP} {v u:V} {d e:Dat} (r:RepD K H Av v d) (q:RepD K H Av u e) (h:flatD d=true) (k:flatD e=true):eqV v u=L3.eqF d e:=by
 cases r<;>cases q<;>first|rfl|cases h|cases k
theorem RepDs.flat {K:Fg} {H:Hp} {Av:AvP}:∀{vs:List V} {ds:List Dat},RepDs K H Av vs ds→ds.all flatD=true→vs.all flatV=true
 |_,_,.nil,_=>rfl
 |_,_,.cons r t,h=>by
  simp only[List.all_cons,Bool.and_eq_true]at h ⊢
  exact⟨r.flat h.1,t.flat h.2⟩
theorem RepDs.inF {K:Fg} {H:Hp} {Av:AvP} {x:V} {dx:Dat} (rx:RepD K H Av x dx) (hx:flatD dx=true):∀{vs:List V} {ds:List Dat},RepDs K H Av vs ds→ds.all flatD=true→inV x vs=ds.any fun y=>eqF y dx
 |_,_,.nil,_=>rfl
 |_,_,.cons r t,h=>by
  simp only[List.all_cons,Bool.and_eq_true]at h
  unfold inV
  rw[List.any_cons,List.any_cons,r.eqF rx h.1 hx]
  have:=RepDs.inF rx hx t h.2
  unfold inV at this
  rw[this]
def inB:Dat→Dat→Option Bool:=fun x y=>match y with
 | .list ds=>if flatD x=true∧ds.all flatD=true then some (ds.any fun z=>eqF z x)else none
 | .tuple ds=>if flatD x=true∧ds.all flatD=true then some (ds.any fun z=>eqF z x)else none
 | .str j=>match x with
  | .str i=>some (!(Builtin.Str.occurrences j i 0 j.length 1).isEmpty)
  |_=>none
 |_=>none
def inD:Dat→Dat→Option Dat:=fun x y=>(inB x y).map .bool
def notInD:Dat→Dat→Option Dat:=fun x y=>(inB x y).map fun k=>.bool (!k)
theorem opD_in {K:Fg}:OpD K (fun x y H Q=>rIn K false x y H Q∨(∃i j,x=.str i∧y=.str j∧Q (.bl (!(Builtin.Str.occurrences j i 0 j.length 1).isEmpty)) H)) inD:=by
 intro H Av x y dx dy d Q hA rx ry h q
 obtain⟨k,e1,rfl⟩:=map_some' h
 unfold inB at e1
 split at e1
 ·split at e1
  ·rename_i ds hc
   cases e1
   obtain⟨p,xs,rfl,hq,rs⟩:=ry.l_inv
   refine .inl ⟨p,xs,rfl,.inl hq.sq,rx.flat hc.1,rs.flat hc.2,?_⟩
   show Q (.bl (inV x xs)) H
   rw[RepDs.inF rx hc.1 rs hc.2]
   exact q _ H (Same.refl H) (.bl _)
  ·cases e1
 ·split at e1
  ·rename_i ds hc
   cases e1
   obtain⟨p,xs,rfl,hq,rs⟩:=ry.t_inv
   refine .inl ⟨p,xs,rfl,.inr hq.sq,rx.flat hc.1,rs.flat hc.2,?_⟩
   show Q (.bl (inV x xs)) H
   rw[RepDs.inF rx hc.1 rs hc.2]
   exact q _ H (Same.refl H) (.bl _)
  ·cases e1
 ·split at e1
  ·cases e1
   exact .inr ⟨_,_,rx.s_inv,ry.s_inv,q _ H (Same.refl H) (.bl _)⟩
  ·cases e1
 ·cases e1
theorem opD_notIn {K:Fg}:OpD K (fun x y H Q=>rIn K true x y H Q∨(∃i j,x=.str i∧y=.str j∧Q (.bl (!(!(Builtin.Str.occurrences j i 0 j.length 1).isEmpty))) H)) notInD:=by
 intro H Av x y dx dy d Q hA rx ry h q
 obtain⟨k,e1,rfl⟩:=map_some' h
 unfold inB at e1
 split at e1
 ·split at e1
  ·rename_i ds hc
   cases e1
   obtain⟨p,xs,rfl,hq,rs⟩:=ry.l_inv
   refine .inl ⟨p,xs,rfl,.inl hq.sq,rx.flat hc.1,rs.flat hc.2,?_⟩
   show Q (.bl (!inV x xs)) H
   rw[RepDs.inF rx hc.1 rs hc.2]
   exact q _ H (Same.refl H) (.bl _)
  ·cases e1
 ·split at e1
  ·rename_i ds hc
   cases e1
   obtain⟨p,xs,rfl,hq,rs⟩:=ry.t_inv
   refine .inl ⟨p,xs,rfl,.inr hq.sq,rx.flat hc.1,rs.flat hc.2,?_⟩
   show Q (.bl (!inV x xs)) H
   rw[RepDs.inF rx hc.1 rs hc.2]
   exact q _ H (Same.refl H) (.bl _)
  ·cases e1
 ·split at e1
  ·cases e1
   exact .inr ⟨_,_,rx.s_inv,ry.s_inv,q _ H (Same.refl H) (.bl _)⟩
  ·cases e1
 ·cases e1
def isNB:Dat→Bool
 | .none=>true
 |_=>false
theorem RepD.nonB {K:Fg} {H:Hp} {Av:AvP} {v:V} {d:Dat} (r:RepD K H Av v d):decide (v=.non)=isNB d:=by cases r<;>rfl
theorem opD_isN {K:Fg}:OpD K (fun x y H Q=>y=.non∧Q (.bl (decide (x=.non))) H) (fun x y=>if isNB y=true then some (.bool (isNB x))else none):=by
 intro H Av x y dx dy d Q hA rx ry h q
 dsimp only at h
 split at h
 ·rename_i hy
  cases h
  have e:dy=.none:=by cases dy<;>first|rfl|cases hy
  subst e
  exact⟨ry.n_inv,by rw[rx.nonB];exact q _ H (Same.refl H) (.bl _)⟩
 ·cases h
theorem opD_notN {K:Fg}:OpD K (fun x y H Q=>y=.non∧Q (.bl (!decide (x=.non))) H) (fun x y=>if isNB y=true then some (.bool (!isNB x))else none):=by
 intro H Av x y dx dy d Q hA rx ry h q
 dsimp only at h
 split at h
 ·rename_i hy
  cases h
  have e:dy=.none:=by cases dy<;>first|rfl|cases hy
  subst e
  exact⟨ry.n_inv,by rw[rx.nonB];exact q _ H (Same.refl H) (.bl _)⟩
 ·cases h
def isND:Dat→Dat→Option Dat:=fun x y=>if isNB y=true then some (.bool (isNB x))else none
def notND:Dat→Dat→Option Dat:=fun x y=>if isNB y=true then some (.bool (!isNB x))else none
def f3c (g g':Dat→Dat→Option Dat) (fa fb fc:Rho→Option Dat):Rho→Option Dat:=fun ρ=>(fa ρ).bind fun x=>(fb ρ).bind fun y=>(g x y).bind fun z=>(asB z).bind fun k=>if k=true then(fc ρ).bind fun w=>g' y w else some (.bool false)
theorem tF_chain {K:Fg} {r r':R2} {g g':Dat→Dat→Option Dat} (hr:OpD K r g) (hr':OpD K r' g'):∀σ H Q,tF K (f3c g g' fa fb fc) σ H Q→tChain r r' (tF K fa) (tF K fb) (tF K fc) σ H Q:=by
 rintro σ H Q ⟨Av,ρ,d,hA,hE,hf,q⟩
 obtain⟨dx,e1,hf1⟩:=bind_some hf
 obtain⟨dy,e2,hf2⟩:=bind_some hf1
 obtain⟨dz,e3,hf3⟩:=bind_some hf2
 obtain⟨k,e4,hf4⟩:=bind_some hf3
 have e5:=asB_some e4
 refine⟨Av,ρ,dx,hA,hE,e1,fun x H1 s1 r1=>⟨Av,ρ,dy,hA.same s1,hE.same s1,e2,fun y H2 s2 r2=>?_⟩⟩
 refine hr H2 Av x y dx dy dz _ (hA.same (s1.trans s2)) (r1.same s2) r2 e3 fun z H3 s3 r3=>?_
 rw[e5]at r3
 refine⟨k,r3.b_inv,?_⟩
 have s13:=s1.trans (s2.trans s3)
 cases k with
 |false=>
  rw[if_neg Bool.false_ne_true]at hf4 ⊢
  cases hf4
  exact q _ H3 s13 (.bl false)
 |true=>
  rw[if_pos rfl]at hf4 ⊢
  obtain⟨dw,e6,hf5⟩:=bind_some hf4
  refine⟨Av,ρ,dw,hA.same s13,hE.same s13,e6,fun w' H4 s4 r4=>?_⟩
  exact hr' H4 Av y w' dy dw d Q (hA.same (s13.trans s4)) (r2.same (s3.trans s4)) r4 hf5 fun v H5 s5 r5=>q v H5 (s13.trans (s4.trans s5)) r5
theorem pft_chain {op op':CmpOp} {r r':R2} {g g':Dat→Dat→Option Dat} (ho:OpR X (compareOp op) r) (ho':OpR X (compareOp op') r') (hd:OpD X.K r g) (hd':OpD X.K r' g') (ha:PF X a fa) (hb:PF X b fb) (hc:PF X c fc)
  (hm:lastMarks [op,op'] [b,c]=false:=by with_unfolding_all rfl):PFT X (.Compare a [op,op'] [b,c] pos) (fTest (f3c g g' fa fb fc)):=pt_mono (pt_chain ho ho' ha hb hc hm) (tTest_F (tF_chain hd hd'))
def listD:List Dat→Option (List Dat)
 |[.list ds]=>some ds
 |[.tuple ds]=>some ds
 |_=>none
def tupleD:List Dat→Option Dat
 |[.list ds]=>some (.tuple ds)
 |[.tuple ds]=>some (.tuple ds)
 |_=>none
theorem callD_tuple {K:Fg}:CallD K (fun xs H Q=>∃p ys,xs=[.ref p]∧((SqL K H p ys∧∀l,H l=none→Q (.ref l) (upd H l (.tup ys)))∨(SqT K H p ys∧Q (.ref p) H))) tupleD:=by
 intro H Av xs ds d Q hA r h q
 unfold tupleD at h
 split at h
 ·cases h
  obtain⟨v,rfl,rv⟩:=r.one_inv
  obtain⟨p,xs,rfl,hq,rs⟩:=rv.l_inv
  exact⟨p,xs,rfl,.inl ⟨hq.sq,fun l hl=>q _ _ (same_new hl _) (.newT hA hl rs)⟩⟩
 ·cases h
  obtain⟨v,rfl,rv⟩:=r.one_inv
  have rv':=rv
  obtain⟨p,xs,rfl,hq,rs⟩:=rv.t_inv
  exact⟨p,xs,rfl,.inr ⟨hq.sq,q _ H (Same.refl H) rv'⟩⟩
 ·cases h
end
open PySem PySem.Spec PyProof.Rows L2
open PySem.W (Dat kqdOk)
section
variable {X:Cx} {o e:Expr} {f:Rho→Option Dat} {fs:Rho→Option (List Dat)}
theorem vals_strs:∀(l:List (Str×Tok)),Vals ((l.map (·.1)).map V.str) (strValues l)
 |[]=>.nil
 |(x,t)::l=>.cons ⟨t,rfl⟩ (vals_strs l)
def rSplit:V→List V→Hp→VK→Prop:=fun x xs H Q=>∃a y,x=.str a∧xs=[.str y]∧(y.length==0)=false∧a.length≤sizeLine∧(Txt.split a y).length≤sizeLine∧∀p,H p=none→Q (.ref p) (upd H p (.lst ((Txt.split a y).map V.str)))
theorem mt_split:MtR X "str.split" rSplit:=by
 intro pins s σ H x xs v us Q I rx rv h
 obtain⟨a,y,rfl,rfl,hy,ha,hn,q⟩:=h
 obtain⟨t,rfl⟩:=rx
 obtain⟨w',rfl,rw'⟩:=vals1 rv
 obtain⟨u,rfl⟩:=rw'
 have fin:∀(l:List (Str×Tok)) (tk:Nat),l.map (·.1)=Txt.split a y→EP X pins σ Q (.ref s.heap.objs.size) {s with heap:=s.heap.push {cls:=.type "list",data:=.seq (strValues l).toArray},toks:=tk}:=fun l tk e=>by
  have vs:=vals_strs l
  rw[e]at vs
  exact⟨.ref _,_,I.lnew (t':=tk) vs (by rw[List.length_map];exact hn),rfl,q _ I.fresh⟩
 cases h1:(decide (a.length<y.length) || decide (Builtin.Str.strKind a<Builtin.Str.strKind y))
 ·cases hf:(Builtin.Str.occurrences a y 0 a.length (a.length+1)).isEmpty
  ·have es:Txt.split a y=Builtin.Str.partsBetween a (Builtin.Str.occurrences a y 0 a.length (a.length+1)) y.length:=(if_neg (ne_true_of_eq_false h1)).trans (if_neg (ne_true_of_eq_false hf))
   refine call_meets F.slot_str_split (typeIs_str s a t) F.entry_str_split (F.args_str_split_2 _ _) (meets_str_split_sep a y t u h1 hy hf ha (by rw[← es];exact hn)) ?_
   rw[strsFrom_eq]
   exact fin _ _ ((numbered_texts _ _).trans es.symm)
  ·have es:Txt.split a y=[a]:=(if_neg (ne_true_of_eq_false h1)).trans (if_pos hf)
   exact call_meets F.slot_str_split (typeIs_str s a t) F.entry_str_split (F.args_str_split_2 _ _) (meets_str_split_not_found a y t u h1 hy hf) (fin [(a,t)] s.toks es.symm)
 ·have es:Txt.split a y=[a]:=if_pos h1
  exact call_meets F.slot_str_split (typeIs_str s a t) F.entry_str_split (F.args_str_split_2 _ _) (meets_str_split_cannot_occur a y t u h1) (fin [(a,t)] s.toks es.symm)
def splitD:Dat→List Dat→Option (List Dat):=fun x as=>match x,as with
 | .str a,[.str y]=>if(y.length==0)=false∧a.length≤sizeLine∧(Txt.split a y).length≤sizeLine then some ((Txt.split a y).map Dat.str)else none
 |_,_=>none
theorem RepDs.strs {K:Fg} {H:Hp} {Av:AvP} (l:List Str):RepDs K H Av (l.map V.str) (l.map Dat.str):=by
 induction l with
 |nil=>exact .nil
 |cons n ns ih=>exact .cons (.str n) ih
def rStarts:V→List V→Hp→VK→Prop:=fun x xs H Q=>∃a y,x=.str a∧xs=[.str y]∧Q (.bl (decide (0+y.length≤a.length)&&Builtin.Str.subAt a y 0)) H
theorem mt_starts:MtR X "str.startswith" rStarts:=by
 intro pins s σ H x xs v us Q I rx rv h
 obtain⟨a,y,rfl,rfl,q⟩:=h
 obtain⟨t,rfl⟩:=rx
 obtain⟨w',rfl,rw'⟩:=vals1 rv
 obtain⟨u,rfl⟩:=rw'
 exact call_meets F.slot_str_startswith (typeIs_str s a t) F.entry_str_startswith (F.args_str_startswith_2 _ _) (gives_str_startswith a y t u).meets ⟨.bl _,H,I,rfl,q⟩
def startsD:Dat→List Dat→Option Dat:=fun x as=>match x,as with
 | .str a,[.str y]=>some (.bool (decide (0+y.length≤a.length)&&Builtin.Str.subAt a y 0))
 |_,_=>none
end
open PySem PySem.Spec PyProof.Rows L2
open PySem.W (Dat kqdOk)
section
variable {X:Cx} {e:Expr} {f:Rho→Option Dat} {pos:Pos}
def rSlS:V→Option Int→Option Int→Hp→VK→Prop:=fun x lo hi H Q=>∃a,x=.str a∧a.length≤sizeLine∧Q (.str (Txt.slice a lo hi)) H
theorem sl_str:SlR X rSlS:=by
 intro pins s σ H x v vl vu lo hi sl Q I rx hs pl pu h
 obtain⟨a,rfl,ha,q⟩:=h
 obtain⟨t,rfl⟩:=rx
 have fin:∀(y:Str) (t':Tok) (k:Nat),y=Txt.slice a lo hi→EP X pins σ Q (.str y t') {s with toks:=k}:=fun y t' k e=>by
  subst e
  exact⟨.str _,H,I.tok k,⟨t',rfl⟩,q⟩
 refine⟨"str",_,slot_str_getitem.lookup,typeIs_str s a t,?_⟩
 cases pl with
 |none=>
  cases pu with
  |none=>exact wpAny_getItem_str_slice (l:=none) (u:=none) (st:=none) hs rfl (post_val_or_str ⟨Nat.le_trans (Txt.slice_le a _ _) ha,fun t' k=>fin _ t' k rfl⟩)
  |int j uj=>exact wpAny_getItem_str_slice (l:=none) (u:=some (j,uj)) (st:=none) hs rfl (post_val_or_str ⟨Nat.le_trans (Txt.slice_le a _ _) ha,fun t' k=>fin _ t' k rfl⟩)
 |int i ui=>
  cases pu with
  |none=>exact wpAny_getItem_str_slice (l:=some (i,ui)) (u:=none) (st:=none) hs rfl (post_val_or_str ⟨Nat.le_trans (Txt.slice_le a _ _) ha,fun t' k=>fin _ t' k rfl⟩)
  |int j uj=>exact wpAny_getItem_str_slice (l:=some (i,ui)) (u:=some (j,uj)) (st:=none) hs rfl (post_val_or_str ⟨Nat.le_trans (Txt.slice_le a _ _) ha,fun t' k=>fin _ t' k rfl⟩)
def slSD:Dat→Option Int→Option Int→Option Dat
 | .str a,lo,hi=>if a.length≤sizeLine then some (.str (Txt.slice a lo hi))else none
 |_,_,_=>none
def fSlS (f:Rho→Option Dat) (fl fh:Rho→Option (Option Int)):Rho→Option Dat:=fun ρ=>(f ρ).bind fun d=>(fl ρ).bind fun l=>(fh ρ).bind fun h=>slSD d l h
def ModT (K:Fg) (a:Addr) (ds:List Dat):Prop:=∃(xs:List V) (o:Obj) (its:Array Value) (n:Nat),K.lookup a=some o∧o.cls=.type "tuple"∧o.data=.seq its n∧its.size≤sizeLine∧Vals xs its.toList∧∀H Av,RepDs K H Av xs ds
end
open PySem PySem.Spec PyProof.Rows L2
open PySem.W (Dat kqdOk)
section
variable {X:Cx} {e:Expr} {es:List Expr} {fs:Rho→Option (List Dat)} {f:Rho→Option Dat} {pos:Pos}
def rIntS:List V→Hp→VK→Prop:=fun xs H Q=>∃(a:Str) (n:Int),xs=[.str a]∧PySem.intText? a=some n∧a.length≤640∧Q (.int n) H
theorem call_intS:CallR X (.type "int") rIntS:=by
 intro pins s σ H xs us Q I vs h
 obtain⟨a,n,rfl,hn,hl,q⟩:=h
 obtain⟨u,rfl,t,rfl⟩:=vals1 vs
 exact PySem.W.KIN.call_text hn hl ⟨.int n,H,I.tok _,⟨_,rfl⟩,q⟩
def intSD:List Dat→Option Dat
 |[.str a]=>if a.length≤640 then(PySem.intText? a).map .int else none
 |_=>none
theorem callD_intS {K:Fg}:CallD K rIntS intSD:=by
 intro H Av xs ds d Q hA r h q
 unfold intSD at h
 split at h
 ·split at h
  ·rename_i hz
   obtain⟨n,e1,e2⟩:=Option.map_eq_some_iff.mp h
   subst e2
   obtain⟨v,rfl,rv⟩:=r.one_inv
   rw[rv.s_inv]
   exact⟨_,n,rfl,e1,hz,q _ H (Same.refl H) (.int _)⟩
  ·cases h
 ·cases h
theorem vals_bl:∀{bs:List Bool} {us:List Value},Vals (bs.map V.bl) us→us=bs.map Value.bool
 |[],_,h=>by cases h;rfl
 |b::bs,_,h=>by
  cases h with
  |cons r h=>
   cases r
   rw[vals_bl h];rfl
def rAll (X:Cx):List V→Hp→VK→Prop:=fun xs H Q=>∃(p:Addr) (bs:List Bool),xs=[.ref p]∧SqL X.K H p (bs.map .bl)∧Q (.bl (bs.all id)) H
theorem call_allB (hc:X.calm=true):CallR X (.builtin "all") (rAll X):=by
 intro pins s σ H xs us Q I r h
 obtain⟨p,bs,rfl,hq,q⟩:=h
 obtain⟨u,rfl,rx⟩:=vals1 r
 cases rx
 obtain⟨its,r',pl,hz⟩:=I.list hq
 have hb:=vals_bl r'
 subst hb
 have old:∀(b:Addr) (x:Obj),s.heap.get? b=some x→b≠s.heap.objs.size:=fun b x e z=>by
  rw[z]at e
  exact absurd (Heap.lt_size e) (Nat.lt_irrefl _)
 have ne:p≠s.heap.objs.size:=by
  obtain⟨x,e,_⟩:=pl.isList
  exact old p x e
 refine call_all_walk (wpAny_pyIter_list pl.isList ?_)
 have W:=Walks.list (prog:=X.prog) (w:=X.w) (A:=X.A.in1) (I.ok.hd hc) s.heap.objs.size p ne (bs.map Value.bool).toArray
 refine⟨_,_,_,_,_,_,fun i=>(bs[i]?).getD true,rfl,W,?_,?_,?_⟩
 ·exact And.intro ⟨_,Heap.get?_push_size _ rfl,rfl,rfl⟩ (pl.isList.push _)
 ·intro i v s' Q' E' at_i go
  have at_i:(bs[i]?).map Value.bool=some v:=by simpa using at_i
  obtain⟨b,eb,rfl⟩:=Option.map_eq_some_iff.mp at_i
  have go:Q' ((bs[i]?).getD true) s':=go
  rw[eb]at go
  exact wpAny_truthy_bool go
 ·intro h' tk keep
  have sz:(bs.map Value.bool).toArray.size=bs.length:=by simp
  rw[sz,PyProof.Rows.LSm.range_all bs]
  exact⟨.bl (bs.all id),H,I.kept fun b x e=>keep b x (fun hm=>old b x e (List.mem_singleton.mp hm)) (Heap.get?_push_of_some _ e),rfl,q⟩
def asBs:List Dat→Option (List Bool)
 |[]=>some []
 | .bool b::ds=>(asBs ds).map (b::·)
 |_=>none
theorem asBs_map:∀bs:List Bool,asBs (bs.map Dat.bool)=some bs
 |[]=>rfl
 |b::bs=>by simp only[List.map_cons,asBs,asBs_map bs,Option.map_some]
theorem reps_bl {K:Fg} {H:Hp} {Av:AvP}:∀{ds:List Dat} {bs:List Bool} {xs:List V},asBs ds=some bs→RepDs K H Av xs ds→xs=bs.map .bl
 |[],_,_,h,r=>by cases h;cases r;rfl
 |d::ds,bs,_,h,r=>by
  cases d with
  |bool b=>
   obtain⟨bs',e1,rfl⟩:=Option.map_eq_some_iff.mp (show(asBs ds).map (b::·)=some bs from h)
   cases r with
   |cons r1 r2=>
    rw[r1.b_inv,reps_bl e1 r2];rfl
  |_=>cases h
def allD:List Dat→Option Dat
 |[.list ds]=>(asBs ds).map fun bs=>.bool (bs.all id)
 |_=>none
theorem callD_all:CallD X.K (rAll X) allD:=by
 intro H Av xs ds d Q hA r h q
 unfold allD at h
 split at h
 ·obtain⟨bs,e1,rfl⟩:=Option.map_eq_some_iff.mp h
  obtain⟨v,rfl,rv⟩:=r.one_inv
  obtain⟨a,ys,rfl,hq,rs⟩:=rv.l_inv
  rw[reps_bl e1 rs]at hq
  exact⟨a,bs,rfl,hq.sq,q _ H (Same.refl H) (.bl _)⟩
 ·cases h
end
open PySem PySem.Spec PyProof.Rows L2
open PySem.W (Dat kqdOk)
section
variable {X:Cx} {e:Expr} {es:List Expr} {fs:Rho→Option (List Dat)} {f:Rho→Option Dat} {ft:Rho→Option Bool} {pos:Pos}
def Its (x:Str):It:=⟨fun i _=>i<x.cps.size,fun i H v H'=>H'=H∧∃c,x.cps[i]?=some c∧v=.str ⟨#[c]⟩,fun i _=>x.cps.size≤i⟩
theorem turn_str {P:Program} {w:World} {K:Fg} {tg:Expr} (it:Addr) (x:Str) (t:Tok) (nm:String) (hnm:nm="str_ascii_iterator"∨nm="str_iterator"):Turn P w K tg (Its x) [it] it (fun i h=>h.IsStrIter it nm x t i) where
 mem:=List.mem_singleton.mpr rfl
 obj:=fun i h st b hb=>by
  rw[List.mem_singleton.mp hb]
  obtain⟨o,e,c,d⟩:=st
  exact⟨o,e,fun v z=>by rw[d]at z;cases z⟩
 keep:=fun i h h' st k=>by
  obtain⟨o,e,r⟩:=st
  exact⟨o,k it (List.mem_singleton.mpr rfl) o e,r⟩
 item:=by
  intro X hP hw hK hc i pins s σ H E I hf st hg
  subst hP hw hK
  obtain⟨f0,f1,f2,f3,f4,f5⟩:=hf it (List.mem_singleton.mpr rfl)
  have fin:∀(v:Value) (h':Heap) (tk:Nat),SignAt x i v→h'.IsStrIter it nm x t (i+1)→(∀b o,b∉[it]→s.heap.get? b=some o→h'.get? b=some o)→
    ∃u,some v=some u∧wpAny (model X.prog X.w) X.A (letOwnedTupleGo tg (.ref it) u) (fun _ s2=>∃y H',L2.Inv X pins σ H' s2∧L2.RelV y u∧(Its x).yld i H y H'∧s2.heap.IsStrIter it nm x t (i+1)∧∀b∈[it],H' b=none) E {s with heap:=h',toks:=tk}:=by
   intro v h' tk ⟨c,u,ec,ev⟩ st' kk
   subst ev
   have I1:L2.Inv X pins σ H {s with heap:=h',toks:=tk}:=I.turned (fun b o hb e=>kk b o (by simpa using hb) e) f0 f1 f3 f4 f5
   obtain⟨o,e,c',d⟩:=id st'
   refine⟨_,rfl,go_of (s:={s with heap:=h',toks:=tk}) e c' d ?_ ⟨.str ⟨#[c]⟩,H,I1,⟨u,rfl⟩,⟨rfl,c,ec,rfl⟩,st',fun b hb=>(hf b hb).1⟩⟩
   rcases hnm with rfl|rfl<;>decide
  rcases hnm with rfl|rfl
  ·exact(Walks.strAscii (prog:=X.prog) (w:=X.w) (I.ok.hd hc) it x t).item i s _ _ hg st fin
  ·exact(Walks.strWide (prog:=X.prog) (w:=X.w) (I.ok.hd hc) it x t).item i s _ _ hg st fin
 done:=by
  intro X hP hw hK hc i pins s σ H E I hf st hg
  subst hP hw hK
  obtain⟨f0,f1,f2,f3,f4,f5⟩:=hf it (List.mem_singleton.mpr rfl)
  have hn:x.cps[i]?=none:=Array.getElem?_eq_none hg
  rcases hnm with rfl|rfl
  ·exact wpAny_pyNext_ascii_end (I.ok.hd hc) st hn fun h' eb=>⟨rfl,I.turned (t':=s.toks) (fun b o hb e=>eb b o hb e) f0 f1 f3 f4 f5⟩
  ·exact wpAny_pyNext_wide_end (I.ok.hd hc) st hn fun h' eb=>⟨rfl,I.turned (t':=s.toks) (fun b o hb e=>eb b o hb e) f0 f1 f3 f4 f5⟩
 self:=fun _ _ _ _ _ st h=>by
  rcases hnm with rfl|rfl
  ·exact wpAny_pyIter_striter_ascii st h
  ·exact wpAny_pyIter_striter_wide st h
def iStr (tl:TE):TI:=fun σ H R=>tl σ H fun x H1=>∃a,x=.str a∧R (Its a) H1
theorem pi_str {tg l:Expr} {tl:TE} (hl:PE X l tl):PI X tg l (iStr tl):=by
 intro pins s σ H R I h
 refine thn (hl pins s σ H _ I h) fun v s1 ⟨x,H1,I1,r1,q1⟩=>?_
 obtain⟨a,e,q⟩:=q1
 subst e
 obtain⟨t,rfl⟩:=r1
 refine wpAny_pyIter_strU ?_
 refine⟨s1.heap.objs.size,[s1.heap.objs.size],_,_,H1,rfl,I1.kept (t':=s1.toks) (fun b o e=>Heap.get?_push_of_some _ e),turn_str _ a t (strIterType a) ?_,?_,fun b hb=>?_,q⟩
 ·unfold strIterType
  split
  ·exact .inl rfl
  ·exact .inr rfl
 ·exact⟨_,Heap.get?_push_size _ rfl,rfl,rfl⟩
 ·rw[List.mem_singleton.mp hb]
  exact I1.fpOk (Nat.le_refl _) (I1.hok.fresh (Nat.le_refl _))
def signsOf (a:Str):List Dat:=a.cps.toList.map fun c=>.str ⟨#[c]⟩
def signsD:Dat→Option (List Dat)
 | .str a=>some (signsOf a)
 |_=>none
theorem over_str {K:Fg} {a:Str}:Over K (Its a) (.str a) (.str a) (signsOf a):=by
 intro i H Av r
 refine⟨fun h=>?_,fun di hd=>?_⟩
 ·show a.cps.size≤i
  simpa [signsOf]using h
 ·unfold signsOf at hd
  rw[List.getElem?_map]at hd
  obtain⟨c,ec,rfl⟩:=Option.map_eq_some_iff.mp hd
  have ec:a.cps[i]?=some c:=by simpa using ec
  refine⟨(Array.getElem?_eq_some_iff.mp ec).1,fun y H' hy=>?_⟩
  obtain⟨e1,c',e2,e3⟩:=hy
  rw[ec]at e2
  cases e2
  subst e3
  exact⟨e1,.str _⟩
def fCompS (cap:List (Option Nat)) (gt:Dat→Option Asg) (ft:Rho→Option Bool) (fe:Rho→Option Dat) (fi:Rho→Option Dat):Rho→Option (List Dat):=fun ρ=>(fi ρ).bind fun d=>(signsD d).bind fun ds=>if ds.length<sizeLine then compL gt ft fe (capR cap ρ) ds else none
theorem tComp_FS {K:Fg} {cap:List (Option Nat)} {gt:Dat→Option Asg} {ft:Rho→Option Bool} {fe fi:Rho→Option Dat} (ht:TgOk gt cap):∀σ H Q,tFL K (fCompS cap gt ft fe fi) σ H Q→tComp cap (iStr (tF K fi)) (tGF K gt) (tTF K ft) (tF K fe) σ H Q:=by
 rintro σ H Q ⟨Av,ρ,out,hA,hE,hf,q⟩
 obtain⟨d,e1,hf⟩:=bind_some hf
 obtain⟨ds,e2,hf⟩:=bind_some hf
 split at hf
 ·rename_i hz
  refine⟨Av,ρ,d,hA,hE,e1,fun x H1 s1 r=>?_⟩
  have main:∀J:It,Over K J x d ds→∃W:Nat→Nat→List V→Hp→Prop,(∃m,W 0 m [] H1)∧∀i m ys H,W i m ys H→ys.length<sizeLine∧
    ((J.stop i H∧∀D,H D=none→Q (.ref D) (upd H D (.lst ys)))∨
     (J.go i H∧∀x H',J.yld i H x H'→tGF K gt x (capV cap σ) H' fun σ2 H2=>LeS (capV cap σ) σ2∧tTF K ft σ2 H2 fun b H3=>if b=true then tF K fe σ2 H3 fun v H4=>∃m',m'<m∧W (i+1) m' (ys++[v]) H4 else ∃m',m'<m∧W (i+1) m' ys H3)):=by
   intro J ov
   refine⟨fun i m ys H2=>m=ds.length-i∧i≤ds.length∧Same H1 H2∧∃o1 o2,RepDs K H2 Av ys o1∧o1.length≤i∧compL gt ft fe (capR cap ρ) (ds.drop i)=some o2∧out=o1++o2,
    ⟨_,rfl,Nat.zero_le _,Same.refl _,[],out,.nil,Nat.le_refl _,by rw[List.drop_zero];exact hf,rfl⟩,?_⟩
   rintro i m ys H2 ⟨rfl,hi,s2,o1,o2,ro,hl,hc,rfl⟩
   refine⟨by have:=ro.length;omega,?_⟩
   have rx:=r.same s2
   cases hdi:ds[i]? with
   |none=>
    have hle:ds.length≤i:=List.getElem?_eq_none_iff.mp hdi
    rw[List.drop_eq_nil_of_le hle]at hc
    cases hc
    refine .inl ⟨(ov i H2 _ rx).1 hle,fun D hD=>q H2 D ys (s1.trans s2) hD (by rw[List.append_nil];exact ro)⟩
   |some di=>
    have hlt:=get_lt hdi
    rw[drop_cons hdi]at hc
    obtain⟨as,a1,hc⟩:=bind_some (show(gt di).bind _=some o2 from hc)
    obtain⟨k,a2,hc⟩:=bind_some hc
    obtain⟨go,yl⟩:=(ov i H2 _ rx).2 di hdi
    refine .inr ⟨go,fun y H' hy=>?_⟩
    obtain⟨eH,ry⟩:=yl y H' hy
    subst eH
    refine⟨Av,di,as,ry,a1,fun ws hw=>?_⟩
    have cs:∀p∈as,(capV cap σ)[p.1]?=some none:=fun p hp=>by
     unfold capV
     rw[List.getElem?_map,ht di as a1 p hp];rfl
    have A2:=hA.same (s1.trans s2)
    have E2:REnv K H' Av (setV (capV cap σ) ws) (setR (capR cap ρ) as):=REnv.setAll hw (by unfold capV capR;rw[List.length_map,List.length_map]) ((hE.same (s1.trans s2)).cap cap)
    refine⟨LeS.setAll hw cs (LeS.refl _),Av,_,k,A2,E2,a2,fun H3 s3=>?_⟩
    cases k with
    |false=>
     rw[if_neg Bool.false_ne_true]at hc ⊢
     exact⟨ds.length-(i+1),by omega,rfl,by omega,s2.trans s3,o1,o2,ro.same s3,by omega,hc,rfl⟩
    |true=>
     rw[if_pos rfl]at hc ⊢
     obtain⟨dv,a3,hc⟩:=bind_some hc
     obtain⟨o3,a4,hc⟩:=map_some' hc
     subst hc
     refine⟨Av,_,dv,A2.same s3,E2.same s3,a3,fun v H4 s4 rv=>⟨ds.length-(i+1),by omega,rfl,by omega,s2.trans (s3.trans s4),o1++[dv],o3,(ro.same (s3.trans s4)).append (.cons rv .nil),?_,a4,?_⟩⟩
     ·rw[List.length_append,List.length_singleton];omega
     ·rw[List.append_assoc];rfl
  cases d with
  |str a=>
   cases e2
   rw[r.s_inv]
   rw[r.s_inv]at main
   exact⟨a,rfl,main _ over_str⟩
  |_=>cases e2
 ·cases hf
end
open PySem PySem.Spec PyProof.Rows L2
open PySem.W (Dat kqdOk)
section
variable {X:Cx} {o e:Expr} {f:Rho→Option Dat} {fs:Rho→Option (List Dat)}
theorem count_eqU {x:V}:∀{xs:List V} {us:List Value},Vals xs us→xs.all flatV=true→us.countP (eqU x)=xs.countP fun y=>eqV y x
 |_,_,.nil,_=>rfl
 |y::xs,u::us,.cons r t,h=>by
  obtain⟨h1,h2⟩:=Bool.and_eq_true_iff.mp (List.all_cons▸h)
  rw[List.countP_cons,List.countP_cons,count_eqU t h2,eqU_of r h1]
theorem get_eqU {x:V}:∀{xs:List V} {us:List Value},Vals xs us→xs.all flatV=true→∀(i:Nat) (u:Value),us[i]?=some u→∃y,xs[i]?=some y∧eqU x u=eqV y x
 |_,_,.nil,_,i,u,hu=>by simp at hu
 |y::xs,u::us,.cons r t,h,i,w,hw=>by
  obtain⟨h1,h2⟩:=Bool.and_eq_true_iff.mp (List.all_cons▸h)
  cases i with
  |zero=>cases hw;exact⟨y,rfl,eqU_of r h1⟩
  |succ i=>exact get_eqU t h2 i w (by simpa using hw)
def rCount (X:Cx):V→List V→Hp→VK→Prop:=fun x xs H Q=>∃(p:Addr) (ys:List V) (y:V),x=.ref p∧xs=[y]∧SqL X.K H p ys∧flatV y=true∧ys.all flatV=true∧Q (.int ((ys.countP fun z=>eqV z y:Nat):Int)) H
theorem mt_count:MtR X "list.count" (rCount X):=by
 intro pins s σ H x xs v us Q I rx rv h
 obtain⟨p,ys,y,rfl,rfl,hq,hy,hf,q⟩:=h
 cases rx
 obtain⟨u,rfl,ru⟩:=vals1 rv
 obtain⟨its,r',pl,hz⟩:=I.list hq
 obtain⟨ob,n,g,c1,c2,c3⟩:=id pl
 have ty:=pl.isList.typeIs
 obtain⟨cls,dict,data,slots⟩:=ob
 cases c1;cases c2;cases c3
 refine call_meets F.slot_list_count ty F.entry_list_count (F.args_list_count_2 _ _) (SeqAt.list_countAt p its.toArray n none slots u (eqU y)) ⟨g,fun z hz'=>mem_eqAt ru hy r' hf z (by simpa using hz'),?_⟩
 refine⟨.int _,H,I.tok _,⟨s.toks,?_⟩,q⟩
 rw[List.toList_toArray,count_eqU r' hf]
def rIndex (X:Cx):V→List V→Hp→VK→Prop:=fun x xs H Q=>∃(p:Addr) (ys:List V) (y:V) (j:Nat) (z:V),x=.ref p∧xs=[y]∧SqL X.K H p ys∧flatV y=true∧ys.all flatV=true∧ys[j]?=some z∧eqV z y=true∧(∀m w,m<j→ys[m]?=some w→eqV w y=false)∧Q (.int (j:Int)) H
theorem mt_index:MtR X "list.index" (rIndex X):=by
 intro pins s σ H x xs v us Q I rx rv h
 obtain⟨p,ys,y,j,z,rfl,rfl,hq,hy,hf,hj,hz1,hno,q⟩:=h
 cases rx
 obtain⟨u,rfl,ru⟩:=vals1 rv
 obtain⟨its,r',pl,hz⟩:=I.list hq
 obtain⟨ob,n,g,c1,c2,c3⟩:=id pl
 have ty:=pl.isList.typeIs
 obtain⟨cls,dict,data,slots⟩:=ob
 cases c1;cases c2;cases c3
 have hlen:=r'.length
 have jl:j<ys.length:=(List.getElem?_eq_some_iff.mp hj).1
 have ji:j<its.toArray.size:=by rw[List.size_toArray,← hlen];exact jl
 have at_:∀m (hm:m<its.toArray.size),∃w,ys[m]?=some w∧eqU y its.toArray[m]=eqV w y:=fun m hm=>get_eqU r' hf m _ (by simp)
 have l63:=line63
 refine call_meets F.slot_list_index ty F.entry_list_index (F.args_list_index_2 _ _) (SeqAt.list_indexAt p its.toArray n none slots u (eqU y) j ji (by have:=sizeLine_eq;omega) ?_ ?_) ⟨g,fun z hz'=>mem_eqAt ru hy r' hf z (by simpa using hz'),?_⟩
 ·obtain⟨w,e1,e2⟩:=at_ j ji
  rw[hj]at e1;cases e1
  rw[e2];exact hz1
 ·intro m hm hmj
  obtain⟨w,e1,e2⟩:=at_ m hm
  rw[e2];exact hno m w hmj e1
 ·exact⟨.int _,H,I.tok _,⟨s.toks,rfl⟩,q⟩
def countD:Dat→List Dat→Option Dat:=fun x as=>match x,as with
 | .list ds,[d]=>if flatD d=true∧ds.all flatD=true then some (.int ((ds.countP fun z=>eqF z d:Nat):Int))else none
 |_,_=>none
def indexD:Dat→List Dat→Option Dat:=fun x as=>match x,as with
 | .list ds,[d]=>if flatD d=true∧ds.all flatD=true then(ds.findIdx? fun z=>eqF z d).map (fun(j:Nat)=>Dat.int (j:Int))else none
 |_,_=>none
theorem RepDs.countF {K:Fg} {H:Hp} {Av:AvP} {x:V} {dx:Dat} (rx:RepD K H Av x dx) (hx:flatD dx=true):∀{vs:List V} {ds:List Dat},RepDs K H Av vs ds→ds.all flatD=true→(vs.countP fun y=>eqV y x)=ds.countP fun y=>eqF y dx
 |_,_,.nil,_=>rfl
 |_,_,.cons r t,h=>by
  simp only[List.all_cons,Bool.and_eq_true]at h
  rw[List.countP_cons,List.countP_cons,r.eqF rx h.1 hx,RepDs.countF rx hx t h.2]
theorem RepDs.getF {K:Fg} {H:Hp} {Av:AvP} {x:V} {dx:Dat} (rx:RepD K H Av x dx) (hx:flatD dx=true):∀{vs:List V} {ds:List Dat},RepDs K H Av vs ds→ds.all flatD=true→∀(i:Nat) (v:V),vs[i]?=some v→∃d,ds[i]?=some d∧eqV v x=eqF d dx
 |_,_,.nil,_,i,v,hv=>by simp at hv
 |_,_,.cons r t,h,i,v,hv=>by
  simp only[List.all_cons,Bool.and_eq_true]at h
  cases i with
  |zero=>cases hv;exact⟨_,rfl,r.eqF rx h.1 hx⟩
  |succ i=>exact RepDs.getF rx hx t h.2 i v (by simpa using hv)
end
open PySem PySem.Spec PyProof.Rows L2
open PySem.W (Dat kqdOk)
abbrev HF:=Gam→Option (Dat×Gam)
def tH (K:Fg) (f:HF):TE:=fun σ H Q=>∃H₀ Av pn hid Γ ad d Γ',GA K H₀ Av pn hid H σ Γ ad∧f Γ=some (d,Γ')∧∀v H' ad',GA K H₀ Av pn hid H' σ Γ' ad'→RepD K H' (AvG Av Γ' ad') v d→Q v H'
def tHA (K:Fg) (f:Gam→Option (List Dat×Gam)):TA:=fun σ H Q=>∃H₀ Av pn hid Γ ad d Γ',GA K H₀ Av pn hid H σ Γ ad∧f Γ=some (d,Γ')∧∀vs H' ad',GA K H₀ Av pn hid H' σ Γ' ad'→RepDs K H' (AvG Av Γ' ad') vs d→Q vs H'
abbrev PH (X:Cx) (e:Expr) (f:HF):Prop:=PE X e (tH X.K f)
abbrev PHA (X:Cx) (es:List Expr) (f:Gam→Option (List Dat×Gam)):Prop:=PA X es (tHA X.K f)
section
variable {X:Cx} {a b c e:Expr} {es:List Expr} {pos:Pos} {f:Rho→Option Dat} {ft:Rho→Option Bool} {ha hb h:HF} {hs:Gam→Option (List Dat×Gam)} {ht:Gam→Option (Bool×Gam)} {g1 g2:Gam→Option Fl}
def hPure (f:Rho→Option Dat):HF:=fun Γ=>match f (immV Γ)with
 |some d=>some (d,Γ)
 |none=>(f (allV Γ)).bind fun d=>if scD d=true then some (d,Γ)else none
def h2 (g:Dat→Dat→Option Dat) (fa fb:HF):HF:=fun Γ=>(fa Γ).bind fun p=>(fb p.2).bind fun r=>(g p.1 r.1).map fun d=>(d,r.2)
def hNil:Gam→Option (List Dat×Gam):=fun Γ=>some ([],Γ)
def hCons (f:HF) (g:Gam→Option (List Dat×Gam)):Gam→Option (List Dat×Gam):=fun Γ=>(f Γ).bind fun p=>(g p.2).map fun r=>(p.1::r.1,r.2)
def hTup (g:Gam→Option (List Dat×Gam)):HF:=fun Γ=>(g Γ).bind fun p=>if p.1.length≤sizeLine then some (.tuple p.1,p.2)else none
def hFn (n:Nat) (F:List Dat→Option Dat) (fs:Gam→Option (List Dat×Gam)):HF:=fun Γ=>(fs Γ).bind fun p=>if p.1.length=n then(F p.1).map fun d=>(d,p.2)else none
def sRetM (f:HF):Gam→Option Fl:=fun Γ=>(f Γ).map fun p=>.rm p.1 p.2
def spN (K:Fg) (n:Nat) (F:List Dat→Option (List Dat)):Sp:=fun vs H Q _=>∃Av ds out,AvT H Av∧RepDs K H Av vs ds∧ds.length=n∧F ds=some out∧∀H1 p xs,Same H H1→H1 p=none→RepDs K H1 Av xs out→Q (.ref p) (upd H1 p (.lst xs))
structure DnN (P:Program) (w:World) (K:Fg) (mg:Str→Option Value) (base:Heap) (k:Nat) (x:Str) (ps:List Str) (n:Nat) (F:List Dat→Option (List Dat)):Prop where
 ex:∃(f:Addr) (fd:FuncData),FnOk P w K mg base CX0 k f fd ps (spN K n F)∧mg x=some (.ref f)∧PySem.W.keepIn K (.ref f)=true∧Binds K fd ps []
theorem DnN.up {P:Program} {w:World} {K:Fg} {mg:Str→Option Value} {base:Heap} {j k:Nat} {x:Str} {ps:List Str} {n:Nat} {F:List Dat→Option (List Dat)} (D:DnN P w K mg base j x ps n F) (h:j≤k):DnN P w K mg base k x ps n F:=by
 obtain⟨f,fd,h1,h2⟩:=D.ex
 exact⟨f,fd,h1.mono h,h2⟩
def fNew (n:Nat) (F:List Dat→Option (List Dat)) (fs:Rho→Option (List Dat)):Rho→Option (List Dat):=fun ρ=>(fs ρ).bind fun ds=>if ds.length=n then F ds else none
end
open PySem PySem.Spec PyProof.Rows L2
open PySem.W (Dat kqdOk)
def OverS (K:Fg) (J:It) (xs:List V) (dxs:List Dat) (ds:List Dat):Prop:=∀(i:Nat) (H:Hp) (Av:AvP),RepDs K H Av xs dxs→(ds.length≤i→J.stop i H)∧(∀di,ds[i]?=some di→J.go i H∧∀y H',AvT H Av→J.yld i H y H'→Same H H'∧RepD K H' Av y di)
theorem Over.s {K:Fg} {J:It} {x:V} {d:Dat} {ds:List Dat} (o:Over K J x d ds):OverS K J [x] [d] ds:=fun i H Av r=>by
 obtain⟨v,e,rv⟩:=r.one_inv
 cases e
 obtain⟨h1,h2⟩:=o i H Av rv
 refine⟨h1,fun di hd=>?_⟩
 obtain⟨g,y⟩:=h2 di hd
 refine⟨g,fun z H' _ hz=>?_⟩
 obtain⟨e,r'⟩:=y z H' hz
 subst e
 exact⟨Same.refl _,r'⟩
def tIF (K:Fg) (fi:Rho→Option (List Dat)):TI:=fun σ H R=>∃Av ρ ds,AvT H Av∧REnv K H Av σ ρ∧fi ρ=some ds∧∀J xs dxs H1,Same H H1→RepDs K H1 Av xs dxs→OverS K J xs dxs ds→R J H1
abbrev PIF (X:Cx) (tg iter:Expr) (fi:Rho→Option (List Dat)):Prop:=PI X tg iter (tIF X.K fi)
theorem pi_mono {X:Cx} {tg iter:Expr} {t t':TI} (h:PI X tg iter t) (m:∀σ H R,t' σ H R→t σ H R):PI X tg iter t':=fun pins s σ H R I q=>h pins s σ H R I (m σ H R q)
section
variable {X:Cx} {tg iter a b c e:Expr} {pos:Pos} {f fa fb:Rho→Option Dat} {fs:Rho→Option (List Dat)} {fi:Rho→Option (List Dat)} {gt:Dat→Option Asg} {gb:Gam→Option Fl}
def iSq (f:Rho→Option Dat):Rho→Option (List Dat):=fun ρ=>(f ρ).bind itemsD
def iRng (rg:List Dat→Option (List Dat)) (fs:Rho→Option (List Dat)):Rho→Option (List Dat):=fun ρ=>(fs ρ).bind rg
def fCompI (cap:List (Option Nat)) (gt:Dat→Option Asg) (ft:Rho→Option Bool) (fe:Rho→Option Dat) (fi:Rho→Option (List Dat)):Rho→Option (List Dat):=fun ρ=>(fi ρ).bind fun ds=>if ds.length<sizeLine then compL gt ft fe (capR cap ρ) ds else none
theorem tComp_I {K:Fg} {cap:List (Option Nat)} {ft:Rho→Option Bool} {fe:Rho→Option Dat} (ht:TgOk gt cap):∀σ H Q,tFL K (fCompI cap gt ft fe fi) σ H Q→tComp cap (tIF K fi) (tGF K gt) (tTF K ft) (tF K fe) σ H Q:=by
 rintro σ H Q ⟨Av,ρ,out,hA,hE,hf,q⟩
 obtain⟨ds,e1,hf⟩:=bind_some hf
 split at hf
 ·rename_i hz
  refine⟨Av,ρ,ds,hA,hE,e1,fun J xs dxs H1 s1 r ov=>?_⟩
  refine⟨fun i m ys H2=>m=ds.length-i∧i≤ds.length∧Same H1 H2∧∃o1 o2,RepDs K H2 Av ys o1∧o1.length≤i∧compL gt ft fe (capR cap ρ) (ds.drop i)=some o2∧out=o1++o2,
   ⟨_,rfl,Nat.zero_le _,Same.refl _,[],out,.nil,Nat.le_refl _,by rw[List.drop_zero];exact hf,rfl⟩,?_⟩
  rintro i m ys H2 ⟨rfl,hi,s2,o1,o2,ro,hl,hc,rfl⟩
  refine⟨by have:=ro.length;omega,?_⟩
  have rx:=r.same s2
  cases hdi:ds[i]? with
  |none=>
   have hle:ds.length≤i:=List.getElem?_eq_none_iff.mp hdi
   rw[List.drop_eq_nil_of_le hle]at hc
   cases hc
   refine .inl ⟨(ov i H2 _ rx).1 hle,fun D hD=>q H2 D ys (s1.trans s2) hD (by rw[List.append_nil];exact ro)⟩
  |some di=>
   have hlt:=get_lt hdi
   rw[drop_cons hdi]at hc
   obtain⟨as,a1,hc⟩:=bind_some (show(gt di).bind _=some o2 from hc)
   obtain⟨k,a2,hc⟩:=bind_some hc
   obtain⟨go,yl⟩:=(ov i H2 _ rx).2 di hdi
   refine .inr ⟨go,fun y H' hy=>?_⟩
   obtain⟨sH,ry⟩:=yl y H' (hA.same (s1.trans s2)) hy
   refine⟨Av,di,as,ry,a1,fun ws hw=>?_⟩
   have cs:∀p∈as,(capV cap σ)[p.1]?=some none:=fun p hp=>by
    unfold capV
    rw[List.getElem?_map,ht di as a1 p hp];rfl
   have A2:=hA.same (s1.trans (s2.trans sH))
   have E2:REnv K H' Av (setV (capV cap σ) ws) (setR (capR cap ρ) as):=REnv.setAll hw (by unfold capV capR;rw[List.length_map,List.length_map]) ((hE.same (s1.trans (s2.trans sH))).cap cap)
   refine⟨LeS.setAll hw cs (LeS.refl _),Av,_,k,A2,E2,a2,fun H3 s3=>?_⟩
   cases k with
   |false=>
    rw[if_neg Bool.false_ne_true]at hc ⊢
    exact⟨ds.length-(i+1),by omega,rfl,by omega,s2.trans (sH.trans s3),o1,o2,ro.same (sH.trans s3),by omega,hc,rfl⟩
   |true=>
    rw[if_pos rfl]at hc ⊢
    obtain⟨dv,a3,hc⟩:=bind_some hc
    obtain⟨o3,a4,hc⟩:=map_some' hc
    subst hc
    refine⟨Av,_,dv,A2.same s3,E2.same s3,a3,fun v H4 s4 rv=>⟨ds.length-(i+1),by omega,rfl,by omega,s2.trans (sH.trans (s3.trans s4)),o1++[dv],o3,(ro.same (sH.trans (s3.trans s4))).append (.cons rv .nil),?_,a4,?_⟩⟩
    ·rw[List.length_append,List.length_singleton];omega
    ·rw[List.append_assoc];rfl
 ·cases hf
def hL (f:Gam→Option (List Dat×Gam)):HF:=fun Γ=>(f Γ).map fun p=>(.list p.1,p.2)
end
set_option maxHeartbeats 4000000
open PySem PySem.Spec PyProof.Rows L2
open PySem.W (Dat kqdOk)
section
variable {X:Cx} {e:Expr} {pos dpos:Pos} {f fk:Rho→Option Dat} {fs:Rho→Option (List Dat)}
def lookD:List Str→List Dat→Str→Option Dat
 |k::ks,d::ds,x=>if k=x then some d else lookD ks ds x
 |_,_,_=>none
def fDisp (ks:List Str) (fs:Rho→Option (List Dat)) (fk:Rho→Option Dat):Rho→Option Dat:=fun ρ=>(fs ρ).bind fun ds=>(fk ρ).bind fun k=>match k with
 | .str x=>lookD ks ds x
 |_=>none
structure PFP (X:Cx) (pos:Pos) (keys:List (Option Expr)) (values:List Expr) (ks:List Str) (fs:Rho→Option (List Dat)):Prop where
 len:keys.length=ks.length
 ex:∃trs,PPs X pos keys values trs∧∀(σ:L2.St) (H:Hp) (Q:List (V×V)→Hp→Prop) (Av:AvP) (ρ:Rho) (ds:List Dat),AvT H Av→REnv X.K H Av σ ρ→fs ρ=some ds→(∀vs H',Same H H'→RepDs X.K H' Av vs ds→Q ((ks.map V.str).zip vs) H')→tPairs trs σ H Q
theorem pfp_nil:PFP X pos [] [] [] fNil:=⟨rfl,[],pps_nil,fun σ H Q Av ρ ds hA hE hf q=>by cases hf;exact q [] H (Same.refl H) .nil⟩
theorem pfp_cons {k:Str} {j:Nat} {p:Pos} {v:Expr} {keys:List (Option Expr)} {values:List Expr} {ks:List Str} (hv:PF X v f) (hr:PFP X pos keys values ks fs):PFP X pos (some (.Constant (.str k) j p)::keys) (v::values) (k::ks) (fCons f fs):=by
 obtain⟨hl,trs,hp,hs⟩:=hr
 refine⟨by rw[List.length_cons,List.length_cons,hl],_,pps_cons pe_str hv hp,fun σ H Q Av ρ ds hA hE hf q=>?_⟩
 obtain⟨dx,e1,hf⟩:=bind_some hf
 obtain⟨dr,e2,hf⟩:=map_some' hf
 subst hf
 exact⟨Av,ρ,dx,hA,hE,e1,fun x H1 s1 r1=>hs σ H1 _ Av ρ dr (hA.same s1) (hE.same s1) e2 fun vs H2 s2 r2=>q (x::vs) H2 (s1.trans s2) (.cons (r1.same s2) r2)⟩
theorem merge_out {k:Key}:∀(more acc:List (Key×V)),(∀kv∈more,kv.1≠k)→valV (mergeK acc more) k=valV acc k
 |[],acc,_=>rfl
 |kv::r,acc,h=>by
  have:=merge_out r (putK acc kv.1 kv.2) fun p hp=>h p (List.mem_cons_of_mem _ hp)
  refine(show valV (mergeK (putK acc kv.1 kv.2) r) k=_ from this).trans ?_
  rw[valV_put,if_neg (Ne.symm (h kv List.mem_cons_self))]
theorem zip_keys {k:Str}:∀{ks:List Str} {vs:List V} {kv:Key×V},kv∈(ks.map Sum.inr).zip vs→∃x∈ks,kv.1=Sum.inr x
 |[],vs,kv,h=>by simp at h
 |x::ks,[],kv,h=>by simp at h
 |x::ks,v::vs,kv,h=>by
  rw[List.map_cons,List.zip_cons_cons]at h
  rcases List.mem_cons.mp h with e|h
  ·exact⟨x,List.mem_cons_self,by rw[e]⟩
  ·obtain⟨y,hy,e⟩:=zip_keys (k:=k) h
   exact⟨y,List.mem_cons_of_mem _ hy,e⟩
theorem look_merge {K:Fg} {H:Hp} {Av:AvP} {x:Str} {d:Dat}:∀{ks:List Str} {vs:List V} {ds:List Dat} (acc:List (Key×V)),ks.Nodup→RepDs K H Av vs ds→lookD ks ds x=some d→∃v,valV (mergeK acc ((ks.map Sum.inr).zip vs)) (Sum.inr x)=some v∧RepD K H Av v d
 |[],vs,ds,acc,nd,r,h=>by simp[lookD]at h
 |k::ks,vs,ds,acc,nd,r,h=>by
  cases r with
  |nil=>simp[lookD]at h
  | @cons v vs d' ds r1 r2=>
   rw[List.map_cons,List.zip_cons_cons]
   unfold lookD at h
   by_cases ek:k=x
   ·rw[if_pos ek]at h
    cases h
    refine⟨v,?_,r1⟩
    show valV (mergeK (putK acc (Sum.inr k) v) _) _=_
    rw[merge_out,valV_put,if_pos (by rw[ek])]
    rintro kv hkv e2
    obtain⟨y,hy,e3⟩:=zip_keys (k:=x) hkv
    rw[e3]at e2
    have:y=x:=Sum.inr.inj e2
    rw[this,← ek]at hy
    exact(List.nodup_cons.mp nd).1 hy
   ·rw[if_neg ek]at h
    exact look_merge (putK acc (Sum.inr k) v) (List.nodup_cons.mp nd).2 r2 h
theorem zipV_map:∀(ks:List Str) (vs:List V),(ks.map V.str).zip vs=((ks.map (Sum.inr (α:=Int))).zip vs).map (fun kv=>(kV kv.1,kv.2))
 |[],vs=>rfl
 |k::ks,[]=>rfl
 |k::ks,v::vs=>by
  rw[List.map_cons,List.map_cons,List.zip_cons_cons,List.zip_cons_cons,List.map_cons,zipV_map ks vs];rfl
theorem pf_disp {keys:List (Option Expr)} {values:List Expr} {ks:List Str} {k:Nat} (hr:Room k X.A) (h:PFP X dpos keys values ks fs) (hk:PF X e fk) (nd:ks.Nodup) (hall:keys.all (·.isSome)=true:=by rfl) (hl:keys.length=values.length:=by rfl) (h0:keys≠[]:=by simp) (h15:keys.length≤15:=by decide) (hs:NoSl e:=by exact fun _ _=>rfl):
  PF X (.Subscript (.Dict keys values dpos) e pos) (fDisp ks fs fk):=by
 obtain⟨hlk,trs,hp,hsem⟩:=h
 refine pe_mono (pe_dget (Nat.lt_of_le_of_lt (by omega) hr.units) (pe_disp hp hall hl h0 h15) hk hs) fun σ H Q ⟨Av,ρ,d,hA,hE,hf,q⟩=>?_
 obtain⟨ds,e1,hf⟩:=bind_some hf
 obtain⟨dk,e2,hf⟩:=bind_some hf
 split at hf
 ·rename_i x
  intro p hp
  have s1:Same H (upd H p (.dK [])):=same_new hp _
  have hA1:AvT (upd H p (.dK [])) (fun b=>Av b∨b=p):=fun b z=>z.elim (fun z=>let ⟨o,q⟩:=hA b z;⟨o,s1 b o q⟩) fun z=>⟨.dK [],by rw[z];exact upd_same⟩
  have k1:Keep H Av (upd H p (.dK [])) (fun b=>Av b∨b=p):=fun b o h n=>⟨s1 b o h,fun z=>z.elim n fun z=>ne_of_none h hp z⟩
  have hE1:REnv X.K (upd H p (.dK [])) (fun b=>Av b∨b=p) σ ρ:=fun i d e=>let ⟨v,h1,r⟩:=hE i d e;⟨v,h1,r.mono k1⟩
  refine hsem σ _ _ _ ρ ds hA1 hE1 e1 fun vs H2 s2 r2=>?_
  have hp2:H2 p=some (.dK []):=s2 p _ upd_same
  refine⟨hp2,(ks.map Sum.inr).zip vs,?_,?_,?_⟩
  ·exact zipV_map ks vs
  ·rw[List.length_zip,List.length_map];omega
  ·have k3:Keep H2 (fun b=>Av b∨b=p) (upd H2 p (.dK (mergeK [] ((ks.map Sum.inr).zip vs)))) (fun b=>Av b∨b=p):=fun b o h n=>⟨by rw[upd_ne fun z=>n (.inr z)];exact h,n⟩
   have hA3:AvT (upd H2 p (.dK (mergeK [] ((ks.map Sum.inr).zip vs)))) (fun b=>Av b∨b=p):=fun b z=>by
    by_cases eb:b=p
    ·rw[eb];exact⟨_,upd_same⟩
    ·obtain⟨o,h⟩:=hA1.same s2 b z
     exact⟨o,by rw[upd_ne eb];exact h⟩
   have hE3:REnv X.K (upd H2 p (.dK (mergeK [] ((ks.map Sum.inr).zip vs)))) (fun b=>Av b∨b=p) σ ρ:=fun i d e=>let ⟨v,h1,r⟩:=(hE1.same s2) i d e;⟨v,h1,r.mono k3⟩
   refine⟨_,ρ,.str x,hA3,hE3,e2,fun y H4 s4 ry=>?_⟩
   obtain⟨v,hv,rv⟩:=look_merge (x:=x) [] nd r2 hf
   refine⟨p,v,rfl,?_,q v H4 (fun b o h=>s4 b o (by rw[upd_ne (ne_of_none h hp)];exact s2 b o (s1 b o h))) (((rv.mono k3).same s4).weak fun _ z=>.inl z)⟩
   rw[ry.s_inv,← hv]
   exact DGet.k (k:=Sum.inr x) (s4 p _ upd_same)
 ·cases hf
theorem tg_two {i j:Nat} {cap:List (Option Nat)} (hi:cap[i]?=some none) (hj:cap[j]?=some none):TgOk (aTup 2 (aCons (aName i) (aCons (aName j) aNil))) cap:=fun d as e p hp=>by
 unfold aTup at e
 split at e
 ·split at e
  ·rename_i ds hl
   match ds,hl with
   |[a,b],_=>
    cases e
    rcases List.mem_cons.mp hp with e|hp
    ·rw[e];exact hi
    ·rcases List.mem_cons.mp hp with e|hp
     ·rw[e];exact hj
     ·simp at hp
  ·cases e
 ·cases e
end
open PySem PySem.Spec PyProof.Rows L2
open PySem.W (Dat kqdOk)
theorem dn_none {P:Program} {w:World} {K:Fg} {mg:Str→Option Value} {base:Heap} {x qual:Str} {st:Stmt} {fa:Addr} {fd:FuncData} {ps:List Str} {k n:Nat} (U:Fun K x qual st fa fd) (hm:mg x=some (.ref fa)) (hB:Binds K fd ps []):Dn P w K mg base k x ps n (fun _=>none):=
 ⟨fa,fd,⟨fun vs H Q E ⟨_,_,_,_,_,_,h,_⟩=>(by cases h),fun A outer s H args us vs Q E _ _ _ _ ⟨_,_,_,_,_,_,h,_⟩=>(by cases h)⟩,hm,U.kp,hB⟩
open PySem PySem.Spec PyProof.Rows L2
open PySem.W (Dat kqdOk)
section
variable {es ts:List Expr} {env:Env} {a b:Expr} {p:Pos}
theorem star_tup {k}:starEach (.Tuple ts k p::es) env=(false,eval (.Tuple ts k p) env)::starEach es env:=by rw[starEach];intro _ _ h;cases h
theorem star_lst:starEach (.List ts p::es) env=(false,eval (.List ts p) env)::starEach es env:=by rw[starEach];intro _ _ h;cases h
theorem star_bin {op}:starEach (.BinOp a op b p::es) env=(false,eval (.BinOp a op b p) env)::starEach es env:=by rw[starEach];intro _ _ h;cases h
theorem star_sub:starEach (.Subscript a b p::es) env=(false,eval (.Subscript a b p) env)::starEach es env:=by rw[starEach];intro _ _ h;cases h
theorem star_call {ks}:starEach (.Call a ts ks p::es) env=(false,eval (.Call a ts ks p) env)::starEach es env:=by rw[starEach];intro _ _ h;cases h
theorem star_cmp {os}:starEach (.Compare a os ts p::es) env=(false,eval (.Compare a os ts p) env)::starEach es env:=by rw[starEach];intro _ _ h;cases h
end
open PySem PySem.Spec PyProof.Rows L2
open PySem.W (Dat kqdOk)
structure QE (X:Cx) (e:Expr) (t:TE):Prop where
 o:PE X e t
structure QT (X:Cx) (e:Expr) (t:TT):Prop where
 o:PT X e t
structure QW (X:Cx) (e:Expr) (t:TT):Prop where
 o:PW X e t
structure QA (X:Cx) (e:List Expr) (t:TA):Prop where
 o:PA X e t
structure QS (X:Cx) (e:Stmt) (t:TS):Prop where
 o:PS X e t
structure QSs (X:Cx) (e:List Stmt) (t:TS):Prop where
 o:PSs X e t
structure QG (X:Cx) (e:Expr) (t:TG):Prop where
 o:PG X e t
structure QGs (X:Cx) (e:List Expr) (t:TGs):Prop where
 o:PGs X e t
structure QI (X:Cx) (tg e:Expr) (t:TI):Prop where
 o:PI X tg e t
structure QO (X:Cx) (e:Option Expr) (t:TO):Prop where
 o:PO X e t
structure QTs (X:Cx) (e:List Expr) (t:TT):Prop where
 o:PTs X e t
abbrev QF (X:Cx) (e:Expr) (f:Rho→Option Dat):Prop:=QE X e (tF X.K f)
abbrev QFT (X:Cx) (e:Expr) (f:Rho→Option Bool):Prop:=QT X e (tTF X.K f)
abbrev QFW (X:Cx) (e:Expr) (f:Rho→Option Bool):Prop:=QW X e (tTF X.K f)
abbrev QFA (X:Cx) (e:List Expr) (f:Rho→Option (List Dat)):Prop:=QA X e (tFA X.K f)
abbrev QSF (X:Cx) (e:Stmt) (f:Gam→Option Fl):Prop:=QS X e (tSF X.K f)
abbrev QSFs (X:Cx) (e:List Stmt) (f:Gam→Option Fl):Prop:=QSs X e (tSF X.K f)
abbrev QH (X:Cx) (e:Expr) (f:HF):Prop:=QE X e (tH X.K f)
abbrev QHA (X:Cx) (e:List Expr) (f:Gam→Option (List Dat×Gam)):Prop:=QA X e (tHA X.K f)
abbrev QIF (X:Cx) (tg e:Expr) (f:Rho→Option (List Dat)):Prop:=QI X tg e (tIF X.K f)
abbrev QFO (X:Cx) (e:Option Expr) (f:Rho→Option (Option Int)):Prop:=QO X e (tOF X.K f)
section
variable {X:Cx} {a b c e:Expr} {es:List Expr} {pos:Pos} {fa fb fc f:Rho→Option Dat} {fs:Rho→Option (List Dat)}
theorem qpf_var (i:Nat) {x:Str} {pos:Pos} (hN:X.N[i]?=some x:=by rfl) (hv:Vis X.env.scope x:=by first|exact Or.inl rfl|exact Or.inr (Or.inl rfl)|exact Or.inr (Or.inr rfl)) (hd:(x==("__debug__" : Str))=false:=by decide) (hcd:(x==("__classdict__" : Str))=false:=by decide):
  QF X (.Name x pos) (fVar i):=⟨pe_mono (pe_var hN hv hd hcd) fun σ H Q hzz=>by
 obtain⟨Av,ρ,d,hA,hE,hf,q⟩:=hzz
 obtain⟨v,e1,r⟩:=hE i d (join_some hf)
 exact⟨v,e1,q v H (Same.refl H) r⟩⟩
theorem qpf_int {i j pos}:
  QF X (.Constant (.int i) j pos) (fC (.int i)):=⟨pe_mono pe_int fun σ H Q ⟨Av,ρ,d,hA,hE,hf,q⟩=>by cases hf;exact q _ H (Same.refl H) (.int i)⟩
theorem qpf_bl {i j pos}:
  QF X (.Constant (.bool i) j pos) (fC (.bool i)):=⟨pe_mono pe_bl fun σ H Q ⟨Av,ρ,d,hA,hE,hf,q⟩=>by cases hf;exact q _ H (Same.refl H) (.bl i)⟩
theorem qpf_non {j pos}:
  QF X (.Constant .none j pos) (fC .none):=⟨pe_mono pe_non fun σ H Q ⟨Av,ρ,d,hA,hE,hf,q⟩=>by cases hf;exact q _ H (Same.refl H) .non⟩
theorem qpf_str {i j pos}:
  QF X (.Constant (.str i) j pos) (fC (.str i)):=⟨pe_mono pe_str fun σ H Q ⟨Av,ρ,d,hA,hE,hf,q⟩=>by cases hf;exact q _ H (Same.refl H) (.str i)⟩
theorem qpft_truth (ha:QF X a fa) (he:∀whole,isTrue a X.env whole=(do let v ← whole;standAt a.pos;holding [v] (truthy v)):=by intro _;rfl):
  QFT X a (fTru fa):=⟨pt_mono (pt_truth ha.o he) fun σ H Q hzz=>by
 obtain⟨Av,ρ,b,hA,hE,hf,q⟩:=hzz
 obtain⟨d,e1,hf⟩:=bind_some hf
 exact⟨Av,ρ,d,hA,hE,e1,fun v H' s r=>⟨b,truD_V r hf,q H' s⟩⟩⟩
end
section
variable {X:Cx} {a b c e:Expr} {es:List Expr} {pos:Pos} {fa fb fc f:Rho→Option Dat} {fs:Rho→Option (List Dat)}
variable {ft gt:Rho→Option Bool} {rest:List Expr}
theorem qpfw_and1 (ha:QFT X a ft):
  QFW X (.BoolOp .And [a] pos) ft:=⟨pw_and1 ha.o⟩
theorem qpfw_or1 (ha:QFT X a ft):
  QFW X (.BoolOp .Or [a] pos) ft:=⟨pw_or1 ha.o⟩
theorem qpfw_and (ha:QFT X a ft) (hb:QFW X (.BoolOp .And (b::rest) pos) gt):
  QFW X (.BoolOp .And (a::b::rest) pos) (fAndT ft gt):=⟨pw_mono (pw_and ha.o hb.o) fun σ H Q hzz=>by
 obtain⟨Av,ρ,k,hA,hE,hf,q⟩:=hzz
 obtain⟨c,e1,hf⟩:=bind_some hf
 refine⟨Av,ρ,c,hA,hE,e1,fun H1 s1=>?_⟩
 cases c with
 |true=>rw[if_pos rfl]at hf ⊢;exact⟨Av,ρ,k,hA.same s1,hE.same s1,hf,fun H2 s2=>q H2 (s1.trans s2)⟩
 |false=>rw[if_neg Bool.false_ne_true]at hf ⊢;cases hf;exact q H1 s1⟩
theorem qpfw_or (ha:QFT X a ft) (hb:QFW X (.BoolOp .Or (b::rest) pos) gt):
  QFW X (.BoolOp .Or (a::b::rest) pos) (fOrT ft gt):=⟨pw_mono (pw_or ha.o hb.o) fun σ H Q hzz=>by
 obtain⟨Av,ρ,k,hA,hE,hf,q⟩:=hzz
 obtain⟨c,e1,hf⟩:=bind_some hf
 refine⟨Av,ρ,c,hA,hE,e1,fun H1 s1=>?_⟩
 cases c with
 |false=>rw[if_neg Bool.false_ne_true]at hf ⊢;exact⟨Av,ρ,k,hA.same s1,hE.same s1,hf,fun H2 s2=>q H2 (s1.trans s2)⟩
 |true=>rw[if_pos rfl]at hf ⊢;cases hf;exact q H1 s1⟩
theorem qpft_w {e:Expr} (h:QFW X e ft):
  QFT X e ft:=⟨h.o.pt⟩
theorem qpft_not (ha:QFT X a ft):
  QFT X (.UnaryOp .Not a pos) (fNotT ft):=⟨pt_mono (pt_not ha.o) fun σ H Q hzz=>by
 obtain⟨Av,ρ,k,hA,hE,hf,q⟩:=hzz
 unfold fNotT at hf
 cases e:ft ρ with
 |none=>rw[e]at hf;cases hf
 |some c=>rw[e]at hf;cases hf;exact⟨Av,ρ,c,hA,hE,e,q⟩⟩
theorem qpf_one {op} (h:QF X a fa):
  QF X (.BoolOp op [a] pos) fa:=⟨pe_one h.o⟩
theorem qpf_and (ha:QF X a fa) (hb:QF X (.BoolOp .And (b::rest) pos) fb):
  QF X (.BoolOp .And (a::b::rest) pos) (fAnd fa fb):=⟨pe_mono (pe_and ha.o hb.o) fun σ H Q hzz=>by
 obtain⟨Av,ρ,k,hA,hE,hf,q⟩:=hzz
 obtain⟨d,e1,hf'⟩:=bind_some hf
 clear hf
 obtain⟨c,e2,hf⟩:=bind_some hf'
 clear hf'
 have e3:=asB_some e2
 subst e3
 refine⟨Av,ρ,_,hA,hE,e1,fun x H1 s1 r=>⟨c,r.b_inv,?_⟩⟩
 cases c with
 |true=>rw[if_pos rfl]at hf ⊢;exact⟨Av,ρ,k,hA.same s1,hE.same s1,hf,fun v H2 s2 r2=>q v H2 (s1.trans s2) r2⟩
 |false=>rw[if_neg Bool.false_ne_true]at hf ⊢;cases hf;exact q _ H1 s1 (.bl false)⟩
theorem qpf_or (ha:QF X a fa) (hb:QF X (.BoolOp .Or (b::rest) pos) fb):
  QF X (.BoolOp .Or (a::b::rest) pos) (fOr fa fb):=⟨pe_mono (pe_or ha.o hb.o) fun σ H Q hzz=>by
 obtain⟨Av,ρ,k,hA,hE,hf,q⟩:=hzz
 obtain⟨d,e1,hf'⟩:=bind_some hf
 clear hf
 obtain⟨c,e2,hf⟩:=bind_some hf'
 clear hf'
 have e3:=asB_some e2
 subst e3
 refine⟨Av,ρ,_,hA,hE,e1,fun x H1 s1 r=>⟨c,r.b_inv,?_⟩⟩
 cases c with
 |false=>rw[if_neg Bool.false_ne_true]at hf ⊢;exact⟨Av,ρ,k,hA.same s1,hE.same s1,hf,fun v H2 s2 r2=>q v H2 (s1.trans s2) r2⟩
 |true=>rw[if_pos rfl]at hf ⊢;cases hf;exact q _ H1 s1 (.bl true)⟩
theorem qpf_not (ha:QF X a fa):
  QF X (.UnaryOp .Not a pos) (fNot fa):=⟨pe_mono (pe_not ha.o) fun σ H Q hzz=>by
 obtain⟨Av,ρ,k,hA,hE,hf,q⟩:=hzz
 obtain⟨d,e1,hf⟩:=bind_some hf
 cases e2:asB d with
 |none=>rw[e2]at hf;cases hf
 |some c=>
  rw[e2]at hf
  cases hf
  have e3:=asB_some e2
  subst e3
  exact⟨Av,ρ,_,hA,hE,e1,fun x H1 s1 r=>⟨c,r.b_inv,q _ H1 s1 (.bl _)⟩⟩⟩
theorem qpf_ifExp (hc:QFT X c ft) (ha:QF X a fa) (hb:QF X b fb):
  QF X (.IfExp c a b pos) (fIf ft fa fb):=⟨pe_mono (pe_ifExp hc.o ha.o hb.o) fun σ H Q hzz=>by
 obtain⟨Av,ρ,k,hA,hE,hf,q⟩:=hzz
 obtain⟨c',e1,hf⟩:=bind_some hf
 refine⟨Av,ρ,c',hA,hE,e1,fun H1 s1=>?_⟩
 cases c' with
 |true=>rw[if_pos rfl]at hf ⊢;exact⟨Av,ρ,k,hA.same s1,hE.same s1,hf,fun v H2 s2 r2=>q v H2 (s1.trans s2) r2⟩
 |false=>rw[if_neg Bool.false_ne_true]at hf ⊢;exact⟨Av,ρ,k,hA.same s1,hE.same s1,hf,fun v H2 s2 r2=>q v H2 (s1.trans s2) r2⟩⟩
theorem qpfa_nil:
  QFA X [] fNil:=⟨pa_mono pa_nil fun σ H Q ⟨Av,ρ,d,hA,hE,hf,q⟩=>by cases hf;exact q _ H (Same.refl H) .nil⟩
theorem qpfa_cons (ha:QF X e fa) (hr:QFA X es fs) (hs:starEach (e::es) X.env=(false,eval e X.env)::starEach es X.env:=by rfl):
  QFA X (e::es) (fCons fa fs):=⟨pa_mono (pa_cons ha.o hr.o hs) fun σ H Q hzz=>by
 obtain⟨Av,ρ,d,hA,hE,hf,q⟩:=hzz
 obtain⟨dx,e1,hf⟩:=bind_some hf
 obtain⟨ds,e2,hf⟩:=map_some' hf
 subst hf
 exact⟨Av,ρ,dx,hA,hE,e1,fun x H1 s1 r1=>⟨Av,ρ,ds,hA.same s1,hE.same s1,e2,fun xs H2 s2 r2=>q _ H2 (s1.trans s2) (.cons (r1.same s2) r2)⟩⟩⟩
theorem qpf_tup {k:Nat} (h:QFA X es fs) {x1}:
  QF X (.Tuple es x1 pos) (fTup fs):=⟨pe_mono (pe_tup h.o) fun σ H Q hzz=>by
 obtain⟨Av,ρ,d,hA,hE,hf,q⟩:=hzz
 obtain⟨ds,e1,hf⟩:=bind_some hf
 split at hf
 ·rename_i hz
  cases hf
  exact⟨Av,ρ,ds,hA,hE,e1,fun xs H1 s1 r1=>⟨by rw[r1.length];exact hz,fun p hp=>q _ _ (s1.trans (same_new hp _)) (.newT (hA.same s1) hp r1)⟩⟩
 ·cases hf⟩
theorem qpf_lst (h:QFA X es fs):
  QF X (.List es pos) (fLst fs):=⟨pe_mono (pe_lst h.o) fun σ H Q hzz=>by
 obtain⟨Av,ρ,d,hA,hE,hf,q⟩:=hzz
 obtain⟨ds,e1,hf⟩:=bind_some hf
 split at hf
 ·rename_i hz
  cases hf
  exact⟨Av,ρ,ds,hA,hE,e1,fun xs H1 s1 r1=>⟨by rw[r1.length];exact hz,fun p hp=>q _ _ (s1.trans (same_new hp _)) (.newL (hA.same s1) hp r1)⟩⟩
 ·cases hf⟩
theorem qpf_fn {x:Str} {p:Pos} {k n:Nat} {ps:List Str} {F:List Dat→Option Dat} (D:Dn X.prog X.w X.K X.mg X.base k x ps n F) (hr:Room k X.A) (ha:QFA X (e::es) fs) (hg:Gl X x:=by rfl) (hdb:(x==("__debug__" : Str))=false:=by decide) (he:starEach (e::es) X.env=(false,eval e X.env)::starEach es X.env:=by rfl) (hpl:(backTo pos (starEach es X.env)).any (·.1)=false:=by rfl):
  QF X (.Call (.Name x p) (e::es) [] pos) (fFn n F fs):=⟨by
 obtain⟨f,fd,h1,h2,h3,h4⟩:=D.ex
 exact pe_mono (pe_call h1 hr hg h2 h3 h4 .nil pass0 ha.o hdb he hpl) tF_fn⟩
end
section
variable {X:Cx} {st:Stmt} {rest:List Stmt} {e:Expr} {f:Rho→Option Dat} {ft:Rho→Option Bool} {g g1 g2:Gam→Option Fl} {pos:Pos}
theorem qpsf_nil:
  QSFs X [] sSkip:=⟨pss_mono pss_nil fun D σ H ⟨H₀,Av,pn,hid,Γ,fl,G,hf,q⟩=>by cases hf;exact q σ H G⟩
theorem qpsf_one (h:QSF X st g):
  QSFs X [st] g:=⟨pss_one h.o⟩
theorem qpsf_cons (h1:QSF X st g1) (h2:QSFs X rest g2):
  QSFs X (st::rest) (sSeq g1 g2):=⟨pss_mono (pss_cons h1.o h2.o) fun D σ H hzz=>by
 obtain⟨H₀,Av,pn,hid,Γ,fl,G,hf,q⟩:=hzz
 obtain⟨fl1,e1,hf⟩:=bind_some hf
 refine⟨H₀,Av,pn,hid,Γ,fl1,G,e1,?_⟩
 cases fl1 with
 |nx Γ'=>exact fun σ' H' G'=>⟨H₀,Av,pn,hid,Γ',fl,G',hf,q⟩
 |rt d=>cases hf;exact q
 |bk Γ'=>cases hf;exact q
 |ct Γ'=>cases hf;exact q
 |rm d Γ'=>cases hf;exact q⟩
theorem qpsf_never:
  QSF X st sNever:=⟨ps_mono ps_never fun D σ H ⟨H₀,Av,pn,hid,Γ,fl,G,hf,q⟩=>by cases hf⟩
theorem qpsf_ret (h:QF X e f):
  QSF X (.Return (some e) pos) (sRet f):=⟨ps_mono (ps_ret h.o) fun D σ H hzz=>by
 obtain⟨H₀,Av,pn,hid,Γ,fl,⟨ad,G⟩,hf,q⟩:=hzz
 obtain⟨d,e1,hf⟩:=map_some' hf
 subst hf
 exact⟨Av,allV Γ,d,G.avt.same G.same,G.envA,e1,fun v H' s r=>q v H' (G.same.trans s) r⟩⟩
theorem qpsf_if {c:Expr} {a b:List Stmt} (hc:QFT X c ft) (ha:QSFs X a g1) (hb:QSFs X b g2):
  QSF X (.If c a b pos) (sIf ft g1 g2):=⟨ps_mono (ps_if hc.o ha.o hb.o) fun D σ H hzz=>by
 obtain⟨H₀,Av,pn,hid,Γ,fl,⟨ad,G⟩,hf,q⟩:=hzz
 obtain⟨k,e1,hf⟩:=bind_some hf
 refine⟨Av,allV Γ,k,G.avt.same G.same,G.envA,e1,fun H' s=>?_⟩
 cases k with
 |true=>rw[if_pos rfl]at hf ⊢;exact⟨H₀,Av,pn,hid,Γ,fl,⟨ad,G.grow s⟩,hf,q⟩
 |false=>rw[if_neg Bool.false_ne_true]at hf ⊢;exact⟨H₀,Av,pn,hid,Γ,fl,⟨ad,G.grow s⟩,hf,q⟩⟩
theorem qpsf_set (i:Nat) {x:Str} {pos':Pos} (hN:X.N.Nodup) (h:QF X e f) (hi:X.N[i]?=some x:=by rfl) (hx:Loc X.env.scope x:=by first|exact .inl rfl|exact .inr rfl) (hs:swapsWith e (some (.Name x pos')) pos.line X.env=pure false:=by rfl) (hf:X.fn x=true∨X.env.scope.names.lookup x=some .local:=by first|exact .inl rfl|exact .inr rfl):
  QSF X (.Assign [.Name x pos'] e pos) (sSet i f):=⟨ps_mono (ps_set hN hi hx h.o hs hf) tSet_F⟩
theorem qpsf_expr (h:QF X e f) (hs:swapsWith e none pos.line X.env=pure false:=by rfl):
  QSF X (.Expr e pos) (sDrop f):=⟨ps_mono (ps_expr h.o hs) fun D σ H hzz=>by
 obtain⟨H₀,Av,pn,hid,Γ,fl,⟨ad,G⟩,hf,q⟩:=hzz
 obtain⟨d,e1,hf⟩:=map_some' hf
 subst hf
 exact⟨Av,allV Γ,d,G.avt.same G.same,G.envA,e1,fun v H' s r=>q _ _ ⟨ad,G.grow s⟩⟩⟩
theorem qpgf_name (i:Nat) {x:Str} (hN:X.N.Nodup) (hi:X.N[i]?=some x:=by rfl) (hx:Loc X.env.scope x:=by first|exact .inl rfl|exact .inr rfl) (hf:X.fn x=true∨X.env.scope.names.lookup x=some .local:=by first|exact .inl rfl|exact .inr rfl):
  QG X (.Name x pos) (tGF X.K (aName i)):=⟨pg_mono (pg_name hN hi hx hf) fun v σ H Q ⟨Av,d,as,r,e,q⟩=>by cases e;exact q [(i,v)] (.cons r .nil)⟩
theorem qpgfs_nil:
  QGs X [] (tGFs X.K aNil):=⟨pgs_mono pgs_nil fun vs σ H Q hzz=>by
 obtain⟨Av,ds,as,r,e,q⟩:=hzz
 cases r with
 |nil=>cases e;exact⟨rfl,q [] .nil⟩
 |cons _ _=>cases e⟩
theorem qpgfs_cons {tg:Expr} {tgs:List Expr} {gt:Dat→Option Asg} {gts:List Dat→Option Asg} (h1:QG X tg (tGF X.K gt)) (h2:QGs X tgs (tGFs X.K gts)) (hs:(assignEach (tg::tgs) X.env).map (·.2)=assign tg X.env::(assignEach tgs X.env).map (·.2):=by rfl):
  QGs X (tg::tgs) (tGFs X.K (aCons gt gts)):=⟨pgs_mono (pgs_cons h1.o h2.o hs) fun vs σ H Q hzz=>by
 obtain⟨Av,ds,as,r,e,q⟩:=hzz
 cases r with
 |nil=>cases e
 | @cons v vs' d ds' rd rr=>
  obtain⟨a,e1,e⟩:=bind_some (show(gt d).bind _=some as from e)
  obtain⟨b,e2,e⟩:=map_some' e
  subst e
  refine⟨v,vs',rfl,Av,d,a,rd,e1,fun ws hw=>⟨Av,ds',b,rr,e2,fun us hu=>?_⟩⟩
  have:=q (ws++us) (hw.append hu)
  unfold setV at this ⊢
  rw[List.foldl_append]at this
  exact this⟩
theorem qpgf_tup {tgs:List Expr} {k:Nat} {gts:List Dat→Option Asg} {n:Nat} (hc:X.calm=true) (h:QGs X tgs (tGFs X.K gts)) (hn:(assignEach tgs X.env).length=n:=by rfl) (hst:(assignEach tgs X.env).findIdx? (·.1)=none:=by rfl):
  QG X (.Tuple tgs k pos) (tGF X.K (aTup n gts)):=⟨pg_mono (pg_tup hc h.o hn hst) fun v σ H Q hzz=>by
 obtain⟨Av,d,as,r,e,q⟩:=hzz
 unfold aTup at e
 split at e
 ·split at e
  ·rename_i ds hl
   obtain⟨a,xs,rfl,hq,rs⟩:=r.t_inv
   exact⟨a,xs,rfl,hq.sq,by rw[rs.length];exact hl,Av,ds,as,rs,e,q⟩
  ·cases e
 ·cases e⟩
theorem qpsf_asg {tg:Expr} {gt:Dat→Option Asg} (h:QF X e f) (hg:QG X tg (tGF X.K gt)) (hs:swapsWithSole [tg] e pos.line X.env=pure false:=by rfl) (hw:swappedStores [tg] e X.env=pure none:=by rfl) (h1:(assignEach [tg] X.env).map (·.2)=[assign tg X.env]:=by rfl):
  QSF X (.Assign [tg] e pos) (sAsg gt f):=⟨ps_mono (ps_asg h.o hg.o hs hw h1) fun D σ H hzz=>by
 obtain⟨H₀,Av,pn,hid,Γ,fl,⟨ad,G⟩,hf,q⟩:=hzz
 obtain⟨d,e1,hf⟩:=bind_some hf
 obtain⟨as,e2,hf⟩:=map_some' hf
 subst hf
 exact⟨AvG Av Γ ad,immV Γ,d,G.avG,G.envI,e1,fun v H' s r=>⟨AvG Av Γ ad,d,as,r,e2,fun ws hw=>q _ _ ⟨ad,GA.setAll hw (fun _ z=>z) (G.grow s)⟩⟩⟩⟩
end
section
variable {X:Cx} {st:Stmt} {rest:List Stmt} {e:Expr} {es:List Expr} {f:Rho→Option Dat} {fs:Rho→Option (List Dat)} {ft:Rho→Option Bool} {g g1 g2:Gam→Option Fl} {pos:Pos}
theorem qpsf_for {tg iter:Expr} {body:List Stmt} {gt:Dat→Option Asg} {gb:Gam→Option Fl} (hp:PassesOwn (model X.prog X.w) X.A X.env X.xe) (hc:X.calm=true) (hi:QF X iter f) (hg:QG X tg (tGF X.K gt)) (hb:QSFs X body gb) (hs:∀x,foldedSetIterable iter X.env x=pure x:=by intro _;rfl):
  QSF X (.For tg iter body [] pos) (sFor gt gb f):=⟨ps_mono (ps_for hp hc (pi_seq hi.o) hg.o hb.o hs) fun D σ H hzz=>by
 obtain⟨H₀,Av,pn,hid,Γ,fl,⟨ad,G⟩,hf,q⟩:=hzz
 obtain⟨d,e1,hf⟩:=bind_some hf
 obtain⟨ds,e2,hf⟩:=bind_some hf
 refine⟨AvG Av Γ ad,immV Γ,d,G.avG,G.envI,e1,fun x H1 s1 r=>?_⟩
 cases d with
 |list ds'=>
  cases e2
  obtain⟨a,xs,rfl,hq,rs⟩:=r.l_inv
  exact⟨a,rfl,.inl ⟨⟨xs,hq.sq⟩,for_turns over_list ⟨ad,(G.grow s1).hide r⟩ hf q⟩⟩
 |tuple ds'=>
  cases e2
  obtain⟨a,xs,rfl,hq,rs⟩:=r.t_inv
  exact⟨a,rfl,.inr ⟨⟨xs,hq.sq⟩,for_turns over_tup ⟨ad,(G.grow s1).hide r⟩ hf q⟩⟩
 |_=>cases e2⟩
theorem qpsf_forR1 {tg a:Expr} {body:List Stmt} {gt:Dat→Option Asg} {gb:Gam→Option Fl} {p pos':Pos} (hp:PassesOwn (model X.prog X.w) X.A X.env X.xe) (hc:X.calm=true) (hm:X.mg "range"=none) (ha:QFA X [a] fs) (hg:QG X tg (tGF X.K gt)) (hb:QSFs X body gb) (hgl:Gl X "range":=by rfl) (hst:starEach [a] X.env=[(false,eval a X.env)]:=by rfl) (hs:∀x,foldedSetIterable (.Call (.Name "range" p) [a] [] pos') X.env x=pure x:=by intro _;rfl):
  QSF X (.For tg (.Call (.Name "range" p) [a] [] pos') body [] pos) (sForR rng1 gt gb fs):=⟨ps_mono (ps_for hp hc (pi_range1 hgl hm ha.o hst) hg.o hb.o hs) fun D σ H hzz=>by
 obtain⟨H₀,Av,pn,hid,Γ,fl,⟨ad,G⟩,hf,q⟩:=hzz
 obtain⟨as,e1,hf⟩:=bind_some hf
 obtain⟨ds,e2,hf⟩:=bind_some hf
 refine⟨Av,allV Γ,as,G.avt.same G.same,G.envA,e1,fun vs H1 s1 r=>?_⟩
 unfold rng1 at e2
 split at e2
 ·rename_i j
  split at e2
  ·rename_i hj
   cases e2
   obtain⟨v,rfl,rv⟩:=r.one_inv
   rw[rv.i_inv]
   exact⟨j,rfl,hj.1,hj.2,for_turns over_range ⟨ad,(G.grow s1).hide .non⟩ hf q⟩
  ·cases e2
 ·cases e2⟩
theorem qpsf_while (fuel:Gam→Nat) {c:Expr} {body:List Stmt} {gb:Gam→Option Fl} (hp:PassesOwn (model X.prog X.w) X.A X.env X.xe) (hc:QFT X c ft) (hb:QSFs X body gb):
  QSF X (.While c body [] pos) (sWhile fuel ft gb):=⟨ps_mono (ps_while hp hc.o hb.o) fun D σ H hzz=>by
 obtain⟨H₀,Av,pn,hid,Γ,fl,G,hf,q⟩:=hzz
 refine⟨fun m σ H=>∃Γ,GEnv X.K H₀ Av pn hid H σ Γ∧whileF ft gb m Γ=some fl,⟨_,Γ,G,hf⟩,?_⟩
 rintro m σ H ⟨Γ,⟨ad,G⟩,hf⟩
 cases m with
 |zero=>cases hf
 |succ m=>
  obtain⟨k,e1,hf⟩:=bind_some (show(ft (allV Γ)).bind _=some fl from hf)
  refine⟨Av,allV Γ,k,G.avt.same G.same,G.envA,e1,fun H1 s1=>?_⟩
  cases k with
  |false=>
   rw[if_neg Bool.false_ne_true]at hf ⊢
   cases hf
   exact q σ H1 ⟨ad,G.grow s1⟩
  |true=>
   rw[if_pos rfl]at hf ⊢
   obtain⟨fl1,e2,hf⟩:=bind_some hf
   refine⟨fun σ' H'=>∃Γ',GEnv X.K H₀ Av pn hid H' σ' Γ'∧whileF ft gb m Γ'=some fl,fun σ' H' ⟨Γ',G',h'⟩=>⟨m,Nat.lt_succ_self m,Γ',G',h'⟩,H₀,Av,pn,hid,Γ,fl1,⟨ad,G.grow s1⟩,e2,?_⟩
   cases fl1 with
   |nx Γ'=>exact fun σ2 H2 G2=>⟨Γ',G2,hf⟩
   |ct Γ'=>exact fun σ2 H2 G2=>⟨Γ',G2,hf⟩
   |bk Γ'=>cases hf;exact fun σ2 H2 G2=>q σ2 H2 G2
   |rt v=>cases hf;exact q
   |rm v Γ'=>cases hf;exact q⟩
theorem qpfl_lst (h:QFA X es fs):
  QE X (.List es pos) (tFL X.K (fSz fs)):=⟨pe_mono (pe_lst h.o) fun σ H Q hzz=>by
 obtain⟨Av,ρ,d,hA,hE,hf,q⟩:=hzz
 obtain⟨ds,e1,hf⟩:=bind_some hf
 obtain⟨hz,e2⟩:=gd_some hf
 cases e2
 exact⟨Av,ρ,d,hA,hE,e1,fun xs H1 s1 r1=>⟨by rw[r1.length];exact hz,fun p hp=>q H1 p xs s1 hp r1⟩⟩⟩
theorem qpsf_own (i:Nat) {x:Str} {pos':Pos} (hN:X.N.Nodup) (h:QE X e (tFL X.K fs)) (hi0:i≠0:=by decide) (hi:X.N[i]?=some x:=by rfl) (hx:Loc X.env.scope x:=by first|exact .inl rfl|exact .inr rfl) (hs:swapsWith e (some (.Name x pos')) pos.line X.env=pure false:=by rfl) (hf:X.fn x=true∨X.env.scope.names.lookup x=some .local:=by first|exact .inl rfl|exact .inr rfl):
  QSF X (.Assign [.Name x pos'] e pos) (sOwn i fs):=⟨ps_mono (ps_set hN hi hx h.o hs hf) fun D σ H hzz=>by
 obtain⟨H₀,Av,pn,hid,Γ,fl,⟨ad,G⟩,hf,q⟩:=hzz
 obtain⟨ds,e1,hf⟩:=map_some' hf
 subst hf
 exact⟨AvG Av Γ ad,immV Γ,ds,G.avG,G.envI,e1,fun H1 p xs s hp r=>q _ _ ⟨_,(G.grow s).setOwn i hi0 hp r⟩⟩⟩
theorem qpsf_append (i:Nat) {x:Str} {p1 p2 p3:Pos} (h:QF X e f) (hN:X.N[i]?=some x:=by rfl) (hv:Vis X.env.scope x:=by first|exact Or.inl rfl|exact Or.inr (Or.inl rfl)|exact Or.inr (Or.inr rfl)) (hd:(x==("__debug__" : Str))=false:=by decide) (hcd:(x==("__classdict__" : Str))=false:=by decide) (hbase:attributeBase (.Name x p1) "append" X.env (eval (.Name x p1) X.env)=eval (.Name x p1) X.env:=by rfl) (hfew:((backTo p3 (starEach [e] X.env)).all (fun x=>!x.1)&&(backToKw p3 (keywordEach [] X.env)).all (fun x=>x.1.isSome)&&decide (([e]:List Expr).length+([]:List Keyword).length+(if([]:List Keyword).isEmpty then 0 else 1)<30))=true:=by rfl) (hline:(p2.endLine==p3.line)=true:=by rfl) (hs1:starEach [e] X.env=(false,eval e X.env)::starEach [] X.env:=by rfl) (hplain:(backTo p3 (starEach [] X.env)).any (·.1)=false:=by rfl) (hs:swapsWith (.Call (.Attribute (.Name x p1) "append" p2) [e] [] p3) none pos.line X.env=pure false:=by rfl):
  QSF X (.Expr (.Call (.Attribute (.Name x p1) "append" p2) [e] [] p3) pos) (sApp i f):=⟨ps_mono (ps_expr (pe_bm PySem.F.plainAttrs_list PySem.F.slot_list_append PySem.F.type_list_append mt_append (pe_var hN hv hd hcd) (pa_cons h.o pa_nil hs1) hbase hfew hline hs1 hplain) hs) fun D σ H hzz=>by
 obtain⟨H₀,Av,pn,hid,Γ,fl,⟨ad,G⟩,hf,q⟩:=hzz
 unfold sApp at hf
 split at hf
 ·rename_i ds hi
  obtain⟨d,e1,hf⟩:=bind_some hf
  obtain⟨hz,hf⟩:=gd_some hf
  cases hf
  obtain⟨xs,g1,g2,g3,g4⟩:=G.own i ds hi
  refine⟨_,g1,.inl ⟨rfl,xs,.of g2⟩,AvG Av Γ ad,immV Γ,d,G.avG,G.envI,e1,fun v H1 s1 r=>?_⟩
  have G1:=G.grow s1
  obtain⟨xs1,k1,k2,k3,k4⟩:=G1.own i ds hi
  exact⟨_,xs1,v,rfl,rfl,k2,by rw[k3.length];exact hz,q _ _ ⟨ad,G1.change hi (k3.append (.cons r .nil))⟩⟩
 ·cases hf⟩
theorem qdn_of {P:Program} {w:World} {K:Fg} {mg:Str→Option Value} {base:Heap} {x qual:Str} {st:Stmt} {fa:Addr} {fd:FuncData} {N ps:List Str} {k n:Nat} {g:Gam→Option Fl} {F:List Dat→Option Dat} (U:Fun K x qual st fa fd) (hm:mg x=some (.ref fa)) (hB:Binds K fd ps []) (S:FnScope N ps (defScope st)) (hn:ps.length=n) (hbody:∀(cdv:Value) (A:Around) (outer:List Env) (s:Shared) (H:Hp) (E:XK),Room k (A.deeper (envOfC qual (defScope st) s.heap.objs.size fa cdv))→QSFs (cxOf CX0 P w K mg base N qual (defScope st) fa cdv A outer s H E).nox (defBody st) g) (hF:∀ds d,ds.length=n→F ds=some d→runF N g ds=some d):
  Dn P w K mg base (k+1) x ps n F:=
 dn_of (U:=U) (hm:=hm) (hB:=hB) (S:=S) (hn:=hn) (hbody:=(fun a b c d e f g=>(hbody a b c d e f g).o)) (hF:=hF)
end
section
variable {X:Cx} {a b c e:Expr} {es:List Expr} {pos:Pos} {fa fb fc f:Rho→Option Dat} {fs:Rho→Option (List Dat)} {ft:Rho→Option Bool}
theorem qpf_add (ha:QF X a fa) (hb:QF X b fb):
  QF X (.BinOp a .Add b pos) (f2 addD fa fb):=⟨pf_bin (op_add.or op_add_str) (by
 intro H Av x y dx dy d Q hA rx ry h q
 unfold addD at h
 split at h
 ·cases h
  exact .inl ⟨_,_,rx.i_inv,ry.i_inv,q _ H (Same.refl H) (.int _)⟩
 ·split at h
  ·rename_i hz
   cases h
   exact .inr ⟨_,_,rx.s_inv,ry.s_inv,hz,q _ H (Same.refl H) (.str _)⟩
  ·cases h
 ·cases h) ha.o hb.o⟩
theorem qpf_sub (ha:QF X a fa) (hb:QF X b fb):
  QF X (.BinOp a .Sub b pos) (f2 subD fa fb):=⟨pf_bin op_sub' opD_i ha.o hb.o⟩
theorem qpf_mul (ha:QF X a fa) (hb:QF X b fb):
  QF X (.BinOp a .Mult b pos) (f2 mulD fa fb):=⟨pf_bin op_mul' opD_i ha.o hb.o⟩
theorem qpf_fdiv (ha:QF X a fa) (hb:QF X b fb):
  QF X (.BinOp a .FloorDiv b pos) (f2 fdivD fa fb):=⟨pf_bin op_fdiv' opD_i ha.o hb.o⟩
theorem qpf_mod (ha:QF X a fa) (hb:QF X b fb):
  QF X (.BinOp a .Mod b pos) (f2 modD fa fb):=⟨pf_bin op_mod'' opD_i ha.o hb.o⟩
theorem qpf_pow (ha:QF X a fa) (hb:QF X b fb):
  QF X (.BinOp a .Pow b pos) (f2 powD fa fb):=⟨pf_bin op_pow opD_i ha.o hb.o⟩
theorem qpf_shr (ha:QF X a fa) (hb:QF X b fb):
  QF X (.BinOp a .RShift b pos) (f2 shrD fa fb):=⟨pf_bin op_shr' opD_i ha.o hb.o⟩
theorem qpf_lt (ha:QF X a fa) (hb:QF X b fb):
  QF X (.Compare a [.Lt] [b] pos) (f2 ltD fa fb):=⟨pf_cmp op_lt opD_b ha.o hb.o (nomark _)⟩
theorem qpft_lt (ha:QF X a fa) (hb:QF X b fb):
  QFT X (.Compare a [.Lt] [b] pos) (fTest (f2 ltD fa fb)):=⟨pft_cmp op_lt opD_b ha.o hb.o (nomark _)⟩
theorem qpft_le (ha:QF X a fa) (hb:QF X b fb):
  QFT X (.Compare a [.LtE] [b] pos) (fTest (f2 leD fa fb)):=⟨pft_cmp op_le opD_b ha.o hb.o (nomark _)⟩
theorem qpft_gt (ha:QF X a fa) (hb:QF X b fb):
  QFT X (.Compare a [.Gt] [b] pos) (fTest (f2 gtD fa fb)):=⟨pft_cmp op_gt opD_b ha.o hb.o (nomark _)⟩
theorem qpft_ge (ha:QF X a fa) (hb:QF X b fb):
  QFT X (.Compare a [.GtE] [b] pos) (fTest (f2 geD fa fb)):=⟨pft_cmp op_ge opD_b ha.o hb.o (nomark _)⟩
theorem qpf_neg (ha:QF X a fa):
  QF X (.UnaryOp .USub a pos) (f1 negD fa):=⟨pf_un un_neg (by
 intro H Av x dx d Q hA rx h q
 unfold negD at h
 split at h
 ·cases h;exact⟨_,rx.i_inv,q _ H (Same.refl H) (.int _)⟩
 ·cases h) ha.o⟩
theorem qpf_eq {k:Nat} (hr:Room k X.A) (ha:QF X a fa) (hb:QF X b fb):
  QF X (.Compare a [.Eq] [b] pos) (f2 eqD fa fb):=⟨pf_cmp (op_eq.or (op_eqD hr.units)) opD_eq ha.o hb.o (nomark _)⟩
theorem qpft_eq {k:Nat} (hr:Room k X.A) (ha:QF X a fa) (hb:QF X b fb):
  QFT X (.Compare a [.Eq] [b] pos) (fTest (f2 eqD fa fb)):=⟨pft_cmp (op_eq.or (op_eqD hr.units)) opD_eq ha.o hb.o (nomark _)⟩
theorem qpft_ne {k:Nat} (hr:Room k X.A) (ha:QF X a fa) (hb:QF X b fb):
  QFT X (.Compare a [.NotEq] [b] pos) (fTest (f2 neD fa fb)):=⟨pft_cmp (op_ne.or (op_neD hr.units)) opD_ne ha.o hb.o (nomark _)⟩
theorem qpf_abs {p:Pos} (hm:X.mg "abs"=none) (ha:QFA X (e::es) fs) (hg:Gl X "abs":=by rfl) (he:starEach (e::es) X.env=(false,eval e X.env)::starEach es X.env:=by rfl) (hpl:(backTo pos (starEach es X.env)).any (·.1)=false:=by rfl):
  QF X (.Call (.Name "abs" p) (e::es) [] pos) (fCall absD fs):=⟨pf_callB call_abs callD_abs hm ha.o hg (by decide +kernel) (by decide) (by decide) he hpl⟩
theorem qpf_len {p:Pos} (hm:X.mg "len"=none) (ha:QFA X (e::es) fs) (hg:Gl X "len":=by rfl) (he:starEach (e::es) X.env=(false,eval e X.env)::starEach es X.env:=by rfl) (hpl:(backTo pos (starEach es X.env)).any (·.1)=false:=by rfl):
  QF X (.Call (.Name "len" p) (e::es) [] pos) (fCall lenD fs):=⟨pf_callB call_len callD_len hm ha.o hg (by decide +kernel) (by decide) (by decide) he hpl⟩
theorem qpf_strI {p:Pos} (hm:X.mg "str"=none) (ha:QFA X (e::es) fs) (hg:Gl X "str":=by rfl) (he:starEach (e::es) X.env=(false,eval e X.env)::starEach es X.env:=by rfl) (hpl:(backTo pos (starEach es X.env)).any (·.1)=false:=by rfl):
  QF X (.Call (.Name "str" p) (e::es) [] pos) (fCall strD fs):=⟨pf_callTy call_str_int callD_str hm ha.o hg (by decide +kernel) (by decide) (by decide) he hpl⟩
theorem qpf_intC {p:Pos} (hm:X.mg "int"=none) (ha:QFA X (e::es) fs) (hg:Gl X "int":=by rfl) (he:starEach (e::es) X.env=(false,eval e X.env)::starEach es X.env:=by rfl) (hpl:(backTo pos (starEach es X.env)).any (·.1)=false:=by rfl):
  QF X (.Call (.Name "int" p) (e::es) [] pos) (fCall intD fs):=⟨pf_callTy call_int1 callD_int hm ha.o hg (by decide +kernel) (by decide) (by decide) he hpl⟩
theorem qpf_isinst {p p2:Pos} (T:String) {TS:Str} (hm:X.mg "isinstance"=none) (hm2:X.mg TS=none) (ha:QF X a fa) (hv:bootBuiltins TS=some (.type T):=by decide +kernel) (hg:Gl X "isinstance":=by rfl) (hg2:Gl X TS:=by rfl) (hn:TS≠"__name__":=by decide) (hdb:(TS==("__debug__" : Str))=false:=by decide) (he:starEach [a,.Name TS p2] X.env=(false,eval a X.env)::starEach [.Name TS p2] X.env:=by rfl) (he2:starEach [.Name TS p2] X.env=(false,eval (.Name TS p2) X.env)::starEach [] X.env:=by rfl) (hpl:(backTo pos (starEach [.Name TS p2] X.env)).any (·.1)=false:=by rfl):
  QF X (.Call (.Name "isinstance" p) [a,.Name TS p2] [] pos) (f1 (isD T) fa):=⟨pe_mono (pe_callB (call_isinst T) hg hm (by decide +kernel) (pa_cons ha.o (pa_cons (pe_bltn (v:=.ty T) hg2 hm2 hv rfl hn hdb) pa_nil he2) he) (by decide) (by decide) he hpl) fun σ H Q hzz=>by
  obtain⟨Av,ρ,d,hA,hE,hf,q⟩:=hzz
  obtain⟨dx,e1,hf⟩:=bind_some hf
  obtain⟨k,rfl⟩:=isD_bool hf
  exact⟨Av,ρ,dx,hA,hE,e1,fun x H1 s1 r1=>⟨Av,x,dx,k,rfl,r1,hf,q _ H1 s1 (.bl k)⟩⟩⟩
theorem qpf_ix (ha:QF X a fa) (hb:QF X b fb) (hs:PlainIx b:=by exact fun _ _=>rfl):
  QF X (.Subscript a b pos) (f2 ixD fa fb):=⟨pe_mono (pe_ix (ix_list.or ix_tup) ha.o hb.o hs) (tF_op (by
 intro H Av x y dx dy d Q hA rx ry h q
 unfold ixD at h
 split at h
 ·obtain⟨p,xs,rfl,hq,rs⟩:=rx.l_inv
  obtain⟨v,hv,rv⟩:=rs.atI h
  exact .inl ⟨p,xs,_,v,rfl,ry.i_inv,hq.sq,hv,q v H (Same.refl H) rv⟩
 ·obtain⟨p,xs,rfl,hq,rs⟩:=rx.t_inv
  obtain⟨v,hv,rv⟩:=rs.atI h
  exact .inr ⟨p,xs,_,v,rfl,ry.i_inv,hq.sq,hv,q v H (Same.refl H) rv⟩
 ·cases h))⟩
theorem qpfo_none:
  QFO X none oNone:=⟨po_mono po_none fun σ H Q ⟨Av,ρ,o,hA,hE,hf,q⟩=>by cases hf;exact q H (Same.refl H)⟩
theorem qpfo_some (h:QF X e f):
  QFO X (some e) (oSome f):=⟨po_mono (po_some h.o) fun σ H Q hzz=>by
 obtain⟨Av,ρ,o,hA,hE,hf,q⟩:=hzz
 obtain⟨d,e1,hf⟩:=bind_some hf
 obtain⟨i,e2,hf2⟩:=map_some' hf
 subst hf2
 have e3:=asI_some e2
 rw[e3]at e1
 exact⟨Av,ρ,_,hA,hE,e1,fun x H' s r=>⟨i,r.i_inv,q H' s⟩⟩⟩
theorem qpfl_comp {tg iter elt:Expr} {ifs:List Expr} {scope:Scope} {cl:List (Str×Addr)} {N':List Str} {cap:List (Option Nat)} {gt:Dat→Option Asg} {fe fi:Rho→Option Dat} (hc:X.calm=true) (B:Blk X scope cl N' cap) (hi:QF X iter fi) (hg:∀C s₀ H₀ ex,QG (blk X scope cl N' C s₀ H₀ ex) tg (tGF X.K gt)) (ht:∀C s₀ H₀ ex,QTs (blk X scope cl N' C s₀ H₀ ex) ifs (tTF X.K ft)) (he:∀C s₀ H₀ ex,QF (blk X scope cl N' C s₀ H₀ ex) elt fe) (hT:TgOk gt cap) (hs:∀x,foldedSetIterable iter X.env x=pure x:=by intro _;rfl):
  QE X (.ListComp elt [⟨tg,iter,ifs,0⟩] scope pos) (tFL X.K (fComp cap gt ft fe fi)):=⟨pe_mono (pe_comp hc B (pi_seq hi.o) ((fun C s₀ H₀ ex=>(hg C s₀ H₀ ex).o)) ((fun C s₀ H₀ ex=>(ht C s₀ H₀ ex).o)) ((fun C s₀ H₀ ex=>(he C s₀ H₀ ex).o)) hs) (tComp_F hT)⟩
theorem qpf_of_l (h:QE X e (tFL X.K fs)):
  QF X e (fL fs):=⟨pe_mono h.o fun σ H Q hzz=>by
 obtain⟨Av,ρ,d,hA,hE,hf,q⟩:=hzz
 obtain⟨ds,e1,hf⟩:=map_some' hf
 subst hf
 exact⟨Av,ρ,ds,hA,hE,e1,fun H1 p xs s hp r=>q _ _ (s.trans (same_new hp _)) (.newL (hA.same s) hp r)⟩⟩
theorem qptsf_nil:
  QTs X [] (tTF X.K tYesF):=⟨fun pins s σ H Q I ⟨Av,ρ,b,hA,hE,hf,q⟩=>by cases hf;exact pts_nil pins s σ H Q I (q H (Same.refl H))⟩
theorem qptsf_one (h:QFT X c ft):
  QTs X [c] (tTF X.K ft):=⟨pts_one h.o⟩
theorem qpsf_par (i j:Nat) {x y:Str} {px py pt:Pos} {kt k2 pt2} (hc:X.calm=true) (hN:X.N.Nodup) (hij:i≠j) (ha:QFA X [a,b] fs) (hi:X.N[i]?=some x:=by rfl) (hj:X.N[j]?=some y:=by rfl) (hx:X.env.scope.names.lookup x=some .local:=by rfl) (hy:X.env.scope.names.lookup y=some .local:=by rfl) (hw:swappedStores [.Tuple [.Name x px,.Name y py] kt pt] (.Tuple [a,b] k2 pt2) X.env=pure (some [x,y]):=by rfl) (hs:swapsWithSole [.Tuple [.Name x px,.Name y py] kt pt] (.Tuple [a,b] k2 pt2) pos.line X.env=pure false:=by rfl):
  QSF X (.Assign [.Tuple [.Name x px,.Name y py] kt pt] (.Tuple [a,b] k2 pt2) pos) (sPar i j fs):=⟨ps_mono (ps_par hc hN hi hj hij hx hy ha.o hw hs) fun D σ H hzz=>by
 obtain⟨H₀,Av,pn,hid,Γ,fl,⟨ad,G⟩,hf,q⟩:=hzz
 obtain⟨ds,e1,hf⟩:=bind_some hf
 refine⟨AvG Av Γ ad,immV Γ,ds,G.avG,G.envI,e1,fun vs H1 s1 r=>?_⟩
 match ds,hf with
 |[d,d'],hf=>
  cases hf
  obtain⟨v,u,rfl,rv,ru⟩:=r.two_inv
  exact⟨v,u,rfl,q _ _ ⟨ad,((G.grow s1).set i rv).set j (ru.weak AvG.set_imm)⟩⟩⟩
theorem qpf_join {o:Expr} {p2 p3:Pos} (ho:QF X o f) (ha:QFA X [e] fs) (hbase:attributeBase o "join" X.env (eval o X.env)=eval o X.env:=by rfl) (hfew:((backTo p3 (starEach [e] X.env)).all (fun x=>!x.1)&&(backToKw p3 (keywordEach [] X.env)).all (fun x=>x.1.isSome)&&decide (([e]:List Expr).length+([]:List Keyword).length+(if([]:List Keyword).isEmpty then 0 else 1)<30))=true:=by rfl) (hline:(p2.endLine==p3.line)=true:=by rfl) (hs1:starEach [e] X.env=(false,eval e X.env)::starEach [] X.env:=by rfl) (hplain:(backTo p3 (starEach [] X.env)).any (·.1)=false:=by rfl):
  QF X (.Call (.Attribute o "join" p2) [e] [] p3) (fMeth joinD f fs):=⟨pe_mono (pe_bm PySem.F.plainAttrs_str PySem.F.slot_str_join PySem.F.type_str_join mt_join ho.o ha.o hbase hfew hline hs1 hplain) fun σ H Q hzz=>by
  obtain⟨Av,ρ,d,hA,hE,hf,q⟩:=hzz
  obtain⟨dx,e1,hf⟩:=bind_some hf
  obtain⟨ds,e2,hf⟩:=bind_some hf
  unfold joinD at hf
  split at hf
  ·obtain⟨ys,e3,hf⟩:=bind_some hf
   split at hf
   ·rename_i hz
    cases hf
    refine⟨Av,ρ,_,hA,hE,e1,fun x H1 s1 r1=>⟨by rw[r1.s_inv];exact rfl,Av,ρ,_,hA.same s1,hE.same s1,e2,fun xs H2 s2 r2=>?_⟩⟩
    obtain⟨v,rfl,rv⟩:=r2.one_inv
    obtain⟨p,vs,rfl,hq,rs⟩:=rv.l_inv
    exact⟨Av,_,p,vs,_,ys,r1.s_inv,rfl,hq.sq,rs,e3,hz,q _ H2 (s1.trans s2) (.str _)⟩
   ·cases hf
  ·cases hf⟩
end
section
variable {X:Cx} {a b c e:Expr} {pos:Pos} {fa fb fc f:Rho→Option Dat} {fs:Rho→Option (List Dat)}
theorem qpf_in (ha:QF X a fa) (hb:QF X b fb) (hm:behindInMarks .In b=false:=by with_unfolding_all rfl):
  QF X (.Compare a [.In] [b] pos) (f2 inD fa fb):=⟨pf_cmp (op_in_seq.or op_in_str) opD_in ha.o hb.o hm⟩
theorem qpft_in (ha:QF X a fa) (hb:QF X b fb) (hm:behindInMarks .In b=false:=by with_unfolding_all rfl):
  QFT X (.Compare a [.In] [b] pos) (fTest (f2 inD fa fb)):=⟨pft_cmp (op_in_seq.or op_in_str) opD_in ha.o hb.o hm⟩
theorem qpft_notIn (ha:QF X a fa) (hb:QF X b fb) (hm:behindInMarks .NotIn b=false:=by with_unfolding_all rfl):
  QFT X (.Compare a [.NotIn] [b] pos) (fTest (f2 notInD fa fb)):=⟨pft_cmp (op_notIn_seq.or op_notIn_str) opD_notIn ha.o hb.o hm⟩
theorem qpft_notN (ha:QF X a fa) (hb:QF X b fb):
  QFT X (.Compare a [.IsNot] [b] pos) (fTest (f2 notND fa fb)):=⟨pft_cmp op_notN opD_notN ha.o hb.o (nomark _)⟩
theorem qpfl_list {p:Pos} {es:List Expr} (hm:X.mg "list"=none) (ha:QFA X (e::es) fs) (hg:Gl X "list":=by rfl) (he:starEach (e::es) X.env=(false,eval e X.env)::starEach es X.env:=by rfl) (hpl:(backTo pos (starEach es X.env)).any (·.1)=false:=by rfl):
  QE X (.Call (.Name "list" p) (e::es) [] pos) (tFL X.K fun ρ=>(fs ρ).bind listD):=⟨pe_mono (pe_callTy call_list_of hg hm (by decide +kernel) ha.o (by decide) (by decide) he hpl) fun σ H Q hzz=>by
 obtain⟨Av,ρ,ds,hA,hE,hf,q⟩:=hzz
 obtain⟨as,e1,hf⟩:=bind_some hf
 refine⟨Av,ρ,as,hA,hE,e1,fun vs H1 s1 r=>?_⟩
 unfold listD at hf
 split at hf
 ·cases hf
  obtain⟨v,rfl,rv⟩:=r.one_inv
  obtain⟨p,xs,rfl,hq,rs⟩:=rv.l_inv
  exact⟨p,xs,rfl,.inl hq.sq,fun l hl=>q H1 l xs s1 hl rs⟩
 ·cases hf
  obtain⟨v,rfl,rv⟩:=r.one_inv
  obtain⟨p,xs,rfl,hq,rs⟩:=rv.t_inv
  exact⟨p,xs,rfl,.inr hq.sq,fun l hl=>q H1 l xs s1 hl rs⟩
 ·cases hf⟩
theorem qpf_tuple {p:Pos} {es:List Expr} (hm:X.mg "tuple"=none) (ha:QFA X (e::es) fs) (hg:Gl X "tuple":=by rfl) (he:starEach (e::es) X.env=(false,eval e X.env)::starEach es X.env:=by rfl) (hpl:(backTo pos (starEach es X.env)).any (·.1)=false:=by rfl):
  QF X (.Call (.Name "tuple" p) (e::es) [] pos) (fCall tupleD fs):=⟨pf_callTy call_tuple_of callD_tuple hm ha.o hg (by decide +kernel) (by decide) (by decide) he hpl⟩
end
section
variable {X:Cx} {o e:Expr} {f:Rho→Option Dat} {fs:Rho→Option (List Dat)}
theorem qpf_starts {p2 p3:Pos} (ho:QF X o f) (ha:QFA X [e] fs) (hbase:attributeBase o "startswith" X.env (eval o X.env)=eval o X.env:=by rfl) (hfew:((backTo p3 (starEach [e] X.env)).all (fun x=>!x.1)&&(backToKw p3 (keywordEach [] X.env)).all (fun x=>x.1.isSome)&&decide (([e]:List Expr).length+([]:List Keyword).length+(if([]:List Keyword).isEmpty then 0 else 1)<30))=true:=by rfl) (hline:(p2.endLine==p3.line)=true:=by rfl) (hs1:starEach [e] X.env=(false,eval e X.env)::starEach [] X.env:=by rfl) (hplain:(backTo p3 (starEach [] X.env)).any (·.1)=false:=by rfl):
  QF X (.Call (.Attribute o "startswith" p2) [e] [] p3) (fMeth startsD f fs):=⟨pe_mono (pe_bm PySem.F.plainAttrs_str PySem.F.slot_str_startswith PySem.F.type_str_startswith mt_starts ho.o ha.o hbase hfew hline hs1 hplain) fun σ H Q hzz=>by
  obtain⟨Av,ρ,d,hA,hE,hf,q⟩:=hzz
  obtain⟨dx,e1,hf⟩:=bind_some hf
  obtain⟨ds,e2,hf⟩:=bind_some hf
  unfold startsD at hf
  split at hf
  ·cases hf
   refine⟨Av,ρ,_,hA,hE,e1,fun x H1 s1 r1=>⟨by rw[r1.s_inv];exact rfl,Av,ρ,_,hA.same s1,hE.same s1,e2,fun xs H2 s2 r2=>?_⟩⟩
   obtain⟨v,rfl,rv⟩:=r2.one_inv
   exact⟨_,_,r1.s_inv,by rw[rv.s_inv],q _ H2 (s1.trans s2) (.bl _)⟩
  ·cases hf⟩
end
section
variable {X:Cx} {e:Expr} {f:Rho→Option Dat} {pos:Pos}
theorem qpf_sliceS {lo hi:Option Expr} {fl fh:Rho→Option (Option Int)} {p2:Pos} (h:QF X e f) (hl:QFO X lo fl) (hh:QFO X hi fh):
  QF X (.Subscript e (.Slice lo hi none p2) pos) (fSlS f fl fh):=⟨pe_mono (pe_slice sl_str h.o hl.o hh.o) fun σ H Q hzz=>by
 obtain⟨Av,ρ,d,hA,hE,hf,q⟩:=hzz
 obtain⟨dx,e1,hf⟩:=bind_some hf
 obtain⟨l,e2,hf⟩:=bind_some hf
 obtain⟨u,e3,hf⟩:=bind_some hf
 unfold slSD at hf
 split at hf
 ·split at hf
  ·rename_i hz
   cases hf
   refine⟨Av,ρ,_,hA,hE,e1,fun x H1 s1 r1=>⟨Av,ρ,l,hA.same s1,hE.same s1,e2,fun H2 s2=>⟨Av,ρ,u,hA.same (s1.trans s2),hE.same (s1.trans s2),e3,fun H3 s3=>?_⟩⟩⟩
   exact⟨_,r1.s_inv,hz,q _ H3 (s1.trans (s2.trans s3)) (.str _)⟩
  ·cases hf
 ·cases hf⟩
theorem qpf_globI {x:Str} {i:Int} {p:Pos} (hm:∃t,X.mg x=some (.int i t)) (hg:Gl X x:=by rfl) (hd:(x==("__debug__" : Str))=false:=by decide):
  QF X (.Name x p) (fC (.int i)):=⟨by
 obtain⟨t,hm⟩:=hm
 exact pe_mono (pe_glob (v:=.int i) hg hm ⟨t,rfl⟩ hd) fun σ H Q ⟨Av,ρ,d,hA,hE,hf,q⟩=>by cases hf;exact q _ H (Same.refl H) (.int i)⟩
theorem qpf_globS {x y:Str} {p:Pos} (hm:∃t,X.mg x=some (.str y t)) (hg:Gl X x:=by rfl) (hd:(x==("__debug__" : Str))=false:=by decide):
  QF X (.Name x p) (fC (.str y)):=⟨by
 obtain⟨t,hm⟩:=hm
 exact pe_mono (pe_glob (v:=.str y) hg hm ⟨t,rfl⟩ hd) fun σ H Q ⟨Av,ρ,d,hA,hE,hf,q⟩=>by cases hf;exact q _ H (Same.refl H) (.str y)⟩
theorem qpf_globT {x:Str} {a:Addr} {ds:List Dat} {p:Pos} (hm:X.mg x=some (.ref a)) (ht:ModT X.K a ds) (hg:Gl X x:=by rfl) (hd:(x==("__debug__" : Str))=false:=by decide):
  QF X (.Name x p) (fC (.tuple ds)):=⟨by
 obtain⟨xs,o,its,n,h1,h2,h3,h4,h5,h6⟩:=ht
 exact pe_mono (pe_glob (v:=.ref a) hg hm rfl hd) fun σ H Q ⟨Av,ρ,d,hA,hE,hf,q⟩=>by cases hf;exact q _ H (Same.refl H) (.tup (.inr ⟨o,its,n,h1,h2,h3,h4,h5⟩) (h6 H Av))⟩
end
section
variable {X:Cx} {e:Expr} {es:List Expr} {fs:Rho→Option (List Dat)} {f:Rho→Option Dat} {pos:Pos}
theorem qpf_intS {p:Pos} (hm:X.mg "int"=none) (ha:QFA X (e::es) fs) (hg:Gl X "int":=by rfl) (he:starEach (e::es) X.env=(false,eval e X.env)::starEach es X.env:=by rfl) (hpl:(backTo pos (starEach es X.env)).any (·.1)=false:=by rfl):
  QF X (.Call (.Name "int" p) (e::es) [] pos) (fCall intSD fs):=⟨pf_callTy call_intS callD_intS hm ha.o hg (by decide +kernel) (by decide) (by decide) he hpl⟩
theorem qpf_all {p:Pos} (hc:X.calm=true) (hm:X.mg "all"=none) (ha:QFA X (e::es) fs) (hg:Gl X "all":=by rfl) (he:starEach (e::es) X.env=(false,eval e X.env)::starEach es X.env:=by rfl) (hpl:(backTo pos (starEach es X.env)).any (·.1)=false:=by rfl):
  QF X (.Call (.Name "all" p) (e::es) [] pos) (fCall allD fs):=⟨pf_callB (call_allB hc) callD_all hm ha.o hg (by decide +kernel) (by decide) (by decide) he hpl⟩
end
section
variable {X:Cx} {e:Expr} {es:List Expr} {fs:Rho→Option (List Dat)} {f:Rho→Option Dat} {ft:Rho→Option Bool} {pos:Pos}
theorem qpfl_compS {tg iter elt:Expr} {ifs:List Expr} {scope:Scope} {cl:List (Str×Addr)} {N':List Str} {cap:List (Option Nat)} {gt:Dat→Option Asg} {fe fi:Rho→Option Dat} (hc:X.calm=true) (B:Blk X scope cl N' cap) (hi:QF X iter fi) (hg:∀C s₀ H₀ ex,QG (blk X scope cl N' C s₀ H₀ ex) tg (tGF X.K gt)) (ht:∀C s₀ H₀ ex,QTs (blk X scope cl N' C s₀ H₀ ex) ifs (tTF X.K ft)) (he:∀C s₀ H₀ ex,QF (blk X scope cl N' C s₀ H₀ ex) elt fe) (hT:TgOk gt cap) (hs:∀x,foldedSetIterable iter X.env x=pure x:=by intro _;rfl):
  QE X (.ListComp elt [⟨tg,iter,ifs,0⟩] scope pos) (tFL X.K (fCompS cap gt ft fe fi)):=⟨pe_mono (pe_comp hc B (pi_str hi.o) ((fun C s₀ H₀ ex=>(hg C s₀ H₀ ex).o)) ((fun C s₀ H₀ ex=>(ht C s₀ H₀ ex).o)) ((fun C s₀ H₀ ex=>(he C s₀ H₀ ex).o)) hs) (tComp_FS hT)⟩
end
section
variable {X:Cx} {o e:Expr} {f:Rho→Option Dat} {fs:Rho→Option (List Dat)}
theorem qpf_count {p2 p3:Pos} (ho:QF X o f) (ha:QFA X [e] fs) (hbase:attributeBase o "count" X.env (eval o X.env)=eval o X.env:=by rfl) (hfew:((backTo p3 (starEach [e] X.env)).all (fun x=>!x.1)&&(backToKw p3 (keywordEach [] X.env)).all (fun x=>x.1.isSome)&&decide (([e]:List Expr).length+([]:List Keyword).length+(if([]:List Keyword).isEmpty then 0 else 1)<30))=true:=by rfl) (hline:(p2.endLine==p3.line)=true:=by rfl) (hs1:starEach [e] X.env=(false,eval e X.env)::starEach [] X.env:=by rfl) (hplain:(backTo p3 (starEach [] X.env)).any (·.1)=false:=by rfl):
  QF X (.Call (.Attribute o "count" p2) [e] [] p3) (fMeth countD f fs):=⟨pe_mono (pe_bm PySem.F.plainAttrs_list PySem.F.slot_list_count PySem.F.type_list_count mt_count ho.o ha.o hbase hfew hline hs1 hplain) fun σ H Q hzz=>by
  obtain⟨Av,ρ,d,hA,hE,hf,q⟩:=hzz
  obtain⟨dx,e1,hf⟩:=bind_some hf
  obtain⟨ds,e2,hf⟩:=bind_some hf
  unfold countD at hf
  split at hf
  ·split at hf
   ·rename_i hz
    cases hf
    refine⟨Av,ρ,_,hA,hE,e1,fun x H1 s1 r1=>⟨?_,Av,ρ,_,hA.same s1,hE.same s1,e2,fun xs H2 s2 r2=>?_⟩⟩
    ·obtain⟨a,ys,rfl,hq,rs⟩:=r1.l_inv
     exact .inl ⟨rfl,ys,hq.sq⟩
    ·obtain⟨v,rfl,rv⟩:=r2.one_inv
     have r1':=r1.same s2
     obtain⟨a,ys,rfl,hq,rs⟩:=r1'.l_inv
     exact⟨a,ys,v,rfl,rfl,hq.sq,rv.flat hz.1,rs.flat hz.2,by rw[RepDs.countF rv hz.1 rs hz.2];exact q _ H2 (s1.trans s2) (.int _)⟩
   ·cases hf
  ·cases hf⟩
theorem qpf_index {p2 p3:Pos} (ho:QF X o f) (ha:QFA X [e] fs) (hbase:attributeBase o "index" X.env (eval o X.env)=eval o X.env:=by rfl) (hfew:((backTo p3 (starEach [e] X.env)).all (fun x=>!x.1)&&(backToKw p3 (keywordEach [] X.env)).all (fun x=>x.1.isSome)&&decide (([e]:List Expr).length+([]:List Keyword).length+(if([]:List Keyword).isEmpty then 0 else 1)<30))=true:=by rfl) (hline:(p2.endLine==p3.line)=true:=by rfl) (hs1:starEach [e] X.env=(false,eval e X.env)::starEach [] X.env:=by rfl) (hplain:(backTo p3 (starEach [] X.env)).any (·.1)=false:=by rfl):
  QF X (.Call (.Attribute o "index" p2) [e] [] p3) (fMeth indexD f fs):=⟨pe_mono (pe_bm PySem.F.plainAttrs_list PySem.F.slot_list_index PySem.F.type_list_index mt_index ho.o ha.o hbase hfew hline hs1 hplain) fun σ H Q hzz=>by
  obtain⟨Av,ρ,d,hA,hE,hf,q⟩:=hzz
  obtain⟨dx,e1,hf⟩:=bind_some hf
  obtain⟨ds,e2,hf⟩:=bind_some hf
  unfold indexD at hf
  split at hf
  ·split at hf
   ·rename_i hz
    obtain⟨j,ej,hf⟩:=map_some' hf
    subst hf
    rw[List.findIdx?_eq_some_iff_getElem]at ej
    obtain⟨jl,j1,j2⟩:=ej
    refine⟨Av,ρ,_,hA,hE,e1,fun x H1 s1 r1=>⟨?_,Av,ρ,_,hA.same s1,hE.same s1,e2,fun xs H2 s2 r2=>?_⟩⟩
    ·obtain⟨a,ys,rfl,hq,rs⟩:=r1.l_inv
     exact .inl ⟨rfl,ys,hq.sq⟩
    ·obtain⟨v,rfl,rv⟩:=r2.one_inv
     have r1':=r1.same s2
     obtain⟨a,ys,rfl,hq,rs⟩:=r1'.l_inv
     have hl:=rs.length
     obtain⟨d',k1,k2⟩:=RepDs.getF rv hz.1 rs hz.2 j ys[j] (List.getElem?_eq_getElem (by omega))
     refine⟨a,ys,v,j,ys[j]'(by omega),rfl,rfl,hq.sq,rv.flat hz.1,rs.flat hz.2,List.getElem?_eq_getElem (by omega),?_,fun m w hm hw=>?_,q _ H2 (s1.trans s2) (.int _)⟩
     ·rw[k2]
      rw[List.getElem?_eq_getElem jl]at k1
      cases k1;exact j1
     ·obtain⟨d',k1,k2⟩:=RepDs.getF rv hz.1 rs hz.2 m w hw
      rw[k2]
      have ml:=(List.getElem?_eq_some_iff.mp k1)
      obtain⟨ml,em⟩:=ml
      have:=j2 m hm
      rw[em]at this
      simpa using this
   ·cases hf
  ·cases hf⟩
end
section
variable {X:Cx} {a b c e:Expr} {es:List Expr} {pos:Pos} {f:Rho→Option Dat} {ft:Rho→Option Bool} {ha hb h:HF} {hs:Gam→Option (List Dat×Gam)} {ht:Gam→Option (Bool×Gam)} {g1 g2:Gam→Option Fl}
theorem qph_pure (hP:QF X e f):
  QH X e (hPure f):=⟨pe_mono hP.o fun σ H Q hzz=>by
 obtain⟨H₀,Av,pn,hid,Γ,ad,d,Γ',G,hf,q⟩:=hzz
 unfold hPure at hf
 split at hf
 ·rename_i d' e1
  cases hf
  exact⟨AvG Av Γ ad,immV Γ,_,G.avG,G.envI,e1,fun v H' s r=>q v H' ad (G.grow s) r⟩
 ·obtain⟨d',e1,hf⟩:=bind_some hf
  split at hf
  ·rename_i hs
   cases hf
   exact⟨Av,allV Γ,_,G.avt.same G.same,G.envA,e1,fun v H' s r=>q v H' ad (G.grow s) (r.sc hs)⟩
  ·cases hf⟩
theorem qpha_nil:
  QHA X [] hNil:=⟨pa_mono pa_nil fun σ H Q ⟨H₀,Av,pn,hid,Γ,ad,d,Γ',G,hf,q⟩=>by cases hf;exact q _ H ad G .nil⟩
theorem qpha_cons (pa:QH X e h) (pr:QHA X es hs) (hst:starEach (e::es) X.env=(false,eval e X.env)::starEach es X.env:=by rfl):
  QHA X (e::es) (hCons h hs):=⟨pa_mono (pa_cons pa.o pr.o hst) fun σ H Q hzz=>by
 obtain⟨H₀,Av,pn,hid,Γ,ad,d,Γ',G,hf,q⟩:=hzz
 obtain⟨⟨dx,Γ1⟩,e1,hf⟩:=bind_some hf
 obtain⟨⟨ds,Γ2⟩,e2,hf⟩:=map_some' hf
 cases hf
 exact⟨H₀,Av,pn,hid,Γ,ad,dx,Γ1,G,e1,fun x H1 ad1 G1 r1=>⟨H₀,Av,pn,(x,dx)::hid,Γ1,ad1,ds,Γ2,G1.hide r1,e2,fun vs H2 ad2 G2 r2=>q (x::vs) H2 ad2 G2.unhide (.cons (G2.hid (x,dx) List.mem_cons_self) r2)⟩⟩⟩
theorem qph_tup (pa:QHA X es hs) {x1}:
  QH X (.Tuple es x1 pos) (hTup hs):=⟨pe_mono (pe_tup pa.o) fun σ H Q hzz=>by
 obtain⟨H₀,Av,pn,hid,Γ,ad,d,Γ',G,hf,q⟩:=hzz
 obtain⟨⟨ds,Γ1⟩,e1,hf⟩:=bind_some hf
 split at hf
 ·rename_i hz
  cases hf
  exact⟨H₀,Av,pn,hid,Γ,ad,ds,Γ1,G,e1,fun xs H1 ad1 G1 r1=>⟨by rw[r1.length];exact hz,fun p hp=>q _ _ ad1 (G1.grow (same_new hp _)) (.newT G1.avG hp r1)⟩⟩
 ·cases hf⟩
theorem qph_fn {x:Str} {p:Pos} {k n:Nat} {ps:List Str} {F:List Dat→Option Dat} (D:Dn X.prog X.w X.K X.mg X.base k x ps n F) (hr:Room k X.A) (pa:QHA X (e::es) hs) (hg:Gl X x:=by rfl) (hdb:(x==("__debug__" : Str))=false:=by decide) (he:starEach (e::es) X.env=(false,eval e X.env)::starEach es X.env:=by rfl) (hpl:(backTo pos (starEach es X.env)).any (·.1)=false:=by rfl):
  QH X (.Call (.Name x p) (e::es) [] pos) (hFn n F hs):=⟨by
 obtain⟨f,fd,h1,h2,h3,h4⟩:=D.ex
 refine pe_mono (pe_call h1 hr hg h2 h3 h4 .nil pass0 pa.o hdb he hpl) fun σ H Q ⟨H₀,Av,pn,hid,Γ,ad,d,Γ',G,hf,q⟩=>?_
 obtain⟨⟨ds,Γ1⟩,e1,hf⟩:=bind_some hf
 split at hf
 ·rename_i hl
  obtain⟨d',e2,hf⟩:=map_some' hf
  cases hf
  exact⟨H₀,Av,pn,hid,Γ,ad,ds,Γ1,G,e1,fun xs H1 ad1 G1 r1=>⟨_,ds,_,G1.avG,by rw[List.append_nil];exact r1,hl,e2,fun v H2 s2 r2=>q v H2 ad1 (G1.grow s2) r2⟩⟩
 ·cases hf⟩
theorem qpsf_retM (pe:QH X e h):
  QSF X (.Return (some e) pos) (sRetM h):=⟨ps_mono (ps_ret pe.o) fun D σ H hzz=>by
 obtain⟨H₀,Av,pn,hid,Γ,fl,⟨ad,G⟩,hf,q⟩:=hzz
 obtain⟨⟨d,Γ1⟩,e1,hf⟩:=map_some' hf
 subst hf
 exact⟨H₀,Av,pn,hid,Γ,ad,d,Γ1,G,e1,fun v H' ad' G' r=>q σ v H' ad' G' r⟩⟩
theorem qpfl_new {x:Str} {p:Pos} {k n:Nat} {ps:List Str} {F:List Dat→Option (List Dat)} {fs:Rho→Option (List Dat)} (D:DnN X.prog X.w X.K X.mg X.base k x ps n F) (hr:Room k X.A) (pa:QFA X (e::es) fs) (hg:Gl X x:=by rfl) (hdb:(x==("__debug__" : Str))=false:=by decide) (he:starEach (e::es) X.env=(false,eval e X.env)::starEach es X.env:=by rfl) (hpl:(backTo pos (starEach es X.env)).any (·.1)=false:=by rfl):
  QE X (.Call (.Name x p) (e::es) [] pos) (tFL X.K (fNew n F fs)):=⟨by
 obtain⟨f,fd,h1,h2,h3,h4⟩:=D.ex
 refine pe_mono (pe_call h1 hr hg h2 h3 h4 .nil pass0 pa.o hdb he hpl) fun σ H Q ⟨Av,ρ,out,hA,hE,hf,q⟩=>?_
 obtain⟨ds,e1,hf⟩:=bind_some hf
 split at hf
 ·rename_i hl
  exact⟨Av,ρ,ds,hA,hE,e1,fun xs H1 s1 r1=>⟨Av,ds,out,hA.same s1,by rw[List.append_nil];exact r1,hl,hf,fun H2 p xs s2 hp r2=>q H2 p xs (s1.trans s2) hp r2⟩⟩
 ·cases hf⟩
end
section
variable {X:Cx} {tg iter a b c e:Expr} {pos:Pos} {f fa fb:Rho→Option Dat} {fs:Rho→Option (List Dat)} {fi:Rho→Option (List Dat)} {gt:Dat→Option Asg} {gb:Gam→Option Fl}
theorem qpif_seq (h:QF X iter f):
  QIF X tg iter (iSq f):=⟨pi_mono (pi_seq h.o) fun σ H R hzz=>by
 obtain⟨Av,ρ,ds,hA,hE,hf,q⟩:=hzz
 obtain⟨d,e1,hf⟩:=bind_some hf
 refine⟨Av,ρ,d,hA,hE,e1,fun x H1 s1 r=>?_⟩
 cases d with
 |list ds'=>
  cases hf
  obtain⟨a,xs,rfl,hq,rs⟩:=r.l_inv
  exact⟨a,rfl,.inl ⟨⟨xs,hq.sq⟩,q _ [_] [_] H1 s1 (.cons r .nil) over_list.s⟩⟩
 |tuple ds'=>
  cases hf
  obtain⟨a,xs,rfl,hq,rs⟩:=r.t_inv
  exact⟨a,rfl,.inr ⟨⟨xs,hq.sq⟩,q _ [_] [_] H1 s1 (.cons r .nil) over_tup.s⟩⟩
 |_=>cases hf⟩
theorem qpif_range1 {p pos':Pos} (hm:X.mg "range"=none) (ha:QFA X [a] fs) (hgl:Gl X "range":=by rfl) (hst:starEach [a] X.env=[(false,eval a X.env)]:=by rfl):
  QIF X tg (.Call (.Name "range" p) [a] [] pos') (iRng rng1 fs):=⟨pi_mono (pi_range1 hgl hm ha.o hst) fun σ H R hzz=>by
 obtain⟨Av,ρ,ds,hA,hE,hf,q⟩:=hzz
 obtain⟨as,e1,e2⟩:=bind_some hf
 refine⟨Av,ρ,as,hA,hE,e1,fun vs H1 s1 r=>?_⟩
 unfold rng1 at e2
 split at e2
 ·rename_i j
  split at e2
  ·rename_i hj
   cases e2
   obtain⟨v,rfl,rv⟩:=r.one_inv
   rw[rv.i_inv]
   exact⟨j,rfl,hj.1,hj.2,q _ [.non] [.none] H1 s1 (.cons .non .nil) over_range.s⟩
  ·cases e2
 ·cases e2⟩
theorem qpfl_compI {elt:Expr} {ifs:List Expr} {scope:Scope} {cl:List (Str×Addr)} {N':List Str} {cap:List (Option Nat)} {ft:Rho→Option Bool} {fe:Rho→Option Dat} (hc:X.calm=true) (B:Blk X scope cl N' cap) (hi:QIF X tg iter fi) (hg:∀C s₀ H₀ ex,QG (blk X scope cl N' C s₀ H₀ ex) tg (tGF X.K gt)) (ht:∀C s₀ H₀ ex,QTs (blk X scope cl N' C s₀ H₀ ex) ifs (tTF X.K ft)) (he:∀C s₀ H₀ ex,QF (blk X scope cl N' C s₀ H₀ ex) elt fe) (hT:TgOk gt cap) (hs:∀x,foldedSetIterable iter X.env x=pure x:=by intro _;rfl):
  QE X (.ListComp elt [⟨tg,iter,ifs,0⟩] scope pos) (tFL X.K (fCompI cap gt ft fe fi)):=⟨pe_mono (pe_comp hc B hi.o ((fun C s₀ H₀ ex=>(hg C s₀ H₀ ex).o)) ((fun C s₀ H₀ ex=>(ht C s₀ H₀ ex).o)) ((fun C s₀ H₀ ex=>(he C s₀ H₀ ex).o)) hs) (tComp_I hT)⟩
end
theorem qok_of {P:Program} {w:World} {K:Fg} {mg:Str→Option Value} {base:Heap} {x qual:Str} {st:Stmt} {fa:Addr} {fd:FuncData} {N ps:List Str} {k n:Nat} {g:Gam→Option Fl} {F:List Dat→Option Dat}
  (U:Fun K x qual st fa fd) (S:FnScope N ps (defScope st)) (hn:ps.length=n)
  (hbody:∀(cdv:Value) (A:Around) (outer:List Env) (s:Shared) (H:Hp) (E:XK),Room k (A.deeper (envOfC qual (defScope st) s.heap.objs.size fa cdv))→QSFs (cxOf CX0 P w K mg base N qual (defScope st) fa cdv A outer s H E).nox (defBody st) g)
  (hF:∀ds d,ds.length=n→F ds=some d→runF N g ds=some d):FnOk P w K mg base CX0 (k+1) fa fd ps (spF K n F):=by
 have hpl:ps.length≤N.length:=by have:=congrArg List.length S.pre;rw[List.length_take]at this;omega
 refine U.ok S (fun vs H Q E h=>?_) (fun cdv A outer s H vs Q E hr h=>?_)
 ·obtain⟨Av,ds,d,_,r,hl,_⟩:=h
  rw[r.length,hl,hn]
 ·obtain⟨Av,ds,d,hA,r,hl,hd,q⟩:=h
  have hd':=hF ds d hl hd
  unfold runF at hd'
  refine⟨_,(hbody cdv A outer s H E hr).o,?_⟩
  cases hg:g (startG N ds)with
  |none=>rw[hg]at hd';cases hd'
  |some fl=>
   refine⟨H,Av,none,[],startG N ds,fl,ga_start hA r (by omega),hg,?_⟩
   rw[hg]at hd'
   cases fl with
   |nx Γ=>cases hd';exact fun σ' H' ⟨ad,G⟩=>q _ H' G.same .non
   |rt d'=>cases hd';exact fun v H' s r=>q v H' s r
   |bk Γ=>cases hd'
   |ct Γ=>cases hd'
   |rm d' Γ=>cases hd'
open PySem PySem.Spec PyProof.Rows L2
open PySem.W (Dat kqdOk)
section
variable {X:Cx} {a b e:Expr} {pos:Pos} {f fa fb:Rho→Option Dat} {ha hb:HF}
def slU:Dat→Option Int→Option Int→Option Dat
 | .list ds,lo,hi=>some (.list (cutD ds lo hi))
 | .tuple ds,lo,hi=>if ¬(HT.sIx ds.length 0 lo=0∧HT.sIx ds.length ds.length hi=ds.length)then some (.tuple (cutD ds lo hi))else none
 |_,_,_=>none
def fSlU (f:Rho→Option Dat) (fl fh:Rho→Option (Option Int)):Rho→Option Dat:=fun ρ=>(f ρ).bind fun d=>(fl ρ).bind fun l=>(fh ρ).bind fun h=>slU d l h
theorem pf_sliceU {lo hi:Option Expr} {fl fh:Rho→Option (Option Int)} {p2:Pos} (h:PF X e f) (hl:PFO X lo fl) (hh:PFO X hi fh):PF X (.Subscript e (.Slice lo hi none p2) pos) (fSlU f fl fh):=pe_mono (pe_slice (sl_list.or sl_tup) h hl hh) fun σ H Q hzz=>by
 obtain⟨Av,ρ,d,hA,hE,hf,q⟩:=hzz
 obtain⟨dx,e1,hf⟩:=bind_some hf
 obtain⟨l,e2,hf⟩:=bind_some hf
 obtain⟨u,e3,hf⟩:=bind_some hf
 refine⟨Av,ρ,_,hA,hE,e1,fun x H1 s1 r1=>⟨Av,ρ,l,hA.same s1,hE.same s1,e2,fun H2 s2=>⟨Av,ρ,u,hA.same (s1.trans s2),hE.same (s1.trans s2),e3,fun H3 s3=>?_⟩⟩⟩
 have sa:=s1.trans (s2.trans s3)
 unfold slU at hf
 split at hf
 ·cases hf
  obtain⟨a,xs,rfl,hq,rs⟩:=(r1.same (s2.trans s3)).l_inv
  refine .inl ⟨a,xs,rfl,hq.sq,fun p hp=>q _ _ (sa.trans (same_new hp _)) (.newL (hA.same sa) hp ?_)⟩
  unfold cutV cutD
  rw[rs.length]
  exact(rs.drop _).take _
 ·split at hf
  ·rename_i hw
   cases hf
   obtain⟨a,xs,rfl,hq,rs⟩:=(r1.same (s2.trans s3)).t_inv
   refine .inr ⟨a,xs,rfl,hq.sq,by rw[rs.length];exact hw,fun p hp=>q _ _ (sa.trans (same_new hp _)) (.newT (hA.same sa) hp ?_)⟩
   unfold cutV cutD
   rw[rs.length]
   exact(rs.drop _).take _
  ·cases hf
 ·cases hf
theorem qpf_sliceU {lo hi:Option Expr} {fl fh:Rho→Option (Option Int)} {p2:Pos} (h:QF X e f) (hl:QFO X lo fl) (hh:QFO X hi fh):QF X (.Subscript e (.Slice lo hi none p2) pos) (fSlU f fl fh):=⟨pf_sliceU h.o hl.o hh.o⟩
def rCatU (K:Fg):R2:=fun x y H Q=>∃l b xs zs,x=.ref l∧y=.ref b∧SqT K H l xs∧SqT K H b zs∧xs.length+zs.length≤sizeLine∧(xs=[]→Q (.ref b) H)∧(xs≠[]→zs=[]→Q (.ref l) H)∧(xs≠[]→zs≠[]→∀p,H p=none→Q (.ref p) (upd H p (.tup (xs++zs))))
theorem op_catU:OpR X (binaryOp .Add) (rCatU X.K):=by
 intro pins s σ H x y v u Q I rx ry h
 obtain⟨l,b,xs,zs,rfl,rfl,hH,hB,hz,q0,q1,q2⟩:=h
 cases rx
 cases ry
 obtain⟨its,r,p1,_⟩:=I.tuple hH
 obtain⟨its2,r2,p2,_⟩:=I.tuple hB
 obtain⟨⟨cls,dd,data,sl⟩,ho,hc,n,hd⟩:=p1
 obtain⟨⟨cls2,dd2,data2,sl2⟩,ho2,hc2,n2,hd2⟩:=p2
 simp only at hc hd hc2 hd2
 subst hc hd hc2 hd2
 have h1:=r.length
 have h2:=r2.length
 have e:its.toArray++its2.toArray=(its++its2).toArray:=by simp
 have nf:=PySem.noFill_tuple_add
 have sa:=PySem.seq_tuple_add
 by_cases hv:its=[]
 ·have hx:xs=[]:=r.nil_iff.mp hv
  exact concat_meets ⟨_,ho,rfl⟩ ⟨_,ho2,rfl⟩ nf sa F.slot_tuple_add F.entry_tuple_add (F.args_tuple_add_2 _ _) (tuple_addW0 l b its.toArray its2.toArray n n2 dd dd2 sl sl2 (by simp[hv])) ⟨ho,ho2,⟨.ref b,H,I,rfl,q0 hx⟩⟩
 ·have hx:xs≠[]:=fun z=>hv (r.nil_iff.mpr z)
  by_cases hw:its2=[]
  ·have hy:zs=[]:=r2.nil_iff.mp hw
   exact concat_meets ⟨_,ho,rfl⟩ ⟨_,ho2,rfl⟩ nf sa F.slot_tuple_add F.entry_tuple_add (F.args_tuple_add_2 _ _) (tuple_addW1 l b its.toArray its2.toArray n n2 dd dd2 sl sl2 (by simpa using hv) (by simp[hw])) ⟨ho,ho2,⟨.ref l,H,I,rfl,q1 hx hy⟩⟩
  ·have hy:zs≠[]:=fun z=>hw (r2.nil_iff.mpr z)
   refine concat_meets ⟨_,ho,rfl⟩ ⟨_,ho2,rfl⟩ nf sa F.slot_tuple_add F.entry_tuple_add (F.args_tuple_add_2 _ _) (tuple_addW2 l b its.toArray its2.toArray n n2 dd dd2 sl sl2 (by simpa using hv) (by simpa using hw) (by rw[List.size_toArray,List.size_toArray];omega)) ⟨ho,ho2,?_⟩
   rw[e]
   refine⟨.ref s.heap.objs.size,upd H s.heap.objs.size (.tup (xs++zs)),I.laid (t':=s.toks) (fun b u e=>Heap.get?_push_of_some _ e) (Nat.le_refl _) ?_,rfl,q2 hx hy _ I.fresh⟩
   exact⟨by rw[List.length_append];exact hz,_,r.append r2,⟨_,Heap.get?_push_size _ rfl,rfl,_,rfl⟩⟩
def addU:Dat→Dat→Option Dat
 | .list xs,.list ys=>if xs.length+ys.length≤sizeLine then some (.list (xs++ys))else none
 | .tuple xs,.tuple ys=>if xs.length+ys.length≤sizeLine then some (.tuple (xs++ys))else none
 |x,y=>addD x y
theorem opD_addU:OpD X.K (fun x y H Q=>(rCatS X.K x y H Q∨rCatU X.K x y H Q)∨((∃i j,x=.int i∧y=.int j∧Q (.int (i+j)) H)∨∃i j,x=.str i∧y=.str j∧i.length+j.length≤sizeLine∧Q (.str (i++j)) H)) addU:=by
 intro H Av x y dx dy d Q hA rx ry h q
 unfold addU at h
 split at h
 ·split at h
  ·rename_i hz
   cases h
   obtain⟨l,xs,rfl,hq,rs⟩:=rx.l_inv
   obtain⟨m,ys,rfl,hq2,rs2⟩:=ry.l_inv
   exact .inl (.inl ⟨l,m,xs,ys,rfl,rfl,hq.sq,hq2.sq,by rw[rs.length,rs2.length];exact hz,fun p hp=>q _ _ (same_new hp _) (.newL hA hp (rs.append rs2))⟩)
  ·cases h
 ·split at h
  ·rename_i hz
   cases h
   obtain⟨l,xs,rfl,hq,rs⟩:=rx.t_inv
   obtain⟨m,ys,rfl,hq2,rs2⟩:=ry.t_inv
   refine .inl (.inr ⟨l,m,xs,ys,rfl,rfl,hq.sq,hq2.sq,by rw[rs.length,rs2.length];exact hz,fun e=>?_,fun _ e=>?_,fun _ _ p hp=>q _ _ (same_new hp _) (.newT hA hp (rs.append rs2))⟩)
   ·subst e
    cases rs
    exact q _ H (Same.refl H) (.tup hq2 rs2)
   ·subst e
    cases rs2
    rw[List.append_nil]at q
    exact q _ H (Same.refl H) (.tup hq rs)
  ·cases h
 ·unfold addD at h
  split at h
  ·cases h
   exact .inr (.inl ⟨_,_,rx.i_inv,ry.i_inv,q _ H (Same.refl H) (.int _)⟩)
  ·split at h
   ·rename_i hz
    cases h
    exact .inr (.inr ⟨_,_,rx.s_inv,ry.s_inv,hz,q _ H (Same.refl H) (.str _)⟩)
   ·cases h
  ·cases h
theorem qpf_addU (pa:QF X a fa) (pb:QF X b fb):QF X (.BinOp a .Add b pos) (f2 addU fa fb):=⟨pf_bin ((op_catS.or op_catU).or (op_add.or op_add_str)) opD_addU pa.o pb.o⟩
theorem qpf_isN (pa:QF X a fa) (pb:QF X b fb):QF X (.Compare a [.Is] [b] pos) (f2 isND fa fb):=⟨pf_cmp op_isN opD_isN pa.o pb.o (nomark _)⟩
end
open PySem PySem.Spec PyProof.Rows L2
open PySem.W (Dat kqdOk)
section
variable {X:Cx} {e a b:Expr} {pos:Pos} {f fb:Rho→Option Dat} {fs gs:Rho→Option (List Dat)}
def noL:Nat→Dat→Bool
 |0,_=>false
 |n+1,d=>match d with
  | .list _=>false
  | .tuple ds=>ds.all (noL n)
  | .none=>true
  | .bool _=>true
  | .int _=>true
  | .str _=>true
  |_=>false
theorem RepD.apart {K:Fg} {H₀ H H':Hp} {Av:AvP} {pn:Option Addr} {hid:Hid} {σ:L2.St} {Γ:Gam} {ad:Nat→Addr} (G:GA K H₀ Av pn hid H σ Γ ad) (s:Same H H'):∀(n:Nat) {v:V} {d:Dat},noL n d=true→RepD K H' Av v d→RepD K H' (AvG Av Γ ad) v d
 |0,v,d,h,_=>by cases h
 |n+1,v,d,h,r=>by
  cases r with
  |non=>exact .non
  |bl b=>exact .bl b
  |int i=>exact .int i
  |str x=>exact .str x
  | @tup a xs ds hq rs=>
   have hall:ds.all (noL n)=true:=h
   have rs':RepDs K H' (AvG Av Γ ad) xs ds:=by
    clear hq h
    induction xs generalizing ds with
    |nil=>cases rs;exact .nil
    |cons x xs ih=>
     cases rs with
     |cons r1 r2=>
      rw[List.all_cons,Bool.and_eq_true]at hall
      exact .cons (RepD.apart G s n hall.1 r1) (ih r2 hall.2)
   refine .tup ?_ rs'
   rcases hq with⟨h1,h2⟩|h1
   ·refine .inl ⟨h1,?_⟩
    rintro(z|⟨i,sl,ei,mi,z⟩)
    ·exact h2 z
    ·cases sl with
     |imm d=>cases mi
     |own es=>
      obtain⟨ys,_,hl,_⟩:=G.own i es ei
      have hl':=s _ _ hl
      rw[z]at hl'
      rcases h1 with h1|⟨o,h1⟩
      ·rw[h1]at hl';cases hl'
      ·rw[h1]at hl';cases hl'
     |obj O es=>
      obtain⟨ys,_,hl,_⟩:=G.obj i O es ei
      have hl':=s _ _ hl
      rw[z]at hl'
      rcases h1 with h1|⟨o,h1⟩
      ·rw[h1]at hl';cases hl'
      ·rw[h1]at hl';cases hl'
     |brw a' xs' es=>
      obtain⟨f',_,hl,_⟩:=G.brw i a' xs' es ei
      have hl':=s _ _ hl
      rw[← f',z]at hl'
      rcases h1 with h1|⟨o,h1⟩
      ·rw[h1]at hl';cases hl'
      ·rw[h1]at hl';cases hl'
   ·exact .inr h1
  |lst _ _=>cases h
def sSetN (i:Nat) (f:Rho→Option Dat):Gam→Option Fl:=fun Γ=>(f (allV Γ)).bind fun d=>if noL 9 d=true then some (.nx (Γ.set i (some (.imm d))))else none
theorem psf_setN (i:Nat) {x:Str} {pos':Pos} (hN:X.N.Nodup) (h:PF X e f) (hi:X.N[i]?=some x:=by rfl) (hx:Loc X.env.scope x:=by first|exact .inl rfl|exact .inr rfl) (hs:swapsWith e (some (.Name x pos')) pos.line X.env=pure false:=by rfl) (hf:X.fn x=true∨X.env.scope.names.lookup x=some .local:=by first|exact .inl rfl|exact .inr rfl):
  PSF X (.Assign [.Name x pos'] e pos) (sSetN i f):=ps_mono (ps_set hN hi hx h hs hf) fun D σ H hzz=>by
 obtain⟨H₀,Av,pn,hid,Γ,fl,⟨ad,G⟩,hf,q⟩:=hzz
 obtain⟨d,e1,hf⟩:=bind_some hf
 split at hf
 ·rename_i hn
  cases hf
  exact⟨Av,allV Γ,d,G.avt.same G.same,G.envA,e1,fun v H' s r=>q _ _ ⟨ad,(G.grow s).set i (RepD.apart G s 9 hn r)⟩⟩
 ·cases hf
theorem qpsf_setN (i:Nat) {x:Str} {pos':Pos} (hN:X.N.Nodup) (h:QF X e f) (hi:X.N[i]?=some x:=by rfl) (hx:Loc X.env.scope x:=by first|exact .inl rfl|exact .inr rfl) (hs:swapsWith e (some (.Name x pos')) pos.line X.env=pure false:=by rfl) (hf:X.fn x=true∨X.env.scope.names.lookup x=some .local:=by first|exact .inl rfl|exact .inr rfl):
  QSF X (.Assign [.Name x pos'] e pos) (sSetN i f):=⟨psf_setN i hN h.o hi hx hs hf⟩
end
open PySem PySem.Spec PyProof.Rows L2
open PySem.W (Dat kqdOk kqdP kqdPs kqd_lay)
abbrev RK:=Str×List Int
def rowD (k:RK):Dat:=.tuple [.str k.1,.tuple (k.2.map .int)]
open PySem PySem.Spec PyProof.Rows L2
open PySem.W (Dat kqdOk)
structure FnAt (K:Fg) (mg:Str→Option Value) (x:Str) (st:Stmt) (ps:List Str):Prop where
 ex:∃f fd,Fun K x x st f fd∧mg x=some (.ref f)∧Binds K fd ps []
section
variable {P:Program} {w:World} {K:Fg} {mg:Str→Option Value} {base:Heap} {x:Str} {st:Stmt} {ps:List Str} {k n:Nat}
theorem fnat {h:Heap} {f:Addr} {oc:Value} {od an:Option Addr} {osl:Array (Option Value)} {kV doc pm cdv ct:Value} (X:K.In h) (G:h.Ns mainGlobals mg) (a:PySem.W.nsIn K mainGlobals x=some (some (.ref f))) (l:K.lookup f=some ⟨oc,od,.func (PySem.W.fnOf x x (defArgs st) (defBody st) (defScope st) .none kV doc pm an cdv ct),osl⟩)
  (c:PySem.W.codeIn K cdv x=true) (k:PySem.W.keepIn K (.ref f)=true) (b:∀(kV doc pm:Value) (an:Option Addr) (cdv ct:Value) (us:List Value),us.length=ps.length→bindArgs (PySem.W.fnOf x x (defArgs st) (defBody st) (defScope st) .none kV doc pm an cdv ct) ⟨us,[]⟩=pure (ps.zip us)):FnAt K mg x st ps:=
 ⟨⟨_,_,fun_mk l c k,PySem.W.mg_of X G a,(fun_mk l c k).binds b⟩⟩
theorem qdnA (N:List Str) (U:FnAt K mg x st ps) {g:Gam→Option Fl} (hbody:N.Nodup→∀(fa:Addr) (cdv:Value) (A:Around) (outer:List Env) (s:Shared) (H:Hp) (E:XK),Room k (A.deeper (envOfC x (defScope st) s.heap.objs.size fa cdv))→QSFs (cxOf CX0 P w K mg base N x (defScope st) fa cdv A outer s H E).nox (defBody st) g)
  (S:FnScope N ps (defScope st):=by exact⟨rfl,rfl,rfl,by decide +kernel,rfl,by decide +kernel,by decide +kernel⟩) (hn:ps.length=n:=by rfl):Dn P w K mg base (k+1) x ps n (runF N g):=by
 obtain⟨f,fd,U,hm,hB⟩:=U.ex
 exact qdn_of U hm hB S hn (hbody S.nd f) fun _ _ _ h=>h
end
structure TC (K:Fg) (mg:Str→Option Value) (x:Str) (ds:List Dat) (a:Addr):Prop where
 mg:mg x=some (.ref a)
 tup:ModT K a ds
theorem tc_mk {K:Fg} {mg:Str→Option Value} {h:Heap} {x:Str} {a:Addr} {o:Option Addr} {n:Nat} {sl:Array (Option Value)} {i j:Int} {t u:Tok} (X:K.In h) (G:h.Ns mainGlobals mg) (e:PySem.W.nsIn K mainGlobals x=some (some (.ref a))) (l:K.lookup a=some ⟨.type "tuple",o,.seq #[.int i t,.int j u] n,sl⟩):∃a,TC K mg x [.int i,.int j] a:=
 ⟨a,PySem.W.mg_of X G e,⟨[.int i,.int j],_,_,_,l,rfl,rfl,Nat.le_of_lt (small1000 (by show 2≤1000;decide)),.cons ⟨_,rfl⟩ (.cons ⟨_,rfl⟩ .nil),fun H Av=>RepDs.ints [i,j]⟩⟩
open PySem PySem.Spec PyProof.Rows L2
open PySem.W (Dat kqdOk)
section
variable {X:Cx} {e:Expr} {es:List Expr} {t:TA} {name:Str} {apos cpos:Pos} {T id:String} {r:V→List V→Hp→VK→Prop}
def replD (y z:Str):Dat→Option Dat
 | .str x=>if x.length+(x.length+1)*z.length≤16777216 then some (.str (Txt.replace x y z))else none
 |_=>none
end
open PySem PySem.Spec PyProof.Rows L2
open PySem.W (Dat kqdOk)
section
variable {X:Cx} {a b:Expr} {pos:Pos} {fa fb:Rho→Option Dat}
def ixSD:Dat→Dat→Option Dat
 | .str z,.int i=>if 0≤i∧i<1000 then(z.cps[i.toNat]?).map fun c=>.str ⟨#[c]⟩else none
 |_,_=>none
theorem pf_ixS (ha:PF X a fa) (hb:PF X b fb) (hs:PlainIxT b:=by exact fun _ _=>rfl):PF X (.Subscript a b pos) (f2 ixSD fa fb):=pe_mono (pe_item_str ha hb hs) (tF_op (by
 intro H Av x y dx dy d Q hA rx ry h q
 unfold ixSD at h
 split at h
 ·rename_i z i
  split at h
  ·rename_i hi
   obtain⟨c,hc,rfl⟩:=map_some' h
   have hx:x=.str z:=by cases rx;rfl
   have hlt:i.toNat<z.cps.size:=(Array.getElem?_eq_some_iff.mp hc).1
   refine⟨z,i,c,hx,ry.i_inv,hi.1,by omega,?_,hc,q _ H (Same.refl H) (.str _)⟩
   show i<(z.cps.size:Int)
   omega
  ·cases h
 ·cases h))
theorem qpf_ixS (ha:QF X a fa) (hb:QF X b fb) (hs:PlainIxT b:=by exact fun _ _=>rfl):QF X (.Subscript a b pos) (f2 ixSD fa fb):=⟨pf_ixS ha.o hb.o hs⟩
variable {rest:List Expr}
end
end L3
namespace Fr
theorem gcd_fmod (a b:Int) (hb:0<b):Int.gcd b (a.fmod b)=Int.gcd a b:=by
 rw[Int.fmod_eq_emod_of_nonneg a (Int.le_of_lt hb)]
 apply Nat.dvd_antisymm
 ·apply Int.dvd_gcd
  ·have h1:=Int.gcd_dvd_left b (a % b)
   have h2:=Int.gcd_dvd_right b (a % b)
   have e:a=a % b+b*(a/b):=(Int.emod_add_mul_ediv a b).symm
   have h3:(↑(b.gcd (a % b)):Int)∣a % b+b*(a/b):=Int.dvd_add h2 (Int.dvd_mul_of_dvd_left h1)
   rw[← e]at h3
   exact h3
  ·exact Int.gcd_dvd_left b (a % b)
 ·apply Int.dvd_gcd
  ·exact Int.gcd_dvd_right a b
  ·have h1:=Int.gcd_dvd_left a b
   have h2:=Int.gcd_dvd_right a b
   have e:a % b=a-b*(a/b):=by have:=Int.emod_add_mul_ediv a b;omega
   rw[e]
   exact Int.dvd_sub h1 (Int.dvd_mul_of_dvd_left h2)
def dv (n d:Int):Int:=if d<0 then -(Int.gcd n d:Int)else(Int.gcd n d:Int)
def num (n d:Int):Int:=n.fdiv (dv n d)
def den (n d:Int):Int:=d.fdiv (dv n d)
theorem gcd_pos {n d:Int} (h:d≠0):0<Int.gcd n d:=Nat.pos_of_ne_zero fun e=>h (by
 have:=Int.gcd_dvd_right n d
 rw[e]at this
 exact Int.zero_dvd.mp this)
theorem dv_dl (n d:Int):dv n d∣n:=by
 unfold dv
 split
 ·exact Int.neg_dvd.mpr (Int.gcd_dvd_left n d)
 ·exact Int.gcd_dvd_left n d
theorem dv_dr (n d:Int):dv n d∣d:=by
 unfold dv
 split
 ·exact Int.neg_dvd.mpr (Int.gcd_dvd_right n d)
 ·exact Int.gcd_dvd_right n d
theorem num_mul (n d:Int):num n d*dv n d=n:=by
 unfold num
 rw[Int.fdiv_eq_ediv_of_dvd (dv_dl n d)]
 exact Int.ediv_mul_cancel (dv_dl n d)
theorem den_mul (n d:Int):den n d*dv n d=d:=by
 unfold den
 rw[Int.fdiv_eq_ediv_of_dvd (dv_dr n d)]
 exact Int.ediv_mul_cancel (dv_dr n d)
theorem den_pos {n d:Int} (h:d≠0):0<den n d:=by
 have e:=den_mul n d
 have g:=gcd_pos (n:=n) h
 by_cases hd:d<0
 ·have e2:dv n d=-(Int.gcd n d:Int):=by unfold dv;exact if_pos hd
  have hneg:dv n d<0:=by omega
  rcases Int.lt_trichotomy (den n d) 0 with q|q|q
  ·have:=Int.mul_pos_of_neg_of_neg q hneg;omega
  ·rw[q]at e;simp at e;omega
  ·exact q
 ·have e2:dv n d=(Int.gcd n d:Int):=by unfold dv;exact if_neg hd
  have hpos:0<dv n d:=by omega
  rcases Int.lt_trichotomy (den n d) 0 with q|q|q
  ·have:=Int.mul_neg_of_neg_of_pos q hpos;omega
  ·rw[q]at e;simp at e;omega
  ·exact q
theorem dv_abs (n d:Int):(dv n d).natAbs=Int.gcd n d:=by
 unfold dv
 split<;>simp
theorem cop {n d:Int} (h:d≠0):Int.gcd (num n d) (den n d)=1:=by
 unfold num den
 rw[Int.fdiv_eq_ediv_of_dvd (dv_dl n d),Int.fdiv_eq_ediv_of_dvd (dv_dr n d),Int.gcd_ediv (dv_dl n d) (dv_dr n d),dv_abs]
 exact Nat.div_self (gcd_pos h)
theorem cross (n d:Int):num n d*d=den n d*n:=by
 have e1:=num_mul n d
 have e2:=den_mul n d
 calc num n d*d=num n d*(den n d*dv n d):=by rw[e2]
  _=den n d*(num n d*dv n d):=by rw[Int.mul_left_comm]
  _=den n d*n:=by rw[e1]
theorem uniq {p q n d:Int} (hd:d≠0) (hq:0<q) (hc:Int.gcd p q=1) (h:p*d=q*n):num n d=p∧den n d=q:=by
 have hx:=cross n d
 have hk:=cop (n:=n) hd
 have hdp:=den_pos (n:=n) hd

 have key:p*den n d=q*num n d:=by
  have a1:(p*den n d)*d=(q*num n d)*d:=by
   calc (p*den n d)*d=(p*d)*den n d:=by rw[Int.mul_right_comm]
    _=(q*n)*den n d:=by rw[h]
    _=q*(den n d*n):=by rw[Int.mul_assoc,Int.mul_comm n]
    _=q*(num n d*d):=by rw[hx]
    _=(q*num n d)*d:=by rw[Int.mul_assoc]
  exact Int.eq_of_mul_eq_mul_right hd a1
 have n1:q.natAbs∣(den n d).natAbs:=by
  have z:q.natAbs∣p.natAbs*(den n d).natAbs:=by
   rw[← Int.natAbs_mul,key,Int.natAbs_mul]
   exact Nat.dvd_mul_right _ _
  have c:Nat.Coprime q.natAbs p.natAbs:=by
   show Nat.gcd q.natAbs p.natAbs=1
   rw[Nat.gcd_comm];exact hc
  exact c.dvd_of_dvd_mul_left z
 have n2:(den n d).natAbs∣q.natAbs:=by
  have z:(den n d).natAbs∣q.natAbs*(num n d).natAbs:=by
   rw[← Int.natAbs_mul,← key,Int.natAbs_mul]
   exact Nat.dvd_mul_left _ _
  have c:Nat.Coprime (den n d).natAbs (num n d).natAbs:=by
   show Nat.gcd (den n d).natAbs (num n d).natAbs=1
   rw[Nat.gcd_comm];exact hk
  exact c.dvd_of_dvd_mul_right z
 have e1:den n d=q:=by
  have:=Nat.dvd_antisymm n1 n2
  omega
 refine⟨?_,e1⟩
 rw[e1]at key
 have:q*p=q*num n d:=by rw[Int.mul_comm q p];exact key
 exact(Int.eq_of_mul_eq_mul_left (Int.ne_of_gt hq) this).symm
theorem self {p q:Int} (hq:0<q) (hc:Int.gcd p q=1):num p q=p∧den p q=q:=uniq (Int.ne_of_gt hq) hq hc (Int.mul_comm p q)
theorem turned {n d:Int} (h:d≠0):num (0-n) (0-d)=num n d∧den (0-n) (0-d)=den n d:=by
 refine uniq (by omega) (den_pos h) (cop h) ?_
 have:=cross n d
 rw[Int.mul_sub,Int.mul_sub,this,Int.mul_zero,Int.mul_zero]
theorem abs_le_num {n d:Int} (h:d≠0):(num n d).natAbs≤n.natAbs:=by
 have e:=congrArg Int.natAbs (num_mul n d)
 rw[Int.natAbs_mul]at e
 have:1≤(dv n d).natAbs:=by rw[dv_abs];exact gcd_pos h
 calc (num n d).natAbs=(num n d).natAbs*1:=(Nat.mul_one _).symm
  _≤(num n d).natAbs*(dv n d).natAbs:=Nat.mul_le_mul_left _ this
  _=n.natAbs:=e
theorem abs_le_den {n d:Int} (h:d≠0):(den n d).natAbs≤d.natAbs:=by
 have e:=congrArg Int.natAbs (den_mul n d)
 rw[Int.natAbs_mul]at e
 have:1≤(dv n d).natAbs:=by rw[dv_abs];exact gcd_pos h
 calc (den n d).natAbs=(den n d).natAbs*1:=(Nat.mul_one _).symm
  _≤(den n d).natAbs*(dv n d).natAbs:=Nat.mul_le_mul_left _ this
  _=d.natAbs:=e
end Fr
namespace Fr
def nd:List (Int×Int)→Int×Int
 |[]=>(0,1)
 |x::l=>(x.1*(nd l).2+(nd l).1*x.2,x.2*(nd l).2)
theorem congr {n d n' d':Int} (h:d≠0) (h':d'≠0) (e:n*d'=n'*d):num n d=num n' d'∧den n d=den n' d':=by
 have c:=cross n' d'
 refine uniq h (den_pos h') (cop h') ?_

 have:(num n' d'*d)*d'=(den n' d'*n)*d':=by
  calc (num n' d'*d)*d'=(num n' d'*d')*d:=by grind
   _=(den n' d'*n')*d:=by rw[c]
   _=den n' d'*(n'*d):=by grind
   _=den n' d'*(n*d'):=by rw[e]
   _=(den n' d'*n)*d':=by grind
 exact Int.eq_of_mul_eq_mul_right h' this
end Fr
namespace Tx
open PySem PySem.StrLaws PySem.Builtin.Str
abbrev tl (x:Str):List Nat:=x.cps.toList
theorem tl_app (a b:Str):tl (a++b)=tl a++tl b:=by
 show(a++b).cps.toList=_
 rw[Str.cps_append,Array.toList_append]
theorem tl_inj {a b:Str} (h:tl a=tl b):a=b:=Str.ext' (Array.toList_inj.mp h)
abbrev yPM:Str:=⟨#[43,45]⟩
abbrev zM:Str:=⟨#[45]⟩
structure Wd where
 neg:Bool
 word:Str
abbrev cP:Str:=⟨#[43]⟩
def term (w:Wd):Str:=if w.neg=true then zM++w.word else w.word
def stp (text:Str) (w:Wd):Str:=if w.neg=true then text++zM++w.word else if text=⟨#[]⟩then w.word else text++cP++w.word
end Tx
namespace L3
open PySem PySem.Spec PyProof.Rows L2
open PySem.W (Dat kqdOk)
noncomputable section
variable {K:Fg} {H₀ H H':Hp} {Av:AvP} {pn:Option Addr} {hid:Hid} {σ:L2.St} {Γ:Gam} {ad:Nat→Addr}
theorem GA.frz (G:GA K H₀ Av pn hid H σ Γ ad) {i:Nat} {ds:List Dat} (hi:Γ[i]?=some (some (.own ds))):GA K H₀ Av pn hid H σ (Γ.set i (some (.imm (.list ds)))) ad:=by
 obtain⟨xs,a1,a2,a3,a4⟩:=G.own i ds hi
 have na:¬AvG Av (Γ.set i (some (.imm (.list ds)))) ad (ad i):=by
  rintro(z|⟨j,s,e,m,r⟩)
  ·obtain⟨o,ho⟩:=G.avt _ z
   rw[a4]at ho;cases ho
  ·rcases set_get e with⟨_,q⟩|⟨ne,q⟩
   ·cases q;cases m
   ·exact ne (G.inj j i s (.own ds) q hi m rfl r)
 refine⟨G.same,G.avt,by rw[List.length_set];exact G.len,fun j d' h=>?_,fun j ds' h=>?_,fun j k s t h1 h2 m1 m2 e=>?_,fun p hp=>(G.hid p hp).weak AvG.set_imm,fun a ds' e h=>?_,fun j O ds' h=>?_,fun j a' zs ds' h=>?_⟩
 ·rcases set_get h with⟨e,q⟩|⟨e,q⟩
  ·subst e
   cases q
   exact⟨_,a1,.lst (.inl ⟨.inl a2,na⟩) (a3.weak AvG.set_imm)⟩
  ·obtain⟨u,a,b⟩:=G.imm j d' q
   exact⟨u,a,b.weak AvG.set_imm⟩
 ·rcases set_get h with⟨e,q⟩|⟨e,q⟩
  ·cases q
  ·obtain⟨xs,a,b,c,e'⟩:=G.own j ds' q
   exact⟨xs,a,b,c.weak AvG.set_imm,e'⟩
 ·rcases set_get h1 with⟨_,q⟩|⟨_,q1⟩
  ·cases q;cases m1
  rcases set_get h2 with⟨_,q⟩|⟨_,q2⟩
  ·cases q;cases m2
  exact G.inj j k s t q1 q2 m1 m2 e
 ·rcases set_get h with⟨_,q⟩|⟨_,q⟩
  ·cases q
  ·exact G.pin a ds' e q
 ·rcases set_get h with⟨_,q⟩|⟨_,q⟩
  ·cases q
  ·obtain⟨xs,a,b,c,e'⟩:=G.obj j O ds' q
   exact⟨xs,a,b,c.weak AvG.set_imm,e'⟩
 ·rcases set_get h with⟨_,q⟩|⟨_,q⟩
  ·cases q
  ·obtain⟨f,a,b,c,e'⟩:=G.brw j a' zs ds' q
   exact⟨f,a,b,c.weak AvG.set_imm,e'⟩
variable {X:Cx} {e:Expr} {pos:Pos} {h:HF}
def frzG (i:Nat) (Γ:Gam):Gam:=match Γ[i]? with
 |some (some (.own ds))=>Γ.set i (some (.imm (.list ds)))
 |_=>Γ
theorem GA.frzG (G:GA K H₀ Av pn hid H σ Γ ad) (i:Nat):GA K H₀ Av pn hid H σ (L3.frzG i Γ) ad:=by
 unfold L3.frzG
 split
 ·rename_i ds hi;exact G.frz hi
 ·exact G
end
open PySem PySem.Spec PyProof.Rows L2
open PySem.W (Dat kqdOk)
structure W3 (X:Cx) (pins:List (Addr×Obj)) (σ:L2.St) (H:Hp) (s:Shared) (T J S:Addr) (oT oJ oS:Obj):Prop where
 inv:Inv X pins σ H s
 t:s.heap.get? T=some oT
 j:s.heap.get? J=some oJ
 s:s.heap.get? S=some oS
 ft:FpOk X pins H T
 fj:FpOk X pins H J
 fs:FpOk X pins H S
 nt:∀v,oT.data≠.cell v
 nj:∀v,oJ.data≠.cell v
 ns:∀v,oS.data≠.cell v
open PySem PySem.Spec PyProof.Rows L2
open PySem.W (Dat kqdOk)
section
variable {X:Cx} {a b e:Expr} {pos:Pos} {fa fb:Rho→Option Dat} {fs:Rho→Option (List Dat)}
theorem RepDs.apart {K:Fg} {H₀ H H':Hp} {Av:AvP} {pn:Option Addr} {hid:Hid} {σ:L2.St} {Γ:Gam} {ad:Nat→Addr} (G:GA K H₀ Av pn hid H σ Γ ad) (s:Same H H') (n:Nat):∀{vs:List V} {ds:List Dat},ds.all (noL n)=true→RepDs K H' Av vs ds→RepDs K H' (AvG Av Γ ad) vs ds
 |_,_,_,.nil=>.nil
 |_,_,h,.cons r t=>by
  rw[List.all_cons,Bool.and_eq_true]at h
  exact .cons (RepD.apart G s n h.1 r) (RepDs.apart G s n h.2 t)
def sOwnN (i:Nat) (f:Rho→Option (List Dat)):Gam→Option Fl:=fun Γ=>(f (allV Γ)).bind fun ds=>if ds.all (noL 9)=true then some (.nx (Γ.set i (some (.own ds))))else none
theorem psf_ownN (i:Nat) {x:Str} {pos':Pos} (hN:X.N.Nodup) (h:PE X e (tFL X.K fs)) (hi0:i≠0:=by decide) (hi:X.N[i]?=some x:=by rfl) (hx:Loc X.env.scope x:=by first|exact .inl rfl|exact .inr rfl) (hs:swapsWith e (some (.Name x pos')) pos.line X.env=pure false:=by rfl) (hf:X.fn x=true∨X.env.scope.names.lookup x=some .local:=by first|exact .inl rfl|exact .inr rfl):
  PSF X (.Assign [.Name x pos'] e pos) (sOwnN i fs):=ps_mono (ps_set hN hi hx h hs hf) fun D σ H hzz=>by
 obtain⟨H₀,Av,pn,hid,Γ,fl,⟨ad,G⟩,hf,q⟩:=hzz
 obtain⟨ds,e1,hf⟩:=bind_some hf
 split at hf
 ·rename_i hn
  cases hf
  exact⟨Av,allV Γ,ds,G.avt.same G.same,G.envA,e1,fun H1 p xs s hp r=>q _ _ ⟨_,(G.grow s).setOwn i hi0 hp (RepDs.apart G s 9 hn r)⟩⟩
 ·cases hf
theorem qpsf_ownN (i:Nat) {x:Str} {pos':Pos} (hN:X.N.Nodup) (h:QE X e (tFL X.K fs)) (hi0:i≠0:=by decide) (hi:X.N[i]?=some x:=by rfl) (hx:Loc X.env.scope x:=by first|exact .inl rfl|exact .inr rfl) (hs:swapsWith e (some (.Name x pos')) pos.line X.env=pure false:=by rfl) (hf:X.fn x=true∨X.env.scope.names.lookup x=some .local:=by first|exact .inl rfl|exact .inr rfl):
  QSF X (.Assign [.Name x pos'] e pos) (sOwnN i fs):=⟨psf_ownN i hN h.o hi0 hi hx hs hf⟩
end
section
variable {X:Cx} {e:Expr} {pos:Pos} {h:HF}
def frzs (is:List Nat) (Γ:Gam):Gam:=is.foldl (fun Γ i=>frzG i Γ) Γ
theorem GA.frzs {K:Fg} {H₀ H:Hp} {Av:AvP} {pn:Option Addr} {hid:Hid} {σ:L2.St} {ad:Nat→Addr}:∀(is:List Nat) {Γ:Gam},GA K H₀ Av pn hid H σ Γ ad→GA K H₀ Av pn hid H σ (L3.frzs is Γ) ad
 |[],_,G=>G
 |i::is,_,G=>GA.frzs is (G.frzG i)
end
open PySem PySem.Spec PyProof.Rows L2
open PySem.W (Dat kqdOk kqdP kqdPs kqd_lay kqd_eqv)
section
variable {X:Cx} {a b:Expr} {pos:Pos} {fa fb:Rho→Option Dat}
mutual
theorem RepD.readsA {pins:List (Addr×Obj)} {σ:L2.St} {H:Hp} {s:Shared} {Av:AvP} (I:Inv X pins σ H s):∀{v:V} {d:Dat},RepD X.K H Av v d→∀u,RelV v u→∃as,Reads s.heap u (kqdP d) as
 |_,_,.non,u,r=>by cases(show u=Value.none from r);rw[kqdP];exact⟨_,.none⟩
 |_,_,.bl b,u,r=>by cases(show u=Value.bool b from r);rw[kqdP];exact⟨_,.bool b⟩
 |_,_,.int i,u,r=>by obtain⟨t,q⟩:=(show ∃t,u=Value.int i t from r);subst q;rw[kqdP];exact⟨_,.int i t⟩
 |_,_,.str x,u,r=>by obtain⟨t,q⟩:=(show ∃t,u=Value.str x t from r);subst q;rw[kqdP];exact⟨_,.str x t⟩
 |_,_,.tup (a:=a) hq rs,u,r=>by
  cases(show u=Value.ref a from r)
  obtain⟨its,rv,⟨o,h1,h2,m,h3⟩,_⟩:=I.tuple hq.sq
  obtain⟨as,q⟩:=RepDs.readsA I rs its rv
  rw[kqdP]
  exact⟨as,.tuple h1 h2 h3 (by simpa using q)⟩
 |_,_,.lst (a:=a) hq rs,u,r=>by
  cases(show u=Value.ref a from r)
  obtain⟨its,rv,⟨o,m,h1,h2,_,h3⟩,_⟩:=I.list hq.sq
  obtain⟨as,q⟩:=RepDs.readsA I rs its rv
  rw[kqdP]
  exact⟨_,.list h1 h2 h3 (by simpa using q)⟩
theorem RepDs.readsA {pins:List (Addr×Obj)} {σ:L2.St} {H:Hp} {s:Shared} {Av:AvP} (I:Inv X pins σ H s):∀{vs:List V} {ds:List Dat},RepDs X.K H Av vs ds→∀us,Vals vs us→∃as,ReadsAll s.heap us (kqdPs ds) as
 |_,_,.nil,us,r=>by cases r;rw[kqdPs];exact⟨_,.nil⟩
 |_,_,.cons h t,us,r=>by
  cases r with
  |cons r1 r2=>
   obtain⟨as,q⟩:=RepD.readsA I h _ r1
   obtain⟨bs,p⟩:=RepDs.readsA I t _ r2
   rw[kqdPs]
   exact⟨_,.cons q p⟩
end
def eqX (x y:Dat):Option Bool:=if SeqAt.shaped (kqdP x)=true∧SeqAt.shaped (kqdP y)=true then some (PyData.eqv (kqdP x) (kqdP y))else none
def eqXD (x y:Dat):Option Dat:=(eqX x y).map .bool
theorem eqX_inv {x y:Dat} {k:Bool} (h:eqX x y=some k):SeqAt.shaped (kqdP x)=true∧SeqAt.shaped (kqdP y)=true∧k=PyData.eqv (kqdP x) (kqdP y):=by
 unfold eqX at h
 split at h
 ·rename_i c;cases h;exact⟨c.1,c.2,rfl⟩
 ·cases h
theorem eqX_kqd {x y:Dat} (h1:kqdOk 9 x=true) (h2:kqdOk 9 y=true):eqX x y=some (decD x y):=by
 unfold eqX
 rw[if_pos ⟨shaped_of x h1,shaped_of y h2⟩,eqv_dec x y h1 h2]
def rEqX (K:Fg):R2:=fun x y H Q=>∃Av d e k,RepD K H Av x d∧RepD K H Av y e∧eqX d e=some k∧Q (.bl k) H
theorem op_eqX (hu:X.A.units+64<cLine):OpR X (compareOp .Eq) (rEqX X.K):=by
 intro pins s σ H x y v u Q I rx ry h
 obtain⟨Av,d,e,k,r1,r2,hk,q⟩:=h
 obtain⟨k1,k2,rfl⟩:=eqX_inv hk
 obtain⟨as,ra⟩:=r1.readsA I v rx
 obtain⟨bs,rb⟩:=r2.readsA I u ry
 exact eq_dataH ra rb k1 k2 hu ⟨.bl _,H,I,rfl,q⟩
theorem opD_eqX {K:Fg}:OpD K (rEqX K) eqXD:=by
 intro H Av x y dx dy d Q hA rx ry h q
 obtain⟨k,e1,rfl⟩:=map_some' h
 exact⟨Av,dx,dy,k,rx,ry,e1,q _ H (Same.refl H) (.bl _)⟩
theorem qpft_eqX {k:Nat} (hr:Room k X.A) (ha:QF X a fa) (hb:QF X b fb):QFT X (.Compare a [.Eq] [b] pos) (fTest (f2 eqXD fa fb)):=⟨pft_cmp (op_eqX hr.units) opD_eqX ha.o hb.o (nomark _)⟩
end
open PySem PySem.Spec PyProof.Rows L2
open PySem.W (Dat kqdOk)
section
variable {prog:Program} {w:World} {A:Around} {E:Value→Shared→Prop}
theorem drawL {it l:Addr} {its:Array Value} (ne:l≠it):∀(n i:Nat) (s:Shared) (Q:List Value→Shared→Prop),s.heap.IsListIter it l i→s.heap.IsList l its→i+n≤its.size→(∀h',h'.IsListIter it l (i+n)→Heap.SameBut it s.heap h'→Q ((its.toList.drop i).take n) {s with heap:=h'})→wpAny (model prog w) A (draw (.ref it) n) Q E s
 |0,i,s,Q,st,_,_,q=>by
  show wpAny _ _ (pure []) Q E s
  refine wpAny_pure ?_
  have:=q s.heap st (Heap.SameBut.refl ..)
  rwa[List.take_zero]at this
 |n+1,i,s,Q,st,hl,hn,q=>by
  have hi:i<its.size:=by omega
  have hd:its.toList.drop i=its[i]::its.toList.drop (i+1):=by rw[List.drop_eq_getElem_cons (by simpa using hi)];simp
  show wpAny _ _ (pyNext (.ref it) >>= _) Q E s
  refine wpAny_bind (wpAny_pyNext_list_item st hl (x:=its[i]) (by simp[hi]) fun h1 st1 s1=>?_)
  refine wpAny_bind (wpAny_holding (drawL ne n (i+1) _ _ st1 (hl.extBut s1.extBut ne) (by omega) fun h2 st2 s2=>?_))
  refine wpAny_pure ?_
  have:=q h2 (by rw[Nat.add_comm n 1,← Nat.add_assoc];exact st2) (s1.trans s2)
  rwa[hd,List.take_succ_cons]at this
theorem unpL {s:Shared} {l:Addr} {its:Array Value} {ts:List (Bool×(Value→Sem Unit))} {Q:Unit→Shared→Prop} (hh:A.handled=none) (hl:s.heap.IsList l its) (hn:ts.length=its.size) (hst:ts.findIdx? (·.1)=none)
  (h:∀h',Heap.ExtBut s.heap.objs.size s.heap h'→wpAny (model prog w) A (assignInOrder (ts.map (·.2)) its.toList) Q E {s with heap:=h'}):wpAny (model prog w) A (unpack (.ref l) ts) Q E s:=by
 have ne:l≠s.heap.objs.size:=by obtain⟨o,e,_⟩:=hl;exact Nat.ne_of_lt (Heap.lt_size e)
 unfold unpack
 rw[hn,hst]
 refine wpAny_bind (wpAny_holding ?_)
 unfold unpackItems notIterableAtAll
 refine wpAny_bind (wpAny_bind (wpAny_specialOf hl.typeIs slot_list_iter.lookup (wpAny_pure ?_)))
 simp only[Bool.false_eq_true,if_false]
 refine wpAny_bind (wpAny_holding (wpAny_pyIter_list hl ?_))
 refine wpAny_bind (wpAny_holding (drawL ne its.size 0 _ _ ⟨_,Heap.get?_push_size _ rfl,rfl,rfl⟩ (hl.push _) (by omega) fun h1 st1 s1=>?_))
 have ea:(its.toList.drop 0).take its.size=its.toList:=by rw[List.drop_zero,List.take_of_length_le (by simp)]
 rw[ea,if_neg (by simp)]
 refine wpAny_bind (wpAny_holding (wpAny_pyNext_list_end hh st1 ((hl.push _).extBut s1.extBut ne) (by simp) fun h2 e2=>?_))
 simp only[Option.isSome_none,Bool.false_eq_true,if_false]
 exact wpAny_pure (h h2 fun b o hb e=>e2 b o hb (s1.extBut b o hb (Heap.get?_push_of_some _ e)))
end
section
variable {X:Cx} {e:Expr} {es:List Expr} {pos:Pos}
def gLst (K:PySem.W.Frag) (n:Nat) (t:TGs):TG:=fun v σ H Q=>∃a xs,v=.ref a∧SqL K H a xs∧xs.length=n∧t xs σ H Q
theorem pg_lst {k:Nat} {t:TGs} {n:Nat} (hc:X.calm=true) (h:PGs X es t) (hn:(assignEach es X.env).length=n:=by rfl) (hst:(assignEach es X.env).findIdx? (·.1)=none:=by rfl):PG X (.Tuple es k pos) (gLst X.K n t):=by
 intro pins s σ H v u Q I r hw
 obtain⟨a,xs,e1,hq,hl,hw⟩:=hw
 subst e1
 cases r
 obtain⟨its,rv,p,hz⟩:=I.list hq
 rw[assign_Tuple]
 refine wpAny_bind (wpAny_standAt (unpL (I.ok.hd hc) p.isList (by simp[hn,← hl,rv.length]) hst fun h' hx=>?_))
 have I1:Inv X pins σ H {s with heap:=h'}:=I.kept (t':=s.toks) fun b o e=>hx b o (Nat.ne_of_lt (Heap.lt_size e)) e
 exact h pins _ σ H xs _ Q I1 (by simpa using rv) hw
theorem pg_or {tg:Expr} {t t':TG} (h:PG X tg t) (h':PG X tg t'):PG X tg (fun v σ H Q=>t v σ H Q∨t' v σ H Q):=fun pins s σ H v u Q I r q=>q.elim (h pins s σ H v u Q I r) (h' pins s σ H v u Q I r)
def aSq (n:Nat) (gs:List Dat→Option Asg):Dat→Option Asg:=fun d=>match d with
 | .tuple ds=>if ds.length=n then gs ds else none
 | .list ds=>if ds.length=n then gs ds else none
 |_=>none
theorem pgf_sq {tgs:List Expr} {k:Nat} {gts:List Dat→Option Asg} {n:Nat} (hc:X.calm=true) (h:PGs X tgs (tGFs X.K gts)) (hn:(assignEach tgs X.env).length=n:=by rfl) (hst:(assignEach tgs X.env).findIdx? (·.1)=none:=by rfl):
  PG X (.Tuple tgs k pos) (tGF X.K (aSq n gts)):=pg_mono (pg_or (pg_tup hc h hn hst) (pg_lst hc h hn hst)) fun v σ H Q hzz=>by
 obtain⟨Av,d,as,r,e,q⟩:=hzz
 unfold aSq at e
 split at e
 ·split at e
  ·rename_i ds hl
   obtain⟨a,xs,rfl,hq,rs⟩:=r.t_inv
   exact .inl ⟨a,xs,rfl,hq.sq,by rw[rs.length];exact hl,Av,ds,as,rs,e,q⟩
  ·cases e
 ·split at e
  ·rename_i ds hl
   obtain⟨a,xs,rfl,hq,rs⟩:=r.l_inv
   exact .inr ⟨a,xs,rfl,hq.sq,by rw[rs.length];exact hl,Av,ds,as,rs,e,q⟩
  ·cases e
 ·cases e
theorem qpgf_sq {tgs:List Expr} {k:Nat} {gts:List Dat→Option Asg} {n:Nat} (hc:X.calm=true) (h:QGs X tgs (tGFs X.K gts)) (hn:(assignEach tgs X.env).length=n:=by rfl) (hst:(assignEach tgs X.env).findIdx? (·.1)=none:=by rfl):QG X (.Tuple tgs k pos) (tGF X.K (aSq n gts)):=⟨pgf_sq hc h.o hn hst⟩
theorem qpsf_frz (is:List Nat) {st:Stmt} {g:Gam→Option Fl} (h:QSF X st g):QSF X st (fun Γ=>g (frzs is Γ)):=⟨ps_mono h.o fun D σ H ⟨H₀,Av,pn,hid,Γ,fl,⟨ad,G⟩,hf,q⟩=>⟨H₀,Av,pn,hid,frzs is Γ,fl,⟨ad,G.frzs is⟩,hf,q⟩⟩
def sAppH (i:Nat) (h:HF):Gam→Option Fl:=fun Γ=>match Γ[i]? with
 |some (some (.own _))=>(h Γ).bind fun p=>match p.2[i]? with
  |some (some (.own ds))=>gd (ds.length<sizeLine) (some (.nx (p.2.set i (some (.own (ds++[p.1]))))))
  |_=>none
 |_=>none
theorem GA.ad_eq {K:Fg} {H₀ H H₀' H':Hp} {Av Av':AvP} {pn pn':Option Addr} {hid hid':Hid} {σ:L2.St} {Γ Γ':Gam} {ad ad':Nat→Addr} (G:GA K H₀ Av pn hid H σ Γ ad) (G':GA K H₀' Av' pn' hid' H' σ Γ' ad') {i:Nat} {ds ds':List Dat} (h:Γ[i]?=some (some (.own ds))) (h':Γ'[i]?=some (some (.own ds'))):ad i=ad' i:=by
 obtain⟨_,g1,_⟩:=G.own i ds h
 obtain⟨_,k1,_⟩:=G'.own i ds' h'
 rw[g1]at k1
 injection k1 with k1;injection k1 with k1;injection k1
theorem qpsf_appH (i:Nat) {x:Str} {p1 p2 p3:Pos} {h:HF} (pe:QH X e h) (hN:X.N[i]?=some x:=by rfl) (hv:Vis X.env.scope x:=by first|exact Or.inl rfl|exact Or.inr (Or.inl rfl)|exact Or.inr (Or.inr rfl)) (hd:(x==("__debug__" : Str))=false:=by decide)
  (hcd:(x==("__classdict__" : Str))=false:=by decide) (hbase:attributeBase (.Name x p1) "append" X.env (eval (.Name x p1) X.env)=eval (.Name x p1) X.env:=by rfl)
  (hfew:((backTo p3 (starEach [e] X.env)).all (fun x=>!x.1)&&(backToKw p3 (keywordEach [] X.env)).all (fun x=>x.1.isSome)&&decide (([e]:List Expr).length+([]:List Keyword).length+(if([]:List Keyword).isEmpty then 0 else 1)<30))=true:=by rfl)
  (hline:(p2.endLine==p3.line)=true:=by rfl) (hs1:starEach [e] X.env=(false,eval e X.env)::starEach [] X.env:=by rfl) (hplain:(backTo p3 (starEach [] X.env)).any (·.1)=false:=by rfl)
  (hs:swapsWith (.Call (.Attribute (.Name x p1) "append" p2) [e] [] p3) none pos.line X.env=pure false:=by rfl):QSF X (.Expr (.Call (.Attribute (.Name x p1) "append" p2) [e] [] p3) pos) (sAppH i h):=
 ⟨ps_mono (ps_expr (pe_bm PySem.F.plainAttrs_list PySem.F.slot_list_append PySem.F.type_list_append mt_append (pe_var hN hv hd hcd) (pa_cons pe.o pa_nil hs1) hbase hfew hline hs1 hplain) hs) fun D σ H hzz=>by
 obtain⟨H₀,Av,pn,hid,Γ,fl,⟨ad,G⟩,hf,q⟩:=hzz
 unfold sAppH at hf
 split at hf
 ·rename_i ds0 hi0
  obtain⟨⟨d,Γ1⟩,e1,hf⟩:=bind_some hf
  dsimp only at hf
  split at hf
  ·rename_i ds hi
   obtain⟨hz,hf⟩:=gd_some hf
   cases hf
   obtain⟨xs,g1,g2,g3,g4⟩:=G.own i ds0 hi0
   refine⟨_,g1,.inl ⟨rfl,xs,.of g2⟩,H₀,Av,pn,hid,Γ,ad,d,Γ1,G,e1,fun v H1 ad1 G1 r=>?_⟩
   obtain⟨xs1,k1,k2,k3,k4⟩:=G1.own i ds hi
   exact⟨_,xs1,v,by rw[G.ad_eq G1 hi0 hi],rfl,k2,by rw[k3.length];exact hz,q _ _ ⟨ad1,G1.change hi (k3.append (.cons r .nil))⟩⟩
  ·cases hf
 ·cases hf⟩
end
open PySem PySem.Spec PyProof.Rows L2
open PySem.W (Dat kqdOk)
theorem compIa_ok {cap:List (Option Nat)} {gt:Dat→Option Asg} {ft:Rho→Option Bool} {fe:Rho→Option Dat} {fi:Rho→Option (List Dat)} {ρ:Rho} {ds out:List Dat} (h:fi ρ=some ds) (hl:ds.length<sizeLine) (hc:compL gt ft fe (capR cap ρ) ds=some out):fCompI cap gt ft fe fi ρ=some out:=by
 unfold fCompI
 rw[h,Option.bind_some,if_pos hl];exact hc
theorem compF_ok {cap:List (Option Nat)} {gt:Dat→Option Asg} {ft:Rho→Option Bool} {fe:Rho→Option Dat} {fi:Rho→Option Dat} {ρ:Rho} {d:Dat} {ds out:List Dat} (h:fi ρ=some d) (h2:itemsD d=some ds) (hl:ds.length<sizeLine) (hc:compL gt ft fe (capR cap ρ) ds=some out):fComp cap gt ft fe fi ρ=some out:=by
 unfold fComp
 rw[h,Option.bind_some,h2,Option.bind_some,if_pos hl];exact hc
theorem ixN_nat {n k:Nat} (h:k<n):ixN n (k:Int)=some k:=by
 unfold ixN
 rw[if_pos (by omega),if_pos (by omega)];rfl
theorem ix_list {ds:List Dat} {k:Nat} {d:Dat} (h:ds[k]?=some d):ixD (.list ds) (.int (k:Int))=some d:=by
 show atI ds (k:Int)=_
 unfold atI
 rw[ixN_nat (get_lt h),Option.bind_some];exact h
theorem sl_to {ds:List Dat} {m:Nat}:slU (.list ds) none (some (m:Int))=some (.list (ds.take m)):=by
 show some (Dat.list (cutD ds none (some (m:Int))))=_
 unfold cutD
 rw[HT.sIx_nat,HT.sIx_none,List.drop_zero,Nat.sub_zero]
 by_cases h:m≤ds.length
 ·rw[Nat.min_eq_left h]
 ·rw[Nat.min_eq_right (by omega),List.take_of_length_le (Nat.le_refl _),List.take_of_length_le (by omega)]
theorem sl_from {ds:List Dat} {m:Nat}:slU (.list ds) (some (m:Int)) none=some (.list (ds.drop m)):=by
 show some (Dat.list (cutD ds (some (m:Int)) none))=_
 unfold cutD
 rw[HT.sIx_nat,HT.sIx_none]
 by_cases h:m≤ds.length
 ·rw[Nat.min_eq_left h,List.take_of_length_le (by rw[List.length_drop];exact Nat.le_refl _)]
 ·rw[Nat.min_eq_right (by omega),List.drop_eq_nil_of_le (Nat.le_refl _),List.drop_eq_nil_of_le (by omega),List.take_nil]
theorem tup3_ok {fa fb fc:Rho→Option Dat} {ρ:Rho} {x y z:Dat} (h1:fa ρ=some x) (h2:fb ρ=some y) (h3:fc ρ=some z):fTup (fCons fa (fCons fb (fCons fc fNil))) ρ=some (.tuple [x,y,z]):=by
 unfold fTup fCons
 rw[h1,h2,h3]
 show(if 3≤sizeLine then _ else none)=_
 rw[if_pos (Nat.le_of_lt (small1000 (by decide)))];rfl
theorem call1_ok {g:List Dat→Option Dat} {f:Rho→Option Dat} {ρ:Rho} {d e:Dat} (h:f ρ=some d) (h2:g [d]=some e):fCall g (fCons f fNil) ρ=some e:=by
 unfold fCall fCons
 rw[h];exact h2
theorem fn2a_ok {F:List Dat→Option Dat} {fa fb:Rho→Option Dat} {ρ:Rho} {x y d:Dat} (h1:fa ρ=some x) (h2:fb ρ=some y) (h:F [x,y]=some d):fFn 2 F (fCons fa (fCons fb fNil)) ρ=some d:=by
 unfold fFn fCons
 rw[h1,h2]
 show(if 2=2 then F [x,y]else none)=_
 rw[if_pos rfl,h]
theorem fL_ok {f:Rho→Option (List Dat)} {ρ:Rho} {ds:List Dat} (h:f ρ=some ds):fL f ρ=some (.list ds):=by
 unfold fL
 rw[h];rfl
theorem appH_ok {i:Nat} {h:HF} {Γ Γ1:Gam} {d:Dat} {ds0 ds:List Dat} (h0:Γ[i]?=some (some (.own ds0))) (e:h Γ=some (d,Γ1)) (h1:Γ1[i]?=some (some (.own ds))) (hz:ds.length<sizeLine):sAppH i h Γ=some (.nx (Γ1.set i (some (.own (ds++[d]))))):=by
 unfold sAppH
 rw[h0]
 show(h Γ).bind _=_
 rw[e,Option.bind_some]
 show(match Γ1[i]? with|some (some (.own ds))=>_|_=>_)=_
 rw[h1]
 show gd (ds.length<sizeLine) _=_
 unfold gd
 rw[if_pos hz]
theorem asg_ok {gt:Dat→Option Asg} {f:Rho→Option Dat} {Γ:Gam} {d:Dat} {as:Asg} (h:f (immV Γ)=some d) (h2:gt d=some as):sAsg gt f Γ=some (.nx (setG Γ as)):=by
 unfold sAsg
 rw[h,Option.bind_some,h2];rfl
theorem test2_ok {g:Dat→Dat→Option Dat} {fa fb:Rho→Option Dat} {ρ:Rho} {x y:Dat} {b:Bool} (h1:fa ρ=some x) (h2:fb ρ=some y) (h:g x y=some (.bool b)):fTest (f2 g fa fb) ρ=some b:=by
 unfold fTest f2
 rw[h1,Option.bind_some,h2,Option.bind_some,h];rfl
theorem addU_list {xs ys:List Dat} (h:xs.length+ys.length≤sizeLine):addU (.list xs) (.list ys)=some (.list (xs++ys)):=if_pos h
theorem forL_inv {gt:Dat→Option Asg} {gb:Gam→Option Fl} {β:Type} {enc:β→Dat} (I:List β→Gam→Prop) (step:∀x l Γ,I (x::l) Γ→∃as,gt (enc x)=some as∧∃Γ',gb (setG Γ as)=some (.nx Γ')∧I l Γ'):∀(l:List β) (Γ:Gam),I l Γ→∃Γ',forL gt gb (l.map enc) Γ=some (.nx Γ')∧I [] Γ'
 |[],Γ,h=>⟨Γ,rfl,h⟩
 |x::l,Γ,h=>by
  obtain⟨as,e1,Γ1,e2,h1⟩:=step x l Γ h
  obtain⟨Γ2,e3,h2⟩:=forL_inv I step l Γ1 h1
  refine⟨Γ2,?_,h2⟩
  show(gt (enc x)).bind _=_
  rw[e1]
  show(gb (setG Γ as)).bind _=_
  rw[e2];exact e3
theorem seqRt_ok {g1 g2:Gam→Option Fl} {Γ:Gam} {d:Dat} (h:g1 Γ=some (.rt d)):sSeq g1 g2 Γ=some (.rt d):=by
 unfold sSeq
 rw[h];rfl
theorem seq_rm {g1 g2:Gam→Option Fl} {Γ Γ':Gam} {d:Dat} (h:g1 Γ=some (.rm d Γ')):sSeq g1 g2 Γ=some (.rm d Γ'):=by
 unfold sSeq
 rw[h];rfl
open PySem PySem.Spec PyProof.Rows L2
open PySem.W (Dat kqdOk)
theorem tk_in {α:Type} {M:Model} {A:Around} {s:Shared} {t:Sem α} {Q:α→Shared→Prop} {E:Value→Shared→Prop} {n:Nat} (h:n≤s.toks) (hw:wpAny M A t (fun a s'=>n≤s'.toks→Q a s') E s):wpAny M A t Q E s:=
 wpAny_mono (wpAny_toks_of h hw) (fun _ _ z=>z.2 z.1) fun _ _ z=>z.2
def PE1 (X:Cx) (e:Expr) (t:TE):Prop:=∀(pins:List (Addr×Obj)) (s:Shared) (σ:L2.St) (H:Hp) (Q:VK),Inv X pins σ H s→1≤s.toks→t σ H Q→wpAny (model X.prog X.w) X.A (eval e X.env) (EP X pins σ Q) X.xe s
def PA1 (X:Cx) (es:List Expr) (t:TA):Prop:=∀(pos:Pos) (pins:List (Addr×Obj)) (s:Shared) (σ:L2.St) (H:Hp) (Q:List V→Hp→Prop),Inv X pins σ H s→1≤s.toks→t σ H Q→wpAny (model X.prog X.w) X.A (spliced (backTo pos (starEach es X.env))) (AP X pins σ Q) X.xe s
def PS1 (X:Cx) (st:Stmt) (t:TS):Prop:=∀(pins:List (Addr×Obj)) (s:Shared) (σ:L2.St) (H:Hp) (D:Ends),Inv X pins σ H s→1≤s.toks→t D σ H→wpAny (model X.prog X.w) X.A (exec st X.env) (SP X pins D) X.xe s
def PSs1 (X:Cx) (st:List Stmt) (t:TS):Prop:=∀(pins:List (Addr×Obj)) (s:Shared) (σ:L2.St) (H:Hp) (D:Ends),Inv X pins σ H s→1≤s.toks→t D σ H→wpAny (model X.prog X.w) X.A (execs st X.env) (SP X pins D) X.xe s
section
variable {X:Cx} {e a b c o:Expr} {es:List Expr} {st:Stmt} {rest:List Stmt} {te ta tb to:TE} {t u:TS} {tl:TA} {pos:Pos}
theorem pa1_of (h:PA X es tl):PA1 X es tl:=fun pos pins s σ H Q I _ q=>h pos pins s σ H Q I q
theorem ps1_of (h:PS X st t):PS1 X st t:=fun pins s σ H D I _ q=>h pins s σ H D I q
theorem pss1_of (h:PSs X rest t):PSs1 X rest t:=fun pins s σ H D I _ q=>h pins s σ H D I q
theorem pe1_mono (h:PE1 X e te) (k:∀σ H Q,ta σ H Q→te σ H Q):PE1 X e ta:=fun pins s σ H Q I ht q=>h pins s σ H Q I ht (k _ _ _ q)
theorem pa1_mono {tl':TA} (h:PA1 X es tl) (k:∀σ H Q,tl' σ H Q→tl σ H Q):PA1 X es tl':=fun pos pins s σ H Q I ht q=>h pos pins s σ H Q I ht (k _ _ _ q)
theorem ps1_mono (h:PS1 X st t) (k:∀D σ H,u D σ H→t D σ H):PS1 X st u:=fun pins s σ H D I ht q=>h pins s σ H D I ht (k _ _ _ q)
theorem pss1_mono (h:PSs1 X rest t) (k:∀D σ H,u D σ H→t D σ H):PSs1 X rest u:=fun pins s σ H D I ht q=>h pins s σ H D I ht (k _ _ _ q)
theorem pss1_cons (h1:PS1 X st t) (h2:PSs1 X rest u):PSs1 X (st::rest) (tSeq t u):=by
 intro pins s σ H D I ht h
 refine wpAny_execs_cons (tk_in ht (thn (h1 pins s σ H {D with nx:=u D} I ht h) fun f s1 q ht1=>?_))
 cases f with
 |next=>
  obtain⟨σ',H',I',q⟩:=q
  exact h2 pins s1 σ' H' D I' ht1 q
 |ret v=>exact q
 |brk=>exact q
 |cont=>exact q
theorem pss1_one (h1:PS1 X st t):PSs1 X [st] t:=by
 intro pins s σ H D I ht h
 refine wpAny_execs_cons (thn (h1 pins s σ H D I ht h) fun f s1 q=>?_)
 cases f with
 |next=>exact wpAny_execs_nil q
 |ret v=>exact q
 |brk=>exact q
 |cont=>exact q
theorem ps1_if {tc:TT} {as bs:List Stmt} (hc:PT X c tc) (ha:PSs1 X as t) (hb:PSs1 X bs u):PS1 X (.If c as bs pos) (tIfS tc t u):=by
 intro pins s σ H D I ht h
 refine wpAny_If (tk_in ht (thn (hc pins s σ H _ I h) fun d s1 ⟨H1,I1,q1⟩ ht1=>?_))
 cases d with
 |true=>exact ha pins s1 σ H1 D I1 ht1 q1
 |false=>exact hb pins s1 σ H1 D I1 ht1 q1
theorem ps1_ret (he:PE1 X e te):PS1 X (.Return (some e) pos) (tRet te):=by
 intro pins s σ H D I ht h
 exact wpAny_Return_some (thn (he pins s σ H _ I ht h) fun v s1 ⟨x,H1,I1,r1,q1⟩=>⟨x,σ,H1,I1,r1,q1⟩)
theorem ps1_set {i:Nat} {x:Str} {pos':Pos} (hN:X.N.Nodup) (hi:X.N[i]?=some x) (hx:Loc X.env.scope x) (he:PE1 X e te) (hs:swapsWith e (some (.Name x pos')) pos.line X.env=pure false) (hf:X.fn x=true∨X.env.scope.names.lookup x=some .local):
  PS1 X (.Assign [.Name x pos'] e pos) (tAsg te (gName i)):=by
 intro pins s σ H D I ht h
 refine wpAny_Assign_Name (thn (he pins s σ H _ I ht h) fun v s1 ⟨y,H1,I1,r1,q1⟩=>?_) hs
 exact store_ok I1 hN hi hx r1 (fun s2 I2=>⟨_,H1,I2,q1⟩) hf
theorem pa1_cons (ha:PE1 X e te) (hr:PA1 X es tl) (hs:starEach (e::es) X.env=(false,eval e X.env)::starEach es X.env:=by rfl):PA1 X (e::es) (tCons te tl):=by
 intro pos pins s σ H Q I ht h
 rw[hs]
 show wpAny _ _ (spliced ((false,eval e X.env)::backTo pos (starEach es X.env))) _ _ s
 refine Calls.spliced_cons (tk_in ht (thn (ha pins s σ H _ I ht h) fun u s1 ⟨x,H1,I1,r1,q1⟩ ht1=>?_))
 exact thn (hr pos pins s1 σ H1 _ I1 ht1 q1) fun us s2 ⟨xs,H2,I2,r2,q2⟩=>⟨x::xs,H2,I2,.cons r1 r2,q2⟩
theorem pe1_op {op:Operator} {r:R2} (ho:OpR X (binaryOp op) r) (ha:PE1 X a ta) (hb:PE1 X b tb):PE1 X (.BinOp a op b pos) (tOp r ta tb):=by
 intro pins s σ H Q I ht h
 refine wpAny_BinOp (tk_in ht (thn (ha pins s σ H _ I ht h) fun v s1 ⟨x,H1,I1,r1,q1⟩ ht1=>?_))
 exact thn (hb pins s1 σ H1 _ I1 ht1 q1) fun u s2 ⟨y,H2,I2,r2,q2⟩=>ho pins s2 σ H2 x y v u Q I2 r1 r2 q2
theorem pe1_bm {T id:String} {name:Str} {apos cpos:Pos} {r:V→List V→Hp→VK→Prop} (pa:PlainAttrs T) (slot:PySem.Slot T name id) (hty:typeOf (.builtin id)=pure (.type "method_descriptor")) (hm:MtR X id r) (ho:PE1 X o to) (ha:PA X (e::es) tl)
  (hbase:attributeBase o name X.env (eval o X.env)=eval o X.env)
  (hfew:((backTo cpos (starEach (e::es) X.env)).all (fun x=>!x.1)&&(backToKw cpos (keywordEach [] X.env)).all (fun x=>x.1.isSome)
   &&decide ((e::es).length+([]:List Keyword).length+(if([]:List Keyword).isEmpty then 0 else 1)<30))=true)
  (hline:(apos.endLine==cpos.line)=true) (hs:starEach (e::es) X.env=(false,eval e X.env)::starEach es X.env) (hplain:(backTo cpos (starEach es X.env)).any (·.1)=false):
  PE1 X (.Call (.Attribute o name apos) (e::es) [] cpos) (tBM X.K T r to tl):=by
 intro pins s σ H Q I ht h
 refine wpAny_Call_method_late hbase hfew hline rfl (thn (ho pins s σ H _ I ht h) fun v s1 ⟨x,H1,I1,r1,ty,q1⟩=>?_)
 obtain⟨h1,h2⟩:=tyV_is I1 r1 ty
 refine⟨T,id,pa,slot,hty,h1,h2,?_⟩
 have hA:=ha cpos pins s1 σ H1 _ I1 q1
 rw[hs]at hA ⊢
 refine Calls.callWith_builtin (by show(false || (backTo cpos (starEach es X.env)).any (·.1))=false;rw[hplain]<;>rfl) (Calls.evalArgs_plain ?_)
 exact thn hA fun us s2 ⟨vs,H2,I2,r2,q2⟩=>hm pins s2 σ H2 x vs v us Q I2 r1 r2 q2
end
structure FnOk1 (P:Program) (w:World) (K:PySem.W.Frag) (mg:Str→Option Value) (base:Heap) (CX:CXT) (k:Nat) (f:Addr) (fd:FuncData) (ps:List Str) (sp:Sp):Prop where
 len:∀vs H Q E,sp vs H Q E→vs.length=ps.length
 run:∀(A:Around) (outer:List Env) (s:Shared) (H:Hp) (args:Args) (us:List Value) (vs:List V) (Q:VK) (E:XK),1≤s.toks→Room k A→Env0 P w K mg base A outer s H→BindsTo s fd args (ps.zip us)→Vals vs us→sp vs H Q E→
  codeAny (model P w) A (.call (.ref f) args) (CR CX outer P w H s Q E) s
section
variable {X:Cx} {CX:CXT} {k:Nat} {f C:Addr} {fd:FuncData} {ps:List Str} {sp:Sp} {dvs:List V} {ds:List Value} {E:XK} {x m:Str} {p pos apos:Pos} {e o:Expr} {es:List Expr} {ta:TE} {t:TA}
theorem run_fn1 {pins:List (Addr×Obj)} {σ:L2.St} {H:Hp} {s:Shared} {Q:VK} {us:List Value} {vs:List V} (F:FnOk1 X.prog X.w X.K X.mg X.base CX k f fd ps sp) (ht:1≤s.toks) (hr:Room k X.A) (hb:Binds X.K fd ps ds) (hd:Vals dvs ds) (hx:Passes CX X E)
  (I:Inv X pins σ H s) (r:Vals vs us) (h:sp (vs++dvs) H Q E):wpAny (model X.prog X.w) X.A (call (.ref f) us) (EP X pins σ Q) X.xe s:=by
 have r2:Vals (vs++dvs) (us++ds):=r.append hd
 have hl:(us++ds).length=ps.length:=by rw[← r2.length];exact F.len _ _ _ _ h
 refine wpAny_call (codeAny_mono (F.run X.A X.stack s H ⟨us,[]⟩ (us++ds) (vs++dvs) Q E ht hr I.env0 (hb s us I.kIn hl) r2 h) fun r s' hq=>?_)
 cases r with
 |error e=>exact hx pins σ H s e s' I hq
 |ok fl=>
  cases fl with
  |ret u=>exact I.after hq
  |next=>exact False.elim hq
  |brk=>exact False.elim hq
  |cont=>exact False.elim hq
theorem pe1_call1 (F:FnOk1 X.prog X.w X.K X.mg X.base CX k f fd ps sp) (hr:Room k X.A) (hg:Gl X x) (hm:X.mg x=some (.ref f)) (hk:PySem.W.keepIn X.K (.ref f)=true) (hb:Binds X.K fd ps ds) (hd:Vals dvs ds) (hx:Passes CX X E)
  (ha:PA1 X (e::es) t) (hdb:(x==("__debug__" : Str))=false) (he:starEach (e::es) X.env=(false,eval e X.env)::starEach es X.env) (hpl:(backTo pos (starEach es X.env)).any (·.1)=false):
  PE1 X (.Call (.Name x p) (e::es) [] pos) (tCall sp dvs E t):=by
 intro pins s σ H Q I ht h
 refine wpAny_Call_Name_kw (ld_glob I hg hm ?_ hdb)
 refine PySem.W.callWith_K (h₀:=X.base) I.ok.mod.kin hk (tk_in ht (thn (ha pos pins s σ H _ I ht h) fun us s1 ⟨vs,H1,I1,r,q⟩ ht1=>⟨I1.kIn,?_⟩)) he hpl
 exact run_fn1 F ht1 hr hb hd hx I1 r q
theorem pe1_call (F:FnOk X.prog X.w X.K X.mg X.base CX k f fd ps sp) (hr:Room k X.A) (hg:Gl X x) (hm:X.mg x=some (.ref f)) (hk:PySem.W.keepIn X.K (.ref f)=true) (hb:Binds X.K fd ps ds) (hd:Vals dvs ds) (hx:Passes CX X E)
  (ha:PA1 X (e::es) t) (hdb:(x==("__debug__" : Str))=false) (he:starEach (e::es) X.env=(false,eval e X.env)::starEach es X.env) (hpl:(backTo pos (starEach es X.env)).any (·.1)=false):
  PE1 X (.Call (.Name x p) (e::es) [] pos) (tCall sp dvs E t):=by
 intro pins s σ H Q I ht h
 refine wpAny_Call_Name_kw (ld_glob I hg hm ?_ hdb)
 refine PySem.W.callWith_K (h₀:=X.base) I.ok.mod.kin hk (thn (ha pos pins s σ H _ I ht h) fun us s1 ⟨vs,H1,I1,r,q⟩=>⟨I1.kIn,?_⟩) he hpl
 exact run_fn F hr hb hd hx I1 r q
end
theorem PSs1.nox {X:Cx} {st:List Stmt} {t:TS} (h:PSs1 X.nox st t):PSs1 X st t:=fun pins s σ H D I ht hw=>by
 have:=PSs.nox (X:=X) (st:=st) (t:=fun D' σ' H'=>D'=D∧σ'=σ∧H'=H∧False) (fun _ _ _ _ _ _ hw=>hw.2.2.2.elim)
 exact wpAny_mono (h pins s σ H D (I.wish _) ht hw) (fun f s' q=>by
  cases f with
  |next=>obtain⟨σ',H',I',q⟩:=q;exact⟨σ',H',I'.unwish,q⟩
  |brk=>obtain⟨σ',H',I',q⟩:=q;exact⟨σ',H',I'.unwish,q⟩
  |cont=>obtain⟨σ',H',I',q⟩:=q;exact⟨σ',H',I'.unwish,q⟩
  |ret v=>obtain⟨v',σ',H',I',r,q⟩:=q;exact⟨v',σ',H',I'.unwish,r,q⟩) fun _ _ z=>z.elim
open PySem PySem.Spec PyProof.Rows L2
open PySem.W (Dat kqdOk)
theorem fn1_of {CX:CXT} {P:Program} {w:World} {K:PySem.W.Frag} {mg:Str→Option Value} {base:Heap} {k:Nat} {f:Addr} {name qual:Str} {params:Arguments} {body:List Stmt} {scope:Scope} {dV kV doc pm cdv ct oc:Value} {an od:Option Addr}
  {osl:Array (Option Value)} {N ps:List Str} {sp:Sp} (lk:K.lookup f=some ⟨oc,od,.func (PySem.W.fnOf name qual params body scope dV kV doc pm an cdv ct),osl⟩) (hcd:PySem.W.codeIn K cdv qual=true) (S:FnScope N ps scope)
  (len:∀vs H Q E,sp vs H Q E→vs.length=ps.length)
  (hbody:∀(A:Around) (outer:List Env) (s:Shared) (H:Hp) (vs:List V) (Q:VK) (E:XK),Room k (A.deeper (envOfC qual scope s.heap.objs.size f cdv))→sp vs H Q E→
   ∃t,PSs1 (cxOf CX P w K mg base N qual scope f cdv A outer s H E) body t∧t {nx:=fun _ H'=>Q .non H',rt:=Q} (start N vs) H):
  FnOk1 P w K mg base CX (k+1) f (PySem.W.fnOf name qual params body scope dV kV doc pm an cdv ct) ps sp:=by
 refine⟨len,fun A outer s H args us vs Q E htk hr e0 hb r hsp=>?_⟩
 have hl:=len _ _ _ _ hsp
 have KX:K.In s.heap:=e0.mod.kin.keeps fun b o e=>(e0.bs b o e).1
 have lim:s.heap.NoLimit:=e0.mod.nolimit.keeps fun b o e=>(e0.bs b o e).1
 have hkind:∀y∈ps.zip us,scope.names.lookup y.1=some .local∨(scope.names.lookup y.1=some .cell∧((cellsFrom (s.heap.objs.size+1) scope.names []).lookup y.1).isSome=true):=fun⟨n,v⟩ hy=>by
  rcases S.par n (List.of_mem_zip hy).1 with q|q
  ·exact .inl q
  ·exact .inr ⟨q,PySem.W.cellsFrom_some _ _ _ (.inl q)⟩
 refine codeAny_call_function hr.depth (KX _ _ lk) rfl S.co S.gen rfl (PySem.W.codeRec_of KX hcd) (hb _ _ _ _ ?_)
 refine tk_in htk (wpAny_newFunctionEnv_cells S.kind hkind fun env he s1 x ht1=>?_)
 subst he
 refine⟨lim.keeps x.toInCall.keep,codeAny_func ?_⟩
 obtain⟨t,ht,hq⟩:=hbody A outer s H vs Q E (hr.deeper _) hsp
 have I:Inv (cxOf CX P w K mg base N qual scope f cdv A outer s H E) [] (start N vs) H s1:=inv_start S hr.hd e0 hl r x
 refine wpAny_mono (ht [] s1 (start N vs) H _ I ht1 hq) (fun fl s' hs=>?_) fun e s' hs=>hs
 have fin:∀{σ':L2.St} {H':Hp} {v:V} {u:Value},Inv (cxOf CX P w K mg base N qual scope f cdv A outer s H E) [] σ' H' s'→RelV v u→Q v H'→CE outer P w H s Q u s':=
  fun{σ' H' v u} J rv q=>⟨v,H',J.os,J.bare,J.base,J.hok,rv,q⟩
 cases fl with
 |ret u=>
  obtain⟨v,σ',H',J,rv,q⟩:=hs
  exact fin J rv q
 |next=>
  obtain⟨σ',H',J,q⟩:=hs
  exact fin (v:=V.non) (u:=Value.none) J rfl q
 |brk=>
  obtain⟨_,_,_,q⟩:=hs
  exact False.elim q
 |cont=>
  obtain⟨_,_,_,q⟩:=hs
  exact False.elim q
theorem Fun.ok1 {P:Program} {w:World} {K:Fg} {mg:Str→Option Value} {base:Heap} {x qual:Str} {st:Stmt} {f:Addr} {fd:FuncData} {N ps:List Str} {k:Nat} {sp:Sp} (F:Fun K x qual st f fd) (S:FnScope N ps (defScope st)) (len:∀vs H Q E,sp vs H Q E→vs.length=ps.length)
  (hbody:∀(cdv:Value) (A:Around) (outer:List Env) (s:Shared) (H:Hp) (vs:List V) (Q:VK) (E:XK),Room k (A.deeper (envOfC qual (defScope st) s.heap.objs.size f cdv))→sp vs H Q E→
   ∃t,PSs1 (cxOf CX0 P w K mg base N qual (defScope st) f cdv A outer s H E).nox (defBody st) t∧t {nx:=fun _ H'=>Q .non H',rt:=Q} (start N vs) H):FnOk1 P w K mg base CX0 (k+1) f fd ps sp:=by
 obtain⟨oc,od,kV,doc,pm,an,cdv,ct,osl,rfl,lk,hcd⟩:=F.ex
 refine fn1_of lk hcd S len fun A outer s H vs Q E hr hsp=>?_
 obtain⟨t,h,q⟩:=hbody cdv A outer s H vs Q E hr hsp
 exact⟨t,h.nox,q⟩
structure DnT (P:Program) (w:World) (K:Fg) (mg:Str→Option Value) (base:Heap) (k:Nat) (x:Str) (ps:List Str) (n:Nat) (F:List Dat→Option Dat):Prop where
 ex:∃(f:Addr) (fd:FuncData),FnOk1 P w K mg base CX0 k f fd ps (spF K n F)∧mg x=some (.ref f)∧PySem.W.keepIn K (.ref f)=true∧Binds K fd ps []
abbrev PSFs1 (X:Cx) (st:List Stmt) (g:Gam→Option Fl):Prop:=PSs1 X st (tSF X.K g)
theorem dnT_of {P:Program} {w:World} {K:Fg} {mg:Str→Option Value} {base:Heap} {x qual:Str} {st:Stmt} {fa:Addr} {fd:FuncData} {N ps:List Str} {k n:Nat} {g:Gam→Option Fl} {F:List Dat→Option Dat}
  (U:Fun K x qual st fa fd) (hm:mg x=some (.ref fa)) (hB:Binds K fd ps []) (S:FnScope N ps (defScope st)) (hn:ps.length=n)
  (hbody:∀(cdv:Value) (A:Around) (outer:List Env) (s:Shared) (H:Hp) (E:XK),Room k (A.deeper (envOfC qual (defScope st) s.heap.objs.size fa cdv))→PSFs1 (cxOf CX0 P w K mg base N qual (defScope st) fa cdv A outer s H E).nox (defBody st) g)
  (hF:∀ds d,ds.length=n→F ds=some d→runF N g ds=some d):DnT P w K mg base (k+1) x ps n F:=by
 have hpl:ps.length≤N.length:=by have:=congrArg List.length S.pre;rw[List.length_take]at this;omega
 refine⟨fa,fd,Fun.ok1 U S (fun vs H Q E h=>?_) (fun cdv A outer s H vs Q E hr h=>?_),hm,U.kp,hB⟩
 ·obtain⟨Av,ds,d,_,r,hl,_⟩:=h
  rw[r.length,hl,hn]
 ·obtain⟨Av,ds,d,hA,r,hl,hd,q⟩:=h
  have hd':=hF ds d hl hd
  unfold runF at hd'
  refine⟨_,hbody cdv A outer s H E hr,?_⟩
  cases hg:g (startG N ds)with
  |none=>rw[hg]at hd';cases hd'
  |some fl=>
   refine⟨H,Av,none,[],startG N ds,fl,ga_start hA r (by omega),hg,?_⟩
   rw[hg]at hd'
   cases fl with
   |nx Γ=>cases hd';exact fun σ' H' ⟨ad,G⟩=>q _ H' G.same .non
   |rt d'=>cases hd';exact fun v H' s r=>q v H' s r
   |bk Γ=>cases hd'
   |ct Γ=>cases hd'
   |rm d' Γ=>cases hd'
structure TE1 (X:Cx) (e:Expr) (t:TE):Prop where
 o:PE1 X e t
structure TA1 (X:Cx) (e:List Expr) (t:TA):Prop where
 o:PA1 X e t
structure TS1 (X:Cx) (e:Stmt) (t:TS):Prop where
 o:PS1 X e t
structure TSs1 (X:Cx) (e:List Stmt) (t:TS):Prop where
 o:PSs1 X e t
abbrev TF (X:Cx) (e:Expr) (f:Rho→Option Dat):Prop:=TE1 X e (tF X.K f)
abbrev TFA (X:Cx) (e:List Expr) (f:Rho→Option (List Dat)):Prop:=TA1 X e (tFA X.K f)
abbrev TSF (X:Cx) (e:Stmt) (g:Gam→Option Fl):Prop:=TS1 X e (tSF X.K g)
abbrev TSFs (X:Cx) (e:List Stmt) (g:Gam→Option Fl):Prop:=TSs1 X e (tSF X.K g)
section
variable {X:Cx} {a b c e o:Expr} {es:List Expr} {st:Stmt} {rest as bs:List Stmt} {pos:Pos} {f fa fb:Rho→Option Dat} {fs:Rho→Option (List Dat)} {ft:Rho→Option Bool} {g g1 g2:Gam→Option Fl}
theorem qtfa_of (h:QFA X es fs):TFA X es fs:=⟨pa1_of h.o⟩
theorem qtsf_of (h:QSF X st g):TSF X st g:=⟨ps1_of h.o⟩
theorem qtsfs_of (h:QSFs X rest g):TSFs X rest g:=⟨pss1_of h.o⟩
theorem qtsf_one (h:TSF X st g):TSFs X [st] g:=⟨pss1_one h.o⟩
theorem qtsf_cons (h1:TSF X st g1) (h2:TSFs X rest g2):TSFs X (st::rest) (sSeq g1 g2):=⟨pss1_mono (pss1_cons h1.o h2.o) fun D σ H hzz=>by
 obtain⟨H₀,Av,pn,hid,Γ,fl,G,hf,q⟩:=hzz
 obtain⟨fl1,e1,hf⟩:=bind_some hf
 refine⟨H₀,Av,pn,hid,Γ,fl1,G,e1,?_⟩
 cases fl1 with
 |nx Γ'=>exact fun σ' H' G'=>⟨H₀,Av,pn,hid,Γ',fl,G',hf,q⟩
 |rt d=>cases hf;exact q
 |bk Γ'=>cases hf;exact q
 |ct Γ'=>cases hf;exact q
 |rm d Γ'=>cases hf;exact q⟩
theorem qtsf_ret (h:TF X e f):TSF X (.Return (some e) pos) (sRet f):=⟨ps1_mono (ps1_ret h.o) fun D σ H hzz=>by
 obtain⟨H₀,Av,pn,hid,Γ,fl,⟨ad,G⟩,hf,q⟩:=hzz
 obtain⟨d,e1,hf⟩:=map_some' hf
 subst hf
 exact⟨Av,allV Γ,d,G.avt.same G.same,G.envA,e1,fun v H' s r=>q v H' (G.same.trans s) r⟩⟩
theorem qtsf_if (hc:QFT X c ft) (ha:TSFs X as g1) (hb:TSFs X bs g2):TSF X (.If c as bs pos) (sIf ft g1 g2):=⟨ps1_mono (ps1_if hc.o ha.o hb.o) fun D σ H hzz=>by
 obtain⟨H₀,Av,pn,hid,Γ,fl,⟨ad,G⟩,hf,q⟩:=hzz
 obtain⟨k,e1,hf⟩:=bind_some hf
 refine⟨Av,allV Γ,k,G.avt.same G.same,G.envA,e1,fun H' s=>?_⟩
 cases k with
 |true=>rw[if_pos rfl]at hf ⊢;exact⟨H₀,Av,pn,hid,Γ,fl,⟨ad,G.grow s⟩,hf,q⟩
 |false=>rw[if_neg Bool.false_ne_true]at hf ⊢;exact⟨H₀,Av,pn,hid,Γ,fl,⟨ad,G.grow s⟩,hf,q⟩⟩
theorem qtsf_set (i:Nat) {x:Str} {pos':Pos} (hN:X.N.Nodup) (h:TF X e f) (hi:X.N[i]?=some x:=by rfl) (hx:Loc X.env.scope x:=by first|exact .inl rfl|exact .inr rfl) (hs:swapsWith e (some (.Name x pos')) pos.line X.env=pure false:=by rfl) (hf:X.fn x=true∨X.env.scope.names.lookup x=some .local:=by first|exact .inl rfl|exact .inr rfl):
  TSF X (.Assign [.Name x pos'] e pos) (sSet i f):=⟨ps1_mono (ps1_set hN hi hx h.o hs hf) tSet_F⟩
theorem qtfa_cons (ha:TF X e fa) (hr:TFA X es fs) (hs:starEach (e::es) X.env=(false,eval e X.env)::starEach es X.env:=by rfl):TFA X (e::es) (fCons fa fs):=⟨pa1_mono (pa1_cons ha.o hr.o hs) fun σ H Q hzz=>by
 obtain⟨Av,ρ,d,hA,hE,hf,q⟩:=hzz
 obtain⟨dx,e1,hf⟩:=bind_some hf
 obtain⟨ds,e2,hf⟩:=map_some' hf
 subst hf
 exact⟨Av,ρ,dx,hA,hE,e1,fun x H1 s1 r1=>⟨Av,ρ,ds,hA.same s1,hE.same s1,e2,fun xs H2 s2 r2=>q _ H2 (s1.trans s2) (.cons (r1.same s2) r2)⟩⟩⟩
theorem qtf_addU (pa:TF X a fa) (pb:TF X b fb):TF X (.BinOp a .Add b pos) (f2 addU fa fb):=⟨pe1_mono (pe1_op ((op_catS.or op_catU).or (op_add.or op_add_str)) pa.o pb.o) (tF_op opD_addU)⟩
theorem qtf_fnT {x:Str} {p:Pos} {k n:Nat} {ps:List Str} {F:List Dat→Option Dat} (D:DnT X.prog X.w X.K X.mg X.base k x ps n F) (hr:Room k X.A) (ha:TFA X (e::es) fs) (hg:Gl X x:=by rfl) (hdb:(x==("__debug__" : Str))=false:=by decide)
  (he:starEach (e::es) X.env=(false,eval e X.env)::starEach es X.env:=by rfl) (hpl:(backTo pos (starEach es X.env)).any (·.1)=false:=by rfl):TF X (.Call (.Name x p) (e::es) [] pos) (fFn n F fs):=by
 obtain⟨f,fd,h1,h2,h3,h4⟩:=D.ex
 exact⟨pe1_mono (pe1_call1 h1 hr hg h2 h3 h4 .nil pass0 ha.o hdb he hpl) tF_fn⟩
theorem qtf_fn {x:Str} {p:Pos} {k n:Nat} {ps:List Str} {F:List Dat→Option Dat} (D:Dn X.prog X.w X.K X.mg X.base k x ps n F) (hr:Room k X.A) (ha:TFA X (e::es) fs) (hg:Gl X x:=by rfl) (hdb:(x==("__debug__" : Str))=false:=by decide)
  (he:starEach (e::es) X.env=(false,eval e X.env)::starEach es X.env:=by rfl) (hpl:(backTo pos (starEach es X.env)).any (·.1)=false:=by rfl):TF X (.Call (.Name x p) (e::es) [] pos) (fFn n F fs):=by
 obtain⟨f,fd,h1,h2,h3,h4⟩:=D.ex
 exact⟨pe1_mono (pe1_call h1 hr hg h2 h3 h4 .nil pass0 ha.o hdb he hpl) tF_fn⟩
theorem qtf_repl {y z:Str} {j1 j2:Nat} {p1 p4 p5 p6:Pos} (ho:QF X o f) (hyz:(y==z)=false:=by decide +kernel)
  (hbase:attributeBase o "replace" X.env (eval o X.env)=eval o X.env:=by rfl) (hline:(p4.endLine==p5.line)=true:=by rfl):
  TF X (.Call (.Attribute o "replace" p4) [.Constant (.str y) j1 p1,.Constant (.str z) j2 p6] [] p5) (f1 (replD y z) f):=⟨by
 intro pins s σ H Q I ht h
 obtain⟨Av,ρ,d,hA,hE,hf,q⟩:=h
 obtain⟨dw,e1,hf⟩:=bind_some hf
 unfold replD at hf
 split at hf
 ·rename_i w
  split at hf
  ·rename_i hz
   cases hf
   refine wpAny_Call_method_late hbase rfl hline rfl (tk_in ht (thn (ho.o pins s σ H (fun x H2=>x=.str w∧Same H H2) I ⟨Av,ρ,_,hA,hE,e1,fun v H' s' r=>⟨r.s_inv,s'⟩⟩) fun v s1 ⟨x,H1,I1,r1,hx,sm⟩ ht1=>?_))
   subst hx
   obtain⟨h1,h2⟩:=tyV_is I1 r1 (show tyV X.K "str" (.str w) H1 from rfl)
   refine⟨"str","str.replace",PySem.F.plainAttrs_str,PySem.F.slot_str_replace,PySem.F.type_str_replace,h1,h2,?_⟩
   obtain⟨t,rfl⟩:=r1
   refine Calls.callWith_builtin rfl (Calls.evalArgs_plain ?_)
   refine Calls.spliced_cons (Calls.Constant_str (k:=j1) (pos:=p1) ?_)
   show wpAny _ _ (spliced ((false,eval (.Constant (.str z) j2 p6) X.env)::[])) _ _ _
   refine Calls.spliced_cons (Calls.Constant_str (k:=j2) (pos:=p6) (Calls.spliced_nil ?_))
   refine SC.replace (u:=s1.toks) (v:=s1.toks+1) (by show s1.toks≠0;omega) (by show s1.toks+1≠0;omega) (by show s1.toks≠s1.toks+1;omega) hyz hz fun t' k=>⟨.str _,H1,I1.tok k,⟨t',rfl⟩,q _ H1 sm (.str _)⟩
  ·cases hf
 ·cases hf⟩
theorem tFL_split {K:Fg}:∀σ H Q,tFL K (fun ρ=>(f ρ).bind fun d=>(fs ρ).bind fun ds=>splitD d ds) σ H Q→tBM K "str" rSplit (tF K f) (tFA K fs) σ H Q:=by
 rintro σ H Q ⟨Av,ρ,d,hA,hE,hf,q⟩
 obtain⟨dx,e1,hf⟩:=bind_some hf
 obtain⟨ds,e2,hf⟩:=bind_some hf
 unfold splitD at hf
 split at hf
 ·split at hf
  ·rename_i hz
   cases hf
   refine⟨Av,ρ,_,hA,hE,e1,fun x H1 s1 r1=>⟨by rw[r1.s_inv];exact rfl,Av,ρ,_,hA.same s1,hE.same s1,e2,fun xs H2 s2 r2=>?_⟩⟩
   obtain⟨v,rfl,rv⟩:=r2.one_inv
   exact⟨_,_,r1.s_inv,by rw[rv.s_inv],hz.1,hz.2.1,hz.2.2,fun p hp=>q H2 p _ (s1.trans s2) hp (RepDs.strs _)⟩
  ·cases hf
 ·cases hf
theorem tF_of_l {K:Fg}:∀σ H Q,tF K (fL fs) σ H Q→tFL K fs σ H Q:=by
 rintro σ H Q ⟨Av,ρ,d,hA,hE,hf,q⟩
 obtain⟨ds,e1,hf⟩:=map_some' hf
 subst hf
 exact⟨Av,ρ,ds,hA,hE,e1,fun H1 p xs s hp r=>q _ _ (s.trans (same_new hp _)) (.newL (hA.same s) hp r)⟩
def fSpl (f:Rho→Option Dat) (fs:Rho→Option (List Dat)):Rho→Option (List Dat):=fun ρ=>(f ρ).bind fun d=>(fs ρ).bind fun ds=>splitD d ds
theorem qtf_split {p2 p3:Pos} (ho:TF X o f) (ha:QFA X [e] fs) (hbase:attributeBase o "split" X.env (eval o X.env)=eval o X.env:=by rfl)
  (hfew:((backTo p3 (starEach [e] X.env)).all (fun x=>!x.1)&&(backToKw p3 (keywordEach [] X.env)).all (fun x=>x.1.isSome)&&decide (([e]:List Expr).length+([]:List Keyword).length+(if([]:List Keyword).isEmpty then 0 else 1)<30))=true:=by rfl)
  (hline:(p2.endLine==p3.line)=true:=by rfl) (hs1:starEach [e] X.env=(false,eval e X.env)::starEach [] X.env:=by rfl) (hplain:(backTo p3 (starEach [] X.env)).any (·.1)=false:=by rfl):
  TF X (.Call (.Attribute o "split" p2) [e] [] p3) (fL (fSpl f fs)):=⟨pe1_mono (pe1_bm PySem.F.plainAttrs_str PySem.F.slot_str_split PySem.F.type_str_split mt_split ho.o ha.o hbase hfew hline hs1 hplain) fun σ H Q h=>tFL_split σ H Q (tF_of_l σ H Q h)⟩
theorem qpf_split {p2 p3:Pos} (ho:QF X o f) (ha:QFA X [e] fs) (hbase:attributeBase o "split" X.env (eval o X.env)=eval o X.env:=by rfl)
  (hfew:((backTo p3 (starEach [e] X.env)).all (fun x=>!x.1)&&(backToKw p3 (keywordEach [] X.env)).all (fun x=>x.1.isSome)&&decide (([e]:List Expr).length+([]:List Keyword).length+(if([]:List Keyword).isEmpty then 0 else 1)<30))=true:=by rfl)
  (hline:(p2.endLine==p3.line)=true:=by rfl) (hs1:starEach [e] X.env=(false,eval e X.env)::starEach [] X.env:=by rfl) (hplain:(backTo p3 (starEach [] X.env)).any (·.1)=false:=by rfl):
  QF X (.Call (.Attribute o "split" p2) [e] [] p3) (fL (fSpl f fs)):=⟨pe_mono (pe_bm PySem.F.plainAttrs_str PySem.F.slot_str_split PySem.F.type_str_split mt_split ho.o ha.o hbase hfew hline hs1 hplain) fun σ H Q h=>tFL_split σ H Q (tF_of_l σ H Q h)⟩
theorem qtsf_split (i:Nat) {x:Str} {y:Str} {j:Nat} {pos' p1 p2 p3:Pos} {g2:Gam→Option Fl} (hN:X.N.Nodup) (ho:QF X o f) (hrest:TSFs X rest g2)
  (hbase:attributeBase o "split" X.env (eval o X.env)=eval o X.env:=by rfl) (hline:(p2.endLine==p3.line)=true:=by rfl) (hi:X.N[i]?=some x:=by rfl) (hx:Loc X.env.scope x:=by first|exact .inl rfl|exact .inr rfl)
  (hs:swapsWith (.Call (.Attribute o "split" p2) [.Constant (.str y) j p1] [] p3) (some (.Name x pos')) pos.line X.env=pure false:=by rfl) (hf:X.fn x=true∨X.env.scope.names.lookup x=some .local:=by first|exact .inl rfl|exact .inr rfl):
  QSFs X (.Assign [.Name x pos'] (.Call (.Attribute o "split" p2) [.Constant (.str y) j p1] [] p3) pos::rest) (sSeq (sSet i (fL (fSpl f (fCons (fC (.str y)) fNil)))) g2):=⟨by
 have ev1:∀(pins:List (Addr×Obj)) (s:Shared) (σ:L2.St) (H:Hp) (Q:VK),Inv X pins σ H s→tF X.K (fL (fSpl f (fCons (fC (.str y)) fNil))) σ H Q→wpAny (model X.prog X.w) X.A (eval (.Call (.Attribute o "split" p2) [.Constant (.str y) j p1] [] p3) X.env) (fun v s'=>1≤s'.toks∧EP X pins σ Q v s') X.xe s:=by
  intro pins s σ H Q I h
  have h:=tFL_split σ H Q (tF_of_l σ H Q h)
  refine wpAny_Call_method_late hbase rfl hline rfl (thn (ho.o pins s σ H _ I h) fun v s1 ⟨x,H1,I1,r1,ty,q1⟩=>?_)
  obtain⟨h1,h2⟩:=tyV_is I1 r1 ty
  refine⟨"str","str.split",PySem.F.plainAttrs_str,PySem.F.slot_str_split,PySem.F.type_str_split,h1,h2,?_⟩
  refine Calls.callWith_builtin rfl (Calls.evalArgs_plain ?_)
  refine Calls.spliced_cons (Calls.Constant_str (k:=j) (pos:=p1) (Calls.spliced_nil ?_))
  obtain⟨Av,ρ,ds,hA,hE,hf2,q2⟩:=q1
  cases hf2
  have q3:=q2 [.str y] H1 (Same.refl H1) (.cons (.str y) .nil)
  refine wpAny_mono (wpAny_toks_of (n:=1) (show 1≤s1.toks+1 by omega) (mt_split pins {s1 with toks:=s1.toks+1} σ H1 x [.str y] v [.str y s1.toks] Q (I1.tok _) r1 (.cons ⟨_,rfl⟩ .nil) q3)) (fun _ _ z=>z) fun _ _ z=>z.2
 intro pins s σ H D I h
 obtain⟨H₀,Av,pn,hid,Γ,fl,G,hg,q⟩:=h
 obtain⟨fl1,e1,hg⟩:=bind_some hg
 have key:tSF X.K (sSet i (fL (fSpl f (fCons (fC (.str y)) fNil)))) {D with nx:=fun σ' H'=>tSF X.K g2 D σ' H'} σ H:=⟨H₀,Av,pn,hid,Γ,fl1,G,e1,by
  cases fl1 with
  |nx Γ'=>exact fun σ' H' G'=>⟨H₀,Av,pn,hid,Γ',fl,G',hg,q⟩
  |rt d=>cases hg;exact q
  |bk Γ'=>cases hg;exact q
  |ct Γ'=>cases hg;exact q
  |rm d Γ'=>cases hg;exact q⟩
 have key2:=tSet_F _ _ _ key
 refine wpAny_execs_cons (wpAny_Assign_Name (thn (ev1 pins s σ H _ I key2) fun v s1 ⟨ht1,y1,H1,I1,r1,q1⟩=>?_) hs)
 refine tk_in ht1 (store_ok I1 hN hi hx r1 (fun s2 I2 ht2=>?_) hf)
 exact hrest.o pins s2 _ H1 D I2 ht2 q1⟩
theorem qdnTA {P:Program} {w:World} {K:Fg} {mg:Str→Option Value} {base:Heap} {x:Str} {st:Stmt} {ps:List Str} {k n:Nat} (N:List Str) (U:FnAt K mg x st ps) {g:Gam→Option Fl} (hbody:N.Nodup→∀(fa:Addr) (cdv:Value) (A:Around) (outer:List Env) (s:Shared) (H:Hp) (E:XK),Room k (A.deeper (envOfC x (defScope st) s.heap.objs.size fa cdv))→TSFs (cxOf CX0 P w K mg base N x (defScope st) fa cdv A outer s H E).nox (defBody st) g)
  (S:FnScope N ps (defScope st):=by exact⟨rfl,rfl,rfl,by decide +kernel,rfl,by decide +kernel,by decide +kernel⟩) (hn:ps.length=n:=by rfl):DnT P w K mg base (k+1) x ps n (runF N g):=by
 obtain⟨f,fd,U,hm,hB⟩:=U.ex
 exact dnT_of U hm hB S hn (fun a b c d e f2 g2=>(hbody S.nd f a b c d e f2 g2).o) fun _ _ _ h=>h
end
open PySem PySem.Spec PyProof.Rows L2
open PySem.W (Dat kqdOk)
def scV:Dat→V
 | .str x=>.str x
 | .int i=>.int i
 | .bool b=>.bl b
 |_=>.non
theorem scV_rep {K:Fg} {H:Hp} {Av:AvP} {d:Dat} (h:scD d=true):RepD K H Av (scV d) d:=by
 cases d with
 |none=>exact .non
 |bool b=>exact .bl b
 |int i=>exact .int i
 |str x=>exact .str x
 |_=>cases h
abbrev kvV (kvs:List (Str×Dat)):List (L2.Key×V):=kvs.map fun p=>(Sum.inr p.1,scV p.2)
def getK (kvs:List (Str×Dat)):Dat→Option Dat
 | .str x=>(kvs.find? fun p=>decide (p.1=x)).map (·.2)
 |_=>none
def ninK (kvs:List (Str×Dat)):Dat→Option Dat
 | .str x=>some (.bool (!(kvs.find? fun p=>decide (p.1=x)).isSome))
 |_=>none
theorem val_find (x:Str):∀kvs:List (Str×Dat),valV (kvV kvs) (Sum.inr x)=((kvs.find? fun p=>decide (p.1=x)).map (·.2)).map scV
 |[]=>rfl
 |p::kvs=>by
  have ih:=val_find x kvs
  unfold valV at ih ⊢
  rw[show kvV (p::kvs)=(Sum.inr p.1,scV p.2)::kvV kvs from rfl,List.find?_cons,List.find?_cons]
  by_cases h:p.1=x
  ·rw[decide_eq_true h,decide_eq_true (show(Sum.inr p.1:L2.Key)=Sum.inr x by rw[h])];rfl
  ·rw[decide_eq_false h,decide_eq_false (fun z:(Sum.inr p.1:L2.Key)=Sum.inr x=>h (by injection z))];exact ih
structure DC (P:Program) (w:World) (K:Fg) (mg:Str→Option Value) (x:Str) (kvs:List (Str×Dat)):Prop where
 ex:∃(a:Addr) (vs:List (L2.Key×Value)),mg x=some (.ref a)∧(a==sysModules)=false∧KV (kvV kvs) vs∧∀h:Heap,K.In h→h.DictOf (mixKind P w) a vs
 sc:∀p∈kvs,scD p.2=true
section
variable {X:Cx} {e:Expr} {f:Rho→Option Dat} {d:Str} {kvs:List (Str×Dat)} {p pos:Pos}
theorem qpft_ninK (D:DC X.prog X.w X.K X.mg d kvs) (ha:QF X e f) (hg:Gl X d:=by rfl) (hd:(d==("__debug__" : Str))=false:=by decide) (hm:behindInMarks .NotIn (.Name d p)=false:=by with_unfolding_all rfl):QFT X (.Compare e [.NotIn] [.Name d p] pos) (fTest (f1 (ninK kvs) f)):=⟨by
 obtain⟨a,vs,h1,h2,rel,hD⟩:=D.ex
 have ho:OpR X (compareOp .NotIn) (fun x y H Q=>∃k:Str,x=.str k∧y=.ref a∧Q (.bl (!(valV (kvV kvs) (Sum.inr k)).isSome)) H):=by
  intro pins s σ H x y v u Q I rx ry h
  obtain⟨k,rfl,rfl,q⟩:=h
  obtain⟨t,rfl⟩:=rx
  cases ry
  refine wpAny_notIn_of (mixKind_str _ _ k t) h2 (hD s.heap I.kIn).mapOf ?_
  rw[← (rel.val (Sum.inr k)).isSome_eq]
  exact⟨.bl _,H,I.tok _,rfl,q⟩
 refine pt_mono (pt_cmpR ho ha.o (pe_glob (v:=.ref a) hg h1 rfl hd) hm) fun σ H Q ⟨Av,ρ,b,hA,hE,hf,q⟩=>?_
 obtain⟨dd,e1,hf⟩:=bind_some hf
 obtain⟨dx,e2,e1⟩:=bind_some e1
 unfold ninK at e1
 split at e1
 ·rename_i k
  cases e1
  cases hf
  refine⟨Av,ρ,_,hA,hE,e2,fun x H1 s1 r1=>⟨k,r1.s_inv,rfl,_,rfl,?_⟩⟩
  rw[val_find,Option.isSome_map,Option.isSome_map]
  exact q H1 s1
 ·cases e1⟩
theorem qpf_getK (D:DC X.prog X.w X.K X.mg d kvs) (ha:QF X e f) (hs:NoSl e:=by intro _ _;rfl) (hg:Gl X d:=by rfl) (hd:(d==("__debug__" : Str))=false:=by decide):QF X (.Subscript (.Name d p) e pos) (f1 (getK kvs) f):=⟨by
 obtain⟨a,vs,h1,h2,rel,hD⟩:=D.ex
 intro pins s σ H Q I h
 obtain⟨Av,ρ,dd,hA,hE,hf,q⟩:=h
 obtain⟨dx,e2,e1⟩:=bind_some hf
 unfold getK at e1
 split at e1
 ·rename_i k
  refine subD_of PySem.F.slot_dict_getitem.lookup hs (thn ((pe_glob (v:=.ref a) hg h1 rfl hd) pins s σ H (fun x H1=>x=.ref a∧H1=H) I ⟨rfl,rfl⟩) fun u s1 ⟨x,H1,I1,rx,ex,eH⟩=>?_)
  subst ex eH
  refine thn (ha.o pins s1 σ H1 (fun y H2=>y=.str k∧Same H1 H2) I1 ⟨Av,ρ,_,hA,hE,e2,fun v H' s' r=>⟨r.s_inv,s'⟩⟩) fun iv s2 ⟨y,H2,I2,ry,ey,sm⟩=>?_
  subst ey
  cases rx
  obtain⟨t,rfl⟩:=ry
  have dk:=hD s2.heap I2.kIn
  refine⟨dk.typeIs,?_⟩
  have hv:valV (kvV kvs) (Sum.inr k)=some (scV dd):=by rw[val_find,e1];rfl
  obtain⟨w',hw,rw'⟩:=RelO.some_of (v:=scV dd) (o:=valueAt vs (Sum.inr k)) (by rw[← hv];exact rel.val _)
  have hsc:scD dd=true:=by
   obtain⟨p,hp,rfl⟩:=Option.map_eq_some_iff.mp e1
   exact D.sc p (List.mem_of_find?_eq_some hp)
  exact wpAny_getItem_of (mixKind_str _ _ k t) dk.mapOf hw ⟨scV dd,H2,I2.tok _,rw',q _ H2 sm (scV_rep hsc)⟩
 ·cases e1⟩
end
open PySem PySem.Spec PyProof.Rows L2
open PySem.W (Dat kqdOk)
section
variable {X:Cx} {a b c:Expr} {pos:Pos} {fa fb fc:Rho→Option Dat}
theorem qpft_leLe (ha:QF X a fa) (hb:QF X b fb) (hc:QF X c fc) (hm:lastMarks [.LtE,.LtE] [b,c]=false:=by with_unfolding_all rfl):QFT X (.Compare a [.LtE,.LtE] [b,c] pos) (fTest (f3c leD leD fa fb fc)):=⟨pft_chain op_le op_le opD_b opD_b ha.o hb.o hc.o hm⟩
end
open PySem PySem.Spec PyProof.Rows L2
open PySem.W (Dat kqdOk)
section
variable {K:Fg} {mg:Str→Option Value} {h:Heap} {x:Str}
theorem ci_mk {i:Int} {t:Tok} (X:K.In h) (G:h.Ns mainGlobals mg) (e:PySem.W.nsIn K mainGlobals x=some (some (.int i t))):∃t,mg x=some (.int i t):=⟨t,PySem.W.mg_of X G e⟩
theorem cs_mk {s:Str} {t:Tok} (X:K.In h) (G:h.Ns mainGlobals mg) (e:PySem.W.nsIn K mainGlobals x=some (some (.str s t))):∃t,mg x=some (.str s t):=⟨t,PySem.W.mg_of X G e⟩
theorem tc4_mk {a:Addr} {o:Option Addr} {n:Nat} {sl:Array (Option Value)} {s1 s2 s3 s4:Str} {t1 t2 t3 t4:Tok} (X:K.In h) (G:h.Ns mainGlobals mg) (e:PySem.W.nsIn K mainGlobals x=some (some (.ref a))) (l:K.lookup a=some ⟨.type "tuple",o,.seq #[.str s1 t1,.str s2 t2,.str s3 t3,.str s4 t4] n,sl⟩):∃a,TC K mg x [.str s1,.str s2,.str s3,.str s4] a:=
 ⟨a,PySem.W.mg_of X G e,⟨[.str s1,.str s2,.str s3,.str s4],_,_,_,l,rfl,rfl,Nat.le_of_lt (small1000 (by show 4≤1000;decide)),.cons ⟨_,rfl⟩ (.cons ⟨_,rfl⟩ (.cons ⟨_,rfl⟩ (.cons ⟨_,rfl⟩ .nil))),fun H Av=>.cons (.str _) (.cons (.str _) (.cons (.str _) (.cons (.str _) .nil)))⟩⟩
def EntOk (w:World):List DictEntry→List (Str×Dat)→Prop
 |[],[]=>True
 |e::es,p::kvs=>(∃t,e.key=.str p.1 t)∧e.hash=hashStr w p.1∧RelV (scV p.2) e.val∧EntOk w es kvs
 |_,_=>False
theorem ent_pairs {P:Program} {w:World}:∀{es:List DictEntry} {kvs:List (Str×Dat)},EntOk w es kvs→∃vs:List (L2.Key×Value),KV (kvV kvs) vs∧Pairs (mixKind P w) es vs∧vs.map (·.1)=kvs.map (fun p=>(Sum.inr p.1:L2.Key))∧∀e∈es,∃k,(mixKind P w).is k e.key=true∧e.hash=(mixKind P w).hash k
 |[],[],_=>⟨[],.nil,.nil,rfl,fun e he=>by cases he⟩
 |e::es,p::kvs,h=>by
  obtain⟨⟨t,h1⟩,h2,h3,h4⟩:=h
  obtain⟨vs,a,b,c,d⟩:=ent_pairs (P:=P) h4
  have hk:(mixKind P w).is (Sum.inr p.1) e.key=true:=by rw[h1];exact mixKind_str P w p.1 t
  refine⟨(Sum.inr p.1,e.val)::vs,.cons ⟨rfl,h3⟩ a,.cons hk rfl b,by rw[List.map_cons,List.map_cons,c],?_⟩
  intro e' he
  rcases List.mem_cons.mp he with rfl|he
  ·exact⟨_,hk,h2⟩
  ·exact d e' he
 |[],_::_,h=>h.elim
 |_::_,[],h=>h.elim
theorem dc_mk {P:Program} {w:World} {kvs:List (Str×Dat)} {a:Addr} {n:Nat} {es:Array DictEntry} (X:K.In h) (G:h.Ns mainGlobals mg) (e:PySem.W.nsIn K mainGlobals x=some (some (.ref a))) (l:K.lookup a=some ⟨.type "dict",none,.dict es n,#[]⟩) (hs:(a==sysModules)=false) (hes:EntOk w es.toList kvs) (nd:(kvs.map (·.1)).Nodup) (sc:∀p∈kvs,scD p.2=true):DC P w K mg x kvs:=by
 obtain⟨vs,a1,a2,a3,a4⟩:=ent_pairs (P:=P) hes
 refine⟨⟨a,vs,PySem.W.mg_of X G e,hs,a1,fun h' X'=>⟨_,es,n,X' a _ l,⟨rfl,rfl,rfl⟩,rfl,fun e he=>a4 e (by simpa using he),a2,?_⟩⟩,sc⟩
 rw[a3]
 have:kvs.map (fun p=>(Sum.inr p.1:L2.Key))=(kvs.map (·.1)).map Sum.inr:=by rw[List.map_map];rfl
 rw[this]
 exact List.pairwise_map.mpr (List.Pairwise.imp (fun{a b} h z=>h (by injection z)) nd)
end
open PySem PySem.Spec PyProof.Rows L2
open PySem.W (Dat kqdOk)
section
variable {X:Cx} {a:Expr} {fa:Rho→Option Dat} {pos:Pos} {e:Expr} {es:List Expr} {fs:Rho→Option (List Dat)}
def minD:List Dat→Option Dat
 |[.int i,.int j]=>some (.int (if j<i then j else i))
 |_=>none
theorem callD_min {K:Fg}:CallD K (fun xs H Q=>∃i j,xs=[.int i,.int j]∧Q (.int (if j<i then j else i)) H) minD:=by
 intro H Av xs ds d Q hA r h q
 unfold minD at h
 split at h
 ·cases h
  cases r with
  |cons r1 r2=>
   cases r2 with
   |cons r2 r3=>
    cases r3
    rw[r1.i_inv,r2.i_inv]
    exact⟨_,_,rfl,q _ H (Same.refl H) (.int _)⟩
 ·cases h
theorem qpf_min {p:Pos} (hc:X.calm=true) (hm:X.mg "min"=none) (ha:QFA X (e::es) fs) (hg:Gl X "min":=by rfl) (he:starEach (e::es) X.env=(false,eval e X.env)::starEach es X.env:=by rfl) (hpl:(backTo pos (starEach es X.env)).any (·.1)=false:=by rfl):QF X (.Call (.Name "min" p) (e::es) [] pos) (fCall minD fs):=
 ⟨pf_callB (call_min2 hc) callD_min hm ha.o hg (by decide +kernel) (by decide) (by decide) he hpl⟩
abbrev tyL:List String:=["bool","int","str","tuple","list"]
def is1 (t T:String):Bool:=decide (t=T) || (decide (t="bool")&&decide (T="int"))
def isD2 (T U:String):Dat→Option Dat:=fun d=>(tyD d).bind fun t=>if T∈tyL∧U∈tyL then some (.bool (is1 t T || is1 t U))else none
theorem kit_two (K:Fg) (t T U:String) (ht:t∈["NoneType","bool","int","str","tuple","list"]) (hT:T∈tyL) (hU:U∈tyL):PySem.W.kitAny K (.type t) [.type T,.type U]=some (is1 t T || is1 t U):=by
 have e1:=kit_any K t T ht hT
 have e2:=kit_any K t U ht hU
 unfold PySem.W.kitAny
 rw[e1]
 unfold is1
 cases(decide (t=T) || (decide (t="bool")&&decide (T="int")))with
 |true=>rfl
 |false=>
  show PySem.W.kitAny K (.type t) [.type U]=_
  unfold PySem.W.kitAny
  rw[e2]
  cases(decide (t=U) || (decide (t="bool")&&decide (U="int")))<;>rfl
theorem call_isinst2 (T U:String):CallR X (.builtin "isinstance") (fun xs H Q=>∃Av x d dd p,xs=[x,.ref p]∧SqT X.K H p [.ty T,.ty U]∧RepD X.K H Av x d∧isD2 T U d=some (.bool dd)∧Q (.bl dd) H):=by
 intro pins s σ H xs us Q I r h
 obtain⟨Av,x,d,dd,p,rfl,hp,rd,hi,q⟩:=h
 obtain⟨u,t,rfl,ru,rt⟩:=vals2 r
 cases(show t=Value.ref p from rt)
 obtain⟨its0,rv,⟨o0,k1,k2,m0,k3⟩,_⟩:=I.tuple hp
 obtain⟨v1,v2,rfl,rv1,rv2⟩:=vals2 rv
 cases(show v1=Value.type T from rv1)
 cases(show v2=Value.type U from rv2)
 obtain⟨cls,dict,data,slots⟩:=o0
 cases k2;cases k3
 obtain⟨ty,e1,hi⟩:=bind_some (show(tyD d).bind _=some (Dat.bool dd)from hi)
 split at hi
 ·rename_i hTU
  have hi':=(Option.some.inj hi).symm
  injection hi' with hi''
  have fin:∀tk,EP X pins σ Q (.bool dd) {s with toks:=tk}:=fun tk=>⟨.bl dd,H,I.tok tk,rfl,q⟩
  cases rd with
  |non=>cases e1;cases(show u=Value.none from ru);exact PySem.W.kia_tup PySem.W.kitx_none I.kIn True.intro k1 (by rw[kit_two _ _ _ _ (by simp) hTU.1 hTU.2,hi'']) (fun z=>nomatch z) fin
  |bl y=>cases e1;cases(show u=Value.bool y from ru);exact PySem.W.kia_tup PySem.W.kitx_bool I.kIn True.intro k1 (by rw[kit_two _ _ _ _ (by simp) hTU.1 hTU.2,hi'']) (fun z=>nomatch z) fin
  |int i=>cases e1;obtain⟨t,z⟩:=(show ∃t,u=Value.int i t from ru);cases z;exact PySem.W.kia_tup PySem.W.kitx_int I.kIn True.intro k1 (by rw[kit_two _ _ _ _ (by simp) hTU.1 hTU.2,hi'']) (fun z=>nomatch z) fin
  |str y=>cases e1;obtain⟨t,z⟩:=(show ∃t,u=Value.str y t from ru);cases z;exact PySem.W.kia_tup PySem.W.kitx_str I.kIn True.intro k1 (by rw[kit_two _ _ _ _ (by simp) hTU.1 hTU.2,hi'']) (fun z=>nomatch z) fin
  | @lst a xs ds hq rs=>
   cases e1
   cases(show u=Value.ref a from ru)
   obtain⟨its,_,⟨o,m,h1,h2,_⟩,_⟩:=I.list hq.sq
   exact PySem.W.kia_tup PySem.W.kitx_list I.kIn ⟨o,h1,h2⟩ k1 (by rw[kit_two _ _ _ _ (by simp) hTU.1 hTU.2,hi'']) (fun z=>nomatch z) fin
  | @tup a xs ds hq rs=>
   cases e1
   cases(show u=Value.ref a from ru)
   obtain⟨its,_,⟨o,h1,h2,_⟩,_⟩:=I.tuple hq.sq
   exact PySem.W.kia_tup PySem.W.kitx_tuple I.kIn ⟨o,h1,h2⟩ k1 (by rw[kit_two _ _ _ _ (by simp) hTU.1 hTU.2,hi'']) (fun z=>nomatch z) fin
 ·cases hi
theorem isD2_bool {T U:String} {d r:Dat} (h:isD2 T U d=some r):∃k,r=.bool k:=by
 obtain⟨t,e1,h⟩:=bind_some (show(tyD d).bind _=some r from h)
 split at h
 ·cases h;exact⟨_,rfl⟩
 ·cases h
theorem qpf_isinst2 {p p2 p3 p4:Pos} {x1:Nat} (T U:String) {TS US:Str} (hm:X.mg "isinstance"=none) (hm2:X.mg TS=none) (hm3:X.mg US=none) (ha:QF X a fa) (hv:bootBuiltins TS=some (.type T):=by decide +kernel) (hv2:bootBuiltins US=some (.type U):=by decide +kernel) (hg:Gl X "isinstance":=by rfl) (hg2:Gl X TS:=by rfl) (hg3:Gl X US:=by rfl) (hn:TS≠"__name__":=by decide) (hdb:(TS==("__debug__" : Str))=false:=by decide) (hn2:US≠"__name__":=by decide) (hdb2:(US==("__debug__" : Str))=false:=by decide)
  (he:starEach [a,.Tuple [.Name TS p2,.Name US p3] x1 p4] X.env=(false,eval a X.env)::starEach [.Tuple [.Name TS p2,.Name US p3] x1 p4] X.env:=by rfl) (he2:starEach [.Tuple [.Name TS p2,.Name US p3] x1 p4] X.env=(false,eval (.Tuple [.Name TS p2,.Name US p3] x1 p4) X.env)::starEach [] X.env:=by rfl) (he3:starEach [.Name TS p2,.Name US p3] X.env=(false,eval (.Name TS p2) X.env)::starEach [.Name US p3] X.env:=by rfl) (he4:starEach [.Name US p3] X.env=(false,eval (.Name US p3) X.env)::starEach [] X.env:=by rfl) (hpl:(backTo pos (starEach [.Tuple [.Name TS p2,.Name US p3] x1 p4] X.env)).any (·.1)=false:=by rfl):
  QF X (.Call (.Name "isinstance" p) [a,.Tuple [.Name TS p2,.Name US p3] x1 p4] [] pos) (f1 (isD2 T U) fa):=
 ⟨pe_mono (pe_callB (call_isinst2 T U) hg hm (by decide +kernel) (pa_cons ha.o (pa_cons (pe_tup (pa_cons (pe_bltn (v:=.ty T) hg2 hm2 hv rfl hn hdb) (pa_cons (pe_bltn (v:=.ty U) hg3 hm3 hv2 rfl hn2 hdb2) pa_nil he4) he3)) pa_nil he2) he) (by decide) (by decide) he hpl) fun σ H Q hzz=>by
  obtain⟨Av,ρ,d,hA,hE,hf,q⟩:=hzz
  obtain⟨dx,e1,hf⟩:=bind_some hf
  obtain⟨k,rfl⟩:=isD2_bool hf
  refine⟨Av,ρ,dx,hA,hE,e1,fun x H1 s1 r1=>?_⟩
  refine⟨Nat.le_of_lt (small1000 (by show 2≤1000;decide)),fun p hp=>?_⟩
  have sn:=same_new hp (.tup [.ty T,.ty U])
  exact⟨Av,x,dx,k,p,rfl,.inl (.inl (upd_same)),r1.same sn,hf,q _ _ (s1.trans sn) (.bl k)⟩⟩
theorem qpfp_nil {p:Pos}:PFP X p [] [] [] fNil:=pfp_nil
theorem qpfp_cons {k:Str} {j:Nat} {p dp:Pos} {v:Expr} {f:Rho→Option Dat} {keys:List (Option Expr)} {values:List Expr} {ks:List Str} (hv:QF X v f) (hr:PFP X dp keys values ks fs):PFP X dp (some (.Constant (.str k) j p)::keys) (v::values) (k::ks) (fCons f fs):=pfp_cons hv.o hr
theorem qpf_disp {dpos:Pos} {keys:List (Option Expr)} {values:List Expr} {ks:List Str} {k:Nat} {fk:Rho→Option Dat} (hr:Room k X.A) (h:PFP X dpos keys values ks fs) (hk:QF X e fk) (nd:ks.Nodup) (hall:keys.all (·.isSome)=true:=by rfl) (hl:keys.length=values.length:=by rfl) (h0:keys≠[]:=by simp) (h15:keys.length≤15:=by decide) (hs:NoSl e:=by exact fun _ _=>rfl):QF X (.Subscript (.Dict keys values dpos) e pos) (fDisp ks fs fk):=⟨pf_disp hr h hk.o nd hall hl h0 h15 hs⟩
end
open PySem PySem.Spec PyProof.Rows L2
open PySem.W (Dat kqdOk)
section
variable {X:Cx} {a e:Expr} {pos:Pos} {f:Rho→Option Dat} {fs:Rho→Option (List Dat)}
def hPopA (i:Nat) (f:Rho→Option Dat):HF:=fun Γ=>match Γ[i]? with
 |some (some (.own ds))=>match f (allV Γ)with
  |some (.int j)=>if -(2^63)≤j∧j<2^63 then(seqIndex? j ds.length).bind fun k=>(ds[k]?).map fun d=>(d,Γ.set i (some (.own (ds.eraseIdx k))))else none
  |_=>none
 |_=>none
theorem RepDs.eraseIdx {K:Fg} {H:Hp} {Av:AvP}:∀{vs:List V} {ds:List Dat} (k:Nat),RepDs K H Av vs ds→RepDs K H Av (vs.eraseIdx k) (ds.eraseIdx k)
 |_,_,_,.nil=>.nil
 |_,_,0,.cons _ r=>r
 |_,_,k+1,.cons h r=>.cons h (RepDs.eraseIdx k r)
theorem qph_pop (i:Nat) {x:Str} {p1 p2 p3:Pos} (h:QF X e f) (hN:X.N[i]?=some x:=by rfl) (hv:Vis X.env.scope x:=by first|exact Or.inl rfl|exact Or.inr (Or.inl rfl)|exact Or.inr (Or.inr rfl)) (hd:(x==("__debug__" : Str))=false:=by decide)
  (hcd:(x==("__classdict__" : Str))=false:=by decide) (hbase:attributeBase (.Name x p1) "pop" X.env (eval (.Name x p1) X.env)=eval (.Name x p1) X.env:=by rfl)
  (hfew:((backTo p3 (starEach [e] X.env)).all (fun x=>!x.1)&&(backToKw p3 (keywordEach [] X.env)).all (fun x=>x.1.isSome)&&decide (([e]:List Expr).length+([]:List Keyword).length+(if([]:List Keyword).isEmpty then 0 else 1)<30))=true:=by rfl)
  (hline:(p2.endLine==p3.line)=true:=by rfl) (hs1:starEach [e] X.env=(false,eval e X.env)::starEach [] X.env:=by rfl) (hplain:(backTo p3 (starEach [] X.env)).any (·.1)=false:=by rfl):QH X (.Call (.Attribute (.Name x p1) "pop" p2) [e] [] p3) (hPopA i f):=
 ⟨pe_mono (pe_bm PySem.F.plainAttrs_list PySem.F.slot_list_pop PySem.F.type_list_pop mt_popAt (pe_var hN hv hd hcd) (pa_cons h.o pa_nil hs1) hbase hfew hline hs1 hplain) fun σ H Q hzz=>by
 obtain⟨H₀,Av,pn,hid,Γ,ad,d,Γ',G,hf,q⟩:=hzz
 unfold hPopA at hf
 split at hf
 ·rename_i ds hi
  split at hf
  ·rename_i j ej
   split at hf
   ·rename_i hj
    obtain⟨k,ek,hf⟩:=bind_some hf
    obtain⟨dd,ed,hf⟩:=map_some' hf
    cases hf
    obtain⟨xs,g1,g2,g3,g4⟩:=G.own i ds hi
    refine⟨_,g1,.inl ⟨rfl,xs,.of g2⟩,Av,allV Γ,.int j,G.avt.same G.same,G.envA,ej,fun v H1 s1 r=>?_⟩
    have ev:=r.i_inv
    subst ev
    have G1:=G.grow s1
    obtain⟨xs1,k1,k2,k3,k4⟩:=G1.own i ds hi
    obtain⟨y,hy,ry⟩:=k3.get ed
    refine⟨_,xs1,j,k,y,rfl,rfl,k2,hj.1,hj.2,by rw[k3.length];exact ek,hy,q _ _ ad (G1.change hi (k3.eraseIdx k)) ?_⟩
    refine ry.mono fun b o hb n=>?_
    have hne:b≠ad i:=fun z=>n (.inr ⟨i,_,hi,rfl,z.symm⟩)
    refine⟨by rw[upd_ne hne];exact hb,?_⟩
    rintro(z|⟨j',fs,e',m,z⟩)
    ·exact n (.inl z)
    ·rcases set_get e' with⟨e1,_⟩|⟨e1,q1⟩
     ·subst e1;exact hne z.symm
     ·exact n (.inr ⟨j',fs,q1,m,z⟩)
   ·cases hf
  ·cases hf
 ·cases hf⟩
theorem pe_rangeO {p:Pos} {ta:TA} (hg:Gl X "range") (hm:X.mg "range"=none) (ha:PA X [a] ta) (hs:starEach [a] X.env=[(false,eval a X.env)]:=by rfl):
  PE X (.Call (.Name "range" p) [a] [] pos) (fun σ H Q=>ta σ H fun vs H1=>∃j:Int,vs=[.int j]∧∀r,H1 r=none→Q (.ref r) (upd H1 r (.rng 0 j))):=by
 intro pins s σ H Q I h
 refine Call_ (ld_blt I hg hm boot_range (PyProof.Rows.callWith_type1 (thn (ha pos pins s σ H _ I h) fun us s1 ⟨vs,H1,I1,r1,q1⟩=>?_) hs rfl))
 obtain⟨j,e,q⟩:=q1
 subst e
 cases r1 with
 |cons r rr=>
  cases rr
  obtain⟨t,rfl⟩:=r
  refine call_range_1 ⟨.ref s1.heap.objs.size,_,I1.laid (t':=s1.toks+1+1) (fun b u e=>Heap.get?_push_of_some _ e) (Nat.le_refl _) (o:=.rng 0 j) ?_,rfl,q _ (I1.hok.fresh (Nat.le_refl _))⟩
  exact⟨_,_,_,Heap.get?_push_size _ rfl⟩
theorem call_list_rng (hc:X.calm=true):CallR X (.type "list") (fun xs H Q=>∃r j,xs=[.ref r]∧H r=some (.rng 0 j)∧j≤1000∧-1000≤j∧∀l,H l=none→Q (.ref l) (upd H l (.lst ((List.range j.toNat).map fun i:Nat=>V.int (i:Int))))):=by
 intro pins s σ H xs us Q I r h
 obtain⟨p,j,rfl,hq,hj,hj0,q⟩:=h
 obtain⟨u,rfl,rx⟩:=vals1 r
 cases rx
 obtain⟨t,u,v,e⟩:=I.hok p _ hq
 refine call_list_range (I.ok.hd hc) (show IsRange s.heap p 0 j 1 t u v from e) (small_one (by decide) (by decide) (by omega) (by omega)) (n:=j.toNat) (by rw[rangeSize_one];split<;>omega) (by omega) fun h' tk acc c' kp eh hi=>?_
 have hv:Vals ((List.range j.toNat).map fun i:Nat=>V.int (i:Int)) acc.toList:=by
  obtain⟨hz,ha⟩:=hi
  have key:∀(n:Nat) (l:List Value) (b:Nat),l.length=n→(∀(i:Nat) (v:Value),l[i]?=some v→∃t,v=Value.int ((b+i:Nat):Int) t)→Vals ((List.range' b n).map fun i:Nat=>V.int (i:Int)) l:=by
   intro n
   induction n with
   |zero=>intro l b hl _;rw[List.length_eq_zero_iff.mp hl];exact .nil
   |succ n ih=>
    intro l b hl ha
    cases l with
    |nil=>cases hl
    |cons w l=>
     rw[List.range'_succ,List.map_cons]
     refine .cons ?_ (ih l (b+1) (by simpa using hl) fun i v hv=>?_)
     ·obtain⟨t,e⟩:=ha 0 w rfl
      exact⟨t,e⟩
     ·obtain⟨t,e⟩:=ha (i+1) v (by simpa using hv)
      exact⟨t,by rw[e,show b+1+i=b+(i+1) by omega]⟩
  rw[List.range_eq_range']
  refine key j.toNat acc.toList 0 (by rw[Array.length_toList];exact hz) fun i v hv=>?_
  obtain⟨t,e⟩:=ha i v (by rw[← Array.getElem?_toList];exact hv)
  exact⟨t,by rw[e,Nat.zero_add];simp⟩
 refine⟨.ref s.heap.objs.size,_,I.laid (t':=tk) kp (Nat.le_refl _) (o:=.lst ((List.range j.toNat).map fun i:Nat=>V.int (i:Int))) ⟨?_,acc.toList,c',hv,by simpa using eh⟩,rfl,q _ (I.hok.fresh (Nat.le_refl _))⟩
 rw[List.length_map,List.length_range]
 exact Nat.le_of_lt (small1000 (by omega))
def rngL:List Dat→Option (List Dat)
 |[.int j]=>if j≤1000∧-1000≤j then some (rngD 0 j.toNat)else none
 |_=>none
theorem RepDs.rngN {K:Fg} {H:Hp} {Av:AvP} (n:Nat):RepDs K H Av ((List.range n).map fun i:Nat=>V.int (i:Int)) (rngD 0 n):=by
 unfold rngD
 induction List.range n with
 |nil=>exact .nil
 |cons i l ih=>
  rw[List.map_cons,List.map_cons]
  refine .cons ?_ ih
  rw[Int.zero_add];exact .int _
theorem qpfl_lrange {p p2 pos2:Pos} (hc:X.calm=true) (hl:X.mg "list"=none) (hm:X.mg "range"=none) (ha:QFA X [a] fs) (hgl:Gl X "list":=by rfl) (hg:Gl X "range":=by rfl) (hs:starEach [a] X.env=[(false,eval a X.env)]:=by rfl)
  (he:starEach [.Call (.Name "range" p2) [a] [] pos2] X.env=(false,eval (.Call (.Name "range" p2) [a] [] pos2) X.env)::starEach [] X.env:=by rfl) (hpl:(backTo pos (starEach [] X.env)).any (·.1)=false:=by rfl):
  QE X (.Call (.Name "list" p) [.Call (.Name "range" p2) [a] [] pos2] [] pos) (tFL X.K fun ρ=>(fs ρ).bind rngL):=⟨pe_mono (pe_callTy (call_list_rng hc) hgl hl (by decide +kernel) (pa_cons (pe_rangeO hg hm ha.o hs) pa_nil he) (by decide) (by decide) he hpl) fun σ H Q hzz=>by
 obtain⟨Av,ρ,ds,hA,hE,hf,q⟩:=hzz
 obtain⟨ds',e1,hf⟩:=bind_some hf
 unfold rngL at hf
 split at hf
 ·rename_i j
  split at hf
  ·rename_i hj
   cases hf
   refine⟨Av,ρ,_,hA,hE,e1,fun vs H1 s1 r1=>?_⟩
   cases r1 with
   |cons r rr=>
    cases rr
    have ev:=r.i_inv
    subst ev
    refine⟨j,rfl,fun r hr=>⟨r,j,rfl,upd_same,hj.1,hj.2,fun l hl=>?_⟩⟩
    exact q _ l _ (s1.trans (same_new hr _)) hl (RepDs.rngN _)
  ·cases hf
 ·cases hf⟩
end
open PySem PySem.Spec PyProof.Rows L2
open PySem.W (Dat kqdOk)
def spB (K:Fg) (n j:Nat) (F:List Dat→Option Dat):Sp:=fun vs H Q _=>∃Av a vs1 vs2 xs ds es1 es2 d,vs=vs1++.ref a::vs2∧AvT H Av∧Av a∧H a=some (.lst xs)∧RepDs K H Av xs ds∧RepDs K H Av vs1 es1∧RepDs K H Av vs2 es2∧es1.length=j∧j+1+es2.length=n∧F (es1++.list ds::es2)=some d∧
 ∀v H',Same H H'→RepD K H' Av v d→Q v H'
structure DnB (P:Program) (w:World) (K:Fg) (mg:Str→Option Value) (base:Heap) (k:Nat) (x:Str) (ps:List Str) (n j:Nat) (F:List Dat→Option Dat):Prop where
 ex:∃(f:Addr) (fd:FuncData),FnOk P w K mg base CX0 k f fd ps (spB K n j F)∧mg x=some (.ref f)∧PySem.W.keepIn K (.ref f)=true∧Binds K fd ps []
theorem DnB.up {P:Program} {w:World} {K:Fg} {mg:Str→Option Value} {base:Heap} {i k:Nat} {x:Str} {ps:List Str} {n j:Nat} {F:List Dat→Option Dat} (D:DnB P w K mg base i x ps n j F) (h:i≤k):DnB P w K mg base k x ps n j F:=by
 obtain⟨f,fd,h1,h2⟩:=D.ex
 exact⟨f,fd,h1.mono h,h2⟩
def startB (N:List Str) (a:Addr) (xs:List V) (ds es1 es2:List Dat):Gam:=es1.map (fun d=>some (.imm d))++some (.brw a xs ds)::(es2.map (fun d=>some (.imm d))++List.replicate (N.length-(es1.length+1+es2.length)) none)
theorem startB_get {K:Fg} {H:Hp} {Av:AvP} {N:List Str} {a:Addr} {xs vs1 vs2:List V} {ds es1 es2:List Dat} (r1:RepDs K H Av vs1 es1) (r2:RepDs K H Av vs2 es2) {i:Nat} {s:Slot} (h:(startB N a xs ds es1 es2)[i]?=some (some s)):
  (i=es1.length∧s=.brw a xs ds)∨∃d v,s=.imm d∧(start N (vs1++.ref a::vs2))[i]?=some (some v)∧RepD K H Av v d:=by
 unfold startB at h
 unfold L2.start
 have hl1:=r1.length
 have hl2:=r2.length
 rw[List.map_append,List.map_cons]
 by_cases hi:i<es1.length
 ·rw[List.getElem?_append_left (by rw[List.length_map];exact hi),List.getElem?_map,List.getElem?_eq_getElem hi]at h
  cases h
  obtain⟨v,hv,rv⟩:=r1.get (List.getElem?_eq_getElem hi)
  refine .inr ⟨_,v,rfl,?_,rv⟩
  rw[List.append_assoc,List.getElem?_append_left (by rw[List.length_map,hl1];exact hi),List.getElem?_map,hv];rfl
 ·rw[List.getElem?_append_right (by rw[List.length_map];omega),List.length_map]at h
  cases hk:i-es1.length with
  |zero=>
   rw[hk]at h
   cases h
   exact .inl ⟨by omega,rfl⟩
  |succ k=>
   rw[hk,List.getElem?_cons_succ]at h
   by_cases hk2:k<es2.length
   ·rw[List.getElem?_append_left (by rw[List.length_map];exact hk2),List.getElem?_map,List.getElem?_eq_getElem hk2]at h
    cases h
    obtain⟨v,hv,rv⟩:=r2.get (List.getElem?_eq_getElem hk2)
    refine .inr ⟨_,v,rfl,?_,rv⟩
    rw[List.append_assoc,List.getElem?_append_right (by rw[List.length_map,hl1];omega),List.length_map,hl1,hk,List.cons_append,List.getElem?_cons_succ,List.getElem?_append_left (by rw[List.length_map,hl2];exact hk2),List.getElem?_map,hv];rfl
   ·rw[List.getElem?_append_right (by rw[List.length_map];omega),List.getElem?_replicate]at h
    split at h<;>cases h
theorem ga_startB {K:Fg} {H:Hp} {Av:AvP} {N:List Str} {a:Addr} {xs vs1 vs2:List V} {ds es1 es2:List Dat} (hA:AvT H Av) (ha:Av a) (hx:H a=some (.lst xs)) (rx:RepDs K H Av xs ds) (r1:RepDs K H Av vs1 es1) (r2:RepDs K H Av vs2 es2):
  GA K (fun b=>if b=a then none else H b) (fun b=>Av b∧b≠a) none [] H (start N (vs1++.ref a::vs2)) (startB N a xs ds es1 es2) (fun _=>a):=by
 have wk:∀b,AvG (fun b=>Av b∧b≠a) (startB N a xs ds es1 es2) (fun _=>a) b→Av b:=by
  rintro b (z|⟨i,fs,_,_,rfl⟩)
  ·exact z.1
  ·exact ha
 have hl1:=r1.length
 have hl2:=r2.length
 refine⟨fun b o h=>?_,fun b z=>?_,?_,fun i d h=>?_,fun i fs h=>?_,fun i j fs gs h1 h2 m1 m2 _=>?_,fun p hp=>absurd hp (by simp),(fun a' fs e _=>by cases e),fun i O fs h=>?_,fun i a' zs fs h=>?_⟩
 ·split at h
  ·cases h
  ·exact h
 ·obtain⟨o,e⟩:=hA b z.1
  exact⟨o,by rw[if_neg z.2];exact e⟩
 ·unfold L2.start startB
  simp only[List.map_append,List.map_cons,List.cons_append,List.length_cons,List.length_append,List.length_map,List.length_replicate,hl1,hl2]
  omega
 ·rcases startB_get (N:=N) (xs:=xs) (ds:=ds) (a:=a) r1 r2 h with⟨_,e⟩|⟨d',v,e,hv,rv⟩
  ·cases e
  ·cases e;exact⟨v,hv,rv.weak wk⟩
 ·rcases startB_get (N:=N) (xs:=xs) (ds:=ds) (a:=a) r1 r2 h with⟨_,e⟩|⟨d',v,e,hv,rv⟩<;>cases e
 ·rcases startB_get (N:=N) (xs:=xs) (ds:=ds) (a:=a) r1 r2 h1 with⟨e1,_⟩|⟨d',v,e,hv,rv⟩
  ·rcases startB_get (N:=N) (xs:=xs) (ds:=ds) (a:=a) r1 r2 h2 with⟨e2,_⟩|⟨d',v,e,hv,rv⟩
   ·rw[e1,e2]
   ·rw[e]at m2;cases m2
  ·rw[e]at m1;cases m1
 ·rcases startB_get (N:=N) (xs:=xs) (ds:=ds) (a:=a) r1 r2 h with⟨_,e⟩|⟨d',v,e,hv,rv⟩<;>cases e
 ·rcases startB_get (N:=N) (xs:=xs) (ds:=ds) (a:=a) r1 r2 h with⟨e1,e⟩|⟨d',v,e,hv,rv⟩
  ·cases e
   refine⟨rfl,?_,hx,rx.weak wk,by rw[if_pos rfl]⟩
   unfold L2.start
   rw[List.map_append,List.map_cons,List.append_assoc,List.getElem?_append_right (by rw[List.length_map];omega),List.length_map,e1,hl1,Nat.sub_self];rfl
  ·cases e
def OkB (N:List Str) (j:Nat) (g:Gam→Option Fl) (es:List Dat) (d:Dat):Prop:=∃es1 ds es2,es=es1++Dat.list ds::es2∧es1.length=j∧∀a xs,∃Γ',g (startB N a xs ds es1 es2)=some (.rm d Γ')∧Γ'[j]?=some (some (.brw a xs ds))
noncomputable def runB (N:List Str) (j:Nat) (g:Gam→Option Fl):List Dat→Option Dat:=open Classical in fun es=>if h:∃d,OkB N j g es d then some h.choose else none
theorem runB_ok {N:List Str} {j:Nat} {g:Gam→Option Fl} {es1 ds es2:List Dat} {d:Dat} (hl:es1.length=j) (h:∀a xs,∃Γ',g (startB N a xs ds es1 es2)=some (.rm d Γ')∧Γ'[j]?=some (some (.brw a xs ds))):runB N j g (es1++.list ds::es2)=some d:=by
 have hx:∃d,OkB N j g (es1++.list ds::es2) d:=⟨d,es1,ds,es2,rfl,hl,h⟩
 unfold runB
 rw[dif_pos hx]
 obtain⟨fs1,fs,fs2,e,l,k⟩:=hx.choose_spec
 obtain⟨e1,e2⟩:=List.append_inj e (hl.trans l.symm)
 injection e2 with e2 e3
 injection e2 with e2
 subst e1 e2 e3
 obtain⟨_,k1,_⟩:=k 0 []
 obtain⟨_,h1,_⟩:=h 0 []
 rw[h1]at k1
 injection k1 with k1
 injection k1 with k1 _
 rw[← k1]
theorem qdnB {P:Program} {w:World} {K:Fg} {mg:Str→Option Value} {base:Heap} {x:Str} {st:Stmt} {ps:List Str} {k n:Nat} (N:List Str) (j:Nat) (U:FnAt K mg x st ps) {g:Gam→Option Fl} (hbody:N.Nodup→∀(fa:Addr) (cdv:Value) (A:Around) (outer:List Env) (s:Shared) (H:Hp) (E:XK),Room k (A.deeper (envOfC x (defScope st) s.heap.objs.size fa cdv))→QSFs (cxOf CX0 P w K mg base N x (defScope st) fa cdv A outer s H E).nox (defBody st) g)
  (S:FnScope N ps (defScope st):=by exact⟨rfl,rfl,rfl,by decide +kernel,rfl,by decide +kernel,by decide +kernel⟩) (hn:ps.length=n:=by rfl):DnB P w K mg base (k+1) x ps n j (runB N j g):=by
 obtain⟨fa,fd,U,hm,hB⟩:=U.ex
 refine⟨fa,fd,U.ok S (fun vs H Q E h=>?_) (fun cdv A outer s H vs Q E hr h=>?_),hm,U.kp,hB⟩
 ·obtain⟨Av,a,vs1,vs2,xs,ds,es1,es2,d,rfl,_,_,_,_,r1,r2,hl,hl2,_⟩:=h
  rw[List.length_append,List.length_cons,r1.length,r2.length,hn];omega
 ·obtain⟨Av,a,vs1,vs2,xs,ds,es1,es2,d,rfl,hA,ha,hx,rx,r1,r2,hl,hl2,hd,q⟩:=h
  have hd':OkB N j g (es1++.list ds::es2) d:=by
   unfold runB at hd
   split at hd
   ·rename_i h
    cases hd
    exact h.choose_spec
   ·cases hd
  obtain⟨fs1,fs,fs2,e,l,kk⟩:=hd'
  obtain⟨e1,e2⟩:=List.append_inj e (hl.trans l.symm)
  injection e2 with e2 e3
  injection e2 with e2
  subst e1 e2 e3
  obtain⟨Γ1,hg,h0⟩:=kk a xs
  refine⟨_,(hbody S.nd fa cdv A outer s H E hr).o,?_⟩
  refine⟨_,_,none,[],_,_,⟨_,ga_startB hA ha hx rx r1 r2⟩,hg,fun σ' v H' ad' G' rv=>?_⟩
  obtain⟨y0,y1,y2,y3,y4⟩:=G'.brw j a xs ds h0
  have wk:∀b,Av b→AvG (fun b=>Av b∧b≠a) Γ1 ad' b:=fun b z=>by
   by_cases eb:b=a
   ·exact .inr ⟨j,_,h0,rfl,y0.trans eb.symm⟩
   ·exact .inl ⟨z,eb⟩
  refine q v H' (fun b o h=>?_) (rv.weak wk)
  by_cases eb:b=a
  ·subst eb;rw[hx]at h;cases h;exact y2
  ·exact G'.same b o (by rw[if_neg eb];exact h)
section
variable {X:Cx} {e e0:Expr} {es:List Expr} {pos:Pos} {f0:Rho→Option Dat} {fs:Rho→Option (List Dat)}
def hBrw (i n:Nat) (F:List Dat→Option Dat) (f0:Rho→Option Dat) (fs:Rho→Option (List Dat)):HF:=fun Γ=>match Γ[i]? with
 |some (some (.own ds))=>(f0 (immV Γ)).bind fun d0=>(fs (immV Γ)).bind fun us=>if us.length+2=n then(F (d0::.list ds::us)).map fun d=>(d,Γ)else none
 |_=>none
theorem qph_brw (i:Nat) {x y:Str} {p p1:Pos} {k n:Nat} {ps:List Str} {F:List Dat→Option Dat} (D:DnB X.prog X.w X.K X.mg X.base k x ps n 1 F) (hr:Room k X.A) (h0:QF X e0 f0) (pa:QFA X es fs)
  (hN:X.N[i]?=some y:=by rfl) (hv:Vis X.env.scope y:=by first|exact Or.inl rfl|exact Or.inr (Or.inl rfl)|exact Or.inr (Or.inr rfl)) (hd:(y==("__debug__" : Str))=false:=by decide) (hcd:(y==("__classdict__" : Str))=false:=by decide)
  (hg:Gl X x:=by rfl) (hdb:(x==("__debug__" : Str))=false:=by decide)
  (he:starEach (e0::.Name y p1::es) X.env=(false,eval e0 X.env)::starEach (.Name y p1::es) X.env:=by rfl) (he2:starEach (.Name y p1::es) X.env=(false,eval (.Name y p1) X.env)::starEach es X.env:=by rfl) (hpl:(backTo pos (starEach (.Name y p1::es) X.env)).any (·.1)=false:=by rfl):QH X (.Call (.Name x p) (e0::.Name y p1::es) [] pos) (hBrw i n F f0 fs):=by
 obtain⟨f,fd,h1,h2,h3,h4⟩:=D.ex
 refine⟨pe_mono (pe_call h1 hr hg h2 h3 h4 .nil pass0 (pa_cons h0.o (pa_cons (pe_var hN hv hd hcd) pa.o he2) he) hdb he hpl) fun σ H Q ⟨H₀,Av,pn,hid,Γ,ad,d,Γ',G,hf,q⟩=>?_⟩
 unfold hBrw at hf
 split at hf
 ·rename_i ds hi
  obtain⟨d0,e1,hf⟩:=bind_some hf
  obtain⟨us,e2,hf⟩:=bind_some hf
  split at hf
  ·rename_i hl
   obtain⟨d',e3,hf⟩:=map_some' hf
   obtain⟨ed,eΓ⟩:=Prod.mk.inj hf
   subst ed
   subst eΓ
   refine⟨AvG Av Γ ad,immV Γ,d0,G.avG,G.envI,e1,fun v0 H1 s1 r0=>?_⟩
   have G1:=G.grow s1
   obtain⟨xs1,k1,k2,k3,k4⟩:=G1.own i ds hi
   refine⟨_,k1,AvG Av Γ ad,immV Γ,us,G1.avG,G1.envI,e2,fun vs H2 s2 r2=>?_⟩
   have G2:=G1.grow s2
   obtain⟨xs2,l1,l2,l3,l4⟩:=G2.own i ds hi
   exact⟨AvG Av Γ ad,ad i,[v0],vs,xs2,ds,[d0],us,d',by rw[List.append_nil];rfl,G2.avG,.inr ⟨i,_,hi,rfl,rfl⟩,l2,l3,.cons (r0.same s2) .nil,r2,rfl,by omega,e3,fun v H' s3 rv=>q v H' ad (G2.grow s3) rv⟩
  ·cases hf
 ·cases hf
end
section
variable {X:Cx} {tg iter elt:Expr} {pos:Pos} {fi:Rho→Option (List Dat)} {gt:Dat→Option Asg}
theorem RepDs.sc {K:Fg} {H:Hp} {Av Av':AvP}:∀{vs:List V} {ds:List Dat},RepDs K H Av vs ds→ds.all scD=true→RepDs K H Av' vs ds
 |_,_,.nil,_=>.nil
 |_,_,.cons h r,s=>by
  rw[List.all_cons,Bool.and_eq_true]at s
  exact .cons (h.sc s.1) (RepDs.sc r s.2)
def sSetCS (i:Nat) (f:Rho→Option (List Dat)):Gam→Option Fl:=fun Γ=>(f (allV Γ)).bind fun ds=>if ds.all scD=true then some (.nx (Γ.set i (some (.imm (.list ds)))))else none
theorem qpsf_setCS (i:Nat) {x:Str} {pos' spos:Pos} {ifs:List Expr} {scope:Scope} {cl:List (Str×Addr)} {N':List Str} {cap:List (Option Nat)} {ft:Rho→Option Bool} {fe:Rho→Option Dat}
  (hN:X.N.Nodup) (hc:X.calm=true) (B:Blk X scope cl N' cap) (hi:QIF X tg iter fi) (hg:∀C s₀ H₀ ex,QG (blk X scope cl N' C s₀ H₀ ex) tg (tGF X.K gt)) (ht:∀C s₀ H₀ ex,QTs (blk X scope cl N' C s₀ H₀ ex) ifs (tTF X.K ft)) (he:∀C s₀ H₀ ex,QF (blk X scope cl N' C s₀ H₀ ex) elt fe) (hT:TgOk gt cap)
  (hxi:X.N[i]?=some x:=by rfl) (hx:Loc X.env.scope x:=by first|exact .inl rfl|exact .inr rfl) (hsw:swapsWith (.ListComp elt [⟨tg,iter,ifs,0⟩] scope pos) (some (.Name x pos')) spos.line X.env=pure true:=by rfl)
  (hfx:X.fn x=true∨X.env.scope.names.lookup x=some .local:=by first|exact .inl rfl|exact .inr rfl) (hs:∀x,foldedSetIterable iter X.env x=pure x:=by intro _;rfl):
  QSF X (.Assign [.Name x pos'] (.ListComp elt [⟨tg,iter,ifs,0⟩] scope pos) spos) (sSetCS i (fCompI cap gt ft fe fi)):=⟨ps_mono (ps_comp hc B hi.o (fun C s₀ H₀ ex=>(hg C s₀ H₀ ex).o) (fun C s₀ H₀ ex=>(ht C s₀ H₀ ex).o) (fun C s₀ H₀ ex=>(he C s₀ H₀ ex).o) hN hxi hx hsw hfx hs) fun D σ H hzz=>by
 obtain⟨H₀,Av,pn,hid,Γ,fl,⟨ad,G⟩,hf,q⟩:=hzz
 obtain⟨ds,e1,hf⟩:=bind_some hf
 split at hf
 ·rename_i hz
  cases hf
  exact tComp_I hT σ H _ ⟨Av,allV Γ,ds,G.avt.same G.same,G.envA,e1,fun H1 p xs s hp r=>q _ _ ⟨ad,((G.grow s).grow (same_new hp _)).set i (.newL (G.grow s).avG hp (r.sc hz))⟩⟩
 ·cases hf⟩
end
open PySem PySem.Spec PyProof.Rows L2
open PySem.W (Dat kqdOk)
abbrev WZ:=Hp→AvP→Option Addr→Hid→Gam→Ends→Prop
def tZ (K:Fg) (z:Gam→Option Gam) (W:WZ):TS:=fun D σ H=>∃H₀ Av pn hid Γ Γ',GEnv K H₀ Av pn hid H σ Γ∧z Γ=some Γ'∧W H₀ Av pn hid Γ' D
structure QZ (X:Cx) (body:List Stmt) (z:Gam→Option Gam) (W:WZ):Prop where
 o:PSs X body (tZ X.K z W)
def zSeq (g:Gam→Option Fl) (z:Gam→Option Gam):Gam→Option Gam:=fun Γ=>(g Γ).bind fun fl=>match fl with
 | .nx Γ'=>z Γ'
 |_=>none
def zEnd:Gam→Option Gam:=fun Γ=>some Γ
def rmA (H:Hp) (a:Addr):Hp:=fun b=>if b=a then none else H b
theorem rmA_ne {H:Hp} {a b:Addr} (h:b≠a):rmA H a b=H b:=if_neg h
theorem rmA_self {H:Hp} {a:Addr}:rmA H a a=none:=if_pos rfl
theorem rmA_upd {H:Hp} {a:Addr} {o:HO} (h:H a=some o):upd (rmA H a) a o=H:=by
 funext b
 by_cases e:b=a
 ·subst e;rw[upd_same,h]
 ·rw[upd_ne e,rmA_ne e]
theorem RepD.scH {K:Fg} {H H':Hp} {Av Av':AvP} {v:V} {d:Dat} (h:RepD K H Av v d) (s:scD d=true):RepD K H' Av' v d:=by
 cases h with
 |non=>exact .non
 |bl b=>exact .bl b
 |int i=>exact .int i
 |str x=>exact .str x
 |tup _ _=>cases s
 |lst _ _=>cases s
section
variable {X:Cx} {st:Stmt} {rest:List Stmt} {g:Gam→Option Fl} {z:Gam→Option Gam} {W:WZ} {pos:Pos} {e2 e3:Expr} {f2:Rho→Option (List Dat)} {f3:Rho→Option Dat}
theorem qz_cons (h:QSF X st g) (h2:QZ X rest z W):QZ X (st::rest) (zSeq g z) W:=⟨pss_mono (pss_cons h.o h2.o) fun D σ H hzz=>by
 obtain⟨H₀,Av,pn,hid,Γ,Γ',G,hz,hw⟩:=hzz
 obtain⟨fl,e1,hz⟩:=bind_some hz
 cases fl with
 |nx Γ1=>exact⟨H₀,Av,pn,hid,Γ,_,G,e1,fun σ' H' G'=>⟨H₀,Av,pn,hid,Γ1,Γ',G',hz,hw⟩⟩
 |rt d=>cases hz
 |bk Γ1=>cases hz
 |ct Γ1=>cases hz
 |rm d Γ1=>cases hz⟩
def wOwn (K:Fg) (i:Nat):WZ:=fun H₀ Av _ _ Γ D=>∃ds,Γ[i]?=some (some (.own ds))∧∀H1 p xs,Same H₀ H1→H1 p=none→RepDs K H1 Av xs ds→D.rt (.ref p) (upd H1 p (.lst xs))
theorem qz_own (i:Nat) {x:Str} {p:Pos} (hN:X.N[i]?=some x:=by rfl) (hv:Vis X.env.scope x:=by first|exact Or.inl rfl|exact Or.inr (Or.inl rfl)|exact Or.inr (Or.inr rfl)) (hd:(x==("__debug__" : Str))=false:=by decide)
  (hcd:(x==("__classdict__" : Str))=false:=by decide):QZ X [.Return (some (.Name x p)) pos] zEnd (wOwn X.K i):=⟨pss_mono (pss_one (ps_ret (pe_var hN hv hd hcd))) fun D σ H hzz=>by
 obtain⟨H₀,Av,pn,hid,Γ,Γ',⟨ad,G⟩,hz,ds,hi,q⟩:=hzz
 cases hz
 obtain⟨xs,g1,g2,g3,g4⟩:=G.own i ds hi
 refine⟨.ref (ad i),g1,?_⟩
 have key:=q (rmA H (ad i)) (ad i) xs (fun b o h=>by rw[rmA_ne (ne_of_none h g4)];exact G.same b o h) rmA_self (g3.mono fun b o h n=>⟨by rw[rmA_ne fun z=>n (.inr ⟨i,_,hi,rfl,z.symm⟩)];exact h,fun z=>n (.inl z)⟩)
 rw[rmA_upd g2]at key
 exact key⟩
def spT (K:Fg) (H₀:Hp) (Av:AvP) (ds es:List Dat) (d:Dat) (Q:VK):Prop:=∀H1 a p q xs ys v,Same H₀ H1→H1 p=none→H1 q=none→H1 a=none→p≠q→a≠p→a≠q→RepDs K H1 Av xs ds→RepDs K H1 Av ys es→RepD K H1 Av v d→Q (.ref a) (upd (upd (upd H1 p (.lst xs)) q (.lst ys)) a (.tup [.ref p,.ref q,v]))
def wTri (K:Fg) (i:Nat) (f2:Rho→Option (List Dat)) (f3:Rho→Option Dat):WZ:=fun H₀ Av _ _ Γ D=>∃ds es d,Γ[i]?=some (some (.own ds))∧f2 (allV Γ)=some es∧es.all (noL 9)=true∧f3 (allV Γ)=some d∧scD d=true∧spT K H₀ Av ds es d D.rt
theorem qz_tri (i:Nat) {x:Str} {p:Pos} {k1:Nat} {tpos:Pos} (h2:QE X e2 (tFL X.K f2)) (h3:QF X e3 f3) (hN:X.N[i]?=some x:=by rfl) (hv:Vis X.env.scope x:=by first|exact Or.inl rfl|exact Or.inr (Or.inl rfl)|exact Or.inr (Or.inr rfl)) (hd:(x==("__debug__" : Str))=false:=by decide)
  (hcd:(x==("__classdict__" : Str))=false:=by decide) (hs1:starEach [.Name x p,e2,e3] X.env=(false,eval (.Name x p) X.env)::starEach [e2,e3] X.env:=by rfl) (hs2:starEach [e2,e3] X.env=(false,eval e2 X.env)::starEach [e3] X.env:=by rfl) (hs3:starEach [e3] X.env=(false,eval e3 X.env)::starEach [] X.env:=by rfl):
  QZ X [.Return (some (.Tuple [.Name x p,e2,e3] k1 tpos)) pos] zEnd (wTri X.K i f2 f3):=⟨pss_mono (pss_one (ps_ret (pe_tup (pa_cons (pe_var hN hv hd hcd) (pa_cons h2.o (pa_cons h3.o pa_nil hs3) hs2) hs1)))) fun D σ H hzz=>by
 obtain⟨H₀,Av,pn,hid,Γ,Γ',⟨ad,G⟩,hz,ds,es,d,hi,e2,hes,e3,hsd,q⟩:=hzz
 cases hz
 obtain⟨xs,g1,g2,g3,g4⟩:=G.own i ds hi
 refine⟨.ref (ad i),g1,Av,allV Γ,es,G.avt.same G.same,G.envA,e2,fun Ha qa ys s1 hq ry=>?_⟩
 have sn:Same Ha (upd Ha qa (.lst ys)):=same_new hq _
 refine⟨Av,allV Γ,d,G.avt.same (G.same.trans (s1.trans sn)),G.envA.same (s1.trans sn),e3,fun x3 H2 s2 r3=>⟨Nat.le_of_lt (small1000 (by show 3≤1000;decide)),fun a ha=>?_⟩⟩
 have hp2:H2 (ad i)=some (.lst xs):=s2 _ _ (sn _ _ (s1 _ _ g2))
 have hq2:H2 qa=some (.lst ys):=s2 _ _ upd_same
 have hpq:ad i≠qa:=ne_of_none (s1 _ _ g2) hq
 have hap:a≠ad i:=(ne_of_none hp2 ha).symm
 have haq:a≠qa:=(ne_of_none hq2 ha).symm
 have big:∀b o,Ha b=some o→b≠ad i→rmA (rmA H2 qa) (ad i) b=some o:=fun b o h n=>by
  rw[rmA_ne n,rmA_ne (ne_of_none h hq)]
  exact s2 _ _ (sn _ _ h)
 have key:=q (rmA (rmA H2 qa) (ad i)) a (ad i) qa xs ys x3 (fun b o h=>big b o (s1 _ _ (G.same _ _ h)) (ne_of_none h g4)) rmA_self (by rw[rmA_ne hpq.symm,rmA_self]) (by rw[rmA_ne hap,rmA_ne haq];exact ha) hpq hap haq
  (g3.mono fun b o h n=>⟨big b o (s1 _ _ h) fun z=>n (.inr ⟨i,_,hi,rfl,z.symm⟩),fun z=>n (.inl z)⟩)
  ((RepDs.apart G s1 9 hes ry).mono fun b o h n=>⟨big b o h fun z=>n (.inr ⟨i,_,hi,rfl,z.symm⟩),fun z=>n (.inl z)⟩) (r3.scH hsd)
 have e5:upd (rmA (rmA H2 qa) (ad i)) (ad i) (.lst xs)=rmA H2 qa:=rmA_upd (by rw[rmA_ne hpq];exact hp2)
 rw[e5,rmA_upd hq2]at key
 exact key⟩
end
section
variable {P:Program} {w:World} {K:Fg} {mg:Str→Option Value} {base:Heap} {x:Str} {st:Stmt} {ps:List Str} {k n:Nat}
def runO (N:List Str) (i:Nat) (z:Gam→Option Gam):List Dat→Option (List Dat):=fun ds=>(z (startG N ds)).bind fun Γ=>match Γ[i]? with
 |some (some (.own es))=>some es
 |_=>none
theorem qdnO (N:List Str) (i:Nat) (U:FnAt K mg x st ps) {z:Gam→Option Gam} (hbody:N.Nodup→∀(fa:Addr) (cdv:Value) (A:Around) (outer:List Env) (s:Shared) (H:Hp) (E:XK),Room k (A.deeper (envOfC x (defScope st) s.heap.objs.size fa cdv))→QZ (cxOf CX0 P w K mg base N x (defScope st) fa cdv A outer s H E).nox (defBody st) z (wOwn K i))
  (S:FnScope N ps (defScope st):=by exact⟨rfl,rfl,rfl,by decide +kernel,rfl,by decide +kernel,by decide +kernel⟩) (hn:ps.length=n:=by rfl):DnN P w K mg base (k+1) x ps n (runO N i z):=by
 obtain⟨fa,fd,U,hm,hB⟩:=U.ex
 have hpl:ps.length≤N.length:=by have:=congrArg List.length S.pre;rw[List.length_take]at this;omega
 refine⟨fa,fd,U.ok S (fun vs H Q E h=>?_) (fun cdv A outer s H vs Q E hr h=>?_),hm,U.kp,hB⟩
 ·obtain⟨Av,ds,d,_,r,hl,_⟩:=h
  rw[r.length,hl,hn]
 ·obtain⟨Av,ds,out,hA,r,hl,hd,q⟩:=h
  obtain⟨Γ',e1,hd⟩:=bind_some hd
  split at hd
  ·rename_i es hi
   cases hd
   exact⟨_,(hbody S.nd fa cdv A outer s H E hr).o,H,Av,none,[],startG N ds,Γ',ga_start hA r (by omega),e1,_,hi,fun H1 p xs s1 hp r1=>q H1 p xs s1 hp r1⟩
  ·cases hd
def spR (K:Fg) (n:Nat) (F:List Dat→Option (List Dat×List Dat×Dat)):Sp:=fun vs H Q _=>∃Av ds o,AvT H Av∧RepDs K H Av vs ds∧ds.length=n∧F ds=some o∧spT K H Av o.1 o.2.1 o.2.2 Q
structure DnR (P:Program) (w:World) (K:Fg) (mg:Str→Option Value) (base:Heap) (k:Nat) (x:Str) (ps:List Str) (n:Nat) (F:List Dat→Option (List Dat×List Dat×Dat)):Prop where
 ex:∃(f:Addr) (fd:FuncData),FnOk P w K mg base CX0 k f fd ps (spR K n F)∧mg x=some (.ref f)∧PySem.W.keepIn K (.ref f)=true∧Binds K fd ps []
theorem DnR.up {j:Nat} {F:List Dat→Option (List Dat×List Dat×Dat)} (D:DnR P w K mg base j x ps n F) (h:j≤k):DnR P w K mg base k x ps n F:=by
 obtain⟨f,fd,h1,h2⟩:=D.ex
 exact⟨f,fd,h1.mono h,h2⟩
def triD (o:List Dat×List Dat×Dat):Dat:=.tuple [.list o.1,.list o.2.1,o.2.2]
theorem triD_rep {H1:Hp} {Av:AvP} {a p q:Addr} {xs ys:List V} {v:V} {o:List Dat×List Dat×Dat} (hA:AvT H1 Av) (hp:H1 p=none) (hq:H1 q=none) (ha:H1 a=none) (hpq:p≠q) (hap:a≠p) (haq:a≠q) (r1:RepDs K H1 Av xs o.1) (r2:RepDs K H1 Av ys o.2.1) (r3:RepD K H1 Av v o.2.2):
  RepD K (upd (upd (upd H1 p (.lst xs)) q (.lst ys)) a (.tup [.ref p,.ref q,v])) Av (.ref a) (triD o)∧Same H1 (upd (upd (upd H1 p (.lst xs)) q (.lst ys)) a (.tup [.ref p,.ref q,v])):=by
 have s:Same H1 (upd (upd (upd H1 p (.lst xs)) q (.lst ys)) a (.tup [.ref p,.ref q,v])):=fun b u h=>by
  rw[upd_ne (ne_of_none h ha),upd_ne (ne_of_none h hq),upd_ne (ne_of_none h hp)];exact h
 refine⟨.tup (.inl ⟨.inl upd_same,hA.new ha⟩) (.cons (.lst (.inl ⟨.inl ?_,hA.new hp⟩) (r1.same s)) (.cons (.lst (.inl ⟨.inl ?_,hA.new hq⟩) (r2.same s)) (.cons (r3.same s) .nil))),s⟩
 ·rw[upd_ne hap.symm,upd_ne hpq,upd_same]
 ·rw[upd_ne haq.symm,upd_same]
theorem DnR.dn {F:List Dat→Option (List Dat×List Dat×Dat)} (D:DnR P w K mg base k x ps n F):Dn P w K mg base k x ps n (fun ds=>(F ds).map triD):=by
 obtain⟨f,fd,h1,h2⟩:=D.ex
 refine⟨f,fd,h1.imp fun vs H Q E ⟨Av,ds,d,hA,r,hl,hf,q⟩=>?_,h2⟩
 obtain⟨o,e1,hf⟩:=map_some' hf
 subst hf
 refine⟨Av,ds,o,hA,r,hl,e1,fun H1 a p q' xs ys v s hp hq ha n1 n2 n3 r1 r2 r3=>?_⟩
 obtain⟨k1,k2⟩:=triD_rep (hA.same s) hp hq ha n1 n2 n3 r1 r2 r3
 exact q _ _ (s.trans k2) k1
def runR (N:List Str) (i:Nat) (f2:Rho→Option (List Dat)) (f3:Rho→Option Dat) (z:Gam→Option Gam):List Dat→Option (List Dat×List Dat×Dat):=fun ds=>(z (startG N ds)).bind fun Γ=>match Γ[i]? with
 |some (some (.own ns))=>(f2 (allV Γ)).bind fun es=>(f3 (allV Γ)).bind fun d=>if es.all (noL 9)=true∧scD d=true then some (ns,es,d)else none
 |_=>none
theorem qdnR (N:List Str) (i:Nat) (U:FnAt K mg x st ps) {z:Gam→Option Gam} {f2:Rho→Option (List Dat)} {f3:Rho→Option Dat} (hbody:N.Nodup→∀(fa:Addr) (cdv:Value) (A:Around) (outer:List Env) (s:Shared) (H:Hp) (E:XK),Room k (A.deeper (envOfC x (defScope st) s.heap.objs.size fa cdv))→QZ (cxOf CX0 P w K mg base N x (defScope st) fa cdv A outer s H E).nox (defBody st) z (wTri K i f2 f3))
  (S:FnScope N ps (defScope st):=by exact⟨rfl,rfl,rfl,by decide +kernel,rfl,by decide +kernel,by decide +kernel⟩) (hn:ps.length=n:=by rfl):DnR P w K mg base (k+1) x ps n (runR N i f2 f3 z):=by
 obtain⟨fa,fd,U,hm,hB⟩:=U.ex
 have hpl:ps.length≤N.length:=by have:=congrArg List.length S.pre;rw[List.length_take]at this;omega
 refine⟨fa,fd,U.ok S (fun vs H Q E h=>?_) (fun cdv A outer s H vs Q E hr h=>?_),hm,U.kp,hB⟩
 ·obtain⟨Av,ds,d,_,r,hl,_⟩:=h
  rw[r.length,hl,hn]
 ·obtain⟨Av,ds,out,hA,r,hl,hd,q⟩:=h
  obtain⟨Γ',e1,hd⟩:=bind_some hd
  split at hd
  ·rename_i ns hi
   obtain⟨es,e2,hd⟩:=bind_some hd
   obtain⟨d,e3,hd⟩:=bind_some hd
   split at hd
   ·rename_i hc
    cases hd
    exact⟨_,(hbody S.nd fa cdv A outer s H E hr).o,H,Av,none,[],startG N ds,Γ',ga_start hA r (by omega),e1,ns,es,d,hi,e2,hc.1,e3,hc.2,q⟩
   ·cases hd
  ·cases hd
end
open PySem PySem.Spec PyProof.Rows L2
open PySem.W (Dat kqdOk)
theorem RepD.upL {K:Fg} {H:Hp} {Av:AvP} {p:Addr} {xs:List V} {o:HO} (hp:H p=some (.lst xs)):∀(n:Nat) {v:V} {d:Dat},noL n d=true→RepD K H Av v d→RepD K (upd H p o) Av v d
 |0,v,d,h,_=>by cases h
 |n+1,v,d,h,r=>by
  cases r with
  |non=>exact .non
  |bl b=>exact .bl b
  |int i=>exact .int i
  |str x=>exact .str x
  | @tup a ys ds hq rs=>
   have hall:ds.all (noL n)=true:=h
   have rs':RepDs K (upd H p o) Av ys ds:=by
    clear hq h
    induction ys generalizing ds with
    |nil=>cases rs;exact .nil
    |cons x ys ih=>
     cases rs with
     |cons r1 r2=>
      rw[List.all_cons,Bool.and_eq_true]at hall
      exact .cons (RepD.upL hp n hall.1 r1) (ih r2 hall.2)
   refine .tup ?_ rs'
   rcases hq with⟨h1,h2⟩|h1
   ·refine .inl ⟨?_,h2⟩
    rcases h1 with h1|⟨o',h1⟩
    ·exact .inl (by rw[upd_ne fun z=>by rw[z,hp]at h1;cases h1];exact h1)
    ·exact .inr ⟨o',by rw[upd_ne fun z=>by rw[z,hp]at h1;cases h1];exact h1⟩
   ·exact .inr h1
  |lst _ _=>cases h
theorem RepDs.upL {K:Fg} {H:Hp} {Av:AvP} {p:Addr} {xs:List V} {o:HO} (hp:H p=some (.lst xs)) (n:Nat):∀{vs:List V} {ds:List Dat},ds.all (noL n)=true→RepDs K H Av vs ds→RepDs K (upd H p o) Av vs ds
 |_,_,_,.nil=>.nil
 |_,_,h,.cons r t=>by
  rw[List.all_cons,Bool.and_eq_true]at h
  exact .cons (RepD.upL hp n h.1 r) (RepDs.upL hp n h.2 t)
structure Tri (K:Fg) (H0:Hp) (Av:AvP) (σ0:L2.St) (ρ:Rho) (i:Nat) (a p q:Addr) (v:V) (Hc:Hp) (ns es:List Dat) (d:Dat):Prop where
 avt:AvT H0 Av
 env:REnv K H0 Av σ0 ρ
 ls:i<σ0.length
 lr:i<ρ.length
 same:Same H0 Hc
 np:H0 p=none
 nq:H0 q=none
 na:H0 a=none
 pq:p≠q
 ha:Hc a=some (.tup [.ref p,.ref q,v])
 hd:RepD K Hc Av v d
 hp:∃xs,Hc p=some (.lst xs)∧RepDs K Hc Av xs ns
 hq:∃ys,Hc q=some (.lst ys)∧RepDs K Hc Av ys es
 nn:ns.all (noL 9)=true
 ne:es.all (noL 9)=true
 sd:scD d=true
section
variable {K:Fg} {H0 Hc H':Hp} {Av:AvP} {σ0:L2.St} {ρ:Rho} {i:Nat} {a p q:Addr} {v u:V} {ns es:List Dat} {d e:Dat}
theorem Tri.env' (T:Tri K H0 Av σ0 ρ i a p q v Hc ns es d):REnv K Hc Av (σ0.set i (some (.ref a))) (ρ.set i (some (triD (ns,es,d)))):=fun j d' h=>by
 rcases set_get h with⟨e1,e2⟩|⟨e1,e2⟩
 ·subst e1
  cases e2
  obtain⟨xs,h1,r1⟩:=T.hp
  obtain⟨ys,h2,r2⟩:=T.hq
  exact⟨.ref a,List.getElem?_set_self T.ls,.tup (.inl ⟨.inl T.ha,T.avt.new T.na⟩) (.cons (.lst (.inl ⟨.inl h1,T.avt.new T.np⟩) r1) (.cons (.lst (.inl ⟨.inl h2,T.avt.new T.nq⟩) r2) (.cons T.hd .nil)))⟩
 ·obtain⟨w,h1,r1⟩:=T.env j d' e2
  exact⟨w,by rw[List.getElem?_set_ne (Ne.symm e1)];exact h1,r1.same T.same⟩
theorem Tri.av (T:Tri K H0 Av σ0 ρ i a p q v Hc ns es d):AvT Hc Av:=T.avt.same T.same
theorem Tri.grow (T:Tri K H0 Av σ0 ρ i a p q v Hc ns es d) (s:Same Hc H'):Tri K H0 Av σ0 ρ i a p q v H' ns es d:=
 ⟨T.avt,T.env,T.ls,T.lr,T.same.trans s,T.np,T.nq,T.na,T.pq,s _ _ T.ha,T.hd.same s,let ⟨xs,h,r⟩:=T.hp;⟨xs,s _ _ h,r.same s⟩,let ⟨xs,h,r⟩:=T.hq;⟨xs,s _ _ h,r.same s⟩,T.nn,T.ne,T.sd⟩
theorem all_snoc {ns:List Dat} (h:ns.all (noL 9)=true) (h2:noL 9 e=true):(ns++[e]).all (noL 9)=true:=by
 rw[List.all_append,h,List.all_cons,h2];rfl
theorem Tri.appP (T:Tri K H0 Av σ0 ρ i a p q v Hc ns es d) {xs:List V} (hx:Hc p=some (.lst xs)) (r:RepD K Hc Av u e) (hn:noL 9 e=true):Tri K H0 Av σ0 ρ i a p q v (upd Hc p (.lst (xs++[u]))) (ns++[e]) es d:=by
 obtain⟨xs',h1,r1⟩:=T.hp
 rw[hx]at h1
 cases h1
 obtain⟨ys,h2,r2⟩:=T.hq
 refine⟨T.avt,T.env,T.ls,T.lr,fun b o h=>by rw[upd_ne (ne_of_none h T.np)];exact T.same b o h,T.np,T.nq,T.na,T.pq,?_,T.hd.scH T.sd,⟨_,upd_same,?_⟩,⟨ys,by rw[upd_ne T.pq.symm];exact h2,RepDs.upL hx 9 T.ne r2⟩,all_snoc T.nn hn,T.ne,T.sd⟩
 ·rw[upd_ne fun z=>by have:=T.ha;rw[z,hx]at this;cases this];exact T.ha
 ·exact(RepDs.upL hx 9 T.nn r1).append (.cons (RepD.upL hx 9 hn r) .nil)
theorem Tri.appQ (T:Tri K H0 Av σ0 ρ i a p q v Hc ns es d) {xs:List V} (hx:Hc q=some (.lst xs)) (r:RepD K Hc Av u e) (hn:noL 9 e=true):Tri K H0 Av σ0 ρ i a p q v (upd Hc q (.lst (xs++[u]))) ns (es++[e]) d:=by
 obtain⟨xs',h1,r1⟩:=T.hq
 rw[hx]at h1
 cases h1
 obtain⟨ys,h2,r2⟩:=T.hp
 refine⟨T.avt,T.env,T.ls,T.lr,fun b o h=>by rw[upd_ne (ne_of_none h T.nq)];exact T.same b o h,T.np,T.nq,T.na,T.pq,?_,T.hd.scH T.sd,⟨ys,by rw[upd_ne T.pq];exact h2,RepDs.upL hx 9 T.nn r2⟩,⟨_,upd_same,?_⟩,T.nn,all_snoc T.ne hn,T.sd⟩
 ·rw[upd_ne fun z=>by have:=T.ha;rw[z,hx]at this;cases this];exact T.ha
 ·exact(RepDs.upL hx 9 T.ne r1).append (.cons (RepD.upL hx 9 hn r) .nil)
end
def sTell (i n:Nat) (F:List Dat→Option (List Dat×List Dat×Dat)) (fs:Rho→Option (List Dat)) (t2 t3:Rho→Option Bool) (f4:Rho→Option Dat) (t5:Rho→Option Bool) (f6 f7:Rho→Option Dat):Gam→Option Fl:=fun Γ=>(fs (allV Γ)).bind fun ds=>(F ds).bind fun o=>
 (f4 ((allV Γ).set i (some (triD o)))).bind fun d4=>(f6 ((allV Γ).set i (some (triD (o.1++[d4],o.2.1,o.2.2))))).bind fun d6=>(f7 ((allV Γ).set i (some (triD (o.1++[d4],o.2.1++[d6],o.2.2))))).bind fun d7=>
 if(ds.length=n∧i<Γ.length)∧(t2 ((allV Γ).set i (some (triD o)))=some false∧t3 ((allV Γ).set i (some (triD o)))=some false∧t5 ((allV Γ).set i (some (triD (o.1++[d4],o.2.1,o.2.2))))=some false)∧(o.1.all (noL 9)=true∧o.2.1.all (noL 9)=true∧scD o.2.2=true∧noL 9 d4=true∧noL 9 d6=true)∧o.1.length<sizeLine∧o.2.1.length<sizeLine then some (.rt d7)else none
section
variable {X:Cx} {e1 c2 c3 e4 c5 e6 e7:Expr} {b2 b3 b5:List Stmt} {fs:Rho→Option (List Dat)} {t2 t3 t5:Rho→Option Bool} {f4 f6 f7:Rho→Option Dat} {g2 g3 g5:Gam→Option Fl} {F:List Dat→Option (List Dat×List Dat×Dat)} {k n:Nat} {ps:List Str} {rd x:Str} {px pr pc q1 q2 q3 q5 q7:Pos}
theorem ifS_f {K:Fg} {ft:Rho→Option Bool} {t:TS} {D:Ends} {σ:L2.St} {H:Hp} {Av:AvP} {ρ:Rho} (hA:AvT H Av) (hE:REnv K H Av σ ρ) (h:ft ρ=some false) (q:∀H',Same H H'→D.nx σ H'):tIfS (tTF K ft) t tNext D σ H:=
 ⟨Av,ρ,false,hA,hE,h,fun H' s=>by show(if false=true then _ else _);rw[if_neg Bool.false_ne_true];exact q H' s⟩
theorem tell_of {i:Nat} {pv4 pk4 ps4 pa4 pz4 q4 pv6 pk6 ps6 pa6 pz6 q6:Pos} {k4 k6:Nat} (D:DnR X.prog X.w X.K X.mg X.base k rd ps n F) (hr:Room k X.A) (hN:X.N.Nodup) (h1:QFA X [e1] fs) (h2:QFT X c2 t2) (hb2:QSFs X b2 g2) (h3:QFT X c3 t3) (hb3:QSFs X b3 g3) (h4:QF X e4 f4) (h5:QFT X c5 t5) (hb5:QSFs X b5 g5) (h6:QF X e6 f6) (h7:QF X e7 f7)
  (hi:X.N[i]?=some x:=by rfl) (hx:Loc X.env.scope x:=by first|exact .inl rfl|exact .inr rfl) (hv:Vis X.env.scope x:=by first|exact Or.inl rfl|exact Or.inr (Or.inl rfl)|exact Or.inr (Or.inr rfl)) (hd:(x==("__debug__" : Str))=false:=by decide) (hcd:(x==("__classdict__" : Str))=false:=by decide) (hf:X.fn x=true∨X.env.scope.names.lookup x=some .local:=by first|exact .inl rfl|exact .inr rfl)
  (hg:Gl X rd:=by rfl) (hdb:(rd==("__debug__" : Str))=false:=by decide) (he:starEach [e1] X.env=(false,eval e1 X.env)::starEach [] X.env:=by rfl) (hpl:(backTo pc (starEach [] X.env)).any (·.1)=false:=by rfl) (hs1:swapsWith (.Call (.Name rd pr) [e1] [] pc) (some (.Name x px)) q1.line X.env=pure false:=by rfl)
  (hbase4:attributeBase (.Subscript (.Name x pv4) (.Constant (.int 0) k4 pk4) ps4) "append" X.env (eval (.Subscript (.Name x pv4) (.Constant (.int 0) k4 pk4) ps4) X.env)=eval (.Subscript (.Name x pv4) (.Constant (.int 0) k4 pk4) ps4) X.env:=by rfl)
  (hfew4:((backTo pz4 (starEach [e4] X.env)).all (fun x=>!x.1)&&(backToKw pz4 (keywordEach [] X.env)).all (fun x=>x.1.isSome)&&decide (([e4]:List Expr).length+([]:List Keyword).length+(if([]:List Keyword).isEmpty then 0 else 1)<30))=true:=by rfl)
  (hline4:(pa4.endLine==pz4.line)=true:=by rfl) (hst4:starEach [e4] X.env=(false,eval e4 X.env)::starEach [] X.env:=by rfl) (hplain4:(backTo pz4 (starEach [] X.env)).any (·.1)=false:=by rfl)
  (hs4:swapsWith (.Call (.Attribute (.Subscript (.Name x pv4) (.Constant (.int 0) k4 pk4) ps4) "append" pa4) [e4] [] pz4) none q4.line X.env=pure false:=by rfl)
  (hbase6:attributeBase (.Subscript (.Name x pv6) (.Constant (.int 1) k6 pk6) ps6) "append" X.env (eval (.Subscript (.Name x pv6) (.Constant (.int 1) k6 pk6) ps6) X.env)=eval (.Subscript (.Name x pv6) (.Constant (.int 1) k6 pk6) ps6) X.env:=by rfl)
  (hfew6:((backTo pz6 (starEach [e6] X.env)).all (fun x=>!x.1)&&(backToKw pz6 (keywordEach [] X.env)).all (fun x=>x.1.isSome)&&decide (([e6]:List Expr).length+([]:List Keyword).length+(if([]:List Keyword).isEmpty then 0 else 1)<30))=true:=by rfl)
  (hline6:(pa6.endLine==pz6.line)=true:=by rfl) (hst6:starEach [e6] X.env=(false,eval e6 X.env)::starEach [] X.env:=by rfl) (hplain6:(backTo pz6 (starEach [] X.env)).any (·.1)=false:=by rfl)
  (hs6:swapsWith (.Call (.Attribute (.Subscript (.Name x pv6) (.Constant (.int 1) k6 pk6) ps6) "append" pa6) [e6] [] pz6) none q6.line X.env=pure false:=by rfl):
  QSFs X [.Assign [.Name x px] (.Call (.Name rd pr) [e1] [] pc) q1,.If c2 b2 [] q2,.If c3 b3 [] q3,.Expr (.Call (.Attribute (.Subscript (.Name x pv4) (.Constant (.int 0) k4 pk4) ps4) "append" pa4) [e4] [] pz4) q4,.If c5 b5 [] q5,.Expr (.Call (.Attribute (.Subscript (.Name x pv6) (.Constant (.int 1) k6 pk6) ps6) "append" pa6) [e6] [] pz6) q6,.Return (some e7) q7]
   (sTell i n F fs t2 t3 f4 t5 f6 f7):=by
 obtain⟨f,fd,d1,d2,d3,d4⟩:=D.ex
 refine⟨pss_mono (pss_cons (ps_set hN hi hx (pe_call d1 hr hg d2 d3 d4 .nil pass0 h1.o hdb he hpl) hs1 hf) (pss_cons (ps_if h2.o hb2.o pss_nil) (pss_cons (ps_if h3.o hb3.o pss_nil)
  (pss_cons (ps_expr (pe_bm PySem.F.plainAttrs_list PySem.F.slot_list_append PySem.F.type_list_append mt_append (pe_ix ix_tup (pe_var hi hv hd hcd) pe_int (fun _ _=>rfl)) (pa_cons h4.o pa_nil hst4) hbase4 hfew4 hline4 hst4 hplain4) hs4)
  (pss_cons (ps_if h5.o hb5.o pss_nil)
  (pss_cons (ps_expr (pe_bm PySem.F.plainAttrs_list PySem.F.slot_list_append PySem.F.type_list_append mt_append (pe_ix ix_tup (pe_var hi hv hd hcd) pe_int (fun _ _=>rfl)) (pa_cons h6.o pa_nil hst6) hbase6 hfew6 hline6 hst6 hplain6) hs6)
  (pss_one (ps_ret h7.o)))))))) fun D σ H ⟨H₀,Av,pn,hid,Γ,fl,⟨ad,G⟩,hf',q⟩=>?_⟩
 obtain⟨ds,a1,hf'⟩:=bind_some hf'
 obtain⟨o,a2,hf'⟩:=bind_some hf'
 obtain⟨d4',a3,hf'⟩:=bind_some hf'
 obtain⟨d6',a4,hf'⟩:=bind_some hf'
 obtain⟨d7',a5,hf'⟩:=bind_some hf'
 split at hf'
 ·rename_i hc
  obtain⟨⟨c1,c0⟩,⟨c2',c3',c5'⟩,⟨n1,n2,n3,n4,n6⟩,z1,z2⟩:=hc
  cases hf'
  obtain⟨ns,es,dd⟩:=o
  refine⟨Av,allV Γ,ds,G.avt.same G.same,G.envA,a1,fun vs Ha sa rv=>?_⟩
  refine⟨Av,ds,(ns,es,dd),G.avt.same (G.same.trans sa),by rw[List.append_nil];exact rv,c1,a2,fun H1 a p q' xs ys v s hp hq ha k1 k2 k3 r1 r2 r3=>?_⟩
  have s0:Same H₀ H1:=G.same.trans (sa.trans s)
  have hA1:AvT H1 Av:=G.avt.same s0
  have T0:Tri X.K H1 Av σ (allV Γ) i a p q' v (upd (upd (upd H1 p (.lst xs)) q' (.lst ys)) a (.tup [.ref p,.ref q',v])) ns es dd:=by
   refine⟨hA1,G.envA.same (sa.trans s),by rw[G.len];exact c0,by unfold allV;rw[List.length_map];exact c0,fun b u h=>?_,hp,hq,ha,k1,upd_same,r3.scH n3,⟨xs,?_,?_⟩,⟨ys,?_,?_⟩,n1,n2,n3⟩
   ·rw[upd_ne (ne_of_none h ha),upd_ne (ne_of_none h hq),upd_ne (ne_of_none h hp)];exact h
   ·rw[upd_ne k2.symm,upd_ne k1,upd_same]
   ·exact r1.same (triD_rep (o:=(ns,es,dd)) hA1 hp hq ha k1 k2 k3 r1 r2 r3).2
   ·rw[upd_ne k3.symm,upd_same]
   ·exact r2.same (triD_rep (o:=(ns,es,dd)) hA1 hp hq ha k1 k2 k3 r1 r2 r3).2
  generalize upd (upd (upd H1 p (.lst xs)) q' (.lst ys)) a (.tup [.ref p,.ref q',v])=Hs at T0
  refine ifS_f T0.av T0.env' c2' fun H2 s2=>?_
  have T1:=T0.grow s2
  refine ifS_f T1.av T1.env' c3' fun H3 s3=>?_
  have T2:=T1.grow s3
  refine⟨.ref a,List.getElem?_set_self T2.ls,a,[.ref p,.ref q',v],0,.ref p,rfl,rfl,.inl (.inl T2.ha),rfl,?_⟩
  obtain⟨xs2,hx2,_⟩:=T2.hp
  refine⟨.inl ⟨rfl,xs2,.inl (.inl hx2)⟩,Av,_,d4',T2.av,T2.env',a3,fun u4 H4 s4 r4=>?_⟩
  have T3:=T2.grow s4
  obtain⟨xs3,hx3,rx3⟩:=T3.hp
  refine⟨p,xs3,u4,rfl,rfl,hx3,by rw[rx3.length];exact z1,?_⟩
  have T4:=T3.appP hx3 r4 n4
  refine ifS_f T4.av T4.env' c5' fun H5 s5=>?_
  have T5:=T4.grow s5
  refine⟨.ref a,List.getElem?_set_self T5.ls,a,[.ref p,.ref q',v],1,.ref q',rfl,rfl,.inl (.inl T5.ha),rfl,?_⟩
  obtain⟨ys2,hy2,_⟩:=T5.hq
  refine⟨.inl ⟨rfl,ys2,.inl (.inl hy2)⟩,Av,_,d6',T5.av,T5.env',a4,fun u6 H6 s6 r6=>?_⟩
  have T6:=T5.grow s6
  obtain⟨ys3,hy3,ry3⟩:=T6.hq
  refine⟨q',ys3,u6,rfl,rfl,hy3,by rw[ry3.length];exact z2,?_⟩
  have T7:=T6.appQ hy3 r6 n6
  exact⟨Av,_,d7',T7.av,T7.env',a5,fun v7 H7 s7 r7=>q v7 H7 (s0.trans (T7.same.trans s7)) r7⟩
 ·cases hf'
end
open PySem PySem.Spec PyProof.Rows L2
open PySem.W (Dat kqdOk)
section
variable {X:Cx} {e0:Expr} {es:List Expr} {pos:Pos} {f0:Rho→Option Dat} {fs:Rho→Option (List Dat)}
def fBrwN (n:Nat) (F:List Dat→Option Dat) (f0:Rho→Option Dat) (fs:Rho→Option (List Dat)):Rho→Option Dat:=fun ρ=>(f0 ρ).bind fun d0=>(fs ρ).bind fun us=>if us.length+2=n then F (d0::.list []::us)else none
theorem qpf_brwN {x:Str} {p p1:Pos} {k n:Nat} {ps:List Str} {F:List Dat→Option Dat} (D:DnB X.prog X.w X.K X.mg X.base k x ps n 1 F) (hr:Room k X.A) (h0:QF X e0 f0) (pa:QFA X es fs)
  (hg:Gl X x:=by rfl) (hdb:(x==("__debug__" : Str))=false:=by decide)
  (he:starEach (e0::.List [] p1::es) X.env=(false,eval e0 X.env)::starEach (.List [] p1::es) X.env:=by rfl) (he2:starEach (.List [] p1::es) X.env=(false,eval (.List [] p1) X.env)::starEach es X.env:=by rfl) (hpl:(backTo pos (starEach (.List [] p1::es) X.env)).any (·.1)=false:=by rfl):QF X (.Call (.Name x p) (e0::.List [] p1::es) [] pos) (fBrwN n F f0 fs):=by
 obtain⟨f,fd,h1,h2,h3,h4⟩:=D.ex
 refine⟨pe_mono (pe_call h1 hr hg h2 h3 h4 .nil pass0 (pa_cons h0.o (pa_cons (pe_lst pa_nil) pa.o he2) he) hdb he hpl) fun σ H Q ⟨Av,ρ,d,hA,hE,hf,q⟩=>?_⟩
 obtain⟨d0,e1,hf⟩:=bind_some hf
 obtain⟨us,e2,hf⟩:=bind_some hf
 split at hf
 ·rename_i hl
  refine⟨Av,ρ,d0,hA,hE,e1,fun v0 H1 s1 r0=>⟨Nat.zero_le _,fun p hp=>?_⟩⟩
  have sn:Same H1 (upd H1 p (.lst [])):=same_new hp _
  have kp:Keep H1 Av (upd H1 p (.lst [])) (fun b=>Av b∨b=p):=fun b o h n=>⟨sn _ _ h,fun z=>z.elim n fun z=>ne_of_none h hp z⟩
  have hA':AvT (upd H1 p (.lst [])) (fun b=>Av b∨b=p):=fun b z=>z.elim (fun z=>(hA.same (s1.trans sn)) b z) fun z=>⟨.lst [],z▸upd_same⟩
  refine⟨fun b=>Av b∨b=p,ρ,us,hA',fun i d h=>let ⟨v,a,r⟩:=hE i d h;⟨v,a,(r.same s1).mono kp⟩,e2,fun vs H3 s3 r2=>?_⟩
  exact⟨fun b=>Av b∨b=p,p,[v0],vs,[],[],[d0],us,d,by rw[List.append_nil];rfl,hA'.same s3,.inr rfl,s3 _ _ upd_same,.nil,.cons ((r0.mono kp).same s3) .nil,r2,rfl,by omega,hf,fun v H' s4 rv=>q v H' (s1.trans (sn.trans (s3.trans s4))) (rv.weak fun _ z=>.inl z)⟩
 ·cases hf
end
theorem DnN.dn {P:Program} {w:World} {K:Fg} {mg:Str→Option Value} {base:Heap} {k:Nat} {x:Str} {ps:List Str} {n:Nat} {F:List Dat→Option (List Dat)} (D:DnN P w K mg base k x ps n F):Dn P w K mg base k x ps n (fun ds=>(F ds).map .list):=by
 obtain⟨f,fd,h1,h2⟩:=D.ex
 refine⟨f,fd,h1.imp fun vs H Q E ⟨Av,ds,d,hA,r,hl,hf,q⟩=>?_,h2⟩
 obtain⟨o,e1,hf⟩:=map_some' hf
 subst hf
 exact⟨Av,ds,o,hA,r,hl,e1,fun H1 p xs s hp r1=>q _ _ (s.trans (same_new hp _)) (.newL (hA.same s) hp r1)⟩
end L3
namespace Tx
open PySem PySem.StrLaws PySem.Builtin.Str
def dig (n:Nat):List Nat:=(Nat.toDigits 10 n).map Char.toNat
theorem dig_small {n:Nat} (h:n<10):dig n=[48+n]:=by
 unfold dig
 rw[Nat.toDigits_of_lt_base h]
 rcases(show n=0∨n=1∨n=2∨n=3∨n=4∨n=5∨n=6∨n=7∨n=8∨n=9 by omega)with e|e|e|e|e|e|e|e|e|e<;>subst e<;>rfl
theorem dig_step {n:Nat} (h:10≤n):dig n=dig (n/10)++[48+n % 10]:=by
 have e:n=10*(n/10)+n % 10:=by omega
 have:=Nat.toDigits_append_toDigits (b:=10) (n:=n/10) (d:=n % 10) (by decide) (by omega) (by omega)
 have hd:=dig_small (n:=n % 10) (by omega)
 unfold dig at hd ⊢
 rw[← e]at this
 rw[← this,List.map_append,hd]
theorem dig_val:∀n:Nat,NumText.digitsVal (dig n)=n:=by
 intro n
 induction n using Nat.strongRecOn with
 |_ n ih=>
  by_cases h:n<10
  ·rw[dig_small h]
   show 0*10+(48+n-48)=n
   omega
  ·rw[dig_step (by omega),NumText.digitsVal_snoc,ih (n/10) (by omega)]
   omega
theorem dig_len:∀(k n:Nat),n<10^(k+1)→(dig n).length≤k+1
 |0,n,h=>by rw[dig_small (by simpa using h)];exact Nat.le_refl _
 |k+1,n,h=>by
  by_cases h10:n<10
  ·rw[dig_small h10];show 1≤_;omega
  ·rw[dig_step (by omega),List.length_append]
   have:=dig_len k (n/10) (by
    have e:10^(k+1+1)=10*10^(k+1):=by rw[Nat.pow_succ,Nat.mul_comm]
    rw[e]at h
    omega)
   show _+1≤_
   omega
theorem dig_ne (n:Nat):dig n≠[]:=by
 by_cases h:n<10
 ·rw[dig_small h];simp
 ·rw[dig_step (by omega)];simp
theorem dig_rng:∀(n c:Nat),c∈dig n→48≤c∧c≤57:=by
 intro n
 induction n using Nat.strongRecOn with
 |_ n ih=>
  intro c hc
  by_cases h:n<10
  ·rw[dig_small h]at hc
   rw[List.mem_singleton.mp hc];omega
  ·rw[dig_step (by omega)]at hc
   rcases List.mem_append.mp hc with z|z
   ·exact ih (n/10) (by omega) c z
   ·rw[List.mem_singleton.mp z];omega
theorem dig_head:∀n:Nat,1≤n→∃c r,dig n=c::r∧c≠48:=by
 intro n
 induction n using Nat.strongRecOn with
 |_ n ih=>
  intro h1
  by_cases h:n<10
  ·exact⟨48+n,[],dig_small h,by omega⟩
  ·obtain⟨c,r,e,hc⟩:=ih (n/10) (by omega) (by omega)
   exact⟨c,r++[48+n % 10],by rw[dig_step (by omega),e];rfl,hc⟩
def spl (c:Nat):List Nat→List (List Nat)
 |[]=>[[]]
 |a::l=>if a=c then[]::spl c l else match spl c l with
  |[]=>[[a]]
  |h::t=>(a::h)::t
theorem spl_ne (c:Nat):∀l,spl c l≠[]
 |[]=>by simp[spl]
 |a::l=>by
  unfold spl
  split
  ·simp
  ·split<;>simp
theorem spl_free (c:Nat):∀(t r:List Nat),c∉t→∃h q,spl c r=h::q∧spl c (t++r)=(t++h)::q
 |[],r,_=>by
  cases e:spl c r with
  |nil=>exact absurd e (spl_ne c r)
  |cons h q=>exact⟨h,q,rfl,e⟩
 |a::t,r,hn=>by
  obtain⟨h,q,e1,e2⟩:=spl_free c t r fun z=>hn (List.mem_cons_of_mem _ z)
  refine⟨h,q,e1,?_⟩
  show spl c (a::(t++r))=_
  unfold spl
  rw[if_neg fun z=>hn (by rw[z];exact List.mem_cons_self),e2];rfl
theorem spl_cut (c:Nat) (t r:List Nat) (h:c∉t):spl c (t++c::r)=t::spl c r:=by
 obtain⟨u,q,e1,e2⟩:=spl_free c t (c::r) h
 have e3:spl c (c::r)=[]::spl c r:=if_pos rfl
 rw[e3]at e1
 cases e1
 rw[e2,List.append_nil]
theorem spl_none (c:Nat) (t:List Nat) (h:c∉t):spl c t=[t]:=by
 obtain⟨u,q,e1,e2⟩:=spl_free c t [] h
 cases e1
 rw[List.append_nil]at e2
 exact e2
abbrev ch1 (c:Nat):Str:=⟨#[c]⟩
theorem at1_iff (x:Str) (c k:Nat):At x (ch1 c) x.length k↔∃r,(tl x).drop k=c::r:=by
 unfold At
 rw[subAt_eq]
 constructor
 ·rintro⟨_,h⟩
  have h:=eq_of_beq h
  have h2:((tl x).drop k).take 1=[c]:=h
  cases e:(tl x).drop k with
  |nil=>rw[e]at h2;cases h2
  |cons a l=>
   rw[e]at h2
   have h3:[a]=[c]:=h2
   cases h3
   exact⟨l,rfl⟩
 ·rintro⟨r,h⟩
  have hl:=congrArg List.length h
  rw[List.length_drop]at hl
  have hn:(tl x).length=x.length:=by simp[Str.length]
  simp only[List.length_cons]at hl
  refine⟨by show k+1≤x.length;omega,?_⟩
  rw[h]
  show([c] == [c])=true
  exact beq_self_eq_true _
theorem free_take (x:Str) (c:Nat):∀(n a:Nat),a+n≤x.length→(∀k,a≤k→k<a+n→¬At x (ch1 c) x.length k)→c∉((tl x).drop a).take n
 |0,a,_,_=>by simp
 |n+1,a,hl,hn=>by
  have hlen:(tl x).length=x.length:=by simp[Str.length]
  have ha:a<(tl x).length:=by omega
  have h0:=hn a (Nat.le_refl _) (by omega)
  rw[at1_iff]at h0
  have ih:=free_take x c n (a+1) (by omega) fun k h1 h2=>hn k (by omega) (by omega)
  have e:(tl x).drop a=(tl x)[a]::(tl x).drop (a+1):=List.drop_eq_getElem_cons ha
  rw[e]at h0 ⊢
  rw[List.take_succ_cons]
  intro z
  rcases List.mem_cons.mp z with z|z
  ·exact h0 ⟨_,by rw[z]⟩
  ·exact ih z
theorem spl_parts (x:Str) (c:Nat):∀(cuts:List Nat) (a f:Nat),a≤x.length→ChainG x (ch1 c) x.length a cuts f→(∀k,f≤k→¬At x (ch1 c) x.length k)→(partsFrom x 1 a cuts).map tl=spl c ((tl x).drop a)
 |[],a,f,hl,h,hn=>by
  have e:f=a:=h
  subst e
  have hlen:(tl x).length=x.length:=by simp[Str.length]
  have hfr:=free_take x c (x.length-f) f (by omega) fun k h1 _=>hn k h1
  rw[List.take_of_length_le (by rw[List.length_drop];omega)]at hfr
  rw[spl_none c _ hfr]
  show[(strSub x f x.length).cps.toList]=_
  have hlen':x.cps.toList.length=x.length:=hlen
  rw[strSub_toList,List.take_of_length_le (by rw[List.length_drop];omega)]
 |d::r,a,f,hl,h,hn=>by
  obtain⟨h1,h2,h3,h4⟩:=h
  have hc:d+1≤x.length:=h2.1
  have ih:=spl_parts x c r (d+1) f hc h4 hn
  show tl (strSub x a d)::(partsFrom x 1 (d+1) r).map tl=_
  rw[ih]
  have hfr:=free_take x c (d-a) a (by omega) fun k k1 k2=>h3 k k1 (by omega)
  obtain⟨q,hq⟩:=(at1_iff x c d).mp h2
  have hq2:(tl x).drop (d+1)=q:=by
   have:=congrArg (List.drop 1) hq
   rw[List.drop_drop]at this
   exact this
  have e:(tl x).drop a=((tl x).drop a).take (d-a)++c::q:=by
   rw[← hq]
   have:=List.take_append_drop (d-a) ((tl x).drop a)
   rw[List.drop_drop,show a+(d-a)=d by omega]at this
   exact this.symm
  show(strSub x a d).cps.toList::_=_
  rw[strSub_toList,hq2]
  conv=>rhs;rw[e]
  rw[spl_cut c _ _ hfr]
theorem kind1 {c:Nat} (h:c<256) (x:Str):(decide (Builtin.Str.strKind x<Builtin.Str.strKind (ch1 c)))=false:=by
 have e:Builtin.Str.strKind (ch1 c)=1:=by
  unfold Builtin.Str.strKind
  rw[if_pos (by simp[h])]
 rw[e]
 refine decide_eq_false ?_
 unfold Builtin.Str.strKind
 split
 ·omega
 ·split<;>omega
theorem split_spl {c:Nat} (h:c<256) (x:Str):(Txt.split x (ch1 c)).map tl=spl c (tl x):=by
 obtain⟨f,hG,hn⟩:=occ_tight x (ch1 c) (show 1≤1 by decide)
 have key:=spl_parts x c _ 0 f (Nat.zero_le _) hG hn
 rw[List.drop_zero]at key
 unfold Txt.split
 rw[kind1 h,Bool.or_false]
 by_cases h0:x.length<1
 ·have e:tl x=[]:=by
   have:(tl x).length=x.length:=by simp[Str.length]
   exact List.length_eq_zero_iff.mp (by omega)
  rw[decide_eq_true (show x.length<(ch1 c).length from h0),if_pos rfl]
  show[tl x]=_
  rw[e];rfl
 ·rw[decide_eq_false (show ¬x.length<(ch1 c).length from h0),if_neg Bool.false_ne_true]
  cases he:(occurrences x (ch1 c) 0 x.length (x.length+1)).isEmpty
  ·rw[if_neg Bool.false_ne_true,partsBetween_eq]
   exact key
  ·rw[if_pos rfl]
   rw[List.isEmpty_iff.mp he]at key
   rw[← key]
   show[tl x]=[tl (strSub x 0 x.length)]
   rw[sub_whole]
def rm (l:List Nat):List Nat:=l.flatMap fun a=>if a=45 then[43,45]else[a]
theorem rm_app (a b:List Nat):rm (a++b)=rm a++rm b:=List.flatMap_append
theorem rm_free:∀t:List Nat,45∉t→rm t=t
 |[],_=>rfl
 |a::t,h=>by
  show(if a=45 then[43,45]else[a])++rm t=_
  rw[if_neg fun z=>h (by rw[z];exact List.mem_cons_self),rm_free t fun z=>h (List.mem_cons_of_mem _ z)];rfl
theorem rm_parts (x:Str):∀(cuts:List Nat) (a f:Nat),a≤x.length→ChainG x (ch1 45) x.length a cuts f→(∀k,f≤k→¬At x (ch1 45) x.length k)→tl (Str.join yPM (partsFrom x 1 a cuts))=rm ((tl x).drop a)
 |[],a,f,hl,h,hn=>by
  have e:f=a:=h
  subst e
  have hlen:(tl x).length=x.length:=by simp[Str.length]
  have hfr:=free_take x 45 (x.length-f) f (by omega) fun k h1 _=>hn k h1
  rw[List.take_of_length_le (by rw[List.length_drop];omega)]at hfr
  rw[rm_free _ hfr]
  show(strSub x f x.length).cps.toList=_
  have hlen':x.cps.toList.length=x.length:=hlen
  rw[strSub_toList,List.take_of_length_le (by rw[List.length_drop];omega)]
 |d::r,a,f,hl,h,hn=>by
  obtain⟨h1,h2,h3,h4⟩:=h
  have hc:d+1≤x.length:=h2.1
  obtain⟨p,q,e⟩:=partsFrom_ne x 1 (d+1) r
  have ih:=rm_parts x r (d+1) f hc h4 hn
  show tl (Str.join yPM (strSub x a d::partsFrom x 1 (d+1) r))=_
  rw[e]at ih ⊢
  show tl (strSub x a d++yPM++Str.join yPM (p::q))=_
  have hfr:=free_take x 45 (d-a) a (by omega) fun k k1 k2=>h3 k k1 (by omega)
  obtain⟨q',hq⟩:=(at1_iff x 45 d).mp h2
  have hq2:(tl x).drop (d+1)=q':=by
   have:=congrArg (List.drop 1) hq
   rw[List.drop_drop]at this
   exact this
  have e':(tl x).drop a=((tl x).drop a).take (d-a)++45::q':=by
   rw[← hq]
   have:=List.take_append_drop (d-a) ((tl x).drop a)
   rw[List.drop_drop,show a+(d-a)=d by omega]at this
   exact this.symm
  rw[tl_app,tl_app,ih,hq2]
  show(strSub x a d).cps.toList++[43,45]++rm q'=_
  rw[strSub_toList]
  conv=>rhs;rw[e']
  rw[rm_app,rm_free _ hfr]
  show _=_++([43,45]++rm q')
  rw[List.append_assoc]
theorem replace_m (x:Str):tl (Txt.replace x (ch1 45) yPM)=rm (tl x):=by
 obtain⟨f,hG,hn⟩:=occ_tight x (ch1 45) (show 1≤1 by decide)
 have key:=rm_parts x _ 0 f (Nat.zero_le _) hG hn
 rw[List.drop_zero]at key
 have h10:((ch1 45).length==0)=false:=rfl
 unfold Txt.replace
 rw[h10,Bool.false_and,Bool.or_false]
 cases he:(occurrences x (ch1 45) 0 x.length (x.length+1)).isEmpty
 ·rw[if_neg Bool.false_ne_true,glued_eq_join,partsBetween_eq]
  exact key
 ·rw[if_pos rfl]
  rw[List.isEmpty_iff.mp he]at key
  rw[← key]
  show tl x=tl (strSub x 0 x.length)
  rw[sub_whole]
theorem in_lets:∀c,c<128→(!(occurrences (Str.ofString "abcdefghijklmnopqrstuvwxyz") ⟨#[c]⟩ 0 (Str.ofString "abcdefghijklmnopqrstuvwxyz").length 1).isEmpty)=decide (97≤c∧c≤122):=by decide +kernel
theorem in_figs:∀c,c<128→(!(occurrences (Str.ofString "0123456789") ⟨#[c]⟩ 0 (Str.ofString "0123456789").length 1).isEmpty)=decide (48≤c∧c≤57):=by decide +kernel
theorem starts1 (x:Str) (c:Nat):(decide (0+(ch1 c).length≤x.length)&&subAt x (ch1 c) 0)=((tl x).head? == some c):=by
 have hi:=at1_iff x c 0
 rw[List.drop_zero]at hi
 rw[Bool.eq_iff_iff,Bool.and_eq_true,decide_eq_true_eq]
 refine Iff.trans hi ?_
 cases tl x with
 |nil=>
  constructor
  ·rintro⟨r,h⟩;cases h
  ·intro h;cases h
 |cons a l=>
  constructor
  ·rintro⟨r,h⟩
   cases h
   exact beq_self_eq_true _
  ·intro h
   have h:=eq_of_beq h
   cases h
   exact⟨l,rfl⟩
end Tx
set_option maxHeartbeats 4000000
namespace L3
open PySem PySem.Spec PyProof.Rows L2
open PySem.W (Dat kqdOk)
theorem eqB_int (a b:Int):eqB (.int a) (.int b)=some (decide (a=b)):=by
 have h:eqB (.int a) (.int b)=if kqdOk 9 (.int a)=true∧kqdOk 9 (.int b)=true then some (decD (.int a) (.int b))else none:=rfl
 rw[h,if_pos ⟨rfl,rfl⟩]
 congr 1
 by_cases e:a=b
 ·rw[decD_t (by rw[e]),decide_eq_true e]
 ·rw[decD_f (fun z=>e (by injection z)),decide_eq_false e]
theorem eqD_int (a b:Int):eqD (.int a) (.int b)=some (.bool (decide (a=b))):=by unfold eqD;rw[eqB_int];rfl
theorem neD_int (a b:Int):neD (.int a) (.int b)=some (.bool (!decide (a=b))):=by unfold neD;rw[eqB_int];rfl
theorem subD_int (a b:Int):subD (.int a) (.int b)=some (.int (a-b)):=iD_ok trivial
theorem ltD_int (a b:Int):ltD (.int a) (.int b)=some (.bool (decide (a<b))):=iD_ok trivial
theorem leD_int (a b:Int):leD (.int a) (.int b)=some (.bool (decide (a≤b))):=iD_ok trivial
theorem gtD_int (a b:Int):gtD (.int a) (.int b)=some (.bool (decide (b<a))):=iD_ok trivial
theorem geD_int (a b:Int):geD (.int a) (.int b)=some (.bool (decide (b≤a))):=iD_ok trivial
theorem modD_int {a b:Int} (h:b≠0):modD (.int a) (.int b)=some (.int (a.fmod b)):=iD_ok h
theorem fdivD_int {a b:Int} (h:b≠0) (h2:b.natAbs.log2<9000):fdivD (.int a) (.int b)=some (.int (a.fdiv b)):=iD_ok ⟨h,h2⟩
theorem mulD_int {a b:Int} (h:IntMulOk a b):mulD (.int a) (.int b)=some (.int (a*b)):=iD_ok h
theorem addD_int (a b:Int):addD (.int a) (.int b)=some (.int (a+b)):=rfl
theorem absD_int (c:Int):absD [.int c]=some (.int (c.natAbs:Int)):=by
 show some (Dat.int (if c<0 then -c else c))=_
 congr 2
 split<;>omega
section
variable {g1 g2:Gam→Option Fl} {Γ Γ':Gam} {f:Rho→Option Dat} {ft:Rho→Option Bool} {d:Dat} {i:Nat} {fl:Fl}
theorem sSeq_nx (h:g1 Γ=some (.nx Γ')):sSeq g1 g2 Γ=g2 Γ':=by unfold sSeq;rw[h];rfl
theorem sSet_eq (h:f (immV Γ)=some d):sSet i f Γ=some (.nx (Γ.set i (some (.imm d)))):=by unfold sSet;rw[h]
theorem sIf_t (h:ft (allV Γ)=some true):sIf ft g1 g2 Γ=g1 Γ:=by unfold sIf;rw[h];rfl
theorem sIf_f (h:ft (allV Γ)=some false):sIf ft g1 g2 Γ=g2 Γ:=by unfold sIf;rw[h];rfl
theorem sRet_eq (h:f (allV Γ)=some d):sRet f Γ=some (.rt d):=by unfold sRet;rw[h];rfl
theorem sAsg_eq {gt:Dat→Option Asg} {as:Asg} (h:f (immV Γ)=some d) (h2:gt d=some as):sAsg gt f Γ=some (.nx (setG Γ as)):=by unfold sAsg;rw[h];show(gt d).map _=_;rw[h2];rfl
theorem whileF_f {gb:Gam→Option Fl} {n:Nat} (h:ft (allV Γ)=some false):whileF ft gb (n+1) Γ=some (.nx Γ):=by show(ft (allV Γ)).bind _=_;rw[h];rfl
theorem whileF_t {gb:Gam→Option Fl} {n:Nat} (h:ft (allV Γ)=some true) (h2:gb Γ=some (.nx Γ')):whileF ft gb (n+1) Γ=whileF ft gb n Γ':=by
 show(ft (allV Γ)).bind _=_
 rw[h]
 show(gb Γ).bind _=_
 rw[h2];rfl
theorem runF_rt {N:List Str} {g:Gam→Option Fl} {ds:List Dat} (h:g (startG N ds)=some (.rt d)):runF N g ds=some d:=by unfold runF;rw[h]
end
open PySem PySem.Spec PyProof.Rows L2
open PySem.W (Dat kqdOk)
theorem compL_all {gt:Dat→Option Asg} {fe:Rho→Option Dat} {ρ0:Rho} {β:Type} (enc enc2:β→Dat):∀(l:List β),(∀x∈l,∃as,gt (enc x)=some as∧fe (setR ρ0 as)=some (enc2 x))→compL gt tYesF fe ρ0 (l.map enc)=some (l.map enc2)
 |[],_=>rfl
 |x::l,h=>by
  obtain⟨as,e1,e2⟩:=h x List.mem_cons_self
  have ih:=compL_all enc enc2 l fun y hy=>h y (List.mem_cons_of_mem _ hy)
  simp only[List.map_cons,compL,e1,Option.bind_some,tYesF,if_true,e2,ih,Option.map_some]
theorem compL_pick {gt:Dat→Option Asg} {ft:Rho→Option Bool} {fe:Rho→Option Dat} {ρ0:Rho} {β:Type} (enc:β→Dat) (enc2:β→Dat) (p:β→Bool):∀(l:List β),(∀x∈l,∃as,gt (enc x)=some as∧ft (setR ρ0 as)=some (p x)∧(p x=true→fe (setR ρ0 as)=some (enc2 x)))→compL gt ft fe ρ0 (l.map enc)=some ((l.filter p).map enc2)
 |[],_=>rfl
 |x::l,h=>by
  obtain⟨as,e1,e2,e3⟩:=h x List.mem_cons_self
  have ih:=compL_pick enc enc2 p l fun y hy=>h y (List.mem_cons_of_mem _ hy)
  rw[List.map_cons,compL,e1,Option.bind_some,e2,Option.bind_some,List.filter_cons]
  by_cases c:p x=true
  ·rw[if_pos c,if_pos c,e3 c,Option.bind_some,ih];rfl
  ·rw[if_neg c,if_neg c];exact ih
theorem fcompI_ok {cap:List (Option Nat)} {gt:Dat→Option Asg} {ft:Rho→Option Bool} {fe:Rho→Option Dat} {fi:Rho→Option (List Dat)} {ρ:Rho} {ds out:List Dat} (h:fi ρ=some ds) (hl:ds.length<sizeLine) (hc:compL gt ft fe (capR cap ρ) ds=some out):fL (fCompI cap gt ft fe fi) ρ=some (.list out):=by
 unfold fL fCompI
 rw[h,Option.bind_some,if_pos hl,hc];rfl
theorem fcomp_ok {cap:List (Option Nat)} {gt:Dat→Option Asg} {ft:Rho→Option Bool} {fe:Rho→Option Dat} {fi:Rho→Option Dat} {ρ:Rho} {d:Dat} {ds out:List Dat} (h:fi ρ=some d) (hi:itemsD d=some ds) (hl:ds.length<sizeLine) (hc:compL gt ft fe (capR cap ρ) ds=some out):fL (fComp cap gt ft fe fi) ρ=some (.list out):=by
 unfold fL fComp
 rw[h,Option.bind_some,hi,Option.bind_some,if_pos hl,hc];rfl
theorem iRng_ok2 {rg:List Dat→Option (List Dat)} {fs:Rho→Option (List Dat)} {ρ:Rho} {as ds:List Dat} (h:fs ρ=some as) (h2:rg as=some ds):iRng rg fs ρ=some ds:=by
 unfold iRng
 rw[h];exact h2
theorem f2_ok {op:Dat→Dat→Option Dat} {fa fb:Rho→Option Dat} {ρ:Rho} {a b d:Dat} (ha:fa ρ=some a) (hb:fb ρ=some b) (h:op a b=some d):f2 op fa fb ρ=some d:=by
 unfold f2
 rw[ha,hb];exact h
theorem cons1 {f:Rho→Option Dat} {ρ:Rho} {d:Dat} (h:f ρ=some d):fCons f fNil ρ=some [d]:=by
 unfold fCons
 rw[h];rfl
abbrev nat (p:Nat):Dat:=.int (p:Int)
theorem rngJ (j:Int) (h1:0≤j) (h2:j≤2000):rng1 [.int j]=some (rngD 0 j.toNat):=if_pos ⟨by omega,by omega⟩
theorem rngN (n:Nat) (h:n≤2000):rng1 [.int (n:Int)]=some (rngD 0 n):=by
 have:=rngJ (n:Int) (by omega) (by omega)
 rw[Int.toNat_natCast]at this
 exact this
theorem rngZ {n:Nat} (h:n≤1000):rng1 [.int (n:Int)]=some ((List.range' 0 n).map nat):=by
 rw[rngN n (by omega)]
 unfold rngD
 rw[List.range_eq_range']
 congr 1
 exact List.map_congr_left fun i _=>by rw[Int.zero_add]
theorem forN_ex {gt:Dat→Option Asg} {gb:Gam→Option Fl} (I:Nat→Gam→Prop):∀(n j:Nat) (Γ:Gam),I j Γ→(∀i Γ,j≤i→i<j+n→I i Γ→∃as,gt (nat i)=some as∧∃Γ',gb (setG Γ as)=some (.nx Γ')∧I (i+1) Γ')→∃Γ',forL gt gb ((List.range' j n).map nat) Γ=some (.nx Γ')∧I (j+n) Γ'
 |0,j,Γ,h,_=>⟨Γ,rfl,h⟩
 |n+1,j,Γ,h,st=>by
  obtain⟨as,e1,Γ1,e2,h1⟩:=st j Γ (Nat.le_refl _) (by omega) h
  obtain⟨Γ2,e3,h2⟩:=forN_ex I n (j+1) Γ1 h1 fun i Γ a b=>st i Γ (by omega) (by omega)
  refine⟨Γ2,?_,by rw[show j+(n+1)=j+1+n by omega];exact h2⟩
  rw[List.range'_succ,List.map_cons]
  show(gt (nat j)).bind _=_
  rw[e1]
  show(gb (setG Γ as)).bind _=_
  rw[e2]
  exact e3
theorem forR_ex {gt:Dat→Option Asg} {gb:Gam→Option Fl} {fs:Rho→Option (List Dat)} {Γ:Gam} {n:Nat} (I:Nat→Gam→Prop) (h:fs (allV Γ)=some [.int (n:Int)]) (hn:n≤1000) (h0:I 0 Γ) (st:∀i Γ,i<n→I i Γ→∃as,gt (nat i)=some as∧∃Γ',gb (setG Γ as)=some (.nx Γ')∧I (i+1) Γ'):∃Γ',sForR rng1 gt gb fs Γ=some (.nx Γ')∧I n Γ':=by
 obtain⟨Γ',e,hi⟩:=forN_ex (gt:=gt) (gb:=gb) I n 0 Γ h0 fun i Γ _ b=>st i Γ (by omega)
 rw[Nat.zero_add]at hi
 refine⟨Γ',?_,hi⟩
 unfold sForR
 rw[h,Option.bind_some,rngZ hn,Option.bind_some]
 exact e
theorem seqE {g1 g2:Gam→Option Fl} {Γ Γ':Gam} {Pp:Dat→Prop} (h:g1 Γ=some (.nx Γ')) (k:∃d,Pp d∧g2 Γ'=some (.rt d)):∃d,Pp d∧sSeq g1 g2 Γ=some (.rt d):=by
 obtain⟨d,h1,h2⟩:=k
 exact⟨d,h1,by rw[sSeq_nx h];exact h2⟩
theorem seqI {g1 g2:Gam→Option Fl} {Γ:Gam} {Pp:Dat→Prop} (I:Gam→Prop) (h:∃Γ',g1 Γ=some (.nx Γ')∧I Γ') (k:∀Γ',I Γ'→∃d,Pp d∧g2 Γ'=some (.rt d)):∃d,Pp d∧sSeq g1 g2 Γ=some (.rt d):=by
 obtain⟨Γ',h1,h2⟩:=h
 exact seqE h1 (k Γ' h2)
theorem runE {N:List Str} {g:Gam→Option Fl} {ds:List Dat} {Pp:Dat→Prop} (h:∃d,Pp d∧g (startG N ds)=some (.rt d)):∃d,Pp d∧runF N g ds=some d:=by
 obtain⟨d,h1,h2⟩:=h
 exact⟨d,h1,runF_rt h2⟩
theorem exS {g1 g2:Gam→Option Fl} {Γ Γ1:Gam} {I:Gam→Prop} (h:g1 Γ=some (.nx Γ1)) (h2:∃Γ',g2 Γ1=some (.nx Γ')∧I Γ'):∃Γ',sSeq g1 g2 Γ=some (.nx Γ')∧I Γ':=by
 obtain⟨Γ',e,i⟩:=h2
 exact⟨Γ',by rw[sSeq_nx h];exact e,i⟩
theorem exI {g1 g2:Gam→Option Fl} {Γ:Gam} {I:Gam→Prop} (J:Gam→Prop) (h:∃Γ',g1 Γ=some (.nx Γ')∧J Γ') (h2:∀Γ1,J Γ1→∃Γ',g2 Γ1=some (.nx Γ')∧I Γ'):∃Γ',sSeq g1 g2 Γ=some (.nx Γ')∧I Γ':=by
 obtain⟨Γ1,e,i⟩:=h
 exact exS e (h2 Γ1 i)
theorem sSetN_eq {i:Nat} {f:Rho→Option Dat} {Γ:Gam} {d:Dat} (h:f (allV Γ)=some d) (hn:noL 9 d=true):sSetN i f Γ=some (.nx (Γ.set i (some (.imm d)))):=by
 unfold sSetN
 rw[h,Option.bind_some,if_pos hn]
end L3
namespace Tx
structure Gw (w:Wd):Prop where
 ne:tl w.word≠[]
 np:43∉tl w.word
 nm:45∉tl w.word
theorem tl_stp (t:PySem.Str) (ht:t≠⟨#[]⟩) (w:Wd):tl (stp t w)=tl t++(if w.neg=true then 45::tl w.word else 43::tl w.word):=by
 unfold stp
 split
 ·rw[tl_app,tl_app,List.append_assoc];rfl
 ·first
   |(rw[if_neg ht,tl_app,tl_app,List.append_assoc];rfl)
   |(rw[tl_app,tl_app,List.append_assoc];rfl)
theorem stp_ne (t:PySem.Str) {w:Wd} (h:Gw w):stp t w≠⟨#[]⟩:=by
 intro z
 have z:=congrArg tl z
 unfold stp at z
 split at z
 ·rw[tl_app,tl_app]at z
  have:=(List.append_eq_nil_iff.mp z).2
  exact h.ne this
 ·split at z
  ·exact h.ne z
  ·rw[tl_app,tl_app]at z
   exact h.ne (List.append_eq_nil_iff.mp z).2
theorem tl_fold:∀(ws:List Wd) (t:PySem.Str),t≠⟨#[]⟩→(∀w∈ws,Gw w)→tl (ws.foldl stp t)=tl t++ws.flatMap fun w=>if w.neg=true then 45::tl w.word else 43::tl w.word
 |[],t,_,_=>by simp
 |w::ws,t,ht,h=>by
  show tl (ws.foldl stp (stp t w))=_
  rw[tl_fold ws (stp t w) (stp_ne t (h w List.mem_cons_self)) fun v hv=>h v (List.mem_cons_of_mem _ hv),tl_stp t ht,List.flatMap_cons,List.append_assoc]
theorem rm_w {w:Wd} (h:Gw w):rm (if w.neg=true then 45::tl w.word else 43::tl w.word)=43::tl (term w):=by
 unfold term
 split
 ·show[43,45]++rm (tl w.word)=43::tl (zM++w.word)
  rw[rm_free _ h.nm,tl_app];rfl
 ·show[43]++rm (tl w.word)=_
  rw[rm_free _ h.nm];rfl
theorem rm_flat:∀ws:List Wd,(∀w∈ws,Gw w)→rm (ws.flatMap fun w=>if w.neg=true then 45::tl w.word else 43::tl w.word)=ws.flatMap fun w=>43::tl (term w)
 |[],_=>rfl
 |w::ws,h=>by
  rw[List.flatMap_cons,rm_app,rm_w (h w List.mem_cons_self),rm_flat ws fun v hv=>h v (List.mem_cons_of_mem _ hv),List.flatMap_cons]
theorem term_free {w:Wd} (h:Gw w):43∉tl (term w):=by
 unfold term
 split
 ·rw[tl_app]
  intro z
  rcases List.mem_append.mp z with z|z
  ·have:(43:Nat)∈[45]:=z
   simp at this
  ·exact h.np z
 ·exact h.np
theorem spl_terms:∀(t:List Nat) (ws:List Wd),43∉t→(∀w∈ws,Gw w)→spl 43 (t++ws.flatMap fun w=>43::tl (term w))=t::ws.map fun w=>tl (term w)
 |t,[],ht,_=>by
  rw[show([]:List Wd).flatMap (fun w=>43::tl (term w))=[]from rfl,List.append_nil]
  exact spl_none 43 t ht
 |t,w::ws,ht,h=>by
  rw[List.flatMap_cons,List.cons_append,spl_cut 43 t _ ht,spl_terms (tl (term w)) ws (term_free (h w List.mem_cons_self)) fun v hv=>h v (List.mem_cons_of_mem _ hv)]
  rfl
theorem fold_first (w:Wd):stp ⟨#[]⟩ w=term w:=by
 unfold stp term
 split
 ·exact tl_inj (by rw[tl_app,tl_app,tl_app];rfl)
 ·exact if_pos rfl
theorem pieces_eq (w:Wd) (ws:List Wd) (h:∀v∈w::ws,Gw v):spl 43 (rm (tl ((w::ws).foldl stp ⟨#[]⟩)))=(if w.neg=true then[[]]else[])++(w::ws).map fun v=>tl (term v):=by
 have hw:=h w List.mem_cons_self
 have hn:stp ⟨#[]⟩ w≠⟨#[]⟩:=stp_ne _ hw
 have e1:tl ((w::ws).foldl stp ⟨#[]⟩)=tl (term w)++ws.flatMap fun w=>if w.neg=true then 45::tl w.word else 43::tl w.word:=by
  show tl (ws.foldl stp (stp ⟨#[]⟩ w))=_
  rw[tl_fold ws _ hn fun v hv=>h v (List.mem_cons_of_mem _ hv),fold_first]
 rw[e1,rm_app,rm_flat ws fun v hv=>h v (List.mem_cons_of_mem _ hv)]
 have hr:=fun v hv=>h v (List.mem_cons_of_mem w hv)
 by_cases hg:w.neg=true
 ·have e2:rm (tl (term w))=43::tl (term w):=by
   have:=rm_w hw
   rw[if_pos hg]at this
   have e3:tl (term w)=45::tl w.word:=by
    unfold term
    rw[if_pos hg,tl_app];rfl
   rw[← e3]at this
   exact this
  rw[e2,if_pos hg,List.cons_append]
  have:=spl_cut 43 [] (tl (term w)++ws.flatMap fun w=>43::tl (term w)) (by simp)
  rw[List.nil_append]at this
  rw[this,spl_terms _ ws (term_free hw) hr]
  rfl
 ·have e3:tl (term w)=tl w.word:=by
   unfold term
   rw[if_neg hg]
  rw[if_neg hg,e3,rm_free _ hw.nm,← e3,spl_terms _ ws (term_free hw) hr]
  rfl
theorem fold_head (w:Wd) (ws:List Wd) (h:∀v∈w::ws,Gw v):((tl ((w::ws).foldl stp ⟨#[]⟩)).head? == some 45)=w.neg:=by
 have hw:=h w List.mem_cons_self
 have e1:tl ((w::ws).foldl stp ⟨#[]⟩)=tl (term w)++ws.flatMap fun w=>if w.neg=true then 45::tl w.word else 43::tl w.word:=by
  show tl (ws.foldl stp (stp ⟨#[]⟩ w))=_
  rw[tl_fold ws _ (stp_ne _ hw) fun v hv=>h v (List.mem_cons_of_mem _ hv),fold_first]
 rw[e1]
 unfold term
 cases hg:w.neg with
 |true=>rw[if_pos rfl,tl_app];rfl
 |false=>
  rw[if_neg Bool.false_ne_true]
  cases hc:tl w.word with
  |nil=>exact absurd hc hw.ne
  |cons a r=>
   have:a≠45:=fun z=>hw.nm (by rw[hc,z];exact List.mem_cons_self)
   show(some a==some 45)=false
   simpa using this
end Tx
namespace Tx
def glue:List (List Nat)→List Nat
 |[]=>[]
 |[a]=>a
 |a::b::r=>a++32::glue (b::r)
theorem spl_glue:∀(a:List Nat) (r:List (List Nat)),(∀x∈a::r,32∉x)→spl 32 (glue (a::r))=a::r
 |a,[],h=>spl_none 32 a (h a List.mem_cons_self)
 |a,b::r,h=>by
  show spl 32 (a++32::glue (b::r))=_
  rw[spl_cut 32 a _ (h a List.mem_cons_self),spl_glue b r fun x hx=>h x (List.mem_cons_of_mem _ hx)]
end Tx
namespace Tx
open PySem
theorem stp_no {c:Nat} (h3:c≠43) (h5:c≠45) {t:PySem.Str} {w:Wd} (ht:c∉tl t) (hw:c∉tl w.word):c∉tl (stp t w):=by
 have e1:tl zM=[45]:=rfl
 have e2:tl cP=[43]:=rfl
 unfold stp
 split
 ·rw[tl_app,tl_app,e1]
  intro z
  rcases List.mem_append.mp z with z|z
  ·rcases List.mem_append.mp z with z|z
   ·exact ht z
   ·exact h5 (List.mem_singleton.mp z)
  ·exact hw z
 ·split
  ·exact hw
  ·rw[tl_app,tl_app,e2]
   intro z
   rcases List.mem_append.mp z with z|z
   ·rcases List.mem_append.mp z with z|z
    ·exact ht z
    ·exact h3 (List.mem_singleton.mp z)
   ·exact hw z
theorem fold_no {c:Nat} (h3:c≠43) (h5:c≠45):∀(ws:List Wd) (t:PySem.Str),c∉tl t→(∀w∈ws,c∉tl w.word)→c∉tl (ws.foldl stp t)
 |[],t,h,_=>h
 |w::ws,t,h,hw=>by
  rw[List.foldl_cons]
  exact fold_no h3 h5 ws _ (stp_no h3 h5 h (hw w List.mem_cons_self)) fun v hv=>hw v (List.mem_cons_of_mem _ hv)
theorem stp_ln (t:PySem.Str) (w:Wd):(tl (stp t w)).length≤(tl t).length+(tl w.word).length+1:=by
 have e1:tl zM=[45]:=rfl
 have e2:tl cP=[43]:=rfl
 unfold stp
 split
 ·rw[tl_app,tl_app,e1,List.length_append,List.length_append]
  simp;omega
 ·split
  ·omega
  ·rw[tl_app,tl_app,e2,List.length_append,List.length_append]
   simp;omega
theorem spl_join (c:Nat):∀(t:PySem.Str) (ts:List PySem.Str),(∀x∈t::ts,c∉tl x)→spl c (tl (Str.join ⟨#[c]⟩ (t::ts)))=(t::ts).map tl
 |t,[],h=>spl_none c (tl t) (h t List.mem_cons_self)
 |t,u::ts,h=>by
  show spl c (tl (t++⟨#[c]⟩++Str.join ⟨#[c]⟩ (u::ts)))=_
  rw[tl_app,tl_app,List.append_assoc]
  show spl c (tl t++c::tl (Str.join ⟨#[c]⟩ (u::ts)))=_
  rw[spl_cut c _ _ (h t List.mem_cons_self),spl_join c u ts fun x hx=>h x (List.mem_cons_of_mem _ hx)]
  rfl
end Tx
namespace K06
open PySem PySem.Spec PyProof.Rows L2 L3
open PySem.W (Dat kqdOk)
open Tx (tl tl_app tl_inj)
local macro_rules | `(tactic| simp! [$xs,*]) => `(tactic| simp only [runF, startG, sSeq, sSet, sIf, sRet, sSkip, sDrop, sAsg, fTest, fTru, L3.f2, L3.f1, fVar, fC, fCons, fNil, fTup, fLst, fFn, fCall, fIf, fAnd, fOr, fNot, fAndT, fOrT, fNotT, immV, allV, asB, truD, negD, List.map_cons, List.map_nil, List.getElem?_cons_zero, List.getElem?_cons_succ, Option.join_some, Option.bind_some, Option.map_some, List.set_cons_zero, List.set_cons_succ, List.length_cons, List.length_nil, List.cons_append, List.nil_append, List.replicate, Nat.add_sub_cancel, Nat.zero_add, Nat.reduceAdd, Nat.reduceSub, if_true, if_false, Bool.false_eq_true, Bool.not_true, Bool.not_false, decide_true, decide_false, reduceIte, reduceCtorEq, Nat.reduceEqDiff, Nat.reduceLeDiff, sOwn, sWhile, whileF, sApp, fSz, gd, fMeth, joinD, strsD, ixD, fL, fComp, itemsD, compL, aName, setR, capR, List.foldl_cons, List.foldl_nil, Option.map_none, Option.bind_none, List.isEmpty, List.reverse_cons, List.reverse_nil, and_self, and_true, true_and, Option.some.injEq, aTup, aCons, aNil, setG, List.append_nil, hPure, L3.h2, hNil, hCons, hTup, hFn, sRetM, fNew, iSq, iRng, hL, fDisp, lookD, scD, tupleD, List.length_set, List.append_eq, $xs,*])
local macro_rules | `(tactic| dsimp! [$xs,*]) => `(tactic| simp only [runF, startG, sSeq, sSet, sIf, sRet, sSkip, sDrop, sAsg, fTest, fTru, L3.f2, L3.f1, fVar, fC, fCons, fNil, fTup, fLst, fFn, fCall, fIf, fAnd, fOr, fNot, fAndT, fOrT, fNotT, immV, allV, asB, truD, negD, List.map_cons, List.map_nil, List.getElem?_cons_zero, List.getElem?_cons_succ, Option.join_some, Option.bind_some, Option.map_some, List.set_cons_zero, List.set_cons_succ, List.length_cons, List.length_nil, List.cons_append, List.nil_append, List.replicate, Nat.add_sub_cancel, Nat.zero_add, Nat.reduceAdd, Nat.reduceSub, if_true, if_false, Bool.false_eq_true, Bool.not_true, Bool.not_false, decide_true, decide_false, reduceIte, reduceCtorEq, Nat.reduceEqDiff, Nat.reduceLeDiff, sOwn, sWhile, whileF, sApp, fSz, gd, fMeth, joinD, strsD, fL, fComp, itemsD, compL, aName, setR, capR, List.foldl_cons, List.foldl_nil, Option.map_none, Option.bind_none, List.isEmpty, List.reverse_cons, List.reverse_nil, and_self, and_true, true_and, Option.some.injEq, aTup, aCons, aNil, setG, List.append_nil, hPure, L3.h2, hNil, hCons, hTup, hFn, sRetM, fNew, iSq, iRng, hL, fDisp, lookD, scD, tupleD, List.length_set, List.append_eq, $xs,*])
local macro_rules | `(tactic| simp!) => `(tactic| simp only [startG, List.map_cons, List.map_nil, List.length_cons, List.length_nil, List.cons_append, List.nil_append, List.replicate])
local macro_rules | `(tactic| dsimp!) => `(tactic| simp only [setG, List.foldl_cons, List.foldl_nil, List.set_cons_succ, List.set_cons_zero])
section
def top (i:Nat):Stmt:=PySem.Challenge.pw_stepjudge_k06_whole_works_read.main.body.getD i (.Pass ⟨0,0,0,0⟩)
structure TX (mg:Str→Option Value):Prop where
 abs:mg "abs"=none
 len:mg "len"=none
 int:mg "int"=none
 isinstance:mg "isinstance"=none
 tuple:mg "tuple"=none
 range:mg "range"=none
 zip:mg "zip"=none
 list:mg "list"=none
 str:mg "str"=none
 all:mg "all"=none
 min:mg "min"=none
 bool:mg "bool"=none
noncomputable section
variable {P:Program} {w:World} {K:Fg} {mg:Str→Option Value} {base:Heap} {f:Addr} {fd:FuncData}
theorem sz {n:Nat} (h:n≤1000):n≤sizeLine:=Nat.le_of_lt (small1000 h)
abbrev frD (x:Int×Int):Dat:=.tuple [.int x.1,.int x.2]
theorem abs_int (c:Int):(if c<0 then -c else c)=(c.natAbs:Int):=by split<;>omega
theorem log2_small {n k:Nat} (hk:0<k) (h:n<2^k):n.log2<k:=by
 by_cases e:n=0
 ·subst e;simpa using hk
 ·exact(Nat.log2_lt e).mpr h
theorem atI2_0 (a b:Dat):atI [a,b] 0=some a:=rfl
theorem atI2_1 (a b:Dat):atI [a,b] 1=some b:=rfl
theorem fmod_bd (a:Int) {b:Int} (h:0<b):0≤a.fmod b∧a.fmod b<b:=⟨Int.fmod_nonneg_of_pos a h,Int.fmod_lt_of_pos a h⟩
theorem fdiv_bd {a b m:Int} (hb:0<b) (h0:0≤a) (h:a<b*m):0≤a.fdiv b∧a.fdiv b<m:=by
 rw[Int.fdiv_eq_ediv_of_nonneg a (Int.le_of_lt hb)]
 exact⟨Int.ediv_nonneg h0 (Int.le_of_lt hb),Int.ediv_lt_of_lt_mul hb (by rw[Int.mul_comm];exact h)⟩
theorem mulR (a:Int) {b:Int} (h1: -(2^64)<b) (h2:b<2^64):mulD (.int a) (.int b)=some (.int (a*b)):=mulD_int (.of_right (intBits_le_64 h1 h2))
theorem mulL {a:Int} (b:Int) (h1: -(2^64)<a) (h2:a<2^64):mulD (.int a) (.int b)=some (.int (a*b)):=mulD_int (.of_left (intBits_le_64 h1 h2))
theorem pow18:powD (.int 10) (.int 18)=some (.int (10^18)):=iD_ok (by unfold CPow;decide)
theorem pow28:powD (.int 2) (.int 28)=some (.int (2^28)):=iD_ok (by unfold CPow;decide)
theorem pow6:powD (.int 10) (.int 6)=some (.int (10^6)):=iD_ok (by unfold CPow;decide)
abbrev S (i:Int):Str:=Str.ofString (toString i)
theorem emp_app (x:Str):Str.ofString ""++x=x:=by
 rw[Str.ofString_eq_toList]
 show Str.mk (_++x.cps)=x
 simp
def Big (p:Int):Prop:=p.natAbs<10^60
theorem Big.log {p:Int} (h:Big p):p.natAbs.log2<200:=log2_small (by decide) (Nat.lt_of_lt_of_le h (by decide))
theorem strD_big {p:Int} (h:Big p):strD [.int p]=some (.str (S p)):=by
 show(if p.natAbs.log2<1920 then _ else _)=_
 have:=h.log
 exact if_pos (by omega)
def due (p q:Int):Str:=if q=1 then S p else S p++Str.ofString "/"++S q
theorem addD_str {a b:Str} (h:a.length+b.length≤sizeLine):addD (.str a) (.str b)=some (.str (a++b)):=if_pos h
theorem slen (s:String):(Str.ofString s).length=s.length:=PySem.ofString_length s
theorem sapp (a b:Str):(a++b).length=a.length+b.length:=PySem.strLen_append a b
def stir (c k:Int):Int:=if 10^18≤c then((c-10^18)/2^(28*k).toNat).fmod (2^28)else
 (((((c+1013*k+1)*16807).fmod 2147483647*((c+1013*k+1)*16807).fmod 2147483647).fmod 2147483629*39373).fmod 2147483587).fdiv 8
theorem stir_bd (c k:Int):0≤stir c k∧stir c k<268435456:=by
 unfold stir
 split
 ·exact fmod_bd _ (by decide)
 ·have h:=fmod_bd ((((c+1013*k+1)*16807).fmod 2147483647*((c+1013*k+1)*16807).fmod 2147483647).fmod 2147483629*39373) (b:=2147483587) (by decide)
  exact fdiv_bd (by decide) h.1 (by omega)
theorem d_st (T:TX mg) (U:FnAt K mg "_law_stir" (top 46) ["cell","k"]):∃F,Dn P w K mg base 1 "_law_stir" ["cell","k"] 2 F∧∀c k:Int,0≤k→F [.int c,.int k]=some (.int (stir c k)):=by
 refine⟨_,qdnA ["cell","k","number"] U fun nd _ _ _ _ _ _ _ hr=>(qpsf_cons (qpsf_if (qpft_ge (qpf_var 0) (qpf_pow qpf_int qpf_int)) (qpsf_one (qpsf_ret (qpf_mod (qpf_shr (qpf_sub (qpf_var 0) (qpf_pow qpf_int qpf_int)) (qpf_mul qpf_int (qpf_var 1))) (qpf_pow qpf_int qpf_int)))) qpsf_nil)
  (qpsf_cons (qpsf_set 2 nd (qpf_mod (qpf_mul (qpf_add (qpf_add (qpf_var 0) (qpf_mul qpf_int (qpf_var 1))) qpf_int) qpf_int) qpf_int))
  (qpsf_cons (qpsf_set 2 nd (qpf_mod (qpf_mul (qpf_var 2) (qpf_var 2)) qpf_int))
  (qpsf_one (qpsf_ret (qpf_fdiv (qpf_mod (qpf_mul (qpf_var 2) qpf_int) qpf_int) qpf_int)))))),?_⟩
 intro c k h
 have m1:mulD (.int 28) (.int k)=some (.int (28*k)):=mulL k (by decide) (by decide)
 have m2:mulD (.int 1013) (.int k)=some (.int (1013*k)):=mulL k (by decide) (by decide)
 by_cases hc:10^18≤c
 ·have e:stir c k=((c-10^18)/2^(28*k).toNat).fmod (2^28):=if_pos hc
  have s1:shrD (.int (c-10^18)) (.int (28*k))=some (.int ((c-10^18)/2^(28*k).toNat)):=iD_ok (by unfold CSh;omega)
  have s2:modD (.int ((c-10^18)/2^(28*k).toNat)) (.int (2^28))=some (.int (stir c k)):=by rw[e];exact modD_int (by decide)
  simp![pow18,pow28,geD_int,hc,subD_int,m1,s1,s2]
 ·have e:stir c k=(((((c+1013*k+1)*16807).fmod 2147483647*((c+1013*k+1)*16807).fmod 2147483647).fmod 2147483629*39373).fmod 2147483587).fdiv 8:=if_neg hc
  rw[e]
  have b1:=fmod_bd ((c+1013*k+1)*16807) (b:=2147483647) (by decide)
  have m3:=mulR (c+1013*k+1) (b:=16807) (by decide) (by decide)
  have m4:=modD_int (a:=(c+1013*k+1)*16807) (b:=2147483647) (by decide)
  generalize ((c+1013*k+1)*16807).fmod 2147483647=n1 at b1 m4 ⊢
  have m5:mulD (.int n1) (.int n1)=some (.int (n1*n1)):=mulL n1 (by omega) (by omega)
  have m6:=modD_int (a:=n1*n1) (b:=2147483629) (by decide)
  have m7:=mulR ((n1*n1).fmod 2147483629) (b:=39373) (by decide) (by decide)
  have m8:=modD_int (a:=(n1*n1).fmod 2147483629*39373) (b:=2147483587) (by decide)
  have m9:=fdivD_int (a:=((n1*n1).fmod 2147483629*39373).fmod 2147483587) (b:=8) (by decide) (by decide)
  simp![pow18,geD_int,hc,m2,addD_int,m3,m4,m5,m6,m7,m8,m9]
def fuelD:Gam→Nat
 |_::some (.imm (.int b))::_=>b.natAbs+1
 |_=>0
abbrev cdT:Rho→Option Bool:=fTest (f2 neD (fVar 1) (fC (Dat.int 0)))
theorem cdT_eq (x z:Option Slot) (b:Int) (r:Gam):cdT (allV (x::some (.imm (.int b))::r))=some (!decide (b=0)):=by
 show(neD (.int b) (.int 0)).bind asB=_
 rw[neD_int];rfl
abbrev ldB:Gam→Option Fl:=sPar 0 1 (fCons (fVar 1) (fCons (f2 modD (fVar 0) (fVar 1)) fNil))
theorem ld_loop:∀(n:Nat) (a b:Int),0≤b→b.natAbs<n→∃c:Int,whileF cdT ldB n [some (.imm (.int a)),some (.imm (.int b))]=some (.nx [some (.imm (.int c)),some (.imm (.int 0))])∧c.natAbs=Int.gcd a b
 |0,_,_,_,h=>by omega
 |n+1,a,b,hb,h=>by
  by_cases e:b=0
  ·subst e
   refine⟨a,whileF_f (by rw[cdT_eq _ none];rfl),?_⟩
   rw[Int.gcd_zero]
  ·have hm0:0≤a.fmod b:=Int.fmod_nonneg_of_pos a (by omega)
   have hm1:a.fmod b<b:=Int.fmod_lt_of_pos a (by omega)
   have hbody:ldB [some (.imm (.int a)),some (.imm (.int b))]=some (.nx [some (.imm (.int b)),some (.imm (.int (a.fmod b)))]):=by
    have e1:fCons (fVar 1) (fCons (f2 modD (fVar 0) (fVar 1)) fNil) (immV [some (.imm (.int a)),some (.imm (.int b))])=some [.int b,.int (a.fmod b)]:=by
     show((modD (.int a) (.int b)).bind fun d=>some [d]).map _=_
     rw[show modD (.int a) (.int b)=some (.int (a.fmod b))from iD_ok e];rfl
    unfold ldB sPar
    rw[e1];rfl
   obtain⟨c,q,hc⟩:=ld_loop n b (a.fmod b) hm0 (by omega)
   refine⟨c,?_,?_⟩
   ·rw[whileF_t (by rw[cdT_eq _ none,decide_eq_false e];rfl) hbody,q]
   ·rw[hc,Fr.gcd_fmod a b (by omega)]
theorem d_div (T:TX mg) (U:FnAt K mg "_law_divisor" (top 47) ["one","other"]):∃F,Dn P w K mg base 1 "_law_divisor" ["one","other"] 2 F∧∀a b:Int,0≤b→F [.int a,.int b]=some (.int (Int.gcd a b)):=by
 refine⟨_,qdnA ["one","other"] U fun nd _ _ _ _ _ _ _ hr=>(qpsf_cons (qpsf_while fuelD PassesOwn.never (qpft_ne hr (qpf_var 1) qpf_int) (qpsf_one (qpsf_par 0 1 rfl nd (by decide) (qpfa_cons (qpf_var 1) (qpfa_cons (qpf_mod (qpf_var 0) (qpf_var 1)) qpfa_nil (hs:=star_bin))))))
  (qpsf_one (qpsf_ret (qpf_abs T.abs (qpfa_cons (qpf_var 0) qpfa_nil))))),?_⟩
 intro a b h
 obtain⟨c,q,hc⟩:=ld_loop (b.natAbs+1) a b h (by omega)
 refine runF_rt ?_
 refine(sSeq_nx q).trans ?_
 refine sRet_eq ?_
 show some (Dat.int (if c<0 then -c else c))=_
 rw[abs_int,hc]
def rd2 (n d:Int):Int×Int:=(Fr.num n d,Fr.den n d)
theorem intD_f:intD [.bool false]=some (.int 0):=rfl
theorem d_least (T:TX mg) {Fd:List Dat→Option Dat} (Dl_divisor:Dn P w K mg base 1 "_law_divisor" ["one","other"] 2 Fd) (hd:∀a b:Int,0≤b→Fd [.int a,.int b]=some (.int (Int.gcd a b))) (U:FnAt K mg "_law_least" (top 48) ["n","d"]):
  ∃F,Dn P w K mg base 2 "_law_least" ["n","d"] 2 F∧∀n d:Int,0<d→d.natAbs<10^600→F [.int n,.int d]=some (frD (rd2 n d)):=by
 refine⟨_,qdnA ["n","d","by"] U fun nd _ _ _ _ _ _ _ hr=>(qpsf_cons (qpsf_set 2 nd (qpf_mul (qpf_fn Dl_divisor hr (qpfa_cons (qpf_var 0) (qpfa_cons (qpf_var 1) qpfa_nil))) (qpf_sub qpf_int (qpf_mul qpf_int (qpf_intC T.int (qpfa_cons (qpf_lt (qpf_var 1) qpf_int) qpfa_nil (hs:=star_cmp)))))))
  (qpsf_one (qpsf_ret (qpf_tup (k:=0) (qpfa_cons (qpf_fdiv (qpf_var 0) (qpf_var 2)) (qpfa_cons (qpf_fdiv (qpf_var 1) (qpf_var 2)) qpfa_nil (hs:=star_bin)) (hs:=star_bin)))))),?_⟩
 intro n d h hb
 have e1:=hd n d (Int.le_of_lt h)
 have c:¬d<0:=by omega
 have gp:=Fr.gcd_pos (n:=n) (d:=d) (by omega)
 have gl:Int.gcd n d≤d.natAbs:=Nat.le_of_dvd (by omega) (Int.ofNat_dvd_left.mp (Int.gcd_dvd_right n d))
 have lg:(Int.gcd n d:Int).natAbs.log2<9000:=Nat.lt_trans (log2_small (k:=2000) (by decide) (by
  rw[Int.natAbs_natCast]
  exact Nat.lt_of_le_of_lt gl (Nat.lt_trans hb (by decide)))) (by decide)
 have q1:=fdivD_int (a:=n) (b:=(Int.gcd n d:Int)) (by omega) lg
 have q2:=fdivD_int (a:=d) (b:=(Int.gcd n d:Int)) (by omega) lg
 have en:n.fdiv (Int.gcd n d:Int)=Fr.num n d:=by unfold Fr.num Fr.dv;rw[if_neg c]
 have ed:d.fdiv (Int.gcd n d:Int)=Fr.den n d:=by unfold Fr.den Fr.dv;rw[if_neg c]
 rw[en]at q1
 rw[ed]at q2
 have z2:2≤sizeLine:=sz (by decide)
 have m0:=mulR 2 (b:=0) (by decide) (by decide)
 have m1:=mulR (Int.gcd n d:Int) (b:=1) (by decide) (by decide)
 rw[Int.mul_one]at m1
 generalize (Int.gcd n d:Int)=g at *
 simp![e1,ltD_int,eq_false c,intD_f,m0,show(2:Int)*0=0 from rfl,subD_int,show(1:Int)-0=1 from rfl,m1,q1,q2,z2,rd2]
end
end
section
noncomputable section
variable {P:Program} {w:World} {K:Fg} {mg:Str→Option Value} {base:Heap} {f:Addr} {fd:FuncData}
open Tx (tl tl_app tl_inj)
def lets:Str:=Str.ofString "abcdefghijklmnopqrstuvwxyz"
def ch (k:Nat):Str:=⟨#[97+k]⟩
theorem lets_eq:lets=⟨#[97,98,99,100,101,102,103,104,105,106,107,108,109,110,111,112,113,114,115,116,117,118,119,120,121,122]⟩:=by decide +kernel
theorem lets_at {k:Nat} (h:k<26):lets.cps[k]?=some (97+k):=by
 rw[lets_eq]
 revert k
 decide
theorem ix_let {i:Int} (h0:0≤i) (h:i<26):ixSD (.str lets) (.int i)=some (.str (ch i.toNat)):=by
 show(if 0≤i∧i<1000 then(lets.cps[i.toNat]?).map _ else none)=_
 rw[if_pos ⟨h0,by omega⟩,lets_at (by omega)]
 rfl
def Lw (x:Str):Prop:=∀c∈tl x,97≤c∧c≤122
structure Nm (x:Str):Prop where
 ne:tl x≠[]
 len:x.length≤8
 lw:Lw x
theorem tl_len (x:Str):(tl x).length=x.length:=by simp[Str.length]
theorem Lw.app {a b:Str} (ha:Lw a) (hb:Lw b):Lw (a++b):=fun c hc=>by
 rw[tl_app]at hc
 rcases List.mem_append.mp hc with h|h
 ·exact ha c h
 ·exact hb c h
theorem lw_ch {k:Nat} (h:k<26):Lw (ch k):=fun c hc=>by
 have:c∈[97+k]:=hc
 rw[List.mem_singleton.mp this]
 omega
theorem ch_len (k:Nat):(ch k).length=1:=rfl
theorem join0:∀ys:List Str,tl (Txt.join (Str.ofString "") ys)=ys.flatMap tl:=by
 intro ys
 show tl (Builtin.Str.glued _ ys)=_
 rw[PySem.StrLaws.glued_eq_join]
 have he:Str.ofString ""=⟨#[]⟩:=by decide +kernel
 rw[he]
 have key:∀ys:List Str,tl (Str.join ⟨#[]⟩ ys)=ys.flatMap tl:=by
  intro ys
  induction ys with
  |nil=>rfl
  |cons y ys ih=>
   cases ys with
   |nil=>show tl y=_;simp
   |cons z ys=>
    show tl (y++⟨#[]⟩++Str.join ⟨#[]⟩ (z::ys))=_
    rw[tl_app,tl_app,ih,List.flatMap_cons]
    show tl y++[]++_=_
    rw[List.append_nil]
    rfl
 exact key ys
theorem strs_map:∀ys:List Str,strsD (ys.map Dat.str)=some ys
 |[]=>rfl
 |y::ys=>by
  show(strsD (ys.map Dat.str)).map _=_
  rw[strs_map ys];rfl
theorem join_ok {x:Str} {fs:Rho→Option (List Dat)} {ρ:Rho} {ys:List Str} (h:fs ρ=some [.list (ys.map .str)]) (hz:(ys.map (·.length)).sum+ys.length*x.length≤16777216):fMeth joinD (fC (.str x)) fs ρ=some (.str (Txt.join x ys)):=by
 unfold fMeth
 rw[h]
 show(strsD (ys.map Dat.str)).bind _=_
 rw[strs_map]
 exact if_pos hz
theorem in_str (x:Str) (ns:List Str):inD (.str x) (.list (ns.map .str))=some (.bool (ns.contains x)):=by
 have hall:(ns.map Dat.str).all flatD=true:=by rw[List.all_map,List.all_eq_true];exact fun _ _=>rfl
 show(if flatD (.str x)=true∧(ns.map Dat.str).all flatD=true then some ((ns.map Dat.str).any fun z=>eqF z (.str x))else none).map Dat.bool=_
 rw[if_pos ⟨rfl,hall⟩,List.any_map]
 show some (Dat.bool (ns.any fun z=>z==x))=_
 rw[List.contains_eq_any_beq]
 congr 2
 congr 1
 funext z
 exact Bool.beq_comm
theorem notin_str (x:Str) (ns:List Str):notInD (.str x) (.list (ns.map .str))=some (.bool (!ns.contains x)):=by
 have h:=in_str x ns
 unfold inD at h
 obtain⟨k,e1,e2⟩:=map_some' h
 unfold notInD
 rw[e1]
 injection e2 with e2
 show some (Dat.bool (!k))=_
 rw[e2]
theorem many_left:∀(ns l:List Str),l.Nodup→l.length≤(l.filter fun x=>!ns.contains x).length+ns.length
 |[],l,_=>by
  have e:(l.filter fun x=>!([]:List Str).contains x)=l:=List.filter_eq_self.mpr (fun x _=>rfl)
  rw[e]
  exact Nat.le_add_right _ _
 |n::ns,l,h=>by
  have ih:=many_left ns l h
  have e:(l.filter fun x=>!(n::ns).contains x)=(l.filter fun x=>!ns.contains x).filter (fun x=>x !=n):=by
   rw[List.filter_filter]
   apply List.filter_congr
   intro x _
   rw[List.contains_cons,Bool.not_or]
   rfl
  have hn:=h.filter (fun x=>!ns.contains x)
  rw[e,← List.Nodup.erase_eq_filter hn n]
  have:=List.le_length_erase (a:=n) (l:=l.filter fun x=>!ns.contains x)
  rw[List.length_cons]
  omega
end
end
section
noncomputable section
variable {P:Program} {w:World} {K:Fg} {mg:Str→Option Value} {base:Heap} {f:Addr} {fd:FuncData}
open Tx (tl tl_app tl_inj)
abbrev StS (F:List Dat→Option Dat):Prop:=∀c k:Int,0≤k→F [.int c,.int k]=some (.int (stir c k))
theorem sl_to {x:Str} {j:Nat} (h:j≤x.length) (hx:x.length≤1000):∃y,slSD (.str x) none (some (j:Int))=some (.str y)∧tl y=(tl x).take j:=by
 refine⟨_,if_pos (sz hx),?_⟩
 have e:=eq_of_beq (slice_closes_to (x:=x) (j:=(j:Int)) ⟨by omega,by
  show(j:Int)≤((tl x).length:Nat)
  rw[tl_len];omega⟩)
 rw[e]
 show(List.take _ (List.drop _ (tl x))).toArray.toList=_
 simp
theorem sl_from {x:Str} {j:Nat} (h:j≤x.length) (hx:x.length≤1000):∃y,slSD (.str x) (some (j:Int)) none=some (.str y)∧tl y=(tl x).drop j:=by
 refine⟨_,if_pos (sz hx),?_⟩
 have e:=eq_of_beq (slice_closes_from (x:=x) (i:=(j:Int)) ⟨by omega,by
  show(j:Int)≤((tl x).length:Nat)
  rw[tl_len];omega⟩)
 rw[e]
 show(List.take _ (List.drop _ (tl x))).toArray.toList=_
 simp
 exact List.take_of_length_le (by rw[List.length_drop,tl_len];exact Nat.le_refl _)
theorem sum_one:∀l:List Nat,(l.map fun _=>1).sum=l.length
 |[]=>rfl
 |x::l=>by rw[List.map_cons,List.sum_cons,sum_one l,List.length_cons];omega
theorem atU {ds:List Dat} {i:Nat} {d:Dat} (h:ds[i]?=some d):atI ds (i:Int)=some d:=by
 have hl:i<ds.length:=(List.getElem?_eq_some_iff.mp h).1
 unfold L2.atI L2.ixN
 rw[if_pos (by omega),if_pos (by omega)]
 simpa using h
theorem len_of {x:Str} {l:List Nat} (h:tl x=l):x.length=l.length:=by rw[← tl_len,h]
theorem lw_take {x y:Str} {j:Nat} (h:Lw x) (e:tl y=(tl x).take j):Lw y:=fun c hc=>h c (List.mem_of_mem_take (e▸hc))
theorem lw_drop {x y:Str} {j:Nat} (h:Lw x) (e:tl y=(tl x).drop j):Lw y:=fun c hc=>h c (List.mem_of_mem_drop (e▸hc))
theorem addU_str {a b:Str} (h:a.length+b.length≤1000):addU (.str a) (.str b)=some (.str (a++b)):=addD_str (sz h)
def zzs:List Str:=(List.range' 0 6).map fun n=>Str.ofString "zz"++ch n
theorem zzs_nd:zzs.Nodup:=by
 have e:zzs=[⟨#[122,122,97]⟩,⟨#[122,122,98]⟩,⟨#[122,122,99]⟩,⟨#[122,122,100]⟩,⟨#[122,122,101]⟩,⟨#[122,122,102]⟩]:=by decide +kernel
 rw[e]
 decide
def bw:List Str:=["given","so","from","ask"]
theorem zzs_bw:∀x∈zzs,x∉bw:=by
 have e:zzs=[⟨#[122,122,97]⟩,⟨#[122,122,98]⟩,⟨#[122,122,99]⟩,⟨#[122,122,100]⟩,⟨#[122,122,101]⟩,⟨#[122,122,102]⟩]:=by decide +kernel
 rw[e]
 decide +kernel
theorem zzs_nm:∀x∈zzs,Nm x:=by
 intro x hx
 obtain⟨n,hn,rfl⟩:=List.mem_map.mp hx
 have hn6:n<6:=by
  have:=List.mem_range'.mp hn
  obtain⟨i,h1,h2⟩:=this
  omega
 have hz:Lw (Str.ofString "zz"):=by
  have e:Str.ofString "zz"=⟨#[122,122]⟩:=by decide +kernel
  rw[e]
  intro c hc
  have:c∈[122,122]:=hc
  simp at this
  omega
 refine⟨?_,?_,hz.app (lw_ch (by omega))⟩
 ·rw[tl_app]
  intro z
  have:=(List.append_eq_nil_iff.mp z).2
  cases this
 ·rw[sapp,slen,ch_len]
  decide
theorem d_names (T:TX mg) {Fs:List Dat→Option Dat} (Dl_stir:Dn P w K mg base 1 "_law_stir" ["cell","k"] 2 Fs) (hs:StS Fs) (U:FnAt K mg "_law_names" (top 49) ["head","k","many"]):
  ∃F,Dn P w K mg base 2 "_law_names" ["head","k","many"] 3 F∧∀c:Int,∃d,(∃ns:List Str,d=.list (ns.map .str)∧ns.length=3∧(∀x∈ns,Nm x)∧ns.Nodup∧∀x∈ns,x∉bw)∧F [.int c,.int 300,.int 3]=some d:=by
 refine⟨_,qdnA ["head","k","many","letters","size","stem","found","j","number","at","word"] U fun nd _ _ _ _ _ _ _ hr=>(qpsf_cons (qpsf_set 3 nd qpf_str)
  (qpsf_cons (qpsf_set 4 nd (qpf_add qpf_int (qpf_mod (qpf_fn Dl_stir hr (qpfa_cons (qpf_var 0) (qpfa_cons (qpf_var 1) qpfa_nil))) qpf_int)))
  (qpsf_cons (qpsf_set 5 nd (qpf_join qpf_str (qpfa_cons (qpf_of_l (qpfl_compI rfl (blk_cap (tn:=["j"]) (fv:=["letters","k","head"]) (js:=[3,1,0]) rfl (by decide +kernel) (by decide +kernel) rfl (by decide +kernel) (by decide +kernel) rfl
   (fun x hx=>by((have hx2:x="letters"∨x="k"∨x="head":=(by simpa using hx));(rcases hx2 with rfl|rfl|rfl<;>exact⟨_,rfl⟩)))
   (fun p hp=>by((have hp2:p=(("letters" : Str),(3:Nat))∨p=(("k" : Str),(1:Nat))∨p=(("head" : Str),(0:Nat)):=(by simpa using hp));(rcases hp2 with rfl|rfl|rfl<;>exact⟨rfl,.inr (.inl rfl),.inl rfl,fun z=>by cases z⟩)))) (qpif_range1 T.range (qpfa_cons (qpf_var 4) qpfa_nil)) (fun _ _ _ _=>(qpgf_name 0 (show(["j","letters","k","head"]:List Str).Nodup by decide +kernel))) (fun _ _ _ _=>qptsf_nil) (fun _ _ _ _=>(qpf_ixS (qpf_var 1) (qpf_mod (qpf_fn Dl_stir hr (qpfa_cons (qpf_var 3) (qpfa_cons (qpf_add (qpf_add (qpf_var 2) qpf_int) (qpf_var 0)) qpfa_nil (hs:=star_bin)))) qpf_int))) (tg_name rfl))) qpfa_nil)))
  (qpsf_cons (qpsf_own 6 nd (qpfl_lst qpfa_nil))
  (qpsf_cons (qpsf_forR1 PassesOwn.never rfl T.range (qpfa_cons (qpf_var 2) qpfa_nil) (qpgf_name 7 nd) (qpsf_cons (qpsf_set 8 nd (qpf_fn Dl_stir hr (qpfa_cons (qpf_var 0) (qpfa_cons (qpf_add (qpf_add (qpf_var 1) qpf_int) (qpf_var 7)) qpfa_nil (hs:=star_bin)))))
  (qpsf_cons (qpsf_set 9 nd (qpf_mod (qpf_var 8) (qpf_var 4)))
  (qpsf_cons (qpsf_setN 10 nd (qpf_addU (qpf_addU (qpf_sliceS (qpf_var 5) qpfo_none (qpfo_some (qpf_var 9))) (qpf_ixS (qpf_var 3) (qpf_mod (qpf_fdiv (qpf_var 8) qpf_int) qpf_int))) (qpf_sliceS (qpf_var 5) (qpfo_some (qpf_add (qpf_var 9) qpf_int)) qpfo_none)))
  (qpsf_cons (qpsf_if (qpft_eq hr (qpf_mod (qpf_fdiv (qpf_var 8) qpf_int) qpf_int) qpf_int) (qpsf_one (qpsf_setN 10 nd (qpf_sliceS (qpf_var 5) qpfo_none (qpfo_some (qpf_add (qpf_var 9) qpf_int))))) qpsf_nil)
  (qpsf_cons (qpsf_if (qpft_w (qpfw_or (qpft_in (qpf_var 10) (qpf_var 6)) (qpfw_or1 (qpft_in (qpf_var 10) (qpf_lst (qpfa_cons qpf_str (qpfa_cons qpf_str (qpfa_cons qpf_str (qpfa_cons qpf_str qpfa_nil))))))))) (qpsf_one (qpsf_setN 10 nd (qpf_ix (qpf_of_l (qpfl_comp rfl (blk_cap (tn:=["one"]) (fv:=["found"]) (js:=[6]) rfl (by decide +kernel) (by decide +kernel) rfl (by decide +kernel) (by decide +kernel) rfl
   (fun x hx=>by((have hx2:x="found":=(by simpa using hx));(rcases hx2 with rfl<;>exact⟨_,rfl⟩)))
   (fun p hp=>by((have hp2:p=(("found" : Str),(6:Nat)):=(by simpa using hp));(rcases hp2 with rfl<;>exact⟨rfl,.inr (.inl rfl),.inl rfl,fun z=>by cases z⟩)))) (qpf_of_l (qpfl_compI rfl (blk_cap (tn:=["n"]) (fv:=["letters"]) (js:=[3]) rfl (by decide +kernel) (by decide +kernel) rfl (by decide +kernel) (by decide +kernel) rfl
   (fun x hx=>by((have hx2:x="letters":=(by simpa using hx));(rcases hx2 with rfl<;>exact⟨_,rfl⟩)))
   (fun p hp=>by((have hp2:p=(("letters" : Str),(3:Nat)):=(by simpa using hp));(rcases hp2 with rfl<;>exact⟨rfl,.inr (.inl rfl),.inl rfl,fun z=>by cases z⟩)))) (qpif_range1 T.range (qpfa_cons qpf_int qpfa_nil)) (fun _ _ _ _=>(qpgf_name 0 (show(["n","letters"]:List Str).Nodup by decide +kernel))) (fun _ _ _ _=>qptsf_nil) (fun _ _ _ _=>(qpf_add qpf_str (qpf_ixS (qpf_var 1) (qpf_var 0)))) (tg_name rfl))) (fun _ _ _ _=>(qpgf_name 0 (show(["one","found"]:List Str).Nodup by decide +kernel))) (fun _ _ _ _=>(qptsf_one (qpft_notIn (qpf_var 0) (qpf_var 1)))) (fun _ _ _ _=>(qpf_var 0)) (tg_name rfl))) (qpf_mod (qpf_fdiv (qpf_var 8) qpf_int) qpf_int)))) qpsf_nil)
  (qpsf_one (qpsf_append 6 (qpf_var 10)))))))))
  (qpsf_one (qpsf_ret (qpf_var 6)))))))),?_⟩
 intro c
 refine runE ?_
 have b0:=fmod_bd (stir c 300) (b:=8) (by decide)
 have e0:=hs c 300 (by decide)
 have e1:=modD_int (a:=stir c 300) (b:=8) (by decide)
 obtain⟨m,hm,hm1,hm8⟩:∃m:Nat,1+(stir c 300).fmod 8=(m:Int)∧1≤m∧m≤8:=⟨(1+(stir c 300).fmod 8).toNat,by omega,by omega,by omega⟩
 show ∃d,_∧sSeq _ _ [some (.imm (.int c)),some (.imm (.int 300)),some (.imm (.int 3)),none,none,none,none,none,none,none,none]=_
 refine seqE (Γ':=[some (.imm (.int c)),some (.imm (.int 300)),some (.imm (.int 3)),some (.imm (.str lets)),none,none,none,none,none,none,none]) (sSet_eq rfl) ?_
 refine seqE (Γ':=[some (.imm (.int c)),some (.imm (.int 300)),some (.imm (.int 3)),some (.imm (.str lets)),some (.imm (nat m)),none,none,none,none,none,none]) (by simp![e0,e1,addD_int,hm]) ?_
 have hst:∃stem:Str,Lw stem∧stem.length=m∧Txt.join (Str.ofString "") ((List.range' 0 m).map fun(j:Nat)=>ch ((stir c (300+1+(j:Int))).fmod 26).toNat)=stem:=by
  refine⟨_,?_,?_,rfl⟩
  ·intro x hx
   rw[join0]at hx
   obtain⟨y,hy,hx⟩:=List.mem_flatMap.mp hx
   obtain⟨j,_,rfl⟩:=List.mem_map.mp hy
   have b:=fmod_bd (stir c (300+1+(j:Int))) (b:=26) (by decide)
   exact lw_ch (k:=((stir c (300+1+(j:Int))).fmod 26).toNat) (by omega) x hx
  ·rw[len_of (join0 _),List.length_flatMap,List.map_map]
   have:((List.range' 0 m).map ((fun a=>(tl a).length) ∘ fun(j:Nat)=>ch ((stir c (300+1+(j:Int))).fmod 26).toNat))=(List.range' 0 m).map fun _=>1:=List.map_congr_left fun _ _=>rfl
   rw[this,sum_one,List.length_range']
 obtain⟨stem,hlw,hsl,est⟩:=hst
 refine seqE (Γ':=[some (.imm (.int c)),some (.imm (.int 300)),some (.imm (.int 3)),some (.imm (.str lets)),some (.imm (nat m)),some (.imm (.str stem)),none,none,none,none,none]) (sSet_eq (d:=.str stem) ?_) ?_
 ·rw[← est]
  refine join_ok (cons1 ?_) ?_
  ·rw[List.map_map]
   refine fcompI_ok (iRng_ok2 (as:=[.int (m:Int)]) rfl (rngZ (by omega))) ?_ (compL_all nat _ _ fun j hj=>⟨_,rfl,?_⟩)
   ·rw[List.length_map,List.length_range'];exact small1000 (by omega)
   ·have q1:=hs c (300+1+(j:Int)) (by omega)
    have q2:=modD_int (a:=stir c (300+1+(j:Int))) (b:=26) (by decide)
    have b:=fmod_bd (stir c (300+1+(j:Int))) (b:=26) (by decide)
    have q3:=ix_let b.1 b.2
    simp![addD_int,q1,q2,q3,Function.comp]
  ·have h0:(Str.ofString "").length=0:=by rw[slen];rfl
   rw[h0,Nat.mul_zero,List.map_map]
   have:((List.range' 0 m).map ((fun x=>Str.length x) ∘ fun(j:Nat)=>ch ((stir c (300+1+(j:Int))).fmod 26).toNat))=(List.range' 0 m).map fun _=>1:=List.map_congr_left fun _ _=>rfl
   rw[this,sum_one,List.length_range']
   omega
 clear est e0 e1 b0 hm
 refine seqE (Γ':=[some (.imm (.int c)),some (.imm (.int 300)),some (.imm (.int 3)),some (.imm (.str lets)),some (.imm (nat m)),some (.imm (.str stem)),some (.own ([])),none,none,none,none]) rfl ?_
 refine seqI (fun Γ=>∃(ns:List Str) (x7 x8 x9 x10:Option Slot),ns.length=3∧((∀x∈ns,Nm x)∧ns.Nodup∧∀x∈ns,x∉bw)∧Γ=[some (.imm (.int c)),some (.imm (.int 300)),some (.imm (.int 3)),some (.imm (.str lets)),some (.imm (nat m)),some (.imm (.str stem)),some (.own (ns.map .str)),x7,x8,x9,x10]) ?_ ?_
 ·refine forR_ex (n:=3) (fun j Γ=>∃(ns:List Str) (x7 x8 x9 x10:Option Slot),ns.length=j∧((∀x∈ns,Nm x)∧ns.Nodup∧∀x∈ns,x∉bw)∧Γ=[some (.imm (.int c)),some (.imm (.int 300)),some (.imm (.int 3)),some (.imm (.str lets)),some (.imm (nat m)),some (.imm (.str stem)),some (.own (ns.map .str)),x7,x8,x9,x10]) rfl (by decide) ⟨[],none,none,none,none,rfl,⟨(fun x hx=>by cases hx),List.nodup_nil,fun x hx=>by cases hx⟩,rfl⟩ ?_
  rintro i Γ hi ⟨ns,x7,x8,x9,x10,hns,⟨hnm,hnd,hnb⟩,rfl⟩
  refine⟨[(7,nat i)],rfl,?_⟩
  show ∃Γ',sSeq _ _ [some (.imm (.int c)),some (.imm (.int 300)),some (.imm (.int 3)),some (.imm (.str lets)),some (.imm (nat m)),some (.imm (.str stem)),some (.own (ns.map .str)),some (.imm (nat i)),x8,x9,x10]=_∧_
  have q1:=hs c (300+9+(i:Int)) (by omega)
  have bq:=stir_bd c (300+9+(i:Int))
  generalize stir c (300+9+(i:Int))=nb at q1 bq
  refine exS (Γ1:=[some (.imm (.int c)),some (.imm (.int 300)),some (.imm (.int 3)),some (.imm (.str lets)),some (.imm (nat m)),some (.imm (.str stem)),some (.own (ns.map .str)),some (.imm (nat i)),some (.imm (.int nb)),x9,x10]) (by simp![addD_int,q1]) ?_
  have q2:=modD_int (a:=nb) (b:=(m:Int)) (by omega)
  have bt:=fmod_bd nb (b:=(m:Int)) (by omega)
  obtain⟨t,ht⟩:∃t:Nat,nb.fmod (m:Int)=(t:Int):=⟨(nb.fmod (m:Int)).toNat,by omega⟩
  rw[ht]at q2 bt
  refine exS (Γ1:=[some (.imm (.int c)),some (.imm (.int 300)),some (.imm (.int 3)),some (.imm (.str lets)),some (.imm (nat m)),some (.imm (.str stem)),some (.own (ns.map .str)),some (.imm (nat i)),some (.imm (.int nb)),some (.imm (nat t)),x10]) (by simp![q2]) ?_
  obtain⟨A,a1,a2⟩:=sl_to (x:=stem) (j:=t) (by omega) (by omega)
  obtain⟨B,b1,b2⟩:=sl_from (x:=stem) (j:=t+1) (by omega) (by omega)
  obtain⟨D,d1,d2⟩:=sl_to (x:=stem) (j:=t+1) (by omega) (by omega)
  have ct:((t+1:Nat):Int)=(t:Int)+1:=by omega
  rw[ct]at b1 d1
  have lA:=len_of a2
  have lB:=len_of b2
  have lD:=len_of d2
  rw[List.length_take,tl_len]at lA lD
  rw[List.length_drop,tl_len]at lB
  have r1:=fdivD_int (a:=nb) (b:=8) (by decide) (by decide)
  have r2:=modD_int (a:=nb.fdiv 8) (b:=26) (by decide)
  have r2b:=fmod_bd (nb.fdiv 8) (b:=26) (by decide)
  have r3:=ix_let r2b.1 r2b.2
  obtain⟨k,hk,hk2⟩:∃k:Nat,((nb.fdiv 8).fmod 26).toNat=k∧k<26:=⟨_,rfl,by omega⟩
  rw[hk]at r3
  have lC:=ch_len k
  have s1:=addU_str (a:=A) (b:=ch k) (by omega)
  have s2:=addU_str (a:=A++ch k) (b:=B) (by rw[sapp];omega)
  have n1:Nm (A++ch k++B):=by
   refine⟨?_,by rw[sapp,sapp];omega,((lw_take hlw a2).app (lw_ch hk2)).app (lw_drop hlw b2)⟩
   rw[tl_app,tl_app]
   intro z
   have z2:tl (ch k)=[]:=(List.append_eq_nil_iff.mp (List.append_eq_nil_iff.mp z).1).2
   have z3:[97+k]=[]:=z2
   cases z3
  have n2:Nm D:=by
   refine⟨?_,by omega,lw_take hlw d2⟩
   intro z
   rw[d2]at z
   have:=congrArg List.length z
   rw[List.length_take,tl_len,List.length_nil]at this
   omega
  generalize A++ch k++B=W1 at *
  refine exS (Γ1:=[some (.imm (.int c)),some (.imm (.int 300)),some (.imm (.int 3)),some (.imm (.str lets)),some (.imm (nat m)),some (.imm (.str stem)),some (.own (ns.map .str)),some (.imm (nat i)),some (.imm (.int nb)),some (.imm (nat t)),some (.imm (.str W1))]) (sSetN_eq (d:=.str W1) (by simp![fSlS,oNone,oSome,asI,a1,r1,r2,r3,s1,addD_int,b1,s2]) rfl) ?_
  have r4:=fdivD_int (a:=nb) (b:=208) (by decide) (by decide)
  have r5:=modD_int (a:=nb.fdiv 208) (b:=4) (by decide)
  refine exI (fun Γ=>∃W2:Str,Nm W2∧Γ=[some (.imm (.int c)),some (.imm (.int 300)),some (.imm (.int 3)),some (.imm (.str lets)),some (.imm (nat m)),some (.imm (.str stem)),some (.own (ns.map .str)),some (.imm (nat i)),some (.imm (.int nb)),some (.imm (nat t)),some (.imm (.str W2))]) ?_ ?_
  ·by_cases c0:(nb.fdiv 208).fmod 4=0
   ·refine⟨_,(sIf_t (by simp![r4,r5,eqD_int,eq_true c0])).trans (sSetN_eq (d:=.str D) (by simp![fSlS,oNone,oSome,asI,addD_int,d1]) rfl),D,n2,rfl⟩
   ·exact⟨_,(sIf_f (by simp![r4,r5,eqD_int,eq_false c0])).trans rfl,W1,n1,rfl⟩
  ·rintro Γ ⟨W2,n3,rfl⟩
   clear s1 s2 a1 a2 b1 b2 d1 d2 lA lB lD r1 r2 r3
   refine exI (fun Γ=>∃W3:Str,(Nm W3∧W3∉ns∧W3∉bw)∧Γ=[some (.imm (.int c)),some (.imm (.int 300)),some (.imm (.int 3)),some (.imm (.str lets)),some (.imm (nat m)),some (.imm (.str stem)),some (.own (ns.map .str)),some (.imm (nat i)),some (.imm (.int nb)),some (.imm (nat t)),some (.imm (.str W3))]) ?_ ?_
   ·have z4:4≤sizeLine:=sz (by decide)
    have i1:=in_str W2 ns
    have i2:inD (.str W2) (.list [.str "given",.str "so",.str "from",.str "ask"])=_:=in_str W2 ["given","so","from","ask"]
    have g1:ns.contains W2=true↔W2∈ns:=List.contains_iff_mem
    have g2:(["given","so","from","ask"]:List Str).contains W2=true↔W2∈bw:=List.contains_iff_mem
    generalize ns.contains W2=p1 at i1 g1
    generalize (["given","so","from","ask"]:List Str).contains W2=p2 at i2 g2
    cases hp:p1 || p2
    ·have hpp:p1=false∧p2=false:=by
      cases p1
      ·cases p2
       ·exact⟨rfl,rfl⟩
       ·cases hp
      ·cases hp
     refine⟨_,(sIf_f ?_).trans rfl,W2,⟨n3,(fun z=>Bool.false_ne_true (hpp.1.symm.trans (g1.mpr z))),(fun z=>Bool.false_ne_true (hpp.2.symm.trans (g2.mpr z)))⟩,rfl⟩
     obtain⟨rfl,rfl⟩:=hpp
     simp![i1,i2,z4]
    ·have ml:=many_left ns zzs zzs_nd
     have hz6:zzs.length=6:=rfl
     have r6:=fdivD_int (a:=nb) (b:=832) (by decide) (by decide)
     have r7:=modD_int (a:=nb.fdiv 832) (b:=2) (by decide)
     have b7:=fmod_bd (nb.fdiv 832) (b:=2) (by decide)
     obtain⟨u,hu⟩:∃u:Nat,(nb.fdiv 832).fmod 2=(u:Int):=⟨((nb.fdiv 832).fmod 2).toNat,by omega⟩
     rw[hu]at r7 b7
     have hul:u<(zzs.filter fun x=>!ns.contains x).length:=by omega
     refine⟨_,(sIf_t ?_).trans (sSetN_eq (d:=.str ((zzs.filter fun x=>!ns.contains x)[u])) (f2_ok (a:=.list ((zzs.filter fun x=>!ns.contains x).map .str)) (b:=.int (u:Int)) (fcomp_ok (d:=.list (zzs.map .str)) (fcompI_ok (out:=zzs.map .str) (ds:=(List.range' 0 6).map nat) (iRng_ok2 (as:=[.int ((6:Nat):Int)]) rfl (rngZ (by decide))) ?_ ?_) rfl ?_ (compL_pick (ρ0:=[none,some (.list (ns.map .str))]) Dat.str Dat.str _ _ fun x hx=>⟨_,rfl,?_,fun _=>rfl⟩)) ?_ ?_) rfl),(zzs.filter fun x=>!ns.contains x)[u],⟨zzs_nm _ (List.mem_filter.mp (List.getElem_mem hul)).1,(fun z=>by
      have:=(List.mem_filter.mp (List.getElem_mem hul)).2
      rw[List.contains_iff_mem.mpr z]at this
      cases this),zzs_bw _ (List.mem_filter.mp (List.getElem_mem hul)).1⟩,rfl⟩
     ·cases p1
      ·cases p2
       ·cases hp
       ·simp![i1,i2,z4]
      ·simp![i1,i2,z4]
     ·exact small1000 (by decide)
     ·unfold zzs
      rw[List.map_map]
      refine compL_all nat _ _ fun n hn=>⟨_,rfl,?_⟩
      have hn6:n<6:=by
       obtain⟨i,h1,h2⟩:=List.mem_range'.mp hn
       omega
      have k1:=ix_let (i:=(n:Int)) (by omega) (by omega)
      rw[Int.toNat_natCast]at k1
      have k2:addD (.str (Str.ofString "zz")) (.str (ch n))=some (.str (Str.ofString "zz"++ch n)):=addD_str (sz (by rw[slen,ch_len];decide))
      simp![k1,k2,Function.comp]
     ·exact small1000 (by decide)
     ·have k1:=notin_str x ns
      simp![k1]
     ·simp![r6,r7]
     ·refine atU ?_
      rw[List.getElem?_map,List.getElem?_eq_getElem hul]
      rfl
   ·rintro Γ ⟨W3,⟨n4,n5,n6⟩,rfl⟩
    have hz:(ns.map Dat.str).length<sizeLine:=by rw[List.length_map];exact small1000 (by omega)
    refine⟨_,by simp![hz,eq_true hz];rfl,ns++[W3],_,_,_,_,by rw[List.length_append,hns];rfl,⟨?_,?_,?_⟩,by rw[List.map_append];rfl⟩
    ·intro x hx
     rcases List.mem_append.mp hx with h|h
     ·exact hnm x h
     ·rw[List.mem_singleton.mp h];exact n4
    ·refine List.nodup_append.mpr ⟨hnd,by simp,fun a ha b hb=>?_⟩
     rw[List.mem_singleton.mp hb]
     exact fun z=>n5 (z▸ha)
    ·intro x hx
     rcases List.mem_append.mp hx with h|h
     ·exact hnb x h
     ·rw[List.mem_singleton.mp h];exact n6
 ·rintro Γ ⟨ns,x7,x8,x9,x10,h1,h2,rfl⟩
  exact⟨_,⟨ns,rfl,h1,h2⟩,sRet_eq rfl⟩
end
end
section
noncomputable section
variable {P:Program} {w:World} {K:Fg} {mg:Str→Option Value} {base:Heap} {f:Addr} {fd:FuncData}
open Tx (tl tl_app tl_inj)
structure Pt (B:Nat) (x:Int×Int):Prop where
 pos:0<x.2
 cop:Int.gcd x.1 x.2=1
 ln:x.1.natAbs<B
 ld:x.2.natAbs<B
theorem pt_mk {B:Nat} {n d:Int} (h:0<d) (hn:n.natAbs<B) (hd:d.natAbs<B):Pt B (rd2 n d):=
 ⟨Fr.den_pos (by omega),Fr.cop (by omega),Nat.lt_of_le_of_lt (Fr.abs_le_num (by omega)) hn,Nat.lt_of_le_of_lt (Fr.abs_le_den (by omega)) hd⟩
abbrev cS:Str:=Str.ofString "*"
def c0:Str:=Str.ofString "0"
end
end
section
noncomputable section
variable {P:Program} {w:World} {K:Fg} {mg:Str→Option Value} {base:Heap} {f:Addr} {fd:FuncData}
open Tx (tl tl_app tl_inj)
theorem eqB_any {d e:Dat} (h1:kqdOk 9 d=true) (h2:kqdOk 9 e=true) (n1:∀b,d≠.bool b) (n2:∀b,d≠.str b):eqB d e=some (decD d e):=by
 unfold eqB
 split
 ·exact absurd rfl (n1 _)
 ·exact absurd rfl (n2 _)
 ·exact if_pos ⟨h1,h2⟩
theorem sum_le {α:Type} (g:α→Nat) (b:Nat):∀l:List α,(∀x∈l,g x≤b)→(l.map g).sum≤b*l.length
 |[],_=>by simp
 |x::l,h=>by
  have h1:=h x List.mem_cons_self
  have ih:=sum_le g b l fun y hy=>h y (List.mem_cons_of_mem _ hy)
  rw[List.map_cons,List.sum_cons,List.length_cons,Nat.mul_succ]
  omega
theorem join_len (x:Str) (ys:List Str):(Txt.join x ys).length≤(ys.map (·.length)).sum+ys.length*x.length:=by
 show(Builtin.Str.glued x ys).length≤_
 rw[PySem.StrLaws.glued_eq_join]
 induction ys with
 |nil=>exact Nat.zero_le _
 |cons y ys ih=>
  cases ys with
  |nil=>
   show y.length≤_
   rw[List.map_cons,List.sum_cons]
   omega
  |cons z ys=>
   show(y++x++Str.join x (z::ys)).length≤_
   rw[sapp,sapp,List.map_cons,List.sum_cons,List.length_cons,Nat.succ_mul]
   omega
end
end
section
noncomputable section
variable {P:Program} {w:World} {K:Fg} {mg:Str→Option Value} {base:Heap} {f:Addr} {fd:FuncData}
open Tx (tl tl_app tl_inj)
abbrev lineD (k:Str) (xs:List (Int×Int)) (b:Int×Int):Dat:=.tuple [.str k,.tuple (xs.map frD),frD b]
abbrev cB:Str:=Str.ofString " "
def whole (t k:Str) (b:Int×Int):Str:=t++cB++k++cB++due b.1 b.2
end
end
section
noncomputable section
variable {P:Program} {w:World} {K:Fg} {mg:Str→Option Value} {base:Heap} {f:Addr} {fd:FuncData}
open Tx (tl tl_app tl_inj)
theorem at4 (a b c e:Int) {i:Int} (h0:0≤i) (h:i<4):∃v,(v=a∨v=b∨v=c∨v=e)∧ixD (.list [.int a,.int b,.int c,.int e]) (.int i)=some (.int v):=by
 have:i=0∨i=1∨i=2∨i=3:=by omega
 rcases this with rfl|rfl|rfl|rfl
 ·exact⟨a,by omega,rfl⟩
 ·exact⟨b,by omega,rfl⟩
 ·exact⟨c,by omega,rfl⟩
 ·exact⟨e,by omega,rfl⟩
theorem at3 (a b c:Dat) {i:Int} (h0:0≤i) (h:i<3):∃v,(v=a∨v=b∨v=c)∧ixD (.list [a,b,c]) (.int i)=some v:=by
 have:i=0∨i=1∨i=2:=by omega
 rcases this with rfl|rfl|rfl
 ·exact⟨a,.inl rfl,rfl⟩
 ·exact⟨b,.inr (.inl rfl),rfl⟩
 ·exact⟨c,.inr (.inr rfl),rfl⟩
abbrev LsS (F:List Dat→Option Dat):Prop:=∀n d:Int,0<d→d.natAbs<10^600→F [.int n,.int d]=some (frD (rd2 n d))
abbrev Pd (x:Int×Int):Prop:=Pt 1000000 x
end
end
section
noncomputable section
variable {P:Program} {w:World} {K:Fg} {mg:Str→Option Value} {base:Heap} {f:Addr} {fd:FuncData}
abbrev figs:Str:=Str.ofString "0123456789"
abbrev kkv:List (Str×Dat):=[("=",.str "="),("<=",.str "<="),("<",.str "<"),(">=",.str "<="),(">",.str "<")]
abbrev mkv:List (Str×Dat):=[("given",.int 8),("so",.int 12)]
structure RX (P:Program) (w:World) (K:Fg) (mg:Str→Option Value):Prop where
 le:∃t,mg "LETTERS"=some (.str lets t)
 fi:∃t,mg "FIGURES"=some (.str figs t)
 nn:∃a,TC K mg "NO_NAMES" [.str "given",.str "so",.str "from",.str "ask"] a
 zr:∃a,TC K mg "ZERO" [.int 0,.int 1] a
 on:∃a,TC K mg "ONE" [.int 1,.int 1] a
 ki:DC P w K mg "KINDS" kkv
 mo:DC P w K mg "MOST_OF" mkv
 ln:∃t,mg "LONGEST_NAME"=some (.int 8 t)
 lm:∃t,mg "LONGEST_NUMBER"=some (.int 6 t)
 ls:∃t,mg "LONGEST_SUM"=some (.int 80 t)
 mr:∃t,mg "MOST_ROWS"=some (.int 40 t)
 mn:∃t,mg "MOST_NAMES"=some (.int 3 t)
 mm:∃t,mg "MOST_NAMED_ROWS"=some (.int 6 t)
def ltB (c:Nat):Bool:=decide (97≤c∧c≤122)
def fgB (c:Nat):Bool:=decide (48≤c∧c≤57)
def nmB (x:Str):Bool:=decide (1≤x.length∧x.length≤8)&&!bw.contains x&&(tl x).all ltB
abbrev Asc (x:Str):Prop:=∀c∈tl x,c<128
theorem signs_eq (x:Str):signsOf x=(tl x).map fun c=>Dat.str ⟨#[c]⟩:=rfl
theorem in_let {c:Nat} (h:c<128):inD (.str ⟨#[c]⟩) (.str lets)=some (.bool (ltB c)):=by
 show some (Dat.bool _)=_
 rw[show(!(Builtin.Str.occurrences lets ⟨#[c]⟩ 0 lets.length 1).isEmpty)=ltB c from Tx.in_lets c h]
theorem in_fig {c:Nat} (h:c<128):inD (.str ⟨#[c]⟩) (.str figs)=some (.bool (fgB c)):=by
 show some (Dat.bool _)=_
 rw[show(!(Builtin.Str.occurrences figs ⟨#[c]⟩ 0 figs.length 1).isEmpty)=fgB c from Tx.in_figs c h]
theorem all_ok {α:Type} (g:α→Bool) (l:List α):allD [.list (l.map fun a=>Dat.bool (g a))]=some (.bool (l.all g)):=by
 have e:(l.map fun a=>Dat.bool (g a))=(l.map g).map Dat.bool:=by rw[List.map_map];rfl
 rw[e]
 show(asBs _).map _=_
 rw[L3.asBs_map]
 show some (Dat.bool ((l.map g).all id))=_
 rw[List.all_map];rfl
theorem len_str {x:Str} (h:x.length≤1000):lenD [.str x]=some (.int (x.length:Int)):=if_pos (sz h)
theorem in_tup (x:Str):inD (.str x) (.tuple [.str "given",.str "so",.str "from",.str "ask"])=some (.bool (bw.contains x)):=by
 have h:=in_str x bw
 exact h
theorem compS_ok {cap:List (Option Nat)} {gt:Dat→Option Asg} {ft:Rho→Option Bool} {fe fi:Rho→Option Dat} {ρ:Rho} {x:Str} {out:List Dat} (h:fi ρ=some (.str x)) (hl:x.length<sizeLine) (hc:compL gt ft fe (capR cap ρ) ((tl x).map fun c=>Dat.str ⟨#[c]⟩)=some out):fCompS cap gt ft fe fi ρ=some out:=by
 unfold fCompS
 rw[h,Option.bind_some]
 show(signsD (.str x)).bind _=_
 unfold signsD
 rw[Option.bind_some,signs_eq,if_pos (by rw[List.length_map,tl_len];exact hl)]
 exact hc
abbrev IsS (F:List Dat→Option Dat):Prop:=∀x:Str,x.length≤100→Asc x→F [.str x]=some (.bool (nmB x))
theorem d_isname (T:TX mg) (R:RX P w K mg) (U:FnAt K mg "is_name" (top 27) ["word"]):
  ∃F,Dn P w K mg base 1 "is_name" ["word"] 1 F∧IsS F:=by
 refine⟨_,qdnA ["word"] U fun nd _ _ _ _ _ _ _ hr=>(qpsf_cons (qpsf_if (qpft_w (qpfw_or (qpft_not (qpft_leLe qpf_int (qpf_len T.len (qpfa_cons (qpf_var 0) qpfa_nil)) (qpf_globI R.ln))) (qpfw_or1 (qpft_in (qpf_var 0) (qpf_globT R.nn.choose_spec.mg R.nn.choose_spec.tup))))) (qpsf_one (qpsf_ret qpf_bl)) qpsf_nil)
  (qpsf_one (qpsf_ret (qpf_all rfl T.all (qpfa_cons (qpf_of_l (qpfl_compS rfl (blk_plain (N':=["sign"])) (qpf_var 0) (fun _ _ _ _=>(qpgf_name 0 (show(["sign"]:List Str).Nodup by decide +kernel))) (fun _ _ _ _=>qptsf_nil) (fun _ _ _ _=>(qpf_in (qpf_var 0) (qpf_globS R.le))) (tg_name rfl))) qpfa_nil))))),?_⟩
 intro x hx ha
 have hl:=len_str (x:=x) (by omega)
 have l1:=leD_int 1 (x.length:Int)
 have l2:=leD_int (x.length:Int) 8
 have i1:=in_tup x
 have ec:compL (aName 0) tYesF (L3.f2 inD (fVar 0) (fC (.str lets))) [none] ((tl x).map fun c=>Dat.str ⟨#[c]⟩)=some ((tl x).map fun c=>Dat.bool (ltB c)):=
  compL_all (fun c:Nat=>Dat.str ⟨#[c]⟩) (fun c=>Dat.bool (ltB c)) (tl x) fun c hc=>⟨[(0,.str ⟨#[c]⟩)],rfl,by
   have:=in_let (ha c hc)
   generalize Dat.str ⟨#[c]⟩=dc at *
   generalize Dat.str lets=dl at *
   dsimp![this]⟩
 have eall:=all_ok ltB (tl x)
 have ef:fCompS [none] (aName 0) tYesF (L3.f2 inD (fVar 0) (fC (.str lets))) (fVar 0) [some (.str x)]=some ((tl x).map fun c=>Dat.bool (ltB c)):=compS_ok (x:=x) rfl (small1000 (by omega)) ec
 clear ec
 refine runF_rt ?_
 unfold nmB
 generalize hall:(tl x).all ltB=ball at *
 generalize ((tl x).map fun c=>Dat.bool (ltB c))=dbs at *
 generalize bw.contains x=bc at *
 generalize hfx:fCompS [none] (aName 0) tYesF (L3.f2 inD (fVar 0) (fC (.str lets))) (fVar 0)=fx at *
 show sSeq _ _ [some (.imm (.str x))]=_
 by_cases h1:(1:Int)≤(x.length:Int)
 ·rw[decide_eq_true h1]at l1
  by_cases h2:(x.length:Int)≤8
  ·rw[decide_eq_true h2]at l2
   rw[decide_eq_true (show 1≤x.length∧x.length≤8 by omega),Bool.true_and]
   cases bc with
   |true=>
    rw[Bool.not_true,Bool.false_and]
    refine seqRt_ok ?_
    generalize (x.length:Int)=n at *
    generalize Dat.str x=dx at *
    dsimp![f3c,hl,l1,l2,i1]
   |false=>
    rw[sSeq_nx (Γ':=[some (.imm (.str x))]) (by
     generalize (x.length:Int)=n at *
     generalize Dat.str x=dx at *
     dsimp![f3c,hl,l1,l2,i1])]
    rw[Bool.not_false,Bool.true_and]
    change sRet (fCall allD (fCons (fL (fCompS [none] (aName 0) tYesF (L3.f2 inD (fVar 0) (fC (.str lets))) (fVar 0))) fNil)) [some (.imm (.str x))]=_
    rw[hfx]
    generalize Dat.str x=dx at *
    dsimp![ef,eall]
  ·rw[decide_eq_false h2]at l2
   rw[decide_eq_false (show ¬(1≤x.length∧x.length≤8) by omega),Bool.false_and,Bool.false_and]
   refine seqRt_ok ?_
   generalize (x.length:Int)=n at *
   generalize Dat.str x=dx at *
   dsimp![f3c,hl,l1,l2]
 ·rw[decide_eq_false h1]at l1
  rw[decide_eq_false (show ¬(1≤x.length∧x.length≤8) by omega),Bool.false_and,Bool.false_and]
  refine seqRt_ok ?_
  generalize (x.length:Int)=n at *
  generalize Dat.str x=dx at *
  dsimp![f3c,hl,l1]
theorem S_dig (n:Nat):tl (S (n:Int))=Tx.dig n:=by
 show(Str.ofString (toString (n:Int))).cps.toList=_
 rw[Str.ofString_eq_toList]
 show((toString (n:Int)).toList.map Char.toNat).toArray.toList=_
 rw[Int.toString_eq_repr,Int.repr_eq_if,if_pos (Int.natCast_nonneg n)]
 show((Nat.repr ((n:Int).toNat)).toList.map Char.toNat).toArray.toList=_
 rw[Int.toNat_natCast,Nat.toList_repr]
 rfl
theorem S_len {n:Nat} (h:n<1000000):1≤(S (n:Int)).length∧(S (n:Int)).length≤6:=by
 have e:=S_dig n
 have l:=Tx.dig_len 5 n (by simpa using h)
 have ne:=Tx.dig_ne n
 rw[← tl_len,e]
 refine⟨?_,l⟩
 cases hd:Tx.dig n with
 |nil=>exact absurd hd ne
 |cons a r=>exact Nat.succ_pos _
theorem S_asc (n:Nat):∀c∈tl (S (n:Int)),48≤c∧c≤57:=fun c hc=>by
 rw[S_dig]at hc
 exact Tx.dig_rng n c hc
theorem starts_ok (x:Str) (c:Nat):startsD (.str x) [.str ⟨#[c]⟩]=some (.bool ((tl x).head? == some c)):=by
 show some (Dat.bool _)=_
 rw[Tx.starts1]
theorem c_0:(Str.ofString "0" : Str)=⟨#[48]⟩:=by decide +kernel
theorem c_m:(Str.ofString "-" : Str)=⟨#[45]⟩:=by decide +kernel
theorem c_sl:(Str.ofString "/" : Str)=⟨#[47]⟩:=by decide +kernel
theorem c_st:(Str.ofString "*" : Str)=⟨#[42]⟩:=by decide +kernel
theorem c_pl:(Str.ofString "+" : Str)=⟨#[43]⟩:=by decide +kernel
theorem c_bl:(Str.ofString " " : Str)=⟨#[32]⟩:=by decide +kernel
theorem neD_strD (x y:Str):neD (.str x) (.str y)=some (.bool (!decide (x=y))):=rfl
theorem eqD_strD (x y:Str):eqD (.str x) (.str y)=some (.bool (decide (x=y))):=rfl
abbrev IwS (F:List Dat→Option Dat):Prop:=∀n:Nat,n<1000000→F [.str (S (n:Int))]=some (.bool true)
theorem d_iswhole (T:TX mg) (R:RX P w K mg) (U:FnAt K mg "is_whole" (top 28) ["word"]):
  ∃F,Dn P w K mg base 1 "is_whole" ["word"] 1 F∧IwS F:=by
 refine⟨_,qdnA ["word"] U fun nd _ _ _ _ _ _ _ hr=>(qpsf_cons (qpsf_if (qpft_w (qpfw_or (qpft_not (qpft_leLe qpf_int (qpf_len T.len (qpfa_cons (qpf_var 0) qpfa_nil)) (qpf_globI R.lm))) (qpfw_or1 (qpft_w (qpfw_and (qpft_truth (qpf_starts (qpf_var 0) (qpfa_cons qpf_str qpfa_nil))) (qpfw_and1 (qpft_ne hr (qpf_var 0) qpf_str))))))) (qpsf_one (qpsf_ret qpf_bl)) qpsf_nil)
  (qpsf_one (qpsf_ret (qpf_all rfl T.all (qpfa_cons (qpf_of_l (qpfl_compS rfl (blk_plain (N':=["sign"])) (qpf_var 0) (fun _ _ _ _=>(qpgf_name 0 (show(["sign"]:List Str).Nodup by decide +kernel))) (fun _ _ _ _=>qptsf_nil) (fun _ _ _ _=>(qpf_in (qpf_var 0) (qpf_globS R.fi))) (tg_name rfl))) qpfa_nil))))),?_⟩
 intro n hn
 obtain⟨h1,h6⟩:=S_len hn
 have hl:=len_str (x:=S (n:Int)) (by omega)
 have l1:=leD_int 1 ((S (n:Int)).length:Int)
 have l2:=leD_int ((S (n:Int)).length:Int) 6
 rw[decide_eq_true (by omega)]at l1 l2
 have ha:=S_asc n
 have ec:compL (aName 0) tYesF (L3.f2 inD (fVar 0) (fC (.str figs))) [none] ((tl (S (n:Int))).map fun c=>Dat.str ⟨#[c]⟩)=some ((tl (S (n:Int))).map fun c=>Dat.bool (fgB c)):=
  compL_all (fun c:Nat=>Dat.str ⟨#[c]⟩) (fun c=>Dat.bool (fgB c)) (tl (S (n:Int))) fun c hc=>⟨[(0,.str ⟨#[c]⟩)],rfl,by
   have:=in_fig (show c<128 by have:=ha c hc;omega)
   generalize Dat.str ⟨#[c]⟩=dc at *
   generalize Dat.str figs=dl at *
   dsimp![this]⟩
 have eall:=all_ok fgB (tl (S (n:Int)))
 have ht:(tl (S (n:Int))).all fgB=true:=List.all_eq_true.mpr fun c hc=>decide_eq_true (ha c hc)
 rw[ht]at eall
 have ef:fCompS [none] (aName 0) tYesF (L3.f2 inD (fVar 0) (fC (.str figs))) (fVar 0) [some (.str (S (n:Int)))]=some ((tl (S (n:Int))).map fun c=>Dat.bool (fgB c)):=compS_ok (x:=S (n:Int)) rfl (small1000 (by omega)) ec
 clear ec
 have hs:∃b:Bool,startsD (.str (S (n:Int))) [.str "0"]=some (.bool b)∧(b=true→neD (.str (S (n:Int))) (.str "0")=some (.bool false)):=by
  have e0:(("0" : Str))=⟨#[48]⟩:=c_0
  refine⟨_,by rw[e0];exact starts_ok _ 48,fun hb=>?_⟩
  rw[S_dig]at hb
  have hb:=eq_of_beq hb
  have hz:n=0:=by
   rcases Nat.eq_zero_or_pos n with z|z
   ·exact z
   ·obtain⟨c,r,e,hc⟩:=Tx.dig_head n z
    rw[e]at hb
    have:c=48:=by simpa using hb
    exact absurd this hc
  subst hz
  have:S ((0:Nat):Int)=("0" : Str):=by decide +kernel
  rw[this]
  rw[neD_strD,decide_eq_true rfl];rfl
 obtain⟨b,s1,s2⟩:=hs
 refine runF_rt ?_
 show sSeq _ _ [some (.imm (.str (S (n:Int))))]=_
 generalize ((tl (S (n:Int))).map fun c=>Dat.bool (fgB c))=dbs at *
 generalize hfx:fCompS [none] (aName 0) tYesF (L3.f2 inD (fVar 0) (fC (.str figs))) (fVar 0)=fx at *
 generalize ((S (n:Int)).length:Int)=m at *
 generalize Dat.str (S (n:Int))=dx at *
 rw[sSeq_nx (Γ':=[some (.imm (dx))]) (by
  cases b with
  |true=>
   have s3:=s2 rfl
   dsimp![f3c,hl,l1,l2,s1,s3]
  |false=>dsimp![f3c,hl,l1,l2,s1])]
 change sRet (fCall allD (fCons (fL (fCompS [none] (aName 0) tYesF (L3.f2 inD (fVar 0) (fC (.str figs))) (fVar 0))) fNil)) [some (.imm (dx))]=_
 rw[hfx]
 dsimp![ef,eall]
abbrev RwS (F:List Dat→Option Dat):Prop:=∀n:Nat,n<1000000→F [.str (S (n:Int))]=some (.int (n:Int))
theorem int_S {n:Nat} (h:n<1000000):intSD [.str (S (n:Int))]=some (.int (n:Int)):=by
 obtain⟨h1,h6⟩:=S_len h
 show(if(S (n:Int)).length≤640 then(PySem.intText? (S (n:Int))).map Dat.int else none)=_
 rw[if_pos (by omega),PySem.intText_digits (fun c hc=>S_asc n c hc) (by
  show tl (S (n:Int))≠[]
  rw[S_dig];exact Tx.dig_ne n) (by omega)]
 show some (Dat.int ((NumText.digitsVal (tl (S (n:Int))):Nat):Int))=_
 rw[S_dig,Tx.dig_val]
theorem d_rwhole (T:TX mg) (R:RX P w K mg) {Fi:List Dat→Option Dat} (Dis_whole:Dn P w K mg base 1 "is_whole" ["word"] 1 Fi) (hI:IwS Fi) (U:FnAt K mg "read_whole" (top 29) ["word"]):
  ∃F,Dn P w K mg base 2 "read_whole" ["word"] 1 F∧RwS F:=by
 refine⟨_,qdnA ["word"] U fun nd _ _ _ _ _ _ _ hr=>(qpsf_cons (qpsf_if (qpft_not (qpft_truth (qpf_fn Dis_whole hr (qpfa_cons (qpf_var 0) qpfa_nil)))) (qpsf_one qpsf_never) qpsf_nil)
  (qpsf_one (qpsf_ret (qpf_intS T.int (qpfa_cons (qpf_var 0) qpfa_nil))))),?_⟩
 intro n hn
 have e1:=hI n hn
 have e2:=int_S hn
 refine runF_rt ?_
 generalize Dat.str (S (n:Int))=dx at *
 dsimp![e1,e2]
end
end
section
noncomputable section
variable {P:Program} {w:World} {K:Fg} {mg:Str→Option Value} {base:Heap} {f:Addr} {fd:FuncData}
def fuel1:Gam→Nat
 |_::some (.imm (.int b))::_=>b.natAbs+1
 |_=>0
abbrev cdB:Gam→Option Fl:=sSeq (sSet 2 (f2 modD (fVar 0) (fVar 1))) (sSeq (sSet 0 (fVar 1)) (sSet 1 (fVar 2)))
theorem cd_loop:∀(n:Nat) (a b:Int) (r:Option Slot),0≤a→0≤b→b.natAbs<n→∃r',whileF cdT cdB n [some (.imm (.int a)),some (.imm (.int b)),r]=some (.nx [some (.imm (.int (Int.gcd a b))),some (.imm (.int 0)),r'])
 |0,_,_,_,_,_,h=>by omega
 |n+1,a,b,r,ha,hb,h=>by
  by_cases e:b=0
  ·subst e
   refine⟨r,?_⟩
   rw[whileF_f (by rw[cdT_eq _ none];rfl)]
   congr
   rw[Int.gcd_zero];omega
  ·have hm0:0≤a.fmod b:=Int.fmod_nonneg_of_pos a (by omega)
   have hm1:a.fmod b<b:=Int.fmod_lt_of_pos a (by omega)
   have hbody:cdB [some (.imm (.int a)),some (.imm (.int b)),r]=some (.nx [some (.imm (.int b)),some (.imm (.int (a.fmod b))),some (.imm (.int (a.fmod b)))]):=by
    refine(sSeq_nx (sSet_eq (d:=.int (a.fmod b)) (modD_int e))).trans ?_
    refine(sSeq_nx (sSet_eq (d:=.int b) rfl)).trans ?_
    exact sSet_eq (d:=.int (a.fmod b)) rfl
   obtain⟨r',q⟩:=cd_loop n b (a.fmod b) _ hb hm0 (by omega)
   refine⟨r',?_⟩
   rw[whileF_t (by rw[cdT_eq _ none,decide_eq_false e];rfl) hbody,q,Fr.gcd_fmod a b (by omega)]
theorem d_cd (T:TX mg) (U:FnAt K mg "common_divisor" (top 9) ["a","b"]):∃F,Dn P w K mg base 1 "common_divisor" ["a","b"] 2 F∧∀a b:Int,0≤a→0≤b→F [.int a,.int b]=some (.int (Int.gcd a b)):=by
 refine⟨_,qdnA ["a","b","rest"] U fun nd _ _ _ _ _ _ _ hr=>(qpsf_cons (qpsf_while fuel1 PassesOwn.never (qpft_ne hr (qpf_var 1) qpf_int) (qpsf_cons (qpsf_set 2 nd (qpf_mod (qpf_var 0) (qpf_var 1)))
  (qpsf_cons (qpsf_set 0 nd (qpf_var 1))
  (qpsf_one (qpsf_set 1 nd (qpf_var 2))))))
  (qpsf_one (qpsf_ret (qpf_var 0)))),?_⟩
 intro a b ha hb
 obtain⟨r',q⟩:=cd_loop (b.natAbs+1) a b none ha hb (by omega)
 refine runF_rt ?_
 refine(sSeq_nx q).trans ?_
 exact sRet_eq rfl
abbrev Tw (p:Int):Prop:=p.natAbs<10^600
abbrev MkS (F:List Dat→Option Dat):Prop:=∀n d:Int,0<d→Tw d→F [.int n,.int d]=some (frD (rd2 n d))
theorem d_rmake (T:TX mg) {Fc:List Dat→Option Dat} (Dcommon_divisor:Dn P w K mg base 1 "common_divisor" ["a","b"] 2 Fc) (hc:∀a b:Int,0≤a→0≤b→Fc [.int a,.int b]=some (.int (Int.gcd a b))) (U:FnAt K mg "make" (top 10) ["n","d"]):
  ∃F,Dn P w K mg base 2 "make" ["n","d"] 2 F∧MkS F:=by
 refine⟨_,qdnA ["n","d","divisor"] U fun nd _ _ _ _ _ _ _ hr=>(qpsf_cons (qpsf_set 2 nd (qpf_fn Dcommon_divisor hr (qpfa_cons (qpf_abs T.abs (qpfa_cons (qpf_var 0) qpfa_nil)) (qpfa_cons (qpf_abs T.abs (qpfa_cons (qpf_var 1) qpfa_nil)) qpfa_nil (hs:=star_call)) (hs:=star_call))))
  (qpsf_cons (qpsf_if (qpft_lt (qpf_var 1) qpf_int) (qpsf_one (qpsf_set 2 nd (qpf_neg (qpf_var 2)))) qpsf_nil)
  (qpsf_one (qpsf_ret (qpf_tup (k:=0) (qpfa_cons (qpf_fdiv (qpf_var 0) (qpf_var 2)) (qpfa_cons (qpf_fdiv (qpf_var 1) (qpf_var 2)) qpfa_nil (hs:=star_bin)) (hs:=star_bin))))))),?_⟩
 intro n d h hb
 have e1:=hc (n.natAbs:Int) (d.natAbs:Int) (by omega) (by omega)
 have g0:Int.gcd (n.natAbs:Int) (d.natAbs:Int)=Int.gcd n d:=by simp[Int.gcd]
 rw[g0]at e1
 have c:¬d<0:=by omega
 have gp:=Fr.gcd_pos (n:=n) (d:=d) (by omega)
 have gl:Int.gcd n d≤d.natAbs:=Nat.le_of_dvd (by omega) (Int.ofNat_dvd_left.mp (Int.gcd_dvd_right n d))
 have lg:(Int.gcd n d:Int).natAbs.log2<9000:=Nat.lt_trans (log2_small (k:=2000) (by decide) (by
  rw[Int.natAbs_natCast]
  exact Nat.lt_of_le_of_lt gl (Nat.lt_trans hb (by decide)))) (by decide)
 have q1:=fdivD_int (a:=n) (b:=(Int.gcd n d:Int)) (by omega) lg
 have q2:=fdivD_int (a:=d) (b:=(Int.gcd n d:Int)) (by omega) lg
 have en:n.fdiv (Int.gcd n d:Int)=Fr.num n d:=by unfold Fr.num Fr.dv;rw[if_neg c]
 have ed:d.fdiv (Int.gcd n d:Int)=Fr.den n d:=by unfold Fr.den Fr.dv;rw[if_neg c]
 rw[en]at q1
 rw[ed]at q2
 have z2:2≤sizeLine:=sz (by decide)
 have a1:=absD_int n
 have a2:=absD_int d
 generalize (Int.gcd n d:Int)=g at *
 generalize (n.natAbs:Int)=na at *
 generalize (d.natAbs:Int)=da at *
 refine runF_rt ?_
 dsimp![a1,a2,e1,ltD_int,eq_false c,q1,q2,z2,rd2]
abbrev Sm8 (x:Int×Int):Prop:=0<x.2∧x.1.natAbs<10^8∧x.2.natAbs<10^8
abbrev Lg (x:Int×Int):Prop:=0<x.2∧x.2.natAbs<10^590
theorem mulS (a:Int) {b:Int} (h:b.natAbs<10^8):mulD (.int a) (.int b)=some (.int (a*b)):=mulR a (by
 have e:(10:Nat)^8=100000000:=by decide
 omega) (by
 have e:(10:Nat)^8=100000000:=by decide
 omega)
theorem mulT {a:Int} (b:Int) (h:a.natAbs<10^8):mulD (.int a) (.int b)=some (.int (a*b)):=mulL b (by
 have e:(10:Nat)^8=100000000:=by decide
 omega) (by
 have e:(10:Nat)^8=100000000:=by decide
 omega)
theorem tw_mul {a b:Int} (ha:a.natAbs<10^590) (hb:b.natAbs<10^8):Tw (a*b):=by
 unfold Tw
 rw[Int.natAbs_mul]
 exact Nat.lt_of_lt_of_le (Nat.mul_lt_mul'' ha hb) (by decide)
abbrev PlS (F:List Dat→Option Dat):Prop:=∀x y:Int×Int,Lg x→Sm8 y→F [frD x,frD y]=some (frD (rd2 (x.1*y.2+y.1*x.2) (x.2*y.2)))
abbrev MiS (F:List Dat→Option Dat):Prop:=∀y:Int×Int,Lg y→F [.tuple [.int 0,.int 1],frD y]=some (frD (rd2 (-y.1) y.2))
theorem d_rplus (T:TX mg) {Fm:List Dat→Option Dat} (Dmake:Dn P w K mg base 2 "make" ["n","d"] 2 Fm) (hM:MkS Fm) (U:FnAt K mg "plus" (top 11) ["a","b"]):
  ∃F,Dn P w K mg base 3 "plus" ["a","b"] 2 F∧PlS F:=by
 refine⟨_,qdnA ["a","b"] U fun nd _ _ _ _ _ _ _ hr=>(qpsf_one (qpsf_ret (qpf_fn Dmake hr (qpfa_cons (qpf_add (qpf_mul (qpf_ix (qpf_var 0) qpf_int) (qpf_ix (qpf_var 1) qpf_int)) (qpf_mul (qpf_ix (qpf_var 1) qpf_int) (qpf_ix (qpf_var 0) qpf_int))) (qpfa_cons (qpf_mul (qpf_ix (qpf_var 0) qpf_int) (qpf_ix (qpf_var 1) qpf_int)) qpfa_nil (hs:=star_bin)) (hs:=star_bin))))),?_⟩
 rintro⟨p,q⟩ ⟨r,s⟩ ⟨h1,h2⟩ ⟨k1,k2,k3⟩
 dsimp only at *
 have e:=hM (p*s+r*q) (q*s) (Int.mul_pos h1 k1) (tw_mul h2 k3)
 have m1:=mulS p k3
 have m2:=mulT q k2
 have m3:=mulS q k3
 refine runF_rt ?_
 simp![atI2_0,atI2_1,m1,m2,m3,addD_int,e]
theorem d_rminus (T:TX mg) {Fm:List Dat→Option Dat} (Dmake:Dn P w K mg base 2 "make" ["n","d"] 2 Fm) (hM:MkS Fm) (U:FnAt K mg "minus" (top 12) ["a","b"]):
  ∃F,Dn P w K mg base 3 "minus" ["a","b"] 2 F∧MiS F:=by
 refine⟨_,qdnA ["a","b"] U fun nd _ _ _ _ _ _ _ hr=>(qpsf_one (qpsf_ret (qpf_fn Dmake hr (qpfa_cons (qpf_sub (qpf_mul (qpf_ix (qpf_var 0) qpf_int) (qpf_ix (qpf_var 1) qpf_int)) (qpf_mul (qpf_ix (qpf_var 1) qpf_int) (qpf_ix (qpf_var 0) qpf_int))) (qpfa_cons (qpf_mul (qpf_ix (qpf_var 0) qpf_int) (qpf_ix (qpf_var 1) qpf_int)) qpfa_nil (hs:=star_bin)) (hs:=star_bin))))),?_⟩
 rintro⟨r,s⟩ ⟨k1,k2⟩
 dsimp only at *
 have e:=hM (0*s-r*1) (1*s) (by omega) (by rw[Int.one_mul];exact Nat.lt_trans k2 (by decide))
 have m1:=mulT (a:=0) s (by decide)
 have m2:=mulS r (b:=1) (by decide)
 have m3:=mulT (a:=1) s (by decide)
 rw[show rd2 (-r) s=rd2 (0*s-r*1) (1*s) by rw[show(0:Int)*s-r*1=-r by omega,Int.one_mul]]
 refine runF_rt ?_
 simp![atI2_0,atI2_1,m1,m2,m3,subD_int,e]
theorem rd_self {x:Int×Int} (h0:0<x.2) (hc:Int.gcd x.1 x.2=1):rd2 x.1 x.2=x:=by
 unfold rd2
 have c:¬x.2<0:=by omega
 have e1:Fr.num x.1 x.2=x.1:=by unfold Fr.num Fr.dv;rw[if_neg c,hc];exact Int.fdiv_one _
 have e2:Fr.den x.1 x.2=x.2:=by unfold Fr.den Fr.dv;rw[if_neg c,hc];exact Int.fdiv_one _
 rw[e1,e2]
theorem sm8 {x:Int×Int} (h:Pd x):Sm8 x:=⟨h.pos,Nat.lt_of_lt_of_le h.ln (by decide),Nat.lt_of_lt_of_le h.ld (by decide)⟩
abbrev ngP (x:Int×Int):Int×Int:=(-x.1,x.2)
theorem ng_pd {x:Int×Int} (h:Pd x):Pd (ngP x):=⟨h.pos,by show Int.gcd (-x.1) x.2=1;rw[Int.neg_gcd];exact h.cop,by show(-x.1).natAbs<_;rw[Int.natAbs_neg];exact h.ln,h.ld⟩
theorem min_r {F:List Dat→Option Dat} (hF:MiS F) {x:Int×Int} (h0:0<x.2) (hc:Int.gcd x.1 x.2=1) (hl:x.2.natAbs<10^590):F [.tuple [.int 0,.int 1],frD x]=some (frD (ngP x)):=by
 rw[hF x ⟨h0,hl⟩]
 exact congrArg (fun y=>some (frD y)) (rd_self (x:=ngP x) h0 (by show Int.gcd (-x.1) x.2=1;rw[Int.neg_gcd];exact hc))
theorem min_0 {F:List Dat→Option Dat} (hF:MiS F) {x:Int×Int} (h:Pd x):F [.tuple [.int 0,.int 1],frD x]=some (frD (ngP x)):=min_r hF h.pos h.cop (Nat.lt_of_lt_of_le h.ld (by decide))
theorem split_ok {x:Str} {c:Nat} (h:c<256) (hl:x.length≤1000):∃ys:List Str,ys.map tl=Tx.spl c (tl x)∧splitD (.str x) [.str ⟨#[c]⟩]=some (ys.map .str):=by
 refine⟨Txt.split x ⟨#[c]⟩,Tx.split_spl h x,?_⟩
 have hlen:(Txt.split x ⟨#[c]⟩).length≤1001:=by
  have e:=congrArg List.length (Tx.split_spl h x)
  rw[List.length_map]at e
  rw[e]
  have:∀l:List Nat,(Tx.spl c l).length≤l.length+1:=by
   intro l
   induction l with
   |nil=>exact Nat.le_refl _
   |cons a l ih=>
    unfold Tx.spl
    split
    ·simp;exact ih
    ·split
     ·simp
     ·rename_i h t e
      rw[e]at ih
      simp at ih ⊢
      omega
  have:=this (tl x)
  rw[tl_len]at this
  omega
 have hz:(1001:Nat)≤sizeLine:=by rw[sizeLine_eq];decide
 exact if_pos ⟨rfl,sz hl,Nat.le_trans hlen hz⟩
theorem strs_of {ys:List Str} {ls:List Str} (h:ys.map tl=ls.map tl):ys=ls:=by
 have:∀(a b:List Str),a.map tl=b.map tl→a=b:=by
  intro a
  induction a with
  |nil=>intro b h;cases b with|nil=>rfl|cons _ _=>cases h
  |cons x a ih=>
   intro b h
   cases b with
   |nil=>cases h
   |cons y b=>
    rw[List.map_cons,List.map_cons]at h
    injection h with h1 h2
    rw[tl_inj h1,ih b h2]
 exact this _ _ h
theorem S_no (n c:Nat) (h:c<48∨57<c):c∉tl (S (n:Int)):=fun z=>by have:=S_asc n c z;omega
structure Nw where
 p:Nat
 q:Nat
 sl:Bool
structure Nw.Ok (w:Nw):Prop where
 hp:w.p<1000000
 h1:1≤w.q
 hq:w.q<1000000
 hs:w.sl=false→w.q=1
def nwT (w:Nw):Str:=if w.sl=true then S (w.p:Int)++Str.ofString "/"++S (w.q:Int)else S (w.p:Int)
abbrev nwV (w:Nw):Int×Int:=rd2 (w.p:Int) (w.q:Int)
theorem nwV_pd {w:Nw} (h:w.Ok):Pd (nwV w):=pt_mk (by have:=h.h1;omega) (by have:=h.hp;rw[Int.natAbs_natCast];exact this) (by have:=h.hq;rw[Int.natAbs_natCast];exact this)
theorem nwT_len {w:Nw} (h:w.Ok):(nwT w).length≤13:=by
 have l1:=S_len h.hp
 have l2:=S_len h.hq
 have l3:(Str.ofString "/").length=1:=by rw[slen];rfl
 unfold nwT
 split
 ·rw[sapp,sapp,l3];omega
 ·omega
abbrev RnS (F:List Dat→Option Dat):Prop:=∀w:Nw,w.Ok→F [.str (nwT w)]=some (frD (nwV w))
theorem d_rnumber (T:TX mg) (R:RX P w K mg) {Fw Fm:List Dat→Option Dat} (Dread_whole:Dn P w K mg base 2 "read_whole" ["word"] 1 Fw) (hW:RwS Fw) (Dmake:Dn P w K mg base 2 "make" ["n","d"] 2 Fm) (hM:MkS Fm) (U:FnAt K mg "read_number" (top 30) ["word"]):
  ∃F,Dn P w K mg base 3 "read_number" ["word"] 1 F∧RnS F:=by
 refine⟨_,qdnA ["word","pieces","n","d"] U fun nd _ _ _ _ _ _ _ hr=>(qpsf_cons (qpsf_set 1 nd (qpf_split (qpf_var 0) (qpfa_cons qpf_str qpfa_nil)))
  (qpsf_cons (qpsf_if (qpft_gt (qpf_len T.len (qpfa_cons (qpf_var 1) qpfa_nil)) qpf_int) (qpsf_one qpsf_never) qpsf_nil)
  (qpsf_cons (qpsf_set 2 nd (qpf_fn Dread_whole hr (qpfa_cons (qpf_ix (qpf_var 1) qpf_int) qpfa_nil (hs:=star_sub))))
  (qpsf_cons (qpsf_set 3 nd (qpf_ifExp (qpft_eq hr (qpf_len T.len (qpfa_cons (qpf_var 1) qpfa_nil)) qpf_int) (qpf_fn Dread_whole hr (qpfa_cons (qpf_ix (qpf_var 1) qpf_int) qpfa_nil (hs:=star_sub))) qpf_int))
  (qpsf_cons (qpsf_if (qpft_eq hr (qpf_var 3) qpf_int) (qpsf_one qpsf_never) qpsf_nil)
  (qpsf_one (qpsf_ret (qpf_fn Dmake hr (qpfa_cons (qpf_var 2) (qpfa_cons (qpf_var 3) qpfa_nil)))))))))),?_⟩
 intro x hx
 have hl:=nwT_len hx
 obtain⟨p,q,sl⟩:=x
 have hp:p<1000000:=hx.hp
 have hq1:1≤q:=hx.h1
 have hq:q<1000000:=hx.hq
 have hsl:sl=false→q=1:=hx.hs
 obtain⟨ys,e1,e0⟩:=split_ok (x:=nwT ⟨p,q,sl⟩) (c:=47) (by decide) (by omega)
 have eM:=hM (p:Int) (q:Int) (by omega) (by unfold Tw;rw[Int.natAbs_natCast];exact Nat.lt_of_lt_of_le hq (by decide))
 show _=some (frD (rd2 (p:Int) (q:Int)))
 generalize rd2 (p:Int) (q:Int)=v at *
 have wp:=hW p hp
 have wq:=hW q hq
 have e2:splitD (.str (nwT ⟨p,q,sl⟩)) [.str "/"]=some (ys.map .str):=by rw[show("/" : Str)=⟨#[47]⟩from c_sl];exact e0
 clear e0
 refine runF_rt ?_
 show sSeq _ _ [some (.imm (.str (nwT ⟨p,q,sl⟩))),none,none,none]=_
 cases sl with
 |false=>
  have h1:=hsl rfl
  have hd:nwT ⟨p,q,false⟩=S (p:Int):=rfl
  have ey:ys=[S (p:Int)]:=strs_of (by rw[e1,hd,Tx.spl_none 47 _ (S_no p 47 (by omega))];rfl)
  subst ey
  have lp:lenD [.list [.str (S (p:Int))]]=some (.int 1):=rfl
  have ix0:ixD (.list [.str (S (p:Int))]) (.int 0)=some (.str (S (p:Int))):=rfl
  have g2:=gtD_int 1 2
  have q2:=eqD_int 1 2
  have q3:=eqD_int 1 0
  have hqi:(q:Int)=1:=by omega
  rw[hqi]at eM
  rw[List.map_cons,List.map_nil]at e2
  generalize Dat.str (nwT ⟨p,q,false⟩)=dw at *
  generalize Dat.str (S (p:Int))=ds at *
  rw[decide_eq_false (by decide)]at g2 q2 q3
  dsimp![fSpl,e2,lp,ix0,g2,q2,q3,wp,eM]
 |true=>
  have hd:nwT ⟨p,q,true⟩=S (p:Int)++Str.ofString "/"++S (q:Int):=rfl
  have ey:ys=[S (p:Int),S (q:Int)]:=strs_of (by
   rw[e1,hd,tl_app,tl_app,show tl (Str.ofString "/")=[47] by rw[c_sl],List.append_assoc]
   show Tx.spl 47 (tl (S (p:Int))++47::tl (S (q:Int)))=_
   rw[Tx.spl_cut 47 _ _ (S_no p 47 (by omega)),Tx.spl_none 47 _ (S_no q 47 (by omega))];rfl)
  subst ey
  have lp:lenD [.list [.str (S (p:Int)),.str (S (q:Int))]]=some (.int 2):=rfl
  have ix0:ixD (.list [.str (S (p:Int)),.str (S (q:Int))]) (.int 0)=some (.str (S (p:Int))):=rfl
  have ix1:ixD (.list [.str (S (p:Int)),.str (S (q:Int))]) (.int 1)=some (.str (S (q:Int))):=rfl
  have g2:=gtD_int 2 2
  have q2:=eqD_int 2 2
  have q3:=eqD_int (q:Int) 0
  rw[decide_eq_false (by decide)]at g2
  rw[decide_eq_true (by decide)]at q2
  rw[decide_eq_false (show ¬(q:Int)=0 by omega)]at q3
  rw[List.map_cons,List.map_cons,List.map_nil]at e2
  generalize Dat.str (nwT ⟨p,q,true⟩)=dw at *
  generalize Dat.str (S (p:Int))=ds at *
  generalize Dat.str (S (q:Int))=dq at *
  generalize (q:Int)=qi at *
  dsimp![fSpl,e2,lp,ix0,ix1,g2,q2,q3,wp,wq,eM]
end
end
section
noncomputable section
variable {P:Program} {w:World} {K:Fg} {mg:Str→Option Value} {base:Heap} {f:Addr} {fd:FuncData}
theorem nmB_t {x:Str} (h:Nm x) (hb:x∉bw):nmB x=true:=by
 unfold nmB
 have h1:1≤x.length:=by
  rw[← tl_len]
  cases e:tl x with
  |nil=>exact absurd e h.ne
  |cons a r=>exact Nat.succ_pos _
 have hall:(tl x).all ltB=true:=List.all_eq_true.mpr fun c hc=>decide_eq_true (h.lw c hc)
 rw[decide_eq_true ⟨h1,h.len⟩,hall]
 cases hc:bw.contains x with
 |true=>exact absurd (List.contains_iff_mem.mp hc) hb
 |false=>rfl
theorem nmB_f {x:Str} {c:Nat} (hc:c∈tl x) (hl:ltB c=false):nmB x=false:=by
 unfold nmB
 have:(tl x).all ltB=false:=by
  rw[Bool.eq_false_iff]
  intro z
  rw[List.all_eq_true.mp z c hc]at hl
  cases hl
 rw[this,Bool.and_false]
theorem nwT_asc {w:Nw} (h:w.Ok):∀c∈tl (nwT w),47≤c∧c≤57:=by
 intro c hc
 unfold nwT at hc
 split at hc
 ·rw[tl_app,tl_app]at hc
  rcases List.mem_append.mp hc with z|z
  ·rcases List.mem_append.mp z with z|z
   ·have:=S_asc w.p c z;omega
   ·rw[c_sl]at z
    have:c∈[47]:=z
    simp at this;omega
  ·have:=S_asc w.q c z;omega
 ·have:=S_asc w.p c hc;omega
theorem nwT_ne (w:Nw):∃c r,tl (nwT w)=c::r∧48≤c∧c≤57:=by
 have hn:=Tx.dig_ne w.p
 cases e:Tx.dig w.p with
 |nil=>exact absurd e hn
 |cons c r=>
  have hc:=Tx.dig_rng w.p c (by rw[e];exact List.mem_cons_self)
  unfold nwT
  split
  ·refine⟨c,r++(tl (Str.ofString "/")++tl (S (w.q:Int))),?_,hc⟩
   rw[tl_app,tl_app,S_dig,e,List.append_assoc];rfl
  ·exact⟨c,r,by rw[S_dig,e],hc⟩
theorem nm_no {x:Str} (h:Nm x) {c:Nat} (hc:c<97):c∉tl x:=fun z=>by have:=(h.lw c z).1;omega
inductive Tr where
 |nm (n:Str)
 |nu (w:Nw)
 |nn (w:Nw) (n:Str)
def trT:Tr→Str
 | .nm n=>n
 | .nu w=>nwT w
 | .nn w n=>nwT w++cS++n
def trN:Tr→Option Str
 | .nm n=>some n
 | .nu _=>none
 | .nn _ n=>some n
def trV:Tr→Int×Int
 | .nm _=>(1,1)
 | .nu w=>nwV w
 | .nn w _=>nwV w
def GdN (n:Str):Prop:=Nm n∧n∉bw
def trOk:Tr→Prop
 | .nm n=>GdN n
 | .nu w=>w.Ok
 | .nn w n=>w.Ok∧GdN n
abbrev nmD:Option Str→Dat
 |some x=>.str x
 |none=>.none
abbrev RtS (F:List Dat→Option Dat):Prop:=∀t:Tr,trOk t→F [.str (trT t)]=some (.tuple [nmD (trN t),frD (trV t)])
theorem d_rterm (T:TX mg) (R:RX P w K mg) {Fi Fn:List Dat→Option Dat} (Dis_name:Dn P w K mg base 3 "is_name" ["word"] 1 Fi) (hI:IsS Fi) (Dread_number:Dn P w K mg base 3 "read_number" ["word"] 1 Fn) (hN:RnS Fn) (U:FnAt K mg "read_term" (top 31) ["word"]):
  ∃F,Dn P w K mg base 4 "read_term" ["word"] 1 F∧RtS F:=by
 refine⟨_,qdnA ["word","pieces"] U fun nd _ _ _ _ _ _ _ hr=>(qpsf_cons (qpsf_if (qpft_truth (qpf_fn Dis_name hr (qpfa_cons (qpf_var 0) qpfa_nil))) (qpsf_one (qpsf_ret (qpf_tup (k:=0) (qpfa_cons (qpf_var 0) (qpfa_cons (qpf_globT R.on.choose_spec.mg R.on.choose_spec.tup) qpfa_nil))))) qpsf_nil)
  (qpsf_cons (qpsf_set 1 nd (qpf_split (qpf_var 0) (qpfa_cons qpf_str qpfa_nil)))
  (qpsf_cons (qpsf_if (qpft_eq hr (qpf_len T.len (qpfa_cons (qpf_var 1) qpfa_nil)) qpf_int) (qpsf_one (qpsf_ret (qpf_tup (k:=0) (qpfa_cons qpf_non (qpfa_cons (qpf_fn Dread_number hr (qpfa_cons (qpf_var 0) qpfa_nil)) qpfa_nil (hs:=star_call)))))) qpsf_nil)
  (qpsf_cons (qpsf_if (qpft_w (qpfw_or (qpft_gt (qpf_len T.len (qpfa_cons (qpf_var 1) qpfa_nil)) qpf_int) (qpfw_or1 (qpft_not (qpft_truth (qpf_fn Dis_name hr (qpfa_cons (qpf_ix (qpf_var 1) qpf_int) qpfa_nil (hs:=star_sub)))))))) (qpsf_one qpsf_never) qpsf_nil)
  (qpsf_one (qpsf_ret (qpf_tup (k:=0) (qpfa_cons (qpf_ix (qpf_var 1) qpf_int) (qpfa_cons (qpf_fn Dread_number hr (qpfa_cons (qpf_ix (qpf_var 1) qpf_int) qpfa_nil (hs:=star_sub))) qpfa_nil (hs:=star_call)) (hs:=star_sub))))))))),?_⟩
 have z2:2≤sizeLine:=sz (by decide)
 have hnm:∀n:Str,GdN n→Fi [.str n]=some (.bool true):=fun n hn=>by
  have hn1:=hI n (Nat.le_trans hn.1.len (by decide)) (fun c hc=>by have:=(hn.1.lw c hc).2;omega)
  rw[nmB_t hn.1 hn.2]at hn1
  exact hn1
 intro t ht
 cases t with
 |nm n=>
  have hn1:=hnm n ht
  show runF _ _ [.str n]=some (.tuple [.str n,frD (1,1)])
  refine runF_rt (seqRt_ok ?_)
  generalize Dat.str n=dn at *
  dsimp![hn1,z2]
 |nn w n=>
  have ht:w.Ok∧GdN n:=ht
  have hn1:=hnm n ht.2
  have eN:=hN w ht.1
  have hl6:=nwT_len ht.1
  have ha:=nwT_asc ht.1
  have hnl:=ht.2.1.len
  have hnw:=ht.2.1.lw
  have hS:tl cS=[42]:=by show tl (Str.ofString "*")=_;rw[c_st]
  have lS:cS.length=1:=by show(Str.ofString "*").length=1;rw[slen];rfl
  show runF _ _ [.str (nwT w++cS++n)]=some (.tuple [.str n,frD (nwV w)])
  generalize nwT w=W at *
  have hlen:(W++cS++n).length≤30:=by rw[sapp,sapp,lS];omega
  have htl:tl (W++cS++n)=tl W++42::tl n:=by rw[tl_app,tl_app,hS,List.append_assoc];rfl
  have hn2:=hI (W++cS++n) (by omega) (fun c hc=>by
   rw[htl]at hc
   rcases List.mem_append.mp hc with z|z
   ·have:=ha c z;omega
   ·rcases List.mem_cons.mp z with z|z
    ·omega
    ·have:=(hnw c z).2;omega)
  rw[nmB_f (c:=42) (by rw[htl];exact List.mem_append_right _ List.mem_cons_self) rfl]at hn2
  obtain⟨ys,e1,e2⟩:=split_ok (x:=W++cS++n) (c:=42) (by decide) (by omega)
  have e3:splitD (.str (W++cS++n)) [.str "*"]=some (ys.map .str):=by rw[show("*" : Str)=⟨#[42]⟩from c_st];exact e2
  have ey:ys=[W,n]:=strs_of (by
   rw[e1,htl,Tx.spl_cut 42 _ _ (fun z=>by have:=ha 42 z;omega),Tx.spl_none 42 _ (nm_no ht.2.1 (by decide))];rfl)
  subst ey
  rw[List.map_cons,List.map_cons,List.map_nil]at e3
  clear e1 e2 htl
  have lp:lenD [.list [.str W,.str n]]=some (.int 2):=rfl
  have ix0:ixD (.list [.str W,.str n]) (.int 0)=some (.str W):=rfl
  have ix1:ixD (.list [.str W,.str n]) (.int 1)=some (.str n):=rfl
  have g2:=gtD_int 2 2
  have q2:=eqD_int 2 1
  rw[decide_eq_false (by decide)]at g2 q2
  refine runF_rt ?_
  generalize frD (nwV w)=df at *
  generalize Dat.str (W++cS++n)=dw at *
  generalize Dat.str W=ds at *
  generalize Dat.str n=dn at *
  show sSeq _ _ [some (.imm (dw)),none]=_
  rw[sSeq_nx (Γ':=[some (.imm (dw)),none]) (by dsimp![hn2])]
  rw[sSeq_nx (Γ':=[some (.imm (dw)),some (.imm (.list [ds,dn]))]) (by dsimp![fSpl,e3])]
  rw[sSeq_nx (Γ':=[some (.imm (dw)),some (.imm (.list [ds,dn]))]) (by dsimp![lp,q2])]
  rw[sSeq_nx (Γ':=[some (.imm (dw)),some (.imm (.list [ds,dn]))]) (by dsimp![lp,g2,ix1,hn1])]
  dsimp![ix0,ix1,eN,z2]
 |nu w=>
  have hx:w.Ok:=ht
  have hl6:=nwT_len hx
  have ha:=nwT_asc hx
  obtain⟨c,r,ec,hc⟩:=nwT_ne w
  have eN:=hN w hx
  show runF _ _ [.str (nwT w)]=some (.tuple [.none,frD (nwV w)])
  generalize nwT w=W at *
  have hn2:=hI W (by omega) (fun c hc=>by have:=ha c hc;omega)
  rw[nmB_f (c:=c) (by rw[ec];exact List.mem_cons_self) (decide_eq_false (by omega))]at hn2
  obtain⟨ys,e1,e2⟩:=split_ok (x:=W) (c:=42) (by decide) (by omega)
  have e3:splitD (.str W) [.str "*"]=some (ys.map .str):=by rw[show("*" : Str)=⟨#[42]⟩from c_st];exact e2
  have ey:ys=[W]:=strs_of (by rw[e1,Tx.spl_none 42 _ (fun z=>by have:=ha 42 z;omega)];rfl)
  subst ey
  rw[List.map_cons,List.map_nil]at e3
  clear e1 e2
  have lp:lenD [.list [.str W]]=some (.int 1):=rfl
  have q2:=eqD_int 1 1
  rw[decide_eq_true rfl]at q2
  refine runF_rt ?_
  generalize frD (nwV w)=df at *
  generalize Dat.str W=ds at *
  show sSeq _ _ [some (.imm (ds)),none]=_
  rw[sSeq_nx (Γ':=[some (.imm (ds)),none]) (by dsimp![hn2])]
  rw[sSeq_nx (Γ':=[some (.imm (ds)),some (.imm (.list [ds]))]) (by dsimp![fSpl,e3])]
  refine seqRt_ok ?_
  dsimp![lp,q2,eN,z2]
theorem trV_pd {t:Tr} (h:trOk t):Pd (trV t):=by
 cases t with
 |nm n=>exact(⟨by decide,by decide,by decide,by decide⟩:Pd (1,1))
 |nu w=>exact nwV_pd h
 |nn w n=>exact nwV_pd h.1
theorem trT_len {t:Tr} (h:trOk t):(trT t).length≤22:=by
 have lS:cS.length=1:=by show(Str.ofString "*").length=1;rw[slen];rfl
 cases t with
 |nm n=>exact Nat.le_trans (show n.length≤8 from(show GdN n from h).1.len) (by decide)
 |nu w=>exact Nat.le_trans (nwT_len h) (by decide)
 |nn w n=>
  have h1:=nwT_len h.1
  have h2:n.length≤8:=h.2.1.len
  show(nwT w++cS++n).length≤22
  rw[sapp,sapp,lS];omega
theorem trT_no {t:Tr} (h:trOk t) {c:Nat} (hc:c<47) (h42:c≠42):c∉tl (trT t):=by
 have hS:tl cS=[42]:=by show tl (Str.ofString "*")=_;rw[c_st]
 cases t with
 |nm n=>exact nm_no (show GdN n from h).1 (by omega)
 |nu w=>exact fun z=>by have:=(nwT_asc h c z).1;omega
 |nn w n=>
  show c∉tl (nwT w++cS++n)
  rw[tl_app,tl_app,hS]
  intro z
  rcases List.mem_append.mp z with z|z
  ·rcases List.mem_append.mp z with z|z
   ·have:=(nwT_asc h.1 c z).1;omega
   ·exact h42 (List.mem_singleton.mp z)
  ·exact nm_no h.2.1 (by omega) z
theorem trT_hi {t:Tr} (h:trOk t) {c:Nat} (hc:122<c):c∉tl (trT t):=by
 have hS:tl cS=[42]:=by show tl (Str.ofString "*")=_;rw[c_st]
 have hn:∀n:Str,GdN n→c∉tl n:=fun n h z=>by have:=(h.1.lw c z).2;omega
 cases t with
 |nm n=>exact hn n h
 |nu w=>exact fun z=>by have:=(nwT_asc h c z).2;omega
 |nn w n=>
  show c∉tl (nwT w++cS++n)
  rw[tl_app,tl_app,hS]
  intro z
  rcases List.mem_append.mp z with z|z
  ·rcases List.mem_append.mp z with z|z
   ·have:=(nwT_asc h.1 c z).2;omega
   ·have:c=42:=List.mem_singleton.mp z
    omega
  ·exact hn n h.2 z
theorem trT_head {t:Tr} (h:trOk t):∃c r,tl (trT t)=c::r∧c≠45:=by
 cases t with
 |nm n=>
  have h:GdN n:=h
  cases e:tl n with
  |nil=>exact absurd e h.1.ne
  |cons c r=>exact⟨c,r,e,fun z=>by have:=(h.1.lw c (by rw[e];exact List.mem_cons_self)).1;omega⟩
 |nu w=>
  obtain⟨c,r,e,hc⟩:=nwT_ne w
  exact⟨c,r,e,by omega⟩
 |nn w n=>
  obtain⟨c,r,e,hc⟩:=nwT_ne w
  exact⟨c,r++(tl cS++tl n),by show tl (nwT w++cS++n)=_;rw[tl_app,tl_app,e,List.append_assoc];rfl,by omega⟩
end
end
section
noncomputable section
variable {P:Program} {w:World} {K:Fg} {mg:Str→Option Value} {base:Heap} {f:Addr} {fd:FuncData}
abbrev Tm:=Option Str×(Int×Int)
abbrev tmD (t:Tm):Dat:=.tuple [nmD t.1,frD t.2]
abbrev ngT (t:Tm):Tm:=(t.1,ngP t.2)
abbrev TuS (F:List Dat→Option Dat):Prop:=∀ts:List Tm,ts.length≤1000→(∀t∈ts,Pd t.2)→F [.list (ts.map tmD)]=some (.list ((ts.map ngT).map tmD))
theorem d_turned (T:TX mg) (R:RX P w K mg) {Fm:List Dat→Option Dat} (Dminus:Dn P w K mg base 3 "minus" ["a","b"] 2 Fm) (hM:MiS Fm) (U:FnAt K mg "turned" (top 32) ["terms"]):
  ∃F,Dn P w K mg base 4 "turned" ["terms"] 1 F∧TuS F:=by
 refine⟨_,qdnA ["terms"] U fun nd _ _ _ _ _ _ _ hr=>(qpsf_one (qpsf_ret (qpf_of_l (qpfl_compI rfl (blk_plain (N':=["name","number"])) (qpif_seq (qpf_var 0)) (fun _ _ _ _=>(qpgf_tup (n:=2) rfl (qpgfs_cons (qpgf_name 0 (show(["name","number"]:List Str).Nodup by decide +kernel)) (qpgfs_cons (qpgf_name 1 (show(["name","number"]:List Str).Nodup by decide +kernel)) qpgfs_nil)))) (fun _ _ _ _=>qptsf_nil) (fun _ _ _ _=>(qpf_tup (k:=0) (qpfa_cons (qpf_var 0) (qpfa_cons (qpf_fn Dminus hr (qpfa_cons (qpf_globT R.zr.choose_spec.mg R.zr.choose_spec.tup) (qpfa_cons (qpf_var 1) qpfa_nil))) qpfa_nil (hs:=star_call))))) (tg_two rfl rfl))))),?_⟩
 intro ts hl hp
 have z2:2≤sizeLine:=sz (by decide)
 refine runF_rt (sRet_eq ?_)
 refine fcompI_ok (ds:=ts.map tmD) ?_ ?_ ?_
 ·rfl
 ·rw[List.length_map];exact small1000 hl
 rw[List.map_map]
 refine compL_all tmD _ ts fun t ht=>⟨[(0,nmD t.1),(1,frD t.2)],rfl,?_⟩
 have e:=min_0 hM (hp t ht)
 show _=some (Dat.tuple [nmD t.1,frD (ngP t.2)])
 generalize frD (ngP t.2)=d2 at *
 generalize frD t.2=d1 at *
 generalize nmD t.1=d0 at *
 dsimp![e,z2]
theorem slice1 {c:Nat} {x y:Str} (h:tl x=c::tl y) (hl:x.length≤1000):slSD (.str x) (some 1) none=some (.str y):=by
 have h1:1≤x.length:=by rw[← tl_len,h];exact Nat.succ_pos _
 obtain⟨z,e1,e2⟩:=sl_from (x:=x) (j:=1) h1 hl
 have:z=y:=tl_inj (by rw[e2,h];rfl)
 rw[← this]
 exact e1
abbrev Sg:=Bool×Tr
abbrev sgW (t:Sg):Tx.Wd:=⟨t.1,trT t.2⟩
abbrev sgT (t:Sg):Tm:=(trN t.2,if t.1=true then ngP (trV t.2)else trV t.2)
abbrev SgS (F:List Dat→Option Dat):Prop:=∀t:Sg,trOk t.2→F [.str (Tx.term (sgW t))]=some (tmD (sgT t))
theorem sgT_pd {t:Sg} (h:trOk t.2):Pd (sgT t).2:=by
 show Pd (if t.1=true then ngP (trV t.2)else trV t.2)
 split
 ·exact ng_pd (trV_pd h)
 ·exact trV_pd h
theorem d_rsigned (T:TX mg) (R:RX P w K mg) {Ft Fm:List Dat→Option Dat} (Dread_term:Dn P w K mg base 4 "read_term" ["word"] 1 Ft) (hT:RtS Ft) (Dminus:Dn P w K mg base 4 "minus" ["a","b"] 2 Fm) (hM:MiS Fm) (U:FnAt K mg "read_signed_term" (top 33) ["word"]):
  ∃F,Dn P w K mg base 5 "read_signed_term" ["word"] 1 F∧SgS F:=by
 refine⟨_,qdnA ["word","term"] U fun nd _ _ _ _ _ _ _ hr=>(qpsf_cons (qpsf_if (qpft_truth (qpf_starts (qpf_var 0) (qpfa_cons qpf_str qpfa_nil))) (qpsf_cons (qpsf_set 1 nd (qpf_fn Dread_term hr (qpfa_cons (qpf_sliceS (qpf_var 0) (qpfo_some qpf_int) qpfo_none) qpfa_nil (hs:=star_sub))))
  (qpsf_one (qpsf_ret (qpf_tup (k:=0) (qpfa_cons (qpf_ix (qpf_var 1) qpf_int) (qpfa_cons (qpf_fn Dminus hr (qpfa_cons (qpf_globT R.zr.choose_spec.mg R.zr.choose_spec.tup) (qpfa_cons (qpf_ix (qpf_var 1) qpf_int) qpfa_nil (hs:=star_sub)))) qpfa_nil (hs:=star_call)) (hs:=star_sub)))))) qpsf_nil)
  (qpsf_one (qpsf_ret (qpf_fn Dread_term hr (qpfa_cons (qpf_var 0) qpfa_nil))))),?_⟩
 have z2:2≤sizeLine:=sz (by decide)
 have neg:∀(x W:Str) (n:Dat) (a:Int×Int),tl x=45::tl W→x.length≤1000→Pd a→Ft [.str W]=some (.tuple [n,frD a])→runF ["word","term"] (sSeq (sIf (fTru (fMeth startsD (fVar 0) (fCons (fC (.str "-")) fNil))) (sSeq (sSet 1 (fFn 1 Ft (fCons (fSlS (fVar 0) (oSome (fC (.int 1))) oNone) fNil))) (sRet (fTup (fCons (L3.f2 ixD (fVar 1) (fC (.int 0))) (fCons (fFn 2 Fm (fCons (fC (.tuple [.int 0,.int 1])) (fCons (L3.f2 ixD (fVar 1) (fC (.int 1))) fNil))) fNil))))) sSkip) (sRet (fFn 1 Ft (fCons (fVar 0) fNil)))) [.str x]=some (.tuple [n,frD (ngP a)]):=fun x W n a hx hl ha e=>by
  have s1:startsD (.str x) [.str "-"]=some (.bool true):=by
   rw[show("-" : Str)=⟨#[45]⟩from c_m,starts_ok,hx];rfl
  have s2:=slice1 hx hl
  have s3:=min_0 hM ha
  have i0:ixD (.tuple [n,frD a]) (.int 0)=some n:=rfl
  have i1:ixD (.tuple [n,frD a]) (.int 1)=some (frD a):=rfl
  refine runF_rt (seqRt_ok ?_)
  generalize Dat.tuple [n,frD a]=dt at *
  generalize frD (ngP a)=d2 at *
  generalize frD a=d1 at *
  generalize Dat.str x=dx at *
  generalize Dat.str W=dW at *
  show sIf _ _ _ [some (.imm (dx)),none]=_
  dsimp![fSlS,oSome,oNone,asI,s1,s2,e,i0,i1,s3,z2]
 have pos:∀(x:Str) (d:Dat),(∃c r,tl x=c::r∧c≠45)→Ft [.str x]=some d→runF ["word","term"] (sSeq (sIf (fTru (fMeth startsD (fVar 0) (fCons (fC (.str "-")) fNil))) (sSeq (sSet 1 (fFn 1 Ft (fCons (fSlS (fVar 0) (oSome (fC (.int 1))) oNone) fNil))) (sRet (fTup (fCons (L3.f2 ixD (fVar 1) (fC (.int 0))) (fCons (fFn 2 Fm (fCons (fC (.tuple [.int 0,.int 1])) (fCons (L3.f2 ixD (fVar 1) (fC (.int 1))) fNil))) fNil))))) sSkip) (sRet (fFn 1 Ft (fCons (fVar 0) fNil)))) [.str x]=some d:=fun x d hx e=>by
  have s1:startsD (.str x) [.str "-"]=some (.bool false):=by
   obtain⟨c,r,ec,hc⟩:=hx
   rw[show("-" : Str)=⟨#[45]⟩from c_m,starts_ok,ec]
   show some (Dat.bool (some c==some 45))=_
   rw[show(some c==some 45)=false by simpa using hc]
  refine runF_rt ?_
  generalize Dat.str x=dx at *
  show sSeq _ _ [some (.imm (dx)),none]=_
  dsimp![s1,e]
 rintro⟨b,t⟩ ht
 have ht:trOk t:=ht
 have e:=hT t ht
 have hl:=trT_len ht
 cases b with
 |true=>
  have hlz:(Tx.zM++trT t).length≤1000:=by rw[sapp];show 1+_≤1000;omega
  exact neg (Tx.zM++trT t) (trT t) (nmD (trN t)) (trV t) (by rw[tl_app];rfl) hlz (trV_pd ht) e
 |false=>exact pos (trT t) _ (trT_head ht) e
theorem sg_gw {t:Sg} (h:trOk t.2):Tx.Gw (sgW t):=by
 obtain⟨c,r,e,_⟩:=trT_head h
 exact⟨fun z=>(by rw[show tl (sgW t).word=c::r from e]at z;cases z),trT_no h (by decide) (by decide),trT_no h (by decide) (by decide)⟩
end
end
section
noncomputable section
variable {P:Program} {w:World} {K:Fg} {mg:Str→Option Value} {base:Heap} {f:Addr} {fd:FuncData}
abbrev txt (ws:List Tx.Wd):Str:=ws.foldl Tx.stp ⟨#[]⟩
theorem c_pm:(Str.ofString "+-" : Str)=⟨#[43,45]⟩:=by decide +kernel
theorem rm_len:∀l:List Nat,(Tx.rm l).length≤2*l.length
 |[]=>Nat.le_refl _
 |a::l=>by
  have:=rm_len l
  show((if a=45 then[43,45]else[a])++Tx.rm l).length≤_
  rw[List.length_append,List.length_cons]
  split
  ·show 2+_≤_;omega
  ·show 1+_≤_;omega
abbrev RsS (Fs F:List Dat→Option Dat):Prop:=∀(v:Tx.Wd) (ws:List Tx.Wd) (out:Tx.Wd→Dat),(∀u∈v::ws,Tx.Gw u)→(v::ws).length≤100→(txt (v::ws)).length≤80→(∀u∈v::ws,Fs [.str (Tx.term u)]=some (out u))→F [.str (txt (v::ws))]=some (.list ((v::ws).map out))
theorem d_rsum (T:TX mg) (R:RX P w K mg) {Fs:List Dat→Option Dat} (Dread_signed_term:Dn P w K mg base 5 "read_signed_term" ["word"] 1 Fs) (U:FnAt K mg "read_sum" (top 34) ["word"]):
  ∃F,DnT P w K mg base 6 "read_sum" ["word"] 1 F∧RsS Fs F:=by
 refine⟨_,qdnTA ["word","pieces"] U fun nd _ _ _ _ _ _ _ hr=>(qtsf_cons (qtsf_of (qpsf_if (qpft_gt (qpf_len T.len (qpfa_cons (qpf_var 0) qpfa_nil)) (qpf_globI R.ls)) (qpsf_one qpsf_never) qpsf_nil))
  (qtsf_cons (qtsf_set 1 nd (qtf_split (qtf_repl (qpf_var 0)) (qpfa_cons qpf_str qpfa_nil)))
  (qtsfs_of (qpsf_cons (qpsf_if (qpft_truth (qpf_starts (qpf_var 0) (qpfa_cons qpf_str qpfa_nil))) (qpsf_one (qpsf_set 1 nd (qpf_sliceU (qpf_var 1) (qpfo_some qpf_int) qpfo_none))) qpsf_nil)
  (qpsf_one (qpsf_ret (qpf_of_l (qpfl_comp rfl (blk_plain (N':=["piece"])) (qpf_var 1) (fun _ _ _ _=>(qpgf_name 0 (show(["piece"]:List Str).Nodup by decide +kernel))) (fun _ _ _ _=>qptsf_nil) (fun _ _ _ _=>(qpf_fn Dread_signed_term hr (qpfa_cons (qpf_var 0) qpfa_nil))) (tg_name rfl))))))))),?_⟩
 intro v ws out hg hlen h80 hs
 have hl:=len_str (x:=txt (v::ws)) (by omega)
 have g1:=gtD_int ((txt (v::ws)).length:Int) 80
 rw[decide_eq_false (by omega)]at g1
 have hh:=Tx.fold_head v ws hg
 have s1:startsD (.str (txt (v::ws))) [.str "-"]=some (.bool v.neg):=by
  rw[show("-" : Str)=⟨#[45]⟩from c_m,starts_ok,hh]
 obtain⟨x',ex⟩:∃x',x'=Txt.replace (txt (v::ws)) ⟨#[45]⟩ ⟨#[43,45]⟩:=⟨_,rfl⟩
 have etl:tl x'=Tx.rm (tl (txt (v::ws))):=by rw[ex];exact Tx.replace_m _
 have r1:replD "-" "+-" (.str (txt (v::ws)))=some (.str x'):=by
  rw[show("-" : Str)=⟨#[45]⟩from c_m,show("+-" : Str)=⟨#[43,45]⟩from c_pm,ex]
  refine if_pos ?_
  show _+(_+1)*2≤16777216
  omega
 have hxl:x'.length≤1000:=by
  have:=rm_len (tl (txt (v::ws)))
  rw[← etl,tl_len,tl_len]at this
  omega
 obtain⟨ys,e1,e2⟩:=split_ok (x:=x') (c:=43) (by decide) hxl
 rw[etl,Tx.pieces_eq v ws hg]at e1
 have ey:ys=(if v.neg=true then[(⟨#[]⟩:Str)]else[])++(v::ws).map Tx.term:=strs_of (by
  rw[e1,List.map_append,List.map_map]
  congr 1
  split<;>rfl)
 have e3:splitD (.str x') [.str "+"]=some (ys.map .str):=by rw[show("+" : Str)=⟨#[43]⟩from c_pl];exact e2
 clear e1 e2 etl ex
 have ec:compL (aName 0) tYesF (fFn 1 Fs (fCons (fVar 0) fNil)) [none] (((v::ws).map Tx.term).map Dat.str)=some ((v::ws).map out):=by
  rw[List.map_map]
  refine compL_all (fun u=>Dat.str (Tx.term u)) out (v::ws) fun u hu=>⟨[(0,.str (Tx.term u))],rfl,?_⟩
  have e:=hs u hu
  generalize Dat.str (Tx.term u)=du at *
  dsimp![e]
 have hzl:(((v::ws).map Tx.term).map Dat.str).length<sizeLine:=by rw[List.length_map,List.length_map];exact small1000 (by omega)
 refine runF_rt ?_
 generalize (v::ws).map out=outs at *
 generalize (v::ws).map Tx.term=ts at *
 generalize ((txt (v::ws)).length:Int)=n at *
 show sSeq _ _ [some (.imm (.str (txt (v::ws)))),none]=_
 generalize Dat.str (txt (v::ws))=dx at *
 rw[sSeq_nx (Γ':=[some (.imm (dx)),none]) (by dsimp![hl,g1])]
 rw[sSeq_nx (Γ':=[some (.imm (dx)),some (.imm (.list (ys.map .str)))]) (by
  generalize Dat.str x'=dx' at *
  dsimp![fSpl,r1,e3])]
 have fin:sRet (fL (fComp [none] (aName 0) tYesF (fFn 1 Fs (fCons (fVar 0) fNil)) (fVar 1))) [some (.imm (dx)),some (.imm (.list (ts.map .str)))]=some (.rt (.list outs)):=sRet_eq (fcomp_ok (d:=.list (ts.map .str)) (ds:=ts.map .str) rfl rfl hzl ec)
 cases hn:v.neg with
 |true=>
  rw[hn]at s1 ey
  rw[if_pos rfl]at ey
  have sl:slU (.list (ys.map .str)) (some 1) none=some (.list (ts.map .str)):=by
   rw[ey]
   show some (Dat.list (L3.cutD (([(⟨#[]⟩:Str)]++ts).map Dat.str) (some ((1:Nat):Int)) none))=_
   unfold L3.cutD
   rw[HT.sIx_nat,HT.sIx_none]
   have h1:min 1 (([(⟨#[]⟩:Str)]++ts).map Dat.str).length=1:=by rw[List.length_map,List.length_append];show min 1 (1+_)=1;omega
   rw[h1]
   show some (Dat.list (((([(⟨#[]⟩:Str)]++ts).map Dat.str).drop 1).take _))=_
   rw[List.take_of_length_le (by rw[List.length_drop];omega)]
   rfl
  rw[sSeq_nx (Γ':=[some (.imm (dx)),some (.imm (.list (ts.map .str)))]) (by
   generalize Dat.list (ys.map .str)=dy at *
   generalize Dat.list (ts.map .str)=dts at *
   dsimp![s1,fSlU,oSome,oNone,asI,sl])]
  exact fin
 |false=>
  rw[hn]at s1 ey
  rw[if_neg Bool.false_ne_true,List.nil_append]at ey
  rw[ey]
  rw[sSeq_nx (Γ':=[some (.imm (dx)),some (.imm (.list (ts.map .str)))]) (by
   generalize Dat.list (ts.map .str)=dts at *
   dsimp![s1])]
  exact fin
abbrev whsD (ns:List Nat):Dat:=.list (ns.map fun n:Nat=>.str (S (n:Int)))
def K5 (k k':Str) (tu:Bool):Prop:=(k=Str.ofString "="∧k'=Str.ofString "="∧tu=false)∨(k=Str.ofString "<="∧k'=Str.ofString "<="∧tu=false)∨(k=Str.ofString "<"∧k'=Str.ofString "<"∧tu=false)∨(k=Str.ofString ">="∧k'=Str.ofString "<="∧tu=true)∨(k=Str.ofString ">"∧k'=Str.ofString "<"∧tu=true)
abbrev lnT (ts us:List Tm) (tu:Bool):List Tm:=if tu=true then(ts++us.map ngT).map ngT else ts++us.map ngT
abbrev RlS (Fs F:List Dat→Option Dat):Prop:=∀(a l k k' r:Str) (tu:Bool) (ts us:List Tm) (ns:List Nat),K5 k k' tu→ts.length+us.length≤100→(∀t∈ts,Pd t.2)→(∀t∈us,Pd t.2)→Fs [.str l]=some (.list (ts.map tmD))→Fs [.str r]=some (.list (us.map tmD))→ns.length≤100→(∀n∈ns,n<1000000)→F [.str a,.str l,.str k,.str r,whsD ns]=some (.tuple [.str a,.str k',.list ((lnT ts us tu).map tmD),.list (ns.map fun n:Nat=>.int (n:Int))])
theorem kd_n {k k':Str} {tu:Bool} (h:K5 k k' tu):ninK kkv (.str k)=some (.bool false)∧getK kkv (.str k)=some (.str k')∧startsD (.str k) [.str ">"]=some (.bool tu):=by
 rcases h with⟨e,e2,e3⟩|⟨e,e2,e3⟩|⟨e,e2,e3⟩|⟨e,e2,e3⟩|⟨e,e2,e3⟩<;>subst e<;>subst e2<;>subst e3
 ·exact⟨rfl,rfl,rfl⟩
 ·exact⟨rfl,rfl,rfl⟩
 ·exact⟨rfl,rfl,rfl⟩
 ·exact⟨rfl,rfl,rfl⟩
 ·exact⟨rfl,rfl,rfl⟩
theorem d_rline (T:TX mg) (R:RX P w K mg) {Fs Ft Fw:List Dat→Option Dat} (Dread_sum:DnT P w K mg base 6 "read_sum" ["word"] 1 Fs) (Dturned:Dn P w K mg base 6 "turned" ["terms"] 1 Ft) (hT:TuS Ft) (Dread_whole:Dn P w K mg base 6 "read_whole" ["word"] 1 Fw) (hW:RwS Fw) (U:FnAt K mg "read_line" (top 35) ["word","left","sign","right","numbers"]):
  ∃F,DnT P w K mg base 7 "read_line" ["word","left","sign","right","numbers"] 5 F∧RlS Fs F:=by
 refine⟨_,qdnTA ["word","left","sign","right","numbers","terms"] U fun nd _ _ _ _ _ _ _ hr=>(qtsf_cons (qtsf_of (qpsf_if (qpft_ninK R.ki (qpf_var 2)) (qpsf_one qpsf_never) qpsf_nil))
  (qtsf_cons (qtsf_set 5 nd (qtf_addU (qtf_fnT Dread_sum hr (qtfa_of (qpfa_cons (qpf_var 1) qpfa_nil))) (qtf_fn Dturned hr (qtfa_cons (qtf_fnT Dread_sum hr (qtfa_of (qpfa_cons (qpf_var 3) qpfa_nil))) (qtfa_of qpfa_nil) (hs:=star_call)))))
  (qtsfs_of (qpsf_cons (qpsf_if (qpft_truth (qpf_starts (qpf_var 2) (qpfa_cons qpf_str qpfa_nil))) (qpsf_one (qpsf_set 5 nd (qpf_fn Dturned hr (qpfa_cons (qpf_var 5) qpfa_nil)))) qpsf_nil)
  (qpsf_one (qpsf_ret (qpf_tup (k:=0) (qpfa_cons (qpf_var 0) (qpfa_cons (qpf_getK R.ki (qpf_var 2)) (qpfa_cons (qpf_var 5) (qpfa_cons (qpf_of_l (qpfl_comp rfl (blk_plain (N':=["number"])) (qpf_var 4) (fun _ _ _ _=>(qpgf_name 0 (show(["number"]:List Str).Nodup by decide +kernel))) (fun _ _ _ _=>qptsf_nil) (fun _ _ _ _=>(qpf_fn Dread_whole hr (qpfa_cons (qpf_var 0) qpfa_nil))) (tg_name rfl))) qpfa_nil)) (hs:=star_sub)))))))))),?_⟩
 intro a l k k' r tu ts us ns hk hlen hts hus el er hn hns
 obtain⟨k1,k2,k3⟩:=kd_n hk
 have et:=hT us (by omega) hus
 have z4:4≤sizeLine:=sz (by decide)
 have ea:addU (.list (ts.map tmD)) (.list ((us.map ngT).map tmD))=some (.list ((ts++us.map ngT).map tmD)):=by
  show(if(ts.map tmD).length+((us.map ngT).map tmD).length≤sizeLine then some (Dat.list (ts.map tmD++(us.map ngT).map tmD))else none)=_
  rw[if_pos (by rw[List.length_map,List.length_map,List.length_map];exact sz (by omega)),← List.map_append]
 have et2:=hT (ts++us.map ngT) (by rw[List.length_append,List.length_map];omega) (fun t ht=>by
  rcases List.mem_append.mp ht with ht|ht
  ·exact hts t ht
  ·obtain⟨u,hu,rfl⟩:=List.mem_map.mp ht
   exact ng_pd (hus u hu))
 have ec:compL (aName 0) tYesF (fFn 1 Fw (fCons (fVar 0) fNil)) [none] (ns.map fun n:Nat=>Dat.str (S (n:Int)))=some (ns.map fun n:Nat=>Dat.int (n:Int)):=
  compL_all (fun n:Nat=>Dat.str (S (n:Int))) (fun n:Nat=>Dat.int (n:Int)) ns fun n hm=>⟨[(0,.str (S (n:Int)))],rfl,by
   have e:=hW n (hns n hm)
   generalize Dat.str (S (n:Int))=du at *
   dsimp![e]⟩
 have hz:(ns.map fun n:Nat=>Dat.str (S (n:Int))).length<sizeLine:=by rw[List.length_map];exact small1000 (by omega)
 have ef':∀d:Dat,fL (fComp [none] (aName 0) tYesF (fFn 1 Fw (fCons (fVar 0) fNil)) (fVar 4)) [some (.str a),some (.str l),some (.str k),some (.str r),some (whsD ns),some d]=some (.list (ns.map fun n:Nat=>Dat.int (n:Int))):=fun d=>fcomp_ok (d:=whsD ns) (ds:=ns.map fun n:Nat=>Dat.str (S (n:Int))) rfl rfl hz ec
 clear ec hz
 refine runF_rt ?_
 show sSeq _ _ [some (.imm (.str a)),some (.imm (.str l)),some (.imm (.str k)),some (.imm (.str r)),some (.imm (whsD ns)),none]=_
 generalize (ns.map fun n:Nat=>Dat.int (n:Int))=dis at *
 have elt:(lnT ts us tu).map tmD=if tu=true then((ts++us.map ngT).map ngT).map tmD else(ts++us.map ngT).map tmD:=by cases tu<;>rfl
 rw[elt]
 generalize ((ts++us.map ngT).map ngT).map tmD=dtt at *
 generalize (ts++us.map ngT).map tmD=dts at *
 generalize Dat.list ((us.map ngT).map tmD)=dng at *
 generalize Dat.list (us.map tmD)=dus at *
 generalize Dat.list (ts.map tmD)=dt at *
 generalize whsD ns=dns at *
 generalize Dat.str a=da at *
 generalize Dat.str l=dl at *
 generalize Dat.str r=dr at *
 generalize Dat.str k=dk at *
 generalize Dat.str k'=dk' at *
 rw[sSeq_nx (Γ':=[some (.imm (da)),some (.imm (dl)),some (.imm (dk)),some (.imm (dr)),some (.imm (dns)),none]) (by dsimp![k1])]
 rw[sSeq_nx (Γ':=[some (.imm (da)),some (.imm (dl)),some (.imm (dk)),some (.imm (dr)),some (.imm (dns)),some (.imm (.list dts))]) (by
  generalize Dat.list dts=dd at *
  dsimp![el,er,et,ea])]
 rw[sSeq_nx (Γ':=[some (.imm (da)),some (.imm (dl)),some (.imm (dk)),some (.imm (dr)),some (.imm (dns)),some (.imm (.list (if tu=true then dtt else dts)))]) (by
  cases tu with
  |true=>
   rw[if_pos rfl]
   generalize Dat.list dts=dd at *
   generalize Dat.list dtt=dd2 at *
   dsimp![k3,et2]
  |false=>
   rw[if_neg Bool.false_ne_true]
   generalize Dat.list dts=dd at *
   dsimp![k3])]
 refine sRet_eq ?_
 have ef:=ef' (.list (if tu=true then dtt else dts))
 generalize Dat.list (if tu=true then dtt else dts)=dd at *
 show fTup (fCons (fVar 0) (fCons (L3.f1 (getK kkv) (fVar 2)) (fCons (fVar 5) (fCons (fL (fComp [none] (aName 0) tYesF (fFn 1 Fw (fCons (fVar 0) fNil)) (fVar 4))) fNil)))) [some da,some dl,some dk,some dr,some dns,some dd]=_
 clear ef'
 generalize fL (fComp [none] (aName 0) tYesF (fFn 1 Fw (fCons (fVar 0) fNil)) (fVar 4))=fx at *
 dsimp![k2,ef,z4]
end
end
section
noncomputable section
variable {P:Program} {w:World} {K:Fg} {mg:Str→Option Value} {base:Heap} {f:Addr} {fd:FuncData}
abbrev sG:Str:="given"
abbrev sS:Str:="so"
abbrev sF:Str:="from"
abbrev s1:Str:="1"
theorem words_ok {x:Str} {ys:List Str} {y:Str} (h:tl x=Tx.glue ((y::ys).map tl)) (hn:∀z∈y::ys,32∉tl z) (hl:x.length≤1000):splitD (.str x) [.str " "]=some ((y::ys).map .str):=by
 obtain⟨zs,e1,e2⟩:=split_ok (x:=x) (c:=32) (by decide) hl
 rw[h]at e1
 have:Tx.spl 32 (Tx.glue ((y::ys).map tl))=(y::ys).map tl:=Tx.spl_glue (tl y) (ys.map tl) (fun l hl=>by
  have hl:l∈(y::ys).map tl:=hl
  obtain⟨z,hz,rfl⟩:=List.mem_map.mp hl
  exact hn z hz)
 rw[this]at e1
 rw[show(" " : Str)=⟨#[32]⟩from c_bl,e2,strs_of e1]
abbrev sA:Str:="ask"
structure RrS (Fl Fi F:List Dat→Option Dat):Prop where
 gv:∀(x l k r:Str) (d:Dat),tl x=Tx.glue ([sG,l,k,r].map tl)→(∀z∈[sG,l,k,r],32∉tl z)→x.length≤1000→Fl [.str sG,.str l,.str k,.str r,.list []]=some d→F [.str x]=some d
 so:∀(x l k r:Str) (fs:List Str) (d:Dat),1≤fs.length→fs.length≤6→tl x=Tx.glue ((sS::l::k::r::sF::fs).map tl)→(∀z∈sS::l::k::r::sF::fs,32∉tl z)→x.length≤1000→Fl [.str sS,.str l,.str k,.str r,.list (fs.map .str)]=some d→F [.str x]=some d
 ak:∀(x n:Str),tl x=Tx.glue ([sA,n].map tl)→32∉tl n→x.length≤1000→Fi [.str n]=some (.bool true)→F [.str x]=some (.tuple [.str sA,.str n])
theorem d_rrow (T:TX mg) (R:RX P w K mg) {Fl' Fi:List Dat→Option Dat} (Dread_line:DnT P w K mg base 7 "read_line" ["word","left","sign","right","numbers"] 5 Fl') (Dis_name:Dn P w K mg base 7 "is_name" ["word"] 1 Fi) (U:FnAt K mg "read_row" (top 36) ["row"]):
  ∃F,Dn P w K mg base 8 "read_row" ["row"] 1 F∧RrS Fl' Fi F:=by
 refine⟨_,qdnA ["row","words"] U fun nd _ _ _ _ _ _ _ hr=>(qtsf_split 1 nd (qpf_var 0)
  (qtsf_cons (qtsf_if (qpft_w (qpfw_and (qpft_eq hr (qpf_ix (qpf_var 1) qpf_int) qpf_str) (qpfw_and1 (qpft_eq hr (qpf_len T.len (qpfa_cons (qpf_var 1) qpfa_nil)) qpf_int)))) (qtsf_one (qtsf_ret (qtf_fnT Dread_line hr (qtfa_of (qpfa_cons qpf_str (qpfa_cons (qpf_ix (qpf_var 1) qpf_int) (qpfa_cons (qpf_ix (qpf_var 1) qpf_int) (qpfa_cons (qpf_ix (qpf_var 1) qpf_int) (qpfa_cons (qpf_lst qpfa_nil) qpfa_nil (hs:=star_lst)) (hs:=star_sub)) (hs:=star_sub)) (hs:=star_sub))))))) (qtsfs_of qpsf_nil))
  (qtsf_cons (qtsf_if (qpft_w (qpfw_and (qpft_eq hr (qpf_ix (qpf_var 1) qpf_int) qpf_str) (qpfw_and (qpft_leLe qpf_int (qpf_len T.len (qpfa_cons (qpf_var 1) qpfa_nil)) (qpf_add qpf_int (qpf_globI R.mm))) (qpfw_and1 (qpft_eq hr (qpf_ix (qpf_var 1) qpf_int) qpf_str))))) (qtsf_one (qtsf_ret (qtf_fnT Dread_line hr (qtfa_of (qpfa_cons qpf_str (qpfa_cons (qpf_ix (qpf_var 1) qpf_int) (qpfa_cons (qpf_ix (qpf_var 1) qpf_int) (qpfa_cons (qpf_ix (qpf_var 1) qpf_int) (qpfa_cons (qpf_sliceU (qpf_var 1) (qpfo_some qpf_int) qpfo_none) qpfa_nil (hs:=star_sub)) (hs:=star_sub)) (hs:=star_sub)) (hs:=star_sub))))))) (qtsfs_of qpsf_nil))
  (qtsfs_of (qpsf_cons (qpsf_if (qpft_w (qpfw_and (qpft_eq hr (qpf_ix (qpf_var 1) qpf_int) qpf_str) (qpfw_and (qpft_eq hr (qpf_len T.len (qpfa_cons (qpf_var 1) qpfa_nil)) qpf_int) (qpfw_and1 (qpft_truth (qpf_fn Dis_name hr (qpfa_cons (qpf_ix (qpf_var 1) qpf_int) qpfa_nil (hs:=star_sub)))))))) (qpsf_one (qpsf_ret (qpf_tup (k:=0) (qpfa_cons qpf_str (qpfa_cons (qpf_ix (qpf_var 1) qpf_int) qpfa_nil (hs:=star_sub)))))) qpsf_nil)
  (qpsf_one qpsf_never)))))),?_⟩
 have z0:0≤sizeLine:=Nat.zero_le _
 have z2:2≤sizeLine:=sz (by decide)
 refine⟨fun x l k r d hx hn hl e=>?_,fun x l k r fs d h1 h6 hx hn hl e=>?_,fun x n hx hn hl e=>?_⟩
 ·have ew:=words_ok (ys:=[l,k,r]) (y:=sG) hx hn hl
  rw[List.map_cons,List.map_cons,List.map_cons,List.map_cons,List.map_nil]at ew
  have lp:lenD [.list [.str sG,.str l,.str k,.str r]]=some (.int 4):=rfl
  have i0:ixD (.list [.str sG,.str l,.str k,.str r]) (.int 0)=some (.str sG):=rfl
  have i1:ixD (.list [.str sG,.str l,.str k,.str r]) (.int 1)=some (.str l):=rfl
  have i2:ixD (.list [.str sG,.str l,.str k,.str r]) (.int 2)=some (.str k):=rfl
  have i3:ixD (.list [.str sG,.str l,.str k,.str r]) (.int 3)=some (.str r):=rfl
  have q0:eqD (.str sG) (.str "given")=some (.bool true):=rfl
  have q4:=eqD_int 4 4
  rw[decide_eq_true rfl]at q4
  have e:Fl' [.str (Str.ofString "given"),.str l,.str k,.str r,.list []]=some d:=e
  refine runF_rt ?_
  show sSeq _ _ [some (.imm (.str x)),none]=_
  generalize Dat.str sG=dg at *
  generalize Dat.str l=dl at *
  generalize Dat.str k=dk at *
  generalize Dat.str r=dr at *
  generalize Dat.str x=dx at *
  rw[sSeq_nx (Γ':=[some (.imm (dx)),some (.imm (.list [dg,dl,dk,dr]))]) (by dsimp![fSpl,ew])]
  generalize Dat.list [dg,dl,dk,dr]=dws at *
  refine seqRt_ok ?_
  dsimp![i0,i1,i2,i3,lp,q0,q4,e,z0]
 ·have ew:=words_ok (ys:=l::k::r::sF::fs) (y:=sS) hx hn hl
  have lp:lenD [.list ((sS::l::k::r::sF::fs).map .str)]=some (.int ((5+fs.length:Nat):Int)):=by
   show some (Dat.int (((sS::l::k::r::sF::fs).map Dat.str).length:Int))=_
   rw[List.length_map]
   congr 2
   simp only[List.length_cons]
   omega
  have i0:ixD (.list ((sS::l::k::r::sF::fs).map .str)) (.int 0)=some (.str sS):=L3.ix_list (k:=0) rfl
  have i1:ixD (.list ((sS::l::k::r::sF::fs).map .str)) (.int 1)=some (.str l):=L3.ix_list (k:=1) rfl
  have i2:ixD (.list ((sS::l::k::r::sF::fs).map .str)) (.int 2)=some (.str k):=L3.ix_list (k:=2) rfl
  have i3:ixD (.list ((sS::l::k::r::sF::fs).map .str)) (.int 3)=some (.str r):=L3.ix_list (k:=3) rfl
  have i4:ixD (.list ((sS::l::k::r::sF::fs).map .str)) (.int 4)=some (.str sF):=L3.ix_list (k:=4) rfl
  have sl:slU (.list ((sS::l::k::r::sF::fs).map .str)) (some 5) none=some (.list (fs.map .str)):=L3.sl_from (ds:=(sS::l::k::r::sF::fs).map .str) (m:=5)
  have q0:eqD (.str sS) (.str "given")=some (.bool false):=rfl
  have q1:eqD (.str sS) (.str "so")=some (.bool true):=rfl
  have q2:eqD (.str sF) (.str "from")=some (.bool true):=rfl
  have l1:=leD_int 6 ((5+fs.length:Nat):Int)
  have l2:=leD_int ((5+fs.length:Nat):Int) 11
  rw[decide_eq_true (by omega)]at l1 l2
  have a1:=addD_int 5 6
  have a1:addD (.int 5) (.int 6)=some (.int 11):=a1
  have e:Fl' [.str (Str.ofString "so"),.str l,.str k,.str r,.list (fs.map .str)]=some d:=e
  refine runF_rt ?_
  show sSeq _ _ [some (.imm (.str x)),none]=_
  rw[sSeq_nx (Γ':=[some (.imm (.str x)),some (.imm (.list ((sS::l::k::r::sF::fs).map .str)))]) (by
   generalize (sS::l::k::r::sF::fs).map Dat.str=dww at *
   generalize Dat.str x=dx at *
   dsimp![fSpl,ew])]
  generalize Dat.list ((sS::l::k::r::sF::fs).map .str)=dws at *
  generalize Dat.list (fs.map .str)=d1 at *
  generalize ((5+fs.length:Nat):Int)=m5 at *
  generalize Dat.str sS=dg at *
  generalize Dat.str sF=df at *
  generalize Dat.str l=dl at *
  generalize Dat.str k=dk at *
  generalize Dat.str r=dr at *
  generalize Dat.str x=dx at *
  rw[sSeq_nx (Γ':=[some (.imm (dx)),some (.imm (dws))]) (by dsimp![i0,q0])]
  refine seqRt_ok ?_
  dsimp![f3c,i0,i1,i2,i3,i4,lp,q1,q2,l1,l2,a1,fSlU,oSome,oNone,asI,sl,e]
 ·have ew:=words_ok (ys:=[n]) (y:=sA) hx (by
   intro z hz
   simp only[List.mem_cons,List.not_mem_nil,or_false]at hz
   rcases hz with rfl|rfl
   ·exact(by decide +kernel:32∉tl sA)
   ·exact hn) hl
  rw[List.map_cons,List.map_cons,List.map_nil]at ew
  have lp:lenD [.list [.str sA,.str n]]=some (.int 2):=rfl
  have i0:ixD (.list [.str sA,.str n]) (.int 0)=some (.str sA):=rfl
  have i1:ixD (.list [.str sA,.str n]) (.int 1)=some (.str n):=rfl
  have q0:eqD (.str sA) (.str "given")=some (.bool false):=rfl
  have q1:eqD (.str sA) (.str "so")=some (.bool false):=rfl
  have q2:eqD (.str sA) (.str "ask")=some (.bool true):=rfl
  have q4:=eqD_int 2 2
  rw[decide_eq_true rfl]at q4
  refine runF_rt ?_
  show sSeq _ _ [some (.imm (.str x)),none]=some (.rt (.tuple [.str (Str.ofString "ask"),.str n]))
  generalize Dat.str sA=dg at *
  generalize Dat.str n=dn at *
  generalize Dat.str x=dx at *
  rw[sSeq_nx (Γ':=[some (.imm (dx)),some (.imm (.list [dg,dn]))]) (by dsimp![fSpl,ew])]
  generalize Dat.list [dg,dn]=dws at *
  rw[sSeq_nx (Γ':=[some (.imm (dx)),some (.imm (dws))]) (by dsimp![i0,q0])]
  rw[sSeq_nx (Γ':=[some (.imm (dx)),some (.imm (dws))]) (by dsimp![i0,q1])]
  refine seqRt_ok ?_
  dsimp![i0,i1,lp,q2,q4,e,z2]
def nmS (acc:List Str) (t:Tm):List Str:=match t.1 with
 |some x=>if acc.contains x=true then acc else acc++[x]
 |none=>acc
abbrev nmW (ns:List Str) (ts:List Tm):List Str:=ts.foldl nmS ns
theorem nmS_len (acc:List Str) (t:Tm):(nmS acc t).length≤acc.length+1:=by
 unfold nmS
 split
 ·split
  ·omega
  ·rw[List.length_append];exact Nat.le_refl _
 ·omega
theorem zSeq_nx {g:Gam→Option Fl} {z:Gam→Option Gam} {Γ Γ':Gam} (h:g Γ=some (.nx Γ')):zSeq g z Γ=z Γ':=by unfold zSeq;rw[h];rfl
theorem runO_ok {N:List Str} {i:Nat} {z:Gam→Option Gam} {ds es:List Dat} {Γ':Gam} (h:z (startG N ds)=some Γ') (h2:Γ'[i]?=some (some (.own es))):runO N i z ds=some es:=by
 unfold runO
 rw[h,Option.bind_some,h2]
abbrev NwN (F:List Dat→Option (List Dat)):Prop:=∀(ns:List Str) (ts:List Tm),ns.length+ts.length≤900→F [.list (ns.map .str),.list (ts.map tmD)]=some ((nmW ns ts).map .str)
abbrev NwS (F:List Dat→Option Dat):Prop:=∀(ns:List Str) (ts:List Tm),ns.length+ts.length≤900→F [.list (ns.map .str),.list (ts.map tmD)]=some (.list ((nmW ns ts).map .str))
theorem d_nwith (T:TX mg) (U:FnAt K mg "names_with" (top 37) ["names","terms"]):
  ∃F,DnN P w K mg base 1 "names_with" ["names","terms"] 2 F∧NwN F:=by
 refine⟨_,qdnO ["names","terms","known","name","number"] 2 U fun nd _ _ _ _ _ _ _ hr=>(qz_cons (qpsf_own 2 nd (qpfl_list T.list (qpfa_cons (qpf_var 0) qpfa_nil)))
  (qz_cons (qpsf_for PassesOwn.never rfl (qpf_var 1) (qpgf_tup (n:=2) rfl (qpgfs_cons (qpgf_name 3 nd) (qpgfs_cons (qpgf_name 4 nd) qpgfs_nil)))
  (qpsf_one (qpsf_if (qpft_w (qpfw_and (qpft_notN (qpf_var 3) qpf_non) (qpfw_and1 (qpft_notIn (qpf_var 3) (qpf_var 2))))) (qpsf_one (qpsf_append 2 (qpf_var 3))) qpsf_nil)))
  (qz_own 2))),?_⟩
 intro ns ts hl
 have li:listD [.list (ns.map .str)]=some (ns.map .str):=rfl
 suffices hz:∃y3 y4:Option Slot,zSeq _ _ [some (.imm (.list (ns.map .str))),some (.imm (.list (ts.map tmD))),none,none,none]=some [some (.imm (.list (ns.map .str))),some (.imm (.list (ts.map tmD))),some (.own ((nmW ns ts).map .str)),y3,y4]from by
  obtain⟨y3,y4,hz⟩:=hz
  exact runO_ok hz rfl
 rw[zSeq_nx (Γ':=[some (.imm (.list (ns.map .str))),some (.imm (.list (ts.map tmD))),some (.own (ns.map .str)),none,none]) (by
  generalize Dat.list (ts.map tmD)=dts at *
  generalize ns.map Dat.str=dns at *
  dsimp![li])]
 have lp:∀(us:List Tm) (acc:List Str) (x3 x4:Option Slot),acc.length+us.length≤900→∃y3 y4,forL (aTup 2 (aCons (aName 3) (aCons (aName 4) aNil))) (sIf (fAndT (fTest (L3.f2 notND (fVar 3) (fC .none))) (fTest (L3.f2 notInD (fVar 3) (fVar 2)))) (sApp 2 (fVar 3)) sSkip) (us.map tmD) [some (.imm (.list (ns.map .str))),some (.imm (.list (ts.map tmD))),some (.own (acc.map .str)),x3,x4]=some (.nx [some (.imm (.list (ns.map .str))),some (.imm (.list (ts.map tmD))),some (.own ((nmW acc us).map .str)),y3,y4]):=by
  intro us
  induction us with
  |nil=>exact fun acc x3 x4 _=>⟨x3,x4,rfl⟩
  |cons t us ih=>
   intro acc x3 x4 ha
   rw[List.length_cons]at ha
   have h1:=nmS_len acc t
   obtain⟨y3,y4,e⟩:=ih (nmS acc t) (some (.imm (nmD t.1))) (some (.imm (frD t.2))) (by omega)
   refine⟨y3,y4,?_⟩
   show forL _ _ (tmD t::us.map tmD) _=_
   have zl:(acc.map Dat.str).length<sizeLine:=by rw[List.length_map];exact small1000 (by omega)
   have step:(sIf (fAndT (fTest (L3.f2 notND (fVar 3) (fC .none))) (fTest (L3.f2 notInD (fVar 3) (fVar 2)))) (sApp 2 (fVar 3)) sSkip) [some (.imm (.list (ns.map .str))),some (.imm (.list (ts.map tmD))),some (.own (acc.map .str)),some (.imm (nmD t.1)),some (.imm (frD t.2))]=some (.nx [some (.imm (.list (ns.map .str))),some (.imm (.list (ts.map tmD))),some (.own ((nmS acc t).map .str)),some (.imm (nmD t.1)),some (.imm (frD t.2))]):=by
    obtain⟨o,q⟩:=t
    generalize frD (o,q).2=dq
    generalize Dat.list (ns.map .str)=dns
    generalize Dat.list (ts.map tmD)=dts
    cases o with
    |none=>
     have n1:notND .none .none=some (.bool false):=rfl
     show _=some (Fl.nx [some (.imm (dns)),some (.imm (dts)),some (.own (acc.map .str)),some (.imm (.none)),some (.imm (dq))])
     show sIf _ _ _ [some (.imm (dns)),some (.imm (dts)),some (.own (acc.map .str)),some (.imm (.none)),some (.imm (dq))]=_
     generalize acc.map Dat.str=da at *
     dsimp![n1]
    |some x=>
     have n1:notND (.str x) .none=some (.bool true):=rfl
     have n2:=notin_str x acc
     show sIf _ _ _ [some (.imm (dns)),some (.imm (dts)),some (.own (acc.map .str)),some (.imm (.str x)),some (.imm (dq))]=some (Fl.nx [some (.imm (dns)),some (.imm (dts)),some (.own ((nmS acc (some x,q)).map .str)),some (.imm (.str x)),some (.imm (dq))])
     unfold nmS
     dsimp only
     cases hc:acc.contains x with
     |true=>
      rw[hc]at n2
      rw[if_pos rfl]
      generalize acc.map Dat.str=da at *
      generalize Dat.str x=dx at *
      dsimp![n1,n2]
     |false=>
      rw[hc]at n2
      rw[if_neg Bool.false_ne_true,List.map_append,List.map_cons,List.map_nil]
      generalize acc.map Dat.str=da at *
      generalize Dat.str x=dx at *
      dsimp![n1,n2,zl]
   refine Eq.trans ?_ e
   show(forL _ _ (tmD t::us.map tmD) _)=_
   show((some [(3,nmD t.1),(4,frD t.2)]).bind _)=_
   rw[Option.bind_some]
   show((sIf _ _ _ [some (.imm (.list (ns.map .str))),some (.imm (.list (ts.map tmD))),some (.own (acc.map .str)),some (.imm (nmD t.1)),some (.imm (frD t.2))]).bind _)=_
   rw[step]
   rfl
 obtain⟨y3,y4,e⟩:=lp ts ns none none (by omega)
 refine⟨y3,y4,(zSeq_nx (Γ':=[some (.imm (.list (ns.map .str))),some (.imm (.list (ts.map tmD))),some (.own ((nmW ns ts).map .str)),y3,y4]) ?_).trans ?_⟩
 ·exact e
 ·rfl
def unr (nm:Option Str):(Int×Int)→List Tm→Int×Int
 |acc,[]=>acc
 |acc,t::ts=>if t.1=nm then unr nm (acc.1*t.2.2+t.2.1*acc.2,acc.2*t.2.2) ts else unr nm acc ts
theorem rd_add (N D r s:Int) (hD:0<D) (hs:0<s):rd2 ((rd2 N D).1*s+r*(rd2 N D).2) ((rd2 N D).2*s)=rd2 (N*s+r*D) (D*s):=by
 have hp:0<Fr.den N D:=Fr.den_pos (by omega)
 have hc:=Fr.cross N D
 have h1:(Fr.den N D)*s≠0:=Int.ne_of_gt (Int.mul_pos hp hs)
 have h2:D*s≠0:=Int.ne_of_gt (Int.mul_pos hD hs)
 have e:(Fr.num N D*s+r*Fr.den N D)*(D*s)=(N*s+r*D)*(Fr.den N D*s):=by
  have x1:Fr.num N D*s*(D*s)=Fr.num N D*D*(s*s):=by
   rw[Int.mul_assoc,Int.mul_assoc,Int.mul_left_comm s D s]
  have x2:N*s*(Fr.den N D*s)=Fr.den N D*N*(s*s):=by
   rw[Int.mul_assoc N,Int.mul_left_comm s,← Int.mul_assoc,Int.mul_comm N]
  have x3:r*Fr.den N D*(D*s)=r*D*(Fr.den N D*s):=by
   rw[Int.mul_assoc,Int.mul_assoc,Int.mul_left_comm (Fr.den N D)]
  rw[Int.add_mul,Int.add_mul,x1,x2,x3,hc]
 obtain⟨a,b⟩:=Fr.congr h1 h2 e
 exact Prod.ext a b
abbrev unF (nm:Option Str) (ts:List Tm):Int×Int:=rd2 (unr nm (0,1) ts).1 (unr nm (0,1) ts).2
theorem unr_sz (nm:Option Str):∀(ts:List Tm) (acc:Int×Int) (k:Nat),(∀t∈ts,Pd t.2)→0<acc.2→acc.2.natAbs≤10^(6*k)→0<(unr nm acc ts).2∧(unr nm acc ts).2.natAbs≤10^(6*(k+ts.length))
 |[],acc,k,_,h0,h1=>⟨h0,h1⟩
 |t::ts,acc,k,hp,h0,h1=>by
  have ht:=hp t List.mem_cons_self
  have hp':=fun u hu=>hp u (List.mem_cons_of_mem t hu)
  have ee:k+(t::ts).length=(k+1)+ts.length:=by rw[List.length_cons];omega
  rw[ee]
  show 0<(if t.1=nm then unr nm (acc.1*t.2.2+t.2.1*acc.2,acc.2*t.2.2) ts else unr nm acc ts).2∧(if t.1=nm then unr nm (acc.1*t.2.2+t.2.1*acc.2,acc.2*t.2.2) ts else unr nm acc ts).2.natAbs≤_
  split
  ·refine unr_sz nm ts _ (k+1) hp' (Int.mul_pos h0 ht.pos) ?_
   show(acc.2*t.2.2).natAbs≤10^(6*(k+1))
   rw[Int.natAbs_mul,show 6*(k+1)=6*k+6 by omega,Nat.pow_add]
   exact Nat.mul_le_mul h1 (Nat.le_of_lt (Nat.lt_of_lt_of_le ht.ld (by decide)))
  ·obtain⟨a,b⟩:=unr_sz nm ts acc (k+1) hp' h0 (Nat.le_trans h1 (Nat.pow_le_pow_right (by decide) (by omega)))
   exact⟨a,b⟩
theorem rd_lg {N D:Int} (h0:0<D) (h1:D.natAbs<10^590):Lg (rd2 N D):=⟨Fr.den_pos (by omega),Nat.lt_of_le_of_lt (Fr.abs_le_den (by omega)) h1⟩
theorem lt600:(10:Nat)^590<10^600:=Nat.pow_lt_pow_right (by decide) (by decide)
theorem pw_lt {k:Nat} {n:Nat} (h:n≤10^(6*k)) (hk:k≤98):n<10^590:=Nat.lt_of_le_of_lt h (Nat.pow_lt_pow_right (by decide) (by omega))
theorem eqX_nm (a b:Option Str) (ha:∀x,a=some x→PyData.strOk x=true) (hb:∀x,b=some x→PyData.strOk x=true):eqXD (nmD a) (nmD b)=some (.bool (decide (a=b))):=by
 have h1:kqdOk 9 (nmD a)=true:=by
  cases a with
  |none=>rfl
  |some x=>exact ha x rfl
 have h2:kqdOk 9 (nmD b)=true:=by
  cases b with
  |none=>rfl
  |some x=>exact hb x rfl
 unfold eqXD
 rw[eqX_kqd h1 h2]
 by_cases h:a=b
 ·rw[decD_t (by rw[h]),decide_eq_true h];rfl
 ·rw[decD_f (fun z=>h (by
   cases a with
   |none=>cases b with
    |none=>rfl
    |some y=>cases z
   |some x=>cases b with
    |none=>cases z
    |some y=>injection z with z;rw[z])),decide_eq_false h];rfl
abbrev TmOk (t:Tm):Prop:=∀x,t.1=some x→PyData.strOk x=true
abbrev PoS (F:List Dat→Option Dat):Prop:=∀(nm:Option Str) (ts:List Tm),(∀x,nm=some x→PyData.strOk x=true)→(∀t∈ts,TmOk t)→(∀t∈ts,Pd t.2)→ts.length≤98→F [nmD nm,.list (ts.map tmD)]=some (frD (unF nm ts))
theorem d_partof (T:TX mg) (R:RX P w K mg) {Fp:List Dat→Option Dat} (Dplus:Dn P w K mg base 3 "plus" ["a","b"] 2 Fp) (hP:PlS Fp) (U:FnAt K mg "part_of" (top 41) ["name","terms"]):
  ∃F,Dn P w K mg base 4 "part_of" ["name","terms"] 2 F∧PoS F:=by
 refine⟨_,qdnA ["name","terms","total","other","number"] U fun nd _ _ _ _ _ _ _ hr=>(qpsf_cons (qpsf_set 2 nd (qpf_globT R.zr.choose_spec.mg R.zr.choose_spec.tup))
  (qpsf_cons (qpsf_for PassesOwn.never rfl (qpf_var 1) (qpgf_tup (n:=2) rfl (qpgfs_cons (qpgf_name 3 nd) (qpgfs_cons (qpgf_name 4 nd) qpgfs_nil)))
  (qpsf_one (qpsf_if (qpft_eqX hr (qpf_var 3) (qpf_var 0)) (qpsf_one (qpsf_set 2 nd (qpf_fn Dplus hr (qpfa_cons (qpf_var 2) (qpfa_cons (qpf_var 4) qpfa_nil))))) qpsf_nil)))
  (qpsf_one (qpsf_ret (qpf_var 2))))),?_⟩
 intro nm ts hnm hts hpd hlen
 refine runF_rt ?_
 show sSeq _ _ [some (.imm (nmD nm)),some (.imm (.list (ts.map tmD))),none,none,none]=_
 rw[sSeq_nx (Γ':=[some (.imm (nmD nm)),some (.imm (.list (ts.map tmD))),some (.imm (frD (rd2 0 1))),none,none]) rfl]
 have lp:∀(us:List Tm) (acc:Int×Int) (k:Nat) (x3 x4:Option Slot),(∀t∈us,TmOk t)→(∀t∈us,Pd t.2)→0<acc.2→acc.2.natAbs≤10^(6*k)→k+us.length≤98→∃y3 y4,forL (aTup 2 (aCons (aName 3) (aCons (aName 4) aNil))) (sIf (fTest (L3.f2 eqXD (fVar 3) (fVar 0))) (sSet 2 (fFn 2 Fp (fCons (fVar 2) (fCons (fVar 4) fNil)))) sSkip) (us.map tmD) [some (.imm (nmD nm)),some (.imm (.list (ts.map tmD))),some (.imm (frD (rd2 acc.1 acc.2))),x3,x4]=some (.nx [some (.imm (nmD nm)),some (.imm (.list (ts.map tmD))),some (.imm (frD (rd2 (unr nm acc us).1 (unr nm acc us).2))),y3,y4]):=by
  intro us
  induction us with
  |nil=>exact fun acc k x3 x4 _ _ _ _ _=>⟨x3,x4,rfl⟩
  |cons t us ih=>
   intro acc k x3 x4 hok hpd h0 h1 hk
   rw[List.length_cons]at hk
   have hok':=fun v hv=>hok v (List.mem_cons_of_mem t hv)
   have hpd':=fun v hv=>hpd v (List.mem_cons_of_mem t hv)
   have q:=eqX_nm t.1 nm (hok t List.mem_cons_self) hnm
   have ht:=hpd t List.mem_cons_self
   by_cases h:t.1=nm
   ·have hb:(acc.2*t.2.2).natAbs≤10^(6*(k+1)):=by
     rw[Int.natAbs_mul,show 6*(k+1)=6*k+6 by omega,Nat.pow_add]
     exact Nat.mul_le_mul h1 (Nat.le_of_lt (Nat.lt_of_lt_of_le ht.ld (by decide)))
    obtain⟨y3,y4,e⟩:=ih (acc.1*t.2.2+t.2.1*acc.2,acc.2*t.2.2) (k+1) (some (.imm (nmD t.1))) (some (.imm (frD t.2))) hok' hpd' (Int.mul_pos h0 ht.pos) hb (by omega)
    refine⟨y3,y4,?_⟩
    have ef:unr nm acc (t::us)=unr nm (acc.1*t.2.2+t.2.1*acc.2,acc.2*t.2.2) us:=if_pos h
    rw[ef]
    refine Eq.trans ?_ e
    show((some [(3,nmD t.1),(4,frD t.2)]).bind _)=_
    rw[Option.bind_some]
    have ep:=hP (rd2 acc.1 acc.2) t.2 (rd_lg h0 (pw_lt h1 (by omega))) (sm8 ht)
    rw[rd_add _ _ _ _ h0 ht.pos]at ep
    have step:(sIf (fTest (L3.f2 eqXD (fVar 3) (fVar 0))) (sSet 2 (fFn 2 Fp (fCons (fVar 2) (fCons (fVar 4) fNil)))) sSkip) [some (.imm (nmD nm)),some (.imm (.list (ts.map tmD))),some (.imm (frD (rd2 acc.1 acc.2))),some (.imm (nmD t.1)),some (.imm (frD t.2))]=some (.nx [some (.imm (nmD nm)),some (.imm (.list (ts.map tmD))),some (.imm (frD (rd2 (acc.1*t.2.2+t.2.1*acc.2) (acc.2*t.2.2)))),some (.imm (nmD t.1)),some (.imm (frD t.2))]):=by
     rw[decide_eq_true h]at q
     generalize frD (rd2 (acc.1*t.2.2+t.2.1*acc.2) (acc.2*t.2.2))=d2 at *
     generalize frD (rd2 acc.1 acc.2)=d1 at *
     generalize frD t.2=dt at *
     generalize nmD t.1=dn at *
     generalize nmD nm=dm at *
     generalize Dat.list (ts.map tmD)=dts at *
     dsimp![q,ep]
    show(sIf (fTest (L3.f2 eqXD (fVar 3) (fVar 0))) (sSet 2 (fFn 2 Fp (fCons (fVar 2) (fCons (fVar 4) fNil)))) sSkip [some (.imm (nmD nm)),some (.imm (.list (ts.map tmD))),some (.imm (frD (rd2 acc.1 acc.2))),some (.imm (nmD t.1)),some (.imm (frD t.2))]).bind _=_
    rw[step];rfl
   ·obtain⟨y3,y4,e⟩:=ih acc (k+1) (some (.imm (nmD t.1))) (some (.imm (frD t.2))) hok' hpd' h0 (Nat.le_trans h1 (Nat.pow_le_pow_right (by decide) (by omega))) (by omega)
    refine⟨y3,y4,?_⟩
    have ef:unr nm acc (t::us)=unr nm acc us:=if_neg h
    rw[ef]
    refine Eq.trans ?_ e
    show((some [(3,nmD t.1),(4,frD t.2)]).bind _)=_
    rw[Option.bind_some]
    have step:(sIf (fTest (L3.f2 eqXD (fVar 3) (fVar 0))) (sSet 2 (fFn 2 Fp (fCons (fVar 2) (fCons (fVar 4) fNil)))) sSkip) [some (.imm (nmD nm)),some (.imm (.list (ts.map tmD))),some (.imm (frD (rd2 acc.1 acc.2))),some (.imm (nmD t.1)),some (.imm (frD t.2))]=some (.nx [some (.imm (nmD nm)),some (.imm (.list (ts.map tmD))),some (.imm (frD (rd2 acc.1 acc.2))),some (.imm (nmD t.1)),some (.imm (frD t.2))]):=by
     rw[decide_eq_false h]at q
     generalize frD (rd2 acc.1 acc.2)=d1 at *
     generalize frD t.2=dt at *
     generalize nmD t.1=dn at *
     generalize nmD nm=dm at *
     generalize Dat.list (ts.map tmD)=dts at *
     dsimp![q]
    show(sIf (fTest (L3.f2 eqXD (fVar 3) (fVar 0))) (sSet 2 (fFn 2 Fp (fCons (fVar 2) (fCons (fVar 4) fNil)))) sSkip [some (.imm (nmD nm)),some (.imm (.list (ts.map tmD))),some (.imm (frD (rd2 acc.1 acc.2))),some (.imm (nmD t.1)),some (.imm (frD t.2))]).bind _=_
    rw[step];rfl
 obtain⟨y3,y4,e⟩:=lp ts (0,1) 0 none none hts hpd (by decide) (by decide) (by omega)
 refine(sSeq_nx (Γ':=[some (.imm (nmD nm)),some (.imm (.list (ts.map tmD))),some (.imm (frD (unF nm ts))),y3,y4]) ?_).trans ?_
 ·exact e
 ·exact sRet_eq rfl
end
end
section
noncomputable section
variable {P:Program} {w:World} {K:Fg} {mg:Str→Option Value} {base:Heap} {f:Addr} {fd:FuncData}
theorem forL_nx {gt:Dat→Option Asg} {gb:Gam→Option Fl} {d:Dat} {ds:List Dat} {Γ Γ':Gam} {as:Asg} (h1:gt d=some as) (h2:gb (setG Γ as)=some (.nx Γ')):forL gt gb (d::ds) Γ=forL gt gb ds Γ':=by
 show(gt d).bind _=_
 rw[h1]
 show(gb (setG Γ as)).bind _=_
 rw[h2];rfl
theorem sFor_items {gt:Dat→Option Asg} {gb:Gam→Option Fl} {f:Rho→Option Dat} {Γ:Gam} {d:Dat} {ds:List Dat} (hf:f (immV Γ)=some d) (hi:itemsD d=some ds):sFor gt gb f Γ=forL gt gb ds Γ:=by
 unfold sFor
 rw[hf]
 show(itemsD d).bind _=_
 rw[hi];rfl
abbrev Dr:=Str×Str×List Tm×List Nat
abbrev inD' (ns:List Nat):List Dat:=ns.map fun n:Nat=>Dat.int (n:Int)
abbrev drD (d:Dr):Dat:=.tuple [.str d.1,.str d.2.1,.list (d.2.2.1.map tmD),.list (inD' d.2.2.2)]
abbrev KdR (a:Str):Prop:=a=sG∨a=sS
theorem dr0 (d:Dr):ixD (drD d) (.int 0)=some (.str d.1):=rfl
theorem dr1 (d:Dr):ixD (drD d) (.int 1)=some (.str d.2.1):=rfl
theorem dr2 (d:Dr):ixD (drD d) (.int 2)=some (.list (d.2.2.1.map tmD)):=rfl
theorem dr3 (d:Dr):ixD (drD d) (.int 3)=some (.list (inD' d.2.2.2)):=rfl
def mostK (a:Str):Nat:=if a=sG then 8 else 12
abbrev CrS (F:List Dat→Option Dat):Prop:=∀(d:Dr) (ab:List Dr) (ns:List Str),KdR d.1→ab.length≤100→(ab.filter fun e=>decide (e.1=d.1)).length<mostK d.1→ns.length+d.2.2.1.length≤900→(nmW ns d.2.2.1).length≤3→F [drD d,.list (ab.map drD),.list (ns.map .str)]=some .none
theorem most_k {a:Str} (h:KdR a):getK mkv (.str a)=some (.int (mostK a:Int)):=by
 rcases h with e|e<;>subst e<;>rfl
theorem runF_nx {N:List Str} {g:Gam→Option Fl} {ds:List Dat} {Γ:Gam} (h:g (startG N ds)=some (.nx Γ)):runF N g ds=some .none:=by unfold runF;rw[h]
theorem d_croom (T:TX mg) (R:RX P w K mg) {Fn:List Dat→Option Dat} (Dnames_with:Dn P w K mg base 1 "names_with" ["names","terms"] 2 Fn) (hN:NwS Fn) (U:FnAt K mg "check_room" (top 38) ["draft","above","names"]):
  ∃F,Dn P w K mg base 2 "check_room" ["draft","above","names"] 3 F∧CrS F:=by
 refine⟨_,qdnA ["draft","above","names","word"] U fun nd _ _ _ _ _ _ _ hr=>(qpsf_cons (qpsf_set 3 nd (qpf_ix (qpf_var 0) qpf_int))
  (qpsf_cons (qpsf_if (qpft_eq hr (qpf_len T.len (qpfa_cons (qpf_of_l (qpfl_comp rfl (blk_cap (tn:=["other"]) (fv:=["word"]) (js:=[3]) rfl (by decide +kernel) (by decide +kernel) rfl (by decide +kernel) (by decide +kernel) rfl
   (fun x hx=>by((have hx2:x="word":=(by simpa using hx));(rcases hx2 with rfl<;>exact⟨_,rfl⟩)))
   (fun p hp=>by((have hp2:p=(("word" : Str),(3:Nat)):=(by simpa using hp));(rcases hp2 with rfl<;>exact⟨rfl,.inr (.inl rfl),.inl rfl,fun z=>by cases z⟩)))) (qpf_var 1) (fun _ _ _ _=>(qpgf_name 0 (show(["other","word"]:List Str).Nodup by decide +kernel))) (fun _ _ _ _=>(qptsf_one (qpft_eq hr (qpf_ix (qpf_var 0) qpf_int) (qpf_var 1)))) (fun _ _ _ _=>(qpf_var 0)) (tg_name rfl))) qpfa_nil)) (qpf_getK R.mo (qpf_var 3))) (qpsf_one qpsf_never) qpsf_nil)
  (qpsf_one (qpsf_if (qpft_gt (qpf_len T.len (qpfa_cons (qpf_fn Dnames_with hr (qpfa_cons (qpf_var 2) (qpfa_cons (qpf_ix (qpf_var 0) qpf_int) qpfa_nil (hs:=star_sub)))) qpfa_nil (hs:=star_call))) (qpf_globI R.mn)) (qpsf_one qpsf_never) qpsf_nil)))),?_⟩
 intro d ab ns hk hab hcnt hsz hnm
 have em:=most_k hk
 have e0:=dr0 d
 have e2:=dr2 d
 have eN:=hN ns d.2.2.1 hsz
 have ec:compL (aName 0) (fTest (L3.f2 eqD (L3.f2 ixD (fVar 0) (fC (.int 0))) (fVar 1))) (fVar 0) [none,some (.str d.1)] (ab.map drD)=some ((ab.filter fun e=>decide (e.1=d.1)).map drD):=
  compL_pick drD drD (fun e=>decide (e.1=d.1)) ab fun e he=>⟨[(0,drD e)],rfl,by
   have h0:=dr0 e
   have q:=eqD_strD e.1 d.1
   generalize decide (e.1=d.1)=b at *
   generalize drD e=de at *
   generalize Dat.str e.1=d1 at *
   generalize Dat.str d.1=d2 at *
   dsimp![h0,q],fun _=>rfl⟩
 have hz:(ab.map drD).length<sizeLine:=by rw[List.length_map];exact small1000 (by omega)
 have ef:fL (fComp [none,some 3] (aName 0) (fTest (L3.f2 eqD (L3.f2 ixD (fVar 0) (fC (.int 0))) (fVar 1))) (fVar 0) (fVar 1)) [some (drD d),some (.list (ab.map drD)),some (.list (ns.map .str)),some (.str d.1)]=some (.list ((ab.filter fun e=>decide (e.1=d.1)).map drD)):=fcomp_ok (d:=.list (ab.map drD)) (ds:=ab.map drD) rfl rfl hz ec
 have l1:lenD [.list ((ab.filter fun e=>decide (e.1=d.1)).map drD)]=some (.int ((ab.filter fun e=>decide (e.1=d.1)).length:Int)):=by
  show some (Dat.int _)=_
  rw[List.length_map]
 have q1:=eqD_int ((ab.filter fun e=>decide (e.1=d.1)).length:Int) (mostK d.1:Int)
 rw[decide_eq_false (by omega)]at q1
 have l2:lenD [.list ((nmW ns d.2.2.1).map .str)]=some (.int ((nmW ns d.2.2.1).length:Int)):=by
  show some (Dat.int _)=_
  rw[List.length_map]
 have g1:=gtD_int ((nmW ns d.2.2.1).length:Int) 3
 rw[decide_eq_false (by omega)]at g1
 clear ec hz
 generalize (mostK d.1:Int)=m at *
 generalize ((ab.filter fun e=>decide (e.1=d.1)).length:Int)=n1 at *
 generalize ((nmW ns d.2.2.1).length:Int)=n2 at *
 generalize Dat.list ((ab.filter fun e=>decide (e.1=d.1)).map drD)=dfl at *
 generalize Dat.list ((nmW ns d.2.2.1).map .str)=dnw at *
 generalize Dat.list (d.2.2.1.map tmD)=dts at *
 generalize drD d=dd at *
 generalize Dat.str d.1=da at *
 generalize Dat.list (ab.map drD)=dab at *
 generalize Dat.list (ns.map .str)=dns at *
 refine runF_nx (Γ:=[some (.imm (dd)),some (.imm (dab)),some (.imm (dns)),some (.imm (da))]) ?_
 show sSeq _ _ [some (.imm (dd)),some (.imm (dab)),some (.imm (dns)),none]=_
 rw[sSeq_nx (Γ':=[some (.imm (dd)),some (.imm (dab)),some (.imm (dns)),some (.imm (da))]) (by dsimp![e0])]
 have et:fTest (L3.f2 eqD (fCall lenD (fCons (fL (fComp [none,some 3] (aName 0) (fTest (L3.f2 eqD (L3.f2 ixD (fVar 0) (fC (.int 0))) (fVar 1))) (fVar 0) (fVar 1))) fNil)) (L3.f1 (getK mkv) (fVar 3))) (allV [some (.imm (dd)),some (.imm (dab)),some (.imm (dns)),some (.imm (da))])=some false:=by
  generalize fL (fComp [none,some 3] (aName 0) (fTest (L3.f2 eqD (L3.f2 ixD (fVar 0) (fC (.int 0))) (fVar 1))) (fVar 0) (fVar 1))=fx at *
  dsimp![ef,l1,em,q1]
 refine(sSeq_nx (Γ':=[some (.imm (dd)),some (.imm (dab)),some (.imm (dns)),some (.imm (da))]) ((sIf_f et).trans rfl)).trans ?_
 dsimp![e2,eN,l2,g1]
structure NmO (ns:List Nat) (n:Nat):Prop where
 nd:ns.Nodup
 lo:∀m∈ns,1≤m
 hi:∀m∈ns,m≤n
theorem count_in {ns:List Nat} {m:Nat} (h:ns.Nodup):∃c:Int,c≤1∧countD (.list (inD' ns)) [.int (m:Int)]=some (.int c):=by
 refine⟨((inD' ns).countP fun z=>eqF z (.int (m:Int)):Nat),?_,if_pos ⟨rfl,?_⟩⟩
 ·rw[List.countP_map]
  have:ns.countP ((fun z=>eqF z (.int (m:Int))) ∘ fun n:Nat=>Dat.int (n:Int))=ns.count m:=by
   show _=ns.countP (· == m)
   refine List.countP_congr fun a _=>?_
   show(decide ((a:Int)=(m:Int)))=true↔_
   simp
   omega
  rw[this]
  have:=(List.nodup_iff_count.mp h) m
  omega
 ·rw[List.all_map,List.all_eq_true]
  exact fun _ _=>rfl
abbrev CnS (F:List Dat→Option Dat):Prop:=∀(ns:List Nat) (ab:List Dr),NmO ns ab.length→ns.length≤100→F [.list (inD' ns),.list (ab.map drD)]=some .none
theorem d_cnum (T:TX mg) (U:FnAt K mg "check_numbers" (top 39) ["numbers","above"]):
  ∃F,Dn P w K mg base 1 "check_numbers" ["numbers","above"] 2 F∧CnS F:=by
 refine⟨_,qdnA ["numbers","above","number"] U fun nd _ _ _ _ _ _ _ hr=>(qpsf_one (qpsf_for PassesOwn.never rfl (qpf_var 0) (qpgf_name 2 nd)
  (qpsf_cons (qpsf_if (qpft_not (qpft_leLe qpf_int (qpf_var 2) (qpf_len T.len (qpfa_cons (qpf_var 1) qpfa_nil)))) (qpsf_one qpsf_never) qpsf_nil)
  (qpsf_one (qpsf_if (qpft_gt (qpf_count (qpf_var 0) (qpfa_cons (qpf_var 2) qpfa_nil)) qpf_int) (qpsf_one qpsf_never) qpsf_nil))))),?_⟩
 intro ns ab h hl
 have l1:lenD [.list (ab.map drD)]=some (.int (ab.length:Int)):=by
  show some (Dat.int _)=_
  rw[List.length_map]
 suffices hz:∃Γ',sFor _ _ _ [some (.imm (.list (inD' ns))),some (.imm (.list (ab.map drD))),none]=some (.nx Γ')∧True from by
  obtain⟨Γ',e,_⟩:=hz
  exact runF_nx e
 rw[sFor_items (d:=.list (inD' ns)) (ds:=inD' ns) rfl rfl]
 obtain⟨Γ',e,_⟩:=forL_inv (enc:=fun n:Nat=>Dat.int (n:Int)) (gt:=aName 2) (gb:=sSeq (sIf (fNotT (fTest (f3c leD leD (fC (.int 1)) (fVar 2) (fCall lenD (fCons (fVar 1) fNil))))) sNever sSkip) (sIf (fTest (L3.f2 gtD (fMeth countD (fVar 0) (fCons (fVar 2) fNil)) (fC (.int 1)))) sNever sSkip)) (fun l Γ=>(∀m∈l,m∈ns)∧∃x2,Γ=[some (.imm (.list (inD' ns))),some (.imm (.list (ab.map drD))),x2]) (by
  rintro m l Γ ⟨hm,x2,rfl⟩
  refine⟨[(2,.int (m:Int))],rfl,[some (.imm (.list (inD' ns))),some (.imm (.list (ab.map drD))),some (.imm (.int (m:Int)))],?_,fun x hx=>hm x (List.mem_cons_of_mem _ hx),_,rfl⟩
  have hmm:=hm m List.mem_cons_self
  have h1:=h.lo m hmm
  have h2:=h.hi m hmm
  have a1:=leD_int 1 (m:Int)
  have a2:=leD_int (m:Int) (ab.length:Int)
  rw[decide_eq_true (by omega)]at a1 a2
  obtain⟨c,hc,ec⟩:=count_in (m:=m) h.nd
  have g1:=gtD_int c 1
  rw[decide_eq_false (by omega)]at g1
  show sSeq _ _ [some (.imm (.list (inD' ns))),some (.imm (.list (ab.map drD))),some (.imm (.int (m:Int)))]=_
  generalize Dat.list (ab.map drD)=dab at *
  generalize (ab.length:Int)=n at *
  generalize Dat.list (inD' ns)=dns at *
  generalize (m:Int)=mm at *
  rw[sSeq_nx (Γ':=[some (.imm (dns)),some (.imm (dab)),some (.imm (.int mm))]) (by dsimp![f3c,l1,a1,a2])]
  dsimp![ec,g1]) ns [some (.imm (.list (inD' ns))),some (.imm (.list (ab.map drD))),none] ⟨fun m hm=>hm,none,rfl⟩
 exact⟨Γ',e,trivial⟩
structure ChI (d:Dr) (ab:List Dr) (ns:List Str):Prop where
 k:KdR d.1
 ka:∀e∈ab,KdR e.1
 l:ab.length≤100
 c:(ab.filter fun e=>decide (e.1=d.1)).length<mostK d.1
 z:ns.length+d.2.2.1.length≤900
 n:(nmW ns d.2.2.1).length≤3
 o:NmO d.2.2.2 ab.length
 m:d.2.2.2.length≤100
abbrev akD (n:Str):Dat:=.tuple [.str sA,.str n]
structure ChS (F:List Dat→Option Dat):Prop where
 ak:∀(n:Str) (ab:List Dr) (ns:List Str),(∀e∈ab,KdR e.1)→n∈ns→F [akD n,.list (ab.map drD),.list (ns.map .str)]=some .none
 ln:∀(d:Dr) (ab:List Dr) (ns:List Str),ChI d ab ns→F [drD d,.list (ab.map drD),.list (ns.map .str)]=some .none
theorem kd_ask {a:Str} (h:KdR a):eqD (.str a) (.str "ask")=some (.bool false)∧neD (.str a) (.str "ask")=some (.bool true):=by
 rcases h with e|e<;>subst e<;>exact⟨rfl,rfl⟩
theorem above_ok {ab:List Dr} (ka:∀e∈ab,KdR e.1) (dd dns:Dat):sIf (fAndT (fTru (fVar 1)) (fTest (L3.f2 eqD (L3.f2 ixD (L3.f2 ixD (fVar 1) (L3.f1 negD (fC (.int 1)))) (fC (.int 0))) (fC (.str "ask"))))) sNever sSkip [some (.imm (dd)),some (.imm (.list (ab.map drD))),some (.imm (dns))]=some (.nx [some (.imm (dd)),some (.imm (.list (ab.map drD))),some (.imm (dns))]):=by
 cases hb:ab with
 |nil=>dsimp![]
 |cons e es=>
  obtain⟨n,hn⟩:∃n,(e::es).length=n+1:=⟨es.length,rfl⟩
  have hg:(e::es)[n]?=some (e::es)[n]:=List.getElem?_eq_getElem (by omega)
  have el:ixD (.list ((e::es).map drD)) (.int (-1))=some (drD (e::es)[n]):=by
   show atI ((e::es).map drD) (-1)=_
   unfold atI ixN
   rw[if_neg (by decide),List.length_map,if_pos (by omega),Option.bind_some]
   rw[show((-1:Int)+(((e::es).length:Nat):Int)).toNat=n by omega,List.getElem?_map,hg];rfl
  obtain⟨q2,_⟩:=kd_ask (ka (e::es)[n] (by rw[hb];exact List.getElem_mem _))
  have e4:=dr0 (e::es)[n]
  generalize drD (e::es)[n]=dl at *
  generalize Dat.str (e::es)[n].1=da at *
  rw[List.map_cons]at el ⊢
  generalize drD e=de at *
  generalize es.map drD=des at *
  dsimp![el,e4,q2]
theorem d_check (T:TX mg) {Fr Fn:List Dat→Option Dat} (Dcheck_room:Dn P w K mg base 2 "check_room" ["draft","above","names"] 3 Fr) (hR:CrS Fr) (Dcheck_numbers:Dn P w K mg base 2 "check_numbers" ["numbers","above"] 2 Fn) (hN:CnS Fn) (U:FnAt K mg "check" (top 40) ["draft","above","names"]):
  ∃F,Dn P w K mg base 3 "check" ["draft","above","names"] 3 F∧ChS F:=by
 refine⟨_,qdnA ["draft","above","names"] U fun nd _ _ _ _ _ _ _ hr=>(qpsf_cons (qpsf_if (qpft_w (qpfw_and (qpft_truth (qpf_var 1)) (qpfw_and1 (qpft_eq hr (qpf_ix (qpf_ix (qpf_var 1) (qpf_neg qpf_int)) qpf_int) qpf_str)))) (qpsf_one qpsf_never) qpsf_nil)
  (qpsf_one (qpsf_if (qpft_ne hr (qpf_ix (qpf_var 0) qpf_int) qpf_str) (qpsf_cons (qpsf_expr (qpf_fn Dcheck_room hr (qpfa_cons (qpf_var 0) (qpfa_cons (qpf_var 1) (qpfa_cons (qpf_var 2) qpfa_nil)))))
  (qpsf_one (qpsf_expr (qpf_fn Dcheck_numbers hr (qpfa_cons (qpf_ix (qpf_var 0) qpf_int) (qpfa_cons (qpf_var 1) qpfa_nil) (hs:=star_sub)))))) (qpsf_one (qpsf_if (qpft_notIn (qpf_ix (qpf_var 0) qpf_int) (qpf_var 2)) (qpsf_one qpsf_never) qpsf_nil))))),?_⟩
 refine⟨fun n ab ns ka hn=>?_,fun d ab ns h=>?_⟩
 ·have e0:ixD (akD n) (.int 0)=some (.str sA):=rfl
  have e1:ixD (akD n) (.int 1)=some (.str n):=rfl
  have q1:neD (.str sA) (.str "ask")=some (.bool false):=rfl
  have q2:=notin_str n ns
  rw[show ns.contains n=true from by simpa using hn]at q2
  refine runF_nx (Γ:=[some (.imm (akD n)),some (.imm (.list (ab.map drD))),some (.imm (.list (ns.map .str)))]) ?_
  show sSeq _ _ [some (.imm (akD n)),some (.imm (.list (ab.map drD))),some (.imm (.list (ns.map .str)))]=_
  rw[sSeq_nx (above_ok ka _ _)]
  generalize akD n=dd at *
  generalize Dat.str sA=da at *
  generalize Dat.str n=dn at *
  generalize Dat.list (ab.map drD)=dab at *
  generalize Dat.list (ns.map .str)=dns at *
  dsimp![e0,e1,q1,q2]
 ·have e0:=dr0 d
  have e3:=dr3 d
  obtain⟨_,q1⟩:=kd_ask h.k
  have eR:=hR d ab ns h.k h.l h.c h.z h.n
  have eN:=hN d.2.2.2 ab h.o h.m
  refine runF_nx (Γ:=[some (.imm (drD d)),some (.imm (.list (ab.map drD))),some (.imm (.list (ns.map .str)))]) ?_
  show sSeq _ _ [some (.imm (drD d)),some (.imm (.list (ab.map drD))),some (.imm (.list (ns.map .str)))]=_
  rw[sSeq_nx (above_ok h.ka _ _)]
  generalize Dat.list (inD' d.2.2.2)=dnu at *
  generalize drD d=dd at *
  generalize Dat.str d.1=da at *
  generalize Dat.list (ab.map drD)=dab at *
  generalize Dat.list (ns.map .str)=dns at *
  dsimp![e0,q1,eR,e3,eN]
end
end
section
noncomputable section
variable {P:Program} {w:World} {K:Fg} {mg:Str→Option Value} {base:Heap} {f:Addr} {fd:FuncData}
theorem tup3 {fa fb fc:Rho→Option Dat} {ρ:Rho} {a b c:Dat} (z:3≤sizeLine) (ha:fa ρ=some a) (hb:fb ρ=some b) (hc:fc ρ=some c):fTup (fCons fa (fCons fb (fCons fc fNil))) ρ=some (.tuple [a,b,c]):=by
 have e:fCons fa (fCons fb (fCons fc fNil)) ρ=some [a,b,c]:=by
  unfold fCons
  rw[ha,hb,hc];rfl
 unfold fTup
 rw[e]
 show(if 3≤sizeLine then some (Dat.tuple [a,b,c])else none)=_
 rw[if_pos z]
abbrev ptsN (ns:List Str) (ts:List Tm):List (Int×Int):=ns.map fun n=>unF (some n) ts
abbrev bnd (ts:List Tm):Int×Int:=ngP (unF none ts)
abbrev rowD (ns:List Str) (d:Dr):Dat:=.tuple [.str d.1,lineD d.2.1 (ptsN ns d.2.2.1) (bnd d.2.2.1),.tuple (d.2.2.2.map fun n:Nat=>Dat.int ((n:Int)-1))]
structure RwI (ns:List Str) (d:Dr):Prop where
 l:ns.length≤100
 m:d.2.2.2.length≤100
 nk:∀n∈ns,PyData.strOk n=true
 tk:∀t∈d.2.2.1,TmOk t
 pd:∀t∈d.2.2.1,Pd t.2
 tl:d.2.2.1.length≤98
theorem un_ok (nm:Option Str) {ts:List Tm} (hp:∀t∈ts,Pd t.2) (hl:ts.length≤98):0<(unF nm ts).2∧Int.gcd (unF nm ts).1 (unF nm ts).2=1∧(unF nm ts).2.natAbs<10^590:=by
 obtain⟨h0,h1⟩:=unr_sz nm ts (0,1) 0 hp (by decide) (by decide)
 have h2:=rd_lg (N:=(unr nm (0,1) ts).1) h0 (pw_lt (k:=0+ts.length) h1 (by omega))
 exact⟨h2.1,Fr.cop (by omega),h2.2⟩
abbrev RoS (F:List Dat→Option Dat):Prop:=∀(ns:List Str) (d:Dr),RwI ns d→F [drD d,.list (ns.map .str)]=some (rowD ns d)
theorem d_rowof (T:TX mg) (R:RX P w K mg) {Fp Fm:List Dat→Option Dat} (Dpart_of:Dn P w K mg base 4 "part_of" ["name","terms"] 2 Fp) (hP:PoS Fp) (Dminus:Dn P w K mg base 4 "minus" ["a","b"] 2 Fm) (hM:MiS Fm) (U:FnAt K mg "row_of" (top 42) ["draft","names"]):
  ∃F,Dn P w K mg base 5 "row_of" ["draft","names"] 2 F∧RoS F:=by
 refine⟨_,qdnA ["draft","names","terms","parts","bound"] U fun nd _ _ _ _ _ _ _ hr=>(qpsf_cons (qpsf_set 2 nd (qpf_ix (qpf_var 0) qpf_int))
  (qpsf_cons (qpsf_set 3 nd (qpf_tuple T.tuple (qpfa_cons (qpf_of_l (qpfl_comp rfl (blk_cap (tn:=["name"]) (fv:=["terms"]) (js:=[2]) rfl (by decide +kernel) (by decide +kernel) rfl (by decide +kernel) (by decide +kernel) rfl
   (fun x hx=>by((have hx2:x="terms":=(by simpa using hx));(rcases hx2 with rfl<;>exact⟨_,rfl⟩)))
   (fun p hp=>by((have hp2:p=(("terms" : Str),(2:Nat)):=(by simpa using hp));(rcases hp2 with rfl<;>exact⟨rfl,.inr (.inl rfl),.inl rfl,fun z=>by cases z⟩)))) (qpf_var 1) (fun _ _ _ _=>(qpgf_name 0 (show(["name","terms"]:List Str).Nodup by decide +kernel))) (fun _ _ _ _=>qptsf_nil) (fun _ _ _ _=>(qpf_fn Dpart_of hr (qpfa_cons (qpf_var 0) (qpfa_cons (qpf_var 1) qpfa_nil)))) (tg_name rfl))) qpfa_nil)))
  (qpsf_cons (qpsf_set 4 nd (qpf_fn Dminus hr (qpfa_cons (qpf_globT R.zr.choose_spec.mg R.zr.choose_spec.tup) (qpfa_cons (qpf_fn Dpart_of hr (qpfa_cons qpf_non (qpfa_cons (qpf_var 2) qpfa_nil))) qpfa_nil (hs:=star_call)))))
  (qpsf_one (qpsf_ret (qpf_tup (k:=0) (qpfa_cons (qpf_ix (qpf_var 0) qpf_int) (qpfa_cons (qpf_tup (k:=0) (qpfa_cons (qpf_ix (qpf_var 0) qpf_int) (qpfa_cons (qpf_var 3) (qpfa_cons (qpf_var 4) qpfa_nil)) (hs:=star_sub))) (qpfa_cons (qpf_tuple T.tuple (qpfa_cons (qpf_of_l (qpfl_comp rfl (blk_plain (N':=["number"])) (qpf_ix (qpf_var 0) qpf_int) (fun _ _ _ _=>(qpgf_name 0 (show(["number"]:List Str).Nodup by decide +kernel))) (fun _ _ _ _=>qptsf_nil) (fun _ _ _ _=>(qpf_sub (qpf_var 0) qpf_int)) (tg_name rfl))) qpfa_nil)) qpfa_nil (hs:=star_call)) (hs:=star_tup)) (hs:=star_sub)))))))),?_⟩
 intro ns d h
 have z3:3≤sizeLine:=sz (by decide)
 have e0:=dr0 d
 have e1:=dr1 d
 have e2:=dr2 d
 have e3:=dr3 d
 have ep0:=hP none d.2.2.1 (fun x hx=>by cases hx) h.tk h.pd h.tl
 have ep0:Fp [.none,.list (d.2.2.1.map tmD)]=some (frD (unF none d.2.2.1)):=ep0
 obtain⟨o1,o2,o3⟩:=un_ok none h.pd h.tl
 have em:=min_r hM o1 o2 o3
 have ec:compL (aName 0) tYesF (fFn 2 Fp (fCons (fVar 0) (fCons (fVar 1) fNil))) [none,some (.list (d.2.2.1.map tmD))] (ns.map Dat.str)=some ((ptsN ns d.2.2.1).map frD):=by
  rw[List.map_map]
  refine compL_all Dat.str (fun n=>frD (unF (some n) d.2.2.1)) ns fun n hn=>⟨[(0,.str n)],rfl,?_⟩
  have e:=hP (some n) d.2.2.1 (fun x hx=>by cases hx;exact h.nk n hn) h.tk h.pd h.tl
  have e:Fp [.str n,.list (d.2.2.1.map tmD)]=some (frD (unF (some n) d.2.2.1)):=e
  generalize frD (unF (some n) d.2.2.1)=df at *
  generalize Dat.list (d.2.2.1.map tmD)=dts at *
  generalize Dat.str n=dn at *
  dsimp![e]
 have hz:(ns.map Dat.str).length<sizeLine:=by rw[List.length_map];exact small1000 (by have:=h.l;omega)
 have ef:fL (fComp [none,some 2] (aName 0) tYesF (fFn 2 Fp (fCons (fVar 0) (fCons (fVar 1) fNil))) (fVar 1)) (immV [some (.imm (drD d)),some (.imm (.list (ns.map .str))),some (.imm (.list (d.2.2.1.map tmD))),none,none])=some (.list ((ptsN ns d.2.2.1).map frD)):=fcomp_ok (d:=.list (ns.map .str)) (ds:=ns.map .str) rfl rfl hz ec
 have ec2:compL (aName 0) tYesF (L3.f2 subD (fVar 0) (fC (.int 1))) [none] (inD' d.2.2.2)=some (d.2.2.2.map fun n:Nat=>Dat.int ((n:Int)-1)):=
  compL_all (fun n:Nat=>Dat.int (n:Int)) (fun n:Nat=>Dat.int ((n:Int)-1)) d.2.2.2 fun n hn=>⟨[(0,.int (n:Int))],rfl,by
   have e:=subD_int (n:Int) 1
   generalize (n:Int)=m at *
   dsimp![e]⟩
 have hz2:(inD' d.2.2.2).length<sizeLine:=by rw[List.length_map];exact small1000 (by have:=h.m;omega)
 refine runF_rt ?_
 show sSeq _ _ [some (.imm (drD d)),some (.imm (.list (ns.map .str))),none,none,none]=_
 rw[sSeq_nx (Γ':=[some (.imm (drD d)),some (.imm (.list (ns.map .str))),some (.imm (.list (d.2.2.1.map tmD))),none,none]) (by
  generalize Dat.list (d.2.2.1.map tmD)=dts at *
  generalize Dat.list (ns.map .str)=dns at *
  generalize drD d=dd at *
  dsimp![e2])]
 refine(sSeq_nx (Γ':=[some (.imm (drD d)),some (.imm (.list (ns.map .str))),some (.imm (.list (d.2.2.1.map tmD))),some (.imm (.tuple ((ptsN ns d.2.2.1).map frD))),none]) (sSet_eq (d:=.tuple ((ptsN ns d.2.2.1).map frD)) ?_)).trans ?_
 ·show fCall tupleD (fCons (fL (fComp [none,some 2] (aName 0) tYesF (fFn 2 Fp (fCons (fVar 0) (fCons (fVar 1) fNil))) (fVar 1))) fNil) _=_
  generalize hfx:fL (fComp [none,some 2] (aName 0) tYesF (fFn 2 Fp (fCons (fVar 0) (fCons (fVar 1) fNil))) (fVar 1))=fx at *
  show(fCons fx fNil (immV [some (.imm (drD d)),some (.imm (.list (ns.map .str))),some (.imm (.list (d.2.2.1.map tmD))),none,none])).bind tupleD=_
  rw[show fCons fx fNil (immV [some (.imm (drD d)),some (.imm (.list (ns.map .str))),some (.imm (.list (d.2.2.1.map tmD))),none,none])=some [.list ((ptsN ns d.2.2.1).map frD)]from by unfold fCons;rw[ef];rfl]
  rfl
 rw[sSeq_nx (Γ':=[some (.imm (drD d)),some (.imm (.list (ns.map .str))),some (.imm (.list (d.2.2.1.map tmD))),some (.imm (.tuple ((ptsN ns d.2.2.1).map frD))),some (.imm (frD (bnd d.2.2.1)))]) (by
  generalize frD (bnd d.2.2.1)=db at *
  generalize frD (unF none d.2.2.1)=df at *
  generalize Dat.tuple ((ptsN ns d.2.2.1).map frD)=dps at *
  generalize Dat.list (d.2.2.1.map tmD)=dts at *
  generalize Dat.list (ns.map .str)=dns at *
  generalize drD d=dd at *
  dsimp![ep0,em])]
 refine sRet_eq ?_
 show fTup (fCons (L3.f2 ixD (fVar 0) (fC (.int 0))) (fCons (fTup (fCons (L3.f2 ixD (fVar 0) (fC (.int 1))) (fCons (fVar 3) (fCons (fVar 4) fNil)))) (fCons (fCall tupleD (fCons (fL (fComp [none] (aName 0) tYesF (L3.f2 subD (fVar 0) (fC (.int 1))) (L3.f2 ixD (fVar 0) (fC (.int 3))))) fNil)) fNil))) (allV [some (.imm (drD d)),some (.imm (.list (ns.map .str))),some (.imm (.list (d.2.2.1.map tmD))),some (.imm (.tuple ((ptsN ns d.2.2.1).map frD))),some (.imm (frD (bnd d.2.2.1)))])=_
 have ef2:fL (fComp [none] (aName 0) tYesF (L3.f2 subD (fVar 0) (fC (.int 1))) (L3.f2 ixD (fVar 0) (fC (.int 3)))) [some (drD d),some (.list (ns.map .str)),some (.list (d.2.2.1.map tmD)),some (.tuple ((ptsN ns d.2.2.1).map frD)),some (frD (bnd d.2.2.1))]=some (.list (d.2.2.2.map fun n:Nat=>Dat.int ((n:Int)-1))):=fcomp_ok (d:=.list (inD' d.2.2.2)) (ds:=inD' d.2.2.2) rfl rfl hz2 ec2
 have tp:tupleD [.list (d.2.2.2.map fun n:Nat=>Dat.int ((n:Int)-1))]=some (.tuple (d.2.2.2.map fun n:Nat=>Dat.int ((n:Int)-1))):=rfl
 generalize hfx:fL (fComp [none] (aName 0) tYesF (L3.f2 subD (fVar 0) (fC (.int 1))) (L3.f2 ixD (fVar 0) (fC (.int 3))))=fx at *
 show _=some (Dat.tuple [.str d.1,.tuple [.str d.2.1,.tuple ((ptsN ns d.2.2.1).map frD),frD (bnd d.2.2.1)],.tuple (d.2.2.2.map fun n:Nat=>Dat.int ((n:Int)-1))])
 generalize (d.2.2.2.map fun n:Nat=>Dat.int ((n:Int)-1))=dnu at *
 generalize frD (bnd d.2.2.1)=db at *
 generalize Dat.tuple ((ptsN ns d.2.2.1).map frD)=dps at *
 generalize Dat.list (d.2.2.1.map tmD)=dts at *
 generalize Dat.list (ns.map .str)=dns at *
 generalize Dat.str d.1=da at *
 generalize Dat.str d.2.1=dk at *
 generalize drD d=dd at *
 dsimp![e0,e1,ef2,tp,z3]
abbrev Rp:=Str×Dr
abbrev nmF (ps:List Rp):List Str:=ps.foldl (fun acc p=>nmW acc p.2.2.2.1) []
theorem nmF_snoc (ps:List Rp) (p:Rp):nmF (ps++[p])=nmW (nmF ps) p.2.2.2.1:=by
 unfold nmF
 rw[List.foldl_append];rfl
abbrev Ak:=Str×Str×Nat
structure RdI (Fr Fc:List Dat→Option Dat) (Fw:List Dat→Option (List Dat)) (Fo:List Dat→Option Dat) (x:Str) (ps:List Rp) (ak:Option Ak):Prop where
 sp:(ps.map fun p=>tl p.1)++(ak.toList.map fun q=>tl q.1)=Tx.spl 10 (tl x)
 xl:x.length≤100000
 ne:ps≠[]
 l:ps.length≤39
 st:∀pre p post,ps=pre++p::post→Fr [.str p.1]=some (drD p.2)∧Fc [drD p.2,.list (pre.map fun q=>drD q.2),.list ((nmF pre).map .str)]=some .none∧KdR p.2.1∧Fw [.list ((nmF pre).map .str),.list (p.2.2.2.1.map tmD)]=some ((nmF (pre++[p])).map .str)
 ro:∀p∈ps,Fo [drD p.2,.list ((nmF ps).map .str)]=some (rowD (nmF ps) p.2)
 ka:∀q,ak=some q→Fr [.str q.1]=some (akD q.2.1)∧Fc [akD q.2.1,.list (ps.map fun q=>drD q.2),.list ((nmF ps).map .str)]=some .none∧(nmF ps).Nodup∧(nmF ps)[q.2.2]?=some q.2.1
abbrev akV (ak:Option Ak):Dat:=match ak with
 |some q=>.int (q.2.2:Int)
 |none=>.none
abbrev RdS (Fr Fc:List Dat→Option Dat) (Fw:List Dat→Option (List Dat)) (Fo:List Dat→Option Dat) (F:List Dat→Option (List Dat×List Dat×Dat)):Prop:=∀(x:Str) (ps:List Rp) (ak:Option Ak),RdI Fr Fc Fw Fo x ps ak→F [.str x]=some ((nmF ps).map .str,ps.map fun p=>rowD (nmF ps) p.2,akV ak)
theorem index_str:∀{ns:List Str} {j:Nat} {n:Str},ns.Nodup→ns[j]?=some n→indexD (.list (ns.map .str)) [.str n]=some (.int (j:Int)):=by
 intro ns j n hnd h
 have key:∀(l:List Str) (i:Nat),l.Nodup→l[i]?=some n→(l.map Dat.str).findIdx? (fun z=>eqF z (.str n))=some i:=by
  intro l
  induction l with
  |nil=>intro i _ h;simp at h
  |cons a l ih=>
   intro i hn hi
   rw[List.map_cons,List.findIdx?_cons]
   have e:eqF (.str a) (.str n)=(a==n):=rfl
   rw[e]
   cases i with
   |zero=>
    have:a=n:=by simpa using hi
    rw[this];simp
   |succ i=>
    have hi:l[i]?=some n:=by simpa using hi
    have hne:a≠n:=fun z=>(List.nodup_cons.mp hn).1 (z▸List.mem_of_getElem? hi)
    rw[show(a==n)=false from by simpa using hne,ih i (List.nodup_cons.mp hn).2 hi];rfl
 show(if flatD (.str n)=true∧(ns.map Dat.str).all flatD=true then _ else none)=_
 rw[if_pos ⟨rfl,by rw[List.all_map,List.all_eq_true];exact fun _ _=>rfl⟩,key ns j hnd h];rfl
theorem strs_noL (ns:List Str):(ns.map Dat.str).all (noL 9)=true:=by
 rw[List.all_map,List.all_eq_true];exact fun _ _=>rfl
theorem rows_noL (ns:List Str) (ps:List Rp):(ps.map fun p=>rowD ns p.2).all (noL 9)=true:=by
 rw[List.all_map,List.all_eq_true]
 intro p _
 have h1:((ptsN ns p.2.2.2.1).map frD).all (noL 6)=true:=by
  rw[List.all_map,List.all_eq_true];exact fun _ _=>rfl
 have h2:(p.2.2.2.2.map fun n:Nat=>Dat.int ((n:Int)-1)).all (noL 7)=true:=by
  rw[List.all_map,List.all_eq_true];exact fun _ _=>rfl
 show(noL 8 (.str p.2.1)&&((noL 7 (.str p.2.2.1)&&(((ptsN ns p.2.2.2.1).map frD).all (noL 6)&&(noL 7 (frD (bnd p.2.2.2.1))&&true)))&&((p.2.2.2.2.map fun n:Nat=>Dat.int ((n:Int)-1)).all (noL 7)&&true)))=true
 rw[h1,h2];rfl
theorem ownN_ok {i:Nat} {f:Rho→Option (List Dat)} {Γ:Gam} {ds:List Dat} (h:f (allV Γ)=some ds) (h2:ds.all (noL 9)=true):sOwnN i f Γ=some (.nx (Γ.set i (some (.own ds)))):=by
 unfold sOwnN
 rw[h,Option.bind_some,if_pos h2]
theorem runR_ok {N:List Str} {i:Nat} {f2:Rho→Option (List Dat)} {f3:Rho→Option Dat} {z:Gam→Option Gam} {ds ns es:List Dat} {d:Dat} {Γ':Gam} (h:z (startG N ds)=some Γ') (h2:Γ'[i]?=some (some (.own ns))) (h3:f2 (allV Γ')=some es) (h4:f3 (allV Γ')=some d) (h5:es.all (noL 9)=true) (h6:scD d=true):runR N i f2 f3 z ds=some (ns,es,d):=by
 unfold runR
 rw[h,Option.bind_some,h2]
 show(f2 (allV Γ')).bind _=_
 rw[h3,Option.bind_some,h4,Option.bind_some,if_pos ⟨h5,h6⟩]
theorem last_ix {ds:List Dat} {d:Dat} (h:ds.length+1≤2000):ixD (.list (ds++[d])) (.int (-1))=some d:=by
 show atI (ds++[d]) (-1)=_
 unfold atI ixN
 rw[if_neg (by decide),List.length_append,List.length_singleton,if_pos (by omega),Option.bind_some]
 rw[show((-1:Int)+((ds.length+1:Nat):Int)).toNat=ds.length by omega,List.getElem?_append_right (Nat.le_refl _),Nat.sub_self];rfl
theorem c_nl:(Str.ofString "\n" : Str)=⟨#[10]⟩:=by decide +kernel
theorem split_big {x:Str} {c:Nat} (h:c<256) (hl:x.length≤100000):∃ys:List Str,ys.map tl=Tx.spl c (tl x)∧splitD (.str x) [.str ⟨#[c]⟩]=some (ys.map .str):=by
 refine⟨Txt.split x ⟨#[c]⟩,Tx.split_spl h x,?_⟩
 have hlen:(Txt.split x ⟨#[c]⟩).length≤100001:=by
  have e:=congrArg List.length (Tx.split_spl h x)
  rw[List.length_map]at e
  rw[e]
  have:∀l:List Nat,(Tx.spl c l).length≤l.length+1:=by
   intro l
   induction l with
   |nil=>exact Nat.le_refl _
   |cons a l ih=>
    unfold Tx.spl
    split
    ·simp;exact ih
    ·split
     ·simp
     ·rename_i h t e
      rw[e]at ih
      simp at ih ⊢
      omega
  have:=this (tl x)
  rw[tl_len]at this
  omega
 have hz:(100001:Nat)≤sizeLine:=by rw[sizeLine_eq];decide
 exact if_pos ⟨rfl,by omega,by omega⟩
theorem d_read (T:TX mg) (R:RX P w K mg) {Fr Fc Fo:List Dat→Option Dat} {Fw:List Dat→Option (List Dat)} (Dread_row:Dn P w K mg base 8 "read_row" ["row"] 1 Fr) (Dcheck:Dn P w K mg base 8 "check" ["draft","above","names"] 3 Fc) (Dnames_with:DnN P w K mg base 8 "names_with" ["names","terms"] 2 Fw) (Drow_of:Dn P w K mg base 8 "row_of" ["draft","names"] 2 Fo) (U:FnAt K mg "read" (top 43) ["text"]):
  ∃F,DnR P w K mg base 9 "read" ["text"] 1 F∧RdS Fr Fc Fw Fo F:=by
 refine⟨_,qdnR ["text","rows","drafts","names","row","draft","last","asked"] 3 U fun nd _ _ _ _ _ _ _ hr=>(qz_cons (qpsf_set 1 nd (qpf_split (qpf_var 0) (qpfa_cons qpf_str qpfa_nil)))
  (qz_cons (qpsf_if (qpft_gt (qpf_len T.len (qpfa_cons (qpf_var 1) qpfa_nil)) (qpf_globI R.mr)) (qpsf_one qpsf_never) qpsf_nil)
  (qz_cons (qpsf_own 2 nd (qpfl_lst qpfa_nil))
  (qz_cons (qpsf_own 3 nd (qpfl_lst qpfa_nil))
  (qz_cons (qpsf_for PassesOwn.never rfl (qpf_var 1) (qpgf_name 4 nd)
  (qpsf_cons (qpsf_set 5 nd (qpf_fn Dread_row hr (qpfa_cons (qpf_var 4) qpfa_nil)))
  (qpsf_cons (qpsf_expr (qpf_fn Dcheck hr (qpfa_cons (qpf_var 5) (qpfa_cons (qpf_var 2) (qpfa_cons (qpf_var 3) qpfa_nil)))))
  (qpsf_cons (qpsf_append 2 (qpf_var 5))
  (qpsf_one (qpsf_if (qpft_ne hr (qpf_ix (qpf_var 5) qpf_int) qpf_str) (qpsf_one (qpsf_ownN 3 nd (qpfl_new Dnames_with hr (qpfa_cons (qpf_var 3) (qpfa_cons (qpf_ix (qpf_var 5) qpf_int) qpfa_nil (hs:=star_sub)))))) qpsf_nil))))))
  (qz_cons (qpsf_frz [2] (qpsf_set 6 nd (qpf_ix (qpf_var 2) (qpf_neg qpf_int))))
  (qz_cons (qpsf_set 7 nd (qpf_ifExp (qpft_eq hr (qpf_ix (qpf_var 6) qpf_int) qpf_str) (qpf_index (qpf_var 3) (qpfa_cons (qpf_ix (qpf_var 6) qpf_int) qpfa_nil (hs:=star_sub))) qpf_non))
  (qz_tri 3 (qpfl_comp rfl (blk_cap (tn:=["draft"]) (fv:=["names"]) (js:=[3]) rfl (by decide +kernel) (by decide +kernel) rfl (by decide +kernel) (by decide +kernel) rfl
   (fun x hx=>by((have hx2:x="names":=(by simpa using hx));(rcases hx2 with rfl<;>exact⟨_,rfl⟩)))
   (fun p hp=>by((have hp2:p=(("names" : Str),(3:Nat)):=(by simpa using hp));(rcases hp2 with rfl<;>exact⟨rfl,.inr (.inl rfl),.inl rfl,fun z=>by cases z⟩)))) (qpf_var 2) (fun _ _ _ _=>(qpgf_name 0 (show(["draft","names"]:List Str).Nodup by decide +kernel))) (fun _ _ _ _=>(qptsf_one (qpft_ne hr (qpf_ix (qpf_var 0) qpf_int) qpf_str))) (fun _ _ _ _=>(qpf_fn Drow_of hr (qpfa_cons (qpf_var 0) (qpfa_cons (qpf_var 1) qpfa_nil)))) (tg_name rfl)) (qpf_var 7))))))))),?_⟩
 intro x ps ak I
 have hne:ps≠[]:=I.ne
 have z0:0≤sizeLine:=Nat.zero_le _
 have z3:3≤sizeLine:=sz (by decide)
 obtain⟨ys,e1,e2⟩:=split_big (x:=x) (c:=10) (by decide) I.xl
 have ey:ys=ps.map (·.1)++ak.toList.map (·.1):=strs_of (by rw[e1,← I.sp,List.map_append,List.map_map,List.map_map];rfl)
 have e3:splitD (.str x) [.str "\n"]=some ((ps.map fun p=>Dat.str p.1)++ak.toList.map fun q=>Dat.str q.1):=by rw[show("\n" : Str)=⟨#[10]⟩from c_nl,e2,ey,List.map_append,List.map_map,List.map_map];rfl
 clear e1 e2 ey ys
 have hal:ak.toList.length≤1:=by cases ak<;>simp
 obtain⟨m,lp,hm⟩:∃m:Int,lenD [.list ((ps.map fun p=>Dat.str p.1)++ak.toList.map fun q=>Dat.str q.1)]=some (.int m)∧m≤40:=by
  refine⟨_,rfl,?_⟩
  rw[List.length_append,List.length_map,List.length_map]
  have:=I.l
  omega
 have g1:=gtD_int m 40
 rw[decide_eq_false (by omega)]at g1
 generalize hrs:(ps.map fun p=>Dat.str p.1)++(ak.toList.map fun q=>Dat.str q.1)=rs at *
 suffices hz:∃(y4 y5 y6:Option Slot) (dds:List Dat),zSeq _ _ [some (.imm (.str x)),none,none,none,none,none,none,none]=some [some (.imm (.str x)),some (.imm (.list rs)),some (.imm (.list dds)),some (.own ((nmF ps).map .str)),y4,y5,y6,some (.imm (akV ak))]∧dds=(ps.map fun q=>drD q.2)++(ak.toList.map fun q=>akD q.2.1)from by
  obtain⟨y4,y5,y6,dds,hz,hd⟩:=hz
  have kAll:∀p∈ps,KdR p.2.1:=fun p hp=>by
   obtain⟨pre,post,hpp⟩:=List.append_of_mem hp
   exact(I.st pre p post hpp).2.2.1
  have ec:compL (aName 0) (fTest (L3.f2 neD (L3.f2 ixD (fVar 0) (fC (.int 0))) (fC (.str "ask")))) (fFn 2 Fo (fCons (fVar 0) (fCons (fVar 1) fNil))) [none,some (.list ((nmF ps).map .str))] dds=some (ps.map fun p=>rowD (nmF ps) p.2):=by
   have h1:∀(l:List Rp),(∀p∈l,p∈ps)→compL (aName 0) (fTest (L3.f2 neD (L3.f2 ixD (fVar 0) (fC (.int 0))) (fC (.str "ask")))) (fFn 2 Fo (fCons (fVar 0) (fCons (fVar 1) fNil))) [none,some (.list ((nmF ps).map .str))] ((l.map fun q=>drD q.2)++(ak.toList.map fun q=>akD q.2.1))=some (l.map fun p=>rowD (nmF ps) p.2):=by
    intro l
    induction l with
    |nil=>
     intro _
     cases ak with
     |none=>rfl
     |some q=>
      have h0:ixD (akD q.2.1) (.int 0)=some (.str sA):=rfl
      have q0:neD (.str sA) (.str "ask")=some (.bool false):=rfl
      show compL _ _ _ _ [akD q.2.1]=some []
      generalize akD q.2.1=dd at *
      generalize Dat.str sA=da at *
      generalize Dat.list ((nmF ps).map .str)=dn at *
      dsimp![h0,q0]
    |cons p l ih=>
     intro hl
     have ih:=ih fun q hq=>hl q (List.mem_cons_of_mem _ hq)
     have h0:=dr0 p.2
     obtain⟨_,q⟩:=kd_ask (kAll p (hl p List.mem_cons_self))
     have h1:=I.ro p (hl p List.mem_cons_self)
     rw[List.map_cons,List.map_cons,List.cons_append]
     generalize ((l.map fun q=>drD q.2)++(ak.toList.map fun q=>akD q.2.1))=rest at *
     generalize (l.map fun p=>rowD (nmF ps) p.2)=outs at *
     generalize rowD (nmF ps) p.2=dr at *
     generalize drD p.2=dd at *
     generalize Dat.str p.2.1=da at *
     generalize Dat.list ((nmF ps).map .str)=dn at *
     generalize hft:(fTest (L3.f2 neD (L3.f2 ixD (fVar 0) (fC (.int 0))) (fC (.str "ask"))))=ft at *
     generalize hfe:(fFn 2 Fo (fCons (fVar 0) (fCons (fVar 1) fNil)))=fe at *
     have t1:ft (setR [none,some dn] [(0,dd)])=some true:=by rw[← hft];dsimp![h0,q]
     have t2:fe (setR [none,some dn] [(0,dd)])=some dr:=by rw[← hfe];dsimp![h1]
     show(some [(0,dd)]).bind _=_
     rw[Option.bind_some,t1,Option.bind_some,if_pos rfl,t2,Option.bind_some,ih];rfl
   rw[hd]
   exact h1 ps fun p hp=>hp
  have hzl:dds.length<sizeLine:=by
   rw[hd,List.length_append,List.length_map,List.length_map]
   have:=I.l
   exact small1000 (by omega)
  refine runR_ok hz rfl (compF_ok (d:=.list dds) (ds:=dds) rfl rfl hzl ec) rfl (rows_noL _ _) ?_
  cases ak<;>rfl
 rw[zSeq_nx (Γ':=[some (.imm (.str x)),some (.imm (.list rs)),none,none,none,none,none,none]) (by
  generalize Dat.str x=dx at *
  dsimp![fSpl,e3])]
 rw[zSeq_nx (Γ':=[some (.imm (.str x)),some (.imm (.list rs)),none,none,none,none,none,none]) (by
  generalize Dat.str x=dx at *
  generalize Dat.list rs=drs at *
  dsimp![lp,g1])]
 rw[zSeq_nx (Γ':=[some (.imm (.str x)),some (.imm (.list rs)),some (.own ([])),none,none,none,none,none]) (by
  generalize Dat.str x=dx at *
  generalize Dat.list rs=drs at *
  dsimp![z0])]
 rw[zSeq_nx (Γ':=[some (.imm (.str x)),some (.imm (.list rs)),some (.own ([])),some (.own ([])),none,none,none,none]) (by
  generalize Dat.str x=dx at *
  generalize Dat.list rs=drs at *
  dsimp![z0])]
 have loop:∀(post pre:List Rp) (x4 x5:Option Slot),ps=pre++post→∃y4 y5,forL (aName 4) (sSeq (sSet 5 (fFn 1 Fr (fCons (fVar 4) fNil))) (sSeq (sDrop (fFn 3 Fc (fCons (fVar 5) (fCons (fVar 2) (fCons (fVar 3) fNil))))) (sSeq (sApp 2 (fVar 5)) (sIf (fTest (L3.f2 neD (L3.f2 ixD (fVar 5) (fC (.int 0))) (fC (.str "ask")))) (sOwnN 3 (fNew 2 Fw (fCons (fVar 3) (fCons (L3.f2 ixD (fVar 5) (fC (.int 2))) fNil)))) sSkip)))) ((post.map fun p=>Dat.str p.1)++(ak.toList.map fun q=>Dat.str q.1)) [some (.imm (.str x)),some (.imm (.list rs)),some (.own (pre.map fun q=>drD q.2)),some (.own ((nmF pre).map .str)),x4,x5,none,none]=some (.nx [some (.imm (.str x)),some (.imm (.list rs)),some (.own ((ps.map fun q=>drD q.2)++(ak.toList.map fun q=>akD q.2.1))),some (.own ((nmF ps).map .str)),y4,y5,none,none]):=by
  intro post
  induction post with
  |nil=>
   intro pre x4 x5 hp
   rw[List.append_nil]at hp
   subst hp
   cases hak:ak with
   |none=>
    refine⟨x4,x5,?_⟩
    show some (Fl.nx _)=_
    rw[show((none:Option Ak).toList.map fun q=>akD q.2.1)=[]from rfl,List.append_nil]
   |some q=>
    obtain⟨s1,s2,s3,s4⟩:=I.ka q hak
    refine⟨some (.imm (.str q.1)),some (.imm (akD q.2.1)),?_⟩
    have e0:ixD (akD q.2.1) (.int 0)=some (.str sA):=rfl
    have q1:neD (.str sA) (.str "ask")=some (.bool false):=rfl
    have zl:(ps.map fun q=>drD q.2).length<sizeLine:=by rw[List.length_map];exact small1000 (by have:=I.l;omega)
    show forL _ _ [Dat.str q.1] _=some (.nx [some (.imm (.str x)),some (.imm (.list rs)),some (.own ((ps.map fun q=>drD q.2)++[akD q.2.1])),some (.own ((nmF ps).map .str)),some (.imm (.str q.1)),some (.imm (akD q.2.1)),none,none])
    refine(forL_nx (as:=[(4,.str q.1)]) (Γ':=[some (.imm (.str x)),some (.imm (.list rs)),some (.own ((ps.map fun q=>drD q.2)++[akD q.2.1])),some (.own ((nmF ps).map .str)),some (.imm (.str q.1)),some (.imm (akD q.2.1)),none,none]) rfl ?_).trans rfl
    dsimp!
    generalize (ps.map fun q=>drD q.2)=dpre at *
    generalize (nmF ps).map Dat.str=dn1 at *
    generalize akD q.2.1=dd at *
    generalize Dat.str sA=da at *
    generalize Dat.str q.1=dp at *
    generalize Dat.str x=dx at *
    generalize Dat.list rs=drs at *
    rw[sSeq_nx (Γ':=[some (.imm (dx)),some (.imm (drs)),some (.own (dpre)),some (.own (dn1)),some (.imm (dp)),some (.imm (dd)),none,none]) (by dsimp![s1])]
    rw[sSeq_nx (Γ':=[some (.imm (dx)),some (.imm (drs)),some (.own (dpre)),some (.own (dn1)),some (.imm (dp)),some (.imm (dd)),none,none]) (by dsimp![s2])]
    rw[sSeq_nx (Γ':=[some (.imm (dx)),some (.imm (drs)),some (.own (dpre++[dd])),some (.own (dn1)),some (.imm (dp)),some (.imm (dd)),none,none]) (by dsimp![zl])]
    dsimp![e0,q1]
  |cons p post ih=>
   intro pre x4 x5 hp
   obtain⟨s1,s2,s3,s4⟩:=I.st pre p post hp
   have hpl:ps.length=pre.length+(post.length+1):=by rw[hp,List.length_append,List.length_cons]
   have hl40:=I.l
   obtain⟨y4,y5,e⟩:=ih (pre++[p]) (some (.imm (.str p.1))) (some (.imm (drD p.2))) (by rw[hp,List.append_assoc];rfl)
   refine⟨y4,y5,?_⟩
   refine Eq.trans ?_ e
   rw[List.map_cons,List.cons_append]
   refine forL_nx (as:=[(4,.str p.1)]) rfl ?_
   dsimp!
   have e0:=dr0 p.2
   have e2:=dr2 p.2
   obtain⟨_,q1⟩:=kd_ask s3
   have zl:(pre.map fun q=>drD q.2).length<sizeLine:=by rw[List.length_map];exact small1000 (by omega)
   have ma:(pre++[p]).map (fun q:Rp=>drD q.2)=(pre.map fun q=>drD q.2)++[drD p.2]:=by rw[List.map_append];rfl
   have hno:=strs_noL (nmF (pre++[p]))
   rw[ma]
   generalize (pre.map fun q=>drD q.2)=dpre at *
   generalize (nmF (pre++[p])).map Dat.str=dn2 at *
   generalize (nmF pre).map Dat.str=dn1 at *
   generalize Dat.list (p.2.2.2.1.map tmD)=dts at *
   generalize drD p.2=dd at *
   generalize Dat.str p.2.1=da at *
   generalize Dat.str p.1=dp at *
   generalize Dat.str x=dx at *
   generalize Dat.list rs=drs at *
   rw[sSeq_nx (Γ':=[some (.imm (dx)),some (.imm (drs)),some (.own (dpre)),some (.own (dn1)),some (.imm (dp)),some (.imm (dd)),none,none]) (by dsimp![s1])]
   rw[sSeq_nx (Γ':=[some (.imm (dx)),some (.imm (drs)),some (.own (dpre)),some (.own (dn1)),some (.imm (dp)),some (.imm (dd)),none,none]) (by dsimp![s2])]
   rw[sSeq_nx (Γ':=[some (.imm (dx)),some (.imm (drs)),some (.own (dpre++[dd])),some (.own (dn1)),some (.imm (dp)),some (.imm (dd)),none,none]) (by dsimp![zl])]
   refine(sIf_t (by dsimp![e0,q1])).trans (ownN_ok (ds:=dn2) ?_ hno)
   dsimp![e2,s4]
 obtain⟨y4,y5,e⟩:=loop ps [] none none rfl
 refine⟨y4,y5,some (.imm (match ak with|some q=>akD q.2.1|none=>drD (ps.getLast hne).2)),(ps.map fun q=>drD q.2)++(ak.toList.map fun q=>akD q.2.1),?_,rfl⟩
 refine(zSeq_nx (Γ':=[some (.imm (.str x)),some (.imm (.list rs)),some (.own ((ps.map fun q=>drD q.2)++(ak.toList.map fun q=>akD q.2.1))),some (.own ((nmF ps).map .str)),y4,y5,none,none]) ?_).trans ?_
 ·rw[← hrs]at e ⊢
  exact e
 have hlast:ixD (.list ((ps.map fun q=>drD q.2)++(ak.toList.map fun q=>akD q.2.1))) (.int (-1))=some (match ak with|some q=>akD q.2.1|none=>drD (ps.getLast hne).2):=by
  cases ak with
  |some q=>exact last_ix (by rw[List.length_map];have:=I.l;omega)
  |none=>
   rw[show((none:Option Ak).toList.map fun q=>akD q.2.1)=[]from rfl,List.append_nil]
   have hd:=List.dropLast_concat_getLast hne
   have:ps.map (fun q=>drD q.2)=(ps.dropLast.map fun q=>drD q.2)++[drD (ps.getLast hne).2]:=by
    conv=>lhs;rw[← hd]
    rw[List.map_append];rfl
   rw[this]
   exact last_ix (by rw[List.length_map,List.length_dropLast];have:=I.l;omega)
 generalize hll:(match ak with|some q=>akD q.2.1|none=>drD (ps.getLast hne).2)=dl at *
 show zSeq (fun Γ=>sSet 6 _ (frzs [2] Γ)) _ _=_
 rw[zSeq_nx (Γ':=[some (.imm (.str x)),some (.imm (.list rs)),some (.imm (.list ((ps.map fun q=>drD q.2)++(ak.toList.map fun q=>akD q.2.1)))),some (.own ((nmF ps).map .str)),y4,y5,some (.imm (dl)),none]) (by
  show sSet 6 _ [some (.imm (.str x)),some (.imm (.list rs)),some (.imm (.list ((ps.map fun q=>drD q.2)++(ak.toList.map fun q=>akD q.2.1)))),some (.own ((nmF ps).map .str)),y4,y5,none,none]=_
  generalize Dat.list ((ps.map fun q=>drD q.2)++(ak.toList.map fun q=>akD q.2.1))=dds at *
  generalize Dat.list rs=drs at *
  generalize (nmF ps).map Dat.str=dn at *
  generalize Dat.str x=dx at *
  dsimp![hlast])]
 have fin:sSet 7 (fIf (fTest (L3.f2 eqD (L3.f2 ixD (fVar 6) (fC (.int 0))) (fC (.str "ask")))) (fMeth indexD (fVar 3) (fCons (L3.f2 ixD (fVar 6) (fC (.int 1))) fNil)) (fC .none)) [some (.imm (.str x)),some (.imm (.list rs)),some (.imm (.list ((ps.map fun q=>drD q.2)++(ak.toList.map fun q=>akD q.2.1)))),some (.own ((nmF ps).map .str)),y4,y5,some (.imm (dl)),none]=some (.nx [some (.imm (.str x)),some (.imm (.list rs)),some (.imm (.list ((ps.map fun q=>drD q.2)++(ak.toList.map fun q=>akD q.2.1)))),some (.own ((nmF ps).map .str)),y4,y5,some (.imm (dl)),some (.imm (akV ak))]):=by
  cases hak:ak with
  |none=>
   rw[hak]at hll
   have hll:drD (ps.getLast hne).2=dl:=hll
   have e4:ixD dl (.int 0)=some (.str (ps.getLast hne).2.1):=by rw[← hll];rfl
   obtain⟨q1,_⟩:=kd_ask (by
    obtain⟨pre,post,hpp⟩:=List.append_of_mem (List.getLast_mem hne)
    exact(I.st pre _ post hpp).2.2.1:KdR (ps.getLast hne).2.1)
   generalize Dat.str (ps.getLast hne).2.1=da at *
   show _=some (Fl.nx [some (.imm (.str x)),some (.imm (.list rs)),some (.imm (.list ((ps.map fun q=>drD q.2)++((none:Option Ak).toList.map fun q=>akD q.2.1)))),some (.own ((nmF ps).map .str)),y4,y5,some (.imm (dl)),some (.imm (.none))])
   generalize Dat.list ((ps.map fun q=>drD q.2)++((none:Option Ak).toList.map fun q=>akD q.2.1))=dds at *
   generalize Dat.list rs=drs at *
   generalize (nmF ps).map Dat.str=dn at *
   generalize Dat.str x=dx at *
   dsimp![e4,q1]
  |some q=>
   rw[hak]at hll
   have hll:akD q.2.1=dl:=hll
   have e4:ixD dl (.int 0)=some (.str sA):=by rw[← hll];rfl
   have e5:ixD dl (.int 1)=some (.str q.2.1):=by rw[← hll];rfl
   have q1:eqD (.str sA) (.str "ask")=some (.bool true):=rfl
   obtain⟨_,_,s3,s4⟩:=I.ka q hak
   have ei:=index_str s3 s4
   show _=some (Fl.nx [some (.imm (.str x)),some (.imm (.list rs)),some (.imm (.list ((ps.map fun q=>drD q.2)++((some q:Option Ak).toList.map fun q=>akD q.2.1)))),some (.own ((nmF ps).map .str)),y4,y5,some (.imm (dl)),some (.imm (.int (q.2.2:Int)))])
   generalize Dat.str sA=da at *
   generalize Dat.str q.2.1=dq at *
   generalize (q.2.2:Int)=qi at *
   generalize Dat.list ((ps.map fun q=>drD q.2)++((some q:Option Ak).toList.map fun q=>akD q.2.1))=dds at *
   generalize Dat.list rs=drs at *
   generalize (nmF ps).map Dat.str=dn at *
   generalize Dat.str x=dx at *
   dsimp![e4,e5,q1,ei]
 rw[zSeq_nx fin]
 rfl
end
end
section
noncomputable section
variable {P:Program} {w:World} {K:Fg} {mg:Str→Option Value} {base:Heap} {f:Addr} {fd:FuncData}
abbrev LfS (F:List Dat→Option Dat):Prop:=∀n f:Int,0≤n→0≤f→∃w:Nw,w.Ok∧F [.int n,.int f]=some (.list [.str (nwT w),frD (nwV w)])
theorem strS {n:Int} (h0:0≤n) (h:n<1000000):strD [.int n]=some (.str (S n)):=strD_big (by unfold Big;exact Nat.lt_of_lt_of_le (show n.natAbs<1000000 by omega) (by decide))
theorem minD_int (a b:Int):minD [.int a,.int b]=some (.int (if b<a then b else a)):=rfl
theorem addU_int (a b:Int):addU (.int a) (.int b)=some (.int (a+b)):=rfl
theorem d_lfig (T:TX mg) {Fl':List Dat→Option Dat} (Dl_least:Dn P w K mg base 2 "_law_least" ["n","d"] 2 Fl') (hL:LsS Fl') (U:FnAt K mg "_law_figures" (top 50) ["number","far"]):
  ∃F,Dn P w K mg base 3 "_law_figures" ["number","far"] 2 F∧LfS F:=by
 refine⟨_,qdnA ["number","far","n","d","word"] U fun nd _ _ _ _ _ _ _ hr=>(qpsf_cons (qpsf_set 2 nd (qpf_ix (qpf_lst (qpfa_cons (qpf_mod (qpf_fdiv (qpf_var 0) qpf_int) qpf_int) (qpfa_cons (qpf_mod (qpf_fdiv (qpf_var 0) qpf_int) qpf_int) (qpfa_cons (qpf_mod (qpf_fdiv (qpf_var 0) qpf_int) (qpf_pow qpf_int qpf_int)) qpfa_nil (hs:=star_bin)) (hs:=star_bin)) (hs:=star_bin))) (qpf_mod (qpf_var 0) qpf_int)))
  (qpsf_cons (qpsf_set 3 nd (qpf_ix (qpf_lst (qpfa_cons qpf_int (qpfa_cons qpf_int (qpfa_cons (qpf_addU qpf_int (qpf_mod (qpf_var 1) qpf_int)) (qpfa_cons (qpf_addU qpf_int (qpf_mod (qpf_var 1) qpf_int)) qpfa_nil (hs:=star_bin)) (hs:=star_bin))))) (qpf_mod (qpf_fdiv (qpf_var 0) qpf_int) qpf_int)))
  (qpsf_cons (qpsf_if (qpft_lt (qpf_mod (qpf_fdiv (qpf_var 0) qpf_int) qpf_int) qpf_int) (qpsf_one (qpsf_set 3 nd qpf_int)) qpsf_nil)
  (qpsf_cons (qpsf_if (qpft_w (qpfw_and (qpft_eq hr (qpf_mod (qpf_fdiv (qpf_var 0) qpf_int) qpf_int) qpf_int) (qpfw_and1 (qpft_lt (qpf_var 2) qpf_int)))) (qpsf_cons (qpsf_set 2 nd (qpf_mul (qpf_var 2) (qpf_addU qpf_int (qpf_mod (qpf_fdiv (qpf_var 1) qpf_int) qpf_int))))
  (qpsf_one (qpsf_set 3 nd (qpf_mul (qpf_min rfl T.min (qpfa_cons (qpf_var 3) (qpfa_cons qpf_int qpfa_nil))) (qpf_addU qpf_int (qpf_mod (qpf_fdiv (qpf_var 1) qpf_int) qpf_int)))))) qpsf_nil)
  (qpsf_cons (qpsf_set 4 nd (qpf_strI T.str (qpfa_cons (qpf_var 2) qpfa_nil)))
  (qpsf_cons (qpsf_if (qpft_w (qpfw_or (qpft_gt (qpf_var 3) qpf_int) (qpfw_or1 (qpft_eq hr (qpf_mod (qpf_fdiv (qpf_var 0) qpf_int) qpf_int) qpf_int)))) (qpsf_one (qpsf_set 4 nd (qpf_addU (qpf_addU (qpf_var 4) qpf_str) (qpf_strI T.str (qpfa_cons (qpf_var 3) qpfa_nil))))) qpsf_nil)
  (qpsf_one (qpsf_ret (qpf_lst (qpfa_cons (qpf_var 4) (qpfa_cons (qpf_fn Dl_least hr (qpfa_cons (qpf_var 2) (qpfa_cons (qpf_var 3) qpfa_nil))) qpfa_nil (hs:=star_call)))))))))))),?_⟩
 intro nb fa hn hf
 have z2:2≤sizeLine:=sz (by decide)
 have z3:3≤sizeLine:=sz (by decide)
 have z4:4≤sizeLine:=sz (by decide)
 have q8:=fdivD_int (a:=nb) (b:=8) (by decide) (by decide)
 have q10:=modD_int (a:=nb.fdiv 8) (b:=10) (by decide)
 have q1000:=modD_int (a:=nb.fdiv 8) (b:=1000) (by decide)
 have qm:=modD_int (a:=nb.fdiv 8) (b:=10^6) (by decide)
 have qn3:=modD_int (a:=nb) (b:=3) (by decide)
 have b10:=fmod_bd (nb.fdiv 8) (b:=10) (by decide)
 have b1000:=fmod_bd (nb.fdiv 8) (b:=1000) (by decide)
 have bm:=fmod_bd (nb.fdiv 8) (b:=10^6) (by decide)
 have b3:=fmod_bd nb (b:=3) (by decide)
 obtain⟨v0,hv0,ev0⟩:=at3 (.int ((nb.fdiv 8).fmod 10)) (.int ((nb.fdiv 8).fmod 1000)) (.int ((nb.fdiv 8).fmod (10^6))) b3.1 b3.2
 obtain⟨n0,rfl,hn0,hn1⟩:∃n0:Int,v0=.int n0∧0≤n0∧n0<1000000:=by
  rcases hv0 with h|h|h
  ·exact⟨_,h,by omega,by omega⟩
  ·exact⟨_,h,by omega,by omega⟩
  ·exact⟨_,h,bm.1,bm.2⟩
 have qf3:=fdivD_int (a:=nb) (b:=3) (by decide) (by decide)
 have qf34:=modD_int (a:=nb.fdiv 3) (b:=4) (by decide)
 have bf34:=fmod_bd (nb.fdiv 3) (b:=4) (by decide)
 have q12:=modD_int (a:=fa) (b:=12) (by decide)
 have q99:=modD_int (a:=fa) (b:=999999) (by decide)
 have b12:=fmod_bd fa (b:=12) (by decide)
 have b99:=fmod_bd fa (b:=999999) (by decide)
 obtain⟨d0,hd0,ed0⟩:=at4 1 1 (1+fa.fmod 12) (1+fa.fmod 999999) bf34.1 bf34.2
 have hd1:1≤d0∧d0<1000000:=by omega
 have qf12:=fdivD_int (a:=nb) (b:=12) (by decide) (by decide)
 have qf124:=modD_int (a:=nb.fdiv 12) (b:=4) (by decide)
 have qf7:=fdivD_int (a:=fa) (b:=7) (by decide) (by decide)
 have qf79:=modD_int (a:=fa.fdiv 7) (b:=9) (by decide)
 have bf79:=fmod_bd (fa.fdiv 7) (b:=9) (by decide)
 generalize (fa.fdiv 7).fmod 9=r9 at *
 generalize (nb.fdiv 12).fmod 4=s4 at *

 have fin:∀(n d:Int),0≤n→n<1000000→1≤d→d<1000000→∃w:Nw,w.Ok∧(sSeq (sSet 4 (fCall strD (fCons (fVar 2) fNil))) (sSeq (sIf (fOrT (fTest (L3.f2 gtD (fVar 3) (fC (.int 1)))) (fTest (L3.f2 eqD (L3.f2 modD (L3.f2 fdivD (fVar 0) (fC (.int 12))) (fC (.int 4))) (fC (.int 2))))) (sSet 4 (L3.f2 addU (L3.f2 addU (fVar 4) (fC (.str "/"))) (fCall strD (fCons (fVar 3) fNil)))) sSkip) (sRet (fLst (fCons (fVar 4) (fCons (fFn 2 Fl' (fCons (fVar 2) (fCons (fVar 3) fNil))) fNil)))))) [some (.imm (.int nb)),some (.imm (.int fa)),some (.imm (.int n)),some (.imm (.int d)),none]=some (.rt (.list [.str (nwT w),frD (nwV w)])):=by
  intro n d h1 h2 h3 h4
  have s1:=strS h1 h2
  have s2:=strS (n:=d) (by omega) h4
  have e:=hL n d (by omega) (Nat.lt_of_lt_of_le (show d.natAbs<1000000 by omega) (by decide))
  have hS:(S n).length≤6:=by have:=S_len (n:=n.toNat) (by omega);(rw[Int.toNat_of_nonneg h1]at this;exact this.2)
  have hSd:(S d).length≤6:=by have:=S_len (n:=d.toNat) (by omega);(rw[Int.toNat_of_nonneg (by omega)]at this;exact this.2)
  have l3:(Str.ofString "/").length=1:=by rw[slen];rfl
  have a1:=addU_str (a:=S n) (b:=Str.ofString "/") (by omega)
  have a2:=addU_str (a:=S n++Str.ofString "/") (b:=S d) (by rw[sapp];omega)
  by_cases hs:1<d∨s4=2
  ·refine⟨⟨n.toNat,d.toNat,true⟩,⟨by show n.toNat<_;omega,by show 1≤d.toNat;omega,by show d.toNat<_;omega,fun z=>by cases z⟩,?_⟩
   have ew:nwT ⟨n.toNat,d.toNat,true⟩=S n++Str.ofString "/"++S d:=by
    show S ((n.toNat:Nat):Int)++Str.ofString "/"++S ((d.toNat:Nat):Int)=_
    rw[Int.toNat_of_nonneg h1,Int.toNat_of_nonneg (by omega)]
   have ev:nwV ⟨n.toNat,d.toNat,true⟩=rd2 n d:=by
    show rd2 ((n.toNat:Nat):Int) ((d.toNat:Nat):Int)=_
    rw[Int.toNat_of_nonneg h1,Int.toNat_of_nonneg (by omega)]
   rw[ew,ev]
   rw[sSeq_nx (Γ':=[some (.imm (.int nb)),some (.imm (.int fa)),some (.imm (.int n)),some (.imm (.int d)),some (.imm (.str (S n)))]) (by dsimp![s1])]
   have tst:fOrT (fTest (L3.f2 gtD (fVar 3) (fC (.int 1)))) (fTest (L3.f2 eqD (L3.f2 modD (L3.f2 fdivD (fVar 0) (fC (.int 12))) (fC (.int 4))) (fC (.int 2)))) (allV [some (.imm (.int nb)),some (.imm (.int fa)),some (.imm (.int n)),some (.imm (.int d)),some (.imm (.str (S n)))])=some true:=by
    by_cases h1d:1<d
    ·dsimp![gtD_int,eq_true h1d]
    ·have h2s:s4=2:=by omega
     dsimp![gtD_int,eq_false h1d,qf12,qf124,eqD_int,eq_true h2s]
   rw[sSeq_nx (Γ':=[some (.imm (.int nb)),some (.imm (.int fa)),some (.imm (.int n)),some (.imm (.int d)),some (.imm (.str (S n++Str.ofString "/"++S d)))]) ((sIf_t tst).trans (by
    generalize Dat.str (S n++Str.ofString "/"++S d)=dd at *
    generalize Dat.str (S n++Str.ofString "/")=dd1 at *
    generalize Dat.str (S n)=dd0 at *
    dsimp![a1,s2,a2]))]
   generalize frD (rd2 n d)=df at *
   generalize Dat.str (S n++Str.ofString "/"++S d)=dd at *
   dsimp![e,z2]
  ·refine⟨⟨n.toNat,d.toNat,false⟩,⟨by show n.toNat<_;omega,by show 1≤d.toNat;omega,by show d.toNat<_;omega,fun _=>by show d.toNat=1;omega⟩,?_⟩
   have ew:nwT ⟨n.toNat,d.toNat,false⟩=S n:=by
    show S ((n.toNat:Nat):Int)=_
    rw[Int.toNat_of_nonneg h1]
   have ev:nwV ⟨n.toNat,d.toNat,false⟩=rd2 n d:=by
    show rd2 ((n.toNat:Nat):Int) ((d.toNat:Nat):Int)=_
    rw[Int.toNat_of_nonneg h1,Int.toNat_of_nonneg (by omega)]
   rw[ew,ev]
   rw[sSeq_nx (Γ':=[some (.imm (.int nb)),some (.imm (.int fa)),some (.imm (.int n)),some (.imm (.int d)),some (.imm (.str (S n)))]) (by dsimp![s1])]
   have h1d:¬1<d:=by omega
   have h2s:¬s4=2:=by omega
   rw[sSeq_nx (Γ':=[some (.imm (.int nb)),some (.imm (.int fa)),some (.imm (.int n)),some (.imm (.int d)),some (.imm (.str (S n)))]) (by
    generalize Dat.str (S n)=dd0 at *
    dsimp![gtD_int,eq_false h1d,qf12,qf124,eqD_int,eq_false h2s])]
   generalize frD (rd2 n d)=df at *
   generalize Dat.str (S n)=dd at *
   dsimp![e,z2]
 have st1:∀g:Gam→Option Fl,sSeq (sSet 2 (L3.f2 ixD (fLst (fCons (L3.f2 modD (L3.f2 fdivD (fVar 0) (fC (.int 8))) (fC (.int 10))) (fCons (L3.f2 modD (L3.f2 fdivD (fVar 0) (fC (.int 8))) (fC (.int 1000))) (fCons (L3.f2 modD (L3.f2 fdivD (fVar 0) (fC (.int 8))) (L3.f2 powD (fC (.int 10)) (fC (.int 6)))) fNil)))) (L3.f2 modD (fVar 0) (fC (.int 3))))) (sSeq (sSet 3 (L3.f2 ixD (fLst (fCons (fC (.int 1)) (fCons (fC (.int 1)) (fCons (L3.f2 addU (fC (.int 1)) (L3.f2 modD (fVar 1) (fC (.int 12)))) (fCons (L3.f2 addU (fC (.int 1)) (L3.f2 modD (fVar 1) (fC (.int 999999)))) fNil))))) (L3.f2 modD (L3.f2 fdivD (fVar 0) (fC (.int 3))) (fC (.int 4))))) g) [some (.imm (.int nb)),some (.imm (.int fa)),none,none,none]=g [some (.imm (.int nb)),some (.imm (.int fa)),some (.imm (.int n0)),some (.imm (.int d0)),none]:=by
  intro g
  rw[sSeq_nx (Γ':=[some (.imm (.int nb)),some (.imm (.int fa)),some (.imm (.int n0)),none,none]) (by dsimp![q8,q10,q1000,pow6,qm,qn3,z3,ev0])]
  rw[sSeq_nx (Γ':=[some (.imm (.int nb)),some (.imm (.int fa)),some (.imm (.int n0)),some (.imm (.int d0)),none]) (by dsimp![q12,q99,addU_int,qf3,qf34,z4,ed0])]
 by_cases c1:s4<2
 ·obtain⟨w,ok,ew⟩:=fin n0 1 hn0 hn1 (by omega) (by omega)
  refine⟨w,ok,runF_rt ((st1 _).trans ?_)⟩
  have c3:¬s4=3:=by omega
  rw[sSeq_nx (Γ':=[some (.imm (.int nb)),some (.imm (.int fa)),some (.imm (.int n0)),some (.imm (.int 1)),none]) (by dsimp![qf12,qf124,ltD_int,eq_true c1])]
  rw[sSeq_nx (Γ':=[some (.imm (.int nb)),some (.imm (.int fa)),some (.imm (.int n0)),some (.imm (.int 1)),none]) (by dsimp![qf12,qf124,eqD_int,eq_false c3])]
  exact ew
 ·by_cases c2:s4=3∧n0<1000
  ·have hm1:0≤n0*(1+r9)∧n0*(1+r9)<1000000:=by
    have a:=Int.mul_nonneg hn0 (show 0≤1+r9 by omega)
    have b:=Int.mul_le_mul (show n0≤999 by omega) (show 1+r9≤9 by omega) (by omega) (by omega)
    exact⟨a,by omega⟩
   obtain⟨md,hmd⟩:∃md:Int,(if(999:Int)<d0 then 999 else d0)=md:=⟨_,rfl⟩
   have hmd1:1≤md∧md≤999:=by
    rw[← hmd]
    split<;>omega
   have hm2:1≤md*(1+r9)∧md*(1+r9)<1000000:=by
    have a:=Int.mul_le_mul (show 1≤md by omega) (show 1≤1+r9 by omega) (by omega) (by omega)
    have b:=Int.mul_le_mul (show md≤999 by omega) (show 1+r9≤9 by omega) (by omega) (by omega)
    omega
   obtain⟨w,ok,ew⟩:=fin (n0*(1+r9)) (md*(1+r9)) hm1.1 hm1.2 hm2.1 hm2.2
   refine⟨w,ok,runF_rt ((st1 _).trans ?_)⟩
   have m1:=mulR n0 (b:=1+r9) (by omega) (by omega)
   have m2:=mulR md (b:=1+r9) (by omega) (by omega)
   have mn:=minD_int d0 999
   rw[hmd]at mn
   rw[sSeq_nx (Γ':=[some (.imm (.int nb)),some (.imm (.int fa)),some (.imm (.int n0)),some (.imm (.int d0)),none]) (by dsimp![qf12,qf124,ltD_int,eq_false c1])]
   rw[sSeq_nx (Γ':=[some (.imm (.int nb)),some (.imm (.int fa)),some (.imm (.int (n0*(1+r9)))),some (.imm (.int (md*(1+r9)))),none]) (by
    generalize n0*(1+r9)=n2 at *
    generalize md*(1+r9)=d2 at *
    dsimp![qf12,qf124,eqD_int,eq_true c2.1,ltD_int,eq_true c2.2,qf7,qf79,addU_int,m1,mn,m2])]
   exact ew
  ·obtain⟨w,ok,ew⟩:=fin n0 d0 hn0 hn1 hd1.1 hd1.2
   refine⟨w,ok,runF_rt ((st1 _).trans ?_)⟩
   rw[sSeq_nx (Γ':=[some (.imm (.int nb)),some (.imm (.int fa)),some (.imm (.int n0)),some (.imm (.int d0)),none]) (by dsimp![qf12,qf124,ltD_int,eq_false c1])]
   have tst:fAndT (fTest (L3.f2 eqD (L3.f2 modD (L3.f2 fdivD (fVar 0) (fC (.int 12))) (fC (.int 4))) (fC (.int 3)))) (fTest (L3.f2 ltD (fVar 2) (fC (.int 1000)))) (allV [some (.imm (.int nb)),some (.imm (.int fa)),some (.imm (.int n0)),some (.imm (.int d0)),none])=some false:=by
    by_cases h3:s4=3
    ·have h4:¬n0<1000:=fun z=>c2 ⟨h3,z⟩
     dsimp![qf12,qf124,eqD_int,eq_true h3,ltD_int,eq_false h4]
    ·dsimp![qf12,qf124,eqD_int,eq_false h3]
   rw[sSeq_nx (Γ':=[some (.imm (.int nb)),some (.imm (.int fa)),some (.imm (.int n0)),some (.imm (.int d0)),none]) ((sIf_f tst).trans rfl)]
   exact ew
end
end
section
noncomputable section
variable {P:Program} {w:World} {K:Fg} {mg:Str→Option Value} {base:Heap} {f:Addr} {fd:FuncData}
structure Nms (vs:List Str):Prop where
 l:vs.length≤3
 nd:vs.Nodup
 gd:∀x∈vs,GdN x
abbrev lwN:Option Str→Str
 |some x=>x
 |none=>Str.ofString ""
abbrev lwD (t:Tm):Dat:=.tuple [.str (lwN t.1),frD t.2]
structure SumOk (vs:List Str) (ss:List Sg):Prop where
 ne:ss≠[]
 l:ss.length≤45
 ok:∀t∈ss,trOk t.2
 nm:∀t∈ss,∀x,trN t.2=some x→x∈vs
 z:(txt (ss.map sgW)).length≤80
abbrev sumD (ss:List Sg):Dat:=.list [.str (txt (ss.map sgW)),.list ((ss.map sgT).map lwD)]
abbrev LmS (F:List Dat→Option Dat):Prop:=∀(c k:Int) (vs:List Str),0≤k→Nms vs→∃d,(∃ss,SumOk vs ss∧d=sumD ss)∧F [.int c,.int k,.list (vs.map .str)]=some d
theorem emp_eq:Str.ofString ""=(⟨#[]⟩:Str):=by decide +kernel
theorem txt_snoc (ss:List Sg) (t:Sg):txt ((ss++[t]).map sgW)=Tx.stp (txt (ss.map sgW)) (sgW t):=by
 rw[List.map_append]
 show((ss.map sgW)++[sgW t]).foldl Tx.stp ⟨#[]⟩=_
 rw[List.foldl_append];rfl
theorem at6 (a b c e g h:Int) {i:Int} (h0:0≤i) (hi:i<6):∃v,(v=a∨v=b∨v=c∨v=e∨v=g∨v=h)∧ixD (.list [.int a,.int b,.int c,.int e,.int g,.int h]) (.int i)=some (.int v):=by
 have:i=0∨i=1∨i=2∨i=3∨i=4∨i=5:=by omega
 rcases this with rfl|rfl|rfl|rfl|rfl|rfl
 ·exact⟨a,by omega,rfl⟩
 ·exact⟨b,by omega,rfl⟩
 ·exact⟨c,by omega,rfl⟩
 ·exact⟨e,by omega,rfl⟩
 ·exact⟨g,by omega,rfl⟩
 ·exact⟨h,by omega,rfl⟩
theorem at_nm {vs:List Str} {i:Int} (h0:0≤i) (h:i<(vs.length:Int)+1):∃o:Option Str,(∀x,o=some x→x∈vs)∧ixD (.list ((vs++[Str.ofString ""]).map .str)) (.int i)=some (.str (lwN o)):=by
 obtain⟨n,rfl⟩:∃n:Nat,i=(n:Int):=⟨i.toNat,by omega⟩
 by_cases hn:n<vs.length
 ·refine⟨some vs[n],fun x hx=>by cases hx;exact List.getElem_mem _,L3.ix_list ?_⟩
  rw[List.getElem?_map,List.getElem?_append_left hn,List.getElem?_eq_getElem hn];rfl
 ·refine⟨none,fun x hx=>(by cases hx),L3.ix_list ?_⟩
  rw[List.getElem?_map,List.getElem?_append_right (by omega),show n-vs.length=0 by omega];rfl
theorem sgn_at {i:Int} (h0:0≤i) (h:i<2):∃b:Bool,ixSD (.str (Str.ofString "+-")) (.int i)=some (.str (if b=true then Str.ofString "-" else Str.ofString "+")):=by
 have:i=0∨i=1:=by omega
 rcases this with rfl|rfl
 ·refine⟨false,?_⟩
  rw[if_neg Bool.false_ne_true,show Str.ofString "+-"=(⟨#[43,45]⟩:Str) by decide +kernel,show Str.ofString "+"=(⟨#[43]⟩:Str) by decide +kernel];rfl
 ·refine⟨true,?_⟩
  rw[if_pos rfl,show Str.ofString "+-"=(⟨#[43,45]⟩:Str) by decide +kernel,show Str.ofString "-"=(⟨#[45]⟩:Str) by decide +kernel];rfl
theorem nmo_ne {o:Option Str} (h:∀x,o=some x→GdN x):neD (.str (lwN o)) (.str (Str.ofString ""))=some (.bool o.isSome):=by
 show some (Dat.bool (!_))=_
 cases o with
 |none=>simp
 |some x=>
  have:x≠Str.ofString "":=fun z=>(h x rfl).1.ne (by rw[z,emp_eq])
  simp[this]
theorem len_u {x:Str} (h:x.length≤1000):lenD [.str x]=some (.int (x.length:Int)):=if_pos (sz h)
theorem forR_ex2 {gt:Dat→Option Asg} {gb:Gam→Option Fl} {fs:Rho→Option (List Dat)} {Γ:Gam} {n:Nat} (J:Nat→Gam→Prop) {I:Gam→Prop} (h:fs (allV Γ)=some [.int (n:Int)]) (hn:n≤1000) (h0:J 0 Γ) (st:∀i Γ,i<n→J i Γ→∃as,gt (nat i)=some as∧∃Γ',gb (setG Γ as)=some (.nx Γ')∧J (i+1) Γ') (fin:∀Γ,J n Γ→I Γ):∃Γ',sForR rng1 gt gb fs Γ=some (.nx Γ')∧I Γ':=by
 obtain⟨Γ',e,h⟩:=forR_ex J h hn h0 st
 exact⟨Γ',e,fin Γ' h⟩
theorem stp_txt (tx:Str) (ng:Bool) (W:Str):tx++(if(!decide (tx=Str.ofString "") || ng)=true then(if ng=true then Str.ofString "-" else Str.ofString "+")++W else W)=Tx.stp tx ⟨ng,W⟩:=by
 have em:Str.ofString "-"=Tx.zM:=c_m
 have ep:Str.ofString "+"=Tx.cP:=c_pl
 unfold Tx.stp
 cases ng with
 |true=>
  rw[Bool.or_true,if_pos rfl,if_pos rfl,if_pos rfl,em,Str.append_assoc]
 |false=>
  rw[Bool.or_false,if_neg (show ¬((⟨false,W⟩:Tx.Wd).neg=true)from Bool.false_ne_true),if_neg Bool.false_ne_true,ep]
  by_cases h:tx=Str.ofString ""
  ·rw[decide_eq_true h,if_neg (by decide),if_pos (by rw[h,emp_eq]),h,emp_app]
  ·rw[decide_eq_false h,if_pos (show(!false)=true from rfl),if_neg (by rw[← emp_eq];exact h),Str.append_assoc]
theorem d_lsum (T:TX mg) {Fs Ff:List Dat→Option Dat} (Dl_stir:Dn P w K mg base 3 "_law_stir" ["cell","k"] 2 Fs) (hs:StS Fs) (Dl_figures:Dn P w K mg base 3 "_law_figures" ["number","far"] 2 Ff) (hF:LfS Ff) (U:FnAt K mg "_law_sum" (top 51) ["cell","k","names"]):
  ∃F,Dn P w K mg base 4 "_law_sum" ["cell","k","names"] 3 F∧LmS F:=by
 refine⟨_,qdnA ["cell","k","names","word","terms","j","number","figures","by","name","term","sign"] U fun nd _ _ _ _ _ _ _ hr=>(qpsf_cons (qpsf_set 3 nd qpf_str)
  (qpsf_cons (qpsf_own 4 nd (qpfl_lst qpfa_nil))
  (qpsf_cons (qpsf_forR1 PassesOwn.never rfl T.range (qpfa_cons (qpf_ix (qpf_lst (qpfa_cons qpf_int (qpfa_cons qpf_int (qpfa_cons qpf_int (qpfa_cons qpf_int (qpfa_cons qpf_int (qpfa_cons qpf_int qpfa_nil))))))) (qpf_mod (qpf_fn Dl_stir hr (qpfa_cons (qpf_var 0) (qpfa_cons (qpf_var 1) qpfa_nil))) qpf_int)) qpfa_nil (hs:=star_sub)) (qpgf_name 5 nd) (qpsf_cons (qpsf_set 6 nd (qpf_fn Dl_stir hr (qpfa_cons (qpf_var 0) (qpfa_cons (qpf_addU (qpf_addU (qpf_var 1) qpf_int) (qpf_mul qpf_int (qpf_var 5))) qpfa_nil (hs:=star_bin)))))
  (qpsf_cons (qpsf_asg (qpf_fn Dl_figures hr (qpfa_cons (qpf_fn Dl_stir hr (qpfa_cons (qpf_var 0) (qpfa_cons (qpf_addU (qpf_addU (qpf_var 1) qpf_int) (qpf_mul qpf_int (qpf_var 5))) qpfa_nil (hs:=star_bin)))) (qpfa_cons (qpf_fn Dl_stir hr (qpfa_cons (qpf_var 0) (qpfa_cons (qpf_addU (qpf_addU (qpf_var 1) qpf_int) (qpf_var 5)) qpfa_nil (hs:=star_bin)))) qpfa_nil (hs:=star_call)) (hs:=star_call))) (qpgf_sq (n:=2) rfl (qpgfs_cons (qpgf_name 7 nd) (qpgfs_cons (qpgf_name 8 nd) qpgfs_nil))))
  (qpsf_cons (qpsf_set 9 nd (qpf_ix (qpf_addU (qpf_var 2) (qpf_lst (qpfa_cons qpf_str qpfa_nil))) (qpf_mod (qpf_fdiv (qpf_var 6) qpf_int) (qpf_addU (qpf_len T.len (qpfa_cons (qpf_var 2) qpfa_nil)) qpf_int))))
  (qpsf_cons (qpsf_set 10 nd (qpf_var 7))
  (qpsf_cons (qpsf_if (qpft_w (qpfw_and (qpft_ne hr (qpf_var 9) qpf_str) (qpfw_and1 (qpft_eq hr (qpf_mod (qpf_var 6) qpf_int) qpf_int)))) (qpsf_cons (qpsf_set 10 nd (qpf_var 9))
  (qpsf_one (qpsf_set 8 nd (qpf_tup (k:=0) (qpfa_cons qpf_int (qpfa_cons qpf_int qpfa_nil)))))) (qpsf_one (qpsf_if (qpft_ne hr (qpf_var 9) qpf_str) (qpsf_one (qpsf_set 10 nd (qpf_addU (qpf_addU (qpf_var 7) qpf_str) (qpf_var 9)))) qpsf_nil)))
  (qpsf_cons (qpsf_set 11 nd (qpf_ixS qpf_str (qpf_mod (qpf_fdiv (qpf_var 6) qpf_int) qpf_int)))
  (qpsf_one (qpsf_if (qpft_le (qpf_addU (qpf_addU (qpf_len T.len (qpfa_cons (qpf_var 3) qpfa_nil)) qpf_int) (qpf_len T.len (qpfa_cons (qpf_var 10) qpfa_nil))) qpf_int) (qpsf_cons (qpsf_if (qpft_eq hr (qpf_var 11) qpf_str) (qpsf_one (qpsf_set 8 nd (qpf_tup (k:=0) (qpfa_cons (qpf_sub qpf_int (qpf_ix (qpf_var 8) qpf_int)) (qpfa_cons (qpf_ix (qpf_var 8) qpf_int) qpfa_nil (hs:=star_sub)) (hs:=star_bin))))) qpsf_nil)
  (qpsf_cons (qpsf_if (qpft_w (qpfw_or (qpft_ne hr (qpf_var 3) qpf_str) (qpfw_or1 (qpft_eq hr (qpf_var 11) qpf_str)))) (qpsf_one (qpsf_set 10 nd (qpf_addU (qpf_var 11) (qpf_var 10)))) qpsf_nil)
  (qpsf_cons (qpsf_set 3 nd (qpf_addU (qpf_var 3) (qpf_var 10)))
  (qpsf_one (qpsf_append 4 (qpf_tup (k:=0) (qpfa_cons (qpf_var 9) (qpfa_cons (qpf_var 8) qpfa_nil)))))))) qpsf_nil)))))))))
  (qpsf_one (qpsf_ret (qpf_lst (qpfa_cons (qpf_var 3) (qpfa_cons (qpf_var 4) qpfa_nil)))))))),?_⟩
 intro c k vs hk hv
 have z2:2≤sizeLine:=sz (by decide)
 have z1:1≤sizeLine:=sz (by decide)
 have z6:6≤sizeLine:=sz (by decide)
 have s0:=hs c k hk
 have q6:=modD_int (a:=stir c k) (b:=6) (by decide)
 have b6:=fmod_bd (stir c k) (b:=6) (by decide)
 obtain⟨m',hm',em⟩:=at6 1 1 2 3 4 8 b6.1 b6.2
 obtain⟨m,rfl,hm1,hm8⟩:∃m:Nat,m'=(m:Int)∧1≤m∧m≤8:=⟨m'.toNat,by omega,by omega,by omega⟩
 have lv:lenD [.list (vs.map .str)]=some (.int (vs.length:Int)):=by
  show some (Dat.int _)=_
  rw[List.length_map]
 have av:addU (.list (vs.map .str)) (.list [.str (Str.ofString "")])=some (.list ((vs++[Str.ofString ""]).map .str)):=by
  rw[L3.addU_list (by rw[List.length_map];have:=hv.l;exact sz (by simp;omega)),List.map_append];rfl
 refine runE ?_
 show ∃d,_∧sSeq _ _ [some (.imm (.int c)),some (.imm (.int k)),some (.imm (.list (vs.map .str))),none,none,none,none,none,none,none,none,none]=_
 refine seqE (Γ':=[some (.imm (.int c)),some (.imm (.int k)),some (.imm (.list (vs.map .str))),some (.imm (.str (Str.ofString ""))),none,none,none,none,none,none,none,none]) rfl ?_
 refine seqE (Γ':=[some (.imm (.int c)),some (.imm (.int k)),some (.imm (.list (vs.map .str))),some (.imm (.str (Str.ofString ""))),some (.own ([])),none,none,none,none,none,none,none]) rfl ?_
 refine seqI (fun Γ=>∃(ss:List Sg) (x5 x6 x7 x8 x9 x10 x11:Option Slot),SumOk vs ss∧Γ=[some (.imm (.int c)),some (.imm (.int k)),some (.imm (.list (vs.map .str))),some (.imm (.str (txt (ss.map sgW)))),some (.own ((ss.map sgT).map lwD)),x5,x6,x7,x8,x9,x10,x11]) ?_ ?_
 ·have fs0:(fCons (L3.f2 ixD (fLst (fCons (fC (.int 1)) (fCons (fC (.int 1)) (fCons (fC (.int 2)) (fCons (fC (.int 3)) (fCons (fC (.int 4)) (fCons (fC (.int 8)) fNil))))))) (L3.f2 modD (fFn 2 Fs (fCons (fVar 0) (fCons (fVar 1) fNil))) (fC (.int 6)))) fNil) (allV [some (.imm (.int c)),some (.imm (.int k)),some (.imm (.list (vs.map .str))),some (.imm (.str (Str.ofString ""))),some (.own ([])),none,none,none,none,none,none,none])=some [.int (m:Int)]:=by
   generalize Dat.list (vs.map .str)=dv at *
   dsimp![s0,q6,z6,em]
  refine forR_ex2 (n:=m) (fun j Γ=>∃(ss:List Sg) (x5 x6 x7 x8 x9 x10 x11:Option Slot),ss.length≤j∧(1≤j→ss≠[])∧(∀t∈ss,trOk t.2)∧(∀t∈ss,∀x,trN t.2=some x→x∈vs)∧(txt (ss.map sgW)).length≤80∧Γ=[some (.imm (.int c)),some (.imm (.int k)),some (.imm (.list (vs.map .str))),some (.imm (.str (txt (ss.map sgW)))),some (.own ((ss.map sgT).map lwD)),x5,x6,x7,x8,x9,x10,x11]) fs0 (by omega) ⟨[],none,none,none,none,none,none,none,Nat.le_refl _,(fun z=>absurd z (by decide)),(fun t ht=>by cases ht),(fun t ht=>by cases ht),Nat.zero_le _,by rw[emp_eq];rfl⟩ ?st ?fin
  case fin=>
   rintro Γ ⟨ss,x5,x6,x7,x8,x9,x10,x11,hl,hne,hok,hnm,hz,rfl⟩
   exact⟨ss,x5,x6,x7,x8,x9,x10,x11,⟨hne hm1,by omega,hok,hnm,hz⟩,rfl⟩
  case st=>
   rintro i Γ hi ⟨ss,x5,x6,x7,x8,x9,x10,x11,hl,hne,hok,hnm,hz,rfl⟩
   refine⟨[(5,nat i)],rfl,?_⟩
   show ∃Γ',sSeq _ _ [some (.imm (.int c)),some (.imm (.int k)),some (.imm (.list (vs.map .str))),some (.imm (.str (txt (ss.map sgW)))),some (.own ((ss.map sgT).map lwD)),some (.imm (nat i)),x6,x7,x8,x9,x10,x11]=_∧_
   have hnk:∀t∈ss,trOk t.2:=hok
   have m1:=mulR 2 (b:=(i:Int)) (by omega) (by omega)
   have s1:=hs c (k+1+2*(i:Int)) (by omega)
   have s2:=hs c (k+2+2*(i:Int)) (by omega)
   have s3:=hs c (k+100+(i:Int)) (by omega)
   have b1:=stir_bd c (k+1+2*(i:Int))
   have b2:=stir_bd c (k+2+2*(i:Int))
   have b3:=stir_bd c (k+100+(i:Int))
   generalize stir c (k+1+2*(i:Int))=nb at s1 b1
   generalize stir c (k+2+2*(i:Int))=f1 at s2 b2
   generalize stir c (k+100+(i:Int))=f2 at s3 b3
   obtain⟨w,hw,ef⟩:=hF f1 f2 b2.1 b3.1
   have q4:=fdivD_int (a:=nb) (b:=4) (by decide) (by decide)
   have qv:=modD_int (a:=nb.fdiv 4) (b:=(vs.length:Int)+1) (by omega)
   have bv:=fmod_bd (nb.fdiv 4) (b:=(vs.length:Int)+1) (by omega)
   obtain⟨o,ho,eo⟩:=at_nm (vs:=vs) bv.1 bv.2
   have hgo:∀x,o=some x→GdN x:=fun x hx=>hv.gd x (ho x hx)
   have en:=nmo_ne hgo
   have q3:=modD_int (a:=nb) (b:=3) (by decide)
   have q64:=fdivD_int (a:=nb) (b:=64) (by decide) (by decide)
   have q642:=modD_int (a:=nb.fdiv 64) (b:=2) (by decide)
   have b642:=fmod_bd (nb.fdiv 64) (b:=2) (by decide)
   obtain⟨ng,esg⟩:=sgn_at b642.1 b642.2
   generalize hdo:Dat.list ((ss.map sgT).map lwD)=dow
   generalize hdw:txt (ss.map sgW)=tx at hz
   refine exS (Γ1:=[some (.imm (.int c)),some (.imm (.int k)),some (.imm (.list (vs.map .str))),some (.imm (.str tx)),some (.own ((ss.map sgT).map lwD)),some (.imm (nat i)),some (.imm (.int nb)),x7,x8,x9,x10,x11]) (by
    generalize Dat.list (vs.map .str)=dv at *
    generalize (ss.map sgT).map lwD=dow at *
    dsimp![addU_int,m1,s1]) ?_
   refine exS (Γ1:=[some (.imm (.int c)),some (.imm (.int k)),some (.imm (.list (vs.map .str))),some (.imm (.str tx)),some (.own ((ss.map sgT).map lwD)),some (.imm (nat i)),some (.imm (.int nb)),some (.imm (.str (nwT w))),some (.imm (frD (nwV w))),x9,x10,x11]) (by
    generalize Dat.list (vs.map .str)=dv at *
    generalize (ss.map sgT).map lwD=dow at *
    refine sAsg_eq (d:=.list [.str (nwT w),frD (nwV w)]) (as:=[(7,.str (nwT w)),(8,frD (nwV w))]) ?_ rfl
    generalize Dat.list [.str (nwT w),frD (nwV w)]=dd at *
    dsimp![addU_int,m1,s2,s3,ef]) ?_
   refine exS (Γ1:=[some (.imm (.int c)),some (.imm (.int k)),some (.imm (.list (vs.map .str))),some (.imm (.str tx)),some (.own ((ss.map sgT).map lwD)),some (.imm (nat i)),some (.imm (.int nb)),some (.imm (.str (nwT w))),some (.imm (frD (nwV w))),some (.imm (.str (lwN o))),x10,x11]) (by
    generalize Dat.list ((vs++[Str.ofString ""]).map .str)=dv2 at *
    generalize Dat.list (vs.map .str)=dv at *
    generalize (ss.map sgT).map lwD=dow at *
    generalize Dat.str (lwN o)=dn at *
    generalize frD (nwV w)=dfr at *
    dsimp![av,z1,q4,lv,addU_int,qv,eo]) ?_
   refine exS (Γ1:=[some (.imm (.int c)),some (.imm (.int k)),some (.imm (.list (vs.map .str))),some (.imm (.str tx)),some (.own ((ss.map sgT).map lwD)),some (.imm (nat i)),some (.imm (.int nb)),some (.imm (.str (nwT w))),some (.imm (frD (nwV w))),some (.imm (.str (lwN o))),some (.imm (.str (nwT w))),x11]) (by
    generalize Dat.list (vs.map .str)=dv at *
    generalize (ss.map sgT).map lwD=dow at *
    generalize frD (nwV w)=dfr at *
    dsimp![]) ?_
   refine exI (fun Γ=>∃t:Tr,trOk t∧trN t=o∧Γ=[some (.imm (.int c)),some (.imm (.int k)),some (.imm (.list (vs.map .str))),some (.imm (.str tx)),some (.own ((ss.map sgT).map lwD)),some (.imm (nat i)),some (.imm (.int nb)),some (.imm (.str (nwT w))),some (.imm (frD (trV t))),some (.imm (.str (lwN o))),some (.imm (.str (trT t))),x11]) ?_ ?_
   ·cases o with
    |none=>
     refine⟨_,?_,.nu w,hw,rfl,rfl⟩
     show sIf _ _ _ [some (.imm (.int c)),some (.imm (.int k)),some (.imm (.list (vs.map .str))),some (.imm (.str tx)),some (.own ((ss.map sgT).map lwD)),some (.imm (nat i)),some (.imm (.int nb)),some (.imm (.str (nwT w))),some (.imm (frD (nwV w))),some (.imm (.str (Str.ofString ""))),some (.imm (.str (nwT w))),x11]=_
     have en:neD (.str (Str.ofString "")) (.str (Str.ofString ""))=some (.bool false):=en
     show _=some (Fl.nx [some (.imm (.int c)),some (.imm (.int k)),some (.imm (.list (vs.map .str))),some (.imm (.str tx)),some (.own ((ss.map sgT).map lwD)),some (.imm (nat i)),some (.imm (.int nb)),some (.imm (.str (nwT w))),some (.imm (frD (nwV w))),some (.imm (.str (Str.ofString ""))),some (.imm (.str (nwT w))),x11])
     generalize Dat.list (vs.map .str)=dv at *
     generalize (ss.map sgT).map lwD=dow at *
     generalize frD (nwV w)=dfr at *
     dsimp![en]
    |some n=>
     have hgn:=hgo n rfl
     have en:neD (.str n) (.str (Str.ofString ""))=some (.bool true):=en
     by_cases c3:nb.fmod 3=0
     ·refine⟨_,?_,.nm n,hgn,rfl,rfl⟩
      show sIf _ _ _ [some (.imm (.int c)),some (.imm (.int k)),some (.imm (.list (vs.map .str))),some (.imm (.str tx)),some (.own ((ss.map sgT).map lwD)),some (.imm (nat i)),some (.imm (.int nb)),some (.imm (.str (nwT w))),some (.imm (frD (nwV w))),some (.imm (.str n)),some (.imm (.str (nwT w))),x11]=_
      show _=some (Fl.nx [some (.imm (.int c)),some (.imm (.int k)),some (.imm (.list (vs.map .str))),some (.imm (.str tx)),some (.own ((ss.map sgT).map lwD)),some (.imm (nat i)),some (.imm (.int nb)),some (.imm (.str (nwT w))),some (.imm (.tuple [.int 1,.int 1])),some (.imm (.str n)),some (.imm (.str n)),x11])
      generalize Dat.list (vs.map .str)=dv at *
      generalize (ss.map sgT).map lwD=dow at *
      generalize frD (nwV w)=dfr at *
      generalize Dat.str n=dn at *
      dsimp![en,q3,eqD_int,eq_true c3,z2]
     ·refine⟨_,?_,.nn w n,⟨hw,hgn⟩,rfl,rfl⟩
      have hl13:=nwT_len hw
      have hl8:=hgn.1.len
      have lS:cS.length=1:=by show(Str.ofString "*").length=1;rw[slen];rfl
      have a1:=addU_str (a:=nwT w) (b:=cS) (by omega)
      have a2:=addU_str (a:=nwT w++cS) (b:=n) (by rw[sapp];omega)
      show sIf _ _ _ [some (.imm (.int c)),some (.imm (.int k)),some (.imm (.list (vs.map .str))),some (.imm (.str tx)),some (.own ((ss.map sgT).map lwD)),some (.imm (nat i)),some (.imm (.int nb)),some (.imm (.str (nwT w))),some (.imm (frD (nwV w))),some (.imm (.str n)),some (.imm (.str (nwT w))),x11]=_
      generalize Dat.list (vs.map .str)=dv at *
      generalize (ss.map sgT).map lwD=dow at *
      show _=some (Fl.nx [some (.imm (.int c)),some (.imm (.int k)),some (.imm (dv)),some (.imm (.str tx)),some (.own (dow)),some (.imm (nat i)),some (.imm (.int nb)),some (.imm (.str (nwT w))),some (.imm (frD (nwV w))),some (.imm (.str n)),some (.imm (.str (nwT w++cS++n))),x11])
      generalize frD (nwV w)=dfr at *
      generalize Dat.str (nwT w++cS++n)=dq2 at *
      generalize Dat.str (nwT w++cS)=dq1 at *
      generalize Dat.str (nwT w)=dq0 at *
      generalize Dat.str n=dn at *
      dsimp![en,q3,eqD_int,eq_false c3,a1,a2]
   ·rintro Γ ⟨t,ht,hto,rfl⟩
    refine exS (Γ1:=[some (.imm (.int c)),some (.imm (.int k)),some (.imm (.list (vs.map .str))),some (.imm (.str tx)),some (.own ((ss.map sgT).map lwD)),some (.imm (nat i)),some (.imm (.int nb)),some (.imm (.str (nwT w))),some (.imm (frD (trV t))),some (.imm (.str (lwN o))),some (.imm (.str (trT t))),some (.imm (.str (if ng=true then Str.ofString "-" else Str.ofString "+")))]) (by
     generalize Dat.list (vs.map .str)=dv at *
     generalize (ss.map sgT).map lwD=dow at *
     generalize frD (trV t)=dfr at *
     generalize Dat.str (if ng=true then Str.ofString "-" else Str.ofString "+")=dsg at *
     dsimp![q64,q642,esg]) ?_
    have hlt:=trT_len ht
    have l1:=len_u (x:=tx) (by omega)
    have l2:=len_u (x:=trT t) (by omega)
    have esm:eqD (.str (if ng=true then Str.ofString "-" else Str.ofString "+")) (.str (Str.ofString "-"))=some (.bool ng):=by
     show some (Dat.bool _)=_
     cases ng
     ·rw[if_neg Bool.false_ne_true,show decide (Str.ofString "+"=Str.ofString "-")=false by decide +kernel]
     ·rw[if_pos rfl];simp
    have ewn:neD (.str tx) (.str (Str.ofString ""))=some (.bool (!decide (tx=Str.ofString ""))):=by
     show some (Dat.bool (!_))=_
     congr
    have lsg:(if ng=true then Str.ofString "-" else Str.ofString "+").length=1:=by
     cases ng
     ·rw[if_neg Bool.false_ne_true,slen];rfl
     ·rw[if_pos rfl,slen];rfl
    have est:=stp_txt tx ng (trT t)
    have hsn':(tl (Tx.stp tx ⟨ng,trT t⟩)).length≤tx.length+(trT t).length+1:=by
     have:=Tx.stp_ln tx ⟨ng,trT t⟩
     rw[tl_len tx]at this
     exact this
    generalize hsg:(if ng=true then Str.ofString "-" else Str.ofString "+")=sgn at *
    by_cases hle:(tx.length:Int)+1+((trT t).length:Int)≤80
    ·have a1:=addU_str (a:=sgn) (b:=trT t) (by omega)
     obtain⟨W2,hW2⟩:∃W2,(if(!decide (tx=Str.ofString "") || ng)=true then sgn++trT t else trT t)=W2:=⟨_,rfl⟩
     have hW2l:W2.length≤23:=by
      rw[← hW2]
      split
      ·rw[sapp];omega
      ·omega
     rw[hW2]at est
     have a2:=addU_str (a:=tx) (b:=W2) (by omega)
     rw[est]at a2
     have hzl:((ss.map sgT).map lwD).length<sizeLine:=by rw[List.length_map,List.length_map];exact small1000 (by omega)
     refine⟨[some (.imm (.int c)),some (.imm (.int k)),some (.imm (.list (vs.map .str))),some (.imm (.str (Tx.stp tx ⟨ng,trT t⟩))),some (.own (((ss.map sgT).map lwD)++[.tuple [.str (lwN o),frD (if ng=true then ngP (trV t)else trV t)]])),some (.imm (nat i)),some (.imm (.int nb)),some (.imm (.str (nwT w))),some (.imm (frD (if ng=true then ngP (trV t)else trV t))),some (.imm (.str (lwN o))),some (.imm (.str W2)),some (.imm (.str sgn))],(sIf_t (by
      generalize Dat.list (vs.map .str)=dv at *
      generalize (ss.map sgT).map lwD=dow at *
      generalize frD (trV t)=dfr at *
      generalize Dat.str tx=dtx at *
      generalize Dat.str (trT t)=dtt at *
      dsimp![l1,l2,addU_int,leD_int,eq_true hle])).trans ?_,ss++[(ng,t)],some (.imm (nat i)),some (.imm (.int nb)),some (.imm (.str (nwT w))),some (.imm (frD (if ng=true then ngP (trV t)else trV t))),some (.imm (.str (lwN o))),some (.imm (.str W2)),some (.imm (.str sgn)),by rw[List.length_append];show _+1≤i+1;omega,(fun _ z=>by have:=congrArg List.length z;rw[List.length_append]at this;simp at this),?_,?_,?_,?_⟩
     ·rw[sSeq_nx (Γ':=[some (.imm (.int c)),some (.imm (.int k)),some (.imm (.list (vs.map .str))),some (.imm (.str tx)),some (.own ((ss.map sgT).map lwD)),some (.imm (nat i)),some (.imm (.int nb)),some (.imm (.str (nwT w))),some (.imm (frD (if ng=true then ngP (trV t)else trV t))),some (.imm (.str (lwN o))),some (.imm (.str (trT t))),some (.imm (.str sgn))]) (by
       cases ng with
       |true=>
        rw[if_pos rfl]
        have i0:ixD (frD (trV t)) (.int 0)=some (.int (trV t).1):=rfl
        have i1:ixD (frD (trV t)) (.int 1)=some (.int (trV t).2):=rfl
        have sb:=subD_int 0 (trV t).1
        rw[show(0:Int)-(trV t).1=-(trV t).1 by omega]at sb
        show _=some (Fl.nx [some (.imm (.int c)),some (.imm (.int k)),some (.imm (.list (vs.map .str))),some (.imm (.str tx)),some (.own ((ss.map sgT).map lwD)),some (.imm (nat i)),some (.imm (.int nb)),some (.imm (.str (nwT w))),some (.imm (.tuple [.int (-(trV t).1),.int (trV t).2])),some (.imm (.str (lwN o))),some (.imm (.str (trT t))),some (.imm (.str sgn))])
        generalize Dat.list (vs.map .str)=dv at *
        generalize (ss.map sgT).map lwD=dow at *
        generalize frD (trV t)=dfr at *
        generalize Dat.str sgn=dsg at *
        dsimp![esm,i0,i1,sb,z2]
       |false=>
        rw[if_neg Bool.false_ne_true]
        generalize Dat.list (vs.map .str)=dv at *
        generalize (ss.map sgT).map lwD=dow at *
        generalize frD (trV t)=dfr at *
        generalize Dat.str sgn=dsg at *
        dsimp![esm])]
      generalize frD (if ng=true then ngP (trV t)else trV t)=dfr at *
      rw[sSeq_nx (Γ':=[some (.imm (.int c)),some (.imm (.int k)),some (.imm (.list (vs.map .str))),some (.imm (.str tx)),some (.own ((ss.map sgT).map lwD)),some (.imm (nat i)),some (.imm (.int nb)),some (.imm (.str (nwT w))),some (.imm (dfr)),some (.imm (.str (lwN o))),some (.imm (.str W2)),some (.imm (.str sgn))]) (by
       have tst:fOrT (fTest (L3.f2 neD (fVar 3) (fC (.str (Str.ofString ""))))) (fTest (L3.f2 eqD (fVar 11) (fC (.str (Str.ofString "-"))))) (allV [some (.imm (.int c)),some (.imm (.int k)),some (.imm (.list (vs.map .str))),some (.imm (.str tx)),some (.own ((ss.map sgT).map lwD)),some (.imm (nat i)),some (.imm (.int nb)),some (.imm (.str (nwT w))),some (.imm (dfr)),some (.imm (.str (lwN o))),some (.imm (.str (trT t))),some (.imm (.str sgn))])=some (!decide (tx=Str.ofString "") || ng):=by
        generalize Dat.list (vs.map .str)=dv at *
        generalize (ss.map sgT).map lwD=dow at *
        generalize hb:(!decide (tx=Str.ofString ""))=bb at *
        generalize Dat.str sgn=dsg at *
        generalize Dat.str tx=dtx at *
        cases bb<;>dsimp![ewn,esm]<;>rfl
       cases hb:(!decide (tx=Str.ofString "") || ng)with
       |true=>
        rw[hb]at tst
        rw[hb,if_pos rfl]at hW2
        rw[← hW2]
        refine(sIf_t tst).trans ?_
        generalize Dat.list (vs.map .str)=dv at *
        generalize (ss.map sgT).map lwD=dow at *
        generalize Dat.str (sgn++trT t)=dq at *
        generalize Dat.str sgn=dsg at *
        generalize Dat.str (trT t)=dtt at *
        dsimp![a1]
       |false=>
        rw[hb]at tst
        rw[hb,if_neg Bool.false_ne_true]at hW2
        rw[← hW2]
        exact(sIf_f tst).trans rfl)]
      rw[sSeq_nx (Γ':=[some (.imm (.int c)),some (.imm (.int k)),some (.imm (.list (vs.map .str))),some (.imm (.str (Tx.stp tx ⟨ng,trT t⟩))),some (.own ((ss.map sgT).map lwD)),some (.imm (nat i)),some (.imm (.int nb)),some (.imm (.str (nwT w))),some (.imm (dfr)),some (.imm (.str (lwN o))),some (.imm (.str W2)),some (.imm (.str sgn))]) (by
       generalize Dat.list (vs.map .str)=dv at *
       generalize (ss.map sgT).map lwD=dow at *
       generalize Dat.str (Tx.stp tx ⟨ng,trT t⟩)=dq at *
       generalize Dat.str tx=dtx at *
       generalize Dat.str W2=dw2 at *
       dsimp![a2])]
      generalize (ss.map sgT).map lwD=dow at *
      generalize Dat.list (vs.map .str)=dv at *
      generalize Dat.str (Tx.stp tx ⟨ng,trT t⟩)=dq at *
      generalize Dat.str (lwN o)=dno at *
      dsimp![z2,hzl]
     ·intro u hu
      rcases List.mem_append.mp hu with h|h
      ·exact hok u h
      ·rw[List.mem_singleton.mp h];exact ht
     ·intro u hu x hx
      rcases List.mem_append.mp hu with h|h
      ·exact hnm u h x hx
      ·rw[List.mem_singleton.mp h]at hx
       exact ho x (hto▸hx)
     ·rw[txt_snoc,hdw]
      show(Tx.stp tx ⟨ng,trT t⟩).length≤80
      have:(tl (Tx.stp tx ⟨ng,trT t⟩)).length=(Tx.stp tx ⟨ng,trT t⟩).length:=tl_len _
      have hsn:(tl (Tx.stp tx ⟨ng,trT t⟩)).length≤_:=hsn'
      omega
     ·rw[txt_snoc,hdw,List.map_append,List.map_append]
      show _=([some (.imm (.int c)),some (.imm (.int k)),some (.imm (.list (vs.map .str))),some (.imm (.str (Tx.stp tx ⟨ng,trT t⟩))),some (.own ((ss.map sgT).map lwD++[.tuple [.str (lwN (trN t)),frD (if ng=true then ngP (trV t)else trV t)]])),some (.imm (nat i)),some (.imm (.int nb)),some (.imm (.str (nwT w))),some (.imm (frD (if ng=true then ngP (trV t)else trV t))),some (.imm (.str (lwN o))),some (.imm (.str W2)),some (.imm (.str sgn))]:Gam)
      rw[hto]
    ·refine⟨_,(sIf_f (by
      generalize Dat.list (vs.map .str)=dv at *
      generalize (ss.map sgT).map lwD=dow at *
      generalize frD (trV t)=dfr at *
      generalize Dat.str tx=dtx at *
      generalize Dat.str (trT t)=dtt at *
      dsimp![l1,l2,addU_int,leD_int,eq_false hle])).trans rfl,ss,some (.imm (nat i)),some (.imm (.int nb)),some (.imm (.str (nwT w))),some (.imm (frD (trV t))),some (.imm (.str (lwN o))),some (.imm (.str (trT t))),some (.imm (.str sgn)),by omega,?_,hok,hnm,by rw[hdw];exact hz,by rw[hdw]⟩
     intro _ hss
     rw[hss]at hdw
     have:tx.length=0:=by rw[← hdw];rfl
     omega
 ·rintro Γ ⟨ss,x5,x6,x7,x8,x9,x10,x11,hss,rfl⟩
  refine⟨_,⟨ss,hss,rfl⟩,sRet_eq ?_⟩
  show fLst (fCons (fVar 3) (fCons (fVar 4) fNil)) _=some (Dat.list [.str (txt (ss.map sgW)),.list ((ss.map sgT).map lwD)])
  generalize (ss.map sgT).map lwD=dl at *
  dsimp![z2]
end
end
section
noncomputable section
variable {P:Program} {w:World} {K:Fg} {mg:Str→Option Value} {base:Heap} {f:Addr} {fd:FuncData}
def GdO (o:Option Str):Prop:=∀x,o=some x→GdN x
theorem lw_inj {a b:Option Str} (ha:GdO a) (hb:GdO b) (h:lwN a=lwN b):a=b:=by
 cases a with
 |none=>
  cases b with
  |none=>rfl
  |some y=>exact absurd (show tl y=[] by rw[← show Str.ofString ""=y from h,emp_eq]) (hb y rfl).1.ne
 |some x=>
  cases b with
  |none=>exact absurd (show tl x=[] by rw[show x=Str.ofString "" from h,emp_eq]) (ha x rfl).1.ne
  |some y=>rw[show x=y from h]
theorem lw_eq {a b:Option Str} (ha:GdO a) (hb:GdO b):eqD (.str (lwN a)) (.str (lwN b))=some (.bool (decide (a=b))):=by
 show some (Dat.bool _)=_
 by_cases h:a=b
 ·subst h;simp
 ·rw[decide_eq_false (fun z=>h (lw_inj ha hb z)),decide_eq_false h]
structure TsOk (ts:List Tm):Prop where
 gd:∀t∈ts,GdO t.1
 pd:∀t∈ts,Pd t.2
 l:ts.length≤98
abbrev TgS (F:List Dat→Option Dat):Prop:=∀(nm:Option Str) (ts:List Tm),GdO nm→TsOk ts→F [.list (ts.map lwD),.str (lwN nm)]=some (frD (unF nm ts))
theorem d_ltog (T:TX mg) {Fl':List Dat→Option Dat} (Dl_least:Dn P w K mg base 2 "_law_least" ["n","d"] 2 Fl') (hL:LsS Fl') (U:FnAt K mg "_law_together" (top 52) ["terms","name"]):
  ∃F,Dn P w K mg base 3 "_law_together" ["terms","name"] 2 F∧TgS F:=by
 refine⟨_,qdnA ["terms","name","n","d","one","by"] U fun nd _ _ _ _ _ _ _ hr=>(qpsf_cons (qpsf_set 2 nd qpf_int)
  (qpsf_cons (qpsf_set 3 nd qpf_int)
  (qpsf_cons (qpsf_for PassesOwn.never rfl (qpf_var 0) (qpgf_tup (n:=2) rfl (qpgfs_cons (qpgf_name 4 nd) (qpgfs_cons (qpgf_name 5 nd) qpgfs_nil)))
  (qpsf_one (qpsf_if (qpft_eq hr (qpf_var 4) (qpf_var 1)) (qpsf_cons (qpsf_set 2 nd (qpf_add (qpf_mul (qpf_var 2) (qpf_ix (qpf_var 5) qpf_int)) (qpf_mul (qpf_ix (qpf_var 5) qpf_int) (qpf_var 3))))
  (qpsf_one (qpsf_set 3 nd (qpf_mul (qpf_var 3) (qpf_ix (qpf_var 5) qpf_int))))) qpsf_nil)))
  (qpsf_one (qpsf_ret (qpf_fn Dl_least hr (qpfa_cons (qpf_var 2) (qpfa_cons (qpf_var 3) qpfa_nil)))))))),?_⟩
 intro nm ts hnm hts
 refine runF_rt ?_
 show sSeq _ _ [some (.imm (.list (ts.map lwD))),some (.imm (.str (lwN nm))),none,none,none,none]=_
 rw[sSeq_nx (Γ':=[some (.imm (.list (ts.map lwD))),some (.imm (.str (lwN nm))),some (.imm (.int 0)),none,none,none]) rfl]
 rw[sSeq_nx (Γ':=[some (.imm (.list (ts.map lwD))),some (.imm (.str (lwN nm))),some (.imm (.int 0)),some (.imm (.int 1)),none,none]) rfl]
 have lp:∀(us:List Tm) (acc:Int×Int) (x4 x5:Option Slot),(∀t∈us,GdO t.1)→(∀t∈us,Pd t.2)→∃y4 y5,forL (aTup 2 (aCons (aName 4) (aCons (aName 5) aNil))) (sIf (fTest (L3.f2 eqD (fVar 4) (fVar 1))) (sSeq (sSet 2 (L3.f2 addD (L3.f2 mulD (fVar 2) (L3.f2 ixD (fVar 5) (fC (.int 1)))) (L3.f2 mulD (L3.f2 ixD (fVar 5) (fC (.int 0))) (fVar 3)))) (sSet 3 (L3.f2 mulD (fVar 3) (L3.f2 ixD (fVar 5) (fC (.int 1)))))) sSkip) (us.map lwD) [some (.imm (.list (ts.map lwD))),some (.imm (.str (lwN nm))),some (.imm (.int acc.1)),some (.imm (.int acc.2)),x4,x5]=some (.nx [some (.imm (.list (ts.map lwD))),some (.imm (.str (lwN nm))),some (.imm (.int (unr nm acc us).1)),some (.imm (.int (unr nm acc us).2)),y4,y5]):=by
  intro us
  induction us with
  |nil=>exact fun acc x4 x5 _ _=>⟨x4,x5,rfl⟩
  |cons t us ih=>
   intro acc x4 x5 hgd hpd
   have hgd':=fun v hv=>hgd v (List.mem_cons_of_mem t hv)
   have hpd':=fun v hv=>hpd v (List.mem_cons_of_mem t hv)
   have q:=lw_eq (hgd t List.mem_cons_self) hnm
   have ht:=sm8 (hpd t List.mem_cons_self)
   by_cases h:t.1=nm
   ·obtain⟨y4,y5,e⟩:=ih (acc.1*t.2.2+t.2.1*acc.2,acc.2*t.2.2) (some (.imm (.str (lwN t.1)))) (some (.imm (frD t.2))) hgd' hpd'
    refine⟨y4,y5,?_⟩
    have ef:unr nm acc (t::us)=unr nm (acc.1*t.2.2+t.2.1*acc.2,acc.2*t.2.2) us:=if_pos h
    rw[ef]
    refine Eq.trans ?_ e
    rw[List.map_cons]
    refine forL_nx (as:=[(4,.str (lwN t.1)),(5,frD t.2)]) rfl ?_
    dsimp!
    rw[decide_eq_true h]at q
    have m1:=mulS acc.1 ht.2.2
    have m2:=mulT acc.2 ht.2.1
    have m3:=mulS acc.2 ht.2.2
    have i0:ixD (frD t.2) (.int 0)=some (.int t.2.1):=rfl
    have i1:ixD (frD t.2) (.int 1)=some (.int t.2.2):=rfl
    generalize frD t.2=dt at *
    generalize Dat.str (lwN t.1)=dn at *
    generalize Dat.str (lwN nm)=dm at *
    generalize Dat.list (ts.map lwD)=dts at *
    dsimp![q,i0,i1,m1,m2,m3,addD_int]
   ·obtain⟨y4,y5,e⟩:=ih acc (some (.imm (.str (lwN t.1)))) (some (.imm (frD t.2))) hgd' hpd'
    refine⟨y4,y5,?_⟩
    have ef:unr nm acc (t::us)=unr nm acc us:=if_neg h
    rw[ef]
    refine Eq.trans ?_ e
    rw[List.map_cons]
    refine forL_nx (as:=[(4,.str (lwN t.1)),(5,frD t.2)]) rfl ?_
    dsimp!
    rw[decide_eq_false h]at q
    show sIf (fTest (L3.f2 eqD (fVar 4) (fVar 1))) _ _ [some (.imm (.list (ts.map lwD))),some (.imm (.str (lwN nm))),some (.imm (.int acc.1)),some (.imm (.int acc.2)),some (.imm (.str (lwN t.1))),some (.imm (frD t.2))]=_
    exact(sIf_f (test2_ok (x:=.str (lwN t.1)) (y:=.str (lwN nm)) rfl rfl q)).trans rfl
 obtain⟨y4,y5,e⟩:=lp ts (0,1) none none hts.gd hts.pd
 refine(sSeq_nx (Γ':=[some (.imm (.list (ts.map lwD))),some (.imm (.str (lwN nm))),some (.imm (.int (unr nm (0,1) ts).1)),some (.imm (.int (unr nm (0,1) ts).2)),y4,y5]) ?_).trans ?_
 ·exact e
 ·obtain⟨h0,h1⟩:=unr_sz nm ts (0,1) 0 hts.pd (by decide) (by decide)
  have el:=hL (unr nm (0,1) ts).1 (unr nm (0,1) ts).2 h0 (Nat.lt_trans (pw_lt (k:=0+ts.length) h1 (by have:=hts.l;omega)) lt600)
  refine sRet_eq ?_
  show fFn 2 Fl' (fCons (fVar 2) (fCons (fVar 3) fNil)) _=some (frD (rd2 (unr nm (0,1) ts).1 (unr nm (0,1) ts).2))
  generalize (unr nm (0,1) ts).1=n1 at *
  generalize (unr nm (0,1) ts).2=n2 at *
  generalize frD (rd2 n1 n2)=dr at *
  generalize Dat.list (ts.map lwD)=dts at *
  dsimp![el]
abbrev LlS (F:List Dat→Option Dat):Prop:=∀(ts us:List Tm) (k k':Str) (tu:Bool) (ns:List Str),K5 k k' tu→(∀t∈ts++us,GdO t.1)→(∀t∈ts++us,Pd t.2)→ts.length+us.length≤98→(∀n∈ns,GdN n)→ns.length≤100→F [.list (ts.map lwD),.str k,.list (us.map lwD),.list (ns.map .str)]=some (lineD k' (ptsN ns (lnT ts us tu)) (bnd (lnT ts us tu)))
theorem k5_ix {k k':Str} {tu:Bool} (h:K5 k k' tu):∃c:Str,ixSD (.str k) (.int 0)=some (.str c)∧eqD (.str c) (.str (Str.ofString ">"))=some (.bool tu):=by
 rcases h with⟨e,e2,e3⟩|⟨e,e2,e3⟩|⟨e,e2,e3⟩|⟨e,e2,e3⟩|⟨e,e2,e3⟩<;>subst e<;>subst e2<;>subst e3
 ·exact⟨⟨#[61]⟩,by rw[show Str.ofString "="=(⟨#[61]⟩:Str) by decide +kernel];rfl,by rw[show Str.ofString ">"=(⟨#[62]⟩:Str) by decide +kernel];rfl⟩
 ·exact⟨⟨#[60]⟩,by rw[show Str.ofString "<="=(⟨#[60,61]⟩:Str) by decide +kernel];rfl,by rw[show Str.ofString ">"=(⟨#[62]⟩:Str) by decide +kernel];rfl⟩
 ·exact⟨⟨#[60]⟩,by rw[show Str.ofString "<"=(⟨#[60]⟩:Str) by decide +kernel];rfl,by rw[show Str.ofString ">"=(⟨#[62]⟩:Str) by decide +kernel];rfl⟩
 ·exact⟨⟨#[62]⟩,by rw[show Str.ofString ">="=(⟨#[62,61]⟩:Str) by decide +kernel];rfl,by rw[show Str.ofString ">"=(⟨#[62]⟩:Str) by decide +kernel];rfl⟩
 ·exact⟨⟨#[62]⟩,by rw[show Str.ofString ">"=(⟨#[62]⟩:Str) by decide +kernel];rfl,by rw[show Str.ofString ">"=(⟨#[62]⟩:Str) by decide +kernel];rfl⟩
theorem ng_comp (ts:List Tm) (ρ0:Rho) (h0:ρ0=[none,none]):compL (aTup 2 (aCons (aName 0) (aCons (aName 1) aNil))) tYesF (fTup (fCons (fVar 0) (fCons (fTup (fCons (L3.f2 subD (fC (.int 0)) (L3.f2 ixD (fVar 1) (fC (.int 0)))) (fCons (L3.f2 ixD (fVar 1) (fC (.int 1))) fNil))) fNil))) ρ0 (ts.map lwD)=some ((ts.map ngT).map lwD):=by
 subst h0
 have z2:2≤sizeLine:=sz (by decide)
 rw[List.map_map]
 refine compL_all lwD _ ts fun t ht=>⟨[(0,.str (lwN t.1)),(1,frD t.2)],rfl,?_⟩
 have i0:ixD (frD t.2) (.int 0)=some (.int t.2.1):=rfl
 have i1:ixD (frD t.2) (.int 1)=some (.int t.2.2):=rfl
 have sb:=subD_int 0 t.2.1
 rw[show(0:Int)-t.2.1=-t.2.1 by omega]at sb
 show _=some (Dat.tuple [.str (lwN t.1),.tuple [.int (-t.2.1),.int t.2.2]])
 generalize frD t.2=df at *
 generalize Dat.str (lwN t.1)=dn at *
 dsimp![i0,i1,sb,z2]
theorem d_lline (T:TX mg) {Ft:List Dat→Option Dat} (Dl_together:Dn P w K mg base 3 "_law_together" ["terms","name"] 2 Ft) (hT:TgS Ft) (U:FnAt K mg "_law_line" (top 53) ["left","sign","right","names"]):
  ∃F,Dn P w K mg base 4 "_law_line" ["left","sign","right","names"] 4 F∧LlS F:=by
 refine⟨_,qdnA ["left","sign","right","names","terms","bound","kind"] U fun nd _ _ _ _ _ _ _ hr=>(qpsf_cons (qpsf_set 4 nd (qpf_addU (qpf_var 0) (qpf_of_l (qpfl_compI rfl (blk_plain (N':=["name","by"])) (qpif_seq (qpf_var 2)) (fun _ _ _ _=>(qpgf_tup (n:=2) rfl (qpgfs_cons (qpgf_name 0 (show(["name","by"]:List Str).Nodup by decide +kernel)) (qpgfs_cons (qpgf_name 1 (show(["name","by"]:List Str).Nodup by decide +kernel)) qpgfs_nil)))) (fun _ _ _ _=>qptsf_nil) (fun _ _ _ _=>(qpf_tup (k:=0) (qpfa_cons (qpf_var 0) (qpfa_cons (qpf_tup (k:=0) (qpfa_cons (qpf_sub qpf_int (qpf_ix (qpf_var 1) qpf_int)) (qpfa_cons (qpf_ix (qpf_var 1) qpf_int) qpfa_nil (hs:=star_sub)) (hs:=star_bin))) qpfa_nil (hs:=star_tup))))) (tg_two rfl rfl)))))
  (qpsf_cons (qpsf_if (qpft_eq hr (qpf_ixS (qpf_var 1) qpf_int) qpf_str) (qpsf_one (qpsf_set 4 nd (qpf_of_l (qpfl_compI rfl (blk_plain (N':=["name","by"])) (qpif_seq (qpf_var 4)) (fun _ _ _ _=>(qpgf_tup (n:=2) rfl (qpgfs_cons (qpgf_name 0 (show(["name","by"]:List Str).Nodup by decide +kernel)) (qpgfs_cons (qpgf_name 1 (show(["name","by"]:List Str).Nodup by decide +kernel)) qpgfs_nil)))) (fun _ _ _ _=>qptsf_nil) (fun _ _ _ _=>(qpf_tup (k:=0) (qpfa_cons (qpf_var 0) (qpfa_cons (qpf_tup (k:=0) (qpfa_cons (qpf_sub qpf_int (qpf_ix (qpf_var 1) qpf_int)) (qpfa_cons (qpf_ix (qpf_var 1) qpf_int) qpfa_nil (hs:=star_sub)) (hs:=star_bin))) qpfa_nil (hs:=star_tup))))) (tg_two rfl rfl))))) qpsf_nil)
  (qpsf_cons (qpsf_set 5 nd (qpf_fn Dl_together hr (qpfa_cons (qpf_var 4) (qpfa_cons qpf_str qpfa_nil))))
  (qpsf_cons (qpsf_set 6 nd (qpf_disp hr (qpfp_cons qpf_str (qpfp_cons qpf_str (qpfp_cons qpf_str (qpfp_cons qpf_str (qpfp_cons qpf_str qpfp_nil))))) (qpf_var 1) (by decide +kernel)))
  (qpsf_one (qpsf_ret (qpf_tup (k:=0) (qpfa_cons (qpf_var 6) (qpfa_cons (qpf_tuple T.tuple (qpfa_cons (qpf_of_l (qpfl_comp rfl (blk_cap (tn:=["name"]) (fv:=["terms"]) (js:=[4]) rfl (by decide +kernel) (by decide +kernel) rfl (by decide +kernel) (by decide +kernel) rfl
   (fun x hx=>by((have hx2:x="terms":=(by simpa using hx));(rcases hx2 with rfl<;>exact⟨_,rfl⟩)))
   (fun p hp=>by((have hp2:p=(("terms" : Str),(4:Nat)):=(by simpa using hp));(rcases hp2 with rfl<;>exact⟨rfl,.inr (.inl rfl),.inl rfl,fun z=>by cases z⟩)))) (qpf_var 3) (fun _ _ _ _=>(qpgf_name 0 (show(["name","terms"]:List Str).Nodup by decide +kernel))) (fun _ _ _ _=>qptsf_nil) (fun _ _ _ _=>(qpf_fn Dl_together hr (qpfa_cons (qpf_var 1) (qpfa_cons (qpf_var 0) qpfa_nil)))) (tg_name rfl))) qpfa_nil)) (qpfa_cons (qpf_tup (k:=0) (qpfa_cons (qpf_sub qpf_int (qpf_ix (qpf_var 5) qpf_int)) (qpfa_cons (qpf_ix (qpf_var 5) qpf_int) qpfa_nil (hs:=star_sub)) (hs:=star_bin))) qpfa_nil (hs:=star_tup)) (hs:=star_call)))))))))),?_⟩
 intro ts us k k' tu ns hk hgd hpd hl hns hnl
 have z3:3≤sizeLine:=sz (by decide)
 have z2:2≤sizeLine:=sz (by decide)
 have zu:(us.map lwD).length<sizeLine:=by rw[List.length_map];exact small1000 (by omega)
 refine runF_rt ?_
 show sSeq _ _ [some (.imm (.list (ts.map lwD))),some (.imm (.str k)),some (.imm (.list (us.map lwD))),some (.imm (.list (ns.map .str))),none,none,none]=_
 refine(sSeq_nx (Γ':=[some (.imm (.list (ts.map lwD))),some (.imm (.str k)),some (.imm (.list (us.map lwD))),some (.imm (.list (ns.map .str))),some (.imm (.list ((ts++us.map ngT).map lwD))),none,none]) (sSet_eq (d:=.list ((ts++us.map ngT).map lwD)) (f2_ok (a:=.list (ts.map lwD)) (b:=.list ((us.map ngT).map lwD)) rfl (fL_ok (compIa_ok (ds:=us.map lwD) rfl zu (ng_comp us _ rfl))) (by rw[L3.addU_list (by rw[List.length_map,List.length_map,List.length_map];exact sz (by omega)),← List.map_append])))).trans ?_
 have hts:TsOk (ts++us.map ngT):=by
  refine⟨fun t ht=>?_,fun t ht=>?_,by rw[List.length_append,List.length_map];exact hl⟩
  ·rcases List.mem_append.mp ht with h|h
   ·exact hgd t (List.mem_append_left _ h)
   ·obtain⟨u,hu,rfl⟩:=List.mem_map.mp h
    exact hgd u (List.mem_append_right _ hu)
  ·rcases List.mem_append.mp ht with h|h
   ·exact hpd t (List.mem_append_left _ h)
   ·obtain⟨u,hu,rfl⟩:=List.mem_map.mp h
    exact ng_pd (hpd u (List.mem_append_right _ hu))
 have hln:TsOk (lnT ts us tu):=by
  cases tu with
  |false=>exact hts
  |true=>
   refine⟨fun t ht=>?_,fun t ht=>?_,by show((ts++us.map ngT).map ngT).length≤98;rw[List.length_map];exact hts.l⟩
   ·obtain⟨u,hu,rfl⟩:=List.mem_map.mp (show t∈(ts++us.map ngT).map ngT from ht)
    exact hts.gd u hu
   ·obtain⟨u,hu,rfl⟩:=List.mem_map.mp (show t∈(ts++us.map ngT).map ngT from ht)
    exact ng_pd (hts.pd u hu)
 obtain⟨c,ec,eg⟩:=k5_ix hk
 have tst:fTest (L3.f2 eqD (L3.f2 ixSD (fVar 1) (fC (.int 0))) (fC (.str (Str.ofString ">")))) (allV [some (.imm (.list (ts.map lwD))),some (.imm (.str k)),some (.imm (.list (us.map lwD))),some (.imm (.list (ns.map .str))),some (.imm (.list ((ts++us.map ngT).map lwD))),none,none])=some tu:=test2_ok (f2_ok rfl rfl ec) rfl eg
 refine(sSeq_nx (Γ':=[some (.imm (.list (ts.map lwD))),some (.imm (.str k)),some (.imm (.list (us.map lwD))),some (.imm (.list (ns.map .str))),some (.imm (.list ((lnT ts us tu).map lwD))),none,none]) ?_).trans ?_
 ·cases tu with
  |true=>
   refine(sIf_t tst).trans (sSet_eq (d:=.list (((ts++us.map ngT).map ngT).map lwD)) (fL_ok (compIa_ok (ds:=(ts++us.map ngT).map lwD) rfl ?_ (ng_comp _ _ rfl))))
   rw[List.length_map];exact small1000 (by have:=hts.l;omega)
  |false=>exact(sIf_f tst).trans rfl
 generalize lnT ts us tu=ls at hln
 have eb:=hT none ls (fun x hx=>by cases hx) hln
 have eb:Ft [.list (ls.map lwD),.str (Str.ofString "")]=some (frD (unF none ls)):=eb
 refine(sSeq_nx (Γ':=[some (.imm (.list (ts.map lwD))),some (.imm (.str k)),some (.imm (.list (us.map lwD))),some (.imm (.list (ns.map .str))),some (.imm (.list (ls.map lwD))),some (.imm (frD (unF none ls))),none]) (sSet_eq (fn2a_ok rfl rfl eb))).trans ?_
 have edk:∀ρ:Rho,fVar 1 ρ=some (.str k)→fDisp ["=","<=","<",">=",">"] (fCons (fC (.str "=")) (fCons (fC (.str "<=")) (fCons (fC (.str "<")) (fCons (fC (.str "<=")) (fCons (fC (.str "<")) fNil))))) (fVar 1) ρ=some (.str k'):=by
  intro ρ h
  unfold fDisp
  rw[h]
  rcases hk with⟨e,e2,e3⟩|⟨e,e2,e3⟩|⟨e,e2,e3⟩|⟨e,e2,e3⟩|⟨e,e2,e3⟩<;>subst e<;>subst e2<;>rfl
 refine(sSeq_nx (Γ':=[some (.imm (.list (ts.map lwD))),some (.imm (.str k)),some (.imm (.list (us.map lwD))),some (.imm (.list (ns.map .str))),some (.imm (.list (ls.map lwD))),some (.imm (frD (unF none ls))),some (.imm (.str k'))]) (sSet_eq (edk _ rfl))).trans ?_
 have ep:compL (aName 0) tYesF (fFn 2 Ft (fCons (fVar 1) (fCons (fVar 0) fNil))) [none,some (.list (ls.map lwD))] (ns.map .str)=some ((ptsN ns ls).map frD):=by
  rw[List.map_map]
  refine compL_all Dat.str (fun n=>frD (unF (some n) ls)) ns fun n hn=>⟨[(0,.str n)],rfl,?_⟩
  exact fn2a_ok rfl rfl (hT (some n) ls (fun x hx=>by cases hx;exact hns n hn) hln)
 have ep2:fCall tupleD (fCons (fL (fComp [none,some 4] (aName 0) tYesF (fFn 2 Ft (fCons (fVar 1) (fCons (fVar 0) fNil))) (fVar 3))) fNil) (allV [some (.imm (.list (ts.map lwD))),some (.imm (.str k)),some (.imm (.list (us.map lwD))),some (.imm (.list (ns.map .str))),some (.imm (.list (ls.map lwD))),some (.imm (frD (unF none ls))),some (.imm (.str k'))])=some (.tuple ((ptsN ns ls).map frD)):=
  call1_ok (d:=.list ((ptsN ns ls).map frD)) (fcomp_ok (d:=.list (ns.map .str)) (ds:=ns.map .str) rfl rfl (by rw[List.length_map];exact small1000 (by omega)) ep) rfl
 refine sRet_eq (tup3_ok rfl ep2 ?_)
 have i0:ixD (frD (unF none ls)) (.int 0)=some (.int (unF none ls).1):=rfl
 have i1:ixD (frD (unF none ls)) (.int 1)=some (.int (unF none ls).2):=rfl
 have sb:=subD_int 0 (unF none ls).1
 rw[show(0:Int)-(unF none ls).1=-(unF none ls).1 by omega]at sb
 show fTup _ (allV [some (.imm (.list (ts.map lwD))),some (.imm (.str k)),some (.imm (.list (us.map lwD))),some (.imm (.list (ns.map .str))),some (.imm (.list (ls.map lwD))),some (.imm (frD (unF none ls))),some (.imm (.str k'))])=some (.tuple [.int (-(unF none ls).1),.int (unF none ls).2])
 generalize frD (unF none ls)=df at *
 generalize Dat.list (ls.map lwD)=dls at *
 generalize Dat.list (ts.map lwD)=dts at *
 generalize Dat.list (us.map lwD)=dus at *
 generalize Dat.list (ns.map .str)=dns at *
 dsimp![i0,i1,sb,z2]
end
end
section
noncomputable section
variable {P:Program} {w:World} {K:Fg} {mg:Str→Option Value} {base:Heap} {f:Addr} {fd:FuncData}
def Wl:Nat→Dat→Prop
 |0,_=>False
 |n+1,.tuple ds=>ds.length≤500∧∀d∈ds,Wl n d
 |n+1,.list ds=>ds.length≤500∧∀d∈ds,Wl n d
 |_+1,.int _=>True
 |_+1,.str _=>True
 |_+1,.none=>True
 |_+1,_=>False
abbrev WlS (n:Nat) (F:List Dat→Option Dat):Prop:=∀d,Wl n d→F [d]=some (.bool true)
theorem eq_nil (ds:List Dat) (h:∀d∈ds,kqdOk 8 d=true):eqD (.list ds) (.list [])=some (.bool (decide (ds=[]))):=by
 unfold eqD
 rw[eqB_any (d:=.list ds) (e:=.list []) (List.all_eq_true.mpr h) rfl (fun b h=>by cases h) (fun b h=>by cases h)]
 by_cases e:ds=[]
 ·subst e;rw[decD_t rfl,decide_eq_true rfl];rfl
 ·rw[decD_f (fun z=>e (by injection z)),decide_eq_false e];rfl
theorem compL_none {gt:Dat→Option Asg} {ft:Rho→Option Bool} {fe:Rho→Option Dat} {ρ0:Rho}:∀ds:List Dat,(∀d∈ds,∃as,gt d=some as∧ft (setR ρ0 as)=some false)→compL gt ft fe ρ0 ds=some []
 |[],_=>rfl
 |d::ds,h=>by
  obtain⟨as,e1,e2⟩:=h d List.mem_cons_self
  have ih:=compL_none (gt:=gt) (ft:=ft) (fe:=fe) (ρ0:=ρ0) ds fun x hx=>h x (List.mem_cons_of_mem _ hx)
  show(gt d).bind _=_
  rw[e1,Option.bind_some]
  show(ft (setR ρ0 as)).bind _=_
  rw[e2,Option.bind_some]
  exact ih
theorem d_lwhole (T:TX mg) (U:FnAt K mg "_law_whole" (top 60) ["thing"]):∀n:Nat,
  ∃F,Dn P w K mg base (1+n) "_law_whole" ["thing"] 1 F∧WlS n F
 |0=>by
  obtain⟨f,fd,U,hm,hB⟩:=U.ex
  exact⟨fun _=>none,dn_none U hm hB,fun d h=>h.elim⟩
 |n+1=>by
  obtain⟨F0,Dl_whole,h0⟩:=d_lwhole T U n
  refine⟨_,qdnA ["thing"] U fun nd _ _ _ _ _ _ _ hr=>(qpsf_cons (qpsf_if (qpft_truth (qpf_isinst2 "tuple" "list" T.isinstance T.tuple T.list (qpf_var 0))) (qpsf_one (qpsf_ret (qpf_eq hr (qpf_of_l (qpfl_comp rfl (blk_plain (N':=["part"])) (qpf_var 0) (fun _ _ _ _=>(qpgf_name 0 (show(["part"]:List Str).Nodup by decide +kernel))) (fun _ _ _ _=>(qptsf_one (qpft_not (qpft_truth (qpf_fn Dl_whole hr (qpfa_cons (qpf_var 0) qpfa_nil)))))) (fun _ _ _ _=>(qpf_var 0)) (tg_name rfl))) (qpf_lst qpfa_nil)))) qpsf_nil)
  (qpsf_one (qpsf_ret (qpf_or (qpf_isN (qpf_var 0) qpf_non) (qpf_one (qpf_and (qpf_isinst2 "str" "int" T.isinstance T.str T.int (qpf_var 0)) (qpf_one (qpf_not (qpf_isinst "bool" T.isinstance T.bool (qpf_var 0)))))))))),?_⟩
  intro d hd
  have sqs:∀(ds:List Dat) (dl:Dat),ds.length≤500→(∀d∈ds,Wl n d)→itemsD dl=some ds→isD2 "tuple" "list" dl=some (.bool true)→runF ["thing"] (sSeq (sIf (fTru (L3.f1 (isD2 "tuple" "list") (fVar 0))) (sRet (L3.f2 eqD (fL (fComp [none] (aName 0) (fNotT (fTru (fFn 1 F0 (fCons (fVar 0) fNil)))) (fVar 0) (fVar 0))) (fLst fNil))) sSkip) (sRet (fOr (L3.f2 isND (fVar 0) (fC .none)) (fAnd (L3.f1 (isD2 "str" "int") (fVar 0)) (fNot (L3.f1 (isD "bool") (fVar 0))))))) [dl]=some (.bool true):=by
   intro ds dl hl ha hi ht
   refine runF_rt (seqRt_ok ?_)
   show sIf _ _ _ [some (.imm (dl))]=_
   refine(sIf_t (by dsimp![ht])).trans (sRet_eq ?_)
   refine f2_ok (a:=.list []) (b:=.list []) (fL_ok (compF_ok (d:=dl) (ds:=ds) rfl hi (small1000 (by omega)) (compL_none ds fun e he=>⟨[(0,e)],rfl,?_⟩))) ?_ ?_
   ·have t:=h0 e (ha e he)
    dsimp![t]
   ·rfl
   ·exact eq_nil [] (fun d h=>by cases h)
  cases d with
  |int i=>
   have t1:isD2 "tuple" "list" (.int i)=some (.bool false):=rfl
   have t2:isD2 "str" "int" (.int i)=some (.bool true):=rfl
   have t3:isD "bool" (.int i)=some (.bool false):=rfl
   have t4:isND (.int i) .none=some (.bool false):=rfl
   generalize Dat.int i=dd at *
   dsimp![t1,t2,t3,t4]
  |str x=>
   have t1:isD2 "tuple" "list" (.str x)=some (.bool false):=rfl
   have t2:isD2 "str" "int" (.str x)=some (.bool true):=rfl
   have t3:isD "bool" (.str x)=some (.bool false):=rfl
   have t4:isND (.str x) .none=some (.bool false):=rfl
   generalize Dat.str x=dd at *
   dsimp![t1,t2,t3,t4]
  |none=>
   have t1:isD2 "tuple" "list" .none=some (.bool false):=rfl
   have t4:isND .none .none=some (.bool true):=rfl
   dsimp![t1,t4]
  |tuple ds=>exact sqs ds _ hd.1 hd.2 rfl rfl
  |list ds=>exact sqs ds _ hd.1 hd.2 rfl rfl
  |_=>exact hd.elim
theorem Nm.ok {x:Str} (h:Nm x):PyData.strOk x=true:=by
 unfold PyData.strOk
 rw[← Array.all_toList,List.all_eq_true]
 intro c hc
 have:=(h.lw c hc).2
 exact decide_eq_true (by omega)
end
end
section
noncomputable section
variable {P:Program} {w:World} {K:Fg} {mg:Str→Option Value} {base:Heap} {f:Addr} {fd:FuncData}
structure RD (Fs Fm Fl Fi Fr Fc:List Dat→Option Dat) (Fw:List Dat→Option (List Dat)) (Fo:List Dat→Option Dat):Prop where
 sg:SgS Fs
 rs:RsS Fs Fm
 rl:RlS Fm Fl
 rr:RrS Fl Fi Fr
 is:IsS Fi
 ch:ChS Fc
 nw:NwN Fw
 ro:RoS Fo
section
variable {vs:List Str} {ss us:List Sg} {Fs Fm Fl Fi Fr Fc Fo:List Dat→Option Dat} {Fw:List Dat→Option (List Dat)}
theorem sm_ok (R:RD Fs Fm Fl Fi Fr Fc Fw Fo) (h:SumOk vs ss):Fm [.str (txt (ss.map sgW))]=some (.list ((ss.map sgT).map tmD)):=by
 cases ss with
 |nil=>exact absurd rfl h.ne
 |cons t ss=>
  have e:=R.rs (sgW t) (ss.map sgW) (fun u=>(Fs [.str (Tx.term u)]).getD .none) (fun u hu=>by
   have hu:u∈(t::ss).map sgW:=hu
   obtain⟨v,hv,rfl⟩:=List.mem_map.mp hu
   exact sg_gw (h.ok v hv)) (by have:=h.l;simp at this ⊢;omega) h.z (fun u hu=>by
   have hu:u∈(t::ss).map sgW:=hu
   obtain⟨v,hv,rfl⟩:=List.mem_map.mp hu
   rw[R.sg v (h.ok v hv)];rfl)
  refine e.trans ?_
  have:(sgW t::ss.map sgW).map (fun u=>(Fs [.str (Tx.term u)]).getD .none)=((t::ss).map sgT).map tmD:=by
   show((t::ss).map sgW).map _=_
   rw[List.map_map,List.map_map]
   refine List.map_congr_left fun v hv=>?_
   show(Fs [.str (Tx.term (sgW v))]).getD .none=_
   rw[R.sg v (h.ok v hv)];rfl
  rw[this]
theorem sm_no (h:SumOk vs ss) {c:Nat} (hc:c<42):c∉tl (txt (ss.map sgW)):=by
 refine Tx.fold_no (by omega) (by omega) _ _ (fun z=>by cases z) ?_
 intro w hw
 obtain⟨v,hv,rfl⟩:=List.mem_map.mp hw
 exact trT_no (h.ok v hv) (by omega) (by omega)
theorem sm_pd (h:SumOk vs ss):∀t∈ss.map sgT,Pd t.2:=by
 intro t ht
 obtain⟨v,hv,rfl⟩:=List.mem_map.mp ht
 exact sgT_pd (h.ok v hv)
theorem sm_nm (h:SumOk vs ss):∀t∈ss.map sgT,∀x,t.1=some x→x∈vs:=by
 intro t ht
 obtain⟨v,hv,rfl⟩:=List.mem_map.mp ht
 exact h.nm v hv
theorem k5_no {k k':Str} {tu:Bool} (h:K5 k k' tu) {c:Nat} (hc:c<42):c∉tl k∧k.length≤2∧PyData.strOk k'=true:=by
 have e1:tl (Str.ofString "=")=[61]:=by decide +kernel
 have e2:tl (Str.ofString "<=")=[60,61]:=by decide +kernel
 have e3:tl (Str.ofString "<")=[60]:=by decide +kernel
 have e4:tl (Str.ofString ">=")=[62,61]:=by decide +kernel
 have e5:tl (Str.ofString ">")=[62]:=by decide +kernel
 rcases h with⟨e,e',_⟩|⟨e,e',_⟩|⟨e,e',_⟩|⟨e,e',_⟩|⟨e,e',_⟩<;>subst e<;>subst e'
 ·exact⟨by rw[e1];simp;omega,by rw[slen];decide,by decide +kernel⟩
 ·exact⟨by rw[e2];simp;omega,by rw[slen];decide,by decide +kernel⟩
 ·exact⟨by rw[e3];simp;omega,by rw[slen];decide,by decide +kernel⟩
 ·exact⟨by rw[e4];simp;omega,by rw[slen];decide,by decide +kernel⟩
 ·exact⟨by rw[e5];simp;omega,by rw[slen];decide,by decide +kernel⟩
theorem nmS_mem {acc:List Str} {t:Tm} {x:Str} (h:x∈nmS acc t):x∈acc∨t.1=some x:=by
 unfold nmS at h
 split at h
 case h_2=>exact .inl h
 case h_1 y e=>
  split at h
  ·exact .inl h
  ·rcases List.mem_append.mp h with h|h
   ·exact .inl h
   ·rw[List.mem_singleton.mp h];exact .inr e
theorem nmS_nd {acc:List Str} {t:Tm} (h:acc.Nodup):(nmS acc t).Nodup:=by
 unfold nmS
 split
 case h_2=>exact h
 case h_1 y e=>
  split
  ·exact h
  ·rename_i hn
   rw[List.nodup_append]
   refine⟨h,(by simp),?_⟩
   intro a ha b hb z
   rw[List.mem_singleton.mp hb]at z
   subst z
   simp at hn
   exact hn ha
theorem nmW_sub:∀(ts:List Tm) (acc:List Str),acc.Nodup→(∀x∈acc,x∈vs)→(∀t∈ts,∀x,t.1=some x→x∈vs)→(nmW acc ts).Nodup∧∀x∈nmW acc ts,x∈vs
 |[],acc,h,h1,_=>⟨h,h1⟩
 |t::ts,acc,h,h1,h2=>by
  refine nmW_sub ts (nmS acc t) (nmS_nd h) ?_ fun u hu=>h2 u (List.mem_cons_of_mem _ hu)
  intro x hx
  rcases nmS_mem hx with h|h
  ·exact h1 x h
  ·exact h2 t List.mem_cons_self x h
theorem nd_len:∀(l vs:List Str),l.Nodup→(∀x∈l,x∈vs)→l.length≤vs.length
 |[],vs,_,_=>Nat.zero_le _
 |a::l,vs,h,hs=>by
  have ha:=hs a List.mem_cons_self
  have h':=List.nodup_cons.mp h
  have:=nd_len l (vs.erase a) h'.2 fun x hx=>by
   have hne:x≠a:=fun z=>h'.1 (z▸hx)
   exact(List.mem_erase_of_ne hne).mpr (hs x (List.mem_cons_of_mem _ hx))
  rw[List.length_erase_of_mem ha]at this
  have:=List.length_pos_of_mem ha
  rw[List.length_cons];omega
theorem nmW_ng (ts:List Tm) (acc:List Str):nmW acc (ts.map ngT)=nmW acc ts:=by
 unfold nmW
 rw[List.foldl_map];rfl
theorem nmW_ln (ts us:List Tm) (tu:Bool) (acc:List Str):nmW acc (lnT ts us tu)=nmW acc (ts++us):=by
 have e:nmW acc (ts++us.map ngT)=nmW acc (ts++us):=by
  have h1:nmW acc (ts++us.map ngT)=nmW (nmW acc ts) (us.map ngT):=List.foldl_append
  have h2:nmW acc (ts++us)=nmW (nmW acc ts) us:=List.foldl_append
  rw[h1,h2,nmW_ng]
 unfold lnT
 split
 ·rw[nmW_ng,e]
 ·exact e
theorem ln_mem {ts us:List Tm} {tu:Bool} {t:Tm} (h:t∈lnT ts us tu):∃u∈ts++us,t.1=u.1∧(Pd u.2→Pd t.2):=by
 have key:∀{t:Tm},t∈ts++us.map ngT→∃u∈ts++us,t.1=u.1∧(Pd u.2→Pd t.2):=by
  intro t h
  rcases List.mem_append.mp h with h|h
  ·exact⟨t,List.mem_append_left _ h,rfl,id⟩
  ·obtain⟨u,hu,rfl⟩:=List.mem_map.mp h
   exact⟨u,List.mem_append_right _ hu,rfl,ng_pd⟩
 unfold lnT at h
 split at h
 ·obtain⟨v,hv,rfl⟩:=List.mem_map.mp h
  obtain⟨u,hu,e,g⟩:=key hv
  exact⟨u,hu,e,fun z=>ng_pd (g z)⟩
 ·exact key h
theorem ln_len (ts us:List Tm) (tu:Bool):(lnT ts us tu).length=ts.length+us.length:=by
 unfold lnT
 split<;>simp
end
end
end
section
noncomputable section
variable {P:Program} {w:World} {K:Fg} {mg:Str→Option Value} {base:Heap} {f:Addr} {fd:FuncData}
abbrev naD (ns:List Nat):List Dat:=ns.map fun n:Nat=>Dat.int (n:Int)
structure FrOk (m:Nat) (fr:List Nat):Prop where
 nd:fr.Nodup
 lt:∀n∈fr,n<m
 ne:1≤fr.length
 l:fr.length≤6
abbrev FrS (F:List Dat→Option Dat):Prop:=∀(c:Int) (m:Nat),1≤m→m≤100→∃d,(∃fr,FrOk m fr∧d=.list (naD fr))∧F [.int c,nat m]=some d
theorem erase_nd {l:List Nat} {k x:Nat} (h:l.Nodup) (hk:l[k]?=some x):(l.eraseIdx k).Nodup∧x∉l.eraseIdx k∧(l.eraseIdx k).length+1=l.length∧∀y∈l.eraseIdx k,y∈l:=by
 have hlt:k<l.length:=(List.getElem?_eq_some_iff.mp hk).1
 have hx:l[k]=x:=(List.getElem?_eq_some_iff.mp hk).2
 refine⟨h.sublist (List.eraseIdx_sublist l k),?_,?_,fun y hy=>(List.eraseIdx_sublist l k).subset hy⟩
 ·rw[List.eraseIdx_eq_take_drop_succ]
  have e:l=l.take k++x::l.drop (k+1):=by rw[← hx,List.getElem_cons_drop,List.take_append_drop]
  rw[e]at h
  obtain⟨h1,h2,h3⟩:=List.nodup_append.mp h
  intro z
  rcases List.mem_append.mp z with z|z
  ·exact h3 x z x List.mem_cons_self rfl
  ·exact(List.nodup_cons.mp h2).1 z
 ·rw[List.length_eraseIdx_of_lt hlt];omega
theorem erase_map:∀(l:List Nat) (j:Nat),(naD l).eraseIdx j=naD (l.eraseIdx j)
 |[],_=>rfl
 |_::_,0=>rfl
 |a::l,j+1=>congrArg (nat a::·) (erase_map l j)
theorem popA_ok {i:Nat} {f:Rho→Option Dat} {Γ:Gam} {ds:List Dat} {d:Dat} {j:Nat} (h1:Γ[i]?=some (some (.own ds))) (h2:f (allV Γ)=some (.int (j:Int))) (h3:ds[j]?=some d) (h4:j<1000):hPopA i f Γ=some (d,Γ.set i (some (.own (ds.eraseIdx j)))):=by
 have hlt:j<ds.length:=(List.getElem?_eq_some_iff.mp h3).1
 have es:seqIndex? (j:Int) ds.length=some j:=by
  unfold seqIndex?
  have:(if(j:Int)<0 then(j:Int)+(ds.length:Int)else(j:Int))=(j:Int):=if_neg (by omega)
  simp only[this]
  rw[if_pos (by simp;omega),Int.toNat_natCast]
 unfold hPopA
 simp only[h1,h2]
 rw[if_pos ⟨by omega,by omega⟩,es,Option.bind_some,h3];rfl
theorem d_lfroms (T:TX mg) {Fs:List Dat→Option Dat} (Dl_stir:Dn P w K mg base 3 "_law_stir" ["cell","k"] 2 Fs) (hs:StS Fs) (U:FnAt K mg "_law_froms" (top 54) ["cell","many"]):
  ∃F,Dn P w K mg base 4 "_law_froms" ["cell","many"] 2 F∧FrS F:=by
 refine⟨_,qdnA ["cell","many","left","found","k"] U fun nd _ _ _ _ _ _ _ hr=>(qpsf_cons (qpsf_own 2 nd (qpfl_lrange rfl T.list T.range (qpfa_cons (qpf_var 1) qpfa_nil)))
  (qpsf_cons (qpsf_own 3 nd (qpfl_lst qpfa_nil))
  (qpsf_cons (qpsf_forR1 PassesOwn.never rfl T.range (qpfa_cons (qpf_min rfl T.min (qpfa_cons (qpf_var 1) (qpfa_cons (qpf_add qpf_int (qpf_mod (qpf_fn Dl_stir hr (qpfa_cons (qpf_var 0) (qpfa_cons qpf_int qpfa_nil))) qpf_int)) qpfa_nil (hs:=star_bin)))) qpfa_nil (hs:=star_call)) (qpgf_name 4 nd) (qpsf_one (qpsf_appH 3 (qph_pop 2 (qpf_mod (qpf_fn Dl_stir hr (qpfa_cons (qpf_var 0) (qpfa_cons (qpf_add qpf_int (qpf_var 4)) qpfa_nil (hs:=star_bin)))) (qpf_len T.len (qpfa_cons (qpf_var 2) qpfa_nil)))))))
  (qpsf_one (qpsf_ret (qpf_var 3)))))),?_⟩
 intro c m h1 h100
 have er:rngL [nat m]=some (naD (List.range m)):=by
  show(if _ then _ else _)=_
  rw[if_pos ⟨by omega,by omega⟩,Int.toNat_natCast]
  unfold rngD naD
  congr 1
  exact List.map_congr_left fun i _=>by rw[Int.zero_add]
 have s1:=hs c 200 (by decide)
 have q6:=modD_int (a:=stir c 200) (b:=6) (by decide)
 have b6:=fmod_bd (stir c 200) (b:=6) (by decide)
 have a1:=addD_int 1 ((stir c 200).fmod 6)
 have mn:minD [nat m,.int (1+(stir c 200).fmod 6)]=_:=minD_int (m:Int) (1+(stir c 200).fmod 6)
 obtain⟨k,ek,hk1,hk6,hkm⟩:∃k:Nat,(if 1+(stir c 200).fmod 6<(m:Int)then 1+(stir c 200).fmod 6 else(m:Int))=(k:Int)∧1≤k∧k≤6∧k≤m:=by
  split
  ·exact⟨(1+(stir c 200).fmod 6).toNat,by omega,by omega,by omega,by omega⟩
  ·exact⟨m,rfl,by omega,by omega,by omega⟩
 rw[ek]at mn
 refine runE ?_
 show ∃d,_∧sSeq _ _ [some (.imm (.int c)),some (.imm (nat m)),none,none,none]=_
 refine seqE (Γ':=[some (.imm (.int c)),some (.imm (nat m)),some (.own (naD (List.range m))),none,none]) (by
  generalize naD (List.range m)=dr at *
  generalize nat m=dm at *
  dsimp![er]) ?_
 refine seqE (Γ':=[some (.imm (.int c)),some (.imm (nat m)),some (.own (naD (List.range m))),some (.own ([])),none]) rfl ?_
 have z0:0≤sizeLine:=Nat.zero_le _
 refine seqI (fun Γ=>∃(fr lf:List Nat) (x4:Option Slot),FrOk m fr∧Γ=[some (.imm (.int c)),some (.imm (nat m)),some (.own (naD lf)),some (.own (naD fr)),x4]) ?_ ?_
 ·have fs0:(fCons (fCall minD (fCons (fVar 1) (fCons (L3.f2 addD (fC (.int 1)) (L3.f2 modD (fFn 2 Fs (fCons (fVar 0) (fCons (fC (.int 200)) fNil))) (fC (.int 6)))) fNil))) fNil) (allV [some (.imm (.int c)),some (.imm (nat m)),some (.own (naD (List.range m))),some (.own ([])),none])=some [.int (k:Int)]:=by
   generalize naD (List.range m)=dr at *
   generalize nat m=dm at *
   generalize (k:Int)=kk at *
   dsimp![s1,q6,a1,mn]
  refine forR_ex2 (n:=k) (fun j Γ=>∃(fr lf:List Nat) (x4:Option Slot),fr.length=j∧lf.length=m-j∧fr.Nodup∧lf.Nodup∧(∀n∈fr,n<m)∧(∀n∈lf,n<m)∧(∀n∈fr,n∉lf)∧Γ=[some (.imm (.int c)),some (.imm (nat m)),some (.own (naD lf)),some (.own (naD fr)),x4]) fs0 (by omega) ⟨[],List.range m,none,rfl,by rw[List.length_range];omega,List.nodup_nil,List.nodup_range,(fun n hn=>by cases hn),(fun n hn=>List.mem_range.mp hn),(fun n hn=>by cases hn),rfl⟩ ?st ?fin
  case fin=>
   rintro Γ ⟨fr,lf,x4,hl,_,hnd,_,hlt,_,_,rfl⟩
   exact⟨fr,lf,x4,⟨hnd,hlt,by omega,by omega⟩,rfl⟩
  case st=>
   rintro i Γ hi ⟨fr,lf,x4,hl,hll,hnd,hnl,hlt,hltl,hdis,rfl⟩
   refine⟨[(4,nat i)],rfl,?_⟩
   show ∃Γ',sAppH _ _ [some (.imm (.int c)),some (.imm (nat m)),some (.own (naD lf)),some (.own (naD fr)),some (.imm (nat i))]=_∧_
   have t1:=hs c (201+(i:Int)) (by omega)
   have a2:addD (.int 201) (nat i)=some (.int (201+(i:Int))):=addD_int 201 (i:Int)
   have ll:lenD [.list (naD lf)]=some (.int (lf.length:Int)):=by
    show some (Dat.int _)=_
    rw[List.length_map]
   have t2:=modD_int (a:=stir c (201+(i:Int))) (b:=(lf.length:Int)) (by omega)
   have b2:=fmod_bd (stir c (201+(i:Int))) (b:=(lf.length:Int)) (by omega)
   obtain⟨j,ej⟩:∃j:Nat,(stir c (201+(i:Int))).fmod (lf.length:Int)=(j:Int):=⟨((stir c (201+(i:Int))).fmod (lf.length:Int)).toNat,by omega⟩
   rw[ej]at t2 b2
   have hj:j<lf.length:=by omega
   obtain⟨y,hy⟩:∃y,lf[j]?=some y:=⟨_,List.getElem?_eq_getElem hj⟩
   obtain⟨n1,n2,n3,n4⟩:=erase_nd hnl hy
   have hyl:y∈lf:=List.mem_of_getElem? hy
   have fe:(L3.f2 modD (fFn 2 Fs (fCons (fVar 0) (fCons (L3.f2 addD (fC (.int 201)) (fVar 4)) fNil))) (fCall lenD (fCons (fVar 2) fNil))) (allV [some (.imm (.int c)),some (.imm (nat m)),some (.own (naD lf)),some (.own (naD fr)),some (.imm (nat i))])=some (.int (j:Int)):=by
    generalize naD lf=dlf at *
    generalize naD fr=dfr at *
    generalize nat m=dm at *
    generalize nat i=di at *
    generalize (j:Int)=jj at *
    generalize (lf.length:Int)=ln at *
    dsimp![a2,t1,ll,t2]
   have hp:hPopA 2 (L3.f2 modD (fFn 2 Fs (fCons (fVar 0) (fCons (L3.f2 addD (fC (.int 201)) (fVar 4)) fNil))) (fCall lenD (fCons (fVar 2) fNil))) [some (.imm (.int c)),some (.imm (nat m)),some (.own (naD lf)),some (.own (naD fr)),some (.imm (nat i))]=some (nat y,[some (.imm (.int c)),some (.imm (nat m)),some (.own (naD (lf.eraseIdx j))),some (.own (naD fr)),some (.imm (nat i))]):=by
    have:=popA_ok (i:=2) (ds:=naD lf) (d:=nat y) (j:=j) rfl fe (by rw[List.getElem?_map,hy];rfl) (by omega)
    rw[this,show(naD lf).eraseIdx j=naD (lf.eraseIdx j)from erase_map lf j]
    rfl
   have zf:(naD fr).length<sizeLine:=by rw[List.length_map];exact small1000 (by omega)
   refine⟨[some (.imm (.int c)),some (.imm (nat m)),some (.own (naD (lf.eraseIdx j))),some (.own (naD (fr++[y]))),some (.imm (nat i))],?_,fr++[y],lf.eraseIdx j,_,by rw[List.length_append,hl];rfl,by omega,?_,n1,?_,fun n hn=>hltl n (n4 n hn),?_,rfl⟩
   ·unfold sAppH
    show(hPopA 2 _ _).bind _=_
    rw[hp,Option.bind_some]
    show gd _ _=_
    rw[show naD (fr++[y])=naD fr++[nat y] by unfold naD;rw[List.map_append];rfl]
    unfold gd
    rw[if_pos zf]
    rfl
   ·rw[List.nodup_append]
    refine⟨hnd,by simp,fun a ha b hb z=>?_⟩
    rw[List.mem_singleton.mp hb]at z
    subst z
    exact hdis a ha hyl
   ·intro n hn
    rcases List.mem_append.mp hn with h|h
    ·exact hlt n h
    ·rw[List.mem_singleton.mp h];exact hltl y hyl
   ·intro n hn
    rcases List.mem_append.mp hn with h|h
    ·exact fun z=>hdis n h (n4 n z)
    ·rw[List.mem_singleton.mp h];exact n2
 ·rintro Γ ⟨fr,lf,x4,hfr,rfl⟩
  refine⟨_,⟨fr,hfr,rfl⟩,sRet_eq rfl⟩
end
end
section
noncomputable section
variable {P:Program} {w:World} {K:Fg} {mg:Str→Option Value} {base:Heap} {f:Addr} {fd:FuncData}
structure Row where
 so:Bool
 ls:List Sg
 rs:List Sg
 k:Str
 k':Str
 tu:Bool
 fr:List Nat
abbrev rwW (r:Row):Str:=if r.so=true then sS else sG
abbrev rwT (r:Row):Dat:=.tuple [.str (rwW r),sumD r.ls,.str r.k,sumD r.rs,.list (naD r.fr)]
structure RwOk (vs:List Str) (m:Nat) (r:Row):Prop where
 sl:SumOk vs r.ls
 sr:SumOk vs r.rs
 hk:K5 r.k r.k' r.tu
 hso:r.so=true→FrOk m r.fr
 hgv:r.so=false→r.fr=[]
abbrev soN (rows:List Row):Nat:=(rows.filter fun r=>r.so).length
abbrev gvN (rows:List Row):Nat:=(rows.filter fun r=>!r.so).length
theorem str_ok {x:Str} (h:∀c,122<c→c∉tl x):PyData.strOk x=true:=by
 unfold PyData.strOk
 rw[← Array.all_toList,List.all_eq_true]
 intro c hc
 refine decide_eq_true ?_
 by_cases h':122<c
 ·exact absurd hc (h c h')
 ·omega
theorem txt_hi {ss:List Sg} (h:∀t∈ss,trOk t.2) {c:Nat} (hc:122<c):c∉tl (txt (ss.map sgW)):=by
 refine Tx.fold_no (by omega) (by omega) _ _ (fun z=>by cases z) ?_
 intro w hw
 obtain⟨v,hv,rfl⟩:=List.mem_map.mp hw
 exact trT_hi (h v hv) hc
theorem kq_sum {vs:List Str} {ss:List Sg} (h:SumOk vs ss) (hv:∀x∈vs,GdN x):kqdOk 7 (sumD ss)=true:=by
 have h1:PyData.strOk (txt (ss.map sgW))=true:=str_ok fun c hc=>txt_hi h.ok hc
 have h2:((ss.map sgT).map lwD).all (kqdOk 5)=true:=by
  rw[List.all_map,List.all_eq_true]
  intro t ht
  have hg:GdO t.1:=fun x hx=>hv x (sm_nm h t ht x hx)
  have h1:PyData.strOk (lwN t.1)=true:=by
   obtain⟨o,q⟩:=t
   cases o with
   |none=>exact(show PyData.strOk (Str.ofString "")=true by decide +kernel)
   |some x=>exact(hg x rfl).1.ok
  show(kqdOk 4 (.str (lwN t.1))&&(kqdOk 4 (frD t.2)&&true))=true
  rw[show kqdOk 4 (.str (lwN t.1))=true from h1];rfl
 show(kqdOk 6 (.str (txt (ss.map sgW)))&&(((ss.map sgT).map lwD).all (kqdOk 5)&&true))=true
 rw[show kqdOk 6 (.str (txt (ss.map sgW)))=true from h1,h2];rfl
theorem k5_ok {k k':Str} {tu:Bool} (h:K5 k k' tu):PyData.strOk k=true:=by
 rcases h with⟨e,_,_⟩|⟨e,_,_⟩|⟨e,_,_⟩|⟨e,_,_⟩|⟨e,_,_⟩<;>subst e<;>decide +kernel
theorem kq_row {vs:List Str} {m:Nat} {r:Row} (h:RwOk vs m r) (hv:∀x∈vs,GdN x):kqdOk 8 (rwT r)=true:=by
 have h1:PyData.strOk (rwW r)=true:=by unfold rwW;split<;>decide +kernel
 have h2:(naD r.fr).all (kqdOk 6)=true:=by rw[List.all_map,List.all_eq_true];exact fun _ _=>rfl
 show(kqdOk 7 (.str (rwW r))&&(kqdOk 7 (sumD r.ls)&&(kqdOk 7 (.str r.k)&&(kqdOk 7 (sumD r.rs)&&((naD r.fr).all (kqdOk 6)&&true)))))=true
 rw[show kqdOk 7 (.str (rwW r))=true from h1,kq_sum h.sl hv,show kqdOk 7 (.str r.k)=true from k5_ok h.hk,kq_sum h.sr hv,h2];rfl
theorem ne_nil (ds:List Dat) (h:∀d∈ds,kqdOk 8 d=true):neD (.list ds) (.list [])=some (.bool (!decide (ds=[]))):=by
 have:=eq_nil ds h
 unfold eqD at this
 unfold neD
 cases e:eqB (.list ds) (.list [])with
 |none=>rw[e]at this;cases this
 |some b=>rw[e]at this;cases this;rfl
theorem cnt_so (rows:List Row):countD (.list (rows.map fun r=>.str (rwW r))) [.str sS]=some (.int (soN rows:Int)):=by
 show(if flatD (.str sS)=true∧_ then some (Dat.int (_:Nat))else none)=_
 rw[if_pos ⟨rfl,by rw[List.all_map,List.all_eq_true];exact fun _ _=>rfl⟩,List.countP_map]
 congr 3
 rw[soN,← List.countP_eq_length_filter]
 refine List.countP_congr fun r _=>?_
 show(rwW r==sS)=true↔r.so=true
 unfold rwW
 cases r.so
 ·rw[if_neg Bool.false_ne_true];exact⟨fun h=>absurd h (by decide +kernel),fun h=>by cases h⟩
 ·rw[if_pos rfl];simp
theorem cnt_gv (rows:List Row):countD (.list (rows.map fun r=>.str (rwW r))) [.str sG]=some (.int (gvN rows:Int)):=by
 show(if flatD (.str sG)=true∧_ then some (Dat.int (_:Nat))else none)=_
 rw[if_pos ⟨rfl,by rw[List.all_map,List.all_eq_true];exact fun _ _=>rfl⟩,List.countP_map]
 congr 3
 rw[gvN,← List.countP_eq_length_filter]
 refine List.countP_congr fun r _=>?_
 show(rwW r==sG)=true↔(!r.so)=true
 unfold rwW
 cases r.so
 ·rw[if_neg Bool.false_ne_true];simp
 ·rw[if_pos rfl];exact⟨fun h=>absurd h (by decide +kernel),fun h=>by cases h⟩
abbrev LrS (F:List Dat→Option Dat):Prop:=∀(c:Int) (rows:List Row) (vs:List Str),Nms vs→rows.length≤100→(∀r∈rows,kqdOk 8 (rwT r)=true)→∃r,RwOk vs rows.length r∧(r.so=true→soN rows<12)∧(r.so=false→¬(rows≠[]∧soN rows<12∧gvN rows=8))∧F [.int c,.list (rows.map rwT),.list (vs.map .str)]=some (rwT r)
theorem setCS_ok {i:Nat} {f:Rho→Option (List Dat)} {Γ:Gam} {ds:List Dat} (h:f (allV Γ)=some ds) (h2:ds.all scD=true):sSetCS i f Γ=some (.nx (Γ.set i (some (.imm (.list ds))))):=by
 unfold sSetCS
 rw[h,Option.bind_some,if_pos h2]
theorem words_c (rows:List Row):compL (aName 0) tYesF (L3.f2 ixD (fVar 0) (fC (.int 0))) [none] (rows.map rwT)=some (rows.map fun r=>.str (rwW r)):=
 compL_all rwT (fun r=>.str (rwW r)) rows fun r _=>⟨[(0,rwT r)],rfl,f2_ok (a:=rwT r) (b:=.int 0) rfl rfl rfl⟩
theorem words_sc (rows:List Row):(rows.map fun r=>Dat.str (rwW r)).all scD=true:=by
 rw[List.all_map,List.all_eq_true];exact fun _ _=>rfl
theorem sig_at {i:Int} (h0:0≤i) (hi:i<5):∃k k' tu,K5 k k' tu∧ixD (.list [.str (Str.ofString "="),.str (Str.ofString "<="),.str (Str.ofString "<"),.str (Str.ofString ">="),.str (Str.ofString ">")]) (.int i)=some (.str k):=by
 have:i=0∨i=1∨i=2∨i=3∨i=4:=by omega
 rcases this with rfl|rfl|rfl|rfl|rfl
 ·exact⟨_,_,_,.inl ⟨rfl,rfl,rfl⟩,rfl⟩
 ·exact⟨_,_,_,.inr (.inl ⟨rfl,rfl,rfl⟩),rfl⟩
 ·exact⟨_,_,_,.inr (.inr (.inl ⟨rfl,rfl,rfl⟩)),rfl⟩
 ·exact⟨_,_,_,.inr (.inr (.inr (.inl ⟨rfl,rfl,rfl⟩))),rfl⟩
 ·exact⟨_,_,_,.inr (.inr (.inr (.inr ⟨rfl,rfl,rfl⟩))),rfl⟩
abbrev lrOr (Fs:List Dat→Option Dat):Rho→Option Bool:=fOrT (fTest (L3.f2 gtD (L3.f2 modD (fFn 2 Fs (fCons (fVar 0) (fCons (fC (.int 61)) fNil))) (fC (.int 5))) (fC (.int 1)))) (fTest (L3.f2 eqD (fMeth countD (fVar 6) (fCons (fC (.str "given")) fNil)) (fC (.int 8))))
abbrev lrFin (Fs Ff:List Dat→Option Dat):Gam→Option Fl:=(sSeq (sIf (fAndT (fTest (L3.f2 neD (fVar 1) (fLst fNil))) (fAndT (fTest (L3.f2 ltD (fMeth countD (fVar 6) (fCons (fC (.str "so")) fNil)) (fC (.int 12)))) (lrOr Fs))) (sRetM (hTup (hCons (hPure (fC (.str "so"))) (hCons (hPure (fVar 3)) (hCons (hPure (fVar 5)) (hCons (hPure (fVar 4)) (hCons (hFn 2 Ff (hCons (hPure (fVar 0)) (hCons (hPure (fCall lenD (fCons (fVar 1) fNil))) hNil))) hNil))))))) sSkip) (sRetM (hPure (fTup (fCons (fC (.str "given")) (fCons (fVar 3) (fCons (fVar 5) (fCons (fVar 4) (fCons (fLst fNil) fNil)))))))))
theorem exM {g1 g2:Gam→Option Fl} {Γ Γ1:Gam} {d:Dat} {I:Gam→Prop} (h:g1 Γ=some (.nx Γ1)) (h2:∃Γ',g2 Γ1=some (.rm d Γ')∧I Γ'):∃Γ',sSeq g1 g2 Γ=some (.rm d Γ')∧I Γ':=by
 rw[sSeq_nx h];exact h2
theorem d_lrow (T:TX mg) {Fs Fsu Ff:List Dat→Option Dat} (Dl_stir:Dn P w K mg base 5 "_law_stir" ["cell","k"] 2 Fs) (hs:StS Fs) (Dl_sum:Dn P w K mg base 5 "_law_sum" ["cell","k","names"] 3 Fsu) (hSu:LmS Fsu) (Dl_froms:Dn P w K mg base 5 "_law_froms" ["cell","many"] 2 Ff) (hF:FrS Ff) (U:FnAt K mg "_law_row" (top 55) ["cell","rows","names"]):
  ∃F,DnB P w K mg base 6 "_law_row" ["cell","rows","names"] 3 1 F∧LrS F:=by
 refine⟨_,qdnB ["cell","rows","names","left","right","sign","words"] 1 U fun nd _ _ _ _ _ _ _ hr=>(qpsf_cons (qpsf_set 3 nd (qpf_fn Dl_sum hr (qpfa_cons (qpf_var 0) (qpfa_cons qpf_int (qpfa_cons (qpf_var 2) qpfa_nil)))))
  (qpsf_cons (qpsf_set 4 nd (qpf_fn Dl_sum hr (qpfa_cons (qpf_var 0) (qpfa_cons qpf_int (qpfa_cons (qpf_var 2) qpfa_nil)))))
  (qpsf_cons (qpsf_set 5 nd (qpf_ix (qpf_lst (qpfa_cons qpf_str (qpfa_cons qpf_str (qpfa_cons qpf_str (qpfa_cons qpf_str (qpfa_cons qpf_str qpfa_nil)))))) (qpf_mod (qpf_fn Dl_stir hr (qpfa_cons (qpf_var 0) (qpfa_cons qpf_int qpfa_nil))) qpf_int)))
  (qpsf_cons (qpsf_setCS 6 nd rfl (blk_plain (N':=["row"])) (qpif_seq (qpf_var 1)) (fun _ _ _ _=>(qpgf_name 0 (show(["row"]:List Str).Nodup by decide +kernel))) (fun _ _ _ _=>qptsf_nil) (fun _ _ _ _=>(qpf_ix (qpf_var 0) qpf_int)) (tg_name rfl))
  (qpsf_cons (qpsf_if (qpft_w (qpfw_and (qpft_ne hr (qpf_var 1) (qpf_lst qpfa_nil)) (qpfw_and (qpft_lt (qpf_count (qpf_var 6) (qpfa_cons qpf_str qpfa_nil)) qpf_int) (qpfw_and1 (qpft_w (qpfw_or (qpft_gt (qpf_mod (qpf_fn Dl_stir hr (qpfa_cons (qpf_var 0) (qpfa_cons qpf_int qpfa_nil))) qpf_int) qpf_int) (qpfw_or1 (qpft_eq hr (qpf_count (qpf_var 6) (qpfa_cons qpf_str qpfa_nil)) qpf_int)))))))) (qpsf_one (qpsf_retM (qph_tup (qpha_cons (qph_pure qpf_str) (qpha_cons (qph_pure (qpf_var 3)) (qpha_cons (qph_pure (qpf_var 5)) (qpha_cons (qph_pure (qpf_var 4)) (qpha_cons (qph_fn Dl_froms hr (qpha_cons (qph_pure (qpf_var 0)) (qpha_cons (qph_pure (qpf_len T.len (qpfa_cons (qpf_var 1) qpfa_nil))) qpha_nil (hst:=star_call)))) qpha_nil (hst:=star_call))))))))) qpsf_nil)
  (qpsf_one (qpsf_retM (qph_pure (qpf_tup (k:=0) (qpfa_cons qpf_str (qpfa_cons (qpf_var 3) (qpfa_cons (qpf_var 5) (qpfa_cons (qpf_var 4) (qpfa_cons (qpf_lst qpfa_nil) qpfa_nil (hs:=star_lst))))))))))))))),?_⟩
 intro c rows vs hv hl100 hkq
 obtain⟨_,⟨ss,hss,rfl⟩,e1⟩:=hSu c 1 vs (by decide) hv
 obtain⟨_,⟨us,hus,rfl⟩,e2⟩:=hSu c 30 vs (by decide) hv
 have g1:=hs c 60 (by decide)
 have g2:=modD_int (a:=stir c 60) (b:=5) (by decide)
 have bg:=fmod_bd (stir c 60) (b:=5) (by decide)
 obtain⟨k,k',tu,hk,ek⟩:=sig_at bg.1 bg.2
 have t1:=hs c 61 (by decide)
 have t2:=modD_int (a:=stir c 61) (b:=5) (by decide)
 have t3:=gtD_int ((stir c 61).fmod 5) 1
 have nn:=ne_nil (rows.map rwT) (by
  intro d hd
  obtain⟨r,hr,rfl⟩:=List.mem_map.mp hd
  exact hkq r hr)
 have cs:=cnt_so rows
 have cg:=cnt_gv rows
 have l12:=ltD_int (soN rows:Int) 12
 have q8:=eqD_int (gvN rows:Int) 8
 have z5:5≤sizeLine:=sz (by decide)
 have z0:0≤sizeLine:=Nat.zero_le _
 have hz:(rows.map rwT).length<sizeLine:=by rw[List.length_map];exact small1000 (by omega)
 have ll:lenD [.list (rows.map rwT)]=some (.int (rows.length:Int)):=by
  show some (Dat.int _)=_
  rw[List.length_map]
 have hd1:decide ((rows.map rwT)=[])=decide (rows=[]):=by
  by_cases e:rows=[]
  ·rw[decide_eq_true e,e];rfl
  ·rw[decide_eq_false e,decide_eq_false]
   exact fun z=>e (List.map_eq_nil_iff.mp z)
 rw[hd1]at nn
 obtain⟨r,hok,h12,hno,hfin⟩:∃r:Row,RwOk vs rows.length r∧(r.so=true→soN rows<12)∧(r.so=false→¬(rows≠[]∧soN rows<12∧gvN rows=8))∧∀(a:Addr) (xs:List V),lrFin Fs Ff [some (.imm (.int c)),some (.brw a xs (rows.map rwT)),some (.imm (.list (vs.map .str))),some (.imm (sumD ss)),some (.imm (sumD us)),some (.imm (.str k)),some (.imm (.list (rows.map fun r=>.str (rwW r))))]=some (.rm (rwT r) [some (.imm (.int c)),some (.brw a xs (rows.map rwT)),some (.imm (.list (vs.map .str))),some (.imm (sumD ss)),some (.imm (sumD us)),some (.imm (.str k)),some (.imm (.list (rows.map fun r=>.str (rwW r))))]):=by
  have orV:∀(a:Addr) (xs:List V),lrOr Fs (allV [some (.imm (.int c)),some (.brw a xs (rows.map rwT)),some (.imm (.list (vs.map .str))),some (.imm (sumD ss)),some (.imm (sumD us)),some (.imm (.str k)),some (.imm (.list (rows.map fun r=>.str (rwW r))))])=some (decide (1<(stir c 61).fmod 5∨gvN rows=8)):=by
   intro a xs
   unfold lrOr
   generalize sumD ss=d1 at *
   generalize sumD us=d2 at *
   generalize Dat.list (vs.map .str)=dv at *
   generalize rows.map rwT=drw at *
   generalize Dat.str k=dk at *
   generalize Dat.list (rows.map fun r=>Dat.str (rwW r))=dww at *
   by_cases h':1<(stir c 61).fmod 5
   ·rw[decide_eq_true h']at t3
    rw[decide_eq_true (Or.inl h')]
    dsimp![t1,t2,t3]
   ·rw[decide_eq_false h']at t3
    have:decide (1<(stir c 61).fmod 5∨gvN rows=8)=decide ((gvN rows:Int)=8):=by
     by_cases h8:gvN rows=8
     ·rw[decide_eq_true (Or.inr h8),decide_eq_true (by omega)]
     ·rw[decide_eq_false (fun z=>z.elim h' h8),decide_eq_false (by omega)]
    rw[this]
    generalize (gvN rows:Int)=gn at *
    dsimp![t1,t2,t3,cg,q8]
  by_cases hb:rows≠[]∧soN rows<12∧(1<(stir c 61).fmod 5∨gvN rows=8)
  ·obtain⟨h1,h2,h3⟩:=hb
   have hpos:1≤rows.length:=List.length_pos_iff.mpr h1
   obtain⟨_,⟨fr,hfr,rfl⟩,ef⟩:=hF c rows.length hpos hl100
   refine⟨⟨true,ss,us,k,k',tu,fr⟩,⟨hss,hus,hk,fun _=>hfr,fun z=>by cases z⟩,fun _=>h2,(fun z=>by cases z),fun a xs=>?_⟩
   rw[decide_eq_false h1]at nn
   rw[decide_eq_true (by omega)]at l12
   have t4:lrOr Fs [some (.int c),some (.list (rows.map rwT)),some (.list (vs.map .str)),some (sumD ss),some (sumD us),some (.str k),some (.list (rows.map fun r=>.str (rwW r)))]=_:=orV a xs
   have ef:Ff [.int c,.int (rows.length:Int)]=some (.list (naD fr)):=ef
   rw[decide_eq_true h3]at t4
   unfold lrFin
   refine seq_rm ((sIf_t ?_).trans ?_)
   ·generalize lrOr Fs=fo at *
    generalize sumD ss=d1 at *
    generalize sumD us=d2 at *
    generalize Dat.list (vs.map .str)=dv at *
    generalize rows.map rwT=drw at *
    generalize Dat.str k=dk at *
    generalize Dat.list (rows.map fun r=>Dat.str (rwW r))=dww at *
    generalize (soN rows:Int)=sn at *
    dsimp![nn,z0,cs,l12,t4]
   ·show _=some (Fl.rm (.tuple [.str (Str.ofString "so"),sumD ss,.str k,sumD us,.list (naD fr)]) [some (.imm (.int c)),some (.brw a xs (rows.map rwT)),some (.imm (.list (vs.map .str))),some (.imm (sumD ss)),some (.imm (sumD us)),some (.imm (.str k)),some (.imm (.list (rows.map fun r=>.str (rwW r))))])
    generalize Dat.list (naD fr)=dfr at *
    generalize sumD ss=d1 at *
    generalize sumD us=d2 at *
    generalize Dat.list (vs.map .str)=dv at *
    generalize rows.map rwT=drw at *
    generalize Dat.str k=dk at *
    generalize Dat.list (rows.map fun r=>Dat.str (rwW r))=dww at *
    generalize (rows.length:Int)=dn at *
    dsimp![ll,ef,z5]
  ·refine⟨⟨false,ss,us,k,k',tu,[]⟩,⟨hss,hus,hk,(fun z=>by cases z),fun _=>rfl⟩,(fun z=>by cases z),fun _ z=>hb ⟨z.1,z.2.1,.inr z.2.2⟩,fun a xs=>?_⟩
   have t4:lrOr Fs [some (.int c),some (.list (rows.map rwT)),some (.list (vs.map .str)),some (sumD ss),some (sumD us),some (.str k),some (.list (rows.map fun r=>.str (rwW r)))]=_:=orV a xs
   unfold lrFin
   rw[sSeq_nx (Γ':=[some (.imm (.int c)),some (.brw a xs (rows.map rwT)),some (.imm (.list (vs.map .str))),some (.imm (sumD ss)),some (.imm (sumD us)),some (.imm (.str k)),some (.imm (.list (rows.map fun r=>.str (rwW r))))]) ((sIf_f ?_).trans rfl)]
   ·show _=some (Fl.rm (.tuple [.str (Str.ofString "given"),sumD ss,.str k,sumD us,.list []]) [some (.imm (.int c)),some (.brw a xs (rows.map rwT)),some (.imm (.list (vs.map .str))),some (.imm (sumD ss)),some (.imm (sumD us)),some (.imm (.str k)),some (.imm (.list (rows.map fun r=>.str (rwW r))))])
    generalize sumD ss=d1 at *
    generalize sumD us=d2 at *
    generalize Dat.list (vs.map .str)=dv at *
    generalize rows.map rwT=drw at *
    generalize Dat.str k=dk at *
    generalize Dat.list (rows.map fun r=>Dat.str (rwW r))=dww at *
    dsimp![z0,z5]
   ·by_cases h1:rows=[]
    ·rw[decide_eq_true h1]at nn
     generalize lrOr Fs=fo at *
     generalize sumD ss=d1 at *
     generalize sumD us=d2 at *
     generalize Dat.list (vs.map .str)=dv at *
     generalize rows.map rwT=drw at *
     generalize Dat.str k=dk at *
     generalize Dat.list (rows.map fun r=>Dat.str (rwW r))=dww at *
     dsimp![nn,z0]
    ·rw[decide_eq_false h1]at nn
     by_cases h2:soN rows<12
     ·rw[decide_eq_true (by omega)]at l12
      rw[decide_eq_false (fun z=>hb ⟨h1,h2,z⟩)]at t4
      generalize lrOr Fs=fo at *
      generalize sumD ss=d1 at *
      generalize sumD us=d2 at *
      generalize Dat.list (vs.map .str)=dv at *
      generalize rows.map rwT=drw at *
      generalize Dat.str k=dk at *
      generalize Dat.list (rows.map fun r=>Dat.str (rwW r))=dww at *
      generalize (soN rows:Int)=sn at *
      dsimp![nn,z0,cs,l12,t4]
     ·rw[decide_eq_false (by omega)]at l12
      generalize lrOr Fs=fo at *
      generalize sumD ss=d1 at *
      generalize sumD us=d2 at *
      generalize Dat.list (vs.map .str)=dv at *
      generalize rows.map rwT=drw at *
      generalize Dat.str k=dk at *
      generalize Dat.list (rows.map fun r=>Dat.str (rwW r))=dww at *
      generalize (soN rows:Int)=sn at *
      dsimp![nn,z0,cs,l12]
 refine⟨r,hok,h12,hno,?_⟩
 refine runB_ok (es1:=[.int c]) (ds:=rows.map rwT) (es2:=[.list (vs.map .str)]) rfl fun a xs=>?_
 show ∃Γ',sSeq _ _ [some (.imm (.int c)),some (.brw a xs (rows.map rwT)),some (.imm (.list (vs.map .str))),none,none,none,none]=_∧_
 refine exM (Γ1:=[some (.imm (.int c)),some (.brw a xs (rows.map rwT)),some (.imm (.list (vs.map .str))),some (.imm (sumD ss)),none,none,none]) (by
  generalize sumD ss=d1 at *
  generalize Dat.list (vs.map .str)=dv at *
  generalize rows.map rwT=drw at *
  dsimp![e1]) ?_
 refine exM (Γ1:=[some (.imm (.int c)),some (.brw a xs (rows.map rwT)),some (.imm (.list (vs.map .str))),some (.imm (sumD ss)),some (.imm (sumD us)),none,none]) (by
  generalize sumD ss=d1 at *
  generalize sumD us=d2 at *
  generalize Dat.list (vs.map .str)=dv at *
  generalize rows.map rwT=drw at *
  dsimp![e2]) ?_
 refine exM (Γ1:=[some (.imm (.int c)),some (.brw a xs (rows.map rwT)),some (.imm (.list (vs.map .str))),some (.imm (sumD ss)),some (.imm (sumD us)),some (.imm (.str k)),none]) (by
  generalize sumD ss=d1 at *
  generalize sumD us=d2 at *
  generalize Dat.list (vs.map .str)=dv at *
  generalize rows.map rwT=drw at *
  generalize Dat.str k=dk at *
  have ek':ixD (.list [.str "=",.str "<=",.str "<",.str ">=",.str ">"]) (.int ((stir c 60).fmod 5))=some dk:=ek
  dsimp![z5,g1,g2,ek']) ?_
 refine exM (Γ1:=[some (.imm (.int c)),some (.brw a xs (rows.map rwT)),some (.imm (.list (vs.map .str))),some (.imm (sumD ss)),some (.imm (sumD us)),some (.imm (.str k)),some (.imm (.list (rows.map fun r=>.str (rwW r))))]) (setCS_ok (i:=6) (ds:=rows.map fun r=>.str (rwW r)) (by
  show(if(rows.map rwT).length<sizeLine then _ else none)=_
  rw[if_pos hz]
  exact words_c rows) (words_sc rows)) ?_
 exact⟨_,hfin a xs,rfl⟩
end
end
section
noncomputable section
variable {P:Program} {w:World} {K:Fg} {mg:Str→Option Value} {base:Heap} {f:Addr} {fd:FuncData}
abbrev rwS (r:Row):List Tm:=r.ls.map sgT++r.rs.map sgT
abbrev nmR (acc:List Str) (rows:List Row):List Str:=rows.foldl (fun acc r=>nmW acc (rwS r)) acc
structure RowsOk (vs:List Str) (rows:List Row):Prop where
 v:Nms vs
 l:rows.length≤100
 ok:∀pre r post,rows=pre++r::post→RwOk vs pre.length r
theorem RowsOk.mem {vs:List Str} {rows:List Row} (h:RowsOk vs rows) {r:Row} (hr:r∈rows):∃m,RwOk vs m r:=by
 obtain⟨pre,post,e⟩:=List.append_of_mem hr
 exact⟨_,h.ok pre r post e⟩
theorem rwS_gd {vs:List Str} {m:Nat} {r:Row} (hv:Nms vs) (h:RwOk vs m r):(∀t∈rwS r,∀x,t.1=some x→x∈vs)∧(∀t∈rwS r,GdO t.1)∧(∀t∈rwS r,Pd t.2)∧(rwS r).length≤90:=by
 have h1:∀t∈rwS r,∀x,t.1=some x→x∈vs:=by
  intro t ht x hx
  rcases List.mem_append.mp ht with h'|h'
  ·exact sm_nm h.sl t h' x hx
  ·exact sm_nm h.sr t h' x hx
 refine⟨h1,fun t ht x hx=>hv.gd x (h1 t ht x hx),?_,?_⟩
 ·intro t ht
  rcases List.mem_append.mp ht with h'|h'
  ·exact sm_pd h.sl t h'
  ·exact sm_pd h.sr t h'
 ·rw[List.length_append,List.length_map,List.length_map]
  have:=h.sl.l
  have:=h.sr.l
  omega
abbrev SdS (F:List Dat→Option Dat):Prop:=∀(vs:List Str) (rows:List Row),RowsOk vs rows→F [.list (rows.map rwT)]=some (.list ((nmR [] rows).map .str))
theorem d_lstand (T:TX mg) (U:FnAt K mg "_law_standing" (top 56) ["rows"]):
  ∃F,Dn P w K mg base 1 "_law_standing" ["rows"] 1 F∧SdS F:=by
 refine⟨_,qdnA ["rows","found","row","name","by"] U fun nd _ _ _ _ _ _ _ hr=>(qpsf_cons (qpsf_own 1 nd (qpfl_lst qpfa_nil))
  (qpsf_cons (qpsf_for PassesOwn.never rfl (qpf_var 0) (qpgf_name 2 nd)
  (qpsf_one (qpsf_for PassesOwn.never rfl (qpf_addU (qpf_ix (qpf_ix (qpf_var 2) qpf_int) qpf_int) (qpf_ix (qpf_ix (qpf_var 2) qpf_int) qpf_int)) (qpgf_tup (n:=2) rfl (qpgfs_cons (qpgf_name 3 nd) (qpgfs_cons (qpgf_name 4 nd) qpgfs_nil)))
  (qpsf_one (qpsf_if (qpft_w (qpfw_and (qpft_ne hr (qpf_var 3) qpf_str) (qpfw_and1 (qpft_notIn (qpf_var 3) (qpf_var 1))))) (qpsf_one (qpsf_append 1 (qpf_var 3))) qpsf_nil)))))
  (qpsf_one (qpsf_ret (qpf_var 1))))),?_⟩
 intro vs rows H
 refine runF_rt ?_
 show sSeq _ _ [some (.imm (.list (rows.map rwT))),none,none,none,none]=_
 rw[sSeq_nx (Γ':=[some (.imm (.list (rows.map rwT))),some (.own (([]:List Str).map .str)),none,none,none]) rfl]
 have lp:∀(dr:Dat) (us:List Tm) (acc:List Str) (x3 x4:Option Slot),(∀t∈us,GdO t.1)→acc.length+us.length≤900→∃y3 y4,forL (aTup 2 (aCons (aName 3) (aCons (aName 4) aNil))) (sIf (fAndT (fTest (L3.f2 neD (fVar 3) (fC (.str "")))) (fTest (L3.f2 notInD (fVar 3) (fVar 1)))) (sApp 1 (fVar 3)) sSkip) (us.map lwD) [some (.imm (.list (rows.map rwT))),some (.own (acc.map .str)),some (.imm (dr)),x3,x4]=some (.nx [some (.imm (.list (rows.map rwT))),some (.own ((nmW acc us).map .str)),some (.imm (dr)),y3,y4]):=by
  intro dr us
  induction us with
  |nil=>exact fun acc x3 x4 _ _=>⟨x3,x4,rfl⟩
  |cons t us ih=>
   intro acc x3 x4 hg ha
   rw[List.length_cons]at ha
   have h1:=nmS_len acc t
   obtain⟨y3,y4,e⟩:=ih (nmS acc t) (some (.imm (.str (lwN t.1)))) (some (.imm (frD t.2))) (fun v hv=>hg v (List.mem_cons_of_mem t hv)) (by omega)
   refine⟨y3,y4,?_⟩
   refine Eq.trans ?_ e
   have zl:(acc.map Dat.str).length<sizeLine:=by rw[List.length_map];exact small1000 (by omega)
   have en:=nmo_ne (hg t List.mem_cons_self)
   rw[List.map_cons]
   refine forL_nx (as:=[(3,.str (lwN t.1)),(4,frD t.2)]) rfl ?_
   dsimp!
   obtain⟨o,q⟩:=t
   show sIf _ _ _ [some (.imm (.list (rows.map rwT))),some (.own (acc.map .str)),some (.imm (dr)),some (.imm (.str (lwN o))),some (.imm (frD q))]=some (Fl.nx [some (.imm (.list (rows.map rwT))),some (.own ((nmS acc (o,q)).map .str)),some (.imm (dr)),some (.imm (.str (lwN o))),some (.imm (frD q))])
   generalize frD q=dq
   generalize Dat.list (rows.map rwT)=dts
   cases o with
   |none=>
    have en:neD (.str (Str.ofString "")) (.str (Str.ofString ""))=some (.bool false):=en
    show sIf _ _ _ [some (.imm (dts)),some (.own (acc.map .str)),some (.imm (dr)),some (.imm (.str (Str.ofString ""))),some (.imm (dq))]=some (Fl.nx [some (.imm (dts)),some (.own (acc.map .str)),some (.imm (dr)),some (.imm (.str (Str.ofString ""))),some (.imm (dq))])
    generalize acc.map Dat.str=da at *
    dsimp![en]
   |some x=>
    have en:neD (.str x) (.str (Str.ofString ""))=some (.bool true):=en
    have n2:=notin_str x acc
    show sIf _ _ _ [some (.imm (dts)),some (.own (acc.map .str)),some (.imm (dr)),some (.imm (.str x)),some (.imm (dq))]=some (Fl.nx [some (.imm (dts)),some (.own ((nmS acc (some x,q)).map .str)),some (.imm (dr)),some (.imm (.str x)),some (.imm (dq))])
    unfold nmS
    dsimp only
    cases hc:acc.contains x with
    |true=>
     rw[hc]at n2
     rw[if_pos rfl]
     generalize acc.map Dat.str=da at *
     generalize Dat.str x=dx at *
     dsimp![en,n2]
    |false=>
     rw[hc]at n2
     rw[if_neg Bool.false_ne_true,List.map_append,List.map_cons,List.map_nil]
     generalize acc.map Dat.str=da at *
     generalize Dat.str x=dx at *
     dsimp![en,n2,zl]
 have out:∀(l:List Row) (acc:List Str) (x2 x3 x4:Option Slot),(∀r∈l,r∈rows)→acc.Nodup→(∀x∈acc,x∈vs)→∃y2 y3 y4,forL (aName 2) (sFor (aTup 2 (aCons (aName 3) (aCons (aName 4) aNil))) (sIf (fAndT (fTest (L3.f2 neD (fVar 3) (fC (.str "")))) (fTest (L3.f2 notInD (fVar 3) (fVar 1)))) (sApp 1 (fVar 3)) sSkip) (L3.f2 addU (L3.f2 ixD (L3.f2 ixD (fVar 2) (fC (.int 1))) (fC (.int 1))) (L3.f2 ixD (L3.f2 ixD (fVar 2) (fC (.int 3))) (fC (.int 1))))) (l.map rwT) [some (.imm (.list (rows.map rwT))),some (.own (acc.map .str)),x2,x3,x4]=some (.nx [some (.imm (.list (rows.map rwT))),some (.own ((nmR acc l).map .str)),y2,y3,y4]):=by
  intro l
  induction l with
  |nil=>exact fun acc x2 x3 x4 _ _ _=>⟨x2,x3,x4,rfl⟩
  |cons r l ih=>
   intro acc x2 x3 x4 hm hnd hsub
   obtain⟨m,hr⟩:=H.mem (hm r List.mem_cons_self)
   obtain⟨k1,k2,k3,k4⟩:=rwS_gd H.v hr
   obtain⟨n1,n2⟩:=nmW_sub (vs:=vs) (rwS r) acc hnd hsub k1
   have hl3:=nd_len acc vs hnd hsub
   have hvl:=H.v.l
   obtain⟨z3,z4,e1⟩:=lp (rwT r) (rwS r) acc x3 x4 k2 (by omega)
   obtain⟨y2,y3,y4,e2⟩:=ih (nmW acc (rwS r)) (some (.imm (rwT r))) z3 z4 (fun q hq=>hm q (List.mem_cons_of_mem _ hq)) n1 n2
   refine⟨y2,y3,y4,?_⟩
   refine Eq.trans ?_ e2
   rw[List.map_cons]
   refine forL_nx (as:=[(2,rwT r)]) rfl ?_
   have esrc:(L3.f2 addU (L3.f2 ixD (L3.f2 ixD (fVar 2) (fC (.int 1))) (fC (.int 1))) (L3.f2 ixD (L3.f2 ixD (fVar 2) (fC (.int 3))) (fC (.int 1)))) (immV [some (.imm (.list (rows.map rwT))),some (.own (acc.map .str)),some (.imm (rwT r)),x3,x4])=some (.list ((rwS r).map lwD)):=by
    refine f2_ok (a:=.list ((r.ls.map sgT).map lwD)) (b:=.list ((r.rs.map sgT).map lwD)) (f2_ok (a:=sumD r.ls) (b:=.int 1) (f2_ok (a:=rwT r) (b:=.int 1) rfl rfl rfl) rfl rfl) (f2_ok (a:=sumD r.rs) (b:=.int 1) (f2_ok (a:=rwT r) (b:=.int 3) rfl rfl rfl) rfl rfl) ?_
    rw[addU_list (by rw[List.length_append,List.length_map,List.length_map]at k4;simp only[List.length_map];exact sz (by omega)),List.map_append]
   show sFor _ _ _ [some (.imm (.list (rows.map rwT))),some (.own (acc.map .str)),some (.imm (rwT r)),x3,x4]=_
   rw[sFor_items esrc rfl]
   exact e1
 obtain⟨y2,y3,y4,e⟩:=out rows [] none none none (fun r hr=>hr) List.nodup_nil (fun x hx=>by cases hx)
 refine(sSeq_nx (Γ':=[some (.imm (.list (rows.map rwT))),some (.own ((nmR [] rows).map .str)),y2,y3,y4]) ?_).trans ?_
 ·exact e
 ·rfl
theorem nmR_sub {vs:List Str}:∀(l:List Row) (acc:List Str),(∀r∈l,∀t∈rwS r,∀x,t.1=some x→x∈vs)→acc.Nodup→(∀x∈acc,x∈vs)→(nmR acc l).Nodup∧∀x∈nmR acc l,x∈vs
 |[],acc,_,h1,h2=>⟨h1,h2⟩
 |r::l,acc,h,h1,h2=>by
  obtain⟨n1,n2⟩:=nmW_sub (vs:=vs) (rwS r) acc h1 h2 (h r List.mem_cons_self)
  exact nmR_sub l _ (fun q hq=>h q (List.mem_cons_of_mem _ hq)) n1 n2
theorem RowsOk.names {vs:List Str} {rows:List Row} (h:RowsOk vs rows):(nmR [] rows).Nodup∧(∀x∈nmR [] rows,x∈vs)∧(nmR [] rows).length≤3∧∀x∈nmR [] rows,GdN x:=by
 obtain⟨n1,n2⟩:=nmR_sub (vs:=vs) rows [] (fun r hr=>by
  obtain⟨m,hm⟩:=h.mem hr
  exact(rwS_gd h.v hm).1) List.nodup_nil (fun x hx=>by cases hx)
 exact⟨n1,n2,Nat.le_trans (nd_len _ vs n1 n2) h.v.l,fun x hx=>h.v.gd x (n2 x hx)⟩
abbrev toD (ns:List Str) (r:Row):Dat:=.tuple [.str (rwW r),lineD r.k' (ptsN ns (lnT (r.ls.map sgT) (r.rs.map sgT) r.tu)) (bnd (lnT (r.ls.map sgT) (r.rs.map sgT) r.tu)),.tuple (naD r.fr)]
abbrev WkS (F:List Dat→Option Dat):Prop:=∀(vs:List Str) (rows:List Row) (d:Dat),RowsOk vs rows→F [.list (rows.map rwT),d]=some (.tuple [.list ((nmR [] rows).map .str),.list (rows.map (toD (nmR [] rows))),d])
theorem d_lwork (T:TX mg) {Fsd Fln:List Dat→Option Dat} (Dl_standing:Dn P w K mg base 5 "_law_standing" ["rows"] 1 Fsd) (hSd:SdS Fsd) (Dl_line:Dn P w K mg base 5 "_law_line" ["left","sign","right","names"] 4 Fln) (hLn:LlS Fln) (U:FnAt K mg "_law_work" (top 58) ["rows","asked"]):
  ∃F,Dn P w K mg base 6 "_law_work" ["rows","asked"] 2 F∧WkS F:=by
 refine⟨_,qdnA ["rows","asked","names","told","word","left","sign","right","froms"] U fun nd _ _ _ _ _ _ _ hr=>(qpsf_cons (qpsf_set 2 nd (qpf_fn Dl_standing hr (qpfa_cons (qpf_var 0) qpfa_nil)))
  (qpsf_cons (qpsf_own 3 nd (qpfl_lst qpfa_nil))
  (qpsf_cons (qpsf_for PassesOwn.never rfl (qpf_var 0) (qpgf_tup (n:=5) rfl (qpgfs_cons (qpgf_name 4 nd) (qpgfs_cons (qpgf_name 5 nd) (qpgfs_cons (qpgf_name 6 nd) (qpgfs_cons (qpgf_name 7 nd) (qpgfs_cons (qpgf_name 8 nd) qpgfs_nil))))))
  (qpsf_one (qpsf_append 3 (qpf_tup (k:=0) (qpfa_cons (qpf_var 4) (qpfa_cons (qpf_fn Dl_line hr (qpfa_cons (qpf_ix (qpf_var 5) qpf_int) (qpfa_cons (qpf_var 6) (qpfa_cons (qpf_ix (qpf_var 7) qpf_int) (qpfa_cons (qpf_var 2) qpfa_nil) (hs:=star_sub))) (hs:=star_sub))) (qpfa_cons (qpf_tuple T.tuple (qpfa_cons (qpf_var 8) qpfa_nil)) qpfa_nil (hs:=star_call)) (hs:=star_call)))))))
  (qpsf_one (qpsf_ret (qpf_tup (k:=0) (qpfa_cons (qpf_var 2) (qpfa_cons (qpf_var 3) (qpfa_cons (qpf_var 1) qpfa_nil))))))))),?_⟩
 intro vs rows d H
 have e1:=hSd vs rows H
 obtain⟨_,_,hn3,hng⟩:=H.names
 generalize hns:nmR [] rows=ns at *
 have z3:3≤sizeLine:=sz (by decide)
 refine runF_rt ?_
 show sSeq _ _ [some (.imm (.list (rows.map rwT))),some (.imm (d)),none,none,none,none,none,none,none]=_
 rw[sSeq_nx (Γ':=[some (.imm (.list (rows.map rwT))),some (.imm (d)),some (.imm (.list (ns.map .str))),none,none,none,none,none,none]) (by
  generalize Dat.list (ns.map .str)=dn at *
  generalize Dat.list (rows.map rwT)=dr at *
  dsimp![e1])]
 rw[sSeq_nx (Γ':=[some (.imm (.list (rows.map rwT))),some (.imm (d)),some (.imm (.list (ns.map .str))),some (.own ([])),none,none,none,none,none]) rfl]
 have out:∀(l pre:List Row) (x4 x5 x6 x7 x8:Option Slot),rows=pre++l→∃y4 y5 y6 y7 y8,forL (aTup 5 (aCons (aName 4) (aCons (aName 5) (aCons (aName 6) (aCons (aName 7) (aCons (aName 8) aNil)))))) (sApp 3 (fTup (fCons (fVar 4) (fCons (fFn 4 Fln (fCons (L3.f2 ixD (fVar 5) (fC (.int 1))) (fCons (fVar 6) (fCons (L3.f2 ixD (fVar 7) (fC (.int 1))) (fCons (fVar 2) fNil))))) (fCons (fCall tupleD (fCons (fVar 8) fNil)) fNil))))) (l.map rwT) [some (.imm (.list (rows.map rwT))),some (.imm (d)),some (.imm (.list (ns.map .str))),some (.own (pre.map (toD ns))),x4,x5,x6,x7,x8]=some (.nx [some (.imm (.list (rows.map rwT))),some (.imm (d)),some (.imm (.list (ns.map .str))),some (.own (rows.map (toD ns))),y4,y5,y6,y7,y8]):=by
  intro l
  induction l with
  |nil=>
   intro pre x4 x5 x6 x7 x8 hp
   rw[List.append_nil]at hp
   subst hp
   exact⟨x4,x5,x6,x7,x8,rfl⟩
  |cons r l ih=>
   intro pre x4 x5 x6 x7 x8 hp
   have hr:=H.ok pre r l hp
   obtain⟨k1,k2,k3,k4⟩:=rwS_gd H.v hr
   obtain⟨y4,y5,y6,y7,y8,e⟩:=ih (pre++[r]) (some (.imm (.str (rwW r)))) (some (.imm (sumD r.ls))) (some (.imm (.str r.k))) (some (.imm (sumD r.rs))) (some (.imm (.list (naD r.fr)))) (by rw[hp,List.append_assoc];rfl)
   refine⟨y4,y5,y6,y7,y8,?_⟩
   refine Eq.trans ?_ e
   rw[List.map_cons]
   refine forL_nx (as:=[(4,.str (rwW r)),(5,sumD r.ls),(6,.str r.k),(7,sumD r.rs),(8,.list (naD r.fr))]) rfl ?_
   have eL:=hLn (r.ls.map sgT) (r.rs.map sgT) r.k r.k' r.tu ns hr.hk k2 k3 (by rw[List.length_append]at k4;omega) hng (by omega)
   have i1:ixD (sumD r.ls) (.int 1)=some (.list ((r.ls.map sgT).map lwD)):=rfl
   have i3:ixD (sumD r.rs) (.int 1)=some (.list ((r.rs.map sgT).map lwD)):=rfl
   have tp:tupleD [.list (naD r.fr)]=some (.tuple (naD r.fr)):=rfl
   have hpl:rows.length=pre.length+(l.length+1):=by rw[hp,List.length_append,List.length_cons]
   have hl:=H.l
   have zl:(pre.map (toD ns)).length<sizeLine:=by rw[List.length_map];exact small1000 (by omega)
   have ma:(pre++[r]).map (toD ns)=pre.map (toD ns)++[.tuple [.str (rwW r),lineD r.k' (ptsN ns (lnT (r.ls.map sgT) (r.rs.map sgT) r.tu)) (bnd (lnT (r.ls.map sgT) (r.rs.map sgT) r.tu)),.tuple (naD r.fr)]]:=by rw[List.map_append];rfl
   rw[ma]
   show sApp _ _ [some (.imm (.list (rows.map rwT))),some (.imm (d)),some (.imm (.list (ns.map .str))),some (.own (pre.map (toD ns))),some (.imm (.str (rwW r))),some (.imm (sumD r.ls)),some (.imm (.str r.k)),some (.imm (sumD r.rs)),some (.imm (.list (naD r.fr)))]=_
   generalize lineD r.k' (ptsN ns (lnT (r.ls.map sgT) (r.rs.map sgT) r.tu)) (bnd (lnT (r.ls.map sgT) (r.rs.map sgT) r.tu))=dln at *
   generalize Dat.list ((r.ls.map sgT).map lwD)=d1 at *
   generalize Dat.list ((r.rs.map sgT).map lwD)=d2 at *
   generalize sumD r.ls=s1 at *
   generalize sumD r.rs=s2 at *
   generalize Dat.str r.k=dk at *
   generalize Dat.str (rwW r)=dw at *
   generalize naD r.fr=dfl at *
   generalize pre.map (toD ns)=dpre at *
   generalize Dat.list (ns.map .str)=dn at *
   generalize Dat.list (rows.map rwT)=drw at *
   dsimp![i1,i3,eL,z3,zl]
 obtain⟨y4,y5,y6,y7,y8,e⟩:=out rows [] none none none none none rfl
 refine(sSeq_nx (Γ':=[some (.imm (.list (rows.map rwT))),some (.imm (d)),some (.imm (.list (ns.map .str))),some (.own (rows.map (toD ns))),y4,y5,y6,y7,y8]) ?_).trans ?_
 ·exact e
 ·refine sRet_eq (tup3 z3 ?_ ?_ ?_)<;>rfl
abbrev g4 (r:Row):Str:=Txt.join cB [rwW r,txt (r.ls.map sgW),r.k,txt (r.rs.map sgW)]
abbrev frT (fr:List Nat):List Str:=fr.map fun n=>S ((n+1:Nat):Int)
def rowX (r:Row):Str:=if r.so=true then Txt.join cB (g4 r::sF::frT r.fr)else g4 r
theorem rwW_l (r:Row):(rwW r).length≤5:=by
 unfold rwW
 split
 ·show(Str.ofString "so").length≤5;rw[slen];decide
 ·show(Str.ofString "given").length≤5;rw[slen];decide
theorem cB_l:cB.length=1:=by show(Str.ofString " ").length=1;rw[slen];rfl
theorem g4_l {vs:List Str} {m:Nat} {r:Row} (h:RwOk vs m r):(([rwW r,txt (r.ls.map sgW),r.k,txt (r.rs.map sgW)].map (·.length)).sum+4*cB.length≤200)∧(g4 r).length≤200:=by
 have h1:=h.sl.z
 have h2:=h.sr.z
 have h3:=(k5_no h.hk (c:=10) (by decide)).2.1
 have h4:=rwW_l r
 have key:([rwW r,txt (r.ls.map sgW),r.k,txt (r.rs.map sgW)].map (·.length)).sum+4*cB.length≤200:=by
  rw[cB_l]
  simp only[List.map_cons,List.map_nil,List.sum_cons,List.sum_nil]
  omega
 exact⟨key,Nat.le_trans (join_len cB [rwW r,txt (r.ls.map sgW),r.k,txt (r.rs.map sgW)]) key⟩
abbrev RtS' (F:List Dat→Option (List Dat)):Prop:=∀(vs:List Str) (rows:List Row),RowsOk vs rows→F [.list (rows.map rwT)]=some (rows.map fun r=>.str (rowX r))
theorem lst4_ok {fa fb fc fd:Rho→Option Dat} {ρ:Rho} {a b c d:Dat} (ha:fa ρ=some a) (hb:fb ρ=some b) (hc:fc ρ=some c) (hd:fd ρ=some d):fLst (fCons fa (fCons fb (fCons fc (fCons fd fNil)))) ρ=some (.list [a,b,c,d]):=by
 have e:fCons fa (fCons fb (fCons fc (fCons fd fNil))) ρ=some [a,b,c,d]:=by
  unfold fCons
  rw[ha,hb,hc,hd];rfl
 unfold fLst
 rw[e,Option.bind_some]
 exact if_pos (sz (show 4≤1000 by decide))
theorem lst2_ok {fa fb:Rho→Option Dat} {ρ:Rho} {a b:Dat} (ha:fa ρ=some a) (hb:fb ρ=some b):fLst (fCons fa (fCons fb fNil)) ρ=some (.list [a,b]):=by
 have e:fCons fa (fCons fb fNil) ρ=some [a,b]:=by
  unfold fCons
  rw[ha,hb];rfl
 unfold fLst
 rw[e,Option.bind_some]
 exact if_pos (sz (show 2≤1000 by decide))
theorem d_ltext (T:TX mg) (U:FnAt K mg "_law_rows_text" (top 57) ["rows"]):
  ∃F,DnN P w K mg base 1 "_law_rows_text" ["rows"] 1 F∧RtS' F:=by
 refine⟨_,qdnO ["rows","texts","word","left","sign","right","froms","text"] 1 U fun nd _ _ _ _ _ _ _ hr=>(qz_cons (qpsf_own 1 nd (qpfl_lst qpfa_nil))
  (qz_cons (qpsf_for PassesOwn.never rfl (qpf_var 0) (qpgf_tup (n:=5) rfl (qpgfs_cons (qpgf_name 2 nd) (qpgfs_cons (qpgf_name 3 nd) (qpgfs_cons (qpgf_name 4 nd) (qpgfs_cons (qpgf_name 5 nd) (qpgfs_cons (qpgf_name 6 nd) qpgfs_nil))))))
  (qpsf_cons (qpsf_set 7 nd (qpf_join qpf_str (qpfa_cons (qpf_lst (qpfa_cons (qpf_var 2) (qpfa_cons (qpf_ix (qpf_var 3) qpf_int) (qpfa_cons (qpf_var 4) (qpfa_cons (qpf_ix (qpf_var 5) qpf_int) qpfa_nil (hs:=star_sub))) (hs:=star_sub)))) qpfa_nil (hs:=star_lst))))
  (qpsf_cons (qpsf_if (qpft_eq hr (qpf_var 2) qpf_str) (qpsf_one (qpsf_set 7 nd (qpf_join qpf_str (qpfa_cons (qpf_addU (qpf_lst (qpfa_cons (qpf_var 7) (qpfa_cons qpf_str qpfa_nil))) (qpf_of_l (qpfl_comp rfl (blk_plain (N':=["place"])) (qpf_var 6) (fun _ _ _ _=>(qpgf_name 0 (show(["place"]:List Str).Nodup by decide +kernel))) (fun _ _ _ _=>qptsf_nil) (fun _ _ _ _=>(qpf_strI T.str (qpfa_cons (qpf_addU (qpf_var 0) qpf_int) qpfa_nil (hs:=star_bin)))) (tg_name rfl)))) qpfa_nil (hs:=star_bin))))) qpsf_nil)
  (qpsf_one (qpsf_append 1 (qpf_var 7))))))
  (qz_own 1))),?_⟩
 intro vs rows H
 suffices hz:∃y2 y3 y4 y5 y6 y7:Option Slot,zSeq _ _ [some (.imm (.list (rows.map rwT))),none,none,none,none,none,none,none]=some [some (.imm (.list (rows.map rwT))),some (.own (rows.map fun r=>.str (rowX r))),y2,y3,y4,y5,y6,y7]from by
  obtain⟨y2,y3,y4,y5,y6,y7,hz⟩:=hz
  exact runO_ok hz rfl
 rw[zSeq_nx (Γ':=[some (.imm (.list (rows.map rwT))),some (.own ([])),none,none,none,none,none,none]) rfl]
 have out:∀(l pre:List Row) (x2 x3 x4 x5 x6 x7:Option Slot),rows=pre++l→∃y2 y3 y4 y5 y6 y7,forL (aTup 5 (aCons (aName 2) (aCons (aName 3) (aCons (aName 4) (aCons (aName 5) (aCons (aName 6) aNil)))))) (sSeq (sSet 7 (fMeth joinD (fC (.str " ")) (fCons (fLst (fCons (fVar 2) (fCons (L3.f2 ixD (fVar 3) (fC (.int 0))) (fCons (fVar 4) (fCons (L3.f2 ixD (fVar 5) (fC (.int 0))) fNil))))) fNil))) (sSeq (sIf (fTest (L3.f2 eqD (fVar 2) (fC (.str "so")))) (sSet 7 (fMeth joinD (fC (.str " ")) (fCons (L3.f2 addU (fLst (fCons (fVar 7) (fCons (fC (.str "from")) fNil))) (fL (fComp [none] (aName 0) tYesF (fCall strD (fCons (L3.f2 addU (fVar 0) (fC (.int 1))) fNil)) (fVar 6)))) fNil))) sSkip) (sApp 1 (fVar 7)))) (l.map rwT) [some (.imm (.list (rows.map rwT))),some (.own (pre.map fun r=>.str (rowX r))),x2,x3,x4,x5,x6,x7]=some (.nx [some (.imm (.list (rows.map rwT))),some (.own (rows.map fun r=>.str (rowX r))),y2,y3,y4,y5,y6,y7]):=by
  intro l
  induction l with
  |nil=>
   intro pre x2 x3 x4 x5 x6 x7 hp
   rw[List.append_nil]at hp
   subst hp
   exact⟨x2,x3,x4,x5,x6,x7,rfl⟩
  |cons r l ih=>
   intro pre x2 x3 x4 x5 x6 x7 hp
   have hr:=H.ok pre r l hp
   obtain⟨y2,y3,y4,y5,y6,y7,e⟩:=ih (pre++[r]) (some (.imm (.str (rwW r)))) (some (.imm (sumD r.ls))) (some (.imm (.str r.k))) (some (.imm (sumD r.rs))) (some (.imm (.list (naD r.fr)))) (some (.imm (.str (rowX r)))) (by rw[hp,List.append_assoc];rfl)
   refine⟨y2,y3,y4,y5,y6,y7,?_⟩
   refine Eq.trans ?_ e
   rw[List.map_cons]
   refine forL_nx (as:=[(2,.str (rwW r)),(3,sumD r.ls),(4,.str r.k),(5,sumD r.rs),(6,.list (naD r.fr))]) rfl ?_
   obtain⟨hg1,hg2⟩:=g4_l hr
   have hpl:rows.length=pre.length+(l.length+1):=by rw[hp,List.length_append,List.length_cons]
   have hl:=H.l
   have zl:(pre.map fun r=>Dat.str (rowX r)).length<sizeLine:=by rw[List.length_map];exact small1000 (by omega)
   have ma:(pre++[r]).map (fun r=>Dat.str (rowX r))=(pre.map fun r=>Dat.str (rowX r))++[.str (rowX r)]:=by rw[List.map_append];rfl
   rw[ma]
   show sSeq _ _ [some (.imm (.list (rows.map rwT))),some (.own (pre.map fun r=>.str (rowX r))),some (.imm (.str (rwW r))),some (.imm (sumD r.ls)),some (.imm (.str r.k)),some (.imm (sumD r.rs)),some (.imm (.list (naD r.fr))),x7]=_
   rw[sSeq_nx (Γ':=[some (.imm (.list (rows.map rwT))),some (.own (pre.map fun r=>.str (rowX r))),some (.imm (.str (rwW r))),some (.imm (sumD r.ls)),some (.imm (.str r.k)),some (.imm (sumD r.rs)),some (.imm (.list (naD r.fr))),some (.imm (.str (g4 r)))]) (sSet_eq (d:=.str (g4 r)) (join_ok (x:=cB) (ys:=[rwW r,txt (r.ls.map sgW),r.k,txt (r.rs.map sgW)]) (cons1 (lst4_ok rfl (f2_ok (a:=sumD r.ls) (b:=.int 0) rfl rfl rfl) rfl (f2_ok (a:=sumD r.rs) (b:=.int 0) rfl rfl rfl))) (Nat.le_trans hg1 (by decide))))]
   have fin:sIf (fTest (L3.f2 eqD (fVar 2) (fC (.str "so")))) (sSet 7 (fMeth joinD (fC (.str " ")) (fCons (L3.f2 addU (fLst (fCons (fVar 7) (fCons (fC (.str "from")) fNil))) (fL (fComp [none] (aName 0) tYesF (fCall strD (fCons (L3.f2 addU (fVar 0) (fC (.int 1))) fNil)) (fVar 6)))) fNil))) sSkip [some (.imm (.list (rows.map rwT))),some (.own (pre.map fun r=>.str (rowX r))),some (.imm (.str (rwW r))),some (.imm (sumD r.ls)),some (.imm (.str r.k)),some (.imm (sumD r.rs)),some (.imm (.list (naD r.fr))),some (.imm (.str (g4 r)))]=some (.nx [some (.imm (.list (rows.map rwT))),some (.own (pre.map fun r=>.str (rowX r))),some (.imm (.str (rwW r))),some (.imm (sumD r.ls)),some (.imm (.str r.k)),some (.imm (sumD r.rs)),some (.imm (.list (naD r.fr))),some (.imm (.str (rowX r)))]):=by
    cases hso:r.so with
    |false=>
     have hw:rwW r=sG:=by unfold rwW;rw[hso];exact if_neg Bool.false_ne_true
     have hx:rowX r=g4 r:=by unfold rowX;rw[hso];exact if_neg Bool.false_ne_true
     have q:eqD (.str (rwW r)) (.str "so")=some (.bool false):=by rw[hw];rfl
     rw[hx]
     exact(sIf_f (test2_ok (x:=.str (rwW r)) (y:=.str "so") rfl rfl q)).trans rfl
    |true=>
     have hw:rwW r=sS:=by unfold rwW;rw[hso];exact if_pos rfl
     have hx:rowX r=Txt.join cB (g4 r::sF::frT r.fr):=by unfold rowX;rw[hso];exact if_pos rfl
     have q:eqD (.str (rwW r)) (.str "so")=some (.bool true):=by rw[hw];rfl
     have hfr:=hr.hso hso
     have h6:=hfr.l
     rw[hx]
     refine(sIf_t (test2_ok (x:=.str (rwW r)) (y:=.str "so") rfl rfl q)).trans (sSet_eq (d:=.str (Txt.join cB (g4 r::sF::frT r.fr))) (join_ok (x:=cB) (ys:=g4 r::sF::frT r.fr) (cons1 (f2_ok (a:=.list [.str (g4 r),.str sF]) (b:=.list ((frT r.fr).map .str)) (lst2_ok rfl rfl) (fL_ok (compF_ok (d:=.list (naD r.fr)) (ds:=naD r.fr) rfl rfl (by rw[List.length_map];exact small1000 (by omega)) ?_)) ?_)) ?_))
     ·rw[List.map_map]
      refine compL_all (fun n:Nat=>Dat.int (n:Int)) _ r.fr fun n hn=>⟨[(0,.int (n:Int))],rfl,?_⟩
      have hlt:=hfr.lt n hn
      refine call1_ok (d:=.int ((n:Int)+1)) (f2_ok (a:=.int (n:Int)) (b:=.int 1) rfl rfl (addU_int _ _)) ?_
      rw[strS (by omega) (by omega)]
      show some (Dat.str (S ((n:Int)+1)))=some (Dat.str (S ((n+1:Nat):Int)))
      rw[Int.natCast_add];rfl
     ·rw[addU_list (by simp only[List.length_map,List.length_cons,List.length_nil];exact sz (by omega))];rfl
     ·have hs:=sum_le (fun x:Str=>x.length) 6 (frT r.fr) (by
       intro x hx
       obtain⟨n,hn,rfl⟩:=List.mem_map.mp hx
       have:=hfr.lt n hn
       exact(S_len (by omega)).2)
      have hF:sF.length=4:=by show(Str.ofString "from").length=4;rw[slen];rfl
      rw[cB_l]
      simp only[List.map_cons,List.sum_cons,List.length_cons,List.length_map,hF]
      rw[List.length_map]at hs
      omega
   rw[sSeq_nx fin]
   generalize Dat.str (rowX r)=dx at *
   generalize (pre.map fun r=>Dat.str (rowX r))=dpre at *
   generalize sumD r.ls=s1 at *
   generalize sumD r.rs=s2 at *
   generalize Dat.list (rows.map rwT)=drw at *
   generalize Dat.list (naD r.fr)=dfr at *
   dsimp![zl]
 obtain⟨y2,y3,y4,y5,y6,y7,e⟩:=out rows [] none none none none none none rfl
 exact⟨y2,y3,y4,y5,y6,y7,(zSeq_nx e).trans rfl⟩
end
end
section
noncomputable section
variable {P:Program} {w:World} {K:Fg} {mg:Str→Option Value} {base:Heap} {f:Addr} {fd:FuncData}
abbrev CaS (F:List Dat→Option Dat):Prop:=∀ns:List Int,∃c:Int,F [.list (ns.map .int),.int 0]=some (.int c)
theorem d_lcell (T:TX mg) (U:FnAt K mg "_law_cell_at" (top 45) ["script","k"]):
  ∃F,Dn P w K mg base 1 "_law_cell_at" ["script","k"] 2 F∧CaS F:=by
 refine⟨_,qdnA ["script","k"] U fun nd _ _ _ _ _ _ _ hr=>
  (qpsf_cons (qpsf_if (qpft_lt (qpf_var 1) (qpf_len T.len (qpfa_cons (qpf_var 0) qpfa_nil))) (qpsf_one (qpsf_ret (qpf_ix (qpf_var 0) (qpf_var 1)))) qpsf_nil)
  (qpsf_one (qpsf_ret qpf_int))),?_⟩
 intro ns
 have lo:lenD [.list (ns.map .int)]=some (.int (ns.length:Int)):=by
  show some (Dat.int _)=_
  rw[List.length_map]
 by_cases hn:(0:Int)<(ns.length:Int)
 ·have hn':0<ns.length:=by omega
  refine⟨ns[0],?_⟩
  have a0:ixD (.list (ns.map .int)) (.int 0)=some (.int ns[0]):=L3.ix_list (k:=0) (by rw[List.getElem?_map,List.getElem?_eq_getElem hn'];rfl)
  generalize Dat.list (ns.map .int)=dl at *
  dsimp![lo,ltD_int,eq_true hn,a0]
 ·refine⟨0,?_⟩
  generalize Dat.list (ns.map .int)=dl at *
  dsimp![lo,ltD_int,eq_false hn]
structure WkI (vs:List Str) (rows:List Row):Prop where
 s:soN rows≤12
 g:gvN rows≤8
 ok:∀pre r post,rows=pre++r::post→RwOk vs pre.length r∧(r.so=true→soN pre<12)∧(r.so=false→gvN pre<8)
theorem cnt_all:∀rows:List Row,soN rows+gvN rows=rows.length
 |[]=>rfl
 |r::rows=>by
  have ih:=cnt_all rows
  unfold soN gvN at *
  rw[List.filter_cons,List.filter_cons,List.length_cons]
  cases r.so
  ·simp only[Bool.false_eq_true,if_false,Bool.not_false,if_true,List.length_cons];omega
  ·simp only[if_true,Bool.not_true,Bool.false_eq_true,if_false,List.length_cons];omega
theorem WkI.len {vs:List Str} {rows:List Row} (h:WkI vs rows):rows.length≤20:=by
 have:=cnt_all rows
 have:=h.s
 have:=h.g
 omega
theorem WkI.snoc {vs:List Str} {rows:List Row} {r:Row} (h:WkI vs rows) (h1:RwOk vs rows.length r) (h2:r.so=true→soN rows<12) (h3:r.so=false→gvN rows<8):WkI vs (rows++[r]):=by
 have e1:soN (rows++[r])=soN rows+(if r.so=true then 1 else 0):=by
  unfold soN
  rw[List.filter_append,List.length_append,List.filter_cons]
  cases r.so<;>rfl
 have e2:gvN (rows++[r])=gvN rows+(if r.so=true then 0 else 1):=by
  unfold gvN
  rw[List.filter_append,List.length_append,List.filter_cons]
  cases r.so<;>rfl
 refine⟨?_,?_,?_⟩
 ·rw[e1]
  split
  ·rename_i z;have:=h2 z;omega
  ·have:=h.s;omega
 ·rw[e2]
  split
  ·have:=h.g;omega
  ·rename_i z;have:=h3 (by simpa using z);omega
 ·intro pre q post e
  cases hp:post.reverse with
  |nil=>
   have:post=[]:=by simpa using hp
   subst this
   obtain⟨e3,e4⟩:=List.append_inj' e rfl
   injection e4 with e4
   subst e3 e4
   exact⟨h1,h2,h3⟩
  |cons a l=>
   have hpost:post=l.reverse++[a]:=by rw[← List.reverse_reverse post,hp,List.reverse_cons]
   rw[hpost,← List.cons_append,← List.append_assoc]at e
   obtain⟨e3,_⟩:=List.append_inj' e rfl
   exact h.ok pre q l.reverse e3
theorem WkI.rows {vs:List Str} {rows:List Row} (h:WkI vs rows) (hv:Nms vs):RowsOk vs rows:=⟨hv,by have:=h.len;omega,fun pre r post e=>(h.ok pre r post e).1⟩
theorem WkI.kq {vs:List Str} {rows:List Row} (h:WkI vs rows) (hv:Nms vs):∀r∈rows,kqdOk 8 (rwT r)=true:=fun r hr=>by
 obtain⟨m,hm⟩:=(h.rows hv).mem hr
 exact kq_row hm hv.gd
theorem brw_ok {i n:Nat} {F:List Dat→Option Dat} {f0:Rho→Option Dat} {fs:Rho→Option (List Dat)} {Γ:Gam} {ds us:List Dat} {d0 d:Dat} (h1:Γ[i]?=some (some (.own ds))) (h2:f0 (immV Γ)=some d0) (h3:fs (immV Γ)=some us) (h4:us.length+2=n) (h5:F (d0::.list ds::us)=some d):hBrw i n F f0 fs Γ=some (d,Γ):=by
 unfold hBrw
 simp only[h1,h2,h3,Option.bind_some]
 rw[if_pos h4,h5];rfl
theorem appH_ok {i:Nat} {h:HF} {Γ Γ':Gam} {ds0 ds:List Dat} {d:Dat} (h1:Γ[i]?=some (some (.own ds0))) (h2:h Γ=some (d,Γ')) (h3:Γ'[i]?=some (some (.own ds))) (h4:ds.length<sizeLine):sAppH i h Γ=some (.nx (Γ'.set i (some (.own (ds++[d]))))):=by
 unfold sAppH
 simp only[h1,h2,h3,Option.bind_some]
 unfold gd
 rw[if_pos h4]
abbrev NmS (F:List Dat→Option Dat):Prop:=∀c:Int,∃d,(∃ns:List Str,d=.list (ns.map .str)∧ns.length=3∧(∀x∈ns,Nm x)∧ns.Nodup∧∀x∈ns,x∉bw)∧F [.int c,.int 300,.int 3]=some d
abbrev aoD:Option Nat→Dat
 |none=>.none
 |some a=>nat a
structure Made (vs:List Str) (rows:List Row) (ao:Option Nat):Prop where
 v:Nms vs
 w:WkI vs rows
 ne:rows≠[]
 a:∀a,ao=some a→a<(nmR [] rows).length
abbrev MdS (F:List Dat→Option Dat):Prop:=∀cells:List Int,∃vs rows ao,Made vs rows ao∧F [.list (cells.map .int)]=some (.list [.list (rows.map rwT),aoD ao])
theorem at5 {i:Int} (h0:0≤i) (hi:i<5):∃t:Nat,t≤3∧ixD (.list [.int 3,.int 3,.int 2,.int 1,.int 0]) (.int i)=some (.int (t:Int)):=by
 have:i=0∨i=1∨i=2∨i=3∨i=4:=by omega
 rcases this with rfl|rfl|rfl|rfl|rfl
 ·exact⟨3,by decide,rfl⟩
 ·exact⟨3,by decide,rfl⟩
 ·exact⟨2,by decide,rfl⟩
 ·exact⟨1,by decide,rfl⟩
 ·exact⟨0,by decide,rfl⟩
theorem sl_ints (cells:List Int) (a b:Option Int):∃sub:List Int,slU (.list (cells.map .int)) a b=some (.list (sub.map .int)):=by
 refine⟨((cells.drop (HT.sIx (cells.map Dat.int).length 0 a)).take (HT.sIx (cells.map Dat.int).length (cells.map Dat.int).length b-HT.sIx (cells.map Dat.int).length 0 a)),?_⟩
 show some (Dat.list (L3.cutD (cells.map .int) a b))=_
 unfold L3.cutD
 rw[← List.map_drop,← List.map_take]
theorem exMd {g1 g2:Gam→Option Fl} {Γ Γ1:Gam} {A:List Row→Option Nat→Prop} {R:List Row→Option Nat→Dat} (h:g1 Γ=some (.nx Γ1)) (k:∃rows ao,A rows ao∧g2 Γ1=some (.rt (R rows ao))):∃rows ao,A rows ao∧sSeq g1 g2 Γ=some (.rt (R rows ao)):=by
 rw[sSeq_nx h];exact k
theorem d_lmade (T:TX mg) {Fc Fst Fn Fsd Frw:List Dat→Option Dat} (Dl_cell_at:Dn P w K mg base 7 "_law_cell_at" ["script","k"] 2 Fc) (hC:CaS Fc) (Dl_stir:Dn P w K mg base 7 "_law_stir" ["cell","k"] 2 Fst) (hs:StS Fst) (Dl_names:Dn P w K mg base 7 "_law_names" ["head","k","many"] 3 Fn) (hN:NmS Fn) (Dl_standing:Dn P w K mg base 7 "_law_standing" ["rows"] 1 Fsd) (hSd:SdS Fsd) (Dl_row:DnB P w K mg base 7 "_law_row" ["cell","rows","names"] 3 1 Frw) (hR:LrS Frw) (U:FnAt K mg "_law_made" (top 59) ["script"]):
  ∃F,Dn P w K mg base 8 "_law_made" ["script"] 1 F∧MdS F:=by
 refine⟨_,qdnA ["script","head","some","rows","cell","words","names","asked"] U fun nd _ _ _ _ _ _ _ hr=>(qpsf_cons (qpsf_set 1 nd (qpf_fn Dl_cell_at hr (qpfa_cons (qpf_var 0) (qpfa_cons qpf_int qpfa_nil))))
  (qpsf_cons (qpsf_set 2 nd (qpf_sliceU (qpf_fn Dl_names hr (qpfa_cons (qpf_var 1) (qpfa_cons qpf_int (qpfa_cons qpf_int qpfa_nil)))) qpfo_none (qpfo_some (qpf_ix (qpf_lst (qpfa_cons qpf_int (qpfa_cons qpf_int (qpfa_cons qpf_int (qpfa_cons qpf_int (qpfa_cons qpf_int qpfa_nil)))))) (qpf_mod (qpf_fn Dl_stir hr (qpfa_cons (qpf_var 1) (qpfa_cons qpf_int qpfa_nil))) qpf_int)))))
  (qpsf_cons (qpsf_own 3 nd (qpfl_lst qpfa_nil))
  (qpsf_cons (qpsf_for PassesOwn.never rfl (qpf_sliceU (qpf_var 0) (qpfo_some qpf_int) (qpfo_some qpf_int)) (qpgf_name 4 nd)
  (qpsf_cons (qpsf_setCS 5 nd rfl (blk_plain (N':=["row"])) (qpif_seq (qpf_var 3)) (fun _ _ _ _=>(qpgf_name 0 (show(["row"]:List Str).Nodup by decide +kernel))) (fun _ _ _ _=>qptsf_nil) (fun _ _ _ _=>(qpf_ix (qpf_var 0) qpf_int)) (tg_name rfl))
  (qpsf_one (qpsf_if (qpft_w (qpfw_or (qpft_lt (qpf_count (qpf_var 5) (qpfa_cons qpf_str qpfa_nil)) qpf_int) (qpfw_or1 (qpft_lt (qpf_count (qpf_var 5) (qpfa_cons qpf_str qpfa_nil)) qpf_int)))) (qpsf_one (qpsf_appH 3 (qph_brw 3 Dl_row hr (qpf_var 4) (qpfa_cons (qpf_var 2) qpfa_nil)))) qpsf_nil))))
  (qpsf_cons (qpsf_if (qpft_eq hr (qpf_var 3) (qpf_lst qpfa_nil)) (qpsf_one (qpsf_append 3 (qpf_brwN Dl_row hr (qpf_var 1) (qpfa_cons (qpf_var 2) qpfa_nil)))) qpsf_nil)
  (qpsf_cons (qpsf_frz [3] (qpsf_set 6 nd (qpf_fn Dl_standing hr (qpfa_cons (qpf_var 3) qpfa_nil))))
  (qpsf_cons (qpsf_set 7 nd qpf_non)
  (qpsf_cons (qpsf_if (qpft_w (qpfw_and (qpft_ne hr (qpf_var 6) (qpf_lst qpfa_nil)) (qpfw_and1 (qpft_gt (qpf_mod (qpf_fn Dl_stir hr (qpfa_cons (qpf_var 1) (qpfa_cons qpf_int qpfa_nil))) qpf_int) qpf_int)))) (qpsf_one (qpsf_set 7 nd (qpf_mod (qpf_fn Dl_stir hr (qpfa_cons (qpf_var 1) (qpfa_cons qpf_int qpfa_nil))) (qpf_len T.len (qpfa_cons (qpf_var 6) qpfa_nil))))) qpsf_nil)
  (qpsf_one (qpsf_ret (qpf_lst (qpfa_cons (qpf_var 3) (qpfa_cons (qpf_var 7) qpfa_nil))))))))))))),?_⟩
 intro cells
 obtain⟨c,eC⟩:=hC cells
 obtain⟨_,⟨nm,rfl,hnm3,hnm,hnd,hnb⟩,eN⟩:=hN c
 have t1:=hs c 320 (by decide)
 have t2:=modD_int (a:=stir c 320) (b:=5) (by decide)
 have b2:=fmod_bd (stir c 320) (b:=5) (by decide)
 obtain⟨t,ht3,eT⟩:=at5 b2.1 b2.2
 have slN:slU (.list (nm.map .str)) none (some (t:Int))=some (.list ((nm.take t).map .str)):=by
  rw[L3.sl_to,List.map_take]
 have hv:Nms (nm.take t):=⟨by rw[List.length_take];omega,hnd.sublist (List.take_sublist t nm),fun x hx=>⟨hnm x (List.mem_of_mem_take hx),hnb x (List.mem_of_mem_take hx)⟩⟩
 have z5:5≤sizeLine:=sz (by decide)
 have z2:2≤sizeLine:=sz (by decide)
 have z0:0≤sizeLine:=Nat.zero_le _
 obtain⟨sub,slS⟩:=sl_ints cells (some 1) (some 21)
 generalize Dat.list (nm.map .str)=dm at eN slN
 generalize nm.take t=vs at slN hv
 generalize hsc:Dat.list (cells.map .int)=dsc at *
 suffices hz:∃rows ao,Made vs rows ao∧sSeq _ _ [some (.imm (dsc)),none,none,none,none,none,none,none]=some (.rt (.list [.list (rows.map rwT),aoD ao]))from by
  obtain⟨rows,ao,h1,h2⟩:=hz
  exact⟨vs,rows,ao,h1,runF_rt h2⟩
 rw[sSeq_nx (Γ':=[some (.imm (dsc)),some (.imm (.int c)),none,none,none,none,none,none]) (by dsimp![eC])]
 rw[sSeq_nx (Γ':=[some (.imm (dsc)),some (.imm (.int c)),some (.imm (.list (vs.map .str))),none,none,none,none,none]) (by
  generalize Dat.list (vs.map .str)=dv at *
  dsimp![fSlU,oNone,oSome,asI,eN,t1,t2,z5,eT,slN])]
 rw[sSeq_nx (Γ':=[some (.imm (dsc)),some (.imm (.int c)),some (.imm (.list (vs.map .str))),some (.own (([]:List Row).map rwT)),none,none,none,none]) rfl]
 have hloop:∃(Γ':Gam),forL (aName 4) (sSeq (sSetCS 5 (fCompI [none] (aName 0) tYesF (L3.f2 ixD (fVar 0) (fC (.int 0))) (iSq (fVar 3)))) (sIf (fOrT (fTest (L3.f2 ltD (fMeth countD (fVar 5) (fCons (fC (.str "so")) fNil)) (fC (.int 12)))) (fTest (L3.f2 ltD (fMeth countD (fVar 5) (fCons (fC (.str "given")) fNil)) (fC (.int 8))))) (sAppH 3 (hBrw 3 3 Frw (fVar 4) (fCons (fVar 2) fNil))) sSkip)) (sub.map .int) [some (.imm (dsc)),some (.imm (.int c)),some (.imm (.list (vs.map .str))),some (.own (([]:List Row).map rwT)),none,none,none,none]=some (.nx Γ')∧∃rows x4 x5,WkI vs rows∧Γ'=[some (.imm (dsc)),some (.imm (.int c)),some (.imm (.list (vs.map .str))),some (.own (rows.map rwT)),x4,x5,none,none]:=by
  refine forL_inv (enc:=Dat.int) (fun _ Γ=>∃rows x4 x5,WkI vs rows∧Γ=[some (.imm (dsc)),some (.imm (.int c)),some (.imm (.list (vs.map .str))),some (.own (rows.map rwT)),x4,x5,none,none]) ?_ sub _ ⟨[],none,none,⟨by decide,by decide,fun pre r post e=>by cases pre<;>cases e⟩,rfl⟩
  rintro ce _ Γ ⟨rows,x4,x5,hw,rfl⟩
  refine⟨[(4,.int ce)],rfl,?_⟩
  show ∃Γ',sSeq _ _ [some (.imm (dsc)),some (.imm (.int c)),some (.imm (.list (vs.map .str))),some (.own (rows.map rwT)),some (.imm (.int ce)),x5,none,none]=_∧_
  have hl:=hw.len
  have hz:(rows.map rwT).length<sizeLine:=by rw[List.length_map];exact small1000 (by omega)
  have cs:=cnt_so rows
  have cg:=cnt_gv rows
  have l12:=ltD_int (soN rows:Int) 12
  have l8:=ltD_int (gvN rows:Int) 8
  refine exS (Γ1:=[some (.imm (dsc)),some (.imm (.int c)),some (.imm (.list (vs.map .str))),some (.own (rows.map rwT)),some (.imm (.int ce)),some (.imm (.list (rows.map fun r=>.str (rwW r)))),none,none]) (setCS_ok (i:=5) (ds:=rows.map fun r=>.str (rwW r)) (by
   show(if(rows.map rwT).length<sizeLine then _ else none)=_
   rw[if_pos hz]
   exact words_c rows) (words_sc rows)) ?_
  by_cases hg:soN rows<12∨gvN rows<8
  ·obtain⟨r,h1,h2,h3,eR⟩:=hR ce rows vs hv (by omega) (hw.kq hv)
   have h8:r.so=false→gvN rows<8:=fun hz=>by
    have:=h3 hz
    have hg8:=hw.g
    by_cases e8:gvN rows=8
    ·exfalso
     refine this ⟨?_,?_,e8⟩
     ·intro z;rw[z]at e8;cases e8
     ·rcases hg with h|h
      ·exact h
      ·omega
    ·omega
   refine⟨[some (.imm (dsc)),some (.imm (.int c)),some (.imm (.list (vs.map .str))),some (.own ((rows++[r]).map rwT)),some (.imm (.int ce)),some (.imm (.list (rows.map fun r=>.str (rwW r)))),none,none],(sIf_t ?_).trans ?_,rows++[r],_,_,hw.snoc h1 h2 h8,rfl⟩
   ·generalize Dat.list (vs.map .str)=dv at *
    generalize rows.map rwT=drw at *
    generalize Dat.list (rows.map fun r=>Dat.str (rwW r))=dww at *
    by_cases hs':soN rows<12
    ·rw[decide_eq_true (by omega)]at l12
     generalize (soN rows:Int)=sn at *
     dsimp![cs,l12]
    ·rw[decide_eq_false (by omega)]at l12
     rw[decide_eq_true (by rcases hg with h|h<;>omega)]at l8
     generalize (soN rows:Int)=sn at *
     generalize (gvN rows:Int)=gn at *
     dsimp![cs,l12,cg,l8]
   ·have eb:hBrw 3 3 Frw (fVar 4) (fCons (fVar 2) fNil) [some (.imm (dsc)),some (.imm (.int c)),some (.imm (.list (vs.map .str))),some (.own (rows.map rwT)),some (.imm (.int ce)),some (.imm (.list (rows.map fun r=>.str (rwW r)))),none,none]=some (rwT r,[some (.imm (dsc)),some (.imm (.int c)),some (.imm (.list (vs.map .str))),some (.own (rows.map rwT)),some (.imm (.int ce)),some (.imm (.list (rows.map fun r=>.str (rwW r)))),none,none]):=brw_ok (ds:=rows.map rwT) (us:=[.list (vs.map .str)]) (d0:=.int ce) rfl rfl rfl rfl eR
    have ea:=appH_ok (i:=3) (ds0:=rows.map rwT) (ds:=rows.map rwT) (d:=rwT r) rfl eb rfl hz
    rw[List.map_append]
    exact ea
  ·refine⟨[some (.imm (dsc)),some (.imm (.int c)),some (.imm (.list (vs.map .str))),some (.own (rows.map rwT)),some (.imm (.int ce)),some (.imm (.list (rows.map fun r=>.str (rwW r)))),none,none],(sIf_f ?_).trans rfl,rows,_,_,hw,rfl⟩
   generalize Dat.list (vs.map .str)=dv at *
   generalize rows.map rwT=drw at *
   generalize Dat.list (rows.map fun r=>Dat.str (rwW r))=dww at *
   rw[decide_eq_false (by omega)]at l12 l8
   generalize (soN rows:Int)=sn at *
   generalize (gvN rows:Int)=gn at *
   dsimp![cs,l12,cg,l8]
 obtain⟨_,eloop,rows,x4,x5,hw,rfl⟩:=hloop
 have efor:sFor (aName 4) (sSeq (sSetCS 5 (fCompI [none] (aName 0) tYesF (L3.f2 ixD (fVar 0) (fC (.int 0))) (iSq (fVar 3)))) (sIf (fOrT (fTest (L3.f2 ltD (fMeth countD (fVar 5) (fCons (fC (.str "so")) fNil)) (fC (.int 12)))) (fTest (L3.f2 ltD (fMeth countD (fVar 5) (fCons (fC (.str "given")) fNil)) (fC (.int 8))))) (sAppH 3 (hBrw 3 3 Frw (fVar 4) (fCons (fVar 2) fNil))) sSkip)) (fSlU (fVar 0) (oSome (fC (.int 1))) (oSome (fC (.int 21)))) [some (.imm (dsc)),some (.imm (.int c)),some (.imm (.list (vs.map .str))),some (.own (([]:List Row).map rwT)),none,none,none,none]=_:=(sFor_items (d:=.list (sub.map .int)) (by
  generalize Dat.list (vs.map .str)=dv at *
  generalize Dat.list (sub.map .int)=dsu at *
  dsimp![fSlU,oSome,asI,slS]) rfl).trans eloop
 refine exMd efor ?_
 clear efor eloop

 obtain⟨rows',hw',hne,eIf⟩:∃rows',WkI vs rows'∧rows'≠[]∧sIf (fTest (L3.f2 eqD (fVar 3) (fLst fNil))) (sApp 3 (fBrwN 3 Frw (fVar 1) (fCons (fVar 2) fNil))) sSkip [some (.imm (dsc)),some (.imm (.int c)),some (.imm (.list (vs.map .str))),some (.own (rows.map rwT)),x4,x5,none,none]=some (.nx [some (.imm (dsc)),some (.imm (.int c)),some (.imm (.list (vs.map .str))),some (.own (rows'.map rwT)),x4,x5,none,none]):=by
  have en:=eq_nil (rows.map rwT) (by
   intro d hd
   obtain⟨r,hr,rfl⟩:=List.mem_map.mp hd
   exact hw.kq hv r hr)
  by_cases h0:rows=[]
  ·subst h0
   obtain⟨r,h1,h2,h3,eR⟩:=hR c [] vs hv (by decide) (fun r hr=>by cases hr)
   refine⟨[r],?_,by simp,?_⟩
   ·exact hw.snoc h1 h2 (fun _=>by show 0<8;decide)
   ·refine(sIf_t ?_).trans ?_
    ·refine test2_ok (x:=.list []) (y:=.list []) rfl (show(if 0≤sizeLine then some (Dat.list [])else none)=_ from if_pos z0) ?_
     rw[eq_nil [] (fun d h=>by cases h),decide_eq_true rfl]
    ·have eB:fBrwN 3 Frw (fVar 1) (fCons (fVar 2) fNil) (immV [some (.imm (dsc)),some (.imm (.int c)),some (.imm (.list (vs.map .str))),some (.own (([]:List Row).map rwT)),x4,x5,none,none])=some (rwT r):=by
      show(if([Dat.list (vs.map .str)]:List Dat).length+2=3 then Frw (.int c::.list []::[Dat.list (vs.map .str)])else none)=_
      exact(if_pos rfl).trans eR
     unfold sApp
     show(fBrwN 3 Frw _ _ _).bind _=_
     rw[eB,Option.bind_some]
     show gd _ _=_
     unfold gd
     rw[if_pos (show(([]:List Row).map rwT).length<sizeLine from small1000 (by decide))]
     rfl
  ·refine⟨rows,hw,h0,(sIf_f ?_).trans rfl⟩
   rw[decide_eq_false (fun z=>h0 (List.map_eq_nil_iff.mp z))]at en
   generalize Dat.list (vs.map .str)=dv at *
   generalize rows.map rwT=drw at *
   dsimp![z0,en]
 rw[sSeq_nx eIf]
 have eS:=hSd vs rows' (hw'.rows hv)
 obtain⟨hnd',_,hn3,hng⟩:=(hw'.rows hv).names
 show ∃rows ao,_∧sSeq (fun Γ=>sSet 6 _ (frzs [3] Γ)) _ _=_
 refine⟨rows',?_⟩
 generalize hns:nmR [] rows'=ns at *
 rw[sSeq_nx (Γ':=[some (.imm (dsc)),some (.imm (.int c)),some (.imm (.list (vs.map .str))),some (.imm (.list (rows'.map rwT))),x4,x5,some (.imm (.list (ns.map .str))),none]) (by
  show sSet 6 _ [some (.imm (dsc)),some (.imm (.int c)),some (.imm (.list (vs.map .str))),some (.imm (.list (rows'.map rwT))),x4,x5,none,none]=_
  generalize Dat.list (ns.map .str)=dn at *
  generalize Dat.list (rows'.map rwT)=drw at *
  generalize Dat.list (vs.map .str)=dv at *
  dsimp![eS])]
 rw[sSeq_nx (Γ':=[some (.imm (dsc)),some (.imm (.int c)),some (.imm (.list (vs.map .str))),some (.imm (.list (rows'.map rwT))),x4,x5,some (.imm (.list (ns.map .str))),some (.imm (.none))]) rfl]
 have u1:=hs c 321 (by decide)
 have u2:=modD_int (a:=stir c 321) (b:=3) (by decide)
 have u3:=gtD_int ((stir c 321).fmod 3) 0
 have w1:=hs c 322 (by decide)
 have ll:lenD [.list (ns.map .str)]=some (.int (ns.length:Int)):=by
  show some (Dat.int _)=_
  rw[List.length_map]
 have nn:=ne_nil (ns.map .str) (by
  intro d hd
  obtain⟨x,hx,rfl⟩:=List.mem_map.mp hd
  exact(hng x hx).1.ok)
 have mk:∀ao:Option Nat,(∀a,ao=some a→a<ns.length)→Made vs rows' ao:=fun ao h=>⟨hv,hw',hne,fun a e=>by rw[hns];exact h a e⟩
 by_cases hb:ns≠[]∧0<(stir c 321).fmod 3
 ·obtain⟨h1,h2⟩:=hb
  have hpos:1≤ns.length:=List.length_pos_iff.mpr h1
  have w2:=modD_int (a:=stir c 322) (b:=(ns.length:Int)) (by omega)
  have bw2:=fmod_bd (stir c 322) (b:=(ns.length:Int)) (by omega)
  obtain⟨a,ea⟩:∃a:Nat,(stir c 322).fmod (ns.length:Int)=(a:Int):=⟨((stir c 322).fmod (ns.length:Int)).toNat,by omega⟩
  rw[ea]at w2 bw2
  refine⟨some a,mk _ (fun b e=>by cases e;omega),?_⟩
  rw[decide_eq_false (fun z=>h1 (List.map_eq_nil_iff.mp z))]at nn
  rw[decide_eq_true h2]at u3
  show _=some (Fl.rt (.list [.list (rows'.map rwT),.int (a:Int)]))
  generalize Dat.list (ns.map .str)=dn at *
  generalize Dat.list (rows'.map rwT)=drw at *
  generalize Dat.list (vs.map .str)=dv at *
  generalize (ns.length:Int)=nl at *
  generalize (a:Int)=aa at *
  rw[sSeq_nx (Γ':=[some (.imm (dsc)),some (.imm (.int c)),some (.imm (dv)),some (.imm (drw)),x4,x5,some (.imm (dn)),some (.imm (.int aa))]) ((sIf_t (by dsimp![nn,z0,u1,u2,u3])).trans (by dsimp![w1,ll,w2]))]
  dsimp![z2]
 ·refine⟨none,mk _ (fun a e=>by cases e),?_⟩
  show _=some (Fl.rt (.list [.list (rows'.map rwT),.none]))
  have hf:(fAndT (fTest (L3.f2 neD (fVar 6) (fLst fNil))) (fTest (L3.f2 gtD (L3.f2 modD (fFn 2 Fst (fCons (fVar 1) (fCons (fC (.int 321)) fNil))) (fC (.int 3))) (fC (.int 0))))) (allV [some (.imm (dsc)),some (.imm (.int c)),some (.imm (.list (vs.map .str))),some (.imm (.list (rows'.map rwT))),x4,x5,some (.imm (.list (ns.map .str))),some (.imm (.none))])=some false:=by
   generalize Dat.list (rows'.map rwT)=drw at *
   generalize Dat.list (vs.map .str)=dv at *
   by_cases h1:ns=[]
   ·rw[decide_eq_true (by rw[h1];rfl)]at nn
    generalize Dat.list (ns.map .str)=dn at *
    dsimp![nn,z0]
   ·rw[decide_eq_false (fun z=>h1 (List.map_eq_nil_iff.mp z))]at nn
    rw[decide_eq_false (fun z=>hb ⟨h1,z⟩)]at u3
    generalize Dat.list (ns.map .str)=dn at *
    dsimp![nn,z0,u1,u2,u3]
  rw[sSeq_nx ((sIf_f hf).trans rfl)]
  generalize Dat.list (ns.map .str)=dn at *
  generalize Dat.list (rows'.map rwT)=drw at *
  generalize Dat.list (vs.map .str)=dv at *
  dsimp![z2]
end
end
section
noncomputable section
variable {P:Program} {w:World} {K:Fg} {mg:Str→Option Value} {base:Heap} {f:Addr} {fd:FuncData}
abbrev drR (r:Row):Dr:=(rwW r,r.k',lnT (r.ls.map sgT) (r.rs.map sgT) r.tu,r.fr.map (· + 1))
abbrev pR (r:Row):Rp:=(rowX r,drR r)
abbrev bA:Str:=Str.ofString "ask "
abbrev nth (ns:List Str) (a:Nat):Str:=(ns[a]?).getD ⟨#[]⟩
abbrev akO (ns:List Str):Option Nat→Option Ak
 |none=>none
 |some a=>some (bA++nth ns a,nth ns a,a)
abbrev sN:Str:=⟨#[10]⟩
abbrev txtsW (rows:List Row) (ao:Option Nat):List Str:=rows.map rowX++(akO (nmR [] rows) ao).toList.map (·.1)
abbrev wkX (rows:List Row) (ao:Option Nat):Str:=Txt.join sN (txtsW rows ao)
theorem tl_jn:∀(y:Str) (ys:List Str),tl (Str.join cB (y::ys))=Tx.glue ((y::ys).map tl)
 |y,[]=>rfl
 |y,z::ys=>by
  show tl (y++cB++Str.join cB (z::ys))=tl y++32::Tx.glue ((z::ys).map tl)
  have e:tl cB=[32]:=by decide +kernel
  rw[tl_app,tl_app,e,tl_jn z ys,List.append_assoc];rfl
theorem tl_join' (y:Str) (ys:List Str):tl (Txt.join cB (y::ys))=Tx.glue ((y::ys).map tl):=by
 show tl (Builtin.Str.glued cB (y::ys))=_
 rw[PySem.StrLaws.glued_eq_join,tl_jn]
theorem nmF_rows:∀(rows:List Row) (acc:List Str),(rows.map pR).foldl (fun acc p=>nmW acc p.2.2.2.1) acc=nmR acc rows
 |[],_=>rfl
 |r::rows,acc=>by
  rw[List.map_cons,List.foldl_cons,nmF_rows rows]
  show nmR (nmW acc (lnT (r.ls.map sgT) (r.rs.map sgT) r.tu)) rows=nmR (nmW acc (rwS r)) rows
  rw[nmW_ln]
theorem nmF_r (rows:List Row):nmF (rows.map pR)=nmR [] rows:=nmF_rows rows []
section
variable {vs:List Str} {rows:List Row} {ao:Option Nat} {m:Nat} {r:Row} {Fs Fm Fl Fi Fr Fc Fo:List Dat→Option Dat} {Fw:List Dat→Option (List Dat)}
theorem rowX_l (h:RwOk vs m r) (hm:m≤100):(rowX r).length≤300:=by
 obtain⟨_,h1⟩:=g4_l h
 unfold rowX
 split
 ·rename_i hso
  have hfr:=h.hso hso
  have h6:=hfr.l
  have hs:=sum_le (fun x:Str=>x.length) 6 (frT r.fr) (by
   intro x hx
   obtain⟨n,hn,rfl⟩:=List.mem_map.mp hx
   have:=hfr.lt n hn
   exact(S_len (by omega)).2)
  have hF:sF.length=4:=by show(Str.ofString "from").length=4;rw[slen];rfl
  have hj:=join_len cB (g4 r::sF::frT r.fr)
  rw[cB_l]at hj
  simp only[List.map_cons,List.sum_cons,List.length_cons,List.length_map,hF]at hj
  rw[List.length_map]at hs
  omega
 ·omega
theorem row_w (h:RwOk vs m r) {c:Nat} (hc:c<42) (hG:c∉tl sG) (hS:c∉tl sS):∀z∈[rwW r,txt (r.ls.map sgW),r.k,txt (r.rs.map sgW)],c∉tl z:=by
 intro z hz
 simp only[List.mem_cons,List.not_mem_nil,or_false]at hz
 rcases hz with rfl|rfl|rfl|rfl
 ·unfold rwW;split
  ·exact hS
  ·exact hG
 ·exact sm_no h.sl hc
 ·exact(k5_no h.hk hc).1
 ·exact sm_no h.sr hc
theorem glue_no {c:Nat} (hc:c≠32):∀l:List (List Nat),(∀x∈l,c∉x)→c∉Tx.glue l
 |[],_=>by simp[Tx.glue]
 |[a],h=>h a List.mem_cons_self
 |a::b::l,h=>by
  show c∉a++32::Tx.glue (b::l)
  intro z
  rcases List.mem_append.mp z with z|z
  ·exact h a List.mem_cons_self z
  ·rcases List.mem_cons.mp z with z|z
   ·exact hc z
   ·exact glue_no hc (b::l) (fun x hx=>h x (List.mem_cons_of_mem _ hx)) z
theorem tl_g4 (r:Row):tl (g4 r)=Tx.glue ([rwW r,txt (r.ls.map sgW),r.k,txt (r.rs.map sgW)].map tl):=tl_join' _ _
theorem rowX_10 (h:RwOk vs m r):10∉tl (rowX r):=by
 have hg:10∉tl (g4 r):=by
  rw[tl_g4]
  refine glue_no (by decide) _ fun x hx=>?_
  obtain⟨y,hy,rfl⟩:=List.mem_map.mp hx
  exact row_w h (by decide) (by decide +kernel) (by decide +kernel) y hy
 unfold rowX
 split
 ·rw[tl_join']
  refine glue_no (by decide) _ fun x hx=>?_
  obtain⟨y,hy,rfl⟩:=List.mem_map.mp hx
  rcases List.mem_cons.mp hy with rfl|hy
  ·exact hg
  ·rcases List.mem_cons.mp hy with rfl|hy
   ·exact(by decide +kernel:10∉tl sF)
   ·obtain⟨n,_,rfl⟩:=List.mem_map.mp hy
    exact S_no _ _ (.inl (by decide))
 ·exact hg
theorem row_rd (R:RD Fs Fm Fl Fi Fr Fc Fw Fo) (h:RwOk vs m r) (hm:m≤100):Fr [.str (rowX r)]=some (drD (drR r)):=by
 have hl1:=h.sl.l
 have hl2:=h.sr.l
 have hln:(r.ls.map sgT).length+(r.rs.map sgT).length≤100:=by rw[List.length_map,List.length_map];omega
 have hxl:=rowX_l h hm
 cases hso:r.so with
 |false=>
  have hw:rwW r=sG:=by unfold rwW;rw[hso];exact if_neg Bool.false_ne_true
  have hx:rowX r=g4 r:=by unfold rowX;rw[hso];exact if_neg Bool.false_ne_true
  have hf:=h.hgv hso
  have eL:=R.rl sG (txt (r.ls.map sgW)) r.k r.k' (txt (r.rs.map sgW)) r.tu (r.ls.map sgT) (r.rs.map sgT) [] h.hk hln (sm_pd h.sl) (sm_pd h.sr) (sm_ok R h.sl) (sm_ok R h.sr) (by decide) (fun n hn=>by cases hn)
  refine R.rr.gv (rowX r) (txt (r.ls.map sgW)) r.k (txt (r.rs.map sgW)) _ ?_ ?_ (by omega) ?_
  ·rw[hx,tl_g4,hw]
  ·have:=row_w h (c:=32) (by decide) (by decide +kernel) (by decide +kernel)
   rw[hw]at this
   exact this
  ·show Fl _=some (drD (rwW r,r.k',lnT (r.ls.map sgT) (r.rs.map sgT) r.tu,r.fr.map (· + 1)))
   rw[hw,hf]
   exact eL
 |true=>
  have hw:rwW r=sS:=by unfold rwW;rw[hso];exact if_pos rfl
  have hx:rowX r=Txt.join cB (g4 r::sF::frT r.fr):=by unfold rowX;rw[hso];exact if_pos rfl
  have hfr:=h.hso hso
  have h6:=hfr.l
  have eL:=R.rl sS (txt (r.ls.map sgW)) r.k r.k' (txt (r.rs.map sgW)) r.tu (r.ls.map sgT) (r.rs.map sgT) (r.fr.map (· + 1)) h.hk hln (sm_pd h.sl) (sm_pd h.sr) (sm_ok R h.sl) (sm_ok R h.sr) (by rw[List.length_map];omega) (fun n hn=>by
   obtain⟨k,hk,rfl⟩:=List.mem_map.mp hn
   have:=hfr.lt k hk
   omega)
  have e1:whsD (r.fr.map (· + 1))=.list ((frT r.fr).map .str):=by
   show Dat.list ((r.fr.map (· + 1)).map fun n:Nat=>Dat.str (S (n:Int)))=_
   rw[List.map_map,List.map_map];rfl
  rw[e1]at eL
  refine R.rr.so (rowX r) (txt (r.ls.map sgW)) r.k (txt (r.rs.map sgW)) (frT r.fr) _ (by rw[List.length_map];exact hfr.ne) (by rw[List.length_map];exact h6) ?_ ?_ (by omega) ?_
  ·rw[hx,tl_join',List.map_cons,tl_g4,hw]
   show Tx.glue ((tl sS++32::(tl (txt (r.ls.map sgW))++32::(tl r.k++32::tl (txt (r.rs.map sgW)))))::tl sF::(frT r.fr).map tl)=tl sS++32::(tl (txt (r.ls.map sgW))++32::(tl r.k++32::(tl (txt (r.rs.map sgW))++32::Tx.glue (tl sF::(frT r.fr).map tl))))
   show(tl sS++32::(tl (txt (r.ls.map sgW))++32::(tl r.k++32::tl (txt (r.rs.map sgW)))))++32::Tx.glue (tl sF::(frT r.fr).map tl)=_
   simp only[List.append_assoc,List.cons_append]
  ·have h4:=row_w h (c:=32) (by decide) (by decide +kernel) (by decide +kernel)
   rw[hw]at h4
   intro z hz
   simp only[List.mem_cons]at hz
   rcases hz with e|e|e|e|e|hz
   ·exact h4 z (by rw[e];simp)
   ·exact h4 z (by rw[e];simp)
   ·exact h4 z (by rw[e];simp)
   ·exact h4 z (by rw[e];simp)
   ·rw[e];exact(by decide +kernel:32∉tl sF)
   ·obtain⟨n,_,rfl⟩:=List.mem_map.mp hz
    exact S_no _ _ (.inl (by decide))
  ·show Fl _=some (drD (rwW r,r.k',lnT (r.ls.map sgT) (r.rs.map sgT) r.tu,r.fr.map (· + 1)))
   rw[hw]
   exact eL
theorem flt_so (rows:List Row):((rows.map drR).filter fun e=>decide (e.1=sS)).length=soN rows:=by
 rw[List.filter_map,List.length_map]
 unfold soN
 congr 1
 refine List.filter_congr fun r _=>?_
 show decide (rwW r=sS)=r.so
 unfold rwW
 cases r.so
 ·rw[if_neg Bool.false_ne_true];exact decide_eq_false (by decide +kernel)
 ·rw[if_pos rfl];exact decide_eq_true rfl
theorem flt_gv (rows:List Row):((rows.map drR).filter fun e=>decide (e.1=sG)).length=gvN rows:=by
 rw[List.filter_map,List.length_map]
 unfold gvN
 congr 1
 refine List.filter_congr fun r _=>?_
 show decide (rwW r=sG)=!r.so
 unfold rwW
 cases r.so
 ·rw[if_neg Bool.false_ne_true];exact decide_eq_true rfl
 ·rw[if_pos rfl];exact decide_eq_false (by decide +kernel)
theorem kdR (r:Row):KdR (drR r).1:=by
 show KdR (rwW r)
 unfold rwW
 split
 ·exact .inr rfl
 ·exact .inl rfl
theorem ln_ok (hv:Nms vs) (h:RwOk vs m r):(∀t∈lnT (r.ls.map sgT) (r.rs.map sgT) r.tu,TmOk t)∧(∀t∈lnT (r.ls.map sgT) (r.rs.map sgT) r.tu,Pd t.2)∧(lnT (r.ls.map sgT) (r.rs.map sgT) r.tu).length≤90:=by
 obtain⟨k1,k2,k3,k4⟩:=rwS_gd hv h
 refine⟨fun t ht x hx=>?_,fun t ht=>?_,?_⟩
 ·obtain⟨u,hu,e,_⟩:=ln_mem ht
  exact(k2 u hu x (e▸hx)).1.ok
 ·obtain⟨u,hu,_,g⟩:=ln_mem ht
  exact g (k3 u hu)
 ·rw[ln_len]
  rw[List.length_append]at k4
  exact k4
theorem told_ok (R:RD Fs Fm Fl Fi Fr Fc Fw Fo) {F:List Dat→Option (List Dat×List Dat×Dat)} (hF:RdS Fr Fc Fw Fo F) (M:Made vs rows ao):F [.str (wkX rows ao)]=some ((nmR [] rows).map .str,rows.map (toD (nmR [] rows)),aoD ao):=by
 have hlen:=M.w.len
 have hro:=M.w.rows M.v
 obtain⟨hnd,hsub,hn3,hng⟩:=hro.names
 have hpre:∀pre r post,rows=pre++r::post→RowsOk vs pre∧pre.length≤20:=fun pre r post e=>by
  have hl:rows.length=pre.length+(post.length+1):=by rw[e,List.length_append,List.length_cons]
  exact⟨⟨M.v,by omega,fun p q s e2=>hro.ok p q (s++r::post) (by rw[e,e2,List.append_assoc];rfl)⟩,by omega⟩
 have hak:∀q,akO (nmR [] rows) ao=some q→(∃a,ao=some a∧q=(bA++nth (nmR [] rows) a,nth (nmR [] rows) a,a))∧(nmR [] rows)[q.2.2]?=some q.2.1∧GdN q.2.1:=by
  intro q hq
  cases hao:ao with
  |none=>rw[hao]at hq;cases hq
  |some a=>
   rw[hao]at hq
   cases hq
   have ha:=M.a a hao
   have e:(nmR [] rows)[a]?=some (nth (nmR [] rows) a):=by
    show _=some (((nmR [] rows)[a]?).getD ⟨#[]⟩)
    rw[List.getElem?_eq_getElem ha];rfl
   exact⟨⟨a,rfl,rfl⟩,e,hng _ (List.mem_of_getElem? e)⟩
 have hrl:∀x∈txtsW rows ao,x.length≤300∧10∉tl x:=by
  intro x hx
  rcases List.mem_append.mp hx with hx|hx
  ·obtain⟨r,hr,rfl⟩:=List.mem_map.mp hx
   obtain⟨pre,post,e⟩:=List.append_of_mem hr
   have h1:=hro.ok pre r post e
   exact⟨rowX_l h1 (by have:=(hpre pre r post e).2;omega),rowX_10 h1⟩
  ·obtain⟨q,hq,rfl⟩:=List.mem_map.mp hx
   have hq:akO (nmR [] rows) ao=some q:=by simpa using hq
   obtain⟨⟨a,_,rfl⟩,_,hg⟩:=hak q hq
   have l1:bA.length=4:=by rw[slen];rfl
   have hnl:(nth (nmR [] rows) a).length≤8:=hg.1.len
   refine⟨by rw[sapp];omega,?_⟩
   rw[tl_app]
   intro z
   rcases List.mem_append.mp z with z|z
   ·exact absurd z (by decide +kernel:10∉tl bA)
   ·exact nm_no hg.1 (by decide) z
 have hI:RdI Fr Fc Fw Fo (wkX rows ao) (rows.map pR) (akO (nmR [] rows) ao):=by
  refine⟨?_,?_,?_,by rw[List.length_map];omega,?_,?_,?_⟩
  ·show _=Tx.spl 10 (tl (Builtin.Str.glued sN (txtsW rows ao)))
   rw[PySem.StrLaws.glued_eq_join]
   cases hrw:rows with
   |nil=>exact absurd hrw M.ne
   |cons r0 rs=>
    have:=Tx.spl_join 10 (rowX r0) (rs.map rowX++(akO (nmR [] (r0::rs)) ao).toList.map (·.1)) (by
     intro x hx
     rw[hrw]at hrl
     exact(hrl x hx).2)
    refine Eq.trans ?_ this.symm
    show tl (rowX r0)::((rs.map pR).map (fun p:Rp=>tl p.1)++(akO (nmR [] (r0::rs)) ao).toList.map fun q=>tl q.1)=tl (rowX r0)::(rs.map rowX++(akO (nmR [] (r0::rs)) ao).toList.map (·.1)).map tl
    rw[List.map_append,List.map_map,List.map_map,List.map_map]
    rfl
  ·have h1:=join_len sN (txtsW rows ao)
   have h2:=sum_le (fun x:Str=>x.length) 300 (txtsW rows ao) (fun x hx=>(hrl x hx).1)
   have e:sN.length=1:=rfl
   have h3:(txtsW rows ao).length≤21:=by
    rw[List.length_append,List.length_map,List.length_map]
    have:(akO (nmR [] rows) ao).toList.length≤1:=by cases akO (nmR [] rows) ao<;>simp
    omega
   rw[e]at h1
   show(Txt.join sN (txtsW rows ao)).length≤100000
   omega
  ·exact fun z=>M.ne (List.map_eq_nil_iff.mp z)
  ·intro pre' p post' hp
   obtain⟨pre,rest,e1,e2,e3⟩:=List.map_eq_append_iff.mp hp
   obtain⟨r,post,e4,e5,e6⟩:=List.map_eq_cons_iff.mp e3
   subst e2 e5 e6
   rw[e4]at e1
   obtain⟨hpr,hpl⟩:=hpre pre r post e1
   obtain⟨hok,h12,h8⟩:=M.w.ok pre r post e1
   obtain⟨k1,k2,k3,k4⟩:=rwS_gd M.v hok
   obtain⟨j1,j2,j3⟩:=ln_ok M.v hok
   obtain⟨n1,n2,n3,n4⟩:=hpr.names
   have hN:nmF (pre.map pR)=nmR [] pre:=nmF_r pre
   have hW:nmW (nmR [] pre) (lnT (r.ls.map sgT) (r.rs.map sgT) r.tu)=nmW (nmR [] pre) (rwS r):=nmW_ln _ _ _ _
   obtain⟨m1,m2⟩:=nmW_sub (vs:=vs) (rwS r) (nmR [] pre) n1 n2 k1
   have hWl:(nmW (nmR [] pre) (rwS r)).length≤3:=Nat.le_trans (nd_len _ vs m1 m2) M.v.l
   refine⟨row_rd R hok (by omega),?_,kdR r,?_⟩
   ·have:=R.ch.ln (drR r) (pre.map drR) (nmR [] pre) ⟨kdR r,?_,?_,?_,?_,?_,?_,?_⟩
    ·rw[hN,List.map_map]
     rw[List.map_map]at this
     exact this
    ·intro e he
     obtain⟨q,hq,rfl⟩:=List.mem_map.mp he
     exact kdR q
    ·rw[List.length_map];omega
    ·show((pre.map drR).filter fun e=>decide (e.1=rwW r)).length<mostK (rwW r)
     cases hso:r.so with
     |false=>
      have hw:rwW r=sG:=by unfold rwW;rw[hso];exact if_neg Bool.false_ne_true
      rw[hw,flt_gv]
      exact h8 hso
     |true=>
      have hw:rwW r=sS:=by unfold rwW;rw[hso];exact if_pos rfl
      rw[hw,flt_so]
      exact h12 hso
    ·show(nmR [] pre).length+(lnT (r.ls.map sgT) (r.rs.map sgT) r.tu).length≤900
     omega
    ·show(nmW (nmR [] pre) (lnT (r.ls.map sgT) (r.rs.map sgT) r.tu)).length≤3
     rw[hW];exact hWl
    ·show NmO (r.fr.map (· + 1)) (pre.map drR).length
     cases hso:r.so with
     |false=>
      rw[hok.hgv hso]
      exact⟨List.nodup_nil,fun m hm=>(by cases hm),fun m hm=>(by cases hm)⟩
     |true=>
      have hfr:=hok.hso hso
      refine⟨?_,?_,?_⟩
      ·show(r.fr.map (· + 1)).Nodup
       exact List.Pairwise.map _ (fun a b h z=>h (by omega)) hfr.nd
      ·intro m hm
       obtain⟨k,hk,rfl⟩:=List.mem_map.mp hm
       omega
      ·intro m hm
       obtain⟨k,hk,rfl⟩:=List.mem_map.mp hm
       have:=hfr.lt k hk
       rw[List.length_map];omega
    ·show(r.fr.map (· + 1)).length≤100
     rw[List.length_map]
     cases hso:r.so with
     |false=>rw[hok.hgv hso];decide
     |true=>have:=(hok.hso hso).l;omega
   ·have:=R.nw (nmR [] pre) (lnT (r.ls.map sgT) (r.rs.map sgT) r.tu) (by omega)
    rw[hN,nmF_snoc,hN]
    exact this
  ·intro p hp
   obtain⟨r,hr,rfl⟩:=List.mem_map.mp hp
   obtain⟨pre,post,e⟩:=List.append_of_mem hr
   have hok:=hro.ok pre r post e
   obtain⟨j1,j2,j3⟩:=ln_ok M.v hok
   rw[nmF_r]
   refine R.ro _ _ ⟨by omega,?_,fun n hn=>(hng n hn).1.ok,j1,j2,by show(lnT _ _ _).length≤98;omega⟩
   show(r.fr.map (· + 1)).length≤100
   rw[List.length_map]
   cases hso:r.so with
   |false=>rw[hok.hgv hso];decide
   |true=>have:=(hok.hso hso).l;omega
  ·intro q hq
   obtain⟨⟨a,hao,rfl⟩,he,hg⟩:=hak q hq
   have l1:bA.length=4:=by rw[slen];rfl
   have hnl:(nth (nmR [] rows) a).length≤8:=hg.1.len
   rw[nmF_r]
   refine⟨R.rr.ak _ _ ?_ (nm_no hg.1 (by decide)) (by rw[sapp];omega) ?_,?_,hnd,he⟩
   ·show tl (bA++nth (nmR [] rows) a)=tl sA++32::tl (nth (nmR [] rows) a)
    rw[tl_app,show tl bA=tl sA++[32] by decide +kernel,List.append_assoc];rfl
   ·rw[R.is (nth (nmR [] rows) a) (by omega) (fun c hc=>by have:=(hg.1.lw c hc).2;omega),nmB_t hg.1 hg.2]
   ·have:=R.ch.ak (nth (nmR [] rows) a) (rows.map drR) (nmR [] rows) (fun e he=>by
     obtain⟨q,_,rfl⟩:=List.mem_map.mp he
     exact kdR q) (List.mem_of_getElem? he)
    rw[List.map_map]at this ⊢
    exact this
 have e:=hF _ _ _ hI
 rw[e,nmF_r]
 have e1:(rows.map pR).map (fun p=>rowD (nmR [] rows) p.2)=rows.map (toD (nmR [] rows)):=by
  rw[List.map_map]
  refine List.map_congr_left fun r _=>?_
  show Dat.tuple [.str (rwW r),lineD r.k' (ptsN (nmR [] rows) (lnT (r.ls.map sgT) (r.rs.map sgT) r.tu)) (bnd (lnT (r.ls.map sgT) (r.rs.map sgT) r.tu)),.tuple ((r.fr.map (· + 1)).map fun n:Nat=>Dat.int ((n:Int)-1))]=_
  have:(r.fr.map (· + 1)).map (fun n:Nat=>Dat.int ((n:Int)-1))=naD r.fr:=by
   rw[List.map_map]
   refine List.map_congr_left fun n _=>?_
   show Dat.int (((n+1:Nat):Int)-1)=Dat.int (n:Int)
   congr 1
   omega
  rw[this]
 have e2:akV (akO (nmR [] rows) ao)=aoD ao:=by cases ao<;>rfl
 rw[e1,e2]
end
end
end
section
noncomputable section
variable {P:Program} {w:World} {K:Fg} {mg:Str→Option Value} {base:Heap} {f:Addr} {fd:FuncData}
theorem eqB_sameT {ds:List Dat} (h:∀d∈ds,kqdOk 8 d=true):eqB (.tuple ds) (.tuple ds)=some true:=by
 rw[eqB_any (d:=.tuple ds) (e:=.tuple ds) (List.all_eq_true.mpr h) (List.all_eq_true.mpr h) (fun b h=>by cases h) (fun b h=>by cases h),decD_t rfl]
theorem ne_sameT {ds:List Dat} (h:∀d∈ds,kqdOk 8 d=true):neD (.tuple ds) (.tuple ds)=some (.bool false):=by
 unfold neD
 rw[eqB_sameT h];rfl
theorem eq_sameT {ds:List Dat} (h:∀d∈ds,kqdOk 8 d=true):eqD (.tuple ds) (.tuple ds)=some (.bool true):=by
 unfold eqD
 rw[eqB_sameT h];rfl
section
variable {vs:List Str} {rows:List Row} {ao:Option Nat}
abbrev dueO (rows:List Row) (ao:Option Nat):List Dat×List Dat×Dat:=((nmR [] rows).map .str,rows.map (toD (nmR [] rows)),aoD ao)
theorem kq_told {m:Nat} {r:Row} (h:RwOk vs m r) (ns:List Str):kqdOk 7 (toD ns r)=true:=by
 have h1:PyData.strOk (rwW r)=true:=by unfold rwW;split<;>decide +kernel
 have h2:(naD r.fr).all (kqdOk 5)=true:=by rw[List.all_map,List.all_eq_true];exact fun _ _=>rfl
 have h3:PyData.strOk r.k'=true:=(k5_no h.hk (c:=10) (by decide)).2.2
 have h4:((ptsN ns (lnT (r.ls.map sgT) (r.rs.map sgT) r.tu)).map frD).all (kqdOk 4)=true:=by rw[List.all_map,List.all_eq_true];exact fun _ _=>rfl
 show(kqdOk 6 (.str (rwW r))&&((kqdOk 5 (.str r.k')&&(((ptsN ns (lnT (r.ls.map sgT) (r.rs.map sgT) r.tu)).map frD).all (kqdOk 4)&&(kqdOk 5 (frD (bnd (lnT (r.ls.map sgT) (r.rs.map sgT) r.tu)))&&true)))&&((naD r.fr).all (kqdOk 5)&&true)))=true
 rw[show kqdOk 6 (.str (rwW r))=true from h1,show kqdOk 5 (.str r.k')=true from h3,h2,h4];rfl
theorem due_kq (M:Made vs rows ao):∀d∈[Dat.list (dueO rows ao).1,Dat.list (dueO rows ao).2.1,(dueO rows ao).2.2],kqdOk 8 d=true:=by
 obtain⟨_,_,_,hng⟩:=(M.w.rows M.v).names
 intro d hd
 simp only[List.mem_cons,List.not_mem_nil,or_false]at hd
 rcases hd with rfl|rfl|rfl
 ·show((nmR [] rows).map Dat.str).all (kqdOk 7)=true
  rw[List.all_map,List.all_eq_true]
  exact fun x hx=>(hng x hx).1.ok
 ·show(rows.map (toD (nmR [] rows))).all (kqdOk 7)=true
  rw[List.all_map,List.all_eq_true]
  intro r hr
  obtain⟨m,hm⟩:=(M.w.rows M.v).mem hr
  exact kq_told hm _
 ·cases ao<;>rfl
theorem due_wl (M:Made vs rows ao):Wl 8 (triD (dueO rows ao)):=by
 have hlen:=M.w.len
 obtain⟨_,_,hn3,_⟩:=(M.w.rows M.v).names
 have hf:∀(n:Nat) (x:Int×Int),Wl (n+2) (frD x):=fun n x=>⟨by show 2≤500;decide,fun d hd=>by
  simp only[List.mem_cons,List.not_mem_nil,or_false]at hd
  rcases hd with rfl|rfl<;>exact trivial⟩
 refine⟨by show 3≤500;decide,fun d hd=>?_⟩
 simp only[List.mem_cons,List.not_mem_nil,or_false]at hd
 rcases hd with rfl|rfl|rfl
 ·refine⟨by rw[List.length_map];omega,fun d hd=>?_⟩
  obtain⟨x,_,rfl⟩:=List.mem_map.mp hd
  exact trivial
 ·refine⟨by rw[List.length_map];omega,fun d hd=>?_⟩
  obtain⟨r,hr,rfl⟩:=List.mem_map.mp hd
  obtain⟨m,hm⟩:=(M.w.rows M.v).mem hr
  refine⟨by show 3≤500;decide,fun d hd=>?_⟩
  simp only[List.mem_cons,List.not_mem_nil,or_false]at hd
  rcases hd with rfl|rfl|rfl
  ·exact trivial
  ·refine⟨by show 3≤500;decide,fun d hd=>?_⟩
   simp only[List.mem_cons,List.not_mem_nil,or_false]at hd
   rcases hd with rfl|rfl|rfl
   ·exact trivial
   ·refine⟨by rw[List.length_map,List.length_map];omega,fun d hd=>?_⟩
    obtain⟨x,_,rfl⟩:=List.mem_map.mp hd
    exact hf 1 x
   ·exact hf 2 _
  ·refine⟨?_,fun d hd=>?_⟩
   ·rw[List.length_map]
    cases hso:r.so with
    |false=>rw[hm.hgv hso];decide
    |true=>have:=(hm.hso hso).l;omega
   ·obtain⟨x,_,rfl⟩:=List.mem_map.mp hd
    exact trivial
 ·cases ao<;>exact trivial
theorem due_no (rows:List Row) (ns:List Str):(rows.map (toD ns)).all (noL 9)=true:=by
 rw[List.all_map,List.all_eq_true]
 intro r _
 have h1:((ptsN ns (lnT (r.ls.map sgT) (r.rs.map sgT) r.tu)).map frD).all (noL 6)=true:=by
  rw[List.all_map,List.all_eq_true];exact fun _ _=>rfl
 have h2:(naD r.fr).all (noL 7)=true:=by
  rw[List.all_map,List.all_eq_true];exact fun _ _=>rfl
 show(noL 8 (.str (rwW r))&&((noL 7 (.str r.k')&&(((ptsN ns (lnT (r.ls.map sgT) (r.rs.map sgT) r.tu)).map frD).all (noL 6)&&(noL 7 (frD (bnd (lnT (r.ls.map sgT) (r.rs.map sgT) r.tu)))&&true)))&&((naD r.fr).all (noL 7)&&true)))=true
 rw[h1,h2];rfl
end
theorem tell_ok {i n:Nat} {F:List Dat→Option (List Dat×List Dat×Dat)} {fs:Rho→Option (List Dat)} {t2 t3 t5:Rho→Option Bool} {f4 f6 f7:Rho→Option Dat} {Γ:Gam} {ds ns es:List Dat} {d d4 d6 d7:Dat} (h1:fs (allV Γ)=some ds) (h2:F ds=some (ns,es,d)) (h3:ds.length=n) (h4:i<Γ.length) (a2:t2 ((allV Γ).set i (some (triD (ns,es,d))))=some false) (a3:t3 ((allV Γ).set i (some (triD (ns,es,d))))=some false) (a4:f4 ((allV Γ).set i (some (triD (ns,es,d))))=some d4)
  (a5:t5 ((allV Γ).set i (some (triD (ns++[d4],es,d))))=some false) (a6:f6 ((allV Γ).set i (some (triD (ns++[d4],es,d))))=some d6) (a7:f7 ((allV Γ).set i (some (triD (ns++[d4],es++[d6],d))))=some d7) (b1:ns.all (noL 9)=true) (b2:es.all (noL 9)=true) (b3:scD d=true) (b4:noL 9 d4=true) (b5:noL 9 d6=true) (c1:ns.length<sizeLine) (c2:es.length<sizeLine):sTell i n F fs t2 t3 f4 t5 f6 f7 Γ=some (.rt d7):=by
 unfold sTell
 rw[h1,Option.bind_some,h2,Option.bind_some,a4,Option.bind_some]
 show(f6 ((allV Γ).set i (some (triD (ns++[d4],es,d))))).bind _=_
 rw[a6,Option.bind_some]
 show(f7 ((allV Γ).set i (some (triD (ns++[d4],es++[d6],d))))).bind _=_
 rw[a7,Option.bind_some]
 exact if_pos ⟨⟨h3,h4⟩,⟨a2,a3,a5⟩,⟨b1,b2,b3,b4,b5⟩,c1,c2⟩
def F_law:List Dat→Option Dat:=open Classical in fun ds=>if ∃ns:List Int,ds=[.list (ns.map .int)]∧ns.length≤63 then some (.bool true)else none
theorem setA_ok {i:Nat} {f:Rho→Option Dat} {Γ:Gam} {d:Dat} (h0:f (immV Γ)=none) (h:f (allV Γ)=some d) (hs:scD d=true):sSet i f Γ=some (.nx (Γ.set i (some (.imm d)))):=by
 unfold sSet
 rw[h0]
 show(f (allV Γ)).bind _=_
 rw[h,Option.bind_some,if_pos hs]
theorem d_law (T:TX mg) {Fmd Fwk Fwh Fs Fm Fl' Fi Fr Fc Fo:List Dat→Option Dat} {Ftx Fw:List Dat→Option (List Dat)} {Frd:List Dat→Option (List Dat×List Dat×Dat)} (Dl_made:Dn P w K mg base 9 "_law_made" ["script"] 1 Fmd) (hMd:MdS Fmd) (Dl_work:Dn P w K mg base 9 "_law_work" ["rows","asked"] 2 Fwk) (hWk:WkS Fwk) (Dl_rows_text:DnN P w K mg base 9 "_law_rows_text" ["rows"] 1 Ftx) (hTx:RtS' Ftx) (Dl_whole:Dn P w K mg base 9 "_law_whole" ["thing"] 1 Fwh) (hWh:WlS 8 Fwh) (DRread:DnR P w K mg base 9 "read" ["text"] 1 Frd) (hRd:RdS Fr Fc Fw Fo Frd) (R:RD Fs Fm Fl' Fi Fr Fc Fw Fo) (U:Fun K "law" "law" (top 61) f fd):
  FnOk P w K mg base CX0 10 f fd ["script"] (spF K 1 F_law):=by
 have nd:(["script","rows","asked","due","texts","text","found"]:List Str).Nodup:=by decide +kernel
 have Dread:=DRread.dn
 refine qok_of U (N:=["script","rows","asked","due","texts","text","found"]) ⟨rfl,rfl,rfl,by decide +kernel,rfl,by decide +kernel,by decide +kernel⟩ rfl (fun cdv A outer s H E hr=>
  (qpsf_cons (qpsf_asg (qpf_fn Dl_made hr (qpfa_cons (qpf_var 0) qpfa_nil)) (qpgf_sq (n:=2) rfl (qpgfs_cons (qpgf_name 1 nd) (qpgfs_cons (qpgf_name 2 nd) qpgfs_nil))))
  (qpsf_cons (qpsf_set 3 nd (qpf_fn Dl_work hr (qpfa_cons (qpf_var 1) (qpfa_cons (qpf_var 2) qpfa_nil))))
  (qpsf_cons (qpsf_own 4 nd (qpfl_new Dl_rows_text hr (qpfa_cons (qpf_var 1) qpfa_nil)))
  (qpsf_cons (qpsf_if (qpft_notN (qpf_var 2) qpf_non) (qpsf_one (qpsf_append 4 (qpf_addU qpf_str (qpf_ix (qpf_ix (qpf_var 3) qpf_int) (qpf_var 2))))) qpsf_nil)
  (qpsf_cons (qpsf_set 5 nd (qpf_join qpf_str (qpfa_cons (qpf_var 4) qpfa_nil)))
  (tell_of (i:=6) DRread hr nd (qpfa_cons (qpf_var 5) qpfa_nil) (qpft_w (qpfw_or (qpft_not (qpft_truth (qpf_isinst "tuple" T.isinstance T.tuple (qpf_var 6)))) (qpfw_or (qpft_ne hr (qpf_var 6) (qpf_var 3)) (qpfw_or1 (qpft_not (qpft_truth (qpf_fn Dl_whole hr (qpfa_cons (qpf_var 6) qpfa_nil)))))))) (qpsf_one (qpsf_ret qpf_bl)) (qpft_w (qpfw_or (qpft_not (qpft_truth (qpf_isinst "list" T.isinstance T.list (qpf_ix (qpf_var 6) qpf_int)))) (qpfw_or1 (qpft_not (qpft_truth (qpf_isinst "list" T.isinstance T.list (qpf_ix (qpf_var 6) qpf_int))))))) (qpsf_one (qpsf_ret qpf_bl)) qpf_str (qpft_ne hr (qpf_len T.len (qpfa_cons (qpf_ix (qpf_var 6) qpf_int) qpfa_nil (hs:=star_sub))) (qpf_len T.len (qpfa_cons (qpf_var 1) qpfa_nil))) (qpsf_one (qpsf_ret qpf_bl)) (qpf_tup (k:=0) (qpfa_cons qpf_str (qpfa_cons (qpf_tup (k:=0) (qpfa_cons qpf_str (qpfa_cons (qpf_tup (k:=0) qpfa_nil) (qpfa_cons (qpf_tup (k:=0) (qpfa_cons qpf_int (qpfa_cons qpf_int qpfa_nil))) qpfa_nil (hs:=star_tup)) (hs:=star_tup)))) (qpfa_cons (qpf_tup (k:=0) qpfa_nil) qpfa_nil (hs:=star_tup)) (hs:=star_tup)))) (qpf_and (qpf_eq hr (qpf_len T.len (qpfa_cons (qpf_ix (qpf_var 6) qpf_int) qpfa_nil (hs:=star_sub))) (qpf_addU (qpf_len T.len (qpfa_cons (qpf_ix (qpf_var 3) qpf_int) qpfa_nil (hs:=star_sub))) qpf_int)) (qpf_one (qpf_eq hr (qpf_fn Dread hr (qpfa_cons (qpf_var 5) qpfa_nil)) (qpf_var 3))))))))))) ?_
 intro ds d hl hF'
 unfold F_law at hF'
 split at hF'
 ·rename_i h
  obtain⟨cells,rfl,h63⟩:=h
  cases hF'
  refine runF_rt ?_
  show sSeq _ _ [some (.imm (.list (cells.map .int))),none,none,none,none,none,none]=_
  obtain⟨vs,rows,ao,M,eM⟩:=hMd cells
  have eW:=hWk vs rows (aoD ao) (M.w.rows M.v)
  have eT:=hTx vs rows (M.w.rows M.v)
  have eR:=told_ok R hRd M
  have hlen:=M.w.len
  obtain⟨_,_,hn3,hng⟩:=(M.w.rows M.v).names
  have z2:2≤sizeLine:=sz (by decide)
  have z3:3≤sizeLine:=sz (by decide)
  have z0:0≤sizeLine:=Nat.zero_le _
  have w1:=hWh _ (due_wl M)
  have w2:neD (triD (dueO rows ao)) (triD (dueO rows ao))=some (.bool false):=ne_sameT (due_kq M)
  have w3:eqD (triD (dueO rows ao)) (triD (dueO rows ao))=some (.bool true):=eq_sameT (due_kq M)
  have eW:Fwk [.list (rows.map rwT),aoD ao]=some (triD (dueO rows ao)):=eW
  generalize Dat.list (cells.map .int)=dsc at *
  rw[sSeq_nx (Γ':=[some (.imm (dsc)),some (.imm (.list (rows.map rwT))),some (.imm (aoD ao)),none,none,none,none]) (asg_ok (d:=.list [.list (rows.map rwT),aoD ao]) (as:=[(1,.list (rows.map rwT)),(2,aoD ao)]) (by
   generalize Dat.list [.list (rows.map rwT),aoD ao]=dmd at *
   dsimp![eM]) rfl)]
  rw[sSeq_nx (Γ':=[some (.imm (dsc)),some (.imm (.list (rows.map rwT))),some (.imm (aoD ao)),some (.imm (triD (dueO rows ao))),none,none,none]) (by
   generalize triD (dueO rows ao)=td at *
   generalize Dat.list (rows.map rwT)=drw at *
   generalize aoD ao=dao at *
   dsimp![eW])]
  rw[sSeq_nx (Γ':=[some (.imm (dsc)),some (.imm (.list (rows.map rwT))),some (.imm (aoD ao)),some (.imm (triD (dueO rows ao))),some (.own (rows.map fun r=>.str (rowX r))),none,none]) (by
   generalize triD (dueO rows ao)=td at *
   generalize (rows.map fun r=>Dat.str (rowX r))=dtx at *
   generalize Dat.list (rows.map rwT)=drw at *
   generalize aoD ao=dao at *
   dsimp![eT])]
  have zl:(rows.map fun r=>Dat.str (rowX r)).length<sizeLine:=by rw[List.length_map];exact small1000 (by omega)
  have eIf:sIf (fTest (L3.f2 notND (fVar 2) (fC .none))) (sApp 4 (L3.f2 addU (fC (.str "ask ")) (L3.f2 ixD (L3.f2 ixD (fVar 3) (fC (.int 0))) (fVar 2)))) sSkip [some (.imm (dsc)),some (.imm (.list (rows.map rwT))),some (.imm (aoD ao)),some (.imm (triD (dueO rows ao))),some (.own (rows.map fun r=>.str (rowX r))),none,none]=some (.nx [some (.imm (dsc)),some (.imm (.list (rows.map rwT))),some (.imm (aoD ao)),some (.imm (triD (dueO rows ao))),some (.own ((txtsW rows ao).map .str)),none,none]):=by
   have et:(txtsW rows ao).map Dat.str=(rows.map fun r=>Dat.str (rowX r))++(akO (nmR [] rows) ao).toList.map fun q=>Dat.str q.1:=by
    rw[List.map_append,List.map_map,List.map_map];rfl
   rw[et]
   cases hao:ao with
   |none=>
    have n1:notND .none .none=some (.bool false):=rfl
    refine(sIf_f (test2_ok (x:=.none) (y:=.none) rfl rfl n1)).trans ?_
    show some (Fl.nx _)=some (Fl.nx _)
    rw[show((akO (nmR [] rows) none).toList.map fun q:Ak=>Dat.str q.1)=[]from rfl,List.append_nil]
   |some a=>
    have n1:notND (nat a) .none=some (.bool true):=rfl
    have ha:=M.a a hao
    have e:(nmR [] rows)[a]?=some (nth (nmR [] rows) a):=by
     show _=some (((nmR [] rows)[a]?).getD ⟨#[]⟩)
     rw[List.getElem?_eq_getElem ha];rfl
    have i0:ixD (triD (dueO rows (some a))) (.int 0)=some (.list ((nmR [] rows).map .str)):=rfl
    have i1:ixD (.list ((nmR [] rows).map .str)) (nat a)=some (.str (nth (nmR [] rows) a)):=L3.ix_list (by rw[List.getElem?_map,e];rfl)
    have hnl:(nth (nmR [] rows) a).length≤8:=(hng _ (List.mem_of_getElem? e)).1.len
    have a1:addU (.str "ask ") (.str (nth (nmR [] rows) a))=some (.str (bA++nth (nmR [] rows) a)):=if_pos (by
     have l1:(Str.ofString "ask ").length=4:=by rw[slen];rfl
     show(Str.ofString "ask ").length+_≤_
     rw[sizeLine_eq,l1];omega)
    refine(sIf_t (test2_ok (x:=nat a) (y:=.none) rfl rfl n1)).trans ?_
    show _=some (Fl.nx [some (.imm (dsc)),some (.imm (.list (rows.map rwT))),some (.imm (nat a)),some (.imm (triD (dueO rows (some a)))),some (.own ((rows.map fun r=>.str (rowX r))++[.str (bA++nth (nmR [] rows) a)])),none,none])
    show sApp _ _ [some (.imm (dsc)),some (.imm (.list (rows.map rwT))),some (.imm (nat a)),some (.imm (triD (dueO rows (some a)))),some (.own (rows.map fun r=>.str (rowX r))),none,none]=_
    generalize triD (dueO rows (some a))=td at *
    generalize (rows.map fun r=>Dat.str (rowX r))=dtx at *
    generalize Dat.list (rows.map rwT)=drw at *
    generalize Dat.str (bA++nth (nmR [] rows) a)=db at *
    generalize Dat.str (nth (nmR [] rows) a)=dn at *
    generalize Dat.list ((nmR [] rows).map .str)=dns at *
    generalize nat a=da at *
    dsimp![i0,i1,a1,zl]
  rw[sSeq_nx eIf]
  have hsz:((txtsW rows ao).map (·.length)).sum+(txtsW rows ao).length*sN.length≤16777216:=by
   have h2:=sum_le (fun x:Str=>x.length) 300 (txtsW rows ao) (fun x hx=>by
    rcases List.mem_append.mp hx with hx|hx
    ·obtain⟨r,hr,rfl⟩:=List.mem_map.mp hx
     obtain⟨pre,post,e⟩:=List.append_of_mem hr
     have hpl:rows.length=pre.length+(post.length+1):=by rw[e,List.length_append,List.length_cons]
     exact rowX_l ((M.w.rows M.v).ok pre r post e) (by omega)
    ·obtain⟨q,hq,rfl⟩:=List.mem_map.mp hx
     cases hao:ao with
     |none=>rw[hao]at hq;cases hq
     |some a=>
      rw[hao]at hq
      rw[List.mem_singleton.mp (show q∈[_]from hq)]
      have ha:=M.a a hao
      have e:(nmR [] rows)[a]?=some (nth (nmR [] rows) a):=by
       show _=some (((nmR [] rows)[a]?).getD ⟨#[]⟩)
       rw[List.getElem?_eq_getElem ha];rfl
      have hnl:(nth (nmR [] rows) a).length≤8:=(hng _ (List.mem_of_getElem? e)).1.len
      have l1:bA.length=4:=by rw[slen];rfl
      show(bA++nth (nmR [] rows) a).length≤300
      rw[sapp];omega)
   have h3:(txtsW rows ao).length≤21:=by
    rw[List.length_append,List.length_map,List.length_map]
    have:(akO (nmR [] rows) ao).toList.length≤1:=by cases akO (nmR [] rows) ao<;>simp
    omega
   have e:sN.length=1:=rfl
   rw[e]
   omega
  have e10:(Str.ofString "\n" : Str)=sN:=by decide +kernel
  rw[sSeq_nx (Γ':=[some (.imm (dsc)),some (.imm (.list (rows.map rwT))),some (.imm (aoD ao)),some (.imm (triD (dueO rows ao))),some (.own ((txtsW rows ao).map .str)),some (.imm (.str (wkX rows ao))),none]) (setA_ok (i:=5) (d:=.str (wkX rows ao)) rfl (by
   show fMeth joinD (fC (.str (Str.ofString "\n"))) (fCons (fVar 4) fNil) (allV [some (.imm (dsc)),some (.imm (.list (rows.map rwT))),some (.imm (aoD ao)),some (.imm (triD (dueO rows ao))),some (.own ((txtsW rows ao).map .str)),none,none])=_
   rw[e10]
   exact join_ok (ys:=txtsW rows ao) rfl hsz) rfl)]
  have eRd:Frd [.str (wkX rows ao)]=some ((nmR [] rows).map .str,rows.map (toD (nmR [] rows)),aoD ao):=eR
  refine tell_ok (ds:=[.str (wkX rows ao)]) (ns:=(nmR [] rows).map .str) (es:=rows.map (toD (nmR [] rows))) (d:=aoD ao) (d4:=.str "zebra") (d6:=.tuple [.str "zebra",.tuple [.str "=",.tuple [],.tuple [.int 0,.int 1]],.tuple []]) rfl eRd rfl (by show 6<7;decide) ?_ ?_ rfl ?_ ?_ ?_ (strs_noL _) (due_no _ _) (by cases ao<;>rfl) rfl rfl (by rw[List.length_map];exact small1000 (by omega)) (by rw[List.length_map];exact small1000 (by omega))
  ·show fOrT (fNotT (fTru (L3.f1 (isD "tuple") (fVar 6)))) (fOrT (fTest (L3.f2 neD (fVar 6) (fVar 3))) (fNotT (fTru (fFn 1 Fwh (fCons (fVar 6) fNil))))) [some dsc,some (.list (rows.map rwT)),some (aoD ao),some (triD (dueO rows ao)),some (.list ((txtsW rows ao).map .str)),some (.str (wkX rows ao)),some (triD (dueO rows ao))]=some false
   have y0:isD "tuple" (triD (dueO rows ao))=some (.bool true):=rfl
   generalize triD (dueO rows ao)=td at *
   generalize Dat.list (rows.map rwT)=drw at *
   generalize aoD ao=dao at *
   generalize Dat.list ((txtsW rows ao).map .str)=dtx at *
   dsimp![y0,w1,w2]
  ·show fOrT (fNotT (fTru (L3.f1 (isD "list") (L3.f2 ixD (fVar 6) (fC (.int 0)))))) (fNotT (fTru (L3.f1 (isD "list") (L3.f2 ixD (fVar 6) (fC (.int 1)))))) [some dsc,some (.list (rows.map rwT)),some (aoD ao),some (triD (dueO rows ao)),some (.list ((txtsW rows ao).map .str)),some (.str (wkX rows ao)),some (triD (dueO rows ao))]=some false
   have j0:ixD (triD (dueO rows ao)) (.int 0)=some (.list ((nmR [] rows).map .str)):=rfl
   have j1:ixD (triD (dueO rows ao)) (.int 1)=some (.list (rows.map (toD (nmR [] rows)))):=rfl
   have y1:isD "list" (.list ((nmR [] rows).map .str))=some (.bool true):=rfl
   have y2:isD "list" (.list (rows.map (toD (nmR [] rows))))=some (.bool true):=rfl
   generalize Dat.list ((nmR [] rows).map .str)=dn at *
   generalize Dat.list (rows.map (toD (nmR [] rows)))=dr at *
   generalize triD (dueO rows ao)=td at *
   generalize Dat.list (rows.map rwT)=drw at *
   generalize aoD ao=dao at *
   generalize Dat.list ((txtsW rows ao).map .str)=dtx at *
   dsimp![j0,j1,y1,y2]
  ·show fTest (L3.f2 neD (fCall lenD (fCons (L3.f2 ixD (fVar 6) (fC (.int 1))) fNil)) (fCall lenD (fCons (fVar 1) fNil))) [some dsc,some (.list (rows.map rwT)),some (aoD ao),some (triD (dueO rows ao)),some (.list ((txtsW rows ao).map .str)),some (.str (wkX rows ao)),some (triD ((nmR [] rows).map .str++[.str "zebra"],rows.map (toD (nmR [] rows)),aoD ao))]=some false
   have j1:ixD (triD ((nmR [] rows).map .str++[.str "zebra"],rows.map (toD (nmR [] rows)),aoD ao)) (.int 1)=some (.list (rows.map (toD (nmR [] rows)))):=rfl
   have l1:lenD [.list (rows.map (toD (nmR [] rows)))]=some (.int (rows.length:Int)):=by
    show some (Dat.int _)=_
    rw[List.length_map]
   have l2:lenD [.list (rows.map rwT)]=some (.int (rows.length:Int)):=by
    show some (Dat.int _)=_
    rw[List.length_map]
   exact test2_ok (x:=.int (rows.length:Int)) (y:=.int (rows.length:Int)) (call1_ok (f2_ok (b:=.int 1) rfl rfl j1) l1) (call1_ok (d:=.list (rows.map rwT)) rfl l2) (by rw[neD_int,decide_eq_true rfl];rfl)
  ·show fTup (fCons (fC (.str "zebra")) (fCons (fTup (fCons (fC (.str "=")) (fCons (fTup fNil) (fCons (fTup (fCons (fC (.int 0)) (fCons (fC (.int 1)) fNil))) fNil)))) (fCons (fTup fNil) fNil))) _=_
   dsimp![z0,z2,z3]
  ·show fAnd (L3.f2 eqD (fCall lenD (fCons (L3.f2 ixD (fVar 6) (fC (.int 0))) fNil)) (L3.f2 addU (fCall lenD (fCons (L3.f2 ixD (fVar 3) (fC (.int 0))) fNil)) (fC (.int 1)))) (L3.f2 eqD (fFn 1 (fun ds=>(Frd ds).map triD) (fCons (fVar 5) fNil)) (fVar 3)) [some dsc,some (.list (rows.map rwT)),some (aoD ao),some (triD (dueO rows ao)),some (.list ((txtsW rows ao).map .str)),some (.str (wkX rows ao)),some (triD ((nmR [] rows).map .str++[.str "zebra"],rows.map (toD (nmR [] rows))++[.tuple [.str "zebra",.tuple [.str "=",.tuple [],.tuple [.int 0,.int 1]],.tuple []]],aoD ao))]=some (.bool true)
   have j0:ixD (triD ((nmR [] rows).map .str++[.str "zebra"],rows.map (toD (nmR [] rows))++[.tuple [.str "zebra",.tuple [.str "=",.tuple [],.tuple [.int 0,.int 1]],.tuple []]],aoD ao)) (.int 0)=some (.list ((nmR [] rows).map .str++[.str "zebra"])):=rfl
   have j3:ixD (triD (dueO rows ao)) (.int 0)=some (.list ((nmR [] rows).map .str)):=rfl
   have l1:lenD [.list ((nmR [] rows).map Dat.str++[.str "zebra"])]=some (.int (((nmR [] rows).length:Int)+1)):=by
    show some (Dat.int (((((nmR [] rows).map Dat.str++[Dat.str "zebra"]).length:Nat)):Int))=_
    rw[List.length_append,List.length_map];rfl
   have l3:lenD [.list ((nmR [] rows).map Dat.str)]=some (.int ((nmR [] rows).length:Int)):=by
    show some (Dat.int _)=_
    rw[List.length_map]
   have a1:=addU_int ((nmR [] rows).length:Int) 1
   have q1:=eqD_int (((nmR [] rows).length:Int)+1) (((nmR [] rows).length:Int)+1)
   rw[decide_eq_true rfl]at q1
   have er:(Frd [.str (wkX rows ao)]).map triD=some (triD (dueO rows ao)):=by rw[eRd];rfl
   generalize Dat.list ((nmR [] rows).map Dat.str++[.str "zebra"])=dn2 at *
   generalize Dat.list ((nmR [] rows).map .str)=dn at *
   generalize triD ((nmR [] rows).map .str++[.str "zebra"],rows.map (toD (nmR [] rows))++[.tuple [.str "zebra",.tuple [.str "=",.tuple [],.tuple [.int 0,.int 1]],.tuple []]],aoD ao)=td3 at *
   generalize triD (dueO rows ao)=td at *
   generalize Dat.list (rows.map rwT)=drw at *
   generalize aoD ao=dao at *
   generalize Dat.list ((txtsW rows ao).map .str)=dtx at *
   generalize Dat.str (wkX rows ao)=dwx at *
   generalize ((nmR [] rows).length:Int)=nl at *
   dsimp![j0,j3,l1,l3,a1,q1,er,w3]
 ·cases hF'
end
end
section
theorem all_mk {lw:PySem.W.OpenLaw} {w:World} {K:Fg} {h:Heap} {mg:Str→Option Value} {fa f:Addr} {od an:Option Addr} {sl:Array (Option Value)} {oc kV dc pm cd ct:Value} (X:K.In h) (G:h.Ns mainGlobals mg) (hfa:mg "law"=some (.ref fa))
  (U__law_stir:FnAt K mg "_law_stir" (top 46) ["cell","k"])
  (U__law_divisor:FnAt K mg "_law_divisor" (top 47) ["one","other"])
  (U__law_least:FnAt K mg "_law_least" (top 48) ["n","d"])
  (U__law_names:FnAt K mg "_law_names" (top 49) ["head","k","many"])
  (U__law_figures:FnAt K mg "_law_figures" (top 50) ["number","far"])
  (U__law_sum:FnAt K mg "_law_sum" (top 51) ["cell","k","names"])
  (U__law_together:FnAt K mg "_law_together" (top 52) ["terms","name"])
  (U__law_line:FnAt K mg "_law_line" (top 53) ["left","sign","right","names"])
  (U__law_froms:FnAt K mg "_law_froms" (top 54) ["cell","many"])
  (U__law_row:FnAt K mg "_law_row" (top 55) ["cell","rows","names"])
  (U__law_standing:FnAt K mg "_law_standing" (top 56) ["rows"])
  (U__law_work:FnAt K mg "_law_work" (top 58) ["rows","asked"])
  (U__law_rows_text:FnAt K mg "_law_rows_text" (top 57) ["rows"])
  (U__law_cell_at:FnAt K mg "_law_cell_at" (top 45) ["script","k"])
  (U__law_made:FnAt K mg "_law_made" (top 59) ["script"])
  (U__law_whole:FnAt K mg "_law_whole" (top 60) ["thing"])
  (U_common_divisor:FnAt K mg "common_divisor" (top 9) ["a","b"])
  (U_make:FnAt K mg "make" (top 10) ["n","d"])
  (U_plus:FnAt K mg "plus" (top 11) ["a","b"])
  (U_minus:FnAt K mg "minus" (top 12) ["a","b"])
  (U_is_name:FnAt K mg "is_name" (top 27) ["word"])
  (U_is_whole:FnAt K mg "is_whole" (top 28) ["word"])
  (U_read_whole:FnAt K mg "read_whole" (top 29) ["word"])
  (U_read_number:FnAt K mg "read_number" (top 30) ["word"])
  (U_read_term:FnAt K mg "read_term" (top 31) ["word"])
  (U_turned:FnAt K mg "turned" (top 32) ["terms"])
  (U_read_signed_term:FnAt K mg "read_signed_term" (top 33) ["word"])
  (U_read_sum:FnAt K mg "read_sum" (top 34) ["word"])
  (U_read_line:FnAt K mg "read_line" (top 35) ["word","left","sign","right","numbers"])
  (U_read_row:FnAt K mg "read_row" (top 36) ["row"])
  (U_names_with:FnAt K mg "names_with" (top 37) ["names","terms"])
  (U_check_room:FnAt K mg "check_room" (top 38) ["draft","above","names"])
  (U_check_numbers:FnAt K mg "check_numbers" (top 39) ["numbers","above"])
  (U_check:FnAt K mg "check" (top 40) ["draft","above","names"])
  (U_part_of:FnAt K mg "part_of" (top 41) ["name","terms"])
  (U_row_of:FnAt K mg "row_of" (top 42) ["draft","names"])
  (U_read:FnAt K mg "read" (top 43) ["text"])
  (a:PySem.W.nsIn K mainGlobals "law"=some (some (.ref f))) (l:K.lookup f=some ⟨oc,od,.func (PySem.W.fnOf "law" "law" (defArgs (top 61)) (defBody (top 61)) (defScope (top 61)) .none kV dc pm an cd ct),sl⟩) (c:PySem.W.codeIn K cd "law"=true) (k:PySem.W.keepIn K (.ref f)=true) (R:RX lw.prog w K mg) (T:TX mg)
  : ∃fd:FuncData,(∀(s:Shared) (v:Value),BindsTo s fd ⟨[v],[]⟩ [("script",v)])∧∀base:Heap,K.In base→base.Ns mainGlobals mg→FnOk lw.prog w K mg base CX0 100 fa fd ["script"] (spLaw K):=by
 have e:=hfa.symm.trans (PySem.W.mg_of X G a)
 cases e
 refine⟨PySem.W.fnOf "law" "law" (defArgs (top 61)) (defBody (top 61)) (defScope (top 61)) .none kV dc pm an cd ct,fun s v=>.of_eq rfl,fun base _ _=>?_⟩
 have U_LAW:=fun_mk (st:=top 61) l c k
 obtain⟨G6,D6,h6⟩:=d_st (P:=lw.prog) (w:=w) (base:=base) T U__law_stir
 obtain⟨G7,D7,h7⟩:=d_div (P:=lw.prog) (w:=w) (base:=base) T U__law_divisor
 obtain⟨G8,D8,h8⟩:=d_least T D7 h7 U__law_least
 obtain⟨G9,D9,h9⟩:=d_names T D6 h6 U__law_names
 obtain⟨G1,D1,h1⟩:=d_lfig T D8 h8 U__law_figures
 obtain⟨G2,D2,h2⟩:=d_lsum T (D6.up (by decide)) h6 D1 h1 U__law_sum
 obtain⟨G3,D3,h3⟩:=d_ltog T D8 h8 U__law_together
 obtain⟨G4,D4,h4⟩:=d_lline T D3 h3 U__law_line
 obtain⟨G5,D5,h5⟩:=d_lfroms T (D6.up (by decide)) h6 U__law_froms
 obtain⟨G10,D10,h10⟩:=d_lrow T (D6.up (by decide)) h6 (D2.up (by decide)) h2 (D5.up (by decide)) h5 U__law_row
 obtain⟨G33,D33,h33⟩:=d_lstand (P:=lw.prog) (w:=w) (base:=base) T U__law_standing
 obtain⟨G34,D34,h34⟩:=d_lwork T (D33.up (by decide)) h33 (D4.up (by decide)) h4 U__law_work
 obtain⟨G35,D35,h35⟩:=d_ltext (P:=lw.prog) (w:=w) (base:=base) T U__law_rows_text
 obtain⟨G36,D36,h36⟩:=d_lcell (P:=lw.prog) (w:=w) (base:=base) T U__law_cell_at
 obtain⟨G37,D37,h37⟩:=d_lmade T (D36.up (by decide)) h36 (D6.up (by decide)) h6 (D9.up (by decide)) (fun c=>h9 c) (D33.up (by decide)) h33 (D10.up (by decide)) h10 U__law_made
 obtain⟨G32,D32,h32⟩:=d_lwhole (P:=lw.prog) (w:=w) (base:=base) T U__law_whole 8
 obtain⟨G11,D11,h11⟩:=d_cd (P:=lw.prog) (w:=w) (base:=base) T U_common_divisor
 obtain⟨G12,D12,h12⟩:=d_rmake T D11 h11 U_make
 obtain⟨G13,D13,h13⟩:=d_rplus T D12 h12 U_plus
 obtain⟨G14,D14,h14⟩:=d_rminus T D12 h12 U_minus
 obtain⟨G15,D15,h15⟩:=d_isname (base:=base) T R U_is_name
 obtain⟨G16,D16,h16⟩:=d_iswhole (base:=base) T R U_is_whole
 obtain⟨G17,D17,h17⟩:=d_rwhole T R D16 h16 U_read_whole
 obtain⟨G18,D18,h18⟩:=d_rnumber T R D17 h17 D12 h12 U_read_number
 obtain⟨G19,D19,h19⟩:=d_rterm T R (D15.up (by decide)) h15 D18 h18 U_read_term
 obtain⟨G20,D20,h20⟩:=d_turned T R D14 h14 U_turned
 obtain⟨G21,D21,h21⟩:=d_rsigned T R D19 h19 (D14.up (by decide)) h14 U_read_signed_term
 obtain⟨G22,D22,h22⟩:=d_rsum T R D21 U_read_sum
 obtain⟨G23,D23,h23⟩:=d_rline T R D22 (D20.up (by decide)) h20 (D17.up (by decide)) h17 U_read_line
 obtain⟨G24,D24,h24⟩:=d_rrow T R D23 (D15.up (by decide)) U_read_row
 obtain⟨G25,D25,h25⟩:=d_nwith (P:=lw.prog) (w:=w) (base:=base) T U_names_with
 obtain⟨G26,D26,h26⟩:=d_croom T R D25.dn (fun ns ts hl=>by show(G25 _).map Dat.list=_;rw[h25 ns ts hl];rfl) U_check_room
 obtain⟨G27,D27,h27⟩:=d_cnum (P:=lw.prog) (w:=w) (base:=base) T U_check_numbers
 obtain⟨G28,D28,h28⟩:=d_check T (D26.up (by decide)) h26 (D27.up (by decide)) h27 U_check
 obtain⟨G29,D29,h29⟩:=d_partof T R D13 h13 U_part_of
 obtain⟨G30,D30,h30⟩:=d_rowof T R D29 h29 (D14.up (by decide)) h14 U_row_of
 obtain⟨G31,D31,h31⟩:=d_read T R (D24.up (by decide)) (D28.up (by decide)) (D25.up (by decide)) (D30.up (by decide)) U_read
 have DL:=d_law T (D37.up (by decide)) h37 (D34.up (by decide)) h34 (D35.up (by decide)) h35 (D32.up (by decide)) h32 (D31.up (by decide)) h31 ⟨h21,h22,h23,h24,h15,h28,h25,h30⟩ U_LAW
 exact(law_of DL fun ns hl=>by unfold F_law;exact if_pos ⟨ns,rfl,hl⟩).mono (by decide)
end
end K06
namespace PySem.W.Fast
def tw16981439318797358071:=0
def tw694290361151882043:=0
def tw12477976900265496242:=0
def tw10364424056527315449:=0
def tw12575113997928018364:=0
def tw3469282661737613483:=0
def tw15716426486914261967:=0
def tw5399888025533369838:=0
def tw9951042891899737561:=0
def tw11110121076889093332:=0
def tw8766382239650649186:=0
def tw12546051312315046540:=0
def tw12595668699636463714:=0
def tw14825066060390704864:=0
def tw11934440711419927044:=0
def tw1058224243000691240:=0
def tw16071491062454781489:=0
def tw14218602414459849319:=0
def tw6787330503066041610:=0
def tw12245050228771158022:=0
def tw4105583959927296316:=0
def tw8168544350017817120:=0
def tw6777143325257398387:=0
def tw9189292904000297494:=0
def tw16651773136545026603:=0
def tw17552087061200772792:=0
def tw8569346583525187306:=0
def tw2859188335771275054:=0
def tw18201239576647928833:=0
def tw1338979275413601187:=0
def tw11904117292037822860:=0
def tw15971666042688654514:=0
def tw5974426531327888540:=0
def tw17826208303251719056:=0
def tw8425952072487342719:=0
def tw9142867782023298270:=0
def tw1292358396907910675:=0
def tw6694919245981460777:=0
def tw11315574550827376541:=0
def tw9360955232687112581:=0
def tw13077888578977237520:=0
def tw16535745920212943049:=0
def tw5753916181208130142:=0
def tw4529307111128414269:=0
def tw17656951521471622641:=0
def tw4202427686046509685:=0
def tw8818546572070155998:=0
def tw4465827793165058441:=0
def tw4609361568779341942:=0
def tw5629528324146878027:=0
def tw6744794025059550556:=0
def tw18232868605597960418:=0
def tw1309934861778904875:=0
def tw8654128235703845298:=0
def tw13126234149394561342:=0
def tw1797672100682645260:=0
def tw13270874801682617830:=0
def tw17629717292381886872:=0
def tw13992120214210187034:=0
def tw7023989253435767515:=0
end PySem.W.Fast
open PySem PySem.W PyProof.Rows
local macro_rules | `(tactic| simp_all!) => `(tactic| (refine' L3.fnat (by assumption) (by assumption) ?a ?l ?c ?k ?b; (case a => k_is); (case l => k_is); (case c => k_is); (case k => k_is); (case b => intro _ _ _ _ _ _ us hl; rcases us with _ | ⟨_, _ | ⟨_, _ | ⟨_, _ | ⟨_, _ | ⟨_, _ | ⟨_, _⟩⟩⟩⟩⟩⟩ <;> first | rfl | cases hl)))
set_option maxRecDepth 100000 in
set_option maxHeartbeats 0 in
theorem PySem.Challenge.cw_stepjudge_k06_whole_works_read_holds : PySem.Challenge.rw_stepjudge_k06_whole_works_read.Holds := by
 w_on;o_law;k_head;(case hw=>w_witness2)
 k_fill
 refine L3.walkL (k:=1) (by decide) (l:=PySem.Challenge.rw_stepjudge_k06_whole_works_read) rfl rfl (fun w h Y=>PySem.W.kIn_of Y) ?F
 case F=>
  intro w mg fa h KX G hmg
  refine' K06.all_mk KX G hmg ?u1 ?u2 ?u3 ?u4 ?u5 ?u6 ?u7 ?u8 ?u9 ?u10 ?u11 ?u12 ?u13 ?u14 ?u15 ?u16 ?u17 ?u18 ?u19 ?u20 ?u21 ?u22 ?u23 ?u24 ?u25 ?u26 ?u27 ?u28 ?u29 ?u30 ?u31 ?u32 ?u33 ?u34 ?u35 ?u36 ?u37 ?a ?l ?c ?k ⟨?r1,?r2,?r3,?r4,?r5,?r6,?r7,?r8,?r9,?r10,?r11,?r12,?r13⟩ ⟨PySem.W.mg_none_of KX G ?z1,PySem.W.mg_none_of KX G ?z2,PySem.W.mg_none_of KX G ?z3,PySem.W.mg_none_of KX G ?z4,PySem.W.mg_none_of KX G ?z5,PySem.W.mg_none_of KX G ?z6,PySem.W.mg_none_of KX G ?z7,PySem.W.mg_none_of KX G ?z8,PySem.W.mg_none_of KX G ?z9,PySem.W.mg_none_of KX G ?z10,PySem.W.mg_none_of KX G ?z11,PySem.W.mg_none_of KX G ?z12⟩
  (case u1=>simp_all!)
  (case u2=>simp_all!)
  (case u3=>simp_all!)
  (case u4=>simp_all!)
  (case u5=>simp_all!)
  (case u6=>simp_all!)
  (case u7=>simp_all!)
  (case u8=>simp_all!)
  (case u9=>simp_all!)
  (case u10=>simp_all!)
  (case u11=>simp_all!)
  (case u12=>simp_all!)
  (case u13=>simp_all!)
  (case u14=>simp_all!)
  (case u15=>simp_all!)
  (case u16=>simp_all!)
  (case u17=>simp_all!)
  (case u18=>simp_all!)
  (case u19=>simp_all!)
  (case u20=>simp_all!)
  (case u21=>simp_all!)
  (case u22=>simp_all!)
  (case u23=>simp_all!)
  (case u24=>simp_all!)
  (case u25=>simp_all!)
  (case u26=>simp_all!)
  (case u27=>simp_all!)
  (case u28=>simp_all!)
  (case u29=>simp_all!)
  (case u30=>simp_all!)
  (case u31=>simp_all!)
  (case u32=>simp_all!)
  (case u33=>simp_all!)
  (case u34=>simp_all!)
  (case u35=>simp_all!)
  (case u36=>simp_all!)
  (case u37=>simp_all!)
  (case r1=>refine' L3.cs_mk KX G ?e;(case e=>k_is))
  (case r2=>refine' L3.cs_mk KX G ?e;(case e=>k_is))
  (case r3=>refine' L3.tc4_mk KX G ?ta ?tl;(case ta=>k_is);(case tl=>k_is))
  (case r4=>refine' L3.tc_mk KX G ?ta ?tl;(case ta=>k_is);(case tl=>k_is))
  (case r5=>refine' L3.tc_mk KX G ?ta ?tl;(case ta=>k_is);(case tl=>k_is))
  (case r6=>refine' L3.dc_mk KX G ?ta ?tl ?ts ?te ?tn ?tc;(case ta=>k_is);(case tl=>k_is);(case ts=>rfl);(case te=>exact⟨⟨_,rfl⟩,rfl,⟨_,rfl⟩,⟨⟨_,rfl⟩,rfl,⟨_,rfl⟩,⟨⟨_,rfl⟩,rfl,⟨_,rfl⟩,⟨⟨_,rfl⟩,rfl,⟨_,rfl⟩,⟨⟨_,rfl⟩,rfl,⟨_,rfl⟩,trivial⟩⟩⟩⟩⟩);(case tn=>decide +kernel);(case tc=>decide +kernel))
  (case r7=>refine' L3.dc_mk KX G ?ta ?tl ?ts ?te ?tn ?tc;(case ta=>k_is);(case tl=>k_is);(case ts=>rfl);(case te=>exact⟨⟨_,rfl⟩,rfl,⟨_,rfl⟩,⟨⟨_,rfl⟩,rfl,⟨_,rfl⟩,trivial⟩⟩);(case tn=>decide +kernel);(case tc=>decide +kernel))
  (case r8=>refine' L3.ci_mk KX G ?e;(case e=>k_is))
  (case r9=>refine' L3.ci_mk KX G ?e;(case e=>k_is))
  (case r10=>refine' L3.ci_mk KX G ?e;(case e=>k_is))
  (case r11=>refine' L3.ci_mk KX G ?e;(case e=>k_is))
  (case r12=>refine' L3.ci_mk KX G ?e;(case e=>k_is))
  (case r13=>refine' L3.ci_mk KX G ?e;(case e=>k_is))
  (case a=>k_is);(case l=>k_is);(case c=>k_is);(case k=>k_is)
  (case z1=>k_is)
  (case z2=>k_is)
  (case z3=>k_is)
  (case z4=>k_is)
  (case z5=>k_is)
  (case z6=>k_is)
  (case z7=>k_is)
  (case z8=>k_is)
  (case z9=>k_is)
  (case z10=>k_is)
  (case z11=>k_is)
  (case z12=>k_is)
