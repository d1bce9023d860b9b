import PyProof.Rows.All
import Wide.All
import OpenK.AllK
import Wide.FinOn
import Lean
import PyProof.EqAt
import PyProof.EqKinds
import PyProof.TupleCall
import KE.KDictList
import KE.KMinKey
import OpenK.XHead
import PySem.Challenge.RW_stepjudge_k28_ranges_of_one_unknown
open PySem.W (methodObj Frag keepIn fnOf codeIn kia_one nsIn mg_of ns_none_of mg_none_of)
open PySem.Heap (lt_size SameBut get?_push_of_some get?_push_size size_push IsTuple IsList)
open Nat (lt_of_lt_of_le lt_irrefl ne_of_lt le_trans mul_one le_refl le_of_eq lt_of_le_of_lt lt_trans zero_le zero_add dvd_trans lcm sub_self sub_zero mul_le_mul add_sub_cancel reduceAdd reduceSub reduceEqDiff reduceLeDiff pow_add pow_le_pow_right pow_pos one_lt_two_pow)
open List (mem_filter mem_cons_self mem_cons_of_mem mem_cons append_assoc mem_append mem_append_left getElem?_set_self getElem?_set_ne mem_append_right size_toArray append_nil nodup_cons of_mem_zip length_take getElem?_append_right getElem?_replicate getElem?_append_left getElem?_map mem_of_getElem? length_append length_map length_replicate length_drop length_set all_cons any_cons replicate_succ flatten_cons foldl foldl_cons length_singleton nil_append map_nil map_cons getElem?_cons_succ getElem?_cons_zero drop_zero drop_eq_nil_of_le length_range getElem?_eq_getElem not_mem_nil mem_map cons_append length_cons zip_cons_cons all_map all_eq_true nodup_nil map_map length_zip map_append mem_singleton zipWith getD_eq_getElem?_getD mem_of_find?_eq_some find?_some filter_cons length_filter_le length_nil range' set_cons_zero set_cons_succ foldl_nil isEmpty mem_replicate)
open Rat (le_of_lt mkRat_self intCast_mul lt_iff mul_le_mul_of_nonneg_left inv_pos mul_eq_zero mul_lt_mul_of_pos_left not_lt not_le neg_num num_eq_zero)
open Array (length_toList toList forIn_toList)
open Int (ne_of_gt toNat_natCast mul_comm gcd gcd_dvd_left gcd_dvd_right natAbs_mul mul_zero natAbs_natCast mul_ne_zero one_mul zero_mul natAbs_neg)
open Bool (and_eq_true false_eq_true or_eq_true)
open Option (map_some map_none bind_none)
set_option Elab.async false
set_option linter.all false
set_option maxRecDepth 100000
namespace L2
noncomputable section
open PySem PySem.Spec PyProof.Rows
abbrev Key:=Sum Int Str
def Ik:Key->Value->Bool
 | .inl k,v=>Value.isInt k v
 | .inr x,v=>Value.isStrOf x v
def RF (w:World):Key->Int
 | .inl k=>hashInt k
 | .inr x=>hashStr w x
theorem dM:∀{k:Key} {v:Value},Ik k v=true->(∃i t,k=Sum.inl i/\v=Value.int i t)\/(∃x t,k=Sum.inr x/\v=Value.str x t)
 | .inl i,v,h=>by
  obtain⟨t,e⟩:=Value.isInt_shape (k:=i) (v:=v) h;exact .inl ⟨i,t,rfl,e⟩
 | .inr x,v,h=>by
  obtain⟨t,e⟩:=Value.isStrOf_shape (x:=x) (v:=v) h;exact .inr ⟨x,t,rfl,e⟩
theorem Mh(a b:Int):decide ((Sum.inl a:Key)=Sum.inl b)=(a==b):=by
 by_cases e:a=b
 ·subst e;simp
 ·have h:¬(Sum.inl a:Key)=Sum.inl b:=fun q=>e (Sum.inl.inj q);rw[decide_eq_false h];exact(beq_eq_false_iff_ne.mpr e).symm
theorem Me(a b:Str):decide ((Sum.inr a:Key)=Sum.inr b)=decide (a=b):=by
 by_cases e:a=b
 ·subst e;simp
 ·have h:¬(Sum.inr a:Key)=Sum.inr b:=fun q=>e (Sum.inr.inj q);rw[decide_eq_false h,decide_eq_false e]
theorem Mg(a:Int)(b:Str):decide ((Sum.inl a:Key)=Sum.inr b)=false:=decide_eq_false (fun q=>nomatch q)
theorem Mf(a:Str)(b:Int):decide ((Sum.inr a:Key)=Sum.inl b)=false:=decide_eq_false (fun q=>nomatch q)
def tJ (prog:Program) (w:World):PySem.KeyKind prog w Key where
 is:=Ik
 hash:=RF w
 inj:=fun v a b ha hb=>by
  rcases dM ha with⟨i,t,rfl,rfl⟩|⟨x,t,rfl,rfl⟩
  ·rcases dM hb with⟨j,u,rfl,e⟩|⟨y,u,rfl,e⟩
   ·injection e with e1 _;rw[e1]
   ·exact nomatch e
  ·rcases dM hb with⟨j,u,rfl,e⟩|⟨y,u,rfl,e⟩
   ·exact nomatch e
   ·injection e with e1 _;rw[e1]
 byValue:=fun k v h=>by
  rcases dM h with⟨i,t,rfl,rfl⟩|⟨x,t,rfl,rfl⟩<;>rfl
 pyHash:=fun hv h=>by
  rcases dM hv with⟨i,t,rfl,rfl⟩|⟨x,t,rfl,rfl⟩
  ·exact wpAny_pyHash_int h
  ·exact wpAny_pyHash_str h
 eqBool:=fun hu hv h=>by
  rcases dM hu with⟨i,t,rfl,rfl⟩|⟨x,t,rfl,rfl⟩
  ·rcases dM hv with⟨j,u,rfl,rfl⟩|⟨y,u,rfl,rfl⟩
   ·rw[Mh]at h;exact wpAny_eqBool_int h
   ·rw[Mg]at h;exact SeqAt.EqAt.int_str i t y u _ _ _ _ h
  ·rcases dM hv with⟨j,u,rfl,rfl⟩|⟨y,u,rfl,rfl⟩
   ·rw[Mf]at h;exact SeqAt.EqAt.str_int x t j u _ _ _ _ h
   ·rw[Me]at h;exact wpAny_eqBool_str h
 «strs»:=fun k x t v h=>by
  rcases dM h with⟨i,u,rfl,e⟩|⟨y,u,rfl,e⟩
  ·exact nomatch e
  ·injection e with e1 _;subst e1;cases v<;>rfl
open PySem PySem.Spec PyProof.Rows
inductive V where
 |bI|bl (b:Bool)|int (i:Int)|str (x:Str)|lz (b:Array UInt8)|MQ (b:UInt64)|ref (a:Addr)|ty (n:String)
 deriving DecidableEq
def RelV:V->Value->Prop
 | .bI,u=>u=Value.none
 | .bl b,u=>u=Value.bool b
 | .int i,u=>∃t,u=Value.int i t
 | .str x,u=>∃t,u=Value.str x t
 | .lz b,u=>∃t,u=Value.bytes b t
 | .MQ b,u=>∃t,u=Value.float b t
 | .ref a,u=>u=Value.ref a
 | .ty n,u=>u=Value.type n
abbrev Vals:List V->List Value->Prop:=Paired RelV
variable {xs:List V} {us:List Value}
theorem Vals.length(r:Vals xs us):xs.length=us.length:=Paired.length r
theorem Vals.get:∀{xs:List V} {us:List Value} {i:Nat} {x:V},Vals xs us->xs[i]?=some x->∃u,us[i]?=some u/\RelV x u
 |_,_,_,_,.nil,e=>by simp at e
 |_,_,0,_,.cons r _,e=>by simp at e;subst e;exact⟨_,rfl,r⟩
 |_,_,i+1,x,.cons _ t,e=>by
  obtain⟨u,h1,h2⟩:=Vals.get (i:=i) (x:=x) t (by simpa using e);exact⟨u,by simpa using h1,h2⟩
theorem Vals.set{x:V}{u:Value}(r:RelV x u):∀{xs:List V} {us:List Value} (i:Nat),Vals xs us->Vals (xs.set i x) (us.set i u)
 |_,_,_,.nil=>.nil
 |_,_,0,.cons _ t=>.cons r t
 |_,_,i+1,.cons q t=>.cons q (Vals.set r i t)
theorem Vals.append:∀{xs ys:List V} {us ws:List Value},Vals xs us->Vals ys ws->Vals (xs++ys) (us++ws)
 |_,_,_,_,.nil,s=>s
 |_,_,_,_,.cons r t,s=>.cons r (Vals.append t s)
theorem Vals.take:∀{xs:List V} {us:List Value} (n:Nat),Vals xs us->Vals (xs.take n) (us.take n)
 |_,_,0,_=>.nil
 |_,_,_+1,.nil=>.nil
 |_,_,n+1,.cons r t=>.cons r (Vals.take n t)
theorem Vals.drop:∀{xs:List V} {us:List Value} (n:Nat),Vals xs us->Vals (xs.drop n) (us.drop n)
 |_,_,0,r=>r
 |_,_,_+1,.nil=>.nil
 |_,_,n+1,.cons _ t=>Vals.drop n t
def NA:Option V->Option Value->Prop
 |some v,some u=>RelV v u
 |none,none=>True
 |_,_=>False
def KV {κ:Type}:List (κ×V)->List (κ×Value)->Prop:=Paired fun(p:κ×V) (q:κ×Value)=>p.1=q.1/\RelV p.2 q.2
def kV:Key->V
 | .inl i=>.int i
 | .inr x=>.str x
inductive HO where
 /-- a list -/
 |lst (xs:List V)
 /-- a tuple (never changes) -/
 |tup (xs:List V)
 /-- a dict NW keys are ints and texts;one NW keys are tuples of ints and texts (zo empty one is both) -/
 |dK (fm:List (Key×V))|dT (fm:List (List Key×V))
 /-- a set of ints: aq members,aq size -/
 |set (S:Int->Bool) (n:Nat)
 /-- an instance of zo class at C,aq dict at dx,aq attributes -/
 |ins (C dx:Addr) (fs:List (Str×V))
 /-- zo dict of zo instance at x -/
 |own (x:Addr)
 /-- zo dict of an exception -/
 |xd (fs:List (Str×V))
 /-- a bound method,f of x -/
 |met (f x:Addr)
 /-- a range object lo,lo+1,.. below hi -/
 |Lm (lo hi:Int)
 /-- a NZ that is known to zo object (zo script;a dict NX a loop walks it): read,never written NX it is so -/
 |qt (o:Obj) (u:HO)
 /-- a code object's table -/
 |vU (ps:Array Value)
 /-- any other NZ,by what is true of aq one object (a def of one's own: SetO a S n:=HO.ext fun h=>..) -/
 |ext (φ:Heap->Prop)
abbrev Hp:=Addr->Option HO
def upd (H:Hp) (a:Addr) (o:HO):Hp:=fun b=>if b=a then some o else H b
variable {H:Hp} {a:Addr} {o:HO}
theorem cW:upd H a o a=some o:=by unfold upd;rw[if_pos rfl]
variable {b:Addr}
theorem bc(h:b≠a):upd H a o b=H b:=by unfold upd;rw[if_neg h]
theorem b9(h:H a=some o)(h':H b=none):a≠b:=by
 intro e;subst e;rw[h]at h';cases h'
section
variable (P:Program) (w:World)
def fK (H:Hp) (h:Heap) (a:Addr):HO->Prop
 | .lst xs=>xs.length<=sizeLine/\∃(aq:List Value) (n:Nat),Vals xs aq/\h.get? a=some {cls:=.type "list",data:=.seq aq.toArray n}
 | .tup xs=>xs.length<=sizeLine/\∃aq:List Value,Vals xs aq/\IsTup h a aq.toArray
 | .dK fm=>fm.length<=sizeLine/\(a==sysModules)=false/\∃vs,KV fm vs/\h.DictOf (tJ P w) a vs
 | .dT fm=>fm.length<=sizeLine/\(a==sysModules)=false/\∃xs:List (List Key×Addr×Value),
   Paired (fun(p:List Key×V) (q:List Key×Addr×Value)=>p.1=q.1/\H q.2.1=some (.tup (p.1.map kV))/\RelV p.2 q.2.2) fm xs/\
   ∃o es ep,h.get? a=some o/\o.ExactDict/\o.data=.dict es ep/\es.toList=xs.map (entryOfKey (tupleKind (tJ P w)))/\(xs.map (·.1)).Nodup
 | .set S n=>h.SetOf (intKind P w) a S n
 | .ins C dx fs=>H dx=some (.own a)/\fs.length<=1000/\dx≠a/\h.get? a=some (PySem.W.instObj C dx)/\
   ∃mA,h.Ns1 dx mA/\(∀f,NA (fs.lookup f) (mA f))/\PySem.Within mA (fs.map (·.1))
 | .own _=>∃o,h.get? a=some o
 | .xd fs=>∃mA,h.Ns1 a mA/\∀f,NA (fs.lookup f) (mA f)
 | .Lm lo hi=>∃t u v,h.get? a=some {cls:=.type "range",data:=.fields #[.int lo t,.int hi u,.int 1 v]}
 | .qt o u=>h.get? a=some o/\fK H h a u
 | .vU ps=>h.get? a=some {cls:=.none,data:=.fields ps}
 | .met f x=>h.get? a=some (methodObj (.ref f) (.ref x))
 | .ext φ=>φ h/\(∃o,h.get? a=some o)/\∀h1 h2:Heap,φ h1->(∀o,h1.get? a=some o->h2.get? a=some o)->φ h2
def gH (H:Hp) (h:Heap):Prop:=∀a o,H a=some o->fK P w H h a o
end
variable {h:Heap} {P:Program} {w:World}
theorem fK.lt(x:fK P w H h a o):a<h.objs.size:=by
 cases o with
 |lst xs=>obtain⟨_,_,_,_,e⟩:=x;exact lt_size e
 |tup xs=>obtain⟨_,_,_,p⟩:=x;exact p.lt
 |dK fm=>obtain⟨_,_,_,_,o,_,_,e,_⟩:=x;exact lt_size e
 |dT fm=>obtain⟨_,_,_,_,o,_,_,e,_⟩:=x;exact lt_size e
 |set S n=>obtain⟨o,_,_,_,e,_⟩:=x;exact lt_size e
 |ins C dx fs=>obtain⟨_,_,_,e,_⟩:=x;exact lt_size e
 |own y=>obtain⟨_,e⟩:=x;exact lt_size e
 |xd fs=>obtain⟨_,⟨_,_,_,e,_⟩,_⟩:=x;exact lt_size e
 |Lm lo hi=>obtain⟨_,_,_,e⟩:=x;exact lt_size e
 |qt ob u=>obtain⟨e,_⟩:=x;exact lt_size e
 |vU ps=>exact lt_size (show h.get? a=some _ from x)
 |met f y=>exact lt_size (show h.get? a=some _ from x)
 |ext φ=>obtain⟨_,⟨_,e⟩,_⟩:=x;exact lt_size e
theorem Paired.M3{α β:Type}{F G:α->β->Prop}:∀{l₁:List α} {l₂:List β},Paired F l₁ l₂->(∀a b,F a b->G a b)->Paired G l₁ l₂
 |_,_,.nil,_=>.nil
 |_,_,.cons r t,f=>.cons (f _ _ r) (Paired.M3 t f)
variable {h':Heap} {H':Hp}
theorem fK.lZ(x:fK P w H h a o)(k:∀b u,(b=a\/H b=some (.own a))->h.get? b=some u->h'.get? b=some u)(ho:∀b,H b=some (.own a)->H' b=some (.own a))(ht:∀b xs,H b=some (.tup xs)->H' b=some (.tup xs)):fK P w H' h' a o:=by
 induction o with
 |lst xs=>obtain⟨z,aq,n,r,e⟩:=x;exact⟨z,aq,n,r,k _ _ (.inl rfl) e⟩
 |tup xs=>obtain⟨z,aq,r,ob,e,c⟩:=x;exact⟨z,aq,r,ob,k _ _ (.inl rfl) e,c⟩
 |dK fm=>obtain⟨z,y,vs,r,ob,es,ep,e,c⟩:=x;exact⟨z,y,vs,r,ob,es,ep,k _ _ (.inl rfl) e,c⟩
 |dT fm=>
  obtain⟨z,y,xs,r,ob,es,ep,e,c⟩:=x;exact⟨z,y,xs,Paired.M3 r fun p q z=>⟨z.1,ht _ _ z.2.1,z.2.2⟩,ob,es,ep,k _ _ (.inl rfl) e,c⟩
 |set S n=>obtain⟨ob,es,ep,t,e,c⟩:=x;exact⟨ob,es,ep,t,k _ _ (.inl rfl) e,c⟩
 |ins C dx fs=>
  obtain⟨d,z,ne,e,mA,⟨od,es,ep,e2,c⟩,r⟩:=x;exact⟨ho _ d,z,ne,k _ _ (.inl rfl) e,mA,⟨od,es,ep,k _ _ (.inr d) e2,c⟩,r⟩
 |own y=>obtain⟨ob,e⟩:=x;exact⟨ob,k _ _ (.inl rfl) e⟩
 |xd fs=>obtain⟨mA,⟨od,es,ep,e,c⟩,r⟩:=x;exact⟨mA,⟨od,es,ep,k _ _ (.inl rfl) e,c⟩,r⟩
 |Lm lo hi=>obtain⟨t,u,v,e⟩:=x;exact⟨t,u,v,k _ _ (.inl rfl) e⟩
 |qt ob u ih=>obtain⟨e,q⟩:=x;exact⟨k _ _ (.inl rfl) e,ih q⟩
 |vU ps=>
  have e:h.get? a=some {cls:=.none,data:=.fields ps}:=x;show h'.get? a=some {cls:=.none,data:=.fields ps};exact k a _ (.inl rfl) e
 |met f y=>
  have e:h.get? a=some (methodObj (.ref f) (.ref y)):=x;show h'.get? a=some (methodObj (.ref f) (.ref y));exact k a _ (.inl rfl) e
 |ext φ=>obtain⟨p,⟨o,e⟩,st⟩:=x;exact⟨st _ _ p fun o q=>k _ _ (.inl rfl) q,⟨o,k _ _ (.inl rfl) e⟩,st⟩
theorem gH.lt(x:gH P w H h)(e:H a=some o):a<h.objs.size:=(x a o e).lt
theorem gH.fresh(x:gH P w H h)(e:h.objs.size<=a):H a=none:=by
 cases q:H a with
 |none=>rfl
 |some u=>exact absurd (lt_of_lt_of_le (x.lt q) e) (lt_irrefl _)
theorem gH.kept(x:gH P w H h)(k:∀b u,h.get? b=some u->h'.get? b=some u):gH P w H h':=fun a o e=>
 (x a o e).lZ (fun b u _ q=>k b u q) (fun _ q=>q) fun _ _ q=>q
theorem gH.laid(x:gH P w H h)(k:∀b u,h.get? b=some u->h'.get? b=some u)(hp:h.objs.size<=a)(new:fK P w (upd H a o) h' a o):gH P w (upd H a o) h':=fun b u e=>by
 have hn:=x.fresh hp;by_cases hb:b=a
 ·subst hb;rw[cW]at e;cases e;exact new
 ·rw[bc hb]at e;exact(x b u e).lZ (fun c v _ q=>k c v q) (fun c q=>by rw[bc (b9 q hn)];exact q) fun c xs q=>by rw[bc (b9 q hn)];exact q
def Rd (H:Hp) (a:Addr) (u:HO):Prop:=H a=some u\/∃o,H a=some (.qt o u)
theorem Rd.ok{u:HO}(r:Rd H a u)(x:gH P w H h):fK P w H h a u:=by
 rcases r with r|⟨o,r⟩
 ·exact x a u r
 ·obtain⟨_,q⟩:=x a _ r;exact q
def J3:Option HO->Prop
 |some (.lst _)=>True
 |some (.dK _)=>True
 |some (.dT _)=>True
 |some (.set _ _)=>True
 |some (.ins _ _ _)=>True
 |some (.ext _)=>True
 |_=>False
variable {o':HO} {e x:Addr}
theorem gH.write(ok:gH P w H h)(mu:J3 (H x))(he:e=x\/H e=some (.own x))(k:∀b u,b≠e->h.get? b=some u->h'.get? b=some u)(Ac:∃u,h'.get? e=some u)(new:fK P w (upd H x o') h' x o'):gH P w (upd H x o') h':=fun b u q=>by
 have LY:∀c y,H c=some (.own y)->c≠x:=fun c y r z=>by subst z;rw[r]at mu;exact mu
 have Rz:∀c xs,H c=some (.tup xs)->c≠x:=fun c xs r z=>by subst z;rw[r]at mu;exact mu
 by_cases hb:b=x
 ·subst hb;rw[cW]at q;cases q;exact new
 ·rw[bc hb]at q;by_cases xG:b=e
  ·have q':H b=some (.own x):=by
    rcases he with z|z
    ·exact absurd (xG.trans z) hb
    ·rw[xG];exact z
   rw[q]at q';cases q';obtain⟨v,hv⟩:=Ac;exact⟨v,by rw[xG];exact hv⟩
  ·refine(ok b u q).lZ (fun c v hc r=>k c v ?_ r) (fun c r=>by rw[bc (LY c b r)];exact r) fun c xs r=>by rw[bc (Rz c xs r)];exact r
   rcases hc with rfl|hc
   ·exact xG
   ·rintro rfl;rcases he with z|z
    ·exact LY c b hc z
    ·rw[hc]at z;cases z;exact hb rfl
structure Un (fs ex:List Addr) (H H':Hp) (h h':Heap):Prop where
 keep:∀b o,h.get? b=some o->H b=none->b∉fs->b∉ex->h'.get? b=some o
 slot:∀b o,h.get? b=some o->H b=none->b∈fs->b∉ex->∃sl,h'.get? b=some {o with slots:=sl}
 free:∀b o,h.get? b=some o->H b=none->b∉ex->H' b=none
 there:∀b o,h.get? b=some o->b∉ex->∃o',h'.get? b=some o'
 lW:∀b xs,H b=some (.tup xs)->H' b=some (.tup xs)
 k6:∀b o u,H b=some (.qt o u)->H' b=some (.qt o u)
 lY:∀b ps,H b=some (.vU ps)->∃more,H' b=some (.vU (ps++more))
variable {h1:Heap} {ex:List Addr} {H1:Hp}
variable {fs:List Addr} in
theorem Un.any(u:Un fs ex H H1 h h1){ob:Obj}(q:h.get? b=some ob)(n:H b=none)(hx:b∉ex):∃sl,h1.get? b=some {ob with slots:=sl}:=by
 by_cases hb:b∈fs
 ·exact u.slot b ob q n hb hx
 ·exact⟨ob.slots,u.keep b ob q n hb hx⟩
variable {fs:List Addr} in
theorem Un.kept(k:∀b u,h.get? b=some u->h'.get? b=some u):Un fs ex H H h h':=
 ⟨fun b ob q _ _ _=>k b ob q,fun b ob q _ _ _=>⟨ob.slots,k b ob q⟩,fun _ _ _ n _=>n,fun b ob q _=>⟨ob,k b ob q⟩,fun _ _ q=>q,fun _ _ _ q=>q,fun _ ps q=>⟨#[],by rw[q];simp⟩⟩
variable {fs:List Addr} in
theorem Un.refl:Un fs ex H H h h:=Un.kept fun _ _ q=>q
variable {fs:List Addr} in
theorem Un.laid(k:∀b u,h.get? b=some u->h'.get? b=some u)(hp:h.objs.size<=a)(hn:H a=none):Un fs ex H (upd H a o) h h' where
 keep:=fun b u q _ _ _=>k b u q
 slot:=fun b u q _ _ _=>⟨u.slots,k b u q⟩
 free:=fun b u q n _=>by rw[bc (ne_of_lt (lt_of_lt_of_le (lt_size q) hp))];exact n
 there:=fun b u q _=>⟨u,k b u q⟩
 lW:=fun b xs q=>by rw[bc (b9 q hn)];exact q
 k6:=fun b u xs q=>by rw[bc (b9 q hn)];exact q
 lY:=fun b ps q=>⟨#[],by rw[bc (b9 q hn),q];simp⟩
variable {fs:List Addr} in
theorem Un.write(mu:J3 (H x))(he:e=x\/H e=some (.own x))(k:∀b u,b≠e->h.get? b=some u->h'.get? b=some u)(Ac:∃u,h'.get? e=some u):Un fs ex H (upd H x o) h h':=by
 have hx:∀b,H b=none->b≠x:=fun b n z=>by subst z;rw[n]at mu;exact mu
 have hb:∀b,H b=none->b≠e:=fun b n z=>by
  subst z;rcases he with r|r
  ·exact hx b n r
  ·rw[n]at r;cases r
 have hm:∀b u,H b=some u->¬J3 (some u)->b≠x:=fun b u q nm z=>by subst z;rw[q]at mu;exact nm mu
 refine⟨fun b u q n _ _=>k b u (hb b n) q,fun b u q n _ _=>⟨u.slots,k b u (hb b n) q⟩,fun b u q n _=>by rw[bc (hx b n)];exact n,fun b u q _=>?_,
  fun b xs q=>by rw[bc (hm b _ q fun z=>z)];exact q,fun b u xs q=>by rw[bc (hm b _ q fun z=>z)];exact q,fun b ps q=>⟨#[],by rw[bc (hm b _ q fun z=>z),q];simp⟩⟩
 by_cases xG:b=e
 ·subst xG;exact Ac
 ·exact⟨u,k b u xG q⟩
def HD (h:Heap) (H:Hp):List Addr:=(List.range h.objs.size).filter fun a=>(H a).isSome
def nI (h:Heap) (H:Hp):Heap:=PySem.W.hideAll h (HD h H)
theorem E5(h:Heap)(H:Hp):(nI h H).objs.size=h.objs.size:=PySem.W.hideAll_size _ _
variable {o:Obj}
theorem Gy(e:h.get? b=some o)(n:H b=none):(nI h H).get? b=some o:=
 PySem.W.hideAll_get _ e fun hm=>by
  have q:(H b).isSome=true:=(mem_filter.mp hm).2;rw[n]at q;simp at q
theorem JU(e:(nI h H).get? b=some o):h.get? b=some o/\H b=none:=by
 have e':h.get? b=some o:=PySem.W.of_hideAll (HD h H) e;refine⟨e',?_⟩;cases q:H b with
 |none=>rfl
 |some x=>
  have hm:b∈HD h H:=mem_filter.mpr ⟨List.mem_range.mpr (lt_size e'),by simp[q]⟩;have z:(nI h H).get? b=none:=PySem.W.hideAll_none (HD h H) hm;rw[z]at e;cases e
def KA (g h:Heap) (L:Addr):List (Addr×Obj):=(List.range h.objs.size).filterMap fun a=>if a=L\/(g.get? a).isSome=true then none else(h.get? a).map fun o=>(a,o)
def rest (g h:Heap) (L d:Addr):List (Addr×Obj):=(KA g h L).filter fun p=>decide (p.1≠d)
open PySem PySem.Spec PyProof.Rows
structure Mod (K:Frag) (mg:Str->Option Value) (base:Heap):Prop where
 rT:K.In base
 glob:base.Ns mainGlobals mg
 blt:∃mb,base.Ns builtinsNs mb/\∀x:Str,x≠"__name__"->mb x=bootBuiltins x
 nolimit:base.NoLimit
structure Cx where
 prog:Program
 w:World
 K:Frag
 mg:Str->Option Value
 base:Heap
 A:Around
 N:List Str
 aI:Shared
 ag:Hp
 env:Env
 outer:List Env
 stack:List Env
 ex:List Addr
 fn:Str->Bool
 calm:Bool
 pn:List (Addr×Obj)
 xe:Value->Shared->Prop
def jQ (l:List Env):List Addr:=l.filterMap (·.frame)
abbrev Cx.fs (X:Cx):List Addr:=jQ X.outer
def mU (sc:Scope) (x:Str):Prop:=sc.names.lookup x=some .local\/sc.names.lookup x=some .cell\/sc.names.lookup x=some .free
def Loc (sc:Scope) (x:Str):Prop:=sc.names.lookup x=some .local\/sc.names.lookup x=some .cell
def Look (env:Env) (h:Heap) (m:Str->Option Value) (x:Str) (u:Value):Prop:=
 (env.kindOf x=some .local/\m x=some u)\/((env.kindOf x=some .cell\/env.kindOf x=some .free)/\∃c,env.cells.lookup x=some c/\h.IsCell c (some u))
structure Cx.Ok (X:Cx):Prop where
 mod:Mod X.K X.mg X.base
 kind:X.env.scope.kind=.function
 glob:X.env.globals=mainGlobals
 blt:X.env.builtins=builtinsNs
 above:X.aI.heap.objs.size<=X.env.locals
 inj:∀x y c,X.env.cells.lookup x=some c->X.env.cells.lookup y=some c->x=y
 has:∀x,(X.env.kindOf x=some .cell\/X.env.kindOf x=some .free)->∃c,X.env.cells.lookup x=some c
 EU:∀x c,X.fn x=true->X.env.cells.lookup x=some c->X.aI.heap.objs.size<=c
 hd:X.calm=true->X.A.handled=none
 frames:X.A.frames=some X.stack
 HN:X.stack=X.outer\/(X.stack=X.env::X.outer/\X.env.frame=some X.env.locals)
 Aj:∀b∈X.ex,b≠X.env.locals/\∀x c,X.env.cells.lookup x=some c->c≠b
 bs:∀b o,X.base.get? b=some o->X.aI.heap.get? b=some o/\X.ag b=none
 v7:X.base.objs.size<=X.aI.heap.objs.size
 tG:∀b o,X.base.get? b=some o->b∉X.ex
 tQ:∀b∈X.ex,b∉X.fs
 lu:X.aI.heap.FunFrames X.base X.outer
 Ah:∀b∈X.fs,X.ag b=none
structure Inv (X:Cx) (pins:List (Addr×Obj)) (σ:List (Option V)) (H:Hp) (s:Shared):Prop where
 ok:X.Ok
 os:s.os=X.aI.os
 bare:AllBare s.gens
 base:Un X.fs X.ex X.ag H X.aI.heap s.heap
 loc:∃m,s.heap.Ns X.env.locals m/\∀(i:Nat) (x:Str) (v:V),X.N[i]?=some x->σ[i]?=some (some v)->mU X.env.scope x->∃u,RelV v u/\Look X.env s.heap m x u
 cell:∀x c,X.env.cells.lookup x=some c->∃v,s.heap.IsCell c v
 free:H X.env.locals=none
 iA:∀x c,X.env.cells.lookup x=some c->H c=none
 pin:∀p∈X.pn++pins,s.heap.get? p.1=some p.2/\H p.1=none/\p.1≠X.env.locals/\p.1∉X.fs/\∀v,p.2.data≠.cell v
 bx:gH X.prog X.w H s.heap
 len:σ.length=X.N.length
variable {X:Cx}
theorem Cx.Ok.RB(ok:X.Ok)(e:X.base.get? b=some o):b∉X.fs:=fun hb=>by
 have:=(ok.lu.mem hb).1;rw[e]at this;cases this
variable {pins:List (Addr×Obj)} {σ:List (Option V)}
variable {s:Shared} in
theorem Inv.bs(I:Inv X pins σ H s):∀b o,X.base.get? b=some o->s.heap.get? b=some o/\H b=none:=fun b o e=>
 ⟨I.base.keep b o (I.ok.bs b o e).1 (I.ok.bs b o e).2 (I.ok.RB e) (I.ok.tG b o e),I.base.free b o (I.ok.bs b o e).1 (I.ok.bs b o e).2 (I.ok.tG b o e)⟩
variable {s:Shared} in
theorem Inv.bk(I:Inv X pins σ H s):∀b o,X.base.get? b=some o->s.heap.get? b=some o:=fun b o e=>(I.bs b o e).1
variable {s:Shared} in
theorem Inv.mod(I:Inv X pins σ H s):Mod X.K X.mg X.base:=I.ok.mod
variable {s:Shared} in
theorem Inv.nU(I:Inv X pins σ H s):X.K.In s.heap:=I.ok.mod.rT.keeps I.bk
variable {s:Shared} in
theorem Inv.nolimit(I:Inv X pins σ H s):s.heap.NoLimit:=I.ok.mod.nolimit.keeps I.bk
variable {s:Shared} in
theorem Inv.lt(I:Inv X pins σ H s):X.env.locals<s.heap.objs.size:=let ⟨_,hn,_⟩:=I.loc;hn.lt
variable {s:Shared} in
theorem Inv.sz(I:Inv X pins σ H s):X.aI.heap.objs.size<=s.heap.objs.size:=le_trans I.ok.above (Nat.le_of_lt I.lt)
variable {s:Shared} in
theorem Inv.RA(I:Inv X pins σ H s)(h:s.heap.objs.size<=a):a∉X.fs:=fun hb=>by
 obtain⟨_,o,ho,_⟩:=I.ok.lu.mem hb;exact absurd (lt_of_lt_of_le (lt_size ho) (le_trans I.sz h)) (lt_irrefl _)
variable {s:Shared} in
theorem Inv.yf(I:Inv X pins σ H s):∀x c,X.env.cells.lookup x=some c->c≠X.env.locals:=fun x c e z=>by
 obtain⟨v,o,ho,hd⟩:=I.cell x c e;obtain⟨m,⟨o',es,ep,nV,cV,_⟩,_⟩:=I.loc;rw[z,nV]at ho;cases ho;rw[cV]at hd;cases hd
variable {s:Shared} in
theorem Inv.lu(I:Inv X pins σ H s):s.heap.FunFrames X.base X.outer:=by
 have all:∀(l:List Env),(∀b∈jQ l,b∈X.fs)->X.aI.heap.FunFrames X.base l->s.heap.FunFrames X.base l:=by
  intro l;induction l with
  |nil=>intro _ _;trivial
  |cons env r ih=>
   intro hs hl;obtain⟨hk,⟨L,o,hf,hn,ho,hd⟩,hr⟩:=hl;have hL:L∈X.fs:=hs L (by unfold jQ;rw[List.filterMap_cons,hf];exact mem_cons_self);obtain⟨sl,e⟩:=I.base.slot L o ho (I.ok.Ah L hL) hL fun z=>I.ok.tQ L z hL;exact⟨hk,⟨L,_,hf,hn,e,hd⟩,ih (fun b hb=>hs b (by unfold jQ;rw[List.filterMap_cons,hf];exact mem_cons_of_mem _ hb)) hr⟩
 exact all X.outer (fun _ hb=>hb) I.ok.lu
variable {s:Shared} in
theorem Inv.stack(I:Inv X pins σ H s):s.heap.FunFrames X.base X.stack:=by
 rcases I.ok.HN with e|⟨e,hf⟩
 ·rw[e];exact I.lu
 ·rw[e];obtain⟨m,hn,_⟩:=I.loc;refine .cons (by rw[I.ok.kind];decide) hf hn ?_ I.lu;exact Heap.get?_none_of_le (le_trans I.ok.v7 I.ok.above)
variable {s:Shared} in
theorem Inv.rB(I:Inv X pins σ H s):∀b∈jQ X.stack,b∈X.env.locals::X.fs:=fun b hb=>by
 rcases I.ok.HN with e|⟨e,hf⟩
 ·rw[e]at hb;exact mem_cons_of_mem _ hb
 ·rw[e]at hb;unfold jQ at hb;rw[List.filterMap_cons,hf]at hb;exact hb
variable {s:Shared} in
theorem Inv.t9(I:Inv X pins σ H s):∀b∈jQ X.stack,H b=none:=fun b hb=>by
 rcases mem_cons.mp (I.rB b hb)with e|hb
 ·rw[e];exact I.free
 ·obtain⟨_,o,ho,_⟩:=I.ok.lu.mem hb;exact I.base.free b o ho (I.ok.Ah b hb) fun z=>I.ok.tQ b z hb
variable {t':Nat} {ch:List Addr}
variable {s:Shared} in
theorem Inv.step{g':Array GenState}{d':Drawn}(I:Inv X pins σ H s)(nX:∀b∈ch,(b∈X.ex\/X.aI.heap.objs.size<=b)/\b≠X.env.locals/\(∀x c,X.env.cells.lookup x=some c->c≠b)/\∀p∈X.pn++pins,p.1≠b)(keep:∀b o,b≠X.env.locals->b∉X.fs->b∉ch->s.heap.get? b=some o->H b=none->h'.get? b=some o)(slot:∀b o,b≠X.env.locals->b∈X.fs->b∉ch->s.heap.get? b=some o->H b=none->∃sl,h'.get? b=some {o with slots:=sl})(free:∀b o,b∉ch->s.heap.get? b=some o->H b=none->H' b=none)(there:∀b o,b∉ch->s.heap.get? b=some o->∃o',h'.get? b=some o')(lW:∀b xs,H b=some (.tup xs)->H' b=some (.tup xs))(k6:∀b o u,H b=some (.qt o u)->H' b=some (.qt o u))(lY:∀b ps,H b=some (.vU ps)->∃more,H' b=some (.vU (ps++more)))(ns:∀m,s.heap.Ns X.env.locals m->h'.Ns X.env.locals m)(bx:gH X.prog X.w H' h')(hg:AllBare g'):
  Inv X pins σ H' {s with heap:=h',gens:=g',drawn:=d',toks:=t'}:=by
 have Pm:∀b o,X.aI.heap.get? b=some o->b≠X.env.locals:=fun b o e=>ne_of_lt (lt_of_lt_of_le (lt_size e) I.ok.above);have uC:∀b o,X.aI.heap.get? b=some o->b∉X.ex->b∉ch:=fun b o e hx hb=>by
  rcases(nX b hb).1 with z|z
  ·exact hx z
  ·exact absurd (lt_of_lt_of_le (lt_size e) z) (lt_irrefl _)
 have cellK:∀x c,X.env.cells.lookup x=some c->∀v,s.heap.IsCell c v->h'.IsCell c v:=fun x c e v aQ=>by
  obtain⟨o,ho,hd⟩:=aQ;have Dz:c∉ch:=fun z=>(nX c z).2.2.1 x c e rfl;by_cases hc:c∈X.fs
  ·obtain⟨sl,q⟩:=slot c o (I.yf x c e) hc Dz ho (I.iA x c e);exact⟨_,q,hd⟩
  ·exact⟨o,keep c o (I.yf x c e) hc Dz ho (I.iA x c e),hd⟩
 refine⟨I.ok,I.os,hg,⟨fun b o e n hb hx=>?_,fun b o e n hb hx=>?_,fun b o e n hx=>?_,fun b o e hx=>?_,fun b xs e=>lW b xs (I.base.lW b xs e),fun b o xs e=>k6 b o xs (I.base.k6 b o xs e),fun b ps e=>?_⟩,?_,fun x c e=>?_,?_,fun x c e=>?_,fun p hp=>?_,bx,I.len⟩
 ·exact keep b o (Pm b o e) hb (uC b o e hx) (I.base.keep b o e n hb hx) (I.base.free b o e n hx)
 ·obtain⟨sl,e1⟩:=I.base.slot b o e n hb hx;obtain⟨P7,e2⟩:=slot b _ (Pm b o e) hb (uC b o e hx) e1 (I.base.free b o e n hx);exact⟨P7,e2⟩
 ·obtain⟨o',e1⟩:=I.base.there b o e hx;exact free b o' (uC b o e hx) e1 (I.base.free b o e n hx)
 ·obtain⟨o',e1⟩:=I.base.there b o e hx;exact there b o' (uC b o e hx) e1
 ·obtain⟨m1,e1⟩:=I.base.lY b ps e;obtain⟨m2,e2⟩:=lY b _ e1;exact⟨m1++m2,by rw[e2,Array.append_assoc]⟩
 ·obtain⟨m,hn,hl⟩:=I.loc;refine⟨m,ns m hn,fun i x v e1 e2 e3=>?_⟩;obtain⟨u,r,l⟩:=hl i x v e1 e2 e3;refine⟨u,r,?_⟩;rcases l with l|⟨k,c,e,z⟩
  ·exact .inl l
  ·exact .inr ⟨k,c,e,cellK x c e _ z⟩
 ·obtain⟨v,z⟩:=I.cell x c e;exact⟨v,cellK x c e v z⟩
 ·obtain⟨m,⟨o,_,_,ho,_⟩,_⟩:=I.loc;exact free _ o (fun z=>(nX _ z).2.1 rfl) ho I.free
 ·obtain⟨v,o,ho,hd⟩:=I.cell x c e;exact free c o (fun z=>(nX c z).2.2.1 x c e rfl) ho (I.iA x c e)
 ·obtain⟨e,n,ne,nf,d⟩:=I.pin p hp;have Dz:p.1∉ch:=fun z=>(nX p.1 z).2.2.2 p hp rfl;exact⟨keep p.1 p.2 ne nf Dz e n,free p.1 p.2 Dz e n,ne,nf,d⟩
variable {s:Shared} in
theorem Inv.un(I:Inv X pins σ H s)(u:Un X.fs [] H H' s.heap h')(bx:gH X.prog X.w H' h'):Inv X pins σ H' {s with heap:=h',toks:=t'}:=by
 obtain⟨m,⟨o,es,ep,ho,r⟩,_⟩:=id I.loc;obtain⟨sl,hL⟩:=u.any ho I.free (by simp);exact I.step (g':=s.gens) (d':=s.drawn) (ch:=[]) (fun _ z=>nomatch z) (fun b o _ hb _ e n=>u.keep b o e n hb (by simp)) (fun b o _ hb _ e n=>u.slot b o e n hb (by simp)) (fun b o _ e n=>u.free b o e n (by simp)) (fun b o _ e=>u.there b o e (by simp)) u.lW u.k6 u.lY (fun m' hm=>by
  obtain⟨o',Ak,Es,nV,r'⟩:=hm;rw[ho]at nV;cases nV;exact⟨_,Ak,Es,hL,r'⟩) bx I.bare
variable {s:Shared} in
theorem Inv.call{g':Array GenState}{d':Drawn}(I:Inv X pins σ H s)(u:Un (jQ X.stack) ch H H' s.heap h')(bx:gH X.prog X.w H' h')(hg:AllBare g')(nX:∀b∈ch,(b∈X.ex\/X.aI.heap.objs.size<=b)/\b≠X.env.locals/\(∀x c,X.env.cells.lookup x=some c->c≠b)/\∀p∈X.pn++pins,p.1≠b):
  Inv X pins σ H' {s with heap:=h',gens:=g',drawn:=d',toks:=t'}:=by
 obtain⟨m,⟨o,es,ep,ho,r⟩,_⟩:=id I.loc;obtain⟨sl,hL⟩:=u.any ho I.free fun z=>(nX _ z).2.1 rfl;exact I.step (ch:=ch) nX (fun b o hL hb hc e n=>u.keep b o e n (fun z=>(mem_cons.mp (I.rB b z)).elim hL hb) hc) (fun b o _ _ hc e n=>u.any e n hc) (fun b o hc e n=>u.free b o e n hc) (fun b o hc e=>u.there b o e hc) u.lW u.k6 u.lY (fun m' hm=>by
  obtain⟨o',Ak,Es,nV,r'⟩:=hm;rw[ho]at nV;cases nV;exact⟨_,Ak,Es,hL,r'⟩) bx hg
variable {s:Shared} in
theorem Inv.turned{it:Addr}(I:Inv X pins σ H s)(k:∀b o,b≠it->s.heap.get? b=some o->h'.get? b=some o)(hn:H it=none)(hL:it≠X.env.locals)(h1:it∈X.ex\/X.aI.heap.objs.size<=it)(h2:∀x c,X.env.cells.lookup x=some c->c≠it)(h3:∀p∈X.pn++pins,p.1≠it):Inv X pins σ H {s with heap:=h',toks:=t'}:=by
 have Pk:∀b u,H b=some u->b≠it:=fun b u e z=>by rw[z,hn]at e;cases e
 refine I.step (g':=s.gens) (d':=s.drawn) (ch:=[it]) (fun b hb=>?_) (fun b o _ _ hc e _=>k b o (fun z=>hc (by simp[z])) e) (fun b o _ _ hc e _=>⟨o.slots,k b o (fun z=>hc (by simp[z])) e⟩) (fun _ _ _ _ n=>n)
  (fun b o hc e=>⟨o,k b o (fun z=>hc (by simp[z])) e⟩) (fun _ _ e=>e) (fun _ _ _ e=>e) (fun b ps e=>⟨#[],by rw[e];simp⟩) (fun m hm=>?_) (fun b u e=>?_) I.bare
 ·have e:b=it:=by simpa using hb
  subst e;exact⟨h1,hL,h2,h3⟩
 ·obtain⟨o,es,ep,ho,r⟩:=hm;exact⟨o,es,ep,k _ o (Ne.symm hL) ho,r⟩
 ·refine(I.bx b u e).lZ (fun c v hc q=>k c v ?_ q) (fun _ q=>q) fun _ _ q=>q;rcases hc with z|z
  ·rw[z];exact Pk b u e
  ·exact Pk c _ z
variable {s:Shared} in
theorem Inv.tok(I:Inv X pins σ H s)(t:Nat):Inv X pins σ H {s with toks:=t}:=I.un (h':=s.heap) (t':=t) Un.refl I.bx
variable {s:Shared} in
theorem Inv.kept(I:Inv X pins σ H s)(k:∀b u,s.heap.get? b=some u->h'.get? b=some u):Inv X pins σ H {s with heap:=h',toks:=t'}:=I.un (Un.kept k) (I.bx.kept k)
variable {s:Shared} in
theorem Inv.laid{o:HO}(I:Inv X pins σ H s)(k:∀b u,s.heap.get? b=some u->h'.get? b=some u)(hp:s.heap.objs.size<=a)(new:fK X.prog X.w (upd H a o) h' a o):
  Inv X pins σ (upd H a o) {s with heap:=h',toks:=t'}:=I.un (Un.laid k hp (I.bx.fresh hp)) (I.bx.laid k hp new)
variable {s:Shared} in
theorem Inv.write{o:HO}(I:Inv X pins σ H s)(mu:J3 (H x))(he:e=x\/H e=some (.own x))(k:∀b u,b≠e->s.heap.get? b=some u->h'.get? b=some u)(Ac:∃u,h'.get? e=some u)(new:fK X.prog X.w (upd H x o) h' x o):Inv X pins σ (upd H x o) {s with heap:=h',toks:=t'}:=I.un (Un.write mu he k Ac) (I.bx.write mu he k Ac new)
variable {s:Shared} in
theorem Inv.weak{bz:List (Option V)}(I:Inv X pins σ H s)(hl:bz.length=σ.length)(w:∀(i:Nat) v,bz[i]?=some (some v)->σ[i]?=some (some v)):Inv X pins bz H s:=
 ⟨I.ok,I.os,I.bare,I.base,let ⟨m,hn,sj⟩:=I.loc;⟨m,hn,fun i x v e1 e2 e3=>sj i x v e1 (w i v e2) e3⟩,I.cell,I.free,I.iA,I.pin,I.bx,hl.trans I.len⟩
variable {s:Shared} in
theorem Inv.iO{pins':List (Addr×Obj)}(I:Inv X pins σ H s)(h:∀p∈pins',s.heap.get? p.1=some p.2/\H p.1=none/\p.1≠X.env.locals/\p.1∉X.fs/\∀v,p.2.data≠.cell v):Inv X pins' σ H s:=
 ⟨I.ok,I.os,I.bare,I.base,I.loc,I.cell,I.free,I.iA,fun p hp=>(mem_append.mp hp).elim (fun z=>I.pin p (mem_append_left _ z)) (h p),I.bx,I.len⟩
variable {N:List Str} {i:Nat} {x:Str}
theorem wV(hN:N.Nodup){j:Nat}(a:N[i]?=some x)(b:N[j]?=some x):i=j:=by
 obtain⟨h1,e1⟩:=List.getElem?_eq_some_iff.mp a;obtain⟨h2,e2⟩:=List.getElem?_eq_some_iff.mp b;exact(List.getElem_inj hN).mp (e1.trans e2.symm)
variable {M:Model} {A:Around} {E:Value->Shared->Prop} {v:V} {u:Value}
variable {s:Shared} in
theorem ur{Q:Unit->Shared->Prop}(I:Inv X pins σ H s)(hN:X.N.Nodup)(hi:X.N[i]?=some x)(hx:Loc X.env.scope x)(r:RelV v u)(h:∀s',Inv X pins (σ.set i (some v)) H s'->(∃a,SameBut a s.heap s'.heap/\(a=X.env.locals\/X.env.cells.lookup x=some a))->Q () s')(hf:X.fn x=true\/X.env.scope.names.lookup x=some .local:=by first|exact .inl rfl|exact .inr rfl|assumption):wpAny M A (storeName X.env x u) Q E s:=by
 obtain⟨m,hn,hl⟩:=id I.loc;have RV:(X.env.scope.kind == .class || (X.env.scope.kind == .module&&X.env.locals !=X.env.globals))=false:=by rw[I.ok.kind];rfl
 have ME:i<σ.length:=by rw[I.len];exact(List.getElem?_eq_some_iff.mp hi).1
 have yf:=I.yf;have tracked:∀{a:Addr} {h':Heap},(∃o,s.heap.get? a=some o/\H a=none)->SameBut a s.heap h'->gH X.prog X.w H h':=fun{a h'} ha hs b ob e=>by
  obtain⟨_,_,Iw⟩:=ha;refine(I.bx b ob e).lZ (fun c w' hc q=>(hs.2 c ?_).trans q) (fun _ q=>q) fun _ _ q=>q;rintro rfl;rcases hc with rfl|hc
  ·rw[Iw]at e;cases e
  ·rw[Iw]at hc;cases hc
 rcases hx with hk|hk
 ·refine wpAny_storeName_local hk hn (fun h' kf hs=>?_) RV;obtain⟨oL,_,_,Tb,_⟩:=id hn;refine h _ ⟨I.ok,I.os,I.bare,⟨fun b o e n hb hx=>?_,fun b o e n hb hx=>?_,I.base.free,fun b o e hx=>?_,I.base.lW,I.base.k6,I.base.lY⟩,⟨_,kf,fun j y v' e1 e2 e3=>?_⟩,fun y c e=>?_,I.free,I.iA,fun p hp=>?_,tracked ⟨oL,Tb,I.free⟩ hs,by simpa using I.len⟩ ⟨_,hs,.inl rfl⟩
  ·exact(hs.2 b (ne_of_lt (lt_of_lt_of_le (lt_size e) I.ok.above))).trans (I.base.keep b o e n hb hx)
  ·obtain⟨sl,e1⟩:=I.base.slot b o e n hb hx;exact⟨sl,(hs.2 b (ne_of_lt (lt_of_lt_of_le (lt_size e) I.ok.above))).trans e1⟩
  ·obtain⟨o',e1⟩:=I.base.there b o e hx;exact⟨o',(hs.2 b (ne_of_lt (lt_of_lt_of_le (lt_size e) I.ok.above))).trans e1⟩
  ·by_cases hj:j=i
   ·subst hj;rw[hi]at e1;cases e1;rw[getElem?_set_self ME]at e2;cases e2;exact⟨u,r,.inl ⟨hk,by simp⟩⟩
   ·rw[getElem?_set_ne (Ne.symm hj)]at e2;obtain⟨u',r',q⟩:=hl j y v' e1 e2 e3;refine⟨u',r',?_⟩;rcases q with⟨k,e⟩|⟨k,c,e,z⟩
    ·refine .inl ⟨k,?_⟩;have:y≠x:=fun e=>hj (wV hN e1 (e▸hi));simp[this,e]
    ·exact .inr ⟨k,c,e,z.sameBut hs (yf y c e)⟩
  ·obtain⟨w',z⟩:=I.cell y c e;exact⟨w',z.sameBut hs (yf y c e)⟩
  ·obtain⟨e,n,ne,nf,d⟩:=I.pin p hp;exact⟨(hs.2 p.1 ne).trans e,n,ne,nf,d⟩
 ·have sk:X.fn x=true:=by
   rcases hf with z|z
   ·exact z
   ·rw[z]at hk;cases hk
  obtain⟨c,hc⟩:=I.ok.has x (.inl hk);obtain⟨w',z⟩:=I.cell x c hc;refine wpAny_storeName_cell I.ok.kind hk hc z (fun h' fI hs=>?_);obtain⟨oc,PL,RP⟩:=id z;refine h {s with heap:=h'} ⟨I.ok,I.os,I.bare,⟨fun b o e n hb hx=>?_,fun b o e n hb hx=>?_,I.base.free,fun b o e hx=>?_,I.base.lW,I.base.k6,I.base.lY⟩,⟨m,hn.sameBut hs (Ne.symm (yf x c hc)),fun j y v' e1 e2 e3=>?_⟩,fun y c' e=>?_,I.free,I.iA,fun p hp=>?_,tracked ⟨oc,PL,I.iA x c hc⟩ hs,by simpa using I.len⟩ ⟨c,hs,.inr hc⟩
  ·exact(hs.2 b (ne_of_lt (lt_of_lt_of_le (lt_size e) (I.ok.EU x c sk hc)))).trans (I.base.keep b o e n hb hx)
  ·obtain⟨sl,e1⟩:=I.base.slot b o e n hb hx;exact⟨sl,(hs.2 b (ne_of_lt (lt_of_lt_of_le (lt_size e) (I.ok.EU x c sk hc)))).trans e1⟩
  ·obtain⟨o',e1⟩:=I.base.there b o e hx;exact⟨o',(hs.2 b (ne_of_lt (lt_of_lt_of_le (lt_size e) (I.ok.EU x c sk hc)))).trans e1⟩
  ·by_cases hj:j=i
   ·subst hj;rw[hi]at e1;cases e1;rw[getElem?_set_self ME]at e2;cases e2;exact⟨u,r,.inr ⟨.inl hk,c,hc,fI⟩⟩
   ·rw[getElem?_set_ne (Ne.symm hj)]at e2;obtain⟨u',r',q⟩:=hl j y v' e1 e2 e3;refine⟨u',r',?_⟩;rcases q with q|⟨k,c',e,z'⟩
    ·exact .inl q
    ·refine .inr ⟨k,c',e,z'.sameBut hs ?_⟩;rintro rfl;exact hj (wV hN e1 (I.ok.inj _ _ _ e hc▸hi))
  ·by_cases E9:c'=c
   ·subst E9;exact⟨_,fI⟩
   ·obtain⟨w2,z2⟩:=I.cell y c' e;exact⟨w2,z2.sameBut hs E9⟩
  ·obtain⟨e,n,ne,nf,d⟩:=I.pin p hp;refine⟨(hs.2 p.1 ?_).trans e,n,ne,nf,d⟩;intro q;rw[q,PL]at e;have q':oc=p.2:=Option.some.inj e;exact d w' (by rw[<- q'];exact RP)
variable {s:Shared} in
theorem mZ{Q:Unit->Shared->Prop}(I:Inv X pins σ H s)(hN:X.N.Nodup)(hi:X.N[i]?=some x)(hx:Loc X.env.scope x)(r:RelV v u)(h:∀s',Inv X pins (σ.set i (some v)) H s'->Q () s')(hf:X.fn x=true\/X.env.scope.names.lookup x=some .local:=by first|exact .inl rfl|exact .inr rfl|assumption):wpAny M A (storeName X.env x u) Q E s:=
 ur I hN hi hx r (fun s' I' _=>h s' I') hf
variable {s':Shared}
variable {s:Shared} in
theorem Inv.IU(I:Inv X pins σ H s)(ho:s'.os=s.os)(u:Un (jQ X.stack) ch H H' s.heap s'.heap)(bx:gH X.prog X.w H' s'.heap)(hg:AllBare s'.gens)(nX:∀b∈ch,(b∈X.ex\/X.aI.heap.objs.size<=b)/\b≠X.env.locals/\(∀x c,X.env.cells.lookup x=some c->c≠b)/\∀p∈X.pn++pins,p.1≠b):Inv X pins σ H' s':=by
 obtain⟨h',g',d',t',o'⟩:=s';have e:o'=s.os:=ho;subst e;exact I.call (g':=g') (t':=t') (d':=d') u bx hg nX
abbrev XK:=Value->Option Addr->Hp->Prop
abbrev St:=List (Option V)
abbrev VK:=V->Hp->Prop
abbrev TE:=St->Hp->VK->Prop
abbrev TT:=St->Hp->(Bool->Hp->Prop)->Prop
abbrev TA:=St->Hp->(List V->Hp->Prop)->Prop
structure Ends where
 nx:St->Hp->Prop
 rt:VK
 bk:St->Hp->Prop:=fun _ _=>False
 ct:St->Hp->Prop:=fun _ _=>False
abbrev TS:=Ends->St->Hp->Prop
def EP (X:Cx) (pins:List (Addr×Obj)) (σ:St) (Q:VK) (u:Value) (s':Shared):Prop:=∃v H',Inv X pins σ H' s'/\RelV v u/\Q v H'
def TP (X:Cx) (pins:List (Addr×Obj)) (σ:St) (Q:Bool->Hp->Prop) (b:Bool) (s':Shared):Prop:=∃H',Inv X pins σ H' s'/\Q b H'
def AP (X:Cx) (pins:List (Addr×Obj)) (σ:St) (Q:List V->Hp->Prop) (us:List Value) (s':Shared):Prop:=∃vs H',Inv X pins σ H' s'/\Vals vs us/\Q vs H'
def SP (X:Cx) (pins:List (Addr×Obj)) (D:Ends) (f:Flow) (s':Shared):Prop:=
 match f with
 | .next=>∃bz H',Inv X pins bz H' s'/\D.nx bz H'
 | .brk=>∃bz H',Inv X pins bz H' s'/\D.bk bz H'
 | .cont=>∃bz H',Inv X pins bz H' s'/\D.ct bz H'
 | .ret u=>∃v bz H',Inv X pins bz H' s'/\RelV v u/\D.rt v H'
def PE (X:Cx) (e:Expr) (t:TE):Prop:=
 ∀(pins:List (Addr×Obj)) (s:Shared) (σ:St) (H:Hp) (Q:VK),Inv X pins σ H s->t σ H Q->wpAny (model X.prog X.w) X.A (eval e X.env) (EP X pins σ Q) X.xe s
def PT (X:Cx) (e:Expr) (t:TT):Prop:=
 ∀(pins:List (Addr×Obj)) (s:Shared) (σ:St) (H:Hp) (Q:Bool->Hp->Prop),Inv X pins σ H s->t σ H Q->wpAny (model X.prog X.w) X.A (isTrue e X.env (eval e X.env)) (TP X pins σ Q) X.xe s
def PW (X:Cx) (e:Expr) (t:TT):Prop:=
 ∀(whole:Sem Value) (pins:List (Addr×Obj)) (s:Shared) (σ:St) (H:Hp) (Q:Bool->Hp->Prop),Inv X pins σ H s->t σ H Q->wpAny (model X.prog X.w) X.A (isTrue e X.env whole) (TP X pins σ Q) X.xe s
variable {e:Expr}
theorem PW.pt{t:TT}(h:PW X e t):PT X e t:=h _
def PA (X:Cx) (es:List Expr) (t:TA):Prop:=
 ∀(pos:Pos) (pins:List (Addr×Obj)) (s:Shared) (σ:St) (H:Hp) (Q:List V->Hp->Prop),Inv X pins σ H s->t σ H Q->wpAny (model X.prog X.w) X.A (spliced (backTo pos (starEach es X.env))) (AP X pins σ Q) X.xe s
def PS (X:Cx) (st:Stmt) (t:TS):Prop:=
 ∀(pins:List (Addr×Obj)) (s:Shared) (σ:St) (H:Hp) (D:Ends),Inv X pins σ H s->t D σ H->wpAny (model X.prog X.w) X.A (exec st X.env) (SP X pins D) X.xe s
def jX (X:Cx) (st:List Stmt) (t:TS):Prop:=
 ∀(pins:List (Addr×Obj)) (s:Shared) (σ:St) (H:Hp) (D:Ends),Inv X pins σ H s->t D σ H->wpAny (model X.prog X.w) X.A (execs st X.env) (SP X pins D) X.xe s
variable {α:Type}
theorem bX{t:Sem α}{Q Q':α->Shared->Prop}{s:Shared}(h:wpAny M A t Q E s)(hQ:∀a s,Q a s->Q' a s):wpAny M A t Q' E s:=wpAny_mono h hQ fun _ _ x=>x
open PySem PySem.Spec PyProof.Rows
def Rb (i:Nat):TE:=fun σ H Q=>∃v,σ[i]?=some (some v)/\Q v H
def tC (v:V):TE:=fun _ H Q=>Q v H
variable {pos:Pos}
theorem mH(hN:X.N[i]?=some x)(hv:mU X.env.scope x)(hd:(x==("__debug__" : Str))=false:=by decide)(gD:(x==("__classdict__" : Str))=false:=by decide):PE X (.Name x pos) (Rb i):=by
 intro pins s σ H Q I h;obtain⟨v,e,h⟩:=h;obtain⟨m,hn,hl⟩:=I.loc;obtain⟨u,r,l⟩:=hl i x v hN e hv;have fin:EP X pins σ Q u s:=⟨v,H,I,r,h⟩;rcases l with⟨hk,hm⟩|⟨hk,c,hc,IB⟩
 ·exact wpAny_Name (wpAny_loadName_local I.ok.kind hk hn hm fin) hd
 ·rcases hk with hk|hk
  ·exact wpAny_Name (wpAny_loadName_cell I.ok.kind hk hc IB fin) hd
  ·exact wpAny_Name (wpAny_loadName_free I.ok.kind hk hc IB fin gD) hd
theorem Dk{i j pos}:PE X (.Constant (.int i) j pos) (tC (.int i)):=fun _ _ _ H _ I h=>wpAny_Constant_int ⟨.int i,H,I.tok _,⟨_,rfl⟩,h⟩
theorem Oj{b j pos}:PE X (.Constant (.bool b) j pos) (tC (.bl b)):=fun _ _ _ H _ I h=>Constant_bool ⟨.bl b,H,I,rfl,h⟩
theorem LM{j pos}:PE X (.Constant .none j pos) (tC .bI):=fun _ _ _ H _ I h=>Constant_none ⟨.bI,H,I,rfl,h⟩
theorem LJ{x j pos}:PE X (.Constant (.str x) j pos) (tC (.str x)):=fun _ _ _ H _ I h=>Calls.Constant_str ⟨.str x,H,I.tok _,⟨_,rfl⟩,h⟩
def Gl (X:Cx) (x:Str):Prop:=X.env.kindOf x=some .globalImplicit
theorem A5{s:Shared}{σ:St}{Q:Value->Shared->Prop}(I:Inv X pins σ H s)(hg:Gl X x)(hm:X.mg x=some u)(h:Q u s)(hd:(x==("__debug__" : Str))=false:=by decide):wpAny (model X.prog X.w) X.A (eval (.Name x pos) X.env) Q E s:=
 Calls.Name_function_global I.ok.kind hg (Calls.loadGlobal_global (by rw[I.ok.glob];exact I.mod.glob.keeps I.bk) hm h) hd
theorem mK{s:Shared}{σ:St}{Q:Value->Shared->Prop}(I:Inv X pins σ H s)(hg:Gl X x)(hm:X.mg x=none)(hv:bootBuiltins x=some u)(h:Q u s)(hn:x≠"__name__":=by decide)(hd:(x==("__debug__" : Str))=false:=by decide):wpAny (model X.prog X.w) X.A (eval (.Name x pos) X.env) Q E s:=by
 obtain⟨mb,h1,h2⟩:=I.mod.blt;exact Calls.Name_function_global I.ok.kind hg (Calls.loadGlobal_builtin (by rw[I.ok.glob];exact I.mod.glob.keeps I.bk) hm (by rw[I.ok.blt];exact h1.keeps I.bk) ((h2 x hn).trans hv) h) hd
theorem JL(hg:Gl X x)(hm:X.mg x=some u)(r:RelV v u)(hd:(x==("__debug__" : Str))=false:=by decide):PE X (.Name x pos) (tC v):=
 fun _ _ _ H _ I h=>A5 I hg hm ⟨v,H,I,r,h⟩ hd
theorem JN(hg:Gl X x)(hm:X.mg x=none)(hv:bootBuiltins x=some u)(r:RelV v u)(hn:x≠"__name__":=by decide)(hd:(x==("__debug__" : Str))=false:=by decide):PE X (.Name x pos) (tC v):=
 fun _ _ _ H _ I h=>mK I hg hm hv ⟨v,H,I,r,h⟩ hn hd
def Ro (t u:TT):TT:=fun σ H Q=>t σ H fun c H1=>if c=true then u σ H1 Q else Q false H1
def Sz (t u:TT):TT:=fun σ H Q=>t σ H fun c H1=>if c=true then Q true H1 else u σ H1 Q
def Rj (t:TT):TT:=fun σ H Q=>t σ H fun c H1=>Q (!c) H1
variable {a:Expr} {tA:TT}
theorem zI(ha:PT X a tA):PW X (.BoolOp .And [a] pos) tA:=by
 intro wh pins s σ H Q I h;refine isTrue_and (bX (ha pins s σ H Q I h) fun c s1 e=>?_);cases c with
 |true=>exact isTrue_and_nil e
 |false=>exact e
theorem LC(ha:PT X a tA):PW X (.BoolOp .Or [a] pos) tA:=by
 intro wh pins s σ H Q I h;refine isTrue_or (bX (ha pins s σ H Q I h) fun c s1 e=>?_);cases c with
 |false=>exact isTrue_or_nil e
 |true=>exact e
variable {b:Expr} {HL:TT}
variable {rest:List Expr} in
theorem De(ha:PT X a tA)(hb:PW X (.BoolOp .And (b::rest) pos) HL):PW X (.BoolOp .And (a::b::rest) pos) (Ro tA HL):=by
 intro wh pins s σ H Q I h;refine isTrue_and (bX (ha pins s σ H _ I h) fun c s1 ⟨H1,I1,q1⟩=>?_);cases c with
 |true=>exact hb wh pins s1 σ H1 Q I1 q1
 |false=>exact⟨H1,I1,q1⟩
variable {rest:List Expr} in
theorem Oe(ha:PT X a tA)(hb:PW X (.BoolOp .Or (b::rest) pos) HL):PW X (.BoolOp .Or (a::b::rest) pos) (Sz tA HL):=by
 intro wh pins s σ H Q I h;refine isTrue_or (bX (ha pins s σ H _ I h) fun c s1 ⟨H1,I1,q1⟩=>?_);cases c with
 |true=>exact⟨H1,I1,q1⟩
 |false=>exact hb wh pins s1 σ H1 Q I1 q1
theorem LF(ha:PT X a tA):PT X (.UnaryOp .Not a pos) (Rj tA):=by
 intro pins s σ H Q I h;exact isTrue_not (ha pins s σ H (fun c H1=>Q (!c) H1) I h)
variable {tb ta:TE}
def O8 (ta tb:TE):TE:=fun σ H Q=>ta σ H fun x H1=>∃c,x=.bl c/\if c=true then tb σ H1 Q else Q (.bl false) H1
def Ri (ta tb:TE):TE:=fun σ H Q=>ta σ H fun x H1=>∃c,x=.bl c/\if c=true then Q (.bl true) H1 else tb σ H1 Q
def O1 (ta:TE):TE:=fun σ H Q=>ta σ H fun x H1=>∃c,x=.bl c/\Q (.bl (!c)) H1
theorem LK{op}{t:TE}(h:PE X a t):PE X (.BoolOp op [a] pos) t:=fun pins s σ H Q I hw=>BoolOp_one (h pins s σ H Q I hw)
variable {rest:List Expr} in
theorem LN(ha:PE X a ta)(hb:PE X (.BoolOp .And (b::rest) pos) tb):PE X (.BoolOp .And (a::b::rest) pos) (O8 ta tb):=by
 intro pins s σ H Q I h;refine BoolOp_and (bX (ha pins s σ H _ I h) fun v s1 ⟨x,H1,I1,r1,q1⟩=>?_);obtain⟨c,rfl,q1⟩:=q1;cases r1;refine wpAny_truthy_bool ?_;cases c with
 |true=>exact hb pins s1 σ H1 Q I1 q1
 |false=>exact⟨.bl false,H1,I1,rfl,q1⟩
variable {rest:List Expr} in
theorem Oh(ha:PE X a ta)(hb:PE X (.BoolOp .Or (b::rest) pos) tb):PE X (.BoolOp .Or (a::b::rest) pos) (Ri ta tb):=by
 intro pins s σ H Q I h;refine BoolOp_or (bX (ha pins s σ H _ I h) fun v s1 ⟨x,H1,I1,r1,q1⟩=>?_);obtain⟨c,rfl,q1⟩:=q1;cases r1;refine wpAny_truthy_bool ?_;cases c with
 |false=>exact hb pins s1 σ H1 Q I1 q1
 |true=>exact⟨.bl true,H1,I1,rfl,q1⟩
theorem LL(ha:PE X a ta):PE X (.UnaryOp .Not a pos) (O1 ta):=by
 intro pins s σ H Q I h;refine UnaryOp_ (bX (ha pins s σ H _ I h) fun v s1 ⟨x,H1,I1,r1,q1⟩=>?_);obtain⟨c,rfl,q1⟩:=q1;cases r1;exact not_of (wpAny_truthy_bool ⟨.bl (!c),H1,I1,rfl,q1⟩)
def SA (t:TT) (ta tb:TE):TE:=fun σ H Q=>t σ H fun c H1=>if c=true then ta σ H1 Q else tb σ H1 Q
variable {c:Expr}
theorem FY(hc:PT X c tA)(ha:PE X a ta)(hb:PE X b tb):PE X (.IfExp c a b pos) (SA tA ta tb):=by
 intro pins s σ H Q I h;refine wpAny_IfExp (bX (hc pins s σ H _ I h) fun d s1 ⟨H1,I1,q1⟩=>?_);cases d with
 |true=>exact ha pins s1 σ H1 Q I1 q1
 |false=>exact hb pins s1 σ H1 Q I1 q1
open PySem PySem.Spec PyProof.Rows
def eC (K:Frag) (H:Hp) (a:Addr) (xs:List V):Prop:=
 Rd H a (.lst xs)\/
  ∃(o:Obj) (aq:Array Value) (n:Nat),K.lookup a=some o/\o.cls=.type "list"/\o.dict=none/\o.data=.seq aq n/\aq.size<=sizeLine/\Vals xs aq.toList
def i7 (K:Frag) (H:Hp) (a:Addr) (xs:List V):Prop:=
 Rd H a (.tup xs)\/
  ∃(o:Obj) (aq:Array Value) (n:Nat),K.lookup a=some o/\o.cls=.type "tuple"/\o.data=.seq aq n/\aq.size<=sizeLine/\Vals xs aq.toList
def Si:Value->Option V
 | .none=>some .bI
 | .bool b=>some (.bl b)
 | .int i _=>some (.int i)
 | .str x _=>some (.str x)
 | .bytes b _=>some (.lz b)
 | .float b _=>some (.MQ b)
 | .ref a=>some (.ref a)
 | .type n=>some (.ty n)
 |_=>none
theorem RelV.abs{x:V}(r:RelV x u):Si u=some x:=by
 cases x with
 |bI=>cases r;rfl
 |bl _=>cases r;rfl
 |int _=>obtain⟨t,rfl⟩:=r;rfl
 |str _=>obtain⟨t,rfl⟩:=r;rfl
 |lz _=>obtain⟨t,rfl⟩:=r;rfl
 |MQ _=>obtain⟨t,rfl⟩:=r;rfl
 |ref _=>cases r;rfl
 |ty _=>cases r;rfl
theorem RelV.inj{x y:V}(r:RelV x u)(q:RelV y u):x=y:=Option.some.inj (r.abs.symm.trans q.abs)
theorem Vals.inj:∀{xs ys:List V} {us:List Value},Vals xs us->Vals ys us->xs=ys
 |_,_,_,.nil,.nil=>rfl
 |_,_,_,.cons r t,.cons r' t'=>by rw[r.inj r',Vals.inj t t']
variable {a:Addr} {K:Frag}
theorem eC.of(h:H a=some (.lst xs)):eC K H a xs:=.inl (.inl h)
variable {σ:St}
variable {s:Shared} in
theorem Inv.list(I:Inv X pins σ H s)(h:eC X.K H a xs):∃aq:List Value,Vals xs aq/\PlainL s.heap a aq.toArray/\xs.length<=sizeLine:=by
 rcases h with h|⟨o,aq,n,hk,hc,hd,hs,hz,r⟩
 ·obtain⟨z,aq,n,r,e⟩:=h.ok I.bx;exact⟨aq,r,⟨_,n,e,rfl,rfl,rfl⟩,z⟩
 ·refine⟨aq.toList,r,⟨o,n,I.nU a o hk,hc,hd,by simpa using hs⟩,?_⟩;have e:=r.length;simp only[length_toList]at e;omega
variable {s:Shared} in
theorem Inv.tuple(I:Inv X pins σ H s)(h:i7 X.K H a xs):∃aq:List Value,Vals xs aq/\IsTup s.heap a aq.toArray/\xs.length<=sizeLine:=by
 rcases h with h|⟨o,aq,n,hk,hc,hs,hz,r⟩
 ·obtain⟨z,aq,r,p⟩:=h.ok I.bx;exact⟨aq,r,p,z⟩
 ·refine⟨aq.toList,r,⟨o,I.nU a o hk,hc,n,by simpa using hs⟩,?_⟩;have e:=r.length;simp only[length_toList]at e;omega
variable {ys:List V}
variable {s:Shared} in
theorem Inv.qP(I:Inv X pins σ H s)(h:eC X.K H a xs)(h':eC X.K H a ys):xs=ys:=by
 obtain⟨aq,r,⟨o,n,e,_,_,d⟩,_⟩:=I.list h;obtain⟨its',r',⟨o',n',e',_,_,d'⟩,_⟩:=I.list h';rw[e]at e';cases e';rw[d]at d';injection d' with d1 _;have:aq=its':=by simpa using congrArg toList d1
 subst this;exact r.inj r'
variable {s:Shared} in
theorem Inv.uk(I:Inv X pins σ H s)(h:i7 X.K H a xs)(h':i7 X.K H a ys):xs=ys:=by
 obtain⟨aq,r,⟨o,e,_,n,d⟩,_⟩:=I.tuple h;obtain⟨its',r',⟨o',e',_,n',d'⟩,_⟩:=I.tuple h';rw[e]at e';cases e';rw[d]at d';injection d' with d1 _;have:aq=its':=by simpa using congrArg toList d1
 subst this;exact r.inj r'
abbrev Cx.lV (X:Cx) (E:Value->Shared->Prop):Cx:={X with xe:=E}
abbrev Cx.jP (X:Cx):Cx:=X.lV fun _ _=>False
theorem Cx.Ok.lV(ok:X.Ok)(E:Value->Shared->Prop):(X.lV E).Ok:=
 ⟨ok.mod,ok.kind,ok.glob,ok.blt,ok.above,ok.inj,ok.has,ok.EU,ok.hd,ok.frames,ok.HN,ok.Aj,ok.bs,ok.v7,ok.tG,ok.tQ,ok.lu,ok.Ah⟩
theorem Cx.Ok.jK(ok:(X.lV E).Ok):X.Ok:=
 ⟨ok.mod,ok.kind,ok.glob,ok.blt,ok.above,ok.inj,ok.has,ok.EU,ok.hd,ok.frames,ok.HN,ok.Aj,ok.bs,ok.v7,ok.tG,ok.tQ,ok.lu,ok.Ah⟩
variable {s:Shared} in
theorem Inv.lV(I:Inv X pins σ H s)(E:Value->Shared->Prop):Inv (X.lV E) pins σ H s:=⟨I.ok.lV E,I.os,I.bare,I.base,I.loc,I.cell,I.free,I.iA,I.pin,I.bx,I.len⟩
variable {s:Shared} in
theorem Inv.jK(I:Inv (X.lV E) pins σ H s):Inv X pins σ H s:=⟨I.ok.jK,I.os,I.bare,I.base,I.loc,I.cell,I.free,I.iA,I.pin,I.bx,I.len⟩
variable {D:Ends}
theorem SP.jK{f:Flow}(h:SP (X.lV E) pins D f s'):SP X pins D f s':=by
 cases f with
 |next=>obtain⟨bz,H',I,q⟩:=h;exact⟨bz,H',I.jK,q⟩
 |brk=>obtain⟨bz,H',I,q⟩:=h;exact⟨bz,H',I.jK,q⟩
 |cont=>obtain⟨bz,H',I,q⟩:=h;exact⟨bz,H',I.jK,q⟩
 |ret u=>obtain⟨v,bz,H',I,r,q⟩:=h;exact⟨v,bz,H',I.jK,r,q⟩
variable {t:TS}
theorem jX.jP{st:List Stmt}(h:jX X.jP st t):jX X st t:=fun pins s σ H D I hw=>
 wpAny_mono (h pins s σ H D (I.lV _) hw) (fun _ _ q=>q.jK) fun _ _ z=>False.elim z
def O3:TS:=fun D σ H=>D.nx σ H
variable {u:TS}
def Rf (t u:TS):TS:=fun D σ H=>t {D with nx:=u D} σ H
theorem zL:jX X [] O3:=fun _ _ σ H _ I h=>wpAny_execs_nil ⟨σ,H,I,h⟩
variable {st:Stmt}
variable {rest:List Stmt} in
theorem wC(h1:PS X st t)(h2:jX X rest u):jX X (st::rest) (Rf t u):=by
 intro pins s σ H D I h;refine wpAny_execs_cons (bX (h1 pins s σ H {D with nx:=u D} I h) fun f s1 q=>?_);cases f with
 |next=>
  obtain⟨bz,H',I',q⟩:=q;exact h2 pins s1 bz H' D I' q
 |ret v=>exact q
 |brk=>exact q
 |cont=>exact q
theorem tB(h1:PS X st t):jX X [st] t:=by
 intro pins s σ H D I h;refine wpAny_execs_cons (bX (h1 pins s σ H D I h) fun f s1 q=>?_);cases f with
 |next=>exact wpAny_execs_nil q
 |ret v=>exact q
 |brk=>exact q
 |cont=>exact q
theorem Inv.quiet{σ:St}{s:Shared}(I:Inv X pins σ H s):interactive X.env=false:=by simp[interactive,I.ok.kind]
variable {te:TE}
def O6 (te:TE):TS:=fun D σ H=>te σ H fun _ H1=>D.nx σ H1
theorem JD(he:PE X e te)(hs:swapsWith e none pos.line X.env=pure false:=by rfl):PS X (.Expr e pos) (O6 te):=by
 intro pins s σ H D I h;exact wpAny_Expr_any (bX (he pins s σ H _ I h) fun v s1 ⟨x,H1,I1,r1,q1⟩=>⟨σ,H1,I1,q1⟩) I.quiet hs
def Rg (te:TE):TS:=fun D σ H=>te σ H D.rt
theorem oI(he:PE X e te):PS X (.Return (some e) pos) (Rg te):=by
 intro pins s σ H D I h;exact wpAny_Return_some (bX (he pins s σ H _ I h) fun v s1 ⟨x,H1,I1,r1,q1⟩=>⟨x,σ,H1,I1,r1,q1⟩)
def Rm (c:TT) (t u:TS):TS:=fun D σ H=>c σ H fun b H1=>if b=true then t D σ H1 else u D σ H1
theorem Bc{a b:List Stmt}{tc:TT}(hc:PT X c tc)(ha:jX X a t)(hb:jX X b u):PS X (.If c a b pos) (Rm tc t u):=by
 intro pins s σ H D I h;refine wpAny_If (bX (hc pins s σ H _ I h) fun d s1 ⟨H1,I1,q1⟩=>?_);cases d with
 |true=>exact ha pins s1 σ H1 D I1 q1
 |false=>exact hb pins s1 σ H1 D I1 q1
abbrev TG:=V->St->Hp->(St->Hp->Prop)->Prop
abbrev qz:=List V->St->Hp->(St->Hp->Prop)->Prop
def PG (X:Cx) (target:Expr) (t:TG):Prop:=
 ∀(pins:List (Addr×Obj)) (s:Shared) (σ:St) (H:Hp) (v:V) (u:Value) (Q:St->Hp->Prop),Inv X pins σ H s->RelV v u->t v σ H Q->
  wpAny (model X.prog X.w) X.A (assign target X.env u) (fun _ s'=>∃bz H',Inv X pins bz H' s'/\Q bz H') X.xe s
def yz (X:Cx) (ts:List Expr) (t:qz):Prop:=
 ∀(pins:List (Addr×Obj)) (s:Shared) (σ:St) (H:Hp) (vs:List V) (us:List Value) (Q:St->Hp->Prop),Inv X pins σ H s->Vals vs us->t vs σ H Q->
  wpAny (model X.prog X.w) X.A (assignInOrder ((assignEach ts X.env).map (·.2)) us) (fun _ s'=>∃bz H',Inv X pins bz H' s'/\Q bz H') X.xe s
abbrev Ce:=V->V->V->Hp->(Hp->Prop)->Prop
def Hk (X:Cx) (t:Ce):Prop:=
 ∀(pins:List (Addr×Obj)) (s:Shared) (σ:St) (H:Hp) (o i v:V) (ov iv u:Value) (Q:Hp->Prop),Inv X pins σ H s->RelV o ov->RelV i iv->RelV v u->t o i v H Q->
  wpAny (model X.prog X.w) X.A (setItem ov iv u) (fun _ s'=>∃H',Inv X pins σ H' s'/\Q H') X.xe s
def BL (i:Nat):TG:=fun v σ H Q=>Q (σ.set i (some v)) H
theorem zO(hN:X.N.Nodup)(hi:X.N[i]?=some x)(hx:Loc X.env.scope x)(hf:X.fn x=true\/X.env.scope.names.lookup x=some .local:=by first|exact .inl rfl|exact .inr rfl|assumption):PG X (.Name x pos) (BL i):=by
 intro pins s σ H v u Q I r h;exact wpAny_assign_Name (mZ I hN hi hx r (fun s' I'=>⟨_,H,I',h⟩) hf)
def S3:qz:=fun vs σ H Q=>vs=[]/\Q σ H
def OG (t:TG) (u:qz):qz:=fun vs σ H Q=>∃v r,vs=v::r/\t v σ H fun bz H'=>u r bz H' Q
theorem JH:yz X [] S3:=by
 intro pins s σ H vs us Q I r h;obtain⟨e,h⟩:=h;subst e;cases r;exact assignInOrder_nil ⟨σ,H,I,h⟩
variable {es:List Expr}
theorem FV{t:TG}{u:qz}(h1:PG X e t)(h2:yz X es u)(hs:(assignEach (e::es) X.env).map (·.2)=assign e X.env::(assignEach es X.env).map (·.2):=by rfl):yz X (e::es) (OG t u):=by
 intro pins s σ H vs us Q I r h;obtain⟨v,vr,e1,h⟩:=h;subst e1;cases r with
 |cons r rr=>
  rw[hs];refine assignInOrder_cons (bX (h1 pins s σ H _ _ _ I r h) fun _ s1 ⟨ze,H1,I1,q1⟩=>?_);exact h2 pins s1 ze H1 _ _ Q I1 rr q1
def S1 (K:Frag) (n:Nat) (t:qz):TG:=fun v σ H Q=>∃a xs,v=.ref a/\i7 K H a xs/\xs.length=n/\t xs σ H Q
theorem LI{k:Nat}{t:qz}{n:Nat}(hc:X.calm=true)(h:yz X es t)(hn:(assignEach es X.env).length=n:=by rfl)(hst:(assignEach es X.env).findIdx? (·.1)=none:=by rfl):PG X (.Tuple es k pos) (S1 X.K n t):=by
 intro pins s σ H v u Q I r hw;obtain⟨a,xs,e1,hq,hl,hw⟩:=hw;subst e1;cases r;obtain⟨aq,rv,ht,hz⟩:=I.tuple hq;refine assign_Tuple_tuple (I.ok.hd hc) ht (by simp[hn,<- hl,rv.length]) hst fun h' hx=>?_;have I1:Inv X pins σ H {s with heap:=h'}:=I.kept (t':=s.toks) fun b o e=>hx b o (ne_of_lt (lt_size e)) e;exact h pins _ σ H xs _ Q I1 (by simpa using rv) hw
def S2 (to ti:TE) (t:Ce):TG:=fun v σ H Q=>to σ H fun o H1=>ti σ H1 fun i H2=>t o i v H2 fun H3=>Q σ H3
theorem Dh{o i:Expr}{to ti:TE}{t:Ce}(ho:PE X o to)(hi:PE X i ti)(hs:Hk X t)(ha:∀v,assign (.Subscript o i pos) X.env v=(do
   let ov <- holding [v] (eval o X.env);let iv <- holding [v,ov] (eval i X.env);standAt pos
   holding [v,ov,iv] (setItem ov iv v)
   release [v,ov,iv] []):=by intro _;rfl):PG X (.Subscript o i pos) (S2 to ti t):=by
 intro pins s σ H v u Q I r h;rw[ha];refine wpAny_bind (wpAny_holding (bX (ho pins s σ H _ I h) fun ov s1 ⟨x,H1,I1,r1,q1⟩=>?_));refine wpAny_bind (wpAny_holding (bX (hi pins s1 σ H1 _ I1 q1) fun iv s2 ⟨y,H2,I2,r2,q2⟩=>?_));refine wpAny_bind (wpAny_standAt (wpAny_bind (wpAny_holding (bX (hs pins s2 σ H2 x y v ov iv u _ I2 r1 r2 r q2) fun _ s3 ⟨H3,I3,q3⟩=>?_))));exact wpAny_release ⟨σ,H3,I3,q3⟩
def Fb (te:TE) (g:TG):TS:=fun D σ H=>te σ H fun x H1=>g x σ H1 D.nx
variable {tg:Expr}
theorem wD{g:TG}(he:PE X e te)(hg:PG X tg g)(hs:swapsWithSole [tg] e pos.line X.env=pure false:=by rfl)(hw:swappedStores [tg] e X.env=pure none:=by rfl)(h1:(assignEach [tg] X.env).map (·.2)=[assign tg X.env]:=by rfl):PS X (.Assign [tg] e pos) (Fb te g):=by
 intro pins s σ H D I h;refine wpAny_Assign_stores (bX (he pins s σ H _ I h) fun v s1 ⟨x,H1,I1,r1,q1⟩=>?_) hs hw;rw[h1];exact bX (hg pins s1 σ H1 x v _ I1 r1 q1) fun _ s2 q=>q
variable {pos':Pos}
theorem rO(hN:X.N.Nodup)(hi:X.N[i]?=some x)(hx:Loc X.env.scope x)(he:PE X e te)(hs:swapsWith e (some (.Name x pos')) pos.line X.env=pure false:=by rfl)(hf:X.fn x=true\/X.env.scope.names.lookup x=some .local:=by first|exact .inl rfl|exact .inr rfl|assumption):
  PS X (.Assign [.Name x pos'] e pos) (Fb te (BL i)):=by
 intro pins s σ H D I h;refine wpAny_Assign_Name (bX (he pins s σ H _ I h) fun v s1 ⟨y,H1,I1,r1,q1⟩=>?_) hs;exact mZ I1 hN hi hx r1 (fun s2 I2=>⟨_,H1,I2,q1⟩) hf
def Rh (i j:Nat) (ta:TA):TS:=fun D σ H=>ta σ H fun vs H1=>∃v w,vs=[v,w]/\D.nx ((σ.set i (some v)).set j (some w)) H1
variable {a:Expr} {px:Pos}
theorem LG{j:Nat}{y:Str}{ta:TA}{py pt:Pos}{kt k2 wA}(hc:X.calm=true)(hN:X.N.Nodup)(hi:X.N[i]?=some x)(hj:X.N[j]?=some y)(Ab:i≠j)(hx:X.env.scope.names.lookup x=some .local)(hy:X.env.scope.names.lookup y=some .local)(ha:PA X [a,b] ta)(hw:swappedStores [.Tuple [.Name x px,.Name y py] kt pt] (.Tuple [a,b] k2 wA) X.env=pure (some [x,y]))(hs:swapsWithSole [.Tuple [.Name x px,.Name y py] kt pt] (.Tuple [a,b] k2 wA) pos.line X.env=pure false:=by rfl):
  PS X (.Assign [.Tuple [.Name x px,.Name y py] kt pt] (.Tuple [a,b] k2 wA) pos) (Rh i j ta):=by
 intro pins s σ H D I h;rw[exec_Assign_arm];refine wpAny_bind (wpAny_standAt ?_);rw[hs];refine wpAny_bind (wpAny_pure ?_);rw[if_neg (by decide)];refine wpAny_bind (Tuple_ (bX (ha _ pins s σ H _ I h) fun us s1 ⟨vs,H1,I1,r1,q1⟩=>?_));obtain⟨v,w,e1,q1⟩:=q1;subst e1;obtain⟨u1,u2,rfl,rv,oA⟩:∃u1 u2,us=[u1,u2]/\RelV v u1/\RelV w u2:=by
  cases r1 with
  |cons p q=>
   cases q with
   |cons p' q'=>
    cases q';exact⟨_,_,rfl,p,p'⟩
 refine wpAny_newObj_type ?_ (by show 2<=sizeLine;decide);have I2:Inv X pins σ H1 {s1 with heap:=s1.heap.push {cls:=.type "tuple",data:=.seq [u1,u2].toArray}}:=I1.kept (t':=s1.toks) fun b o e=>get?_push_of_some _ e;rw[hw];refine wpAny_bind (wpAny_pure ?_);show wpAny (model X.prog X.w) X.A (do rule "assign.swapped-stores";let items <- unpackItems (.ref s1.heap.objs.size) 2 none;assignInOrder [fun v=>bindName X.env y v,fun v=>bindName X.env x v] items.reverse;pure Flow.next) _ _ _
 refine wpAny_bind (wpAny_rule (wpAny_bind (unpackItems_tuple (items:=#[u1,u2]) (I.ok.hd hc) (IsTup.new s1.heap _) fun h' xn=>?_)));have I3:=I2.kept (h':=h') (t':=s1.toks) fun b o e=>xn b o (ne_of_lt (lt_size e)) e;show wpAny _ _ (assignInOrder [fun v=>bindName X.env y v,fun v=>bindName X.env x v] [u2,u1] >>= fun _=>pure Flow.next) _ _ _
 refine wpAny_bind (assignInOrder_cons (wpAny_bindName (mZ I3 hN hj (.inl hy) oA (fun s2 I4=>?_) (.inr hy))));refine assignInOrder_cons (wpAny_bindName (mZ I4 hN hi (.inl hx) rv (fun s3 I5=>assignInOrder_nil (wpAny_pure ?_)) (.inr hx)));rw[List.set_comm _ _ (Ne.symm Ab)]at I5;exact⟨_,H1,I5,q1⟩
def L7 (c:TT) (tb:TS):TS:=fun D σ H=>∃W:Nat->St->Hp->Prop,(∃m,W m σ H)/\∀m σ H,W m σ H->
 c σ H fun b H1=>if b=true then ∃N:St->Hp->Prop,(∀bz H',N bz H'->∃m',m'<m/\W m' bz H')/\tb {D with nx:=N,ct:=N,bk:=D.nx} σ H1 else D.nx σ H1
variable {body:List Stmt}
theorem FP{tc:TT}{tb:TS}(hp:PassesOwn (model X.prog X.w) X.A X.env X.xe)(hc:PT X c tc)(hb:jX X body tb):PS X (.While c body [] pos) (L7 tc tb):=by
 intro pins s σ H D I h;obtain⟨W,⟨m0,w0⟩,turn⟩:=h;refine wpAny_While (codeAny_whileLoop (fun n s'=>∃bz H',Inv X pins bz H' s'/\W n bz H') ?_ m0 ⟨σ,H,I,w0⟩);rintro n s1 ⟨ze,H1,I1,w1⟩;refine wpAny_passesOwn hp (bX (hc pins s1 ze H1 _ I1 (turn n ze H1 w1)) fun b s2 ⟨H2,I2,q2⟩=>?_);cases b with
 |true=>
  obtain⟨N,hN,q2⟩:=q2;rw[if_pos rfl];refine wpAny_passesOwn hp (bX (hb pins s2 ze H2 _ I2 q2) fun f s3 q3=>?_);cases f with
  |next=>
   obtain⟨og,H3,I3,n3⟩:=q3;obtain⟨m',hm,w3⟩:=hN og H3 n3;exact⟨m',hm,og,H3,I3,w3⟩
  |cont=>
   obtain⟨og,H3,I3,n3⟩:=q3;obtain⟨m',hm,w3⟩:=hN og H3 n3;exact⟨m',hm,og,H3,I3,w3⟩
  |brk=>exact q3
  |ret v=>exact q3
 |false=>
  rw[if_neg Bool.false_ne_true];exact wpAny_execs_nil ⟨ze,H2,I2,q2⟩
structure It where
 go:Nat->Hp->Prop
 uh:Nat->Hp->V->Hp->Prop
 stop:Nat->Hp->Prop
def nO (X:Cx) (pins:List (Addr×Obj)) (H:Hp) (b:Addr):Prop:=
 H b=none/\b≠X.env.locals/\b∉X.fs/\(b∈X.ex\/X.aI.heap.objs.size<=b)/\(∀x c,X.env.cells.lookup x=some c->c≠b)/\∀p∈X.pn++pins,p.1≠b
theorem Inv.xT{σ:St}{s:Shared}{b:Addr}(I:Inv X pins σ H s)(hb:s.heap.objs.size<=b)(hn:H' b=none):nO X pins H' b:=by
 refine⟨hn,Nat.ne_of_gt (lt_of_lt_of_le I.lt hb),I.RA hb,.inr (le_trans I.sz hb),fun x c e z=>?_,fun p hp z=>?_⟩
 ·obtain⟨v,q⟩:=I.cell x c e;exact absurd (lt_of_lt_of_le q.lt (by rw[z];exact hb)) (lt_irrefl _)
 ·exact absurd (lt_of_lt_of_le (lt_size (I.pin p hp).1) (by rw[z];exact hb)) (lt_irrefl _)
structure Turn (P:Program) (w:World) (K:Frag) (tg:Expr) (J:It) (fp:List Addr) (it:Addr) (tn:Nat->Heap->Prop):Prop where
 mem:it∈fp
 obj:∀i h,tn i h->∀b∈fp,∃o,h.get? b=some o/\∀v,o.data≠.cell v
 keep:∀i h h',tn i h->(∀b∈fp,∀o,h.get? b=some o->h'.get? b=some o)->tn i h'
 item:∀(X:Cx),X.prog=P->X.w=w->X.K=K->X.calm=true->∀(i:Nat) (pins:List (Addr×Obj)) (s:Shared) (σ:St) (H:Hp) (E:Value->Shared->Prop),Inv X pins σ H s->(∀b∈fp,nO X pins H b)->tn i s.heap->J.go i H->
  wpAny (model P w) X.A (pyNext (.ref it)) (fun r s1=>∃u,r=some u/\
   wpAny (model P w) X.A (letOwnedTupleGo tg (.ref it) u) (fun _ s2=>∃x H',Inv X pins σ H' s2/\RelV x u/\J.uh i H x H'/\tn (i+1) s2.heap/\∀b∈fp,H' b=none) E s1) E s
 done:∀(X:Cx),X.prog=P->X.w=w->X.K=K->X.calm=true->∀(i:Nat) (pins:List (Addr×Obj)) (s:Shared) (σ:St) (H:Hp) (E:Value->Shared->Prop),Inv X pins σ H s->(∀b∈fp,nO X pins H b)->tn i s.heap->J.stop i H->
  wpAny (model P w) X.A (pyNext (.ref it)) (fun r s1=>r=none/\Inv X pins σ H s1) E s
 self:∀(A:Around) (i:Nat) (s:Shared) (Q:Value->Shared->Prop) (E:Value->Shared->Prop),tn i s.heap->Q (.ref it) s->wpAny (model P w) A (pyIter (.ref it)) Q E s
abbrev TI:=St->Hp->(It->Hp->Prop)->Prop
def Qt (X:Cx) (pins:List (Addr×Obj)) (σ:St) (tg:Expr) (R:It->Hp->Prop) (Im:Value) (s2:Shared):Prop:=
 ∃(it:Addr) (fp:List Addr) (tn:Nat->Heap->Prop) (J:It) (H':Hp),Im=.ref it/\Inv X pins σ H' s2/\Turn X.prog X.w X.K tg J fp it tn/\tn 0 s2.heap/\(∀b∈fp,nO X pins H' b)/\R J H'
def PI (X:Cx) (tg iter:Expr) (wi:TI):Prop:=
 ∀(pins:List (Addr×Obj)) (s:Shared) (σ:St) (H:Hp) (R:It->Hp->Prop),Inv X pins σ H s->wi σ H R->
  wpAny (model X.prog X.w) X.A (eval iter X.env) (fun v s1=>wpAny (model X.prog X.w) X.A (pyIter v) (Qt X pins σ tg R) X.xe s1) X.xe s
theorem BK{s:Shared}{it:Addr}{u:Value}{n:String}{vs:Array Value}{Q:Unit->Shared->Prop}(ho:s.heap.get? it=some o)(hc:o.cls=.type n)(hd:o.data=.fields vs)(hn:["enumerate","zip","dict_itemiterator","dict_reverseitemiterator","odict_iterator","itertools.zip_longest","itertools.pairwise"].contains n=false)(hQ:Q () s):wpAny M A (letOwnedTupleGo tg (.ref it) u) Q E s:=by
 unfold letOwnedTupleGo;cases tg<;>first
  |exact wpAny_pure hQ
  |(cases u<;>first
    |exact wpAny_pure hQ
    |(refine wpAny_bind (wpAny_load ho ?_)
      rw[hc,hd];show wpAny M A (if(["enumerate","zip","dict_itemiterator","dict_reverseitemiterator","odict_iterator","itertools.zip_longest","itertools.pairwise"].contains n&&vs[0]? == some (rawInt _))=true then _ else _) Q E s;rw[if_neg (by intro h;rw[hn,Bool.false_and]at h;cases h)];exact wpAny_pure hQ))
def NI (K:Frag) (a:Addr):It:=
 ⟨fun i H=>∃xs x,eC K H a xs/\xs[i]?=some x,fun i H x H'=>H'=H/\∀xs,eC K H a xs->xs[i]?=some x,fun i H=>∃xs,eC K H a xs/\xs.length<=i⟩
def NH (K:Frag) (a:Addr):It:=
 ⟨fun i H=>∃xs x,i7 K H a xs/\xs[i]?=some x,fun i H x H'=>H'=H/\∀xs,i7 K H a xs->xs[i]?=some x,fun i H=>∃xs,i7 K H a xs/\xs.length<=i⟩
def J4 (lo:Int) (n:Nat):It:=⟨fun i _=>i<n,fun i H x H'=>H'=H/\x=.int (lo+i),fun i _=>n<=i⟩
theorem Cu(a it:Addr):Turn P w K tg (NI K a) [it] it (fun i h=>h.IsListIter it a i) where
 mem:=by simp
 obj:=fun i h st b hb=>by
  have e:b=it:=by simpa using hb
  subst e;obtain⟨o,e,c,d⟩:=st;exact⟨o,e,fun v z=>by rw[d]at z;cases z⟩
 keep:=fun i h h' st k=>st.at fun o e=>k it (by simp) o e
 item:=by
  intro X hP hw hK hc i pins s σ H E I hf st hg;subst hP hw hK;obtain⟨xs,x,hq,hx⟩:=hg;obtain⟨aq,rv,p,hz⟩:=I.list hq;obtain⟨u,hu,ru⟩:=rv.get hx;obtain⟨f0,f1,f2,f3,f4,f5⟩:=hf it (by simp);refine wpAny_pyNext_list_item st p.isList (x:=u) (by simpa using hu) fun h' uu sb=>?_;have I1:Inv X pins σ H {s with heap:=h'}:=I.turned (t':=s.toks) (fun b o hb e=>(sb.2 b hb).trans e) f0 f1 f3 f4 f5;obtain⟨o,e,c,d⟩:=id uu;exact⟨u,rfl,BK (s:={s with heap:=h'}) e c d (by decide) ⟨x,H,I1,ru,⟨rfl,fun ys hy=>by rw[I.qP hy hq];exact hx⟩,uu,fun b hb=>(hf b hb).1⟩⟩
 done:=by
  intro X hP hw hK hc i pins s σ H E I hf st hg;subst hP hw hK;obtain⟨xs,hq,hx⟩:=hg;obtain⟨aq,rv,p,hz⟩:=I.list hq;obtain⟨f0,f1,f2,f3,f4,f5⟩:=hf it (by simp);have hl:=rv.length;exact wpAny_pyNext_list_end (I.ok.hd hc) st p.isList (by simp;omega) fun h' eb=>⟨rfl,I.turned (t':=s.toks) (fun b o hb e=>eb b o hb e) f0 f1 f3 f4 f5⟩
 self:=fun _ _ _ _ _ st h=>wpAny_pyIter_listiter st h
theorem AO(a it:Addr):Turn P w K tg (NH K a) [it] it (fun i h=>h.IsTupleIter it a i) where
 mem:=by simp
 obj:=fun i h st b hb=>by
  have e:b=it:=by simpa using hb
  subst e;obtain⟨o,e,c,d⟩:=st;exact⟨o,e,fun v z=>by rw[d]at z;cases z⟩
 keep:=fun i h h' st k=>st.at fun o e=>k it (by simp) o e
 item:=by
  intro X hP hw hK hc i pins s σ H E I hf st hg;subst hP hw hK;obtain⟨xs,x,hq,hx⟩:=hg;obtain⟨aq,rv,p,hz⟩:=I.tuple hq;obtain⟨u,hu,ru⟩:=rv.get hx;obtain⟨f0,f1,f2,f3,f4,f5⟩:=hf it (by simp);refine wpAny_pyNext_tuple_item st (show s.heap.IsTuple a aq.toArray from p) (x:=u) (by simpa using hu) fun h' uu sb=>?_;have I1:Inv X pins σ H {s with heap:=h'}:=I.turned (t':=s.toks) (fun b o hb e=>(sb.2 b hb).trans e) f0 f1 f3 f4 f5;obtain⟨o,e,c,d⟩:=id uu;exact⟨u,rfl,BK (s:={s with heap:=h'}) e c d (by decide) ⟨x,H,I1,ru,⟨rfl,fun ys hy=>by rw[I.uk hy hq];exact hx⟩,uu,fun b hb=>(hf b hb).1⟩⟩
 done:=by
  intro X hP hw hK hc i pins s σ H E I hf st hg;subst hP hw hK;obtain⟨xs,hq,hx⟩:=hg;obtain⟨aq,rv,p,hz⟩:=I.tuple hq;obtain⟨f0,f1,f2,f3,f4,f5⟩:=hf it (by simp);have hl:=rv.length;exact wpAny_pyNext_tuple_end (I.ok.hd hc) st (show s.heap.IsTuple a aq.toArray from p) (by simp;omega) fun h' eb=>⟨rfl,I.turned (t':=s.toks) (fun b o hb e=>eb b o hb e) f0 f1 f3 f4 f5⟩
 self:=fun _ _ _ _ _ st h=>wpAny_pyIter_tupleiter st h
theorem AQ(it:Addr)(lo:Int)(n:Nat):Turn P w K tg (J4 lo n) [it] it (fun i h=>IsRangeIter h it (lo+(i:Nat)*1) ((n:Int)-(i:Nat)) 1) where
 mem:=by simp
 obj:=fun i h st b hb=>by
  have e:b=it:=by simpa using hb
  subst e;exact⟨_,st,fun v z=>by
   have z':Data.fields _=Data.cell v:=z;cases z'⟩
 keep:=fun i h h' st k=>k it (by simp) _ st
 item:=by
  intro X hP hw hK hc i pins s σ H E I hf st hg;subst hP hw hK;obtain⟨f0,f1,f2,f3,f4,f5⟩:=hf it (by simp);have W:=Walks.range (prog:=X.prog) (w:=X.w) (I.ok.hd hc) it lo 1 n;refine W.item i s _ _ hg st fun v h' tk hv uu kk=>?_;obtain⟨t,rfl⟩:=hv;have I1:Inv X pins σ H {s with heap:=h',toks:=tk}:=I.turned (fun b o hb e=>kk b o (by simpa using hb) e) f0 f1 f3 f4 f5;refine⟨_,rfl,BK (s:={s with heap:=h',toks:=tk}) (n:="range_iterator") uu rfl rfl (by decide) ⟨.int (lo+i),H,I1,⟨t,?_⟩,⟨rfl,rfl⟩,uu,fun b hb=>(hf b hb).1⟩⟩;rw[Int.mul_one]
 done:=by
  intro X hP hw hK hc i pins s σ H E I hf st hg;subst hP hw hK;obtain⟨f0,f1,f2,f3,f4,f5⟩:=hf it (by simp);exact wpAny_pyNext_range_end (I.ok.hd hc) st (by have:n<=i:=hg;omega) fun h' eb=>⟨rfl,I.turned (t':=s.toks) (fun b o hb e=>eb b o hb e) f0 f1 f3 f4 f5⟩
 self:=fun _ _ _ _ _ st h=>wpAny_pyIter_rangeiter st h
open PySem PySem.Spec PyProof.Rows
theorem FF{σ:St}{s:Shared}{R:It->Hp->Prop}{lo hi:Int}{t u v:Tok}{tk:Nat}(I:Inv X pins σ H s)(h1: -(2^62)<=lo)(h2:lo<2^62)(h3: -(2^62)<=hi)(h4:hi<2^62)(q:R (J4 lo (hi-lo).toNat) H):wpAny (model X.prog X.w) X.A (pyIter (.ref s.heap.objs.size)) (Qt X pins σ tg R) E {s with heap:=s.heap.push {cls:=.type "range",data:=.fields #[.int lo t,.int hi u,.int 1 v]},toks:=tk}:=by
 refine wpAny_pyIter_range (IsRange.new ..) (small_one h1 h2 h3 h4) ?_;have I1:Inv X pins σ H {s with heap:=s.heap.push {cls:=.type "range",data:=.fields #[.int lo t,.int hi u,.int 1 v]},toks:=tk}:=I.kept fun b o e=>get?_push_of_some _ e;refine⟨(s.heap.push {cls:=.type "range",data:=.fields #[.int lo t,.int hi u,.int 1 v]}).objs.size,[(s.heap.push {cls:=.type "range",data:=.fields #[.int lo t,.int hi u,.int 1 v]}).objs.size],_,_,H,rfl,
  I1.kept (t':=tk) fun b o e=>get?_push_of_some _ e,AQ _ lo (hi-lo).toNat,?_,fun b hb=>?_,q⟩
 ·have e1:lo+((0:Nat):Int)*1=lo:=by simp
  have e2:(((hi-lo).toNat:Nat):Int)-((0:Nat):Int)=Builtin.Range.rangeSize lo hi 1:=by rw[rangeSize_one];split<;>omega
  show IsRangeIter _ _ (lo+((0:Nat):Int)*1) ((((hi-lo).toNat:Nat):Int)-((0:Nat):Int)) 1;rw[e1,e2];exact get?_push_size _ rfl
 ·have e:b=(s.heap.push {cls:=.type "range",data:=.fields #[.int lo t,.int hi u,.int 1 v]}).objs.size:=by simpa using hb
  subst e;exact I1.xT (le_refl _) (I1.bx.fresh (le_refl _))
def Ox (ta:TA):TI:=fun σ H R=>ta σ H fun vs H1=>∃j:Int,vs=[.int j]/\-(2^62)<=j/\j<2^62/\R (J4 0 j.toNat) H1
theorem oK{ta:TA}{p:Pos}(hg:Gl X "range")(hm:X.mg "range"=none)(ha:PA X [a] ta)(hs:starEach [a] X.env=[(false,eval a X.env)]:=by rfl):PI X tg (.Call (.Name "range" p) [a] [] pos) (Ox ta):=by
 intro pins s σ H R I h;refine Call_ (mK I hg hm boot_range (PyProof.Rows.callWith_type1 (bX (ha pos pins s σ H _ I h) fun us s1 ⟨vs,H1,I1,r1,q1⟩=>?_) hs rfl));obtain⟨j,e,q1,q2,q⟩:=q1;subst e;cases r1 with
 |cons r rr=>
  cases rr;obtain⟨t,rfl⟩:=r;exact call_range_1 (FF I1 (by omega) (by omega) q1 q2 (by simpa using q))
def Rn (wi:TI) (g:TG) (tb:TS):TS:=fun D σ H=>wi σ H fun J H1=>∃W:Nat->Nat->St->Hp->Prop,(∃m,W 0 m σ H1)/\∀i m σ H,W i m σ H->
 (J.stop i H/\D.nx σ H)\/(J.go i H/\∃N:St->Hp->Prop,(∀bz H',N bz H'->∃m',m'<m/\W (i+1) m' bz H')/\∀x H',J.uh i H x H'->g x σ H' fun dN H2=>tb {D with nx:=N,ct:=N,bk:=D.nx} dN H2)
def mF (fp:List Addr) (h:Heap):List (Addr×Obj):=fp.filterMap fun b=>(h.get? b).map fun o=>(b,o)
variable {fp:List Addr}
theorem hV{b:Addr}(hb:b∈fp)(e:h.get? b=some o):(b,o)∈mF fp h:=List.mem_filterMap.mpr ⟨b,hb,by rw[e];rfl⟩
theorem Dt{p:Addr×Obj}(hp:p∈mF fp h):p.1∈fp/\h.get? p.1=some p.2:=by
 obtain⟨b,hb,e⟩:=List.mem_filterMap.mp hp;cases q:h.get? b with
 |none=>rw[q]at e;cases e
 |some o=>
  rw[q]at e;have e':(b,o)=p:=Option.some.inj e;subst e';exact⟨hb,q⟩
theorem Inv.pinned{σ:St}{s:Shared}(I:Inv X pins σ H s)(hf:∀b∈fp,nO X pins H b)(ho:∀b∈fp,∃o,s.heap.get? b=some o/\∀v,o.data≠.cell v):Inv X (pins++mF fp s.heap) σ H s:=
 I.iO fun p hp=>(mem_append.mp hp).elim (fun z=>I.pin p (mem_append_right _ z)) fun z=>by
  obtain⟨hb,e⟩:=Dt z;obtain⟨f0,f1,f2,_⟩:=hf p.1 hb;obtain⟨o,e',d⟩:=ho p.1 hb;rw[e]at e';cases e';exact⟨e,f0,f1,f2,d⟩
theorem Inv.qB{pl:List (Addr×Obj)}{σ:St}{s:Shared}(I:Inv X (pins++pl) σ H s):Inv X pins σ H s:=I.iO fun p hp=>I.pin p (mem_append_right _ (mem_append_left _ hp))
variable {iter:Expr} {wi:TI}
theorem rP{g:TG}{tb:TS}(hp:PassesOwn (model X.prog X.w) X.A X.env X.xe)(hc:X.calm=true)(hi:PI X tg iter wi)(hg:PG X tg g)(hb:jX X body tb)(hs:∀x,foldedSetIterable iter X.env x=pure x:=by intro _;rfl):PS X (.For tg iter body [] pos) (Rn wi g tb):=by
 intro pins s σ H D I h;refine wpAny_For (bX (hi pins s σ H _ I h) fun v s1 h1=>bX h1 fun Im s2 h2=>?_) hs;obtain⟨it,fp,tn,J,H2,e,I2,T,rE,f2,W,⟨m0,w0⟩,turn⟩:=h2;subst e

 have kS:∀{H':Hp},(∀b∈fp,H' b=none)->∀b∈fp,nO X pins H' b:=fun hn b hb=>⟨hn b hb,(f2 b hb).2⟩;refine codeAny_forLoop_any (fun n s'=>∃i bz H',Inv X pins bz H' s'/\tn i s'.heap/\(∀b∈fp,H' b=none)/\W i n bz H') ?_ m0 ⟨0,σ,H2,I2,rE,fun b hb=>(f2 b hb).1,w0⟩;rintro n s3 ⟨i,og,H3,I3,P5,Qc,w3⟩;rcases turn i n og H3 w3 with⟨stop,qn⟩|⟨go,N,hN,step⟩
 ·refine wpAny_passesOwn hp (bX (T.done X rfl rfl rfl hc i pins s3 og H3 X.xe I3 (kS Qc) P5 stop) fun r s4 ⟨hr,I4⟩=>?_);subst hr;exact wpAny_execs_nil ⟨og,H3,I4,qn⟩
 ·refine wpAny_passesOwn hp (bX (T.item X rfl rfl rfl hc i pins s3 og H3 X.xe I3 (kS Qc) P5 go) fun r s4 ⟨u,hr,h4⟩=>?_);subst hr;refine wpAny_passesOwn hp (bX h4 fun _ s5 ⟨x,H5,I5,r5,y5,oq,Ei⟩=>?_);have F1:=I5.pinned (kS Ei) (T.obj _ _ oq);refine wpAny_passesOwn hp (bX (hg _ s5 og H5 x u _ F1 r5 (step x H5 y5)) fun _ s6 ⟨rf,H6,I6,q6⟩=>?_);refine wpAny_passesOwn hp (bX (hb _ s6 rf H6 _ I6 q6) fun f s7 q7=>?_);have again:∀{o9:St} {H7:Hp},Inv X (pins++mF fp s5.heap) o9 H7 s7->N o9 H7->∃m,m<n/\∃i bz H',Inv X pins bz H' s7/\tn i s7.heap/\(∀b∈fp,H' b=none)/\W i m bz H':=fun{o9 H7} I7 n7=>by
   obtain⟨m',hm,w7⟩:=hN o9 H7 n7;refine⟨m',hm,i+1,o9,H7,I7.qB,T.keep _ _ _ oq fun b hb o e=>(I7.pin (b,o) (mem_append_right _ (mem_append_right _ (hV hb e)))).1,fun b hb=>?_,w7⟩;obtain⟨o,e,d⟩:=T.obj _ _ oq b hb;exact(I7.pin (b,o) (mem_append_right _ (mem_append_right _ (hV hb e)))).2.1
  cases f with
  |next=>obtain⟨o9,H7,I7,n7⟩:=q7;exact again I7 n7
  |cont=>obtain⟨o9,H7,I7,n7⟩:=q7;exact again I7 n7
  |brk=>obtain⟨o9,H7,I7,q7⟩:=q7;exact⟨o9,H7,I7.qB,q7⟩
  |ret v=>obtain⟨x7,o9,H7,I7,r7,q7⟩:=q7;exact⟨x7,o9,H7,I7.qB,r7,q7⟩
open PySem PySem.Spec PyProof.Rows
abbrev R2:=V->V->Hp->VK->Prop
def cZ (X:Cx) (f:Value->Value->Sem Value) (r:R2):Prop:=
 ∀(pins:List (Addr×Obj)) (s:Shared) (σ:St) (H:Hp) (x y:V) (v u:Value) (Q:VK),Inv X pins σ H s->RelV x v->RelV y u->r x y H Q->
  wpAny (model X.prog X.w) X.A (f v u) (EP X pins σ Q) X.xe s
def IY (X:Cx) (f:Value->Sem Value) (r:V->Hp->VK->Prop):Prop:=
 ∀(pins:List (Addr×Obj)) (s:Shared) (σ:St) (H:Hp) (x:V) (v:Value) (Q:VK),Inv X pins σ H s->RelV x v->r x H Q->
  wpAny (model X.prog X.w) X.A (f v) (EP X pins σ Q) X.xe s
def jf (X:Cx) (f:Value) (r:List V->Hp->VK->Prop):Prop:=
 ∀(pins:List (Addr×Obj)) (s:Shared) (σ:St) (H:Hp) (xs:List V) (us:List Value) (Q:VK),Inv X pins σ H s->Vals xs us->r xs H Q->
  wpAny (model X.prog X.w) X.A (call f us) (EP X pins σ Q) X.xe s
def Sj (X:Cx) (r:V->Hp->(Bool->Hp->Prop)->Prop):Prop:=
 ∀(pins:List (Addr×Obj)) (s:Shared) (σ:St) (H:Hp) (x:V) (v:Value) (Q:Bool->Hp->Prop),Inv X pins σ H s->RelV x v->r x H Q->
  wpAny (model X.prog X.w) X.A (truthy v) (TP X pins σ Q) X.xe s
def zt (r:R2) (ta tb:TE):TE:=fun σ H Q=>ta σ H fun x H1=>tb σ H1 fun y H2=>r x y H2 Q
def Sx (r:V->Hp->VK->Prop) (ta:TE):TE:=fun σ H Q=>ta σ H fun x H1=>r x H1 Q
def rI (C:Int->Int->Prop) (g:Int->Int->V):R2:=fun x y H Q=>∃i j,x=.int i/\y=.int j/\C i j/\Q (g i j) H
def uv (g:Int->Int->V):R2:=fun x y H Q=>∃i j,x=.int i/\y=.int j/\Q (g i j) H
def rU (g:Int->V):V->Hp->VK->Prop:=fun x H Q=>∃i,x=.int i/\Q (g i) H
variable {f:Value->Value->Sem Value}
theorem Hb(ha:PE X a ta)(hb:PE X b tb){s:Shared}{σ:St}{R:V->V->Hp->Prop}(I:Inv X pins σ H s)(h:ta σ H fun x H1=>tb σ H1 fun y H2=>R x y H2){Q:Value->Shared->Prop}(hf:∀v u s2 x y H2,Inv X pins σ H2 s2->RelV x v->RelV y u->R x y H2->wpAny (model X.prog X.w) X.A (f v u) Q X.xe s2):
  wpAny (model X.prog X.w) X.A (eval a X.env) (fun v bN=>wpAny (model X.prog X.w) X.A (eval b X.env) (fun u bo=>wpAny (model X.prog X.w) X.A (f v u) Q X.xe bo) X.xe bN) X.xe s:=by
 refine bX (ha pins s σ H _ I h) fun v s1 ⟨x,H1,I1,r1,q1⟩=>?_;refine bX (hb pins s1 σ H1 _ I1 q1) fun u s2 ⟨y,H2,I2,r2,q2⟩=>?_;exact hf v u s2 x y H2 I2 r1 r2 q2
theorem Bh{op:Operator}{r:R2}(ho:cZ X (binaryOp op) r)(ha:PE X a ta)(hb:PE X b tb):PE X (.BinOp a op b pos) (zt r ta tb):=by
 intro pins s σ H Q I h;exact wpAny_BinOp (Hb ha hb I h fun v u s2 x y H2 I2 rx ry q=>ho pins s2 σ H2 x y v u Q I2 rx ry q)
theorem Og{op:UnaryOp}{r:V->Hp->VK->Prop}(ho:IY X (unaryOp op) r)(ha:PE X a ta):PE X (.UnaryOp op a pos) (Sx r ta):=by
 intro pins s σ H Q I h;exact UnaryOp_ (bX (ha pins s σ H _ I h) fun v s1 ⟨x,H1,I1,r1,q1⟩=>ho pins s1 σ H1 x v Q I1 r1 q1)
variable {C:Int->Int->Prop}
theorem I0{g:Int->Int->Int}(rule:∀(i j:Int) (t u:Tok) (s:Shared) (Q:Value->Shared->Prop) (E:Value->Shared->Prop),C i j->Q (.int (g i j) s.toks) {s with toks:=s.toks+1}->wpAny (model X.prog X.w) X.A (f (.int i t) (.int j u)) Q E s):
  cZ X f (rI C fun i j=>.int (g i j)):=by
 intro pins s σ H x y v u Q I rx ry h;obtain⟨i,j,rfl,rfl,hc,q⟩:=h;obtain⟨t,rfl⟩:=rx;obtain⟨t',rfl⟩:=ry;exact rule i j t t' s _ _ hc ⟨.int (g i j),H,I.tok _,⟨_,rfl⟩,q⟩
theorem Ry{g:Int->Int->Int}(rule:∀(i j:Int) (t u:Tok) (s:Shared) (Q:Value->Shared->Prop) (E:Value->Shared->Prop),Q (.int (g i j) s.toks) {s with toks:=s.toks+1}->wpAny (model X.prog X.w) X.A (f (.int i t) (.int j u)) Q E s):
  cZ X f (uv fun i j=>.int (g i j)):=by
 intro pins s σ H x y v u Q I rx ry h;obtain⟨i,j,rfl,rfl,q⟩:=h;obtain⟨t,rfl⟩:=rx;obtain⟨t',rfl⟩:=ry;exact rule i j t t' s _ _ ⟨.int (g i j),H,I.tok _,⟨_,rfl⟩,q⟩
theorem Bl{g:Int->Int->Bool}(rule:∀(i j:Int) (t u:Tok) (s:Shared) (Q:Value->Shared->Prop) (E:Value->Shared->Prop),Q (.bool (g i j)) s->wpAny (model X.prog X.w) X.A (f (.int i t) (.int j u)) Q E s):
  cZ X f (uv fun i j=>.bl (g i j)):=by
 intro pins s σ H x y v u Q I rx ry h;obtain⟨i,j,rfl,rfl,q⟩:=h;obtain⟨t,rfl⟩:=rx;obtain⟨t',rfl⟩:=ry;exact rule i j t t' s _ _ ⟨.bl (g i j),H,I,rfl,q⟩
def Cp (i j:Int):Prop:=0<=j/\j<=1000000/\i.natAbs<2^64
theorem wN:cZ X (binaryOp .Add) (uv fun i j=>.int (i+j)):=Ry fun _ _ _ _ _ _ _ q=>add_int q
theorem LQ:cZ X (binaryOp .Pow) (rI Cp fun i j=>.int (i^j.toNat)):=I0 fun _ _ _ _ _ _ _ hc q=>pow_int_small hc.1 hc.2.1 hc.2.2 q
theorem Sw{f:Value->Sem Value}{g:Int->Int}(rule:∀(i:Int) (t:Tok) (s:Shared) (Q:Value->Shared->Prop) (E:Value->Shared->Prop),Q (.int (g i) s.toks) {s with toks:=s.toks+1}->wpAny (model X.prog X.w) X.A (f (.int i t)) Q E s):
  IY X f (rU fun i=>.int (g i)):=by
 intro pins s σ H x v Q I rx h;obtain⟨i,rfl,q⟩:=h;obtain⟨t,rfl⟩:=rx;exact rule i t s _ _ ⟨.int (g i),H,I.tok _,⟨_,rfl⟩,q⟩
theorem KZ:IY X (unaryOp .USub) (rU fun i=>.int (-i)):=Sw fun _ _ _ _ _ q=>neg_int q
def Lh:V->V->Bool
 | .bI,.bI=>true| .bI,.int _=>true| .int _,.bI=>true| .bI,.bl _=>true| .bl _,.bI=>true| .bI,.str _=>true| .str _,.bI=>true
 | .int _,.int _=>true| .bl _,.bl _=>true| .str _,.str _=>true| .lz _,.lz _=>true
 | .int _,.str _=>true| .str _,.int _=>true| .bl _,.str _=>true| .str _,.bl _=>true
 |_,_=>false
def Pc:R2:=fun x y H Q=>Lh x y=true/\Q (.bl (decide (x=y))) H
def P9:R2:=fun x y H Q=>Lh x y=true/\Q (.bl (!decide (x=y))) H
theorem Ax{i j:Int}:decide (V.int i=V.int j)=(i==j):=by
 rw[Bool.eq_iff_iff];simp
theorem sL{i j:Bool}:decide (V.bl i=V.bl j)=(i==j):=by
 rw[Bool.eq_iff_iff];simp
theorem Aw{i j:Str}:decide (V.str i=V.str j)=(i==j):=by
 rw[Bool.eq_iff_iff];simp
theorem Ay{i j:Array UInt8}:decide (V.lz i=V.lz j)=(i.toList==j.toList):=by
 rw[Bool.eq_iff_iff];cases i;cases j;simp
variable {Q:VK}
theorem bK{σ:St}{s:Shared}{k k':Bool}(I:Inv X pins σ H s)(q:Q (.bl k) H)(e:k=k'):EP X pins σ Q (.bool k') s:=by
 subst e;exact⟨.bl k,H,I,rfl,q⟩
theorem Bk:cZ X (compareOp .Eq) Pc:=by
 intro pins s σ H x y v u Q I rx ry h;obtain⟨hs,q⟩:=h;cases x with
 |bI=>
  cases rx;cases y with
  |bI=>cases ry;exact PySem.EqNone.eq_none_none (bK I q (by simp))
  |bl j=>cases ry;exact PySem.EqNone.eq_none_bool (bK I q (by simp))
  |int j=>obtain⟨t',rfl⟩:=ry;exact PySem.EqNone.eq_none_int (bK I q (by simp))
  |str j=>obtain⟨t',rfl⟩:=ry;exact PySem.EqNone.eq_none_str (bK I q (by simp))
  |_=>exact absurd (show false=true from hs) Bool.false_ne_true
 |bl i=>
  cases rx;cases y with
  |bI=>cases ry;exact PySem.EqNone.eq_bool_none (bK I q (by simp))
  |bl j=>cases ry;exact eq_bool (bK I q sL)
  |str j=>obtain⟨t',rfl⟩:=ry;exact PySem.EqMixed.eq_bool_str (bK I q (by simp))
  |_=>exact absurd (show false=true from hs) Bool.false_ne_true
 |int i=>
  obtain⟨t,rfl⟩:=rx;cases y with
  |bI=>cases ry;exact PySem.EqNone.eq_int_none (bK I q (by simp))
  |int j=>obtain⟨t',rfl⟩:=ry;exact eq_int (bK I q Ax)
  |str j=>obtain⟨t',rfl⟩:=ry;exact PySem.EqMixed.eq_int_str (bK I q (by simp))
  |_=>exact absurd (show false=true from hs) Bool.false_ne_true
 |str i=>
  obtain⟨t,rfl⟩:=rx;cases y with
  |bI=>cases ry;exact PySem.EqNone.eq_str_none (bK I q (by simp))
  |bl j=>cases ry;exact PySem.EqMixed.eq_str_bool (bK I q (by simp))
  |int j=>obtain⟨t',rfl⟩:=ry;exact PySem.EqMixed.eq_str_int (bK I q (by simp))
  |str j=>obtain⟨t',rfl⟩:=ry;exact eq_str (bK I q Aw)
  |_=>exact absurd (show false=true from hs) Bool.false_ne_true
 |lz i=>
  obtain⟨t,rfl⟩:=rx;cases y with
  |lz j=>obtain⟨t',rfl⟩:=ry;exact PySem.W.eq_bytes (bK I q Ay)
  |_=>exact absurd (show false=true from hs) Bool.false_ne_true
 |_=>cases y<;>exact absurd (show false=true from hs) Bool.false_ne_true
theorem HY:cZ X (compareOp .NotEq) P9:=by
 intro pins s σ H x y v u Q I rx ry h;obtain⟨hs,q⟩:=h;cases x with
 |bI=>
  cases rx;cases y with
  |bI=>cases ry;exact PySem.EqNone.ne_none_none (bK I q (by simp))
  |bl j=>cases ry;exact PySem.EqNone.ne_none_bool (bK I q (by simp))
  |int j=>obtain⟨t',rfl⟩:=ry;exact PySem.EqNone.ne_none_int (bK I q (by simp))
  |str j=>obtain⟨t',rfl⟩:=ry;exact PySem.EqNone.ne_none_str (bK I q (by simp))
  |_=>exact absurd (show false=true from hs) Bool.false_ne_true
 |bl i=>
  cases rx;cases y with
  |bI=>cases ry;exact PySem.EqNone.ne_bool_none (bK I q (by simp))
  |bl j=>cases ry;exact ne_bool (bK I q (congrArg not sL))
  |str j=>obtain⟨t',rfl⟩:=ry;exact PySem.EqMixed.ne_bool_str (bK I q (by simp))
  |_=>exact absurd (show false=true from hs) Bool.false_ne_true
 |int i=>
  obtain⟨t,rfl⟩:=rx;cases y with
  |bI=>cases ry;exact PySem.EqNone.ne_int_none (bK I q (by simp))
  |int j=>obtain⟨t',rfl⟩:=ry;exact ne_int (bK I q (congrArg not Ax))
  |str j=>obtain⟨t',rfl⟩:=ry;exact PySem.EqMixed.ne_int_str (bK I q (by simp))
  |_=>exact absurd (show false=true from hs) Bool.false_ne_true
 |str i=>
  obtain⟨t,rfl⟩:=rx;cases y with
  |bI=>cases ry;exact PySem.EqNone.ne_str_none (bK I q (by simp))
  |bl j=>cases ry;exact PySem.EqMixed.ne_str_bool (bK I q (by simp))
  |int j=>obtain⟨t',rfl⟩:=ry;exact PySem.EqMixed.ne_str_int (bK I q (by simp))
  |str j=>obtain⟨t',rfl⟩:=ry;exact ne_str (bK I q (congrArg not Aw))
  |_=>exact absurd (show false=true from hs) Bool.false_ne_true
 |lz i=>
  obtain⟨t,rfl⟩:=rx;cases y with
  |lz j=>obtain⟨t',rfl⟩:=ry;exact PySem.W.ne_bytes (bK I q (congrArg not Ay))
  |_=>exact absurd (show false=true from hs) Bool.false_ne_true
 |_=>cases y<;>exact absurd (show false=true from hs) Bool.false_ne_true
theorem HZ:cZ X (compareOp .Lt) (uv fun i j=>.bl (decide (i<j))):=Bl fun _ _ _ _ _ _ _ q=>lt_int q
theorem Om:cZ X (compareOp .LtE) (uv fun i j=>.bl (decide (i<=j))):=Bl fun _ _ _ _ _ _ _ q=>le_int q
theorem Bj:cZ X (compareOp .Gt) (uv fun i j=>.bl (decide (j<i))):=Bl fun _ _ _ _ _ _ _ q=>gt_int q
theorem Oo:cZ X (compareOp .GtE) (uv fun i j=>.bl (decide (j<=i))):=Bl fun _ _ _ _ _ _ _ q=>ge_int q
theorem Dq:cZ X (compareOp .In) (fun x y H Q=>∃i j,x=.str i/\y=.str j/\Q (.bl (!(Builtin.Str.occurrences j i 0 j.length 1).isEmpty)) H):=by
 intro pins s σ H x y v u Q I rx ry h;obtain⟨i,j,rfl,rfl,q⟩:=h;obtain⟨t,rfl⟩:=rx;obtain⟨t',rfl⟩:=ry;exact in_str (bK I q rfl)
theorem Dp:cZ X (compareOp .Is) (fun x y H Q=>y=.bI/\Q (.bl (decide (x=.bI))) H):=by
 intro pins s σ H x y v u Q I rx ry h;obtain⟨rfl,q⟩:=h;cases ry;refine is_none_gen (bK I q ?_);cases x<;>first
  |(cases rx;rfl)
  |(obtain⟨t,rfl⟩:=rx;rfl)
theorem JP:cZ X (compareOp .IsNot) (fun x y H Q=>y=.bI/\Q (.bl (!decide (x=.bI))) H):=by
 intro pins s σ H x y v u Q I rx ry h;obtain⟨rfl,q⟩:=h;cases ry;refine isnot_none_gen (bK I q ?_);cases x<;>first
  |(cases rx;rfl)
  |(obtain⟨t,rfl⟩:=rx;rfl)
variable {r:R2}
theorem cZ.or{r':R2}(h:cZ X f r)(h':cZ X f r'):cZ X f (fun x y H Q=>r x y H Q\/r' x y H Q):=by
 intro pins s σ H x y v u Q I rx ry q;rcases q with q|q
 ·exact h pins s σ H x y v u Q I rx ry q
 ·exact h' pins s σ H x y v u Q I rx ry q
variable {op:CmpOp}
theorem dR(b:Expr)(h:op≠.In:=by decide)(h2:op≠.NotIn:=by decide):behindInMarks op b=false:=by
 have e1:(op==CmpOp.In)=false:=by cases op<;>first|rfl|exact absurd rfl h
 have e2:(op==CmpOp.NotIn)=false:=by cases op<;>first|rfl|exact absurd rfl h2
 cases b<;>simp[behindInMarks,e1,e2]
theorem JM(ho:cZ X (compareOp op) r)(ha:PE X a ta)(hb:PE X b tb)(hm:behindInMarks op b=false):PE X (.Compare a [op] [b] pos) (zt r ta tb):=by
 intro pins s σ H Q I h;exact wpAny_Compare1 (Hb ha hb I h fun v u s2 x y H2 I2 rx ry q=>ho pins s2 σ H2 x y v u Q I2 rx ry q) hm
def HE (t:TE):TT:=fun σ H Q=>t σ H fun x H'=>∃k,x=.bl k/\Q k H'
theorem zK(ho:cZ X (compareOp op) r)(ha:PE X a ta)(hb:PE X b tb)(hm:behindInMarks op b=false):PT X (.Compare a [op] [b] pos) (HE (zt r ta tb)):=by
 intro pins s σ H Q I h;refine wpAny_isTrue_Compare1 (bX (ha pins s σ H _ I h) fun v s1 ⟨x,H1,I1,r1,q1⟩=>bX (hb pins s1 σ H1 _ I1 q1) fun u s2 ⟨y,H2,I2,r2,q2⟩=>
  bX (ho pins s2 σ H2 x y v u _ I2 r1 r2 q2) fun c s3 ⟨z,H3,I3,r3,k,e,q3⟩=>?_) hm
 subst e;cases r3;exact wpAny_truthy_bool ⟨H3,I3,q3⟩
def Hj (K:Frag) (x:V) (H:Hp) (k:Bool):Prop:=
 match x with
 | .bI=>k=false
 | .bl b=>k=b
 | .int i=>k=(i !=0)
 | .str y=>y.length<=sizeLine/\k=((y.length:Int) !=0)
 | .lz y=>y.size<=sizeLine/\k=((y.size:Int) !=0)
 | .ref p=>(∃xs,eC K H p xs/\k=!xs.isEmpty)\/(∃xs,i7 K H p xs/\k=!xs.isEmpty)\/∃fm,H p=some (.dK fm)/\k=!fm.isEmpty
 |_=>False
theorem Bx{κ:Type}{fm:List (κ×V)}{vs:List (κ×Value)}(r:KV fm vs):(!vs.isEmpty)=!fm.isEmpty:=by
 cases r<;>rfl
variable {aq:List Value}
theorem rW(r:Vals xs aq):(!aq.toArray.isEmpty)=!xs.isEmpty:=by
 cases r<;>simp
theorem oV:(sizeLine:Nat)<2^63:=by rw[sizeLine_eq];decide
theorem L5:Sj X (fun x H Q=>∃k,Hj X.K x H k/\Q k H):=by
 intro pins s σ H x v Q I rx h;obtain⟨k,e,q⟩:=h;have hl:=oV;have hs:sizeLine=16777216:=sizeLine_eq;cases x with
 |bI=>
  cases rx;have e':k=false:=e;subst e';exact truthy_none ⟨H,I,q⟩
 |bl b=>
  cases rx;have e':k=b:=e;subst e';exact wpAny_truthy_bool ⟨H,I,q⟩
 |int i=>
  obtain⟨t,rfl⟩:=rx;have e':k=(i !=0):=e;subst e';exact PySem.P.truthy_int ⟨H,I,q⟩
 |str y=>
  obtain⟨t,rfl⟩:=rx;obtain⟨hy,e'⟩:y.length<=sizeLine/\k=((y.length:Int) !=0):=e;subst e';exact PySem.P.truthy_str (by omega) ⟨H,I.tok _,q⟩
 |lz y=>
  obtain⟨t,rfl⟩:=rx;obtain⟨hy,e'⟩:y.size<=sizeLine/\k=((y.size:Int) !=0):=e;subst e';exact PySem.W.truthy_bytes (by omega) ⟨H,I.tok _,q⟩
 |ref p=>
  cases rx;have e':(∃xs,eC X.K H p xs/\k=!xs.isEmpty)\/(∃xs,i7 X.K H p xs/\k=!xs.isEmpty)\/∃fm,H p=some (.dK fm)/\k=!fm.isEmpty:=e;rcases e' with⟨xs,hx,e'⟩|⟨xs,hx,e'⟩|⟨fm,hx,e'⟩
  ·subst e';obtain⟨aq,r,pl,hz⟩:=I.list hx;have hlen:=r.length;exact wpAny_truthy_list pl.isList (by simp only[size_toArray];omega) ⟨H,I.tok _,by rw[rW r];exact q⟩
  ·subst e';obtain⟨aq,r,pl,hz⟩:=I.tuple hx;have hlen:=r.length;exact truthy_tuple pl (by simp only[size_toArray];omega) ⟨H,I.tok _,by rw[rW r];exact q⟩
  ·subst e';obtain⟨hz,hS,vs,r,m⟩:fm.length<=sizeLine/\(p==sysModules)=false/\∃vs,KV fm vs/\s.heap.DictOf (tJ X.prog X.w) p vs:=I.bx p _ hx;have hlen:fm.length=vs.length:=Paired.length r;exact wpAny_truthy_dict hS m (by omega) ⟨H,I.tok _,by rw[Bx r];exact q⟩
 |_=>exact(show False from e).elim
theorem FN(ha:PE X a ta)(he:∀whole,isTrue a X.env whole=(do let v <- whole;standAt a.pos;holding [v] (truthy v))):
  PT X a (fun σ H Q=>ta σ H fun x H'=>∃k,Hj X.K x H' k/\Q k H'):=by
 intro pins s σ H Q I h;exact isTrue_plain (bX (ha pins s σ H _ I h) fun v s1 ⟨x,H1,I1,r1,q1⟩=>L5 pins s1 σ H1 x v Q I1 r1 q1) (he _)
theorem nq:cZ X (binaryOp .Add) (fun x y H Q=>∃i j,x=.str i/\y=.str j/\i.length+j.length<=sizeLine/\Q (.str (i++j)) H):=by
 intro pins s σ H x y v u Q I rx ry h;obtain⟨i,j,rfl,rfl,hz,q⟩:=h;obtain⟨t,rfl⟩:=rx;obtain⟨t',rfl⟩:=ry;exact add_str (fun t' tk=>⟨.str (i++j),H,I.tok _,⟨_,rfl⟩,q⟩) hz
theorem vals1{x:V}(r:Vals [x] us):∃u,us=[u]/\RelV x u:=by
 cases r with
 |cons r1 r2=>cases r2;exact⟨_,rfl,r1⟩
variable {y:V}
theorem vals2{x:V}(r:Vals [x,y] us):∃u w',us=[u,w']/\RelV x u/\RelV y w':=by
 cases r with
 |cons r1 r2=>
  cases r2 with
  |cons r3 r4=>cases r4;exact⟨_,_,rfl,r1,r3⟩
theorem H9:jf X (.builtin "abs") (fun xs H Q=>∃i,xs=[.int i]/\Q (.int (if i<0 then -i else i)) H):=by
 intro pins s σ H xs us Q I r h;obtain⟨i,rfl,q⟩:=h;obtain⟨u,rfl,t,rfl⟩:=vals1 r;exact call_abs_int fun u tk=>⟨.int (if i<0 then -i else i),H,I.tok _,⟨_,rfl⟩,q⟩
theorem EO:jf X (.type "int") (fun xs H Q=>(∃i,xs=[.int i]/\Q (.int i) H)\/∃k,xs=[.bl k]/\Q (.int (if k then 1 else 0)) H):=by
 intro pins s σ H xs us Q I r h;rcases h with⟨i,rfl,q⟩|⟨k,rfl,q⟩
 ·obtain⟨u,rfl,t,rfl⟩:=vals1 r;exact call_int_int ⟨.int i,H,I,⟨_,rfl⟩,q⟩
 ·obtain⟨u,rfl,r1⟩:=vals1 r;cases r1;exact call_int_bool ⟨.int (if k then 1 else 0),H,I.tok _,⟨_,rfl⟩,q⟩
def NG (K:Frag) (x:V) (H:Hp) (n:Nat):Prop:=
 match x with
 | .str y=>y.length<=sizeLine/\n=y.length
 | .lz y=>y.size<=sizeLine/\n=y.size
 | .ref p=>(∃xs,eC K H p xs/\n=xs.length)\/∃xs,i7 K H p xs/\n=xs.length
 |_=>False
theorem H0:jf X (.builtin "len") (fun xs H Q=>∃x n,xs=[x]/\NG X.K x H n/\Q (.int n) H):=by
 intro pins s σ H xs us Q I r h;obtain⟨x,n,rfl,e,q⟩:=h;obtain⟨u,rfl,rx⟩:=vals1 r;have hl:=oV;have hs:sizeLine=16777216:=sizeLine_eq;cases x with
 |str y=>
  obtain⟨t,rfl⟩:=rx;obtain⟨hy,e'⟩:y.length<=sizeLine/\n=y.length:=e;subst e';exact len_str (by omega) ⟨.int _,H,I.tok _,⟨_,rfl⟩,q⟩
 |lz y=>
  obtain⟨t,rfl⟩:=rx;obtain⟨hy,e'⟩:y.size<=sizeLine/\n=y.size:=e;subst e';exact PySem.W.len_bytes (by omega) ⟨.int _,H,I.tok _,⟨_,rfl⟩,q⟩
 |ref p=>
  cases rx;have e':(∃xs,eC X.K H p xs/\n=xs.length)\/∃xs,i7 X.K H p xs/\n=xs.length:=e;rcases e' with⟨xs,hx,e'⟩|⟨xs,hx,e'⟩
  ·subst e';obtain⟨aq,r',pl,hz⟩:=I.list hx;have hlen:=r'.length;exact Calls.call_len_list pl.isList (by simp only[size_toArray];omega) ⟨.int xs.length,H,I.tok _,⟨_,by simp only[size_toArray];rw[hlen]⟩,q⟩
  ·subst e';obtain⟨aq,r',pl,hz⟩:=I.tuple hx;have hlen:=r'.length;exact len_tuple pl (by simp only[size_toArray];omega) ⟨.int xs.length,H,I.tok _,⟨_,by simp only[size_toArray];rw[hlen]⟩,q⟩
 |_=>exact(show False from e).elim
open PySem PySem.Spec PyProof.Rows
structure bS (k:Nat) (A:Around):Prop where
 hd:A.handled=none
 dp:A.depth+3*k+5<recursionLimit
 un:A.units+16*k+200<cLine
variable {j k:Nat}
theorem bS.mono(r:bS k A)(h:j<=k):bS j A:=⟨r.hd,by have:=r.dp;omega,by have:=r.un;omega⟩
theorem bS.deeper(r:bS (k+1) A)(env:Env):bS k (A.deeper env):=
 ⟨r.hd,by have:=r.dp;show A.depth+1+3*k+5<_;omega,by have:=r.un;show A.units+3+16*k+200<_;omega⟩
theorem bS.depth(r:bS k A):A.depth<recursionLimit:=by have:=r.dp;omega
theorem bS.units(r:bS k A):A.units+64<cLine:=by have:=r.un;omega
def Rk:TA:=fun _ H Q=>Q [] H
def O7 (ta:TE) (tr:TA):TA:=fun σ H Q=>ta σ H fun x H1=>tr σ H1 fun xs H2=>Q (x::xs) H2
theorem mI:PA X [] Rk:=fun _ _ _ _ H Q I h=>Calls.spliced_nil ⟨[],H,I,.nil,h⟩
variable {t:TA}
theorem iP(ha:PE X e te)(hr:PA X es t)(hs:starEach (e::es) X.env=(false,eval e X.env)::starEach es X.env:=by rfl):PA X (e::es) (O7 te t):=by
 intro pos pins s σ H Q I h;rw[hs];show wpAny _ _ (spliced ((false,eval e X.env)::backTo pos (starEach es X.env))) _ _ s;refine Calls.spliced_cons (bX (ha pins s σ H _ I h) fun u s1 ⟨x,H1,I1,r1,q1⟩=>?_);exact bX (hr pos pins s1 σ H1 _ I1 q1) fun us s2 ⟨xs,H2,I2,r2,q2⟩=>⟨x::xs,H2,I2,.cons r1 r2,q2⟩
def Rc (t:TA):TE:=fun σ H Q=>t σ H fun xs H1=>xs.length<=sizeLine/\∀p,H1 p=none->Q (.ref p) (upd H1 p (.tup xs))
def Rl (t:TA):TE:=fun σ H Q=>t σ H fun xs H1=>xs.length<=sizeLine/\∀p,H1 p=none->Q (.ref p) (upd H1 p (.lst xs))
theorem Dj{x1}(h:PA X es t):PE X (.Tuple es x1 pos) (Rc t):=by
 intro pins s σ H Q I hq;refine wpAny_Tuple_spliced (bX (h pos pins s σ H _ I hq) fun us s1 ⟨xs,H1,I1,r,z,q⟩=>⟨by rw[<- r.length];exact z,?_⟩);have hf:H1 s1.heap.objs.size=none:=I1.bx.fresh (le_refl _);refine⟨.ref s1.heap.objs.size,upd H1 s1.heap.objs.size (.tup xs),I1.laid (t':=s1.toks) (fun b u e=>get?_push_of_some _ e) (le_refl _) ?_,rfl,q _ hf⟩;exact⟨z,us,r,⟨_,get?_push_size _ rfl,rfl,_,rfl⟩⟩
theorem wI(h:PA X es t):PE X (.List es pos) (Rl t):=by
 intro pins s σ H Q I hq;refine wpAny_List_spliced (bX (h pos pins s σ H _ I hq) fun us s1 ⟨xs,H1,I1,r,z,q⟩=>⟨by rw[<- r.length];exact z,?_⟩);have hf:H1 s1.heap.objs.size=none:=I1.bx.fresh (le_refl _);refine⟨.ref s1.heap.objs.size,upd H1 s1.heap.objs.size (.lst xs),I1.laid (t':=s1.toks) (fun b u e=>get?_push_of_some _ e) (le_refl _) ?_,rfl,q _ hf⟩;exact⟨z,us,0,r,get?_push_size _ rfl⟩
abbrev Sp:=List V->Hp->VK->XK->Prop
abbrev vh:=List Env->Hp->Shared->XK->Value->Shared->Prop
structure Cm (P:Program) (w:World) (K:Frag) (mg:Str->Option Value) (base:Heap) (A:Around) (outer:List Env) (s:Shared) (H:Hp):Prop where
 frames:A.frames=some outer
 mod:Mod K mg base
 bs:∀b o,base.get? b=some o->s.heap.get? b=some o/\H b=none
 v7:base.objs.size<=s.heap.objs.size
 lu:s.heap.FunFrames base outer
 Ah:∀b∈jQ outer,H b=none
 bx:gH P w H s.heap
 bare:AllBare s.gens
def CE (outer:List Env) (P:Program) (w:World) (H:Hp) (s:Shared) (Q:VK) (u:Value) (s':Shared):Prop:=
 ∃v H',s'.os=s.os/\AllBare s'.gens/\Un (jQ outer) [] H H' s.heap s'.heap/\gH P w H' s'.heap/\RelV v u/\Q v H'
def CR (CX:vh) (outer:List Env) (P:Program) (w:World) (H:Hp) (s:Shared) (Q:VK) (E:XK) (r:Result) (s':Shared):Prop:=
 match r with
 | .ok (.ret u)=>CE outer P w H s Q u s'
 | .ok _=>False
 | .error e=>CX outer H s E e s'
structure fQ (P:Program) (w:World) (K:Frag) (mg:Str->Option Value) (base:Heap) (CX:vh) (k:Nat) (f:Addr) (fd:FuncData) (ps:List Str) (sp:Sp):Prop where
 len:∀vs H Q E,sp vs H Q E->vs.length=ps.length
 run:∀(A:Around) (outer:List Env) (s:Shared) (H:Hp) (args:Args) (us:List Value) (vs:List V) (Q:VK) (E:XK),bS k A->Cm P w K mg base A outer s H->BindsTo s fd args (ps.zip us)->Vals vs us->sp vs H Q E->
  codeAny (model P w) A (.call (.ref f) args) (CR CX outer P w H s Q E) s
variable {mg:Str->Option Value} {base:Heap} {CX:vh} {f:Addr} {fd:FuncData} {ps:List Str} {sp:Sp}
theorem fQ.mono(F:fQ P w K mg base CX j f fd ps sp)(h:j<=k):
  fQ P w K mg base CX k f fd ps sp:=⟨F.len,fun A outer s H args us vs Q E hr=>F.run A outer s H args us vs Q E (hr.mono h)⟩
theorem fQ.imp{P6:Sp}(F:fQ P w K mg base CX k f fd ps sp)(h:∀vs H Q E,P6 vs H Q E->sp vs H Q E):fQ P w K mg base CX k f fd ps P6:=
 ⟨fun vs H Q E q=>F.len vs H Q E (h _ _ _ _ q),fun A outer s H args us vs Q E hr he hb hv hs=>F.run A outer s H args us vs Q E hr he hb hv (h _ _ _ _ hs)⟩
variable {s:Shared} in
theorem Inv.S7(I:Inv X pins σ H s):Cm X.prog X.w X.K X.mg X.base X.A X.stack s H:=
 ⟨I.ok.frames,I.ok.mod,I.bs,le_trans I.ok.v7 I.sz,I.stack,I.t9,I.bx,I.bare⟩
variable {u:Value}
variable {s:Shared} in
theorem Inv.after(I:Inv X pins σ H s)(h:CE X.stack X.prog X.w H s Q u s'):EP X pins σ Q u s':=by
 obtain⟨v,H',os,bare,un,bx,r,q⟩:=h;obtain⟨hh,g,d,t,SM⟩:=s';obtain rfl:SM=s.os:=os;exact⟨v,H',I.call (h':=hh) (g':=g) (d':=d) (t':=t) (ch:=[]) un bx bare (fun b z=>absurd z (by simp)),r,q⟩
def HK (sp:Sp) (uX:List V) (E:XK) (t:TA):TE:=fun σ H Q=>t σ H fun vs H1=>sp (vs++uX) H1 Q E
def Binds (K:Frag) (fd:FuncData) (ps:List Str) (ds:List Value):Prop:=
 ∀(s:Shared) (us:List Value),K.In s.heap->(us++ds).length=ps.length->BindsTo s fd ⟨us,[]⟩ (ps.zip (us++ds))
theorem Binds.all(h:∀us:List Value,us.length=ps.length->bindArgs fd ⟨us,[]⟩=pure (ps.zip us)):Binds K fd ps []:=fun s us _ hl=>by
 rw[append_nil]at hl ⊢;exact .of_eq (h us hl)
def Passes (CX:vh) (X:Cx) (E:XK):Prop:=∀(pins:List (Addr×Obj)) (σ:St) (H:Hp) (s:Shared) (e:Value) (s':Shared),Inv X pins σ H s->CX X.stack H s E e s'->X.xe e s'
variable {E:XK} {ds:List Value} {uX:List V}
theorem Ll{σ:St}{s:Shared}{vs:List V}(F:fQ X.prog X.w X.K X.mg X.base CX k f fd ps sp)(hr:bS k X.A)(hb:Binds X.K fd ps ds)(hd:Vals uX ds)(hx:Passes CX X E)(I:Inv X pins σ H s)(r:Vals vs us)(h:sp (vs++uX) H Q E):wpAny (model X.prog X.w) X.A (call (.ref f) us) (EP X pins σ Q) X.xe s:=by
 have r2:Vals (vs++uX) (us++ds):=r.append hd;have hl:(us++ds).length=ps.length:=by rw[<- r2.length];exact F.len _ _ _ _ h
 refine wpAny_call (codeAny_mono (F.run X.A X.stack s H ⟨us,[]⟩ (us++ds) (vs++uX) Q E hr I.S7 (hb s us I.nU hl) r2 h) fun r s' hq=>?_);cases r with
 |error e=>exact hx pins σ H s e s' I hq
 |ok fl=>
  cases fl with
  |ret u=>exact I.after hq
  |next=>exact False.elim hq
  |brk=>exact False.elim hq
  |cont=>exact False.elim hq
variable {p:Pos}
theorem pU(F:fQ X.prog X.w X.K X.mg X.base CX k f fd ps sp)(hr:bS k X.A)(hg:Gl X x)(hm:X.mg x=some (.ref f))(hk:keepIn X.K (.ref f)=true)(hb:Binds X.K fd ps ds)(hd:Vals uX ds)(hx:Passes CX X E)(ha:PA X (e::es) t)(iq:(x==("__debug__" : Str))=false:=by decide)(he:starEach (e::es) X.env=(false,eval e X.env)::starEach es X.env:=by rfl)(dm:(backTo pos (starEach es X.env)).any (·.1)=false:=by rfl):
  PE X (.Call (.Name x p) (e::es) [] pos) (HK sp uX E t):=by
 intro pins s σ H Q I h;refine wpAny_Call_Name_kw (A5 I hg hm ?_ iq);refine PySem.W.callWith_K (h₀:=X.base) I.ok.mod.rT hk (bX (ha pos pins s σ H _ I h) fun us s1 ⟨vs,H1,I1,r,q⟩=>⟨I1.nU,?_⟩) he dm;exact Ll F hr hb hd hx I1 r q
structure fD (N P:List Str) (sc:Scope):Prop where
 kind:sc.kind=.function
 co:sc.isCoroutine=false
 gen:sc.isGenerator=false
 nd:N.Nodup
 pre:N.take P.length=P
 par:∀x∈P,sc.names.lookup x=some .local\/sc.names.lookup x=some .cell
 M0:∀y∈sc.names,y.2≠.free
theorem v8{kindOf:Str->Option NameKind}{x:Str}:∀{binds:List (Str×Value)} {m:Str->Option Value},(∀v,(x,v)∉binds)->bindL kindOf binds m x=m x
 |[],_,_=>rfl
 |(n,v)::r,m,h=>by
  unfold bindL;rw[v8 fun w hw=>h w (mem_cons_of_mem _ hw)];split
  ·have:x≠n:=by rintro rfl;exact h v mem_cons_self
   simp[this]
  ·rfl
theorem vc{kindOf:Str->Option NameKind}{x:Str}:∀{binds:List (Str×Value)} {m:Str->Option Value},(∀v,(x,v)∉binds)->bindC kindOf binds m x=m x
 |[],_,_=>rfl
 |(n,v)::r,m,h=>by
  unfold bindC;rw[vc fun w hw=>h w (mem_cons_of_mem _ hw)];split
  ·rfl
  ·have:x≠n:=by rintro rfl;exact h v mem_cons_self
   simp[this]
theorem v9{kindOf:Str->Option NameKind}{x:Str}{v:Value}:∀{P:List Str} {vs:List Value} {i:Nat} {m:Str->Option Value},P.Nodup->P[i]?=some x->vs[i]?=some v->kindOf x=some .local->
  bindL kindOf (P.zip vs) m x=some v
 |[],_,_,_,_,h,_,_=>by simp at h
 |_::_,[],_,_,_,_,h,_=>by simp at h
 |p::P,w::vs,0,m,nd,h1,h2,hk=>by
  simp at h1 h2;subst h1;subst h2;show bindL kindOf ((p,w)::P.zip vs) m p=_;unfold bindL;rw[v8 fun v hv=>(nodup_cons.mp nd).1 (of_mem_zip hv).1,if_pos hk];simp
 |p::P,w::vs,i+1,m,nd,h1,h2,hk=>by
  show bindL kindOf ((p,w)::P.zip vs) m x=_;unfold bindL;exact v9 (i:=i) (nodup_cons.mp nd).2 (by simpa using h1) (by simpa using h2) hk
theorem vd{kindOf:Str->Option NameKind}{x:Str}{v:Value}:∀{P:List Str} {vs:List Value} {i:Nat} {m:Str->Option Value},P.Nodup->P[i]?=some x->vs[i]?=some v->kindOf x≠some .local->
  bindC kindOf (P.zip vs) m x=some v
 |[],_,_,_,_,h,_,_=>by simp at h
 |_::_,[],_,_,_,_,h,_=>by simp at h
 |p::P,w::vs,0,m,nd,h1,h2,hk=>by
  simp at h1 h2;subst h1;subst h2;show bindC kindOf ((p,w)::P.zip vs) m p=_;unfold bindC;rw[vc fun v hv=>(nodup_cons.mp nd).1 (of_mem_zip hv).1,if_neg hk];simp
 |p::P,w::vs,i+1,m,nd,h1,h2,hk=>by
  show bindC kindOf ((p,w)::P.zip vs) m x=_;unfold bindC;exact vd (i:=i) (nodup_cons.mp nd).2 (by simpa using h1) (by simpa using h2) hk
def start (N:List Str) (vs:List V):St:=vs.map some++List.replicate (N.length-vs.length) none
def gw (CX:vh) (P:Program) (w:World) (K:Frag) (mg:Str->Option Value) (base:Heap) (N:List Str) (qual:Str) (scope:Scope) (f:Addr) (cd:Value) (A:Around) (outer:List Env) (s:Shared) (H:Hp) (E:XK):Cx where
 prog:=P
 w:=w
 K:=K
 mg:=mg
 base:=base
 A:=A.deeper (envOfC qual scope s.heap.objs.size f cd)
 N:=N
 aI:=s
 ag:=H
 env:=envOfC qual scope s.heap.objs.size f cd
 outer:=outer
 stack:=envOfC qual scope s.heap.objs.size f cd::outer
 ex:=[]
 calm:=true
 fn:=fun _=>true
 pn:=[]
 xe:=fun e s'=>wpAny (model P w) (A.deeper (envOfC qual scope s.heap.objs.size f cd)) (leaving (envOfC qual scope s.heap.objs.size f cd) e) (fun _ mx=>CX outer H s E e mx) (fun e' mx=>CX outer H s E e' mx) s'
variable {n:Nat}
theorem yg{sc:Scope}(h:sc.names.lookup x=some .cell):∃c,(cellsFrom n sc.names []).lookup x=some c:=by
 have q:=PySem.W.cellsFrom_some sc.names n [] (.inl h);exact Option.isSome_iff_exists.mp q
variable {qual:Str} {scope:Scope}
theorem DK{cd:Value}{outer:List Env}{s s1:Shared}{vs:List V}(S:fD N ps scope)(hd:A.handled=none)(e0:Cm P w K mg base A outer s H)(hl:vs.length=ps.length)(r:Vals vs us)(x:InCallC s s.heap.objs.size (bindL (envOfC qual scope s.heap.objs.size f cd).kindOf (ps.zip us) fun _=>none) (cellsFrom (s.heap.objs.size+1) scope.names []) (bindC (envOfC qual scope s.heap.objs.size f cd).kindOf (ps.zip us) fun _=>none) s1):
  Inv (gw CX P w K mg base N qual scope f cd A outer s H E) [] (start N vs) H s1:=by
 have dm:ps.length<=N.length:=by have:=congrArg List.length S.pre;rw[length_take]at this;omega
 obtain⟨h1,tk,rfl,hk⟩:=x.done;have Dw:∀b:Addr,b∉(gw CX P w K mg base N qual scope f cd A outer s H E).ex:=fun b z=>absurd (show b∈([]:List Addr)from z) (by simp);refine⟨⟨e0.mod,S.kind,rfl,rfl,le_refl _,fun y z c h1 h2=>?_,fun y hy=>?_,fun y c _ h=>?_,fun _=>hd,Around.frames_deeper e0.frames,.inr ⟨rfl,rfl⟩,fun b z=>absurd z (Dw b),e0.bs,e0.v7,fun b _ _=>Dw b,fun b z=>absurd z (Dw b),e0.lu,e0.Ah⟩,
  rfl,e0.bare,Un.kept hk,⟨_,x.toInCall.ns,fun i y v h1 h2 h3=>?_⟩,fun y c h=>⟨_,x.cell y c h⟩,e0.bx.fresh (le_refl _),fun y c h=>?_,fun p hp=>absurd (show p∈([]:List (Addr×Obj))from hp) (by simp),e0.bx.kept hk,?_⟩
 ·exact name_of_addr x.apart (PySem.mem_of_lookup h1) (PySem.mem_of_lookup h2)
 ·have hy:scope.names.lookup y=some .cell\/scope.names.lookup y=some .free:=hy;rcases hy with hy|hy
  ·exact yg hy
  ·exact absurd rfl (S.M0 _ (PySem.mem_of_lookup hy))
 ·exact Nat.le_of_lt (x.above y c (PySem.mem_of_lookup h))
 ·have hi:i<vs.length:=by
   unfold start at h2;by_cases hi:i<vs.length
   ·exact hi
   ·rw[getElem?_append_right (by simpa using hi)]at h2;rw[getElem?_replicate]at h2;split at h2<;>cases h2
  have ha:vs[i]?=some v:=by
   unfold start at h2;rw[getElem?_append_left (by simpa using hi),getElem?_map]at h2;cases e:vs[i]? with
   |none=>rw[e]at h2;cases h2
   |some a=>rw[e]at h2;cases h2;rfl
  obtain⟨u,hu,rv⟩:=r.get ha;have hp:ps[i]?=some y:=by
   rw[<- S.pre,List.getElem?_take_of_lt (by omega)];exact h1
  have Pn:ps.Nodup:=by rw[<- S.pre];exact S.nd.sublist (List.take_sublist _ _)
  refine⟨u,rv,?_⟩;rcases S.par y (mem_of_getElem? hp)with k|k
  ·exact .inl ⟨k,v9 Pn hp hu k⟩
  ·obtain⟨c,e⟩:=yg (n:=s.heap.objs.size+1) k;refine .inr ⟨.inl k,c,e,?_⟩;have q:=x.cell y c e;rw[vd Pn hp hu (by show scope.names.lookup y≠_;rw[k];decide)]at q;exact q
 ·exact e0.bx.fresh (Nat.le_of_lt (x.above y c (PySem.mem_of_lookup h)))
 ·unfold start;show _=N.length;rw[length_append,length_map,length_replicate];omega
variable {doc pm ba ct oc:Value} {an od:Option Addr} {qi:Array (Option Value)}
theorem OI{name:Str}{params:Arguments}{dV kV:Value}(lk:K.lookup f=some ⟨oc,od,.func (fnOf name qual params body scope dV kV doc pm an ba ct),qi⟩)(gD:codeIn K ba qual=true)(S:fD N ps scope)(len:∀vs H Q E,sp vs H Q E->vs.length=ps.length)(hbody:∀(A:Around) (outer:List Env) (s:Shared) (H:Hp) (vs:List V) (Q:VK) (E:XK),bS k (A.deeper (envOfC qual scope s.heap.objs.size f ba))->sp vs H Q E->
   ∃t,jX (gw CX P w K mg base N qual scope f ba A outer s H E) body t/\t {nx:=fun _ H'=>Q .bI H',rt:=Q} (start N vs) H):
  fQ P w K mg base CX (k+1) f (fnOf name qual params body scope dV kV doc pm an ba ct) ps sp:=by
 refine⟨len,fun A outer s H args us vs Q E hr e0 hb r ke=>?_⟩;have hl:=len _ _ _ _ ke;have KX:K.In s.heap:=e0.mod.rT.keeps fun b o e=>(e0.bs b o e).1;have lim:s.heap.NoLimit:=e0.mod.nolimit.keeps fun b o e=>(e0.bs b o e).1;have OB:∀y∈ps.zip us,scope.names.lookup y.1=some .local\/(scope.names.lookup y.1=some .cell/\((cellsFrom (s.heap.objs.size+1) scope.names []).lookup y.1).isSome=true):=fun⟨n,v⟩ hy=>by
  rcases S.par n (of_mem_zip hy).1 with q|q
  ·exact .inl q
  ·exact .inr ⟨q,PySem.W.cellsFrom_some _ _ _ (.inl q)⟩
 refine codeAny_call_function hr.depth (KX _ _ lk) rfl S.co S.gen rfl (PySem.W.codeRec_of KX gD) (hb _ _ _ _ ?_);refine wpAny_newFunctionEnv_cells S.kind OB fun env he s1 x=>?_;subst he;refine⟨lim.keeps x.toInCall.keep,codeAny_func ?_⟩;obtain⟨t,ht,hq⟩:=hbody A outer s H vs Q E (hr.deeper _) ke;have I:Inv (gw CX P w K mg base N qual scope f ba A outer s H E) [] (start N vs) H s1:=DK S hr.hd e0 hl r x;refine wpAny_mono (ht [] s1 (start N vs) H _ I hq) (fun fl s' hs=>?_) fun e s' hs=>hs;have fin:∀{bz:St} {H':Hp} {v:V} {u:Value},Inv (gw CX P w K mg base N qual scope f ba A outer s H E) [] bz H' s'->RelV v u->Q v H'->CE outer P w H s Q u s':=
  fun{bz H' v u} J rv q=>⟨v,H',J.os,J.bare,J.base,J.bx,rv,q⟩
 cases fl with
 |ret u=>
  obtain⟨v,bz,H',J,rv,q⟩:=hs;exact fin J rv q
 |next=>
  obtain⟨bz,H',J,q⟩:=hs;exact fin (v:=V.bI) (u:=Value.none) J rfl q
 |brk=>
  obtain⟨_,_,_,q⟩:=hs;exact False.elim q
 |cont=>
  obtain⟨_,_,_,q⟩:=hs;exact False.elim q
open PySem PySem.Spec PyProof.Rows
variable {r:List V->Hp->VK->Prop}
def La (r:List V->Hp->VK->Prop) (t:TA):TE:=fun σ H Q=>t σ H fun vs H1=>r vs H1 Q
variable {id:String}
theorem wJ(hc:jf X (.builtin id) r)(hg:Gl X x)(hm:X.mg x=none)(hv:bootBuiltins x=some (.builtin id))(ha:PA X (e::es) t)(hn:x≠"__name__":=by decide)(iq:(x==("__debug__" : Str))=false:=by decide)(he:starEach (e::es) X.env=(false,eval e X.env)::starEach es X.env:=by rfl)(dm:(backTo pos (starEach es X.env)).any (·.1)=false:=by rfl):PE X (.Call (.Name x p) (e::es) [] pos) (La r t):=by
 intro pins s σ H Q I h;refine wpAny_Call_Name_kw (mK I hg hm hv ?_ hn iq);exact PyProof.Rows.callWith_builtin1 (bX (ha pos pins s σ H _ I h) fun us s1 ⟨vs,H1,I1,r1,q1⟩=>hc pins s1 σ H1 vs us Q I1 r1 q1) he dm
variable {T:String}
theorem oN(hc:jf X (.type T) r)(hg:Gl X x)(hm:X.mg x=none)(hv:bootBuiltins x=some (.type T))(ha:PA X (e::es) t)(hn:x≠"__name__":=by decide)(iq:(x==("__debug__" : Str))=false:=by decide)(he:starEach (e::es) X.env=(false,eval e X.env)::starEach es X.env:=by rfl)(dm:(backTo pos (starEach es X.env)).any (·.1)=false:=by rfl):PE X (.Call (.Name x p) (e::es) [] pos) (La r t):=by
 intro pins s σ H Q I h;refine wpAny_Call_Name_kw (mK I hg hm hv ?_ hn iq);exact PyProof.Rows.callWith_type1 (bX (ha pos pins s σ H _ I h) fun us s1 ⟨vs,H1,I1,r1,q1⟩=>hc pins s1 σ H1 vs us Q I1 r1 q1) he dm
end
end L2
namespace HT
noncomputable section
open PySem PyProof.Rows
def bU (n d:Nat):Option Int->Nat
 |none=>d
 |some v=>if v<0 then(v+(n:Int)).toNat else min v.toNat n
theorem w9(n d:Nat):bU n d none=d:=rfl
theorem tp(n d k:Nat):bU n d (some (k:Int))=min k n:=by
 show(if(k:Int)<0 then((k:Int)+(n:Int)).toNat else min (k:Int).toNat n)=min k n;rw[if_neg (by omega),toNat_natCast]
theorem Lj(n d:Nat)(hd:d<=n)(o:Option Int):bU n d o<=n:=by
 cases o with
 |none=>exact hd
 |some v=>
  show(if v<0 then(v+(n:Int)).toNat else min v.toNat n)<=n;by_cases hv:v<0
  ·rw[if_pos hv];omega
  ·rw[if_neg hv];exact Nat.min_le_right _ _
theorem AB(v:Int)(n d:Nat):(if v<0 then max (v+(n:Int)) 0 else min v (n:Int))=((bU n d (some v):Nat):Int):=by
 show(if v<0 then max (v+(n:Int)) 0 else min v (n:Int))=(((if v<0 then(v+(n:Int)).toNat else min v.toNat n):Nat):Int);by_cases hv:v<0
 ·simp only[if_pos hv];omega
 ·simp only[if_neg hv];omega
theorem BY(lo hi:Option Int)(n:Nat):Builtin.Slice.sliceAdjust lo hi 1 (n:Int)=(((bU n 0 lo:Nat):Int),((bU n n hi:Nat):Int)):=by
 have h1:¬((1:Int)<0):=by omega
 unfold Builtin.Slice.sliceAdjust;simp only[h1,if_false];refine Prod.ext ?_ ?_
 ·cases lo with
  |none=>rfl
  |some v=>exact AB v n 0
 ·cases hi with
  |none=>rfl
  |some v=>exact AB v n n
theorem Bg(i j:Nat):Builtin.Slice.slicePlaces (i:Int) (j:Int) 1=j-i:=by
 unfold Builtin.Slice.slicePlaces;have h1:(1:Int)>0:=by omega
 simp only[h1,if_true,Int.ediv_one];split<;>omega
variable {w:World} {E:Value->Shared->Prop} {A:Around} {prog:Program} {v:Value}
variable {s:Shared} in
theorem rF{o:Option Int}{Q:Option Int->Shared->Prop}(p:IsPart v o)(h:Q o s):wpAny (model prog w) A (Builtin.Slice.slicePartIndex v) Q E s:=by
 cases p with
 |none=>exact slicePart_none h
 |int i t=>exact slicePart_int h
variable {n:Nat}
variable {s:Shared} in
theorem qE{sl:Addr}{vl vu:Value}{lo hi:Option Int}{Q:Int×Int×Nat->Shared->Prop}(hs:s.heap.IsSliceOf sl vl vu .none)(pl:IsPart vl lo)(pu:IsPart vu hi)(h:Q (((bU n 0 lo:Nat):Int),1,bU n n hi-bU n 0 lo) s):wpAny (model prog w) A (Builtin.Slice.sliceApplied (.ref sl) (pure (n:Int))) Q E s:=by
 obtain⟨os,lj,PZ,IA⟩:=id hs;unfold Builtin.Slice.sliceApplied Builtin.Slice.sliceFields;refine wpAny_bind (wpAny_bind (wpAny_field lj IA (x:=vl) rfl (wpAny_bind (wpAny_field lj IA (x:=vu) rfl (wpAny_bind (wpAny_field lj IA (x:=.none) rfl (wpAny_pure ?_)))))));refine wpAny_bind (slicePart_none ?_);show wpAny _ _ (if((1:Int)==0)=true then _ else _) _ _ s;rw[if_neg (by decide)];refine wpAny_bind (rF pl (wpAny_bind (rF pu (wpAny_bind (wpAny_pure ?_)))));show wpAny _ _ (match Builtin.Slice.sliceAdjust lo hi 1 (n:Int)with|(lo,hi)=>pure (lo,(1:Int),Builtin.Slice.slicePlaces lo hi 1)) _ _ s
 rw[BY lo hi n];show wpAny _ _ (pure (((bU n 0 lo:Nat):Int),(1:Int),Builtin.Slice.slicePlaces ((bU n 0 lo:Nat):Int) ((bU n n hi:Nat):Int) 1)) _ _ s;rw[Bg];exact wpAny_pure h
theorem FU(xs:Array Value)(i k:Nat):((List.range k).filterMap fun(m:Nat)=>xs[((i:Int)+(m:Int)*1).toNat]?).toArray=((xs.toList.drop i).take k).toArray:=by
 have e:(fun(m:Nat)=>xs[((i:Int)+(m:Int)*1).toNat]?)=fun m=>xs[i+m]?:=by
  funext m
  have:((i:Int)+(m:Int)*1).toNat=i+m:=by omega
  rw[this]
 rw[e];have:=pick_run xs i k;rw[List.filterMap_map]at this;have e2:((fun x=>xs[x]?) ∘ fun x=>i+x)=fun m=>xs[i+m]?:=rfl;rw[e2]at this;rw[this]
variable {Q:Value->Shared->Prop}
variable {s:Shared} in
theorem qc{t sl:Addr}{items:Array Value}{vl vu:Value}{lo hi:Option Int}(ht:IsTup s.heap t items)(hs:s.heap.IsSliceOf sl vl vu .none)(pl:IsPart vl lo)(pu:IsPart vu hi)(hw:¬(bU items.size 0 lo=0/\bU items.size items.size hi=items.size))(h:Q (.ref s.heap.objs.size) {s with heap:=s.heap.push {cls:=.type "tuple",data:=.seq ((items.toList.drop (bU items.size 0 lo)).take (bU items.size items.size hi-bU items.size 0 lo)).toArray}})(hsz:items.size<=sizeLine):wpAny (model prog w) A (getItem (.ref t) (.ref sl)) Q E s:=by
 have vE:sizeOk (.seq ((items.toList.drop (bU items.size 0 lo)).take (bU items.size items.size hi-bU items.size 0 lo)).toArray):=by
  show((items.toList.drop (bU items.size 0 lo)).take (bU items.size items.size hi-bU items.size 0 lo)).toArray.size<=sizeLine;rw[size_toArray,length_take,length_drop,length_toList];omega
 have hj:bU items.size items.size hi<=items.size:=Lj _ _ (le_refl _) hi;obtain⟨os,lj,PZ,IA⟩:=id hs;have TJ:s.TypeIs (.ref sl) "slice":=⟨os,lj,PZ⟩;unfold getItem;try with_reducible refine wpAny_holding ?_
 first|refine wpAny_bind (wpAny_pure ?_)|skip
 refine wpAny_bind (wpAny_sequenceKey ht.typeIs (by decide) ?_);refine wpAny_bind (wpAny_callSpecial?_slot (name:=Str.ofString "__getitem__") ht.typeIs PyProof.Rows.slot_tuple_getitem
  (wpAny_call_entry PyProof.Rows.slot_tuple_getitem ht.typeIs entry_tuple_getitem ?_ (args_tuple_getitem _ _)))
 show wpAny _ _ (Builtin.Tuple.tupleItemsOf (.ref t) >>= _) _ _ s;refine wpAny_bind (tupleItemsOf_ ht ?_);refine wpAny_bind (wpAny_typeOf TJ ?_);rw[if_pos (by decide)];refine wpAny_bind (qE hs pl pu ?_);have xy:¬((((bU items.size 0 lo:Nat):Int)==0&&(1:Int)==1&&(bU items.size items.size hi-bU items.size 0 lo)==items.size)=true):=by
  intro q;rw[and_eq_true,and_eq_true]at q;have q1:((bU items.size 0 lo:Nat):Int)=0:=eq_of_beq q.1.1;have q2:bU items.size items.size hi-bU items.size 0 lo=items.size:=eq_of_beq q.2;exact hw ⟨by omega,by omega⟩
 show wpAny _ _ (if(((bU items.size 0 lo:Nat):Int)==0&&(1:Int)==1&&(bU items.size items.size hi-bU items.size 0 lo)==items.size)=true then _ else _) _ _ s;rw[if_neg xy,FU];first
  |exact wpAny_bind (m:=Builtin.Tuple.tupleExact _) (wpAny_newObj_type (wpAny_pure ⟨_,rfl,wpAny_pure h⟩) vE)
  |exact wpAny_bind (m:=Builtin.Tuple.tupleExact _) (wpAny_newObj_type (wpAny_bind (wpAny_pure (wpAny_pure ⟨_,rfl,wpAny_pure h⟩))) vE)
  |exact wpAny_bind (wpAny_bind (m:=Builtin.Tuple.tupleExact _) (wpAny_newObj_type (wpAny_pure (wpAny_pure ⟨_,rfl,wpAny_pure h⟩)) vE))
  |exact wpAny_bind (wpAny_bind (m:=Builtin.Tuple.tupleExact _) (wpAny_newObj_type (wpAny_pure ⟨_,rfl,wpAny_pure h⟩) vE))
end
end HT
namespace L2
noncomputable section
open PySem PySem.Spec PyProof.Rows
abbrev TO:=St->Hp->(Option Int->Hp->Prop)->Prop
def PO (X:Cx) (e:Option Expr) (t:TO):Prop:=
 ∀(pins:List (Addr×Obj)) (s:Shared) (σ:St) (H:Hp) (Q:Option Int->Hp->Prop),Inv X pins σ H s->t σ H Q->
  wpAny (model X.prog X.w) X.A (evalPart e X.env) (fun u s'=>∃o H',Inv X pins σ H' s'/\IsPart u o/\Q o H') X.xe s
def Jf:TO:=fun _ H Q=>Q none H
def O0 (t:TE):TO:=fun σ H Q=>t σ H fun x H1=>∃i,x=.int i/\Q (some i) H1
variable {X:Cx}
theorem JF:PO X none Jf:=by
 intro pins s σ H Q I h;rw[evalPart_none];exact wpAny_pure ⟨none,H,I,.none,h⟩
variable {te:TE} {e:Expr}
theorem JE(h:PE X e te):PO X (some e) (O0 te):=by
 intro pins s σ H Q I hw;rw[evalPart_some];refine bX (h pins s σ H _ I hw) fun u s1 ⟨x,H1,I1,r1,q1⟩=>?_;obtain⟨i,rfl,q⟩:=q1;obtain⟨t,rfl⟩:=r1;exact⟨some i,H1,I1,.int i t,q⟩
variable {lo hi:Option Expr} in
def yu (X:Cx) (r:V->Option Int->Option Int->Hp->VK->Prop):Prop:=
 ∀(pins:List (Addr×Obj)) (s:Shared) (σ:St) (H:Hp) (x:V) (v vl vu:Value) (lo hi:Option Int) (sl:Addr) (Q:VK),Inv X pins σ H s->RelV x v->s.heap.IsSliceOf sl vl vu .none->IsPart vl lo->IsPart vu hi->r x lo hi H Q->
  ∃T id,typeLookup (.type T) "__getitem__"=pure (some (.builtin id))/\s.TypeIs v T/\wpAny (model X.prog X.w) X.A (getItem v (.ref sl)) (EP X pins σ Q) X.xe s
variable {lo hi:Option Expr} in
theorem yu.or{r r':V->Option Int->Option Int->Hp->VK->Prop}(h:yu X r)(h':yu X r'):yu X (fun x lo hi H Q=>r x lo hi H Q\/r' x lo hi H Q):=by
 intro pins s σ H x v vl vu lo hi sl Q I rx hs pl pu q;rcases q with q|q
 ·exact h pins s σ H x v vl vu lo hi sl Q I rx hs pl pu q
 ·exact h' pins s σ H x v vl vu lo hi sl Q I rx hs pl pu q
variable {tl th:TO}
def Sy (r:V->Option Int->Option Int->Hp->VK->Prop) (te:TE) (tl th:TO):TE:=fun σ H Q=>te σ H fun x H1=>tl σ H1 fun l H2=>th σ H2 fun u H3=>r x l u H3 Q
variable {pos p2:Pos}
variable {lo hi:Option Expr} in
theorem FX{r:V->Option Int->Option Int->Hp->VK->Prop}(hr:yu X r)(he:PE X e te)(hl:PO X lo tl)(hu:PO X hi th):PE X (.Subscript e (.Slice lo hi none p2) pos) (Sy r te tl th):=by
 intro pins s σ H Q I h;refine Subscript_ (bX (he pins s σ H _ I h) fun v s1 ⟨x,H1,I1,r1,q1⟩=>?_);refine wpAny_Slice (bX (hl pins s1 σ H1 _ I1 q1) fun vl s2 ⟨l,H2,I2,pl,q2⟩=>bX (hu pins s2 σ H2 _ I2 q2) fun vu s3 ⟨u,H3,I3,pu,q3⟩=>?_);rw[evalPart_none];refine wpAny_pure ?_;have I4:Inv X pins σ H3 {s3 with heap:=s3.heap.push {cls:=.type "slice",data:=.fields #[vl,vu,.none]}}:=I3.kept (t':=s3.toks) fun b ob q=>get?_push_of_some _ q;obtain⟨T,id,hT,ht,hg⟩:=hr pins {s3 with heap:=s3.heap.push {cls:=.type "slice",data:=.fields #[vl,vu,.none]}} σ H3 x v vl vu l u s3.heap.objs.size Q I4 r1 (Heap.IsSliceOf.new ..) pl pu q3;show wpAny (model X.prog X.w) X.A (subscriptTail e (.Slice lo hi none p2) v (.ref s3.heap.objs.size)) (EP X pins σ Q) X.xe {s3 with heap:=s3.heap.push {cls:=.type "slice",data:=.fields #[vl,vu,.none]}};exact tail_any (ops:=[.ref s3.heap.objs.size,v]) ht hT hg (by with_unfolding_all rfl)
variable {hi lo:Option Expr} in
def pB (xs:List V) (lo hi:Option Int):List V:=(xs.drop (HT.bU xs.length 0 lo)).take (HT.bU xs.length xs.length hi-HT.bU xs.length 0 lo)
theorem qy(xs:List V)(lo hi:Option Int):(pB xs lo hi).length<=xs.length:=by
 unfold pB;rw[length_take,length_drop];omega
variable {lo hi:Option Expr} in
def Rt (K:Frag):V->Option Int->Option Int->Hp->VK->Prop:=fun x lo hi H Q=>∃a xs,x=.ref a/\i7 K H a xs/\
 ¬(HT.bU xs.length 0 lo=0/\HT.bU xs.length xs.length hi=xs.length)/\∀p,H p=none->Q (.ref p) (upd H p (.tup (pB xs lo hi)))
theorem Ld:yu X (Rt X.K):=by
 intro pins s σ H x v vl vu lo hi sl Q I rx hs pl pu h;obtain⟨a,xs,rfl,hx,hw,q⟩:=h;cases rx;obtain⟨aq,r,ht,hz⟩:=I.tuple hx;have hlen:aq.toArray.size=xs.length:=by rw[size_toArray];exact r.length.symm
 refine⟨"tuple",_,PyProof.Rows.slot_tuple_getitem.lookup,ht.typeIs,?_⟩;refine HT.qc ht hs pl pu (by rw[hlen];exact hw) ?_ (by rw[hlen];exact hz);rw[hlen];refine⟨.ref s.heap.objs.size,_,I.laid (t':=s.toks) (o:=.tup (pB xs lo hi)) (fun b ob q=>get?_push_of_some _ q) (le_refl _) ?_,rfl,q _ (I.bx.fresh (le_refl _))⟩;exact⟨le_trans (qy xs lo hi) hz,_,(r.drop (HT.bU xs.length 0 lo)).take (HT.bU xs.length xs.length hi-HT.bU xs.length 0 lo),IsTup.new _ _⟩
variable {xs:List V}
theorem Vals.pW{us:List Value}(r:Vals xs us):us=[]↔xs=[]:=by
 cases r with
 |nil=>simp
 |cons _ _=>simp
open PySem PySem.Spec PyProof.Rows
def qk (n:Nat) (i:Int):Option Nat:=if 0<=i then(if i<n then some i.toNat else none)else if -(n:Int)<=i then some (i+n).toNat else none
def gE {α:Type} (xs:List α) (i:Int):Option α:=(qk xs.length i).bind fun j=>xs[j]?
variable {n j:Nat}
theorem A7{i:Int}(h:qk n i=some j):seqIndex? i n=some j/\j<n/\-(n:Int)<=i/\i<n:=by
 unfold qk at h;by_cases h0:0<=i
 ·rw[if_pos h0]at h;by_cases h1:i<n
  ·rw[if_pos h1]at h;have e:i.toNat=j:=Option.some.inj h;exact⟨by rw[seqIndex_of h0 h1,e],by omega,by omega,h1⟩
  ·rw[if_neg h1]at h;cases h
 ·rw[if_neg h0]at h;by_cases h1: -(n:Int)<=i
  ·rw[if_pos h1]at h;have e:(i+n).toNat=j:=Option.some.inj h;exact⟨by rw[seqIndex_neg (by omega) h1,e],by omega,h1,by omega⟩
  ·rw[if_neg h1]at h;cases h
variable {α:Type}
theorem AH{xs:List α}{i:Int}{v:α}(h:gE xs i=some v):∃j,seqIndex? i xs.length=some j/\xs[j]?=some v/\j<xs.length/\-(xs.length:Int)<=i/\i<xs.length:=by
 unfold gE at h;cases e:qk xs.length i with
 |none=>rw[e]at h;cases h
 |some j=>
  rw[e]at h;obtain⟨h1,h2,h3,h4⟩:=A7 e;exact⟨j,h1,h,h2,h3,h4⟩
def uc (b:Expr):Prop:=∀o i,subscripted b false o i=operate [o,i] (getItem o i)
def yC (X:Cx) (r:R2):Prop:=
 ∀(value slice:Expr) (pins:List (Addr×Obj)) (s:Shared) (σ:St) (H:Hp) (x y:V) (v u:Value) (Q:VK),Inv X pins σ H s->RelV x v->RelV y u->r x y H Q->
  subscripted slice false v u=operate [v,u] (getItem v u)->wpAny (model X.prog X.w) X.A (subscriptTail value slice v u) (EP X pins σ Q) X.xe s
def UO (X:Cx) (id:String) (r:V->List V->Hp->VK->Prop):Prop:=
 ∀(pins:List (Addr×Obj)) (s:Shared) (σ:St) (H:Hp) (x:V) (xs:List V) (v:Value) (us:List Value) (Q:VK),Inv X pins σ H s->RelV x v->Vals xs us->r x xs H Q->
  wpAny (model X.prog X.w) X.A (call (.builtin id) (v::us)) (EP X pins σ Q) X.xe s
theorem yC.or{r r':R2}(h:yC X r)(h':yC X r'):yC X (fun x y H Q=>r x y H Q\/r' x y H Q):=by
 intro value slice pins s σ H x y v u Q I rx ry q hs;rcases q with q|q
 ·exact h value slice pins s σ H x y v u Q I rx ry q hs
 ·exact h' value slice pins s σ H x y v u Q I rx ry q hs
variable {tb ta:TE} {b a:Expr}
theorem HX{r:R2}(hr:yC X r)(ha:PE X a ta)(hb:PE X b tb)(hs:uc b):PE X (.Subscript a b pos) (zt r ta tb):=by
 intro pins s σ H Q I h;exact Subscript_ (Hb ha hb I h fun v u s2 x y H2 I2 rx ry q=>hr a b pins s2 σ H2 x y v u Q I2 rx ry q (hs _ _))
def Lu (K:Frag):R2:=fun x y H Q=>∃p xs i v,x=.ref p/\y=.int i/\eC K H p xs/\gE xs i=some v/\Q v H
def Lr (K:Frag):R2:=fun x y H Q=>∃p xs i v,x=.ref p/\y=.int i/\i7 K H p xs/\gE xs i=some v/\Q v H
theorem A6:yC X (Lu X.K):=by
 intro value slice pins s σ H x y v u Q I rx ry h hs;obtain⟨p,xs,i,z,rfl,rfl,hq,he,q⟩:=h;cases rx;obtain⟨t,rfl⟩:=ry;obtain⟨aq,r,pl,hz⟩:=I.list hq;obtain⟨j,h1,h2,h3,h4,h5⟩:=AH he;obtain⟨w,ew,oA⟩:=r.get h2;have hl:=r.length;have hn:=oV;have fin:EP X pins σ Q w s:=⟨z,H,I,oA,q⟩;by_cases h0:0<=i
 ·have hj:i.toNat=j:=by
   rw[seqIndex_of h0 h5]at h1;exact Option.some.inj h1
  exact item_listR pl.isList h0 (by omega) (by rw[hj];simpa using ew) fin hs
 ·have hj:(i+(aq.toArray.size:Int)).toNat=j:=by
   rw[seqIndex_neg (by omega) h4]at h1;rw[size_toArray,<- hl];exact Option.some.inj h1
  exact subscriptTail_builtinR (x:=w) pl.isList.typeIs slot_list_getitem.lookup
   (wpAny_getItem_list_neg (Q:=fun r s'=>r=w/\EP X pins σ Q r s') pl.isList (by omega) (by rw[size_toArray]<;>omega) (by omega) (by rw[hj];simpa using ew) ⟨rfl,fin⟩) hs
theorem DJ:yC X (Lr X.K):=by
 intro value slice pins s σ H x y v u Q I rx ry h hs;obtain⟨p,xs,i,z,rfl,rfl,hq,he,q⟩:=h;cases rx;obtain⟨t,rfl⟩:=ry;obtain⟨aq,r,pl,hz⟩:=I.tuple hq;obtain⟨j,h1,h2,h3,h4,h5⟩:=AH he;obtain⟨w,ew,oA⟩:=r.get h2;have hl:=r.length;have hn:=oV;have fin:EP X pins σ Q w s:=⟨z,H,I,oA,q⟩;exact subscriptTail_builtinR (x:=w) pl.typeIs slot_tuple_getitem.lookup
  (getItem_tuple (j:=j) (Q:=fun r s'=>r=w/\EP X pins σ Q r s') pl (by omega) (by omega) (by rw[size_toArray,<- hl];exact h1) (by simpa using ew) ⟨rfl,fin⟩) hs
theorem Bq(aq:List Value)(n j:Nat)(u:Value):Obj.mapSeq (·.setIfInBounds j u) {cls:=.type "list",data:=.seq aq.toArray n}={cls:=.type "list",data:=.seq (aq.set j u).toArray n}:=by
 simp[Obj.mapSeq]
theorem Inv.lst{pins:List (Addr×Obj)}{σ:St}{H:Hp}{s:Shared}{p:Addr}{xs:List V}(I:Inv X pins σ H s)(h:H p=some (.lst xs)):
  ∃(aq:List Value) (n:Nat),Vals xs aq/\s.heap.get? p=some {cls:=.type "list",data:=.seq aq.toArray n}/\xs.length<=sizeLine:=by
 obtain⟨z,aq,n,r,e⟩:=I.bx p _ h;exact⟨aq,n,r,e,z⟩
variable {pins:List (Addr×Obj)} {H:Hp} {p:Addr} {ys:List V} {aq:List Value}
theorem Inv.M4{σ:St}{s:Shared}{its':List Value}{n':Nat}{f:Obj->Obj}(I:Inv X pins σ H s)(h:H p=some (.lst xs))(ho:s.heap.get? p=some {cls:=.type "list",data:=.seq aq.toArray n})(hf:f {cls:=.type "list",data:=.seq aq.toArray n}={cls:=.type "list",data:=.seq its'.toArray n'})(r:Vals ys its')(hz:ys.length<=sizeLine)(t:Nat):
  Inv X pins σ (upd H p (.lst ys)) {s with heap:=s.heap.update p f,toks:=t}:=by
 have e:(s.heap.update p f).get? p=some {cls:=.type "list",data:=.seq its'.toArray n'}:=by
  rw[Heap.get?_update_self f ho (by rw[hf]<;>rfl),hf]
 refine I.write (x:=p) (e:=p) (by rw[h];trivial) (.inl rfl) (fun b u hb q=>(Heap.get?_update_other _ _ (Ne.symm hb)).trans q) ⟨_,e⟩ ?_;exact⟨hz,its',n',r,e⟩
def Ob:V->V->V->Hp->(Hp->Prop)->Prop:=fun o i v H Q=>∃p xs k j,o=.ref p/\i=.int k/\H p=some (.lst xs)/\qk xs.length k=some j/\Q (upd H p (.lst (xs.set j v)))
theorem set_list:Hk X Ob:=by
 intro pins s σ H o i v ov iv u Q I ro ri rv h;obtain⟨p,xs,k,j,rfl,rfl,hp,hj,q⟩:=h;cases ro;obtain⟨t,rfl⟩:=ri;obtain⟨aq,n,r,ho,hz⟩:=I.lst hp;obtain⟨h1,h2,h3,h4⟩:=A7 hj;have hl:=r.length;have hn:=oV;have I':Inv X pins σ (upd H p (.lst (xs.set j v))) {s with heap:=s.heap.update p (Obj.mapSeq (·.setIfInBounds j u))}:=
  I.M4 hp ho (Bq aq n j u) (r.set rv j) (by rw[length_set];exact hz) s.toks
 by_cases h0:0<=k
 ·have hk:k.toNat=j:=by
   rw[seqIndex_of h0 h4]at h1;exact Option.some.inj h1
  exact PySem.W.ki_setAt ho h0 (by omega) (by rw[size_toArray,<- hl];exact h4) (by rw[hk];exact⟨_,I',q⟩)
 ·have hk:(k+(aq.toArray.size:Int)).toNat=j:=by
   rw[seqIndex_neg (by omega) h3]at h1;rw[size_toArray,<- hl];exact Option.some.inj h1
  exact PySem.W.ki_setBack ho (by omega) (by rw[size_toArray,<- hl];exact h3) (by omega) (by rw[hk];exact⟨_,I',q⟩)
theorem w4(lo hi:Option Int)(n:Nat):(sliceBounds lo hi none n).1=((HT.bU n 0 lo:Nat):Int)/\(sliceBounds lo hi none n).2.1=((HT.bU n n hi:Nat):Int)/\(sliceBounds lo hi none n).2.2=1:=by
 refine⟨?_,?_,rfl⟩
 ·cases lo with
  |none=>simp[sliceBounds,HT.bU]
  |some i=>
   simp only[sliceBounds,HT.bU,Option.getD_none,show(1:Int)>0 by decide,if_true];by_cases h:i<0
   ·simp only[h,if_true]<;>omega
   ·simp only[h,if_false]<;>omega
 ·cases hi with
  |none=>simp[sliceBounds,HT.bU]
  |some i=>
   simp only[sliceBounds,HT.bU,Option.getD_none,show(1:Int)>0 by decide,if_true];by_cases h:i<0
   ·simp only[h,if_true]<;>omega
   ·simp only[h,if_false]<;>omega
theorem vi(aq:List Value)(lo hi:Option Int):slicePick aq.toArray lo hi none=((aq.drop (HT.bU aq.length 0 lo)).take (HT.bU aq.length aq.length hi-HT.bU aq.length 0 lo)).toArray:=by
 obtain⟨h1,h2,h3⟩:=w4 lo hi aq.toArray.size;unfold slicePick;rw[h1,h2,h3];simp only[sliceRange_one,pick_run,size_toArray]<;>rfl
def Ru (K:Frag):V->Option Int->Option Int->Hp->VK->Prop:=fun x lo hi H Q=>∃a xs,x=.ref a/\eC K H a xs/\∀p,H p=none->Q (.ref p) (upd H p (.lst (pB xs lo hi)))
theorem Jk:yu X (Ru X.K):=by
 intro pins s σ H x v vl vu lo hi sl Q I rx hs pl pu h;obtain⟨a,xs,rfl,hx,q⟩:=h;cases rx;obtain⟨aq,r,ht,hz⟩:=I.list hx;have hlen:=r.length;refine⟨"list",_,slot_list_getitem.lookup,ht.isList.typeIs,?_⟩;refine wpAny_getItem_list_slice ht.isList hs pl pu .none (by simp) ?_ (by rw[size_toArray]<;>omega);rw[vi,<- hlen];refine⟨.ref s.heap.objs.size,_,I.laid (t':=s.toks) (o:=.lst (pB xs lo hi)) (fun b ob q=>get?_push_of_some _ q) (le_refl _) ?_,rfl,q _ (I.bx.fresh (le_refl _))⟩;exact⟨le_trans (qy xs lo hi) hz,_,0,(r.drop (HT.bU xs.length 0 lo)).take (HT.bU xs.length xs.length hi-HT.bU xs.length 0 lo),get?_push_size _ rfl⟩
def jF:V->Bool
 | .bI=>true
 | .bl _=>true
 | .int _=>true
 | .str _=>true
 |_=>false
def sG:V->V->Bool
 | .bI,.bI=>true
 | .bl a,.bl b=>a==b
 | .bl a,.int b=>(if a then 1 else 0)==b
 | .int a,.bl b=>a==(if b then 1 else 0)
 | .int a,.int b=>a==b
 | .str a,.str b=>a==b
 |_,_=>false
variable {A:Around} {x:V}
theorem MT{s:Shared}{y:V}{u v:Value}(ry:RelV y u)(rx:RelV x v)(fy:jF y=true)(fx:jF x=true):SeqAt.EqAt A s u v (sG y x):=by
 cases y with
 |bI=>
  cases ry;cases x with
  |bI=>cases rx;exact SeqAt.EqAt.same _
  |bl b=>cases rx;exact SeqAt.EqAt.none_bool b
  |int b=>obtain⟨t,rfl⟩:=rx;exact SeqAt.EqAt.none_int b t
  |str b=>obtain⟨t,rfl⟩:=rx;exact SeqAt.EqAt.none_str b t
  |_=>exact absurd (show false=true from fx) Bool.false_ne_true
 |bl a=>
  cases ry;cases x with
  |bI=>cases rx;exact SeqAt.EqAt.bool_none a
  |bl b=>cases rx;exact SeqAt.EqAt.bool_bool a b
  |int b=>obtain⟨t,rfl⟩:=rx;exact SeqAt.EqAt.bool_int a b t
  |str b=>obtain⟨t,rfl⟩:=rx;exact SeqAt.EqAt.bool_str a b t
  |_=>exact absurd (show false=true from fx) Bool.false_ne_true
 |int a=>
  obtain⟨t',rfl⟩:=ry;cases x with
  |bI=>cases rx;exact SeqAt.EqAt.int_none a t'
  |bl b=>cases rx;exact SeqAt.EqAt.int_bool a t' b
  |int b=>obtain⟨t,rfl⟩:=rx;exact SeqAt.EqAt.int_int a t' b t
  |str b=>obtain⟨t,rfl⟩:=rx;exact SeqAt.EqAt.int_str a t' b t
  |_=>exact absurd (show false=true from fx) Bool.false_ne_true
 |str a=>
  obtain⟨t',rfl⟩:=ry;cases x with
  |bI=>cases rx;exact SeqAt.EqAt.str_none a t'
  |bl b=>cases rx;exact SeqAt.EqAt.str_bool a t' b
  |int b=>obtain⟨t,rfl⟩:=rx;exact SeqAt.EqAt.str_int a t' b t
  |str b=>obtain⟨t,rfl⟩:=rx;exact SeqAt.EqAt.str_str a t' b t
  |_=>exact absurd (show false=true from fx) Bool.false_ne_true
 |_=>exact absurd (show false=true from fy) Bool.false_ne_true
def sI (x:V) (u:Value):Bool:=match u with
 | .none=>sG .bI x
 | .bool b=>sG (.bl b) x
 | .int i _=>sG (.int i) x
 | .str z _=>sG (.str z) x
 |_=>false
theorem Er{y:V}{u:Value}(r:RelV y u)(f:jF y=true):sI x u=sG y x:=by
 cases y with
 |bI=>cases r;rfl
 |bl b=>cases r;rfl
 |int i=>obtain⟨t,rfl⟩:=r;rfl
 |str z=>obtain⟨t,rfl⟩:=r;rfl
 |_=>exact absurd (show false=true from f) Bool.false_ne_true
theorem tV{x:V}:∀{xs:List V} {us:List Value},Vals xs us->xs.all jF=true->us.any (sI x)=xs.any fun y=>sG y x
 |_,_,.nil,_=>rfl
 |y::xs,u::us,.cons r t,f=>by
  rw[all_cons,and_eq_true]at f;rw[any_cons,any_cons,Er r f.1,tV t f.2]
theorem qN{A:Around}{s:Shared}{x:V}{v:Value}(rx:RelV x v)(fx:jF x=true):∀{xs:List V} {us:List Value},Vals xs us->xs.all jF=true->∀u∈us,SeqAt.EqAt A s u v (sI x u)
 |_,_,.nil,_=>fun u hu=>by cases hu
 |y::xs,u::us,.cons r t,f=>fun u' hu=>by
  rw[all_cons,and_eq_true]at f;rcases mem_cons.mp hu with rfl|hu
  ·rw[Er r f.1];exact MT r rx f.1 fx
  ·exact qN rx fx t f.2 u' hu
def xi (x:V) (xs:List V):Bool:=xs.any fun y=>sG y x
def Pa (K:Frag) (neg:Bool):R2:=fun x y H Q=>∃p xs,y=.ref p/\(eC K H p xs\/i7 K H p xs)/\jF x=true/\xs.all jF=true/\Q (.bl (if neg then !xi x xs else xi x xs)) H
theorem Dr:cZ X (compareOp .In) (Pa X.K false):=by
 intro pins s σ H x y v u Q I rx ry h;obtain⟨p,xs,rfl,hq,fx,fs,q⟩:=h;cases ry;rcases hq with hq|hq
 ·obtain⟨aq,r,pl,hz⟩:=I.list hq;refine SeqAt.in_listAt (sI x) pl.isList (fun w hw=>qN rx fx r fs w (by simpa using hw)) ⟨.bl _,H,I,rfl,?_⟩;rw[show aq.toArray.any (sI x)=aq.any (sI x) by simp,tV r fs];exact q
 ·obtain⟨aq,r,pl,hz⟩:=I.tuple hq;refine SeqAt.in_tupleAt (sI x) pl (fun w hw=>qN rx fx r fs w (by simpa using hw)) ⟨.bl _,H,I,rfl,?_⟩;rw[show aq.toArray.any (sI x)=aq.any (sI x) by simp,tV r fs];exact q
theorem yh:jf X (.type "list") (fun xs H Q=>∃p ys,xs=[.ref p]/\(eC X.K H p ys\/i7 X.K H p ys)/\∀l,H l=none->Q (.ref l) (upd H l (.lst ys))):=by
 intro pins s σ H xs us Q I r h;obtain⟨p,ys,rfl,hq,q⟩:=h;obtain⟨u,rfl,rx⟩:=vals1 r;cases rx;have fin:∀(aq:List Value),Vals ys aq->ys.length<=sizeLine->∀(h':Heap) (c':Nat),(∀b o',s.heap.get? b=some o'->h'.get? b=some o')->
   h'.get? s.heap.objs.size=some {cls:=.type "list",dict:=none,data:=.seq aq.toArray c',slots:=#[]}->EP X pins σ Q (.ref s.heap.objs.size) {s with heap:=h'}:=fun aq r' hz h' c' kp e=>
  ⟨.ref s.heap.objs.size,_,I.laid (t':=s.toks) kp (le_refl _) (show fK X.prog X.w _ h' _ (.lst ys)from⟨hz,aq,c',r',e⟩),rfl,q _ (I.bx.fresh (le_refl _))⟩
 rcases hq with hq|hq
 ·obtain⟨aq,r',pl,hz⟩:=I.list hq;have hlen:=r'.length;obtain⟨o,ho,hc,n,hd⟩:=pl.isList;exact call_list_seq p (.inl rfl) ho hc hd (fun h' c' kp e=>fin aq r' hz h' c' kp e) (by simp only[size_toArray]<;>omega)
 ·obtain⟨aq,r',pl,hz⟩:=I.tuple hq;have hlen:=r'.length;obtain⟨o,ho,hc,n,hd⟩:=pl;exact call_list_seq p (.inr rfl) ho hc hd (fun h' c' kp e=>fin aq r' hz h' c' kp e) (by simp only[size_toArray]<;>omega)
theorem vj:jf X (.type "tuple") (fun xs H Q=>∃p ys,xs=[.ref p]/\((eC X.K H p ys/\∀l,H l=none->Q (.ref l) (upd H l (.tup ys)))\/(i7 X.K H p ys/\Q (.ref p) H))):=by
 intro pins s σ H xs us Q I r h;obtain⟨p,ys,rfl,h⟩:=h;obtain⟨u,rfl,rx⟩:=vals1 r;cases rx;rcases h with⟨hq,q⟩|⟨hq,q⟩
 ·obtain⟨aq,r',pl,hz⟩:=I.list hq;have hlen:=r'.length;refine call_tuple_list pl.isList (fun h' kp=>?_) (by simp only[size_toArray]<;>omega);have I1:Inv X pins σ H {s with heap:=h'}:=I.kept (t':=s.toks) kp;have I2:Inv X pins σ (upd H h'.objs.size (.tup ys)) {s with heap:=h'.push {cls:=.type "tuple",data:=.seq aq.toArray}}:=
   I1.laid (t':=s.toks) (fun b o e=>get?_push_of_some _ e) (le_refl _) (show fK X.prog X.w _ _ _ (.tup ys)from⟨hz,aq,r',IsTup.new _ _⟩)
  exact⟨.ref h'.objs.size,_,I2,rfl,q _ (I1.bx.fresh (le_refl _))⟩
 ·obtain⟨aq,r',pl,hz⟩:=I.tuple hq;exact call_tuple_same pl ⟨.ref p,H,I,rfl,q⟩
def OY (K:Frag) (T:String) (x:V) (H:Hp):Prop:=match x with
 | .str _=>T="str"
 | .int _=>T="int"
 | .ref p=>(T="list"/\∃xs,eC K H p xs)\/(T="tuple"/\∃o,K.lookup p=some o/\o.cls=.type "tuple"/\o.dict=none)\/
   (T="dict"/\((∃fm,H p=some (.dK fm))\/∃fm,H p=some (.dT fm)))\/(T="set"/\∃S n,H p=some (.set S n))
 |_=>False
variable {T:String}
theorem L0{σ:St}{s:Shared}{v:Value}(I:Inv X pins σ H s)(r:RelV x v)(ty:OY X.K T x H):
  s.TypeIs v T/\∀a,v=.ref a->∃ob,s.heap.get? a=some ob/\ob.dict=none:=by
 cases x with
 |str z=>
  obtain⟨t,rfl⟩:=r;cases(show T="str" from ty);exact⟨typeIs_str s z t,fun _ e=>nomatch e⟩
 |int i=>
  obtain⟨t,rfl⟩:=r;cases(show T="int" from ty);exact⟨typeIs_int s i t,fun _ e=>nomatch e⟩
 |ref p=>
  cases r;rcases ty with⟨rfl,xs,hq⟩|⟨rfl,o,hk,hc,hd⟩|⟨rfl,hk⟩|⟨rfl,S,n,hk⟩
  ·obtain⟨aq,_,pl,_⟩:=I.list hq;refine⟨pl.isList.typeIs,fun a e=>?_⟩;cases e;obtain⟨o,n,e,c,hd,_⟩:=pl;exact⟨o,e,hd⟩
  ·refine⟨⟨o,I.nU p o hk,hc⟩,fun a e=>?_⟩;cases e;exact⟨o,I.nU _ o hk,hd⟩
  ·have z:∃o,s.heap.get? p=some o/\o.ExactDict:=by
    rcases hk with⟨fm,hk⟩|⟨fm,hk⟩
    ·obtain⟨_,_,_,_,o,_,_,e,ex,_⟩:=I.bx p _ hk;exact⟨o,e,ex⟩
    ·obtain⟨_,_,_,_,o,_,_,e,ex,_⟩:=I.bx p _ hk;exact⟨o,e,ex⟩
   obtain⟨o,e,ex⟩:=z;refine⟨⟨o,e,ex.1⟩,fun a e2=>?_⟩;cases e2;exact⟨o,e,ex.2.1⟩
  ·obtain⟨o,_,_,_,e,ex,_⟩:=I.bx p _ hk;refine⟨⟨o,e,ex.1⟩,fun a e2=>?_⟩;cases e2;exact⟨o,e,ex.2.1⟩
 |_=>exact False.elim ty
def SE (K:Frag) (T:String) (r:V->List V->Hp->VK->Prop) (to:TE) (t:TA):TE:=fun σ H Q=>to σ H fun x H1=>OY K T x H1/\t σ H1 fun xs H2=>r x xs H2 Q
variable {o:Expr} {qY apos:Pos} {id:String} {name:Str} {es:List Expr} {t:TA} {to:TE} {r:V->List V->Hp->VK->Prop}
theorem Oi(pa:PlainAttrs T)(slot:Slot T name id)(T4:typeOf (.builtin id)=pure (.type "method_descriptor"))(hm:UO X id r)(ho:PE X o to)(ha:PA X (e::es) t)(BG:attributeBase o name X.env (eval o X.env)=eval o X.env:=by rfl)(Gz:((backTo qY (starEach (e::es) X.env)).all (fun x=>!x.1)&&(backToKw qY (keywordEach [] X.env)).all (fun x=>x.1.isSome)
   &&decide ((e::es).length+([]:List Keyword).length+(if([]:List Keyword).isEmpty then 0 else 1)<30))=true:=by rfl)(BE:(apos.endLine==qY.line)=true:=by rfl)(hs:starEach (e::es) X.env=(false,eval e X.env)::starEach es X.env:=by rfl)(xx:(backTo qY (starEach es X.env)).any (·.1)=false:=by rfl):
  PE X (.Call (.Attribute o name apos) (e::es) [] qY) (SE X.K T r to t):=by
 intro pins s σ H Q I h;refine wpAny_Call_method_late BG Gz BE rfl (bX (ho pins s σ H _ I h) fun v s1 ⟨x,H1,I1,r1,ty,q1⟩=>?_);obtain⟨h1,h2⟩:=L0 I1 r1 ty;refine⟨T,id,pa,slot,T4,h1,h2,?_⟩;have hA:=ha qY pins s1 σ H1 _ I1 q1;rw[hs]at hA ⊢;refine Calls.callWith_builtin (by show(false || (backTo qY (starEach es X.env)).any (·.1))=false;rw[xx]<;>rfl) (Calls.evalArgs_plain ?_);exact bX hA fun us s2 ⟨vs,H2,I2,r2,q2⟩=>hm pins s2 σ H2 x vs v us Q I2 r1 r2 q2
open PySem PySem.Spec PyProof.Rows
def UP (X:Cx) (id:String) (r:V->List V->Hp->VK->Prop):Prop:=
 ∀(pins:List (Addr×Obj)) (s:Shared) (σ:St) (H:Hp) (x:V) (xs:List V) (v:Value) (us:List Value) (Q:VK),Inv X pins σ H s->RelV x v->Vals xs us->r x xs H Q->
  wpAny (model X.prog X.w) X.A (call (.builtin id) (v::us)) (EP X pins σ Q) X.xe s
theorem Vals.one:∀{x:V} {us:List Value},Vals [x] us->∃u,us=[u]/\RelV x u
 |_,_,.cons r .nil=>⟨_,rfl,r⟩
theorem Vals.rep{xs:List V}{us:List Value}(h:Vals xs us):∀k:Nat,Vals (List.replicate k xs).flatten (List.replicate k us).flatten
 |0=>.nil
 |k+1=>by
  rw[replicate_succ,replicate_succ,flatten_cons,flatten_cons];exact Vals.append h (Vals.rep h k)
theorem foldl_rep(aq:List Value):∀(k:Nat) (acc:List Value),
  foldl (fun x1 x2=>x1++x2) acc.toArray (List.replicate k aq.toArray)=(acc++(List.replicate k aq).flatten).toArray
 |0,acc=>by simp
 |k+1,acc=>by
  have e:acc.toArray++aq.toArray=(acc++aq).toArray:=by simp
  have e2:(acc++aq)++(List.replicate k aq).flatten=acc++(List.replicate (k+1) aq).flatten:=by
   rw[replicate_succ,flatten_cons,append_assoc]
  rw[<- e2,<- foldl_rep aq k (acc++aq),<- e,replicate_succ,foldl_cons]
variable {σ:St} {l:Addr}
variable {s:Shared} in
theorem Inv.RD{its':List Value}{f:Array Value->Array Value}{t':Nat}(I:Inv X pins σ H s)(hH:H l=some (.lst xs))(e:s.heap.get? l=some {cls:=.type "list",data:=.seq aq.toArray n})(hf:f aq.toArray=its'.toArray)(hv:Vals ys its')(hz:ys.length<=sizeLine):
  Inv X pins σ (upd H l (.lst ys)) {s with heap:=s.heap.update l (Obj.mapSeq f),toks:=t'}:=by
 have q:=PySem.IsL.update e f;rw[hf]at q;refine I.write (x:=l) (e:=l) (by rw[hH];exact trivial) (.inl rfl) (fun b' u hb hu=>(Heap.get?_update_other s.heap (Obj.mapSeq f) (Ne.symm hb)).trans hu) ⟨_,q⟩ ?_;exact⟨hz,its',_,hv,q⟩
variable {s:Shared} in
theorem Inv.M7{t':Nat}(I:Inv X pins σ H s)(hv:Vals ys aq)(hz:ys.length<=sizeLine):
  Inv X pins σ (upd H s.heap.objs.size (.lst ys)) {s with heap:=s.heap.push {cls:=.type "list",data:=.seq aq.toArray},toks:=t'}:=
 I.laid (fun _ _ q=>get?_push_of_some _ q) (le_refl _) ⟨hz,aq,0,hv,get?_push_size _ rfl⟩
variable {s:Shared} in
theorem Inv.fresh(I:Inv X pins σ H s):H s.heap.objs.size=none:=I.bx.fresh (le_refl _)
variable {s:Shared} in
theorem Inv.M5(I:Inv X pins σ H s)(hH:H l=some (.lst xs)):xs.length<=sizeLine/\∃(aq:List Value) (n:Nat),Vals xs aq/\xs.length=aq.length/\s.heap.get? l=some {cls:=.type "list",data:=.seq aq.toArray n}:=by
 obtain⟨z,aq,n,r,e⟩:=I.bx l _ hH;exact⟨z,aq,n,r,r.length,e⟩
theorem Gg(h:n<=sizeLine):Builtin.List.listTooLong n=false:=by
 unfold Builtin.List.listTooLong;exact decide_eq_false (by omega)
def Js:V->List V->Hp->VK->Prop:=fun x vs H Q=>∃l xs y,x=.ref l/\vs=[y]/\H l=some (.lst xs)/\xs.length<sizeLine/\Q .bI (upd H l (.lst (xs++[y])))
theorem DA:UP X "list.append" Js:=by
 intro pins s σ H x vs v us Q I rx rv h;obtain⟨l,xs,y,rfl,rfl,hH,hz,q⟩:=h;cases rx;obtain⟨u,rfl,ru⟩:=rv.one;obtain⟨z,aq,n,r,hl,e⟩:=I.M5 hH;refine call_meets F.slot_list_append ⟨_,e,rfl⟩ F.entry_list_append (F.args_list_append_2 _ _) (PySem.list_append l aq.toArray n u (by rw[size_toArray];omega)) ⟨e,?_⟩;refine⟨.bI,_,I.RD (its':=aq++[u]) hH e (by simp) (r.append (.cons ru .nil)) ?_,rfl,q⟩;rw[length_append,length_singleton];omega
def Rv:R2:=fun x y H Q=>∃l k xs,x=.ref l/\y=.int k/\H l=some (.lst xs)/\-(2^63)<=k/\k<2^63/\xs.length*k.toNat<=sizeLine/\
 ∀p,H p=none->Q (.ref p) (upd H p (.lst (List.replicate k.toNat xs).flatten))
theorem len_rep(xs:List α)(k:Nat):(List.replicate k xs).flatten.length=k*xs.length:=by
 induction k with
 |zero=>simp
 |succ k ih=>rw[replicate_succ,flatten_cons,length_append,ih,Nat.succ_mul,Nat.add_comm]
theorem LP:cZ X (binaryOp .Mult) Rv:=by
 intro pins s σ H x y v u Q I rx ry h;obtain⟨l,k,xs,rfl,rfl,hH,h1,h2,hz,q⟩:=h;cases rx;obtain⟨t,rfl⟩:=ry;obtain⟨z,aq,n,r,hl,e⟩:=I.M5 hH;have hlen:aq.toArray.size*k.toNat<=sizeLine:=by rw[size_toArray,<- hl];exact hz
 have nJ:¬aq.toArray.size*k.toNat>(2^63-1)/8:=by
  have:(sizeLine:Nat)<=(2^63-1)/8:=by decide
  omega
 have RU:¬(!Builtin.List.listFitsIndex k)=true:=by
  rw[fitsIndex_both h1 h2];exact Bool.false_ne_true
 have OA:¬Builtin.List.listTooLong (aq.toArray.size*k.toNat)=true:=by
  rw[Gg hlen];exact Bool.false_ne_true
 have RR:foldl (fun x1 x2=>x1++x2) #[] (List.replicate (if aq.toArray.isEmpty=true then 0 else k.toNat) aq.toArray)=(List.replicate k.toNat aq).flatten.toArray:=by
  have f0:∀m:Nat,foldl (fun x1 x2=>x1++x2) #[] (List.replicate m aq.toArray)=(List.replicate m aq).flatten.toArray:=fun m=>by
   have:=foldl_rep aq m [];rw[nil_append]at this;exact this
  rw[f0];cases aq with
  |nil=>simp
  |cons a r'=>rw[if_neg (by simp)]
 refine wpAny_binaryOp_repeat_ref (T:="list") (U:="int") (by decide) ⟨_,e,rfl⟩ (fun s'=>typeIs_int s' k t) noFill_list_mul F.fills_int_mul F.slot_int_rmul repeat_list F.slot_int_index.lookup
  (call_meets F.slot_int_rmul (typeIs_int s k t) F.entry_int_rmul (F.args_int_rmul_2 _ _) (int___rmul___int_list k t l aq.toArray n)
   ⟨e,rfl,⟨_,e,rfl⟩,call_meets F.slot_list_mul ⟨_,e,rfl⟩ F.entry_list_mul (F.args_list_mul_2 _ _) (AutoListH.list___mul___list_int_3 l aq.toArray n k t RU nJ OA) ⟨e,?_⟩⟩)
 rw[RR];exact⟨.ref _,_,I.M7 (t':=s.toks) (r.rep k.toNat) (by rw[len_rep,Nat.mul_comm];exact hz),rfl,q _ I.fresh⟩
end
end L2
namespace R8
noncomputable section
open PySem PySem.W PySem.Calls PyProof.Rows
variable {h:Heap}
theorem rY{P:Params}:∀(ns:List Int) (vs:List Value),WellAll P h vs (ns.map WData.int)->IntsAre vs ns:=by
 intro ns;induction ns with
 |nil=>
  intro vs w;rw[map_nil]at w;cases w;exact .nil
 |cons n ns ih=>
  intro vs w;rw[map_cons]at w;cases w with
  |cons a b=>
   cases a;exact .cons _ _ (ih _ b)
variable {n:Nat}
theorem CH{l:OpenLaw}(hn:l.most=some n){P:Params}{args:List WData}{vals:List Value}(Bz:l.row.toRowW.claim.pre args=true)(DP:WellAll P h vals args):
  ∃a vs ns,vals=[Value.ref a]/\args=[WData.list (ns.map WData.int)]/\h.get? a=some {cls:=.type "list",data:=.seq vs.toArray}/\IntsAre vs ns/\ns.length<=n:=by
 have T6:WShape.hasAll [] args [.list .int]=true:=(pre_splitW Bz).1;have hc:l.pre.holds [] {args:=args}=true:=(pre_splitW Bz).2;obtain⟨d,r,rfl,h1,h2⟩:=hasAllW_cons T6;obtain rfl:=hasAllW_nil h2;obtain⟨xs,rfl,h3⟩:=hasW_list h1;obtain⟨ns,rfl⟩:=items_int h3;have hlen:ns.length<=n:=by
  unfold OpenLaw.pre at hc;have h4:(WTm.not (.lt (.lit (.int (n:Int))) (.len (.arg 0)))).holds [] {args:=[.list (ns.map .int)]}=true:=by
   have h4:=(holds_andW hc).1;rw[hn]at h4;exact h4
  have h5:=condW_of h4 (w_not (w_lt w_lit (w_len_list (w_arg rfl))));rw[length_map]at h5;refine Nat.le_of_not_lt fun q=>?_;have q':(n:Int)<((ns.length:Nat):Int):=by omega
  first
   |(rw[decide_eq_true q']at h5;exact absurd h5 (by decide))
   |(simp at h5;omega)
 cases DP with
 |cons w1 w2=>
  cases w2;cases w1 with
  |list ho xH=>exact⟨_,_,ns,rfl,rfl,ho,rY ns _ xH,hlen⟩
theorem Dg(l:OpenLaw)(args:List WData):l.row.toRowW.claim.post args (.bool true) args=true:=
 postW_of (r:=l.row.toRowW) (X:=(true==true))
  (show WShape.has [] (.bool true) .bool=true by first|rfl|decide|simp[WShape.has,WShape.arms,WShape.armsAll])
  (show(WTm.eq .res (.lit (.bool true))).value [] {args:=args,res:=some (.bool true),after:=args}=some (.bool (true==true))from w_eq_bool (w_res rfl) w_lit) rfl
variable {q:Program} {loose:List Str} {XP:(Str->Option Value)->Heap->Prop} {YP:World->Heap->Prop}
theorem yP{l:OpenLaw}{d:DefRec}(hn:l.most=some n)(E7:d.params.defaults=[])(call:∀(w:World) (aI bN:Shared) (mg mb:Str->Option Value) (fa:Addr) (o:Obj) (pm cd doc:Value) (a:Addr) (vs:List Value) (ns:List Int),
   Ground q loose [] XP w aI mg mb bN.heap->YP w bN.heap->
   bN.heap.get? fa=some o->o.data=.func (docDef d.name d.params d.body d.scope pm cd doc)->bN.heap.CodeRec cd d.name->mg d.name=some (.ref fa)->
   bN.heap.get? a=some {cls:=.type "list",data:=.seq vs.toArray}->IntsAre vs ns->ns.length<=n->bN.gens=#[]->
   codeAny (model l.prog w) callerA (.call (.ref fa) ⟨[.ref a],[]⟩) (fun r s'=>r=.ok (.ret (.bool true))/\OldK bN.heap s'.heap/\s'.os=bN.os/\AllBare s'.gens) bN):
  WalkO q loose XP YP l.row.toRowW d [] (fun f vs=>PySem.call f vs):=by
 intro w aI bN mg mb G Y fa o pm cd doc dV kV ho hd gD hD DZ hg args vals as Bz hlay hrd DP fY;obtain rfl:dV=.none:=Dflts.none hD E7;obtain rfl:kV=.none:=Dflts.noKw hD;obtain⟨a,vs,ns,rfl,rfl,Gw,hints,hlen⟩:=CH hn Bz DP;refine enter_call (codeAny_mono (call w aI bN mg mb fa o pm cd doc a vs ns G Y ho (fd_plain hd) gD DZ Gw hints hlen hg) fun r s' hq=>?_);obtain⟨rfl,h2,h3,h4⟩:=hq;exact⟨.inl ⟨.bool true,.bool true,[],rfl,fun _=>rfl,.bool true,Dg l _,fun _=>⟨List.Pairwise.nil,fun _ hm=>(nomatch hm)⟩⟩,h2,h3,h4⟩
end
end R8
namespace L2
noncomputable section
open PySem PySem.Spec PyProof.Rows
theorem ui:∀{vs:List Value} {ns:List Int},IntsAre vs ns->Vals (ns.map V.int) vs
 |_,_,.nil=>.nil
 |_,_,.cons n t h=>.cons ⟨t,rfl⟩ (ui h)
def Hm (H:Hp):Prop:=∀b,H b=none\/∃o xs,H b=some (.qt o (.lst xs))
variable {P:Program} {w:World} {mg:Str->Option Value} {k:Nat} {a:Addr} {fd:FuncData} {x:Str}
theorem Gr{K:Frag}{mb:Str->Option Value}{CX:vh}{fa:Addr}{sp:Sp}{bN:Shared}{vs:List Value}{ns:List Int}(KX:K.In bN.heap)(DW:bN.heap.Ns mainGlobals mg)(hb:bN.heap.Ns builtinsNs mb)(uN:∀x:Str,x≠"__name__"->mb x=bootBuiltins x)(RT:bN.heap.NoLimit)(hg:bN.gens=#[])(ha:bN.heap.get? a=some {cls:=.type "list",data:=.seq vs.toArray})(hi:IntsAre vs ns)(hl:ns.length<=sizeLine)(hr:bS k callerA)(F:∀base:Heap,K.In base->base.Ns mainGlobals mg->fQ P w K mg base CX k fa fd [x] sp)(OE:∀(s:Shared) (u:Value),BindsTo s fd ⟨[u],[]⟩ [(x,u)])(ke:∀H:Hp,Hm H->eC K H a (ns.map V.int)->sp [.ref a] H (fun v _=>v=.bl true) fun _ _ _=>False)(MN:∀H e s',CX [] H bN (fun _ _ _=>False) e s'->False):
  codeAny (model P w) callerA (.call (.ref fa) ⟨[.ref a],[]⟩) (fun r s'=>r=.ok (.ret (.bool true))/\OldK bN.heap s'.heap/\s'.os=bN.os/\AllBare s'.gens) bN:=by
 have rv:=ui hi;have RE:=hi.length

 have core:∀H:Hp,Hm H->eC K H a (ns.map V.int)->gH P w H bN.heap->(∀b,H b≠none->b=a)->(H a≠none->K.lookup a=none)->
   codeAny (model P w) callerA (.call (.ref fa) ⟨[.ref a],[]⟩) (fun r s'=>r=.ok (.ret (.bool true))/\OldK bN.heap s'.heap/\s'.os=bN.os/\AllBare s'.gens) bN:=by
  intro H hO hS bx hA hK;have AE:∀{b:Addr} {o:Obj},bN.heap.get? b=some o->H b=none->(nI bN.heap H).get? b=some o:=fun e n=>Gy e n;have Dw:∀{b:Addr} {o:Obj} {es:Array DictEntry} {ep:Nat},bN.heap.get? b=some o->o.data=.dict es ep->H b=none:=fun{b o es ep} e d=>by
   cases q:H b with
   |none=>rfl
   |some u=>
    have e':b=a:=hA b (by rw[q];simp);subst e';rw[ha]at e;cases e;have d':Data.seq vs.toArray _=Data.dict es ep:=d;cases d'
  have Ie:∀{b:Addr} {m:Str->Option Value},bN.heap.Ns b m->(nI bN.heap H).Ns b m:=fun{b m} ⟨o,es,ep,e,d,r⟩=>⟨o,es,ep,AE e (Dw e d),d,r⟩;have Q4:K.In (nI bN.heap H):=fun b o e=>AE (KX b o e) (by
   cases q:H b with
   |none=>rfl
   |some u=>
    have e':b=a:=hA b (by rw[q];simp);subst e';rw[hK (by rw[q];simp)]at e;cases e)
  have hM:Mod K mg (nI bN.heap H):=⟨Q4,Ie DW,⟨mb,Ie hb,uN⟩,let ⟨mc,h1,h2⟩:=RT;⟨mc,Ie h1,h2⟩⟩;have e0:Cm P w K mg (nI bN.heap H) callerA [] bN H:=⟨rfl,hM,fun b o e=>JU e,le_of_eq (E5 _ _),trivial,fun b hb=>absurd (show b∈([]:List Addr)from hb) (by simp),bx,.of_eq hg⟩;refine codeAny_mono ((F _ Q4 (Ie DW)).run callerA [] bN H ⟨[.ref a],[]⟩ [.ref a] [.ref a] _ _ hr e0 (OE bN (.ref a)) (.cons rfl .nil) (ke H hO hS)) fun r s' h=>?_;cases r with
  |error e=>exact(MN H e s' h).elim
  |ok fl=>
   cases fl with
   |next=>exact False.elim h
   |brk=>exact False.elim h
   |cont=>exact False.elim h
   |ret u=>
    obtain⟨v,H',os,bare,un,RO,r',q⟩:=h;have q':v=.bl true:=q;subst q';obtain rfl:u=Value.bool true:=r';refine⟨rfl,OldK.of_keep fun b o e=>?_,os,bare⟩;cases q:H b with
    |none=>exact un.keep b o e q (by intro z;exact absurd (show b∈([]:List Addr)from z) (by simp)) (by simp)
    |some u=>
     rcases hO b with z|⟨ob,xs,z⟩
     ·rw[q]at z;cases z
     ·have z2:=un.k6 b ob _ z;obtain⟨e1,_⟩:=bx b _ z;obtain⟨e2,_⟩:=RO b _ z2;rw[e]at e1;cases e1;exact e2
 cases hk:K.lookup a with
 |some o=>

  have e:=KX a o hk;rw[ha]at e;cases e;refine core (fun _=>none) (fun _=>.inl rfl) (.inr ⟨_,vs.toArray,_,hk,rfl,rfl,rfl,by rw[size_toArray,RE];exact hl,by simpa using rv⟩) (fun b u z=>by have z':(none:Option HO)=some u:=z;cases z') (fun b z=>absurd rfl z) fun z=>absurd rfl z
 |none=>
  refine core (fun b=>if b=a then some (.qt {cls:=.type "list",data:=.seq vs.toArray} (.lst (ns.map V.int)))else none) (fun b=>?_) (.inl (.inr ⟨{cls:=.type "list",data:=.seq vs.toArray},if_pos rfl⟩)) (fun b u z=>?_) (fun b z=>?_) fun _=>hk
  ·by_cases hb:b=a
   ·exact .inr ⟨_,_,if_pos hb⟩
   ·exact .inl (if_neg hb)
  ·by_cases hb:b=a
   ·have z':=(if_pos hb).symm.trans z;cases z';subst hb;exact⟨ha,by rw[length_map];exact hl,vs,_,rv,ha⟩
   ·have z':=(if_neg hb).symm.trans z;cases z'
  ·by_cases hb:b=a
   ·exact hb
   ·exact absurd (if_neg hb) z
open PySem PySem.Spec PyProof.Rows
variable {n:Nat}
theorem Jb{l:PySem.W.OpenLaw}{q:Program}{loose:List Str}{XP:(Str->Option Value)->Heap->Prop}{YP:World->Heap->Prop}{d:DefRec}{K:Params->Frag}{CX:World->vh}{sp:World->Sp}(hn:l.most=some n)(PQ:n<=sizeLine)(E7:d.params.defaults=[])(hr:bS k callerA)(hY:∀(w:World) (h:Heap),YP w h->(K w.params).In h)(F:∀(w:World) (mg:Str->Option Value) (fa:Addr) (h:Heap),(K w.params).In h->h.Ns mainGlobals mg->mg d.name=some (.ref fa)->
   ∃fd:FuncData,(∀(s:Shared) (u:Value),BindsTo s fd ⟨[u],[]⟩ [(x,u)])/\
    ∀base:Heap,(K w.params).In base->base.Ns mainGlobals mg->fQ l.prog w (K w.params) mg base (CX w) k fa fd [x] (sp w))(ke:∀(w:World) (H:Hp) (a:Addr) (ns:List Int),ns.length<=n->Hm H->eC (K w.params) H a (ns.map V.int)->sp w [.ref a] H (fun v _=>v=.bl true) fun _ _ _=>False)(MN:∀(w:World) (H:Hp) (s:Shared) (e:Value) (s':Shared),CX w [] H s (fun _ _ _=>False) e s'->False):
  PySem.W.WalkO q loose XP YP l.row.toRowW d [] (fun f vs=>PySem.call f vs):=by
 refine R8.yP hn E7 fun w aI bN mg mb fa o pm cd doc a vs ns G Y ho hd gD DZ Gw hints hlen hg=>?_;have KX:=hY w _ Y;obtain⟨fd,hb,hF⟩:=F w mg fa _ KX G.T.g DZ;exact Gr KX G.T.g G.T.b G.T.builtins G.T.nolimit hg Gw hints (le_trans hlen PQ) hr hF hb (fun H hO hS=>ke w H a ns hlen hO hS) fun H e s'=>MN w H bN e s'
open PySem PySem.Spec PyProof.Rows
def iS (s:Stmt):Arguments:=match s with
 | .FunctionDef _ a _ _ _ _ _ _ _ _=>a
 |_=>{posonlyargs:=[],args:=[],vararg:=none,kwonlyargs:=[],kw_defaults:=[],kwarg:=none,defaults:=[]}
def cM (s:Stmt):List Stmt:=match s with
 | .FunctionDef _ _ b _ _ _ _ _ _ _=>b
 |_=>[]
def aP (s:Stmt):Scope:=match s with
 | .FunctionDef _ _ _ _ _ _ sc _ _ _=>sc
 |_=>{kind:=.function,names:=[],isGenerator:=false,isCoroutine:=false}
abbrev gj:vh:=fun _ _ _ _ _ _=>False
abbrev E0:XK:=fun _ _ _=>False
variable {X:Cx}
theorem vC:Passes gj X E0:=fun _ _ _ _ _ _ _ h=>h.elim
structure lT (K:Frag) (x qual:Str) (st:Stmt) (f:Addr) (fd:FuncData):Prop where
 ex:∃(oc:Value) (od:Option Addr) (kV doc pm:Value) (an:Option Addr) (ba ct:Value) (qi:Array (Option Value)),
  fd=fnOf x qual (iS st) (cM st) (aP st) .none kV doc pm an ba ct/\K.lookup f=some ⟨oc,od,.func fd,qi⟩/\codeIn K ba qual=true
 kp:keepIn K (.ref f)=true
variable {base:Heap} {K:Frag} {qual:Str} {st:Stmt} {f:Addr} {N ps:List Str}
theorem lT.ok{sp:Sp}(F:lT K x qual st f fd)(S:fD N ps (aP st))(len:∀vs H Q E,sp vs H Q E->vs.length=ps.length)(hbody:∀(ba:Value) (A:Around) (outer:List Env) (s:Shared) (H:Hp) (vs:List V) (Q:VK) (E:XK),bS k (A.deeper (envOfC qual (aP st) s.heap.objs.size f ba))->sp vs H Q E->
   ∃t,jX (gw gj P w K mg base N qual (aP st) f ba A outer s H E).jP (cM st) t/\t {nx:=fun _ H'=>Q .bI H',rt:=Q} (start N vs) H):fQ P w K mg base gj (k+1) f fd ps sp:=by
 obtain⟨oc,od,kV,doc,pm,an,ba,ct,qi,rfl,lk,gD⟩:=F.ex;refine OI lk gD S len fun A outer s H vs Q E hr ke=>?_;obtain⟨t,h,q⟩:=hbody ba A outer s H vs Q E hr ke;exact⟨t,h.jP,q⟩
theorem lT.binds(F:lT K x qual st f fd)(h:∀(kV doc pm:Value) (an:Option Addr) (ba ct:Value) (us:List Value),us.length=ps.length->bindArgs (fnOf x qual (iS st) (cM st) (aP st) .none kV doc pm an ba ct) ⟨us,[]⟩=pure (ps.zip us)):Binds K fd ps []:=by
 obtain⟨oc,od,kV,doc,pm,an,ba,ct,qi,rfl,lk,gD⟩:=F.ex;exact .all (h kV doc pm an ba ct)
variable {oc pm ct:Value} {od an:Option Addr}
theorem xS{qi:Array (Option Value)}{kV doc ba:Value}(l:K.lookup f=some ⟨oc,od,.func (fnOf x qual (iS st) (cM st) (aP st) .none kV doc pm an ba ct),qi⟩)(c:codeIn K ba qual=true)(k:keepIn K (.ref f)=true):lT K x qual st f (fnOf x qual (iS st) (cM st) (aP st) .none kV doc pm an ba ct):=⟨⟨oc,od,kV,doc,pm,an,ba,ct,qi,rfl,l,c⟩,k⟩
theorem iK(h:n<=1000):n<sizeLine:=lt_of_le_of_lt h (by decide)
def aL (H H':Hp):Prop:=∀b o,H b=some o->H' b=some o
theorem aL.refl(H:Hp):aL H H:=fun _ _ h=>h
variable {H H1 H2:Hp}
theorem aL.trans(a:aL H H1)(b:aL H1 H2):aL H H2:=fun c o h=>b c o (a c o h)
open PySem PySem.Spec PyProof.Rows
variable {pins:List (Addr×Obj)} {σ:St}
variable {s:Shared} in
theorem Inv.big(I:Inv X pins σ H s):sysModules<s.heap.objs.size:=by
 have h:mainGlobals<s.heap.objs.size:=(I.mod.glob.keeps I.bk).lt;exact lt_trans (by decide) h
open PySem PySem.Spec PyProof.Rows
variable {prog:Program} {A:Around} {elt iter:Expr} {ifs:List Expr} {scope:Scope} {pos:Pos} {env:Env}
theorem pC{R:Result->Shared->Prop}{s:Shared}{target:Expr}{it acc:Value}(I:Nat->Shared->Prop)(turn:∀n s,I n s->wpAny (model prog w) A (pyNext it) (fun r bN=>match r with
   |none=>R (.ok .next) bN
   |some v=>wpAny (model prog w) A (letOwnedTupleGo target it v) (fun _ HM=>wpAny (model prog w) A (assign target env v) (fun _ bo=>
     wpAny (model prog w) A (forIn ifs true fun c r=>if r=true then do let ok <- isTrue c env (eval c env);pure (ForInStep.yield ok)else pure (ForInStep.yield r)) (fun ok kQ=>
      if ok=true then wpAny (model prog w) A (eval elt env) (fun x Lc=>
       wpAny (model prog w) A (call (.builtin "list.append") [acc,x]) (fun _ Lb=>∃m,m<n/\I m Lb) (notedBy (model prog w) A env fun e s'=>R (.error e) s') Lc) (notedBy (model prog w) A env fun e s'=>R (.error e) s') kQ
      else ∃m,m<n/\I m kQ) (notedBy (model prog w) A env fun e s'=>R (.error e) s') bo) (notedBy (model prog w) A env fun e s'=>R (.error e) s') HM) (notedBy (model prog w) A env fun e s'=>R (.error e) s') bN) (notedBy (model prog w) A env fun e s'=>R (.error e) s') s)(n:Nat)(h:I n s):
  codeAny (model prog w) A (.compLoop (.ListComp elt [⟨target,iter,ifs,0⟩] scope pos) 0 it acc env) R s:=by
 refine codeAny_loop rfl I (fun n s hI=>?_) n h;show wpAny _ A ((compTurn (.ListComp elt [⟨target,iter,ifs,0⟩] scope pos) 0 it acc env).onRaise (fun x=>do noteFrame x env;theTreesLotGoes x)) _ _ s
 refine wpAny_noted ?_;rw[compTurn_list];refine wpAny_bind (wpAny_standAt (wpAny_bind (wpAny_mono (turn n s hI) (fun r bN ie=>?_) fun _ _ h'=>h')));cases r with
 |none=>exact wpAny_pure ie
 |some v=>
  refine wpAny_bind (wpAny_mono ie (fun _ HM Oz=>?_) fun _ _ h'=>h');refine wpAny_bind (wpAny_mono Oz (fun _ bo xl=>wpAny_bind (wpAny_mono xl (fun ok kQ Mo=>?_) fun _ _ h'=>h')) fun _ _ h'=>h');cases ok with
  |false=>exact wpAny_pure ⟨rfl,Mo⟩
  |true=>
   exact wpAny_bind (wpAny_bind (wpAny_mono Mo (fun x Lc RI=>wpAny_bind (wpAny_mono RI (fun _ Lb RH=>wpAny_pure (wpAny_pure ⟨rfl,RH⟩)) fun _ _ h'=>h')) fun _ _ h'=>h'))
abbrev cL (X:Cx) (scope:Scope) (cl:List (Str×Addr)) (N':List Str) (C:Addr) (aI:Shared) (ag:Hp) (ex:List Addr):Cx:=
 {prog:=X.prog,w:=X.w,K:=X.K,mg:=X.mg,base:=X.base,A:=X.A,N:=N',aI:=aI,ag:=ag,env:=compEnvC scope cl C X.env,outer:=X.stack,stack:=X.stack,ex:=ex,fn:=fun _=>false,calm:=X.calm,pn:=[],xe:=fun _ _=>False}
def AJ (X:Cx) (ifs:List Expr) (t:TT):Prop:=
 ∀(pins:List (Addr×Obj)) (s:Shared) (σ:St) (H:Hp) (Q:Bool->Hp->Prop),Inv X pins σ H s->t σ H Q->
  wpAny (model X.prog X.w) X.A (forIn ifs true fun c r=>if r=true then do let ok <- isTrue c X.env (eval c X.env);pure (ForInStep.yield ok)else pure (ForInStep.yield r)) (TP X pins σ Q) X.xe s
def F9:TT:=fun _ H Q=>Q true H
theorem zJ:AJ X [] F9:=fun _ _ _ H _ I h=>wpAny_tests_nil ⟨H,I,h⟩
variable {c:Expr}
theorem JC{t:TT}(h:PT X c t):AJ X [c] t:=fun pins s σ H Q I hw=>wpAny_tests_one (h pins s σ H Q I hw)
def bY (aN:List (Option Nat)) (σ:St):St:=aN.map fun o=>o.bind fun j=>(σ[j]?).join
structure o8 (X:Cx) (scope:Scope) (cl:List (Str×Addr)) (N':List Str) (aN:List (Option Nat)):Prop where
 GZ:closureFor scope X.env=pure cl
 cells:∀y∈scope.names,y.2≠.cell
 kind:scope.kind=.function
 names:∀y∈scope.names,y.2=.local->scope.names.lookup y.1=some .local
 nd:N'.Nodup
 len:aN.length=N'.length
 sub:∀x c,cl.lookup x=some c->X.env.cells.lookup x=some c
 has:∀x,((relabel scope X.env).names.lookup x=some .cell\/(relabel scope X.env).names.lookup x=some .free)->∃c,cl.lookup x=some c
 aN:∀(i:Nat) (x:Str) (j:Nat),N'[i]?=some x->aN[i]?=some (some j)->X.N[j]?=some x/\mU X.env.scope x/\((relabel scope X.env).names.lookup x=some .cell\/(relabel scope X.env).names.lookup x=some .free)/\X.env.scope.names.lookup x≠some .local
def dJ:St->St->Prop
 |[],[]=>True
 |none::a,_::b=>dJ a b
 |some v::a,u::b=>u=some v/\dJ a b
 |_,_=>False
theorem dJ.len:∀{a b:St},dJ a b->a.length=b.length
 |[],[],_=>rfl
 |none::a,_::b,h=>congrArg (· + 1) (dJ.len (a:=a) (b:=b) h)
 |some v::a,u::b,h=>congrArg (· + 1) (dJ.len (a:=a) (b:=b) h.2)
 |[],_::_,h=>h.elim
 |none::_,[],h=>h.elim
 |some _::_,[],h=>h.elim
theorem dJ.get:∀{a b:St},dJ a b->∀(i:Nat) (v:V),a[i]?=some (some v)->b[i]?=some (some v)
 |[],[],_,i,v,e=>by simp at e
 |none::a,_::b,h,0,v,e=>by simp at e
 |none::a,_::b,h,i+1,v,e=>by
  rw[getElem?_cons_succ]at e ⊢;exact dJ.get (a:=a) (b:=b) h i v e
 |some x::a,u::b,h,0,v,e=>by
  rw[getElem?_cons_zero]at e ⊢;rw[h.1];exact e
 |some x::a,u::b,h,i+1,v,e=>by
  rw[getElem?_cons_succ]at e ⊢;exact dJ.get (a:=a) (b:=b) h.2 i v e
 |[],_::_,h,_,_,_=>h.elim
 |none::_,[],h,_,_,_=>h.elim
 |some _::_,[],h,_,_,_=>h.elim
def pN (aN:List (Option Nat)) (wi:TI) (g:TG) (rz:TT) (te:TE):TE:=fun σ H Q=>wi σ H fun J H1=>∃W:Nat->Nat->List V->Hp->Prop,(∃m,W 0 m [] H1)/\∀i m ys H,W i m ys H->ys.length<sizeLine/\
 ((J.stop i H/\∀D,H D=none->Q (.ref D) (upd H D (.lst ys)))\/
  (J.go i H/\∀x H',J.uh i H x H'->g x (bY aN σ) H' fun dN H2=>dJ (bY aN σ) dN/\rz dN H2 fun b H3=>if b=true then te dN H3 fun v H4=>∃m',m'<m/\W (i+1) m' (ys++[v]) H4 else ∃m',m'<m/\W (i+1) m' ys H3))
variable {cl:List (Str×Addr)} {N':List Str}
theorem tE{tg:Expr}{aN:List (Option Nat)}{wi:TI}{g:TG}{rz:TT}{te:TE}(hc:X.calm=true)(B:o8 X scope cl N' aN)(hi:PI X tg iter wi)(hg:∀C aI ag ex,PG (cL X scope cl N' C aI ag ex) tg g)(ht:∀C aI ag ex,AJ (cL X scope cl N' C aI ag ex) ifs rz)(he:∀C aI ag ex,PE (cL X scope cl N' C aI ag ex) elt te)(hs:∀x,foldedSetIterable iter X.env x=pure x:=by intro _;rfl):
  PE X (.ListComp elt [⟨tg,iter,ifs,0⟩] scope pos) (pN aN wi g rz te):=by
 intro pins s σ H Q I h;rw[eval_ListComp];refine wpAny_comprehension_free (use:=none) rfl hs B.GZ B.kind B.names (bX (hi pins s σ H _ I h) fun xv bN ie=>bX ie fun Im bo xl=>?_);obtain⟨it,fp,tn,J,H2,e,I2,T,rE,f2,W,⟨m0,w0⟩,turn⟩:=xl;subst e;refine wpAny_newObj_type (wpAny_newFunctionEnv B.cells (by intro y hy;simp at hy) (fun ie ll j3=>?_) B.kind);dsimp only at ll j3 ⊢;generalize xN:bo.heap.push {cls:=.type "list",dict:=none,data:=.seq ([]:List Value).toArray}=HH at ll j3 ⊢;have hC:HH.objs.size=bo.heap.objs.size+1:=by rw[<- xN,size_push]
 have Ec:bo.heap.objs.size≠HH.objs.size:=by rw[hC];exact ne_of_lt (Nat.lt_succ_self _)
 have below:∀b,b<bo.heap.objs.size->b≠HH.objs.size/\b≠bo.heap.objs.size:=fun b hb=>⟨by rw[hC];exact ne_of_lt (Nat.lt_succ_of_lt hb),ne_of_lt hb⟩;have old:∀b o,bo.heap.get? b=some o->ie.get? b=some o:=fun b o e=>j3.extBut b o (below b (lt_size e)).1 (get?_push_of_some _ (xN▸get?_push_of_some _ e));have tN:ie.get? bo.heap.objs.size=some {cls:=.type "list",data:=.seq ([]:List Value).toArray}:=j3.extBut _ _ Ec (get?_push_of_some _ (xN▸get?_push_size _ rfl));have nY:bo.heap.objs.size<=HH.objs.size:=by rw[hC];exact Nat.le_succ _
 generalize hD:bo.heap.objs.size=D at *;generalize Ug:HH.objs.size=C at *

 have xU:∀b∈fp,b<D:=fun b hb=>by
  obtain⟨o,e,_⟩:=T.obj _ _ rE b hb;rw[<- hD];exact lt_size e
 have BW:∀x c,cl.lookup x=some c->c<D:=fun x c e=>by
  obtain⟨v,q⟩:=I2.cell x c (B.sub x c e);rw[<- hD];exact q.lt
 have MO:∀b∈jQ X.stack,b∈X.env.locals::X.fs:=fun b hb=>I2.rB b hb;have ok:(cL X scope cl N' C bo H2 fp).Ok:=by
  refine⟨I2.mod,B.kind,I2.ok.glob,I2.ok.blt,?_,fun x y c h1 h2=>I2.ok.inj x y c (B.sub x c h1) (B.sub y c h2),fun x hx=>B.has x hx,fun x c hf=>absurd hf (by simp),I2.ok.hd,I2.ok.frames,.inl rfl,fun b hb=>⟨?_,fun x c e z=>?_⟩,I2.bs,le_trans I2.ok.v7 I2.sz,fun b o e hb=>?_,fun b hb hf=>?_,I2.stack,I2.t9⟩
  ·show bo.heap.objs.size<=C;rw[hD];exact nY
  ·exact ne_of_lt (lt_of_lt_of_le (xU b hb) nY)
  ·exact(f2 b hb).2.2.2.2.1 x c (B.sub x c e) z
  ·have h1:=f2 b hb;rcases h1.2.2.2.1 with z|z
   ·exact I2.ok.tG b o e z
   ·have h2:=(I2.ok.bs b o e).1;exact absurd (lt_of_lt_of_le (lt_size h2) z) (lt_irrefl _)
  ·rcases mem_cons.mp (MO b hf)with z|z
   ·exact(f2 b hb).2.1 z
   ·exact(f2 b hb).2.2.1 z
 have p4:∀a,D<=a->H2 a=none:=fun a ha=>I2.bx.fresh (by rw[hD];exact ha);have I4:Inv (cL X scope cl N' C bo H2 fp) [] (bY aN σ) H2 {bo with heap:=ie,toks:=bo.toks+([]:List (Str×Value)).length}:=by
  refine⟨ok,rfl,I2.bare,Un.kept old,⟨_,ll,fun i x v e1 e2 e3=>?_⟩,fun x c e=>?_,p4 C nY,fun x c e=>I2.iA x c (B.sub x c e),fun p hp=>absurd (show p∈([]:List (Addr×Obj))from hp) (by simp),I2.bx.kept old,?_⟩
  ·have qx:N'[i]?=some x:=e1;unfold bY at e2;rw[getElem?_map]at e2;cases nJ:aN[i]? with
   |none=>rw[nJ]at e2;cases e2
   |some o=>
    rw[nJ]at e2;cases o with
    |none=>cases e2
    |some j=>
     obtain⟨hN,hv,hk,MB⟩:=B.aN i x j qx nJ;have e4:σ[j]?=some (some v):=by
      have e5:some ((σ[j]?).join)=some (some v):=e2;cases hq:σ[j]? with
      |none=>rw[hq]at e5;cases e5
      |some q=>rw[hq]at e5;exact e5
     obtain⟨m,hn,hl⟩:=I2.loc;obtain⟨u,r,l⟩:=hl j x v hN e4 hv;refine⟨u,r,.inr ⟨hk,?_⟩⟩;rcases l with⟨k,_⟩|⟨k,c,nW,o,ho,hd⟩
     ·exact absurd k MB
     ·obtain⟨c',fI⟩:=B.has x hk;have e6:=B.sub x c' fI;rw[nW]at e6;cases e6;exact⟨c,fI,o,old c o ho,hd⟩
  ·obtain⟨v,o,ho,hd⟩:=I2.cell x c (B.sub x c e);exact⟨v,o,old c o ho,hd⟩
  ·show(bY aN σ).length=N'.length;unfold bY;rw[length_map];exact B.len
 have qM:D≠C:=Ec;have N3:D∉jQ X.stack:=fun hb=>by
  obtain⟨_,o,ho,_⟩:=I2.stack.mem hb;have:=lt_size ho;rw[hD]at this;exact absurd this (lt_irrefl _)
 have kS:∀{P:List (Addr×Obj)} {H':Hp},(∀p∈P,p.1=D)->(∀b∈fp,H' b=none)->∀b∈fp,nO (cL X scope cl N' C bo H2 fp) P H' b:=fun hP hn b hb=>
  ⟨hn b hb,(ok.Aj b hb).1,ok.tQ b hb,.inl hb,(ok.Aj b hb).2,fun p hp z=>by
   have dI:p∈_:=hp;rw[hP p (by simpa using dI)]at z;exact Nat.ne_of_gt (xU b hb) z⟩
 have loop:∀kQ:Shared,kQ={bo with heap:=ie,toks:=bo.toks+([]:List (Str×Value)).length}->
   codeAny (model X.prog X.w) X.A (.compLoop (.ListComp elt [⟨tg,iter,ifs,0⟩] scope pos) 0 (.ref it) (.ref D) (compEnvC scope cl C X.env))
    (compPost (model X.prog X.w) X.A X.xe none (EP X pins σ Q) (.ref D) C) kQ:=by
  rintro kQ rfl;refine pC (fun n s'=>∃i ys aq H' k,Inv (cL X scope cl N' C bo H2 fp) [] (bY aN σ) H' s'/\tn i s'.heap/\(∀b∈fp,H' b=none)/\H' D=none/\s'.heap.get? D=some {cls:=.type "list",data:=.seq (aq:List Value).toArray k}/\Vals ys aq/\W i n ys H') ?_ m0
   ⟨0,[],[],H2,0,I4,T.keep _ _ _ rE fun b _ o e=>old b o e,fun b hb=>(f2 b hb).1,p4 D (le_refl _),tN,.nil,w0⟩
  rintro n s' ⟨i,ys,aq,H',k,Ia,Cy,Eh,lr,Eb,rv,wa⟩;obtain⟨hsz,tu⟩:=turn i n ys H' wa;have Ib:Inv (cL X scope cl N' C bo H2 fp) [(D,{cls:=.type "list",data:=.seq aq.toArray k})] (bY aN σ) H' s':=Ia.iO fun p hp=>by
   have dI:p=(D,{cls:=.type "list",data:=.seq aq.toArray k}):=by simpa using hp
   subst dI;exact⟨Eb,lr,qM,N3,fun v z=>nomatch z⟩
  have xK:∀p∈[((D,{cls:=.type "list",data:=.seq aq.toArray k}):Addr×Obj)],p.1=D:=fun p hp=>by
   have dI:p=(D,{cls:=.type "list",data:=.seq aq.toArray k}):=by simpa using hp
   rw[dI]
  rcases tu with⟨stop,qn⟩|⟨go,step⟩
  ·refine wpAny_mono (T.done (cL X scope cl N' C bo H2 fp) rfl rfl rfl hc i _ s' (bY aN σ) H' (fun _ _=>False) Ib (kS xK Eh) Cy stop) (fun r s4 xr=>?_) fun _ _ z=>z.elim;obtain⟨hr,Ic⟩:=xr;subst hr;obtain⟨m,hn,_⟩:=Ic.loc;refine⟨m,hn,fun h' oY=>?_⟩;have GF:s4.heap.get? D=some {cls:=.type "list",data:=.seq aq.toArray k}:=(Ic.pin (D,_) (by simp)).1;have IH:H' C=none:=Ic.free;have un:Un (jQ X.stack) fp H2 (upd H' D (.lst ys)) bo.heap h':=by
    have bs:=Ic.base;have uC:∀b o,bo.heap.get? b=some o->h'.get? b=s4.heap.get? b:=fun b o e=>by
     have:b<D:=by rw[<- hD];exact lt_size e
     exact oY.2 b (ne_of_lt (lt_of_lt_of_le this nY))
    refine⟨fun b o e n h1 h2=>(uC b o e).trans (bs.keep b o e n h1 h2),fun b o e n h1 h2=>?_,fun b o e n h2=>?_,fun b o e h2=>?_,fun b xs e=>?_,fun b o u e=>?_,fun b ps e=>?_⟩
    ·obtain⟨sl,q⟩:=bs.slot b o e n h1 h2;exact⟨sl,(uC b o e).trans q⟩
    ·have:b<D:=by rw[<- hD];exact lt_size e
     rw[bc (ne_of_lt this)];exact bs.free b o e n h2
    ·obtain⟨o',q⟩:=bs.there b o e h2;exact⟨o',(uC b o e).trans q⟩
    ·have q:=bs.lW b xs e;rw[bc (b9 q lr)];exact q
    ·have q:=bs.k6 b o u e;rw[bc (b9 q lr)];exact q
    ·obtain⟨more,q⟩:=bs.lY b ps e;exact⟨more,by rw[bc (b9 q lr)];exact q⟩
   have bx:gH X.prog X.w (upd H' D (.lst ys)) h':=fun b u e=>by
    by_cases hb:b=D
    ·subst hb;rw[cW]at e;cases e;exact⟨Nat.le_of_lt hsz,aq,k,rv,(oY.2 _ (by show _≠C;exact qM)).trans GF⟩
    ·rw[bc hb]at e;refine(Ic.bx b u e).lZ (fun c v E9 q=>(oY.2 c ?_).trans q) (fun c q=>by rw[bc (b9 q lr)];exact q) fun c xs q=>by rw[bc (b9 q lr)];exact q
     rcases E9 with z|z
     ·rw[z];exact b9 e IH
     ·exact b9 z IH
   have If:=I2.IU (s':={s4 with heap:=h'}) (H':=upd H' D (.lst ys)) (ch:=fp) Ic.os un bx Ic.bare fun b hb=>⟨(f2 b hb).2.2.2.1,(f2 b hb).2.1,(f2 b hb).2.2.2.2.1,(f2 b hb).2.2.2.2.2⟩;exact⟨.ref D,_,If,rfl,qn D lr⟩
  ·refine wpAny_mono (T.item (cL X scope cl N' C bo H2 fp) rfl rfl rfl hc i _ s' (bY aN σ) H' (fun _ _=>False) Ib (kS xK Eh) Cy go) (fun r s4 xr=>?_) fun _ _ z=>z.elim;obtain⟨u,hr,h4⟩:=xr;subst hr;refine wpAny_mono h4 (fun _ s5 h5=>?_) fun _ _ z=>z.elim;obtain⟨x,H5,I5,r5,y5,oq,Ei⟩:=h5;have F1:=I5.pinned (kS xK Ei) (T.obj _ _ oq);refine wpAny_mono (hg C bo H2 fp _ s5 (bY aN σ) H5 x u _ F1 r5 (step x H5 y5)) (fun _ s6 h6=>?_) fun _ _ z=>z.elim;obtain⟨rf,H6,I6,rS,q6⟩:=h6;refine wpAny_mono (ht C bo H2 fp _ s6 rf H6 _ I6 q6) (fun b s7 h7=>?_) fun _ _ z=>z.elim;obtain⟨H7,I7,q7⟩:=h7

   have back:∀{bz:St} {sU:Hp} {mx:Shared},Inv (cL X scope cl N' C bo H2 fp) ([((D,{cls:=.type "list",data:=.seq aq.toArray k}):Addr×Obj)]++mF fp s5.heap) bz sU mx->
     mx.heap.get? D=some {cls:=.type "list",data:=.seq aq.toArray k}/\sU D=none/\(∀b∈fp,sU b=none)/\tn (i+1) mx.heap:=fun{bz sU mx} Iz=>by
    have pz:=fun p hp=>Iz.pin p (mem_append_right _ hp);have pD:=pz (D,{cls:=.type "list",data:=.seq aq.toArray k}) (mem_append_left _ mem_cons_self);refine⟨pD.1,pD.2.1,fun b hb=>?_,T.keep _ _ _ oq fun b hb o e=>(pz (b,o) (mem_append_right _ (hV hb e))).1⟩;obtain⟨o,e,_⟩:=T.obj _ _ oq b hb;exact(pz (b,o) (mem_append_right _ (hV hb e))).2.1
   have hits:aq.length=ys.length:=rv.length.symm;cases b with
   |false=>
    rw[if_neg Bool.false_ne_true]at q7 ⊢;obtain⟨m',hm,w7⟩:=q7;obtain⟨b1,b2,b3,b4⟩:=back I7;exact⟨m',hm,i+1,ys,aq,H7,k,(I7.iO (pins':=[]) fun p hp=>absurd hp (by simp)).weak rS.len rS.get,b4,b3,b2,b1,rv,w7⟩
   |true=>
    rw[if_pos rfl]at q7 ⊢;refine wpAny_mono (he C bo H2 fp _ s7 rf H7 _ I7 q7) (fun y s8 h8=>?_) fun _ _ z=>z.elim;obtain⟨v,H8,I8,r8,m',hm,w8⟩:=h8;obtain⟨b1,b2,b3,b4⟩:=back I8;refine wpAny_list_append_plain (l:=D) (items:=aq.toArray) (hsz:=by rw[size_toArray];omega) ⟨k,b1⟩ fun h' sj oY=>?_;obtain⟨k',e'⟩:=sj;have I9:Inv (cL X scope cl N' C bo H2 fp) [] rf H8 {s8 with heap:=h',toks:=s8.toks}:=(I8.iO (pins':=[]) fun p hp=>absurd hp (by simp)).turned (it:=D) (fun b o hb e=>(oY.2 b hb).trans e) b2 qM (.inr (le_of_eq hD))
     (fun x c e=>ne_of_lt (BW x c e)) (fun p hp=>absurd (show p∈([]:List (Addr×Obj))from hp) (by simp))
    refine⟨m',hm,i+1,ys++[v],aq++[y],H8,k',I9.weak rS.len rS.get,T.keep _ _ _ b4 fun b hb o e=>(oY.2 b (ne_of_lt (xU b hb))).trans e,b3,b2,?_,rv.append (.cons r8 .nil),w8⟩;have EA:h'.get? D=_:=e';rw[List.push_toArray]at EA;exact EA
 exact codeAny_compStart_list (loop _ rfl) (T.self X.A 0 _ _ _ (T.keep _ _ _ rE fun b _ o e=>old b o e) (loop _ rfl))
end
end L2
namespace L3
noncomputable section
open PySem PySem.Spec PyProof.Rows L2
open PySem.W (Dat kqdOk kqdP kqdPs kqd_lay kqd_eqv)
abbrev Fg:=Frag
abbrev dA:=Addr->Prop
abbrev ar:=List (Option Dat)
def Cg (K:Fg) (H:Hp) (Av:dA) (a:Addr) (xs:List V):Prop:=
 (Rd H a (.tup xs)/\¬Av a)\/∃(o:Obj) (aq:Array Value) (n:Nat),K.lookup a=some o/\o.cls=.type "tuple"/\o.data=.seq aq n/\aq.size<=sizeLine/\Vals xs aq.toList
def Ci (K:Fg) (H:Hp) (Av:dA) (a:Addr) (xs:List V):Prop:=
 (Rd H a (.lst xs)/\¬Av a)\/∃(o:Obj) (aq:Array Value) (n:Nat),K.lookup a=some o/\o.cls=.type "list"/\o.dict=none/\o.data=.seq aq n/\aq.size<=sizeLine/\Vals xs aq.toList
variable {K:Fg} {H:Hp} {Av:dA} {a:Addr} {xs:List V}
theorem Cg.sq(h:Cg K H Av a xs):i7 K H a xs:=h.elim (fun z=>.inl z.1) .inr
theorem Ci.sq(h:Ci K H Av a xs):eC K H a xs:=h.elim (fun z=>.inl z.1) .inr
mutual
inductive aM (K:Fg) (H:Hp) (Av:dA):V->Dat->Prop
 |bI:aM K H Av .bI .none
 |bl (b:Bool):aM K H Av (.bl b) (.bool b)
 |int (i:Int):aM K H Av (.int i) (.int i)
 |str (x:Str):aM K H Av (.str x) (.str x)
 |tup {a:Addr} {xs:List V} {ds:List Dat}:Cg K H Av a xs->ax K H Av xs ds->aM K H Av (.ref a) (.tuple ds)
 |lst {a:Addr} {xs:List V} {ds:List Dat}:Ci K H Av a xs->ax K H Av xs ds->aM K H Av (.ref a) (.list ds)
inductive ax (K:Fg) (H:Hp) (Av:dA):List V->List Dat->Prop
 |nil:ax K H Av [] []
 |cons {v:V} {vs:List V} {d:Dat} {ds:List Dat}:aM K H Av v d->ax K H Av vs ds->ax K H Av (v::vs) (d::ds)
end
variable {Av':dA} {H':Hp}
def jB (H:Hp) (Av:dA) (H':Hp) (Av':dA):Prop:=∀b o,H b=some o->¬Av b->H' b=some o/\¬Av' b
theorem zD(k:jB H Av H' Av'){u:HO}(h:Rd H a u/\¬Av a):Rd H' a u/\¬Av' a:=by
 obtain⟨h,n⟩:=h;rcases h with h|⟨o,h⟩
 ·exact⟨.inl (k _ _ h n).1,(k _ _ h n).2⟩
 ·exact⟨.inr ⟨o,(k _ _ h n).1⟩,(k _ _ h n).2⟩
mutual
theorem aM.mono(k:jB H Av H' Av'):∀{v:V} {d:Dat},aM K H Av v d->aM K H' Av' v d
 |_,_,.bI=>.bI
 |_,_,.bl b=>.bl b
 |_,_,.int i=>.int i
 |_,_,.str x=>.str x
 |_,_,.tup h r=>.tup (h.elim (fun z=>.inl (zD k z)) .inr) (ax.mono k r)
 |_,_,.lst h r=>.lst (h.elim (fun z=>.inl (zD k z)) .inr) (ax.mono k r)
theorem ax.mono (k:jB H Av H' Av'):∀{vs:List V} {ds:List Dat},ax K H Av vs ds->ax K H' Av' vs ds
 |_,_,.nil=>.nil
 |_,_,.cons h r=>.cons (aM.mono k h) (ax.mono k r)
end
theorem uJ(e:aL H H'):jB H Av H' Av:=fun b o h n=>⟨e b o h,n⟩
theorem uI(w:∀a,Av' a->Av a):jB H Av H Av':=fun b o h n=>⟨h,fun z=>n (w _ z)⟩
theorem aM.same(e:aL H H'){v:V}{d:Dat}(r:aM K H Av v d):aM K H' Av v d:=r.mono (uJ e)
theorem ax.same(e:aL H H'){v:List V}{d:List Dat}(r:ax K H Av v d):ax K H' Av v d:=r.mono (uJ e)
theorem aM.weak(w:∀a,Av' a->Av a){v:V}{d:Dat}(r:aM K H Av v d):aM K H Av' v d:=r.mono (uI w)
theorem ax.weak(w:∀a,Av' a->Av a){v:List V}{d:List Dat}(r:ax K H Av v d):ax K H Av' v d:=r.mono (uI w)
theorem ax.length:∀{vs:List V} {ds:List Dat},ax K H Av vs ds->vs.length=ds.length
 |_,_,.nil=>rfl
 |_,_,.cons _ r=>congrArg (· + 1) (ax.length r)
theorem ax.get:∀{vs:List V} {ds:List Dat} {i:Nat} {d:Dat},ax K H Av vs ds->ds[i]?=some d->∃v,vs[i]?=some v/\aM K H Av v d
 |_,_,_,_,.nil,e=>by simp at e
 |_,_,0,_,.cons h _,e=>by simp at e;subst e;exact⟨_,rfl,h⟩
 |_,_,i+1,d,.cons _ r,e=>by
  obtain⟨v,h1,h2⟩:=ax.get (i:=i) (d:=d) r (by simpa using e);exact⟨v,by simpa using h1,h2⟩
theorem ax.append:∀{vs ws:List V} {ds es:List Dat},ax K H Av vs ds->ax K H Av ws es->ax K H Av (vs++ws) (ds++es)
 |_,_,_,_,.nil,s=>s
 |_,_,_,_,.cons h r,s=>.cons h (ax.append r s)
theorem ax.take:∀{vs:List V} {ds:List Dat} (n:Nat),ax K H Av vs ds->ax K H Av (vs.take n) (ds.take n)
 |_,_,0,_=>.nil
 |_,_,_+1,.nil=>.nil
 |_,_,n+1,.cons r t=>.cons r (ax.take n t)
theorem ax.drop:∀{vs:List V} {ds:List Dat} (n:Nat),ax K H Av vs ds->ax K H Av (vs.drop n) (ds.drop n)
 |_,_,0,r=>r
 |_,_,_+1,.nil=>.nil
 |_,_,n+1,.cons _ t=>ax.drop n t
theorem ax.ints(ns:List Int):ax K H Av (ns.map V.int) (ns.map Dat.int):=by
 induction ns with
 |nil=>exact .nil
 |cons n ns ih=>exact .cons (.int n) ih
variable {p:Addr}
theorem bP(h:H p=none)(o:HO):aL H (upd H p o):=fun b u q=>by rw[bc (b9 q h)];exact q
def ff (H:Hp) (Av:dA):Prop:=∀a,Av a->∃o,H a=some o
theorem ff.same(e:aL H H')(h:ff H Av):ff H' Av:=fun a z=>let ⟨o,q⟩:=h a z;⟨o,e a o q⟩
theorem ff.new(h:ff H Av)(e:H p=none):¬Av p:=fun z=>by
 obtain⟨o,q⟩:=h p z;rw[e]at q;cases q
variable {ds:List Dat}
theorem aM.qL(h:ff H Av)(e:H p=none)(r:ax K H Av xs ds):aM K (upd H p (.tup xs)) Av (.ref p) (.tuple ds):=
 .tup (.inl ⟨.inl cW,h.new e⟩) (r.same (bP e _))
theorem aM.oT(h:ff H Av)(e:H p=none)(r:ax K H Av xs ds):aM K (upd H p (.lst xs)) Av (.ref p) (.list ds):=
 .lst (.inl ⟨.inl cW,h.new e⟩) (r.same (bP e _))
def dH (K:Fg) (H:Hp) (Av:dA) (σ:L2.St) (ρ:ar):Prop:=∀(i:Nat) (d:Dat),ρ[i]?=some (some d)->∃v,σ[i]?=some (some v)/\aM K H Av v d
variable {ρ:ar}
theorem dH.same{σ:L2.St}(e:aL H H')(h:dH K H Av σ ρ):dH K H' Av σ ρ:=fun i d q=>let ⟨v,a,r⟩:=h i d q;⟨v,a,r.same e⟩
def tF (K:Fg) (f:ar->Option Dat):TE:=fun σ H Q=>∃Av ρ d,ff H Av/\dH K H Av σ ρ/\f ρ=some d/\∀v H',aL H H'->aM K H' Av v d->Q v H'
def jL (K:Fg) (f:ar->Option Bool):TT:=fun σ H Q=>∃Av ρ b,ff H Av/\dH K H Av σ ρ/\f ρ=some b/\∀H',aL H H'->Q b H'
def HJ (K:Fg) (f:ar->Option (List Dat)):TA:=fun σ H Q=>∃Av ρ ds,ff H Av/\dH K H Av σ ρ/\f ρ=some ds/\∀vs H',aL H H'->ax K H' Av vs ds->Q vs H'
abbrev PF (X:Cx) (e:Expr) (f:ar->Option Dat):Prop:=PE X e (tF X.K f)
abbrev Qu (X:Cx) (e:Expr) (f:ar->Option Bool):Prop:=PT X e (jL X.K f)
abbrev J2 (X:Cx) (e:List Expr) (f:ar->Option (List Dat)):Prop:=PA X e (HJ X.K f)
variable {X:Cx} {e:Expr}
theorem bh{t t':TE}(h:PE X e t)(m:∀σ H Q,t' σ H Q->t σ H Q):PE X e t':=fun pins s σ H Q I q=>h pins s σ H Q I (m σ H Q q)
theorem mD{t t':TT}(h:PT X e t)(m:∀σ H Q,t' σ H Q->t σ H Q):PT X e t':=fun pins s σ H Q I q=>h pins s σ H Q I (m σ H Q q)
theorem tx{t t':TT}(h:PW X e t)(m:∀σ H Q,t' σ H Q->t σ H Q):PW X e t':=fun w pins s σ H Q I q=>h w pins s σ H Q I (m σ H Q q)
variable {es:List Expr}
theorem pV{t t':TA}(h:PA X es t)(m:∀σ H Q,t' σ H Q->t σ H Q):PA X es t':=fun p pins s σ H Q I q=>h p pins s σ H Q I (m σ H Q q)
def aT (i:Nat):ar->Option Dat:=fun ρ=>(ρ[i]?).join
def fC (d:Dat):ar->Option Dat:=fun _=>some d
variable {d:Dat}
theorem join_some{o:Option (Option Dat)}(h:o.join=some d):o=some (some d):=by
 cases o with
 |none=>cases h
 |some q=>exact congrArg some h
variable {fb fa:ar->Option Dat} {a b:Expr}
def f2 (g:Dat->Dat->Option Dat) (fa fb:ar->Option Dat):ar->Option Dat:=fun ρ=>(fa ρ).bind fun a=>(fb ρ).bind fun b=>g a b
def jm (K:Fg) (r:R2) (g:Dat->Dat->Option Dat):Prop:=∀(H:Hp) (Av:dA) (x y:V) (dx dy d:Dat) (Q:VK),ff H Av->aM K H Av x dx->aM K H Av y dy->g dx dy=some d->(∀v H',aL H H'->aM K H' Av v d->Q v H')->r x y H Q
variable {α:Type}
theorem bind_some{β:Type}{o:Option α}{g:α->Option β}{b:β}(h:o.bind g=some b):∃a,o=some a/\g a=some b:=by
 cases o with
 |none=>cases h
 |some a=>exact⟨a,rfl,h⟩
variable {r:R2} {g:Dat->Dat->Option Dat}
theorem vv(hr:jm K r g):∀σ H Q,tF K (f2 g fa fb) σ H Q->zt r (tF K fa) (tF K fb) σ H Q:=by
 rintro σ H Q ⟨Av,ρ,d,hA,hE,hf,q⟩;obtain⟨dx,e1,hf⟩:=bind_some hf;obtain⟨dy,e2,hf⟩:=bind_some hf;refine⟨Av,ρ,dx,hA,hE,e1,fun x H1 s1 r1=>⟨Av,ρ,dy,hA.same s1,hE.same s1,e2,fun y H2 s2 r2=>?_⟩⟩;exact hr H2 Av x y dx dy d Q (hA.same (s1.trans s2)) (r1.same s2) r2 hf fun v H' s3 r3=>q v H' (s1.trans (s2.trans s3)) r3
variable {pos:Pos}
theorem l6{op:Operator}(ho:cZ X (binaryOp op) r)(hd:jm X.K r g)(ha:PF X a fa)(hb:PF X b fb):PF X (.BinOp a op b pos) (f2 g fa fb):=bh (Bh ho ha hb) (vv hd)
theorem oM{op:CmpOp}(ho:cZ X (compareOp op) r)(hd:jm X.K r g)(ha:PF X a fa)(hb:PF X b fb)(hm:behindInMarks op b=false):PF X (.Compare a [op] [b] pos) (f2 g fa fb):=bh (JM ho ha hb hm) (vv hd)
def jW:Dat->Option Bool
 | .bool b=>some b
 |_=>none
variable {f:ar->Option Dat}
def c9 (f:ar->Option Dat):ar->Option Bool:=fun ρ=>(f ρ).bind jW
theorem lA{b:Bool}(h:jW d=some b):d=.bool b:=by
 cases d<;>first|(cases h;done)|(simp only[jW,Option.some.injEq]at h;rw[h])
variable {v:V}
theorem aM.j8{b:Bool}(h:aM K H Av v (.bool b)):v=.bl b:=by cases h;rfl
theorem aM.cU{b:Int}(h:aM K H Av v (.int b)):v=.int b:=by cases h;rfl
theorem aM.gO{b:Str}(h:aM K H Av v (.str b)):v=.str b:=by cases h;rfl
theorem aM.Ih(h:aM K H Av v .none):v=.bI:=by cases h;rfl
theorem aM.fg(h:aM K H Av v (.tuple ds)):∃a xs,v=.ref a/\Cg K H Av a xs/\ax K H Av xs ds:=by cases h with|tup h r=>exact⟨_,_,rfl,h,r⟩
theorem aM.fG(h:aM K H Av v (.list ds)):∃a xs,v=.ref a/\Ci K H Av a xs/\ax K H Av xs ds:=by cases h with|lst h r=>exact⟨_,_,rfl,h,r⟩
theorem Je{t:TE}(m:∀σ H Q,tF K f σ H Q->t σ H Q):∀σ H Q,jL K (c9 f) σ H Q->HE t σ H Q:=by
 rintro σ H Q ⟨Av,ρ,b,hA,hE,hf,q⟩;obtain⟨d,e1,hf⟩:=bind_some hf;have e2:=lA hf;subst e2;exact m σ H _ ⟨Av,ρ,.bool b,hA,hE,e1,fun v H' s r=>⟨b,r.j8,q H' s⟩⟩
theorem fV{op:CmpOp}(ho:cZ X (compareOp op) r)(hd:jm X.K r g)(ha:PF X a fa)(hb:PF X b fb)(hm:behindInMarks op b=false):Qu X (.Compare a [op] [b] pos) (c9 (f2 g fa fb)):=mD (zK ho ha hb hm) (Je (vv hd))
def lX:Dat->Option Bool
 | .none=>some false
 | .bool b=>some b
 | .int i=>some (i !=0)
 | .str y=>if y.length<=sizeLine then some ((y.length:Int) !=0)else none
 | .list ds=>some (!ds.isEmpty)
 | .tuple ds=>some (!ds.isEmpty)
 |_=>none
def mf (f:ar->Option Dat):ar->Option Bool:=fun ρ=>(f ρ).bind lX
variable {vs:List V}
theorem ax.emp(h:ax K H Av vs ds):ds.isEmpty=vs.isEmpty:=by cases h<;>rfl
theorem L6{k:Bool}(r:aM K H Av v d)(h:lX d=some k):Hj K v H k:=by
 cases r with
 |bI=>cases h;exact rfl
 |bl b=>cases h;exact rfl
 |int i=>cases h;exact rfl
 |str x=>
  simp only[lX]at h;split at h
  ·rename_i hz;cases h;exact⟨hz,rfl⟩
  ·cases h
 |tup hq rs=>cases h;exact .inr (.inl ⟨_,hq.sq,by rw[rs.emp]⟩)
 |lst hq rs=>cases h;exact .inl ⟨_,hq.sq,by rw[rs.emp]⟩
variable {c:Expr}
def kD (f g:ar->Option Bool):ar->Option Bool:=fun ρ=>(f ρ).bind fun c=>if c=true then g ρ else some false
def lx (f g:ar->Option Bool):ar->Option Bool:=fun ρ=>(f ρ).bind fun c=>if c=true then some true else g ρ
def jI (f:ar->Option Bool):ar->Option Bool:=fun ρ=>(f ρ).map (!·)
abbrev Vl (X:Cx) (e:Expr) (f:ar->Option Bool):Prop:=PW X e (jL X.K f)
def pg (f g:ar->Option Dat):ar->Option Dat:=fun ρ=>(f ρ).bind fun d=>(jW d).bind fun c=>if c=true then g ρ else some (.bool false)
def uR (f g:ar->Option Dat):ar->Option Dat:=fun ρ=>(f ρ).bind fun d=>(jW d).bind fun c=>if c=true then some (.bool true)else g ρ
def pd (f:ar->Option Dat):ar->Option Dat:=fun ρ=>(f ρ).bind fun d=>(jW d).map fun c=>.bool (!c)
variable {ft:ar->Option Bool}
def sC (ft:ar->Option Bool) (f g:ar->Option Dat):ar->Option Dat:=fun ρ=>(ft ρ).bind fun c=>if c=true then f ρ else g ρ
def f1 (g:Dat->Option Dat) (fa:ar->Option Dat):ar->Option Dat:=fun ρ=>(fa ρ).bind g
def UK (K:Fg) (r:V->Hp->VK->Prop) (g:Dat->Option Dat):Prop:=∀(H:Hp) (Av:dA) (x:V) (dx d:Dat) (Q:VK),ff H Av->aM K H Av x dx->g dx=some d->(∀v H',aL H H'->aM K H' Av v d->Q v H')->r x H Q
theorem Of{op:UnaryOp}{r:V->Hp->VK->Prop}{g:Dat->Option Dat}(ho:IY X (unaryOp op) r)(hd:UK X.K r g)(ha:PF X a fa):PF X (.UnaryOp op a pos) (f1 g fa):=bh (Og ho ha) fun σ H Q aQ=>by
 obtain⟨Av,ρ,d,hA,hE,hf,q⟩:=aQ;obtain⟨dx,e1,hf⟩:=bind_some hf;exact⟨Av,ρ,dx,hA,hE,e1,fun x H1 s1 r1=>hd H1 Av x dx d Q (hA.same s1) r1 hf fun v H2 s2 r2=>q v H2 (s1.trans s2) r2⟩
def cz:ar->Option (List Dat):=fun _=>some []
def bj (f:ar->Option Dat) (g:ar->Option (List Dat)):ar->Option (List Dat):=fun ρ=>(f ρ).bind fun d=>(g ρ).map (d::·)
theorem aU{β:Type}{o:Option α}{g:α->β}{b:β}(h:o.map g=some b):∃a,o=some a/\g a=b:=by
 cases o with
 |none=>cases h
 |some a=>exact⟨a,rfl,Option.some.inj h⟩
def nL (g:ar->Option (List Dat)):ar->Option Dat:=fun ρ=>(g ρ).bind fun ds=>if ds.length<=sizeLine then some (.tuple ds)else none
def pf (g:ar->Option (List Dat)):ar->Option Dat:=fun ρ=>(g ρ).bind fun ds=>if ds.length<=sizeLine then some (.list ds)else none
variable {fs:ar->Option (List Dat)} in
def dY (g:List Dat->Option Dat) (fs:ar->Option (List Dat)):ar->Option Dat:=fun ρ=>(fs ρ).bind g
def nR (K:Fg) (r:List V->Hp->VK->Prop) (g:List Dat->Option Dat):Prop:=∀(H:Hp) (Av:dA) (xs:List V) (ds:List Dat) (d:Dat) (Q:VK),ff H Av->ax K H Av xs ds->g ds=some d->(∀v H',aL H H'->aM K H' Av v d->Q v H')->r xs H Q
variable {r:List V->Hp->VK->Prop} {g:List Dat->Option Dat}
variable {fs:ar->Option (List Dat)} in
theorem zu(hr:nR K r g):∀σ H Q,tF K (dY g fs) σ H Q->La r (HJ K fs) σ H Q:=by
 rintro σ H Q ⟨Av,ρ,d,hA,hE,hf,q⟩;obtain⟨ds,e1,hf⟩:=bind_some hf;exact⟨Av,ρ,ds,hA,hE,e1,fun xs H1 s1 r1=>hr H1 Av xs ds d Q (hA.same s1) r1 hf fun v H2 s2 r2=>q v H2 (s1.trans s2) r2⟩
variable {x:Str}
variable {fs:ar->Option (List Dat)} in
theorem wH{p:Pos}{id:String}(hc:jf X (.builtin id) r)(hd:nR X.K r g)(hm:X.mg x=none)(ha:J2 X (e::es) fs)(hg:Gl X x:=by rfl)(hv:bootBuiltins x=some (.builtin id):=by rfl)(hn:x≠"__name__":=by decide)(iq:(x==("__debug__" : Str))=false:=by decide)(he:starEach (e::es) X.env=(false,eval e X.env)::starEach es X.env:=by rfl)(dm:(backTo pos (starEach es X.env)).any (·.1)=false:=by rfl):PF X (.Call (.Name x p) (e::es) [] pos) (dY g fs):=bh (wJ hc hg hm hv ha hn iq he dm) (zu hd)
variable {fs:ar->Option (List Dat)} in
theorem uA{p:Pos}{T:String}(hc:jf X (.type T) r)(hd:nR X.K r g)(hm:X.mg x=none)(ha:J2 X (e::es) fs)(hg:Gl X x:=by rfl)(hv:bootBuiltins x=some (.type T):=by rfl)(hn:x≠"__name__":=by decide)(iq:(x==("__debug__" : Str))=false:=by decide)(he:starEach (e::es) X.env=(false,eval e X.env)::starEach es X.env:=by rfl)(dm:(backTo pos (starEach es X.env)).any (·.1)=false:=by rfl):PF X (.Call (.Name x p) (e::es) [] pos) (dY g fs):=bh (oN hc hg hm hv ha hn iq he dm) (zu hd)
def CB (K:Fg) (n:Nat) (F:List Dat->Option Dat):Sp:=fun vs H Q _=>∃Av ds d,ff H Av/\ax K H Av vs ds/\ds.length=n/\F ds=some d/\∀v H',aL H H'->aM K H' Av v d->Q v H'
variable {fs:ar->Option (List Dat)} in
def jS (n:Nat) (F:List Dat->Option Dat) (fs:ar->Option (List Dat)):ar->Option Dat:=fun ρ=>(fs ρ).bind fun ds=>if ds.length=n then F ds else none
variable {n:Nat} {F:List Dat->Option Dat}
variable {fs:ar->Option (List Dat)} in
theorem O5{E:XK}:∀σ H Q,tF K (jS n F fs) σ H Q->HK (CB K n F) [] E (HJ K fs) σ H Q:=by
 rintro σ H Q ⟨Av,ρ,d,hA,hE,hf,q⟩;obtain⟨ds,e1,hf⟩:=bind_some hf;split at hf
 ·rename_i hl;exact⟨Av,ρ,ds,hA,hE,e1,fun xs H1 s1 r1=>⟨Av,ds,d,hA.same s1,by rw[append_nil];exact r1,hl,hf,fun v H2 s2 r2=>q v H2 (s1.trans s2) r2⟩⟩
 ·cases hf
structure Dn (P:Program) (w:World) (K:Fg) (mg:Str->Option Value) (base:Heap) (k:Nat) (x:Str) (ps:List Str) (n:Nat) (F:List Dat->Option Dat):Prop where
 ex:∃(f:Addr) (fd:FuncData),fQ P w K mg base gj k f fd ps (CB K n F)/\mg x=some (.ref f)/\keepIn K (.ref f)=true/\Binds K fd ps []
variable {P:Program} {w:World} {mg:Str->Option Value} {base:Heap} {ps:List Str}
theorem Dn.up{j k:Nat}(D:Dn P w K mg base j x ps n F)(h:j<=k):Dn P w K mg base k x ps n F:=by
 obtain⟨f,fd,h1,h2⟩:=D.ex;exact⟨f,fd,h1.mono h,h2⟩
open PySem PySem.Spec PyProof.Rows L2
open PySem.W (Dat)
inductive Slot where
 |a9 (d:Dat)
 |own (ds:List Dat)
 |obj (O:Addr->List V->Heap->Prop) (ds:List Dat)
def Slot.mt:Slot->Bool
 | .a9 _=>false
 |_=>true
abbrev ay:=List (Option Slot)
def bD (Γ:ay):ar:=Γ.map fun o=>match o with|some (.a9 d)=>some d|_=>none
def bH (Γ:ay):ar:=Γ.map fun o=>match o with|some (.a9 d)=>some d|some (.own ds)=>some (.list ds)|_=>none
def aS (Av:dA) (Γ:ay) (ad:Nat->Addr):dA:=fun a=>Av a\/∃(i:Nat) (s:Slot),Γ[i]?=some (some s)/\s.mt=true/\ad i=a
abbrev Hid:=List (V×Dat)
structure GA (K:Fg) (ag:Hp) (Av:dA) (pn:Option Addr) (aC:Hid) (H:Hp) (σ:L2.St) (Γ:ay) (ad:Nat->Addr):Prop where
 same:aL ag H
 gi:ff ag Av
 len:σ.length=Γ.length
 a9:∀(i:Nat) (d:Dat),Γ[i]?=some (some (.a9 d))->∃v,σ[i]?=some (some v)/\aM K H (aS Av Γ ad) v d
 own:∀(i:Nat) (ds:List Dat),Γ[i]?=some (some (.own ds))->∃xs,σ[i]?=some (some (.ref (ad i)))/\H (ad i)=some (.lst xs)/\ax K H (aS Av Γ ad) xs ds/\ag (ad i)=none
 inj:∀(i j:Nat) (s t:Slot),Γ[i]?=some (some s)->Γ[j]?=some (some t)->s.mt=true->t.mt=true->ad i=ad j->i=j
 aC:∀p∈aC,aM K H (aS Av Γ ad) p.1 p.2
 pin:∀a ds,pn=some a->Γ[0]?=some (some (.own ds))->ad 0=a
 obj:∀(i:Nat) (O:Addr->List V->Heap->Prop) (ds:List Dat),Γ[i]?=some (some (.obj O ds))->∃xs,σ[i]?=some (some (.ref (ad i)))/\H (ad i)=some (.ext (O (ad i) xs))/\ax K H (aS Av Γ ad) xs ds/\ag (ad i)=none
def jb (K:Fg) (ag:Hp) (Av:dA) (pn:Option Addr) (aC:Hid) (H:Hp) (σ:L2.St) (Γ:ay):Prop:=∃ad,GA K ag Av pn aC H σ Γ ad
variable {Γ:ay} {σ:L2.St} {pn:Option Addr} {ad:Nat->Addr} {ag:Hp} {aC:Hid} {i:Nat}
theorem GA.mt(G:GA K ag Av pn aC H σ Γ ad){s:Slot}(h:Γ[i]?=some (some s))(m:s.mt=true):(∃o,H (ad i)=some o)/\ag (ad i)=none:=by
 cases s with
 |a9 d=>cases m
 |own ds=>obtain⟨xs,_,a,_,b⟩:=G.own i ds h;exact⟨⟨_,a⟩,b⟩
 |obj O ds=>obtain⟨xs,_,a,_,b⟩:=G.obj i O ds h;exact⟨⟨_,a⟩,b⟩
theorem GA.Ml(G:GA K ag Av pn aC H σ Γ ad)(i j:Nat)(ds es:List Dat)(h1:Γ[i]?=some (some (.own ds)))(h2:Γ[j]?=some (some (.own es)))(e:ad i=ad j):i=j:=G.inj i j _ _ h1 h2 rfl rfl e
theorem GA.gU(G:GA K ag Av pn aC H σ Γ ad):ff H (aS Av Γ ad):=by
 rintro a (z|⟨i,s,e,m,rfl⟩)
 ·exact(G.gi.same G.same) a z
 ·exact(G.mt e m).1
theorem GA.j6(G:GA K ag Av pn aC H σ Γ ad):dH K H (aS Av Γ ad) σ (bD Γ):=fun i d e=>by
 unfold bD at e;rw[getElem?_map]at e;cases h:Γ[i]? with
 |none=>rw[h]at e;cases e
 |some o=>
  rw[h]at e;cases o with
  |none=>cases e
  |some s=>
   cases s with
   |a9 d'=>cases e;exact G.a9 i d h
   |own ds=>cases e
   |obj O ds=>cases e
theorem GA.mh(G:GA K ag Av pn aC H σ Γ ad):dH K H Av σ (bH Γ):=fun i d e=>by
 unfold bH at e;rw[getElem?_map]at e;cases h:Γ[i]? with
 |none=>rw[h]at e;cases e
 |some o=>
  rw[h]at e;cases o with
  |none=>cases e
  |some s=>
   cases s with
   |a9 d'=>
    cases e;obtain⟨v,h1,h2⟩:=G.a9 i d h;exact⟨v,h1,h2.weak fun _ z=>.inl z⟩
   |own ds=>
    cases e;obtain⟨xs,h1,h2,h3,h4⟩:=G.own i ds h;refine⟨_,h1,.lst (.inl ⟨.inl h2,fun z=>?_⟩) (h3.weak fun _ z=>.inl z)⟩;obtain⟨o,q⟩:=G.gi _ z;rw[h4]at q;cases q
   |obj O ds=>cases e
theorem GA.grow(G:GA K ag Av pn aC H σ Γ ad)(e:aL H H'):GA K ag Av pn aC H' σ Γ ad:=
 ⟨G.same.trans e,G.gi,G.len,fun i d h=>let ⟨v,a,r⟩:=G.a9 i d h;⟨v,a,r.same e⟩,fun i ds h=>let ⟨xs,a,b,r,c⟩:=G.own i ds h;⟨xs,a,e _ _ b,r.same e,c⟩,G.inj,fun p hp=>(G.aC p hp).same e,G.pin,fun i O ds h=>let ⟨xs,a,b,r,c⟩:=G.obj i O ds h;⟨xs,a,e _ _ b,r.same e,c⟩⟩
theorem aK{l:List α}{j:Nat}{a b:α}(h:(l.set i a)[j]?=some b):(j=i/\b=a)\/(j≠i/\l[j]?=some b):=by
 by_cases e:j=i
 ·subst e;left
  refine⟨rfl,?_⟩;by_cases hl:j<l.length
  ·rw[getElem?_set_self hl]at h;exact(Option.some.inj h).symm
  ·rw[List.getElem?_eq_none (by rw[length_set];omega)]at h;cases h
 ·right
  rw[getElem?_set_ne (Ne.symm e)]at h;exact⟨e,h⟩
theorem cT{l:List α}{a:α}(h:l[i]?=some a):i<l.length:=(List.getElem?_eq_some_iff.mp h).1
theorem aS.iM:∀a,aS Av (Γ.set i (some (.a9 d))) ad a->aS Av Γ ad a:=by
 rintro a (z|⟨j,s,e,m,r⟩)
 ·exact .inl z
 ·rcases aK e with⟨_,q⟩|⟨_,q⟩
  ·cases q;cases m
  ·exact .inr ⟨j,s,q,m,r⟩
theorem GA.set(G:GA K ag Av pn aC H σ Γ ad)(i:Nat)(r:aM K H (aS Av Γ ad) v d):GA K ag Av pn aC H (σ.set i (some v)) (Γ.set i (some (.a9 d))) ad:=by
 refine⟨G.same,G.gi,by rw[length_set,length_set];exact G.len,fun j d' h=>?_,fun j ds h=>?_,fun j k s t h1 h2 m1 m2 e=>?_,fun p hp=>(G.aC p hp).weak aS.iM,fun a ds e h=>?_,fun j O ds h=>?_⟩
 ·have bV:=cT h;rw[length_set]at bV;rcases aK h with⟨e,q⟩|⟨e,q⟩
  ·subst e;cases q;exact⟨v,getElem?_set_self (by rw[G.len];exact bV),r.weak aS.iM⟩
  ·obtain⟨u,a,b⟩:=G.a9 j d' q;exact⟨u,by rw[getElem?_set_ne (Ne.symm e)];exact a,b.weak aS.iM⟩
 ·rcases aK h with⟨e,q⟩|⟨e,q⟩
  ·cases q
  ·obtain⟨xs,a,b,c,e'⟩:=G.own j ds q;exact⟨xs,by rw[getElem?_set_ne (Ne.symm e)];exact a,b,c.weak aS.iM,e'⟩
 ·rcases aK h1 with⟨_,q⟩|⟨_,q1⟩
  ·cases q;cases m1
  rcases aK h2 with⟨_,q⟩|⟨_,q2⟩
  ·cases q;cases m2
  exact G.inj j k s t q1 q2 m1 m2 e
 ·rcases aK h with⟨_,q⟩|⟨_,q⟩
  ·cases q
  ·exact G.pin a ds e q
 ·rcases aK h with⟨e,q⟩|⟨e,q⟩
  ·cases q
  ·obtain⟨xs,a,b,c,e'⟩:=G.obj j O ds q;exact⟨xs,by rw[getElem?_set_ne (Ne.symm e)];exact a,b,c.weak aS.iM,e'⟩
theorem GA.Lf(G:GA K ag Av pn aC H σ Γ ad)(i:Nat)(kg:i≠0)(hp:H p=none)(r:ax K H (aS Av Γ ad) xs ds):
  GA K ag Av pn aC (upd H p (.lst xs)) (σ.set i (some (.ref p))) (Γ.set i (some (.own ds))) (fun j=>if j=i then p else ad j):=by
 have sm:aL H (upd H p (.lst xs)):=bP hp _;have Du:∀j s,Γ[j]?=some (some s)->Slot.mt s=true->ad j≠p:=fun j s h m=>by
  obtain⟨⟨o,b⟩,_⟩:=G.mt h m;exact b9 b hp
 have kp:jB H (aS Av Γ ad) (upd H p (.lst xs)) (aS Av (Γ.set i (some (.own ds))) (fun j=>if j=i then p else ad j)):=by
  intro b o h n;refine⟨sm b o h,?_⟩;rintro(z|⟨j,es,e,m,r⟩)
  ·exact n (.inl z)
  ·rcases aK e with⟨e1,_⟩|⟨e1,q⟩
   ·have r':p=b:=by simpa [e1]using r
    exact b9 h hp r'.symm
   ·have r':ad j=b:=by simpa [e1]using r
    exact n (.inr ⟨j,es,q,m,r'⟩)
 have Ge:∀{vs:List V} {d:List Dat},ax K H (aS Av Γ ad) vs d->ax K (upd H p (.lst xs)) (aS Av (Γ.set i (some (.own ds))) (fun j=>if j=i then p else ad j)) vs d:=fun h=>h.mono kp
 ·refine⟨G.same.trans sm,G.gi,by rw[length_set,length_set];exact G.len,fun j d' h=>?_,fun j es h=>?_,fun j l es fs h1 h2 m1 m2 e=>?_,fun q hq=>(G.aC q hq).mono kp,fun a es e h=>?_,fun j O es h=>?_⟩
  ·rcases aK h with⟨e,q⟩|⟨e,q⟩
   ·cases q
   ·obtain⟨u,a,b⟩:=G.a9 j d' q;exact⟨u,by rw[getElem?_set_ne (Ne.symm e)];exact a,b.mono kp⟩
  ·have bV:=cT h;rw[length_set]at bV;rcases aK h with⟨e,q⟩|⟨e,q⟩
   ·subst e;cases q;refine⟨xs,?_,?_,Ge r,?_⟩
    ·rw[if_pos rfl];exact getElem?_set_self (by rw[G.len];exact bV)
    ·rw[if_pos rfl];exact cW
    ·rw[if_pos rfl];cases e0:ag p with
     |none=>rfl
     |some o=>have:=G.same p o e0;rw[hp]at this;cases this
   ·obtain⟨ys,a,b,c,e'⟩:=G.own j es q;refine⟨ys,?_,?_,Ge c,?_⟩
    ·rw[if_neg e,getElem?_set_ne (Ne.symm e)];exact a
    ·rw[if_neg e];exact sm _ _ b
    ·rw[if_neg e];exact e'
  ·rcases aK h1 with⟨e1,q1⟩|⟨e1,q1⟩
   ·rcases aK h2 with⟨e2,q2⟩|⟨e2,q2⟩
    ·rw[e1,e2]
    ·rw[if_pos e1,if_neg e2]at e;exact absurd e.symm (Du l fs q2 m2)
   ·rcases aK h2 with⟨e2,q2⟩|⟨e2,q2⟩
    ·rw[if_neg e1,if_pos e2]at e;exact absurd e (Du j es q1 m1)
    ·rw[if_neg e1,if_neg e2]at e;exact G.inj j l es fs q1 q2 m1 m2 e
  ·rcases aK h with⟨z,_⟩|⟨_,q⟩
   ·exact absurd z.symm kg
   ·show(if 0=i then p else ad 0)=a;rw[if_neg (Ne.symm kg)];exact G.pin a es e q
  ·rcases aK h with⟨e,q⟩|⟨e,q⟩
   ·cases q
   ·obtain⟨ys,a,b,c,e'⟩:=G.obj j O es q;refine⟨ys,?_,?_,Ge c,?_⟩
    ·rw[if_neg e,getElem?_set_ne (Ne.symm e)];exact a
    ·rw[if_neg e];exact sm _ _ b
    ·rw[if_neg e];exact e'
variable {es:List Dat}
theorem GA.change(G:GA K ag Av pn aC H σ Γ ad){ys:List V}(hi:Γ[i]?=some (some (.own ds)))(r:ax K H (aS Av Γ ad) ys es):
  GA K ag Av pn aC (upd H (ad i) (.lst ys)) σ (Γ.set i (some (.own es))) ad:=by
 have bV:i<Γ.length:=cT hi;have av:∀a,aS Av (Γ.set i (some (.own es))) ad a->aS Av Γ ad a:=by
  rintro a (z|⟨j,fs,e,m,q⟩)
  ·exact .inl z
  ·rcases aK e with⟨e1,_⟩|⟨e1,q1⟩
   ·subst e1;exact .inr ⟨j,_,hi,rfl,q⟩
   ·exact .inr ⟨j,fs,q1,m,q⟩
 have kp:jB H (aS Av Γ ad) (upd H (ad i) (.lst ys)) (aS Av (Γ.set i (some (.own es))) ad):=by
  intro b o h n;refine⟨?_,fun z=>n (av b z)⟩;rw[bc fun z=>n (.inr ⟨i,_,hi,rfl,z.symm⟩)];exact h
 obtain⟨KR,g1,g2,g3,g4⟩:=G.own i ds hi;refine⟨fun b o h=>?_,G.gi,by rw[length_set];exact G.len,fun j d' h=>?_,fun j fs h=>?_,fun j l fs gs h1 h2 m1 m2 e=>?_,fun p hp=>(G.aC p hp).mono kp,fun a fs e h=>?_,fun j O fs h=>?_⟩
 ·rw[bc (b9 h g4)];exact G.same b o h
 ·rcases aK h with⟨e,q⟩|⟨e,q⟩
  ·cases q
  ·obtain⟨u,a,b⟩:=G.a9 j d' q;exact⟨u,a,b.mono kp⟩
 ·rcases aK h with⟨e,q⟩|⟨e,q⟩
  ·subst e;cases q;exact⟨ys,g1,cW,r.mono kp,g4⟩
  ·obtain⟨zs,a,b,c,e'⟩:=G.own j fs q;refine⟨zs,a,?_,c.mono kp,e'⟩;rw[bc fun z=>e (G.Ml j i fs ds q hi z)];exact b
 ·rcases aK h1 with⟨e1,q1⟩|⟨e1,q1⟩
  ·rcases aK h2 with⟨e2,q2⟩|⟨e2,q2⟩
   ·rw[e1,e2]
   ·subst e1;exact G.inj j l _ gs hi q2 rfl m2 e
  ·rcases aK h2 with⟨e2,q2⟩|⟨e2,q2⟩
   ·subst e2;exact G.inj j l fs _ q1 hi m1 rfl e
   ·exact G.inj j l fs gs q1 q2 m1 m2 e
 ·rcases aK h with⟨z,_⟩|⟨_,q⟩
  ·subst z;exact G.pin a ds e hi
  ·exact G.pin a fs e q
 ·rcases aK h with⟨e,q⟩|⟨e,q⟩
  ·cases q
  ·obtain⟨zs,a,b,c,e'⟩:=G.obj j O fs q;refine⟨zs,a,?_,c.mono kp,e'⟩;rw[bc fun z=>e (G.inj j i _ _ q hi rfl rfl z)];exact b
theorem GA.hide(G:GA K ag Av pn aC H σ Γ ad)(r:aM K H (aS Av Γ ad) v d):GA K ag Av pn ((v,d)::aC) H σ Γ ad:=
 ⟨G.same,G.gi,G.len,G.a9,G.own,G.inj,fun p hp=>by
  rcases mem_cons.mp hp with e|h
  ·subst e;exact r
  ·exact G.aC p h,G.pin,G.obj⟩
theorem GA.oh(G:GA K ag Av pn ((v,d)::aC) H σ Γ ad):GA K ag Av pn aC H σ Γ ad:=
 ⟨G.same,G.gi,G.len,G.a9,G.own,G.inj,fun p hp=>G.aC p (mem_cons_of_mem _ hp),G.pin,G.obj⟩
inductive Fl where
 |nx (Γ:ay)|rt (d:Dat)|bk (Γ:ay)|ct (Γ:ay)|rm (d:Dat) (Γ:ay)
def GL (K:Fg) (ag:Hp) (Av:dA) (pn:Option Addr) (aC:Hid) (D:Ends):Fl->Prop
 | .nx Γ=>∀σ H,jb K ag Av pn aC H σ Γ->D.nx σ H
 | .rt d=>∀v H,aL ag H->aM K H Av v d->D.rt v H
 | .bk Γ=>∀σ H,jb K ag Av pn aC H σ Γ->D.bk σ H
 | .ct Γ=>∀σ H,jb K ag Av pn aC H σ Γ->D.ct σ H
 | .rm d Γ=>∀σ v H ad,GA K ag Av pn aC H σ Γ ad->aM K H (aS Av Γ ad) v d->D.rt v H
def vV (K:Fg) (g:ay->Option Fl):TS:=fun D σ H=>∃ag Av pn aC Γ fl,jb K ag Av pn aC H σ Γ/\g Γ=some fl/\GL K ag Av pn aC D fl
abbrev UM (X:Cx) (st:Stmt) (g:ay->Option Fl):Prop:=PS X st (vV X.K g)
abbrev Hl (X:Cx) (st:List Stmt) (g:ay->Option Fl):Prop:=jX X st (vV X.K g)
variable {st:Stmt}
theorem cv{t t':TS}(h:PS X st t)(m:∀D σ H,t' D σ H->t D σ H):PS X st t':=fun pins s σ H D I q=>h pins s σ H D I (m D σ H q)
variable {rest:List Stmt} in
theorem wB{t t':TS}(h:jX X rest t)(m:∀D σ H,t' D σ H->t D σ H):jX X rest t':=fun pins s σ H D I q=>h pins s σ H D I (m D σ H q)
def ko:ay->Option Fl:=fun Γ=>some (.nx Γ)
variable {g2 g1:ay->Option Fl}
def dQ (g1 g2:ay->Option Fl):ay->Option Fl:=fun Γ=>(g1 Γ).bind fun fl=>match fl with
 | .nx aj=>g2 aj
 | .rt d=>some (.rt d)
 | .bk aj=>some (.bk aj)
 | .ct aj=>some (.ct aj)
 | .rm d aj=>some (.rm d aj)
def kX (f:ar->Option Dat):ay->Option Fl:=fun Γ=>(f (bH Γ)).map .rt
def mw (ft:ar->Option Bool) (g1 g2:ay->Option Fl):ay->Option Fl:=fun Γ=>(ft (bH Γ)).bind fun c=>if c=true then g1 Γ else g2 Γ
def CI:Dat->Bool
 | .none=>true| .bool _=>true| .int _=>true| .str _=>true
 |_=>false
theorem aM.sc(h:aM K H Av v d)(s:CI d=true):aM K H Av' v d:=by
 cases h with
 |bI=>exact .bI
 |bl b=>exact .bl b
 |int i=>exact .int i
 |str x=>exact .str x
 |tup _ _=>cases s
 |lst _ _=>cases s
def iB (i:Nat) (f:ar->Option Dat):ay->Option Fl:=fun Γ=>match f (bD Γ)with
 |some d=>some (.nx (Γ.set i (some (.a9 d))))
 |none=>(f (bH Γ)).bind fun d=>if CI d=true then some (.nx (Γ.set i (some (.a9 d))))else none
theorem L8:∀D σ H,vV K (iB i f) D σ H->Fb (tF K f) (BL i) D σ H:=by
 rintro D σ H ⟨ag,Av,pn,aC,Γ,fl,⟨ad,G⟩,hf,q⟩;unfold iB at hf;split at hf
 ·rename_i d e1;cases hf;exact⟨aS Av Γ ad,bD Γ,d,G.gU,G.j6,e1,fun v H' s r=>q _ _ ⟨ad,(G.grow s).set i r⟩⟩
 ·obtain⟨d,e1,hf⟩:=bind_some hf;split at hf
  ·rename_i hs;cases hf;exact⟨Av,bH Γ,d,G.gi.same G.same,G.mh,e1,fun v H' s r=>q _ _ ⟨ad,(G.grow s).set i (r.sc hs)⟩⟩
  ·cases hf
abbrev cH:=List (Nat×Dat)
inductive ja (K:Fg) (H:Hp) (Av:dA):List (Nat×V)->cH->Prop
 |nil:ja K H Av [] []
 |cons {i:Nat} {v:V} {d:Dat} {vs:List (Nat×V)} {ds:cH}:aM K H Av v d->ja K H Av vs ds->ja K H Av ((i,v)::vs) ((i,d)::ds)
def m6 (σ:L2.St) (ws:List (Nat×V)):L2.St:=ws.foldl (fun σ p=>σ.set p.1 (some p.2)) σ
def setG (Γ:ay) (ws:cH):ay:=ws.foldl (fun Γ p=>Γ.set p.1 (some (.a9 p.2))) Γ
def i9 (ρ:ar) (ws:cH):ar:=ws.foldl (fun ρ p=>ρ.set p.1 (some p.2)) ρ
theorem ja.append{K:Fg}{H:Hp}{Av:dA}:∀{a b:List (Nat×V)} {c d:cH},ja K H Av a c->ja K H Av b d->ja K H Av (a++b) (c++d)
 |_,_,_,_,.nil,s=>s
 |_,_,_,_,.cons h r,s=>.cons h (ja.append r s)
def ig (K:Fg) (gt:Dat->Option cH):TG:=fun v σ H Q=>∃Av d as,aM K H Av v d/\gt d=some as/\∀ws,ja K H Av ws as->Q (m6 σ ws) H
def AU (K:Fg) (gt:List Dat->Option cH):qz:=fun vs σ H Q=>∃Av ds as,ax K H Av vs ds/\gt ds=some as/\∀ws,ja K H Av ws as->Q (m6 σ ws) H
theorem zP{t t':TG}{tg:Expr}(h:PG X tg t)(m:∀v σ H Q,t' v σ H Q->t v σ H Q):PG X tg t':=fun pins s σ H v u Q I r q=>h pins s σ H v u Q I r (m v σ H Q q)
theorem wG{t t':qz}{tg:List Expr}(h:yz X tg t)(m:∀v σ H Q,t' v σ H Q->t v σ H Q):yz X tg t':=fun pins s σ H v u Q I r q=>h pins s σ H v u Q I r (m v σ H Q q)
def aName (i:Nat):Dat->Option cH:=fun d=>some [(i,d)]
def ka:List Dat->Option cH:=fun ds=>match ds with|[]=>some []|_=>none
variable {g:ay->Option Fl}
def fj (g:Dat->Option cH) (gs:List Dat->Option cH):List Dat->Option cH:=fun ds=>match ds with
 |[]=>none
 |d::r=>(g d).bind fun a=>(gs r).map (a++·)
def j9 (n:Nat) (gs:List Dat->Option cH):Dat->Option cH:=fun d=>match d with
 | .tuple ds=>if ds.length=n then gs ds else none
 |_=>none
variable {ws:List (Nat×V)} {as:cH}
theorem GA.gz{Hx:ay}{σ:L2.St}(h:ja K H (aS Av Hx ad) ws as)(hw:∀a,aS Av Γ ad a->aS Av Hx ad a)(G:GA K ag Av pn aC H σ Γ ad):
  GA K ag Av pn aC H (m6 σ ws) (setG Γ as) ad:=by
 induction h generalizing σ Γ with
 |nil=>exact G
 | @cons i v d vs ds h r ih=>exact ih (σ:=σ.set i (some v)) (Γ:=Γ.set i (some (.a9 d))) (fun a z=>hw a (aS.iM a z)) (G.set i (h.weak hw))
def oz (gt:Dat->Option cH) (f:ar->Option Dat):ay->Option Fl:=fun Γ=>(f (bD Γ)).bind fun d=>(gt d).map fun as=>.nx (setG Γ as)
open PySem PySem.Spec PyProof.Rows L2
open PySem.W (Dat)
def Mn (K:Fg) (tl:TE):TI:=fun σ H R=>tl σ H fun x H1=>∃a,x=.ref a/\(((∃xs,eC K H1 a xs)/\R (NI K a) H1)\/((∃xs,i7 K H1 a xs)/\R (NH K a) H1))
variable {tg:Expr}
theorem oJ{l:Expr}{tl:TE}(hl:PE X l tl):PI X tg l (Mn X.K tl):=by
 intro pins s σ H R I h;refine bX (hl pins s σ H _ I h) fun v s1 ⟨x,H1,I1,r1,q1⟩=>?_;obtain⟨a,e,q⟩:=q1;subst e;cases r1;rcases q with⟨⟨xs,hq⟩,q⟩|⟨⟨xs,hq⟩,q⟩
 ·obtain⟨aq,rv,p,hz⟩:=I1.list hq;refine wpAny_pyIter_list p.isList ?_;refine⟨s1.heap.objs.size,[s1.heap.objs.size],_,_,H1,rfl,I1.kept (t':=s1.toks) fun b o e=>get?_push_of_some _ e,Cu a _,⟨_,get?_push_size _ rfl,rfl,rfl⟩,fun b hb=>?_,q⟩;have e:b=s1.heap.objs.size:=by simpa using hb
  subst e;exact I1.xT (le_refl _) (I1.bx.fresh (le_refl _))
 ·obtain⟨aq,rv,p,hz⟩:=I1.tuple hq;refine wpAny_pyIter_tuple (show s1.heap.IsTuple a aq.toArray from p) ?_;refine⟨s1.heap.objs.size,[s1.heap.objs.size],_,_,H1,rfl,I1.kept (t':=s1.toks) fun b o e=>get?_push_of_some _ e,AO a _,⟨_,get?_push_size _ rfl,rfl,rfl⟩,fun b hb=>?_,q⟩;have e:b=s1.heap.objs.size:=by simpa using hb
  subst e;exact I1.xT (le_refl _) (I1.bx.fresh (le_refl _))
def eB:Dat->Option (List Dat)
 | .list ds=>some ds
 | .tuple ds=>some ds
 |_=>none
def Over (K:Fg) (J:It) (x:V) (d:Dat) (ds:List Dat):Prop:=∀(i:Nat) (H:Hp) (Av:dA),aM K H Av x d->(ds.length<=i->J.stop i H)/\(∀di,ds[i]?=some di->J.go i H/\∀y H',J.uh i H y H'->H'=H/\aM K H Av y di)
theorem oP{a:Addr}:Over K (NI K a) (.ref a) (.list ds) ds:=by
 intro i H Av r;obtain⟨b,xs,e,hq,rs⟩:=r.fG;cases e;refine⟨fun h=>⟨xs,hq.sq,by rw[rs.length];exact h⟩,fun di hd=>?_⟩;obtain⟨v,hv,rv⟩:=rs.get hd;refine⟨⟨xs,v,hq.sq,hv⟩,fun y H' hy=>?_⟩;obtain⟨e,hy⟩:=hy;have:=hy xs hq.sq;rw[hv]at this;cases this;exact⟨e,rv⟩
theorem qJ{a:Addr}:Over K (NH K a) (.ref a) (.tuple ds) ds:=by
 intro i H Av r;obtain⟨b,xs,e,hq,rs⟩:=r.fg;cases e;refine⟨fun h=>⟨xs,hq.sq,by rw[rs.length];exact h⟩,fun di hd=>?_⟩;obtain⟨v,hv,rv⟩:=rs.get hd;refine⟨⟨xs,v,hq.sq,hv⟩,fun y H' hy=>?_⟩;obtain⟨e,hy⟩:=hy;have:=hy xs hq.sq;rw[hv]at this;cases this;exact⟨e,rv⟩
theorem drop_cons{l:List α}{a:α}(h:l[i]?=some a):l.drop i=a::l.drop (i+1):=by
 obtain⟨hl,e⟩:=List.getElem?_eq_some_iff.mp h;rw[List.drop_eq_getElem_cons hl,e]
def forL (gt:Dat->Option cH) (gb:ay->Option Fl):List Dat->ay->Option Fl
 |[],Γ=>some (.nx Γ)
 |d::r,Γ=>(gt d).bind fun as=>(gb (setG Γ as)).bind fun fl=>match fl with
  | .nx aj=>forL gt gb r aj
  | .ct aj=>forL gt gb r aj
  | .bk aj=>some (.nx aj)
  | .rt v=>some (.rt v)
  | .rm v aj=>some (.rm v aj)
def n9 (gt:Dat->Option cH) (gb:ay->Option Fl) (f:ar->Option Dat):ay->Option Fl:=fun Γ=>(f (bD Γ)).bind fun d=>(eB d).bind fun ds=>forL gt gb ds Γ
variable {gt:Dat->Option cH} {gb:ay->Option Fl} {J:It} {H1:Hp}
theorem p6{D:Ends}{x:V}{σ:L2.St}{fl:Fl}(ov:Over K J x d ds)(G:jb K ag Av pn ((x,d)::aC) H1 σ Γ)(hf:forL gt gb ds Γ=some fl)(q:GL K ag Av pn aC D fl):
  ∃W:Nat->Nat->L2.St->Hp->Prop,(∃m,W 0 m σ H1)/\∀i m σ H,W i m σ H->
   (J.stop i H/\D.nx σ H)\/(J.go i H/\∃N:L2.St->Hp->Prop,(∀bz H',N bz H'->∃m',m'<m/\W (i+1) m' bz H')/\∀x H',J.uh i H x H'->ig K gt x σ H' fun dN H2=>vV K gb {D with nx:=N,ct:=N,bk:=D.nx} dN H2):=by
 refine⟨fun i m σ H=>m=ds.length-i/\i<=ds.length/\∃Γ,jb K ag Av pn ((x,d)::aC) H σ Γ/\forL gt gb (ds.drop i) Γ=some fl,⟨_,rfl,zero_le _,Γ,G,by rw[drop_zero];exact hf⟩,?_⟩;rintro i m σ H ⟨rfl,hi,Γ,⟨ad,G⟩,hf⟩;have rx:=G.aC (x,d) mem_cons_self;cases fH:ds[i]? with
 |none=>
  have hl:ds.length<=i:=List.getElem?_eq_none_iff.mp fH;rw[drop_eq_nil_of_le hl]at hf;cases hf;exact .inl ⟨(ov i H _ rx).1 hl,q σ H ⟨ad,G.oh⟩⟩
 |some di=>
  have bV:=cT fH;rw[drop_cons fH]at hf;obtain⟨as,e1,hf⟩:=bind_some (show(gt di).bind _=some fl from hf);obtain⟨lO,e2,hf⟩:=bind_some hf;obtain⟨go,yl⟩:=(ov i H _ rx).2 di fH;refine .inr ⟨go,fun bz H'=>∃aj,jb K ag Av pn ((x,d)::aC) H' bz aj/\forL gt gb (ds.drop (i+1)) aj=some fl,fun bz H' ⟨aj,G',h'⟩=>⟨ds.length-(i+1),by omega,rfl,by omega,aj,G',h'⟩,fun y H' hy=>?_⟩;obtain⟨eH,ry⟩:=yl y H' hy;subst eH;refine⟨aS Av Γ ad,di,as,ry,e1,fun ws hw=>⟨ag,Av,pn,(x,d)::aC,setG Γ as,lO,⟨ad,GA.gz hw (fun _ z=>z) G⟩,e2,?_⟩⟩;cases lO with
  |nx aj=>exact fun dN H2 G2=>⟨aj,G2,hf⟩
  |ct aj=>exact fun dN H2 G2=>⟨aj,G2,hf⟩
  |bk aj=>cases hf;exact fun dN H2 ⟨kh,G2⟩=>q dN H2 ⟨kh,G2.oh⟩
  |rt v=>cases hf;exact q
  |rm v aj=>cases hf;exact fun dN v2 H2 kh G2 r2=>q dN v2 H2 kh G2.oh r2
def iF (lo:Int) (n:Nat):List Dat:=(List.range n).map fun(i:Nat)=>Dat.int (lo+(i:Int))
theorem qG{lo:Int}{di:Dat}(h:(iF lo n)[i]?=some di):i<n/\di=.int (lo+(i:Int)):=by
 unfold iF at h;rw[getElem?_map]at h;cases e:(List.range n)[i]? with
 |none=>rw[e]at h;cases h
 |some k=>
  rw[e]at h;cases h;obtain⟨hl,e2⟩:=List.getElem?_eq_some_iff.mp e;rw[length_range]at hl;rw[List.getElem_range]at e2;subst e2;exact⟨hl,rfl⟩
theorem nk{lo:Int}:Over K (J4 lo n) .bI .none (iF lo n):=by
 intro i H Av _;refine⟨fun h=>?_,fun di hd=>?_⟩
 ·have:(iF lo n).length=n:=by unfold iF;rw[length_map,length_range]
  show n<=i;omega
 ·obtain⟨hl,e⟩:=qG hd;refine⟨hl,fun y H' hy=>?_⟩;obtain⟨e1,e2⟩:=hy;subst e2;rw[e];exact⟨e1,.int _⟩
def kY:List Dat->Option (List Dat)
 |[.int j]=>if -(2^62)<=j/\j<2^62 then some (iF 0 j.toNat)else none
 |_=>none
variable {fs:ar->Option (List Dat)} in
def B3 (rg:List Dat->Option (List Dat)) (gt:Dat->Option cH) (gb:ay->Option Fl) (fs:ar->Option (List Dat)):ay->Option Fl:=fun Γ=>(fs (bH Γ)).bind fun as=>(rg as).bind fun ds=>forL gt gb ds Γ
theorem ax.cS(h:ax K H Av vs [d]):∃v,vs=[v]/\aM K H Av v d:=by
 cases h with|cons a r=>cases r;exact⟨_,rfl,a⟩
variable {e:Dat}
theorem ax.fw(h:ax K H Av vs [d,e]):∃v u,vs=[v,u]/\aM K H Av v d/\aM K H Av u e:=by
 cases h with|cons a r=>obtain⟨u,rfl,b⟩:=r.cS;exact⟨_,u,rfl,a,b⟩
def f6 (ft:ar->Option Bool) (gb:ay->Option Fl):Nat->ay->Option Fl
 |0,_=>none
 |n+1,Γ=>(ft (bH Γ)).bind fun c=>if c=true then(gb Γ).bind fun fl=>match fl with
   | .nx aj=>f6 ft gb n aj
   | .ct aj=>f6 ft gb n aj
   | .bk aj=>some (.nx aj)
   | .rt v=>some (.rt v)
   | .rm v aj=>some (.rm v aj)
  else some (.nx Γ)
def kW (fuel:ay->Nat) (ft:ar->Option Bool) (gb:ay->Option Fl):ay->Option Fl:=fun Γ=>f6 ft gb (fuel Γ) Γ
def kP (K:Fg) (f:ar->Option (List Dat)):TE:=fun σ H Q=>∃Av ρ ds,ff H Av/\dH K H Av σ ρ/\f ρ=some ds/\∀H1 p xs,aL H H1->H1 p=none->ax K H1 Av xs ds->Q (.ref p) (upd H1 p (.lst xs))
def gd {α:Type} (c:Prop) [Decidable c] (o:Option α):Option α:=if c then o else none
theorem Ag{c:Prop}[Decidable c]{o:Option α}{a:α}(h:gd c o=some a):c/\o=some a:=by
 unfold gd at h;split at h
 ·rename_i hc;exact⟨hc,h⟩
 ·cases h
variable {fs:ar->Option (List Dat)} in
def mQ (fs:ar->Option (List Dat)):ar->Option (List Dat):=fun ρ=>(fs ρ).bind fun ds=>gd (ds.length<=sizeLine) (some ds)
def tm (i:Nat) (f:ar->Option (List Dat)):ay->Option Fl:=fun Γ=>(f (bD Γ)).map fun ds=>.nx (Γ.set i (some (.own ds)))
def qF (i:Nat) (f:ar->Option Dat):ay->Option Fl:=fun Γ=>match Γ[i]? with
 |some (some (.own ds))=>(f (bD Γ)).bind fun d=>gd (ds.length<sizeLine) (some (.nx (Γ.set i (some (.own (ds++[d]))))))
 |_=>none
def bW (N:List Str) (ds:List Dat):ay:=ds.map (fun d=>some (.a9 d))++List.replicate (N.length-ds.length) none
def iC (N:List Str) (g:ay->Option Fl):List Dat->Option Dat:=fun ds=>match g (bW N ds)with
 |some (.rt d)=>some d
 |some (.nx _)=>some .none
 |_=>none
variable {N:List Str}
theorem qU(hA:ff H Av)(r:ax K H Av vs ds)(hl:ds.length<=N.length):jb K H Av none [] H (start N vs) (bW N ds):=by
 have nA:∀(i:Nat) (s:Slot),(bW N ds)[i]?=some (some s)->s.mt=false:=fun i s h=>by
  unfold bW at h;by_cases hi:i<ds.length
  ·rw[getElem?_append_left (by rw[length_map];exact hi),getElem?_map,getElem?_eq_getElem hi]at h;cases h;rfl
  ·rw[getElem?_append_right (by rw[length_map];omega),getElem?_replicate]at h;split at h<;>cases h
 refine⟨fun _=>0,aL.refl H,hA,?_,fun i d h=>?_,fun i es h=>absurd (nA i _ h) (by simp[Slot.mt]),fun i j s _ h _ m=>absurd (nA i s h) (by rw[m];decide),fun p hp=>absurd hp (by simp),fun a es e=>(by cases e),fun i O es h=>absurd (nA i _ h) (by simp[Slot.mt])⟩
 ·unfold L2.start bW;rw[length_append,length_append,length_map,length_map,length_replicate,length_replicate,r.length]
 ·unfold bW at h;by_cases hi:i<ds.length
  ·rw[getElem?_append_left (by rw[length_map];exact hi),getElem?_map,getElem?_eq_getElem hi]at h;cases h;obtain⟨v,hv,rv⟩:=r.get (getElem?_eq_getElem hi);refine⟨v,?_,rv.weak ?_⟩
   ·unfold L2.start;rw[getElem?_append_left (by rw[length_map,r.length];exact hi),getElem?_map,hv];rfl
   ·rintro a (z|⟨j,s,e,m,_⟩)
    ·exact z
    ·exact absurd (nA j s e) (by rw[m];decide)
  ·rw[getElem?_append_right (by rw[length_map];omega),getElem?_replicate]at h;split at h<;>cases h
variable {qual:Str} {fa:Addr} {fd:FuncData}
theorem OL{k:Nat}(U:lT K x qual st fa fd)(hm:mg x=some (.ref fa))(hB:Binds K fd ps [])(S:fD N ps (aP st))(hn:ps.length=n)(hbody:∀(ba:Value) (A:Around) (outer:List Env) (s:Shared) (H:Hp) (E:XK),bS k (A.deeper (envOfC qual (aP st) s.heap.objs.size fa ba))->Hl (gw gj P w K mg base N qual (aP st) fa ba A outer s H E).jP (cM st) g)(hF:∀ds d,ds.length=n->F ds=some d->iC N g ds=some d):Dn P w K mg base (k+1) x ps n F:=by
 have dm:ps.length<=N.length:=by have:=congrArg List.length S.pre;rw[length_take]at this;omega
 refine⟨fa,fd,U.ok S (fun vs H Q E h=>?_) (fun ba A outer s H vs Q E hr h=>?_),hm,U.kp,hB⟩
 ·obtain⟨Av,ds,d,_,r,hl,_⟩:=h;rw[r.length,hl,hn]
 ·obtain⟨Av,ds,d,hA,r,hl,hd,q⟩:=h;have cV:=hF ds d hl hd;unfold iC at cV;refine⟨_,hbody ba A outer s H E hr,?_⟩;cases hg:g (bW N ds)with
  |none=>rw[hg]at cV;cases cV
  |some fl=>
   refine⟨H,Av,none,[],bW N ds,fl,qU hA r (by omega),hg,?_⟩;rw[hg]at cV;cases fl with
   |nx Γ=>cases cV;exact fun bz H' ⟨ad,G⟩=>q _ H' G.same .bI
   |rt d'=>cases cV;exact fun v H' s r=>q v H' s r
   |bk Γ=>cases cV
   |ct Γ=>cases cV
   |rm d' Γ=>cases cV
open PySem PySem.Spec PyProof.Rows L2
open PySem.W (Dat kqdOk kqdP kqdPs kqd_lay kqd_eqv)
def k7 (d e:Dat):Bool:=@decide (d=e) (Classical.propDecidable _)
theorem yb:k7 d e=true↔d=e:=@decide_eq_true_iff _ (Classical.propDecidable _)
theorem mS(h:d=e):k7 d e=true:=yb.mpr h
theorem pA(h:d≠e):k7 d e=false:=Bool.eq_false_iff.mpr fun z=>h (yb.mp z)
def iD (C:Int->Int->Prop) (g:Int->Int->Dat):Dat->Dat->Option Dat:=open Classical in fun x y=>match x,y with
 | .int i,.int j=>if C i j then some (g i j)else none
 |_,_=>none
variable {C:Int->Int->Prop}
theorem fT{g:Int->Int->Dat}{i j:Int}(h:C i j):iD C g (.int i) (.int j)=some (g i j):=by
 unfold iD;exact if_pos h
theorem DN{g:Int->Int->Dat}{x y:Dat}(h:iD C g x y=some d):∃i j,x=.int i/\y=.int j/\C i j/\d=g i j:=by
 unfold iD at h;split at h
 ·split at h
  ·rename_i i j hc;cases h;exact⟨i,j,rfl,rfl,hc,rfl⟩
  ·cases h
 ·cases h
theorem nr{g:Int->Int->Int}:jm K (rI C fun i j=>.int (g i j)) (iD C fun i j=>.int (g i j)):=by
 intro H Av x y dx dy d Q hA rx ry h q;obtain⟨i,j,rfl,rfl,hc,rfl⟩:=DN h;exact⟨i,j,rx.cU,ry.cU,hc,q _ H (aL.refl H) (.int _)⟩
theorem nt{g:Int->Int->Bool}:jm K (uv fun i j=>.bl (g i j)) (iD (fun _ _=>True) fun i j=>.bool (g i j)):=by
 intro H Av x y dx dy d Q hA rx ry h q;obtain⟨i,j,rfl,rfl,hc,rfl⟩:=DN h;exact⟨i,j,rx.cU,ry.cU,q _ H (aL.refl H) (.bl _)⟩
def k9:Dat->Dat->Option Dat
 | .int i,.int j=>some (.int (i+j))
 | .str x,.str y=>if x.length+y.length<=sizeLine then some (.str (x++y))else none
 |_,_=>none
def NS (_ _:Int):Prop:=True
def J9 (_ j:Int):Prop:=j≠0
theorem zQ:cZ X (binaryOp .Sub) (rI NS fun i j=>.int (i-j)):=I0 fun _ _ _ _ _ _ _ _ q=>sub_int q
theorem zR:cZ X (binaryOp .Mult) (rI IntMulOk fun i j=>.int (i*j)):=I0 fun _ _ _ _ _ _ _ hc q=>mul_int q hc
theorem FZ:cZ X (binaryOp .Mod) (rI J9 fun i j=>.int (i.fmod j)):=I0 fun _ _ _ _ _ _ _ hc q=>mod_int' hc q
abbrev Fq:Dat->Dat->Option Dat:=iD NS fun i j=>.int (i-j)
abbrev ib:Dat->Dat->Option Dat:=iD IntMulOk fun i j=>.int (i*j)
abbrev wZ:Dat->Dat->Option Dat:=iD J9 fun i j=>.int (i.fmod j)
abbrev FQ:Dat->Dat->Option Dat:=iD Cp fun i j=>.int (i^j.toNat)
abbrev DC:Dat->Dat->Option Dat:=iD (fun _ _=>True) fun i j=>.bool (decide (i<j))
abbrev Pu:Dat->Dat->Option Dat:=iD (fun _ _=>True) fun i j=>.bool (decide (i<=j))
abbrev xO:Dat->Dat->Option Dat:=iD (fun _ _=>True) fun i j=>.bool (decide (j<i))
abbrev Qb:Dat->Dat->Option Dat:=iD (fun _ _=>True) fun i j=>.bool (decide (j<=i))
def nC:Dat->Option Dat
 | .int i=>some (.int (-i))
 |_=>none
mutual
theorem aM.reads{pins:List (Addr×Obj)}{σ:L2.St}{H:Hp}{s:Shared}{Av:dA}(I:Inv X pins σ H s):∀{v:V} {d:Dat} (n:Nat),aM X.K H Av v d->kqdOk n d=true->∀u,RelV v u->∃as,Reads s.heap u (kqdP d) as
 |_,_,n,.bI,_,u,r=>by cases(show u=Value.none from r);rw[kqdP];exact⟨_,.none⟩
 |_,_,n,.bl b,_,u,r=>by cases(show u=Value.bool b from r);rw[kqdP];exact⟨_,.bool b⟩
 |_,_,n,.int i,_,u,r=>by obtain⟨t,q⟩:=(show ∃t,u=Value.int i t from r);subst q;rw[kqdP];exact⟨_,.int i t⟩
 |_,_,n,.str x,_,u,r=>by obtain⟨t,q⟩:=(show ∃t,u=Value.str x t from r);subst q;rw[kqdP];exact⟨_,.str x t⟩
 |_,_,0,.tup _ _,hk,_,_=>by simp[kqdOk]at hk
 |_,_,0,.lst _ _,hk,_,_=>by simp[kqdOk]at hk
 |_,_,n+1,.tup (a:=a) hq rs,hk,u,r=>by
  cases(show u=Value.ref a from r);obtain⟨aq,rv,⟨o,h1,h2,m,h3⟩,_⟩:=I.tuple hq.sq;obtain⟨as,q⟩:=ax.reads I n rs (by simpa [kqdOk]using hk) aq rv;rw[kqdP];exact⟨as,.tuple h1 h2 h3 (by simpa using q)⟩
 |_,_,n+1,.lst (a:=a) hq rs,hk,u,r=>by
  cases(show u=Value.ref a from r);obtain⟨aq,rv,⟨o,m,h1,h2,_,h3⟩,_⟩:=I.list hq.sq;obtain⟨as,q⟩:=ax.reads I n rs (by simpa [kqdOk]using hk) aq rv;rw[kqdP];exact⟨_,.list h1 h2 h3 (by simpa using q)⟩
theorem ax.reads {pins:List (Addr×Obj)} {σ:L2.St} {H:Hp} {s:Shared} {Av:dA} (I:Inv X pins σ H s):∀{vs:List V} {ds:List Dat} (n:Nat),ax X.K H Av vs ds->(∀d∈ds,kqdOk n d=true)->∀us,Vals vs us->∃as,ReadsAll s.heap us (kqdPs ds) as
 |_,_,n,.nil,_,us,r=>by cases r;rw[kqdPs];exact⟨_,.nil⟩
 |_,_,n,.cons h t,hk,us,r=>by
  cases r with
  |cons r1 r2=>
   obtain⟨as,q⟩:=aM.reads I n h (hk _ (.head _)) _ r1;obtain⟨bs,p⟩:=ax.reads I n t (fun d hm=>hk d (.tail _ hm)) _ r2;rw[kqdPs];exact⟨_,.cons q p⟩
end
theorem q4(d e:Dat)(h1:kqdOk 9 d=true)(h2:kqdOk 9 e=true):PyData.eqv (kqdP d) (kqdP e)=(k7 d e):=by
 have q:=kqd_eqv 9 d e 9 h1 h2;by_cases hq:d=e
 ·rw[mS hq];exact q.mpr hq
 ·rw[pA hq];exact Bool.eq_false_iff.mpr fun x=>hq (q.mp x)
theorem iL(d:Dat)(h:kqdOk 9 d=true):SeqAt.shaped (kqdP d)=true:=by
 have l:=kqd_lay 9 d h;unfold SeqAt.shaped;rw[l.1,Bool.true_and];exact decide_eq_true (le_trans l.2 (by decide))
variable {e:Expr}
def Lw (K:Fg):R2:=fun x y H Q=>∃Av d e,aM K H Av x d/\aM K H Av y e/\kqdOk 9 d=true/\kqdOk 9 e=true/\Q (.bl (k7 d e)) H
def Lq (K:Fg):R2:=fun x y H Q=>∃Av d e,aM K H Av x d/\aM K H Av y e/\kqdOk 9 d=true/\kqdOk 9 e=true/\Q (.bl (!(k7 d e))) H
theorem wM(hu:X.A.units+64<cLine):cZ X (compareOp .Eq) (Lw X.K):=by
 intro pins s σ H x y v u Q I rx ry h;obtain⟨Av,d,e,r1,r2,k1,k2,q⟩:=h;obtain⟨as,ra⟩:=r1.reads I 9 k1 v rx;obtain⟨bs,rb⟩:=r2.reads I 9 k2 u ry;exact eq_dataH ra rb (iL d k1) (iL e k2) hu ⟨.bl _,H,I,by rw[q4 d e k1 k2];rfl,q⟩
theorem Dm(hu:X.A.units+64<cLine):cZ X (compareOp .NotEq) (Lq X.K):=by
 intro pins s σ H x y v u Q I rx ry h;obtain⟨Av,d,e,r1,r2,k1,k2,q⟩:=h;obtain⟨as,ra⟩:=r1.reads I 9 k1 v rx;obtain⟨bs,rb⟩:=r2.reads I 9 k2 u ry;exact ne_dataH ra rb (iL d k1) (iL e k2) hu ⟨.bl _,H,I,by rw[q4 d e k1 k2];rfl,q⟩
def eqB:Dat->Dat->Option Bool:=open Classical in fun x y=>match x,y with
 | .bool a,.bool b=>some (a==b)
 | .str a,.str b=>some (decide (a=b))
 |d,e=>if kqdOk 9 d=true/\kqdOk 9 e=true then some (k7 d e)else none
def dU:Dat->Dat->Option Dat:=fun x y=>(eqB x y).map .bool
def ik:Dat->Dat->Option Dat:=fun x y=>(eqB x y).map fun k=>.bool (!k)
theorem uT{x y:Dat}{k:Bool}(h:eqB x y=some k):(∃a b,x=.bool a/\y=.bool b/\k=(a==b))\/(∃a b,x=.str a/\y=.str b/\k=decide (a=b))\/(kqdOk 9 x=true/\kqdOk 9 y=true/\k=(k7 x y)):=by
 unfold eqB at h;split at h
 ·cases h;exact .inl ⟨_,_,rfl,rfl,rfl⟩
 ·cases h;exact .inr (.inl ⟨_,_,rfl,rfl,by congr⟩)
 ·split at h
  ·rename_i hk;cases h;exact .inr (.inr ⟨hk.1,hk.2,rfl⟩)
  ·cases h
theorem wO:jm K (fun x y H Q=>Pc x y H Q\/Lw K x y H Q) dU:=by
 intro H Av x y dx dy d Q hA rx ry h q;obtain⟨k,e1,rfl⟩:=aU h;rcases uT e1 with⟨a,b,rfl,rfl,rfl⟩|⟨a,b,rfl,rfl,rfl⟩|⟨k1,k2,rfl⟩
 ·rw[rx.j8,ry.j8];exact .inl ⟨rfl,by rw[sL];exact q _ H (aL.refl H) (.bl _)⟩
 ·rw[rx.gO,ry.gO];exact .inl ⟨rfl,by
   have:decide (V.str a=V.str b)=decide (a=b):=by simp
   rw[this];exact q _ H (aL.refl H) (.bl _)⟩
 ·exact .inr ⟨Av,dx,dy,rx,ry,k1,k2,q _ H (aL.refl H) (.bl _)⟩
theorem Ds:jm K (fun x y H Q=>P9 x y H Q\/Lq K x y H Q) ik:=by
 intro H Av x y dx dy d Q hA rx ry h q;obtain⟨k,e1,rfl⟩:=aU h;rcases uT e1 with⟨a,b,rfl,rfl,rfl⟩|⟨a,b,rfl,rfl,rfl⟩|⟨k1,k2,rfl⟩
 ·rw[rx.j8,ry.j8];exact .inl ⟨rfl,by rw[sL];exact q _ H (aL.refl H) (.bl _)⟩
 ·rw[rx.gO,ry.gO];exact .inl ⟨rfl,by
   have:decide (V.str a=V.str b)=decide (a=b):=by simp
   rw[this];exact q _ H (aL.refl H) (.bl _)⟩
 ·exact .inr ⟨Av,dx,dy,rx,ry,k1,k2,q _ H (aL.refl H) (.bl _)⟩
def C4:List Dat->Option Dat
 |[.int i]=>some (.int (if i<0 then -i else i))
 |_=>none
theorem ET:nR K (fun xs H Q=>∃i,xs=[.int i]/\Q (.int (if i<0 then -i else i)) H) C4:=by
 intro H Av xs ds d Q hA r h q;unfold C4 at h;split at h
 ·cases h;obtain⟨v,rfl,rv⟩:=r.cS;rw[rv.cU];exact⟨_,rfl,q _ H (aL.refl H) (.int _)⟩
 ·cases h
def intD:List Dat->Option Dat
 |[.int i]=>some (.int i)
 |[.bool k]=>some (.int (if k then 1 else 0))
 |_=>none
theorem ES:nR K (fun xs H Q=>(∃i,xs=[.int i]/\Q (.int i) H)\/∃k,xs=[.bl k]/\Q (.int (if k then 1 else 0)) H) intD:=by
 intro H Av xs ds d Q hA r h q;unfold intD at h;split at h
 ·cases h;obtain⟨v,rfl,rv⟩:=r.cS;rw[rv.cU];exact .inl ⟨_,rfl,q _ H (aL.refl H) (.int _)⟩
 ·cases h;obtain⟨v,rfl,rv⟩:=r.cS;rw[rv.j8];exact .inr ⟨_,rfl,q _ H (aL.refl H) (.int _)⟩
 ·cases h
def lb:List Dat->Option Dat
 |[.str z]=>if z.length<=sizeLine then some (.int z.length)else none
 |[.list ds]=>some (.int ds.length)
 |[.tuple ds]=>some (.int ds.length)
 |_=>none
theorem ER:nR K (fun xs H Q=>∃x n,xs=[x]/\NG K x H n/\Q (.int n) H) lb:=by
 intro H Av xs ds d Q hA r h q;unfold lb at h;split at h
 ·split at h
  ·rename_i hz;cases h;obtain⟨v,rfl,rv⟩:=r.cS;rw[rv.gO];exact⟨_,_,rfl,⟨hz,rfl⟩,q _ H (aL.refl H) (.int _)⟩
  ·cases h
 ·cases h;obtain⟨v,rfl,rv⟩:=r.cS;obtain⟨a,ys,rfl,hq,rs⟩:=rv.fG;exact⟨_,_,rfl,.inl ⟨ys,hq.sq,rfl⟩,by rw[rs.length];exact q _ H (aL.refl H) (.int _)⟩
 ·cases h;obtain⟨v,rfl,rv⟩:=r.cS;obtain⟨a,ys,rfl,hq,rs⟩:=rv.fg;exact⟨_,_,rfl,.inr ⟨ys,hq.sq,rfl⟩,by rw[rs.length];exact q _ H (aL.refl H) (.int _)⟩
 ·cases h
def L4:Dat->Option String
 | .none=>some "NoneType"| .bool _=>some "bool"| .int _=>some "int"| .str _=>some "str"| .tuple _=>some "tuple"| .list _=>some "list"
 | .bytes _=>none
theorem kJ(K:Fg)(t T:String)(ht:t∈["NoneType","bool","int","str","tuple","list"])(hT:T∈["bool","int","str","tuple","list"]):PySem.W.kitOne K (.type t) (.type T)=some (decide (t=T) || (decide (t="bool")&&decide (T="int"))):=by
 simp only[mem_cons,not_mem_nil,or_false]at ht hT;rcases ht with rfl|rfl|rfl|rfl|rfl|rfl<;>rcases hT with rfl|rfl|rfl|rfl|rfl<;>rfl
def mM (T:String):Dat->Option Dat:=fun d=>(L4 d).bind fun t=>if T∈["bool","int","str","tuple","list"]then some (.bool (decide (t=T) || (decide (t="bool")&&decide (T="int"))))else none
theorem yN(T:String):jf X (.builtin "isinstance") (fun xs H Q=>∃Av x d dd,xs=[x,.ty T]/\aM X.K H Av x d/\mM T d=some (.bool dd)/\Q (.bl dd) H):=by
 intro pins s σ H xs us Q I r h;obtain⟨Av,x,d,dd,rfl,rd,hi,q⟩:=h;obtain⟨u,t,rfl,ru,rt⟩:=vals2 r;cases(show t=Value.type T from rt);obtain⟨ty,e1,hi⟩:=bind_some (show(L4 d).bind _=some (Dat.bool dd)from hi);split at hi
 ·rename_i hT;have fS:=(Option.some.inj hi).symm;injection fS with tM;have fin:∀tk,EP X pins σ Q (.bool dd) {s with toks:=tk}:=fun tk=>⟨.bl dd,H,I.tok tk,rfl,q⟩;cases rd with
  |bI=>cases e1;cases(show u=Value.none from ru);exact kia_one PySem.W.kitx_none I.nU True.intro (by rw[kJ _ _ _ (by simp) hT,tM]) (fun z=>nomatch z) fin
  |bl y=>cases e1;cases(show u=Value.bool y from ru);exact kia_one PySem.W.kitx_bool I.nU True.intro (by rw[kJ _ _ _ (by simp) hT,tM]) (fun z=>nomatch z) fin
  |int i=>cases e1;obtain⟨t,z⟩:=(show ∃t,u=Value.int i t from ru);cases z;exact kia_one PySem.W.kitx_int I.nU True.intro (by rw[kJ _ _ _ (by simp) hT,tM]) (fun z=>nomatch z) fin
  |str y=>cases e1;obtain⟨t,z⟩:=(show ∃t,u=Value.str y t from ru);cases z;exact kia_one PySem.W.kitx_str I.nU True.intro (by rw[kJ _ _ _ (by simp) hT,tM]) (fun z=>nomatch z) fin
  | @lst a xs ds hq rs=>
   cases e1;cases(show u=Value.ref a from ru);obtain⟨aq,_,⟨o,m,h1,h2,_⟩,_⟩:=I.list hq.sq;exact kia_one PySem.W.kitx_list I.nU ⟨o,h1,h2⟩ (by rw[kJ _ _ _ (by simp) hT,tM]) (fun z=>nomatch z) fin
  | @tup a xs ds hq rs=>
   cases e1;cases(show u=Value.ref a from ru);obtain⟨aq,_,⟨o,h1,h2,_⟩,_⟩:=I.tuple hq.sq;exact kia_one PySem.W.kitx_tuple I.nU ⟨o,h1,h2⟩ (by rw[kJ _ _ _ (by simp) hT,tM]) (fun z=>nomatch z) fin
 ·cases hi
theorem Gs{T:String}{r:Dat}(h:mM T d=some r):∃k,r=.bool k:=by
 obtain⟨t,e1,h⟩:=bind_some (show(L4 d).bind _=some r from h);split at h
 ·cases h;exact⟨_,rfl⟩
 ·cases h
def bB:Dat->Dat->Option Dat:=fun x y=>match x,y with
 | .list ds,.int i=>gE ds i
 | .tuple ds,.int i=>gE ds i
 |_,_=>none
theorem ax.gE{i:Int}(r:ax K H Av vs ds)(h:L2.gE ds i=some d):∃v,L2.gE vs i=some v/\aM K H Av v d:=by
 unfold L2.gE at h ⊢;rw[r.length];obtain⟨j,e1,h⟩:=bind_some h;obtain⟨v,hv,rv⟩:=r.get h;exact⟨v,by rw[e1];exact hv,rv⟩
def cutD (ds:List Dat) (lo hi:Option Int):List Dat:=(ds.drop (HT.bU ds.length 0 lo)).take (HT.bU ds.length ds.length hi-HT.bU ds.length 0 lo)
def P0 (K:Fg) (f:ar->Option (Option Int)):TO:=fun σ H Q=>∃Av ρ o,ff H Av/\dH K H Av σ ρ/\f ρ=some o/\∀H',aL H H'->Q o H'
abbrev Qv (X:Cx) (e:Option Expr) (f:ar->Option (Option Int)):Prop:=PO X e (P0 X.K f)
theorem zM{o:Option Expr}{t t':TO}(h:PO X o t)(m:∀σ H Q,t' σ H Q->t σ H Q):PO X o t':=fun pins s σ H Q I q=>h pins s σ H Q I (m σ H Q q)
def yi:Dat->Option Int
 | .int i=>some i
 |_=>none
theorem Hc{b:Int}(h:yi d=some b):d=.int b:=by
 cases d<;>first|(cases h;done)|(simp only[yi,Option.some.injEq]at h;rw[h])
def ny:ar->Option (Option Int):=fun _=>some none
def nv (f:ar->Option Dat):ar->Option (Option Int):=fun ρ=>(f ρ).bind fun d=>(yi d).map some
def de (aN:List (Option Nat)) (ρ:ar):ar:=aN.map fun o=>o.bind fun j=>(ρ[j]?).join
def cw (gt:Dat->Option cH) (ft:ar->Option Bool) (fe:ar->Option Dat) (jg:ar):List Dat->Option (List Dat)
 |[]=>some []
 |d::r=>(gt d).bind fun as=>(ft (i9 jg as)).bind fun c=>if c=true then(fe (i9 jg as)).bind fun v=>(cw gt ft fe jg r).map (v::·)else cw gt ft fe jg r
def lP (aN:List (Option Nat)) (gt:Dat->Option cH) (ft:ar->Option Bool) (fe:ar->Option Dat) (fi:ar->Option Dat):ar->Option (List Dat):=fun ρ=>(fi ρ).bind fun d=>(eB d).bind fun ds=>if ds.length<sizeLine then cw gt ft fe (de aN ρ) ds else none
theorem dH.aN{σ:L2.St}(h:dH K H Av σ ρ)(aN:List (Option Nat)):dH K H Av (bY aN σ) (de aN ρ):=fun i d e=>by
 unfold de at e;rw[getElem?_map]at e;cases hc:aN[i]? with
 |none=>rw[hc]at e;cases e
 |some o=>
  rw[hc]at e;cases o with
  |none=>cases e
  |some j=>
   have e2:some ((ρ[j]?).join)=some (some d):=e;obtain⟨v,hv,r⟩:=h j d (join_some (Option.some.inj e2));refine⟨v,?_,r⟩;unfold bY;rw[getElem?_map,hc];show some ((σ[j]?).join)=_;rw[hv];rfl
theorem dH.gz{σ:L2.St}(h:ja K H Av ws as)(hl:σ.length=ρ.length)(E:dH K H Av σ ρ):dH K H Av (m6 σ ws) (i9 ρ as):=by
 induction h generalizing σ ρ with
 |nil=>exact E
 | @cons i v d vs ds h r ih=>
  refine ih (σ:=σ.set i (some v)) (ρ:=ρ.set i (some d)) (by rw[length_set,length_set];exact hl) fun j d' e=>?_;have bV:=cT e;rw[length_set]at bV;rcases aK e with⟨e1,q⟩|⟨e1,q⟩
  ·subst e1;cases q;exact⟨v,getElem?_set_self (by rw[hl];exact bV),h⟩
  ·obtain⟨u,a,b⟩:=E j d' q;exact⟨u,by rw[getElem?_set_ne (Ne.symm e1)];exact a,b⟩
theorem dJ.refl:∀(a:L2.St),dJ a a
 |[]=>trivial
 |none::a=>dJ.refl a
 |some v::a=>⟨rfl,dJ.refl a⟩
theorem dJ.set:∀{a b:L2.St} {i:Nat} {x:Option V},dJ a b->a[i]?=some none->dJ a (b.set i x)
 |none::a,_::b,0,x,h,_=>h
 |some v::a,_::b,0,x,h,e=>by simp at e
 |none::a,_::b,i+1,x,h,e=>dJ.set (a:=a) (b:=b) (i:=i) h (by simpa using e)
 |some v::a,_::b,i+1,x,h,e=>⟨h.1,dJ.set (a:=a) (b:=b) (i:=i) h.2 (by simpa using e)⟩
 |[],_,_,_,_,e=>by simp at e
 |none::_,[],_,_,h,_=>h.elim
 |some _::_,[],_,_,h,_=>h.elim
theorem dJ.gz{a b:L2.St}(h:ja K H Av ws as)(hs:∀p∈as,a[p.1]?=some none)(l:dJ a b):dJ a (m6 b ws):=by
 induction h generalizing b with
 |nil=>exact l
 | @cons i v d vs ds h r ih=>exact ih (fun p hp=>hs p (mem_cons_of_mem _ hp)) (dJ.set l (hs _ mem_cons_self))
def jA (gt:Dat->Option cH) (aN:List (Option Nat)):Prop:=∀d as,gt d=some as->∀p∈as,aN[p.1]?=some none
theorem fz{aN:List (Option Nat)}(h:aN[i]?=some none):jA (aName i) aN:=fun d as e p hp=>by
 cases e;have:p=(i,d):=by simpa using hp
 subst this;exact h
variable {fe:ar->Option Dat}
theorem zw{aN:List (Option Nat)}{fi:ar->Option Dat}(ht:jA gt aN):∀σ H Q,kP K (lP aN gt ft fe fi) σ H Q->pN aN (Mn K (tF K fi)) (ig K gt) (jL K ft) (tF K fe) σ H Q:=by
 rintro σ H Q ⟨Av,ρ,out,hA,hE,hf,q⟩;obtain⟨d,e1,hf⟩:=bind_some hf;obtain⟨ds,e2,hf⟩:=bind_some hf;split at hf
 ·rename_i hz;refine⟨Av,ρ,d,hA,hE,e1,fun x H1 s1 r=>?_⟩;have main:∀J:It,Over K J x d ds->∃W:Nat->Nat->List V->Hp->Prop,(∃m,W 0 m [] H1)/\∀i m ys H,W i m ys H->ys.length<sizeLine/\
    ((J.stop i H/\∀D,H D=none->Q (.ref D) (upd H D (.lst ys)))\/
     (J.go i H/\∀x H',J.uh i H x H'->ig K gt x (bY aN σ) H' fun dN H2=>dJ (bY aN σ) dN/\jL K ft dN H2 fun b H3=>if b=true then tF K fe dN H3 fun v H4=>∃m',m'<m/\W (i+1) m' (ys++[v]) H4 else ∃m',m'<m/\W (i+1) m' ys H3)):=by
   intro J ov;refine⟨fun i m ys H2=>m=ds.length-i/\i<=ds.length/\aL H1 H2/\∃o1 o2,ax K H2 Av ys o1/\o1.length<=i/\cw gt ft fe (de aN ρ) (ds.drop i)=some o2/\out=o1++o2,
    ⟨_,rfl,zero_le _,aL.refl _,[],out,.nil,le_refl _,by rw[drop_zero];exact hf,rfl⟩,?_⟩
   rintro i m ys H2 ⟨rfl,hi,s2,o1,o2,ro,hl,hc,rfl⟩;refine⟨by have:=ro.length;omega,?_⟩;have rx:=r.same s2;cases fH:ds[i]? with
   |none=>
    have hle:ds.length<=i:=List.getElem?_eq_none_iff.mp fH;rw[drop_eq_nil_of_le hle]at hc;cases hc;refine .inl ⟨(ov i H2 _ rx).1 hle,fun D hD=>q H2 D ys (s1.trans s2) hD (by rw[append_nil];exact ro)⟩
   |some di=>
    have bV:=cT fH;rw[drop_cons fH]at hc;obtain⟨as,a1,hc⟩:=bind_some (show(gt di).bind _=some o2 from hc);obtain⟨k,a2,hc⟩:=bind_some hc;obtain⟨go,yl⟩:=(ov i H2 _ rx).2 di fH;refine .inr ⟨go,fun y H' hy=>?_⟩;obtain⟨eH,ry⟩:=yl y H' hy;subst eH;refine⟨Av,di,as,ry,a1,fun ws hw=>?_⟩;have cs:∀p∈as,(bY aN σ)[p.1]?=some none:=fun p hp=>by
     unfold bY;rw[getElem?_map,ht di as a1 p hp];rfl
    have A2:=hA.same (s1.trans s2);have E2:dH K H' Av (m6 (bY aN σ) ws) (i9 (de aN ρ) as):=dH.gz hw (by unfold bY de;rw[length_map,length_map]) ((hE.same (s1.trans s2)).aN aN);refine⟨dJ.gz hw cs (dJ.refl _),Av,_,k,A2,E2,a2,fun H3 s3=>?_⟩;cases k with
    |false=>
     rw[if_neg Bool.false_ne_true]at hc ⊢;exact⟨ds.length-(i+1),by omega,rfl,by omega,s2.trans s3,o1,o2,ro.same s3,by omega,hc,rfl⟩
    |true=>
     rw[if_pos rfl]at hc ⊢;obtain⟨dv,a3,hc⟩:=bind_some hc;obtain⟨o3,a4,hc⟩:=aU hc;subst hc;refine⟨Av,_,dv,A2.same s3,E2.same s3,a3,fun v H4 s4 rv=>⟨ds.length-(i+1),by omega,rfl,by omega,s2.trans (s3.trans s4),o1++[dv],o3,(ro.same (s3.trans s4)).append (.cons rv .nil),?_,a4,?_⟩⟩
     ·rw[length_append,length_singleton];omega
     ·rw[append_assoc];rfl
  cases d with
  |list dZ=>
   cases e2;obtain⟨a,xs,rfl,hq,rs⟩:=r.fG;exact⟨a,rfl,.inl ⟨⟨xs,hq.sq⟩,main _ oP⟩⟩
  |tuple dZ=>
   cases e2;obtain⟨a,xs,rfl,hq,rs⟩:=r.fg;exact⟨a,rfl,.inr ⟨⟨xs,hq.sq⟩,main _ qJ⟩⟩
  |_=>cases e2
 ·cases hf
def fL (f:ar->Option (List Dat)):ar->Option Dat:=fun ρ=>(f ρ).map .list
def gN:ar->Option Bool:=fun _=>some true
open PySem PySem.Spec PyProof.Rows L2
open PySem.W (Dat kqdOk)
variable {fs:ar->Option (List Dat)} in
def B2 (i j:Nat) (fs:ar->Option (List Dat)):ay->Option Fl:=fun Γ=>(fs (bD Γ)).bind fun ds=>match ds with
 |[d,d']=>some (.nx ((Γ.set i (some (.a9 d))).set j (some (.a9 d'))))
 |_=>none
variable {scope:Scope} {N':List Str}
theorem pE(hf:∀y∈scope.names,y.2≠.free:=by decide +kernel)(hc:∀y∈scope.names,y.2≠.cell:=by decide +kernel)(hk:scope.kind=.function:=by rfl)(hn:∀y∈scope.names,y.2=.local->scope.names.lookup y.1=some .local:=by decide +kernel)(nd:N'.Nodup:=by decide +kernel):o8 X scope [] N' (N'.map fun _=>none):=by
 have rl:(relabel scope X.env).names=scope.names:=by
  unfold relabel;exact map_eq_self (l:=scope.names) fun x hx=>by
   obtain⟨n,k⟩:=x;have:(k==NameKind.free)=false:=by simpa using hf _ hx
   simp[this]
 refine⟨closureFor_none hf,hc,hk,hn,nd,by rw[length_map],fun x c h=>(by cases h),fun x h=>?_,fun i x j e1 e2=>?_⟩
 ·rw[rl]at h;rcases h with h|h
  ·exact absurd rfl (hc _ (PySem.mem_of_lookup h))
  ·exact absurd rfl (hf _ (PySem.mem_of_lookup h))
 ·rw[getElem?_map]at e2;cases h:N'[i]? with
  |none=>rw[h]at e2;cases e2
  |some y=>rw[h]at e2;cases e2
def vw (K:Fg):Sp:=fun vs H Q _=>∃(a:Addr) (ns:List Int),vs=[.ref a]/\eC K H a (ns.map V.int)/\ns.length<=63/\∀H',Q (.bl true) H'
variable {k:Nat}
theorem Mc{f:Addr}(h:fQ P w K mg base gj k f fd ps (CB K 1 F))(hF:∀ns:List Int,ns.length<=63->F [.list (ns.map .int)]=some (.bool true)):fQ P w K mg base gj k f fd ps (vw K):=
 h.imp fun vs H Q E aQ=>by
  obtain⟨a,ns,e,hS,hl,q⟩:=aQ;subst e;refine⟨fun _=>False,[.list (ns.map .int)],.bool true,fun _ z=>z.elim,.cons (.lst ?_ (ax.ints ns)) .nil,rfl,hF ns hl,fun v H' _ r=>by rw[r.j8];exact q H'⟩;rcases hS with h|h
  ·exact .inl ⟨h,fun z=>z⟩
  ·exact .inr h
theorem NY{l:PySem.W.OpenLaw}{q:Program}{loose:List Str}{XP:(Str->Option Value)->Heap->Prop}{YP:World->Heap->Prop}{d:DefRec}{K:Params->Fg}(hk:k<=100)(hn:l.most=some 63)(E7:d.params.defaults=[])(hY:∀(w:World) (h:Heap),YP w h->(K w.params).In h)(F:∀(w:World) (mg:Str->Option Value) (fa:Addr) (h:Heap),(K w.params).In h->h.Ns mainGlobals mg->mg d.name=some (.ref fa)->
   ∃fd:FuncData,(∀(s:Shared) (u:Value),BindsTo s fd ⟨[u],[]⟩ [("script",u)])/\∀base:Heap,(K w.params).In base->base.Ns mainGlobals mg->fQ l.prog w (K w.params) mg base gj 100 fa fd ["script"] (vw (K w.params))):
  PySem.W.WalkO q loose XP YP l.row.toRowW d [] (fun f vs=>PySem.call f vs):=
 L2.Jb (n:=63) (k:=100) (x:="script") (CX:=fun _=>gj) (sp:=fun w=>vw (K w.params)) hn (by decide) E7 ⟨rfl,by decide,by decide⟩ hY F (fun _ _ a ns hl _ hS=>⟨a,ns,rfl,hS,hl,fun _=>rfl⟩) fun _ _ _ _ _ z=>z
open PySem PySem.Spec PyProof.Rows L2
open PySem.W (Dat kqdOk)
def HV (K:Fg):R2:=fun x y H Q=>∃l b xs zs,x=.ref l/\y=.ref b/\eC K H l xs/\eC K H b zs/\xs.length+zs.length<=sizeLine/\∀p,H p=none->Q (.ref p) (upd H p (.lst (xs++zs)))
theorem JR:cZ X (binaryOp .Add) (HV X.K):=by
 intro pins s σ H x y v u Q I rx ry h;obtain⟨l,b,xs,zs,rfl,rfl,hH,hB,hz,q⟩:=h;cases rx;cases ry;obtain⟨aq,r,⟨⟨cls,dd,data,sl⟩,n,ho,hc,PX,hd⟩,_⟩:=I.list hH;obtain⟨ic,r2,⟨⟨Sd,ED,data2,CG⟩,n2,oZ,xF,hd02,hd2⟩,_⟩:=I.list hB;simp only at hc hd xF hd2;subst hc hd xF hd2;have h1:=r.length;have h2:=r2.length;have e:aq.toArray++ic.toArray=(aq++ic).toArray:=by simp
 refine PySem.concat_meets ⟨_,ho,rfl⟩ ⟨_,oZ,rfl⟩ PySem.noFill_list_add PySem.seq_list_add PySem.F.slot_list_add PySem.F.entry_list_add (PySem.F.args_list_add_2 _ _) (list_addW l b aq.toArray ic.toArray n n2 dd ED sl CG (by rw[size_toArray,size_toArray];omega)) ⟨ho,oZ,?_⟩;rw[e];exact⟨.ref _,_,I.M7 (t':=s.toks) (r.append r2) (by rw[length_append];omega),rfl,q _ I.fresh⟩
end
end L3
namespace L2
noncomputable section
open PySem PySem.Spec PyProof.Rows
def L9 (i:Nat) (aN:List (Option Nat)) (wi:TI) (g:TG) (rz:TT) (te:TE):TS:=fun D σ H=>pN aN wi g rz te σ H fun v H'=>D.nx (σ.set i (some v)) H'
variable {X:Cx} {elt tg iter:Expr} {ifs:List Expr} {scope:Scope} {cl:List (Str×Addr)} {pos n6 pos':Pos} {N':List Str} {x:Str}
theorem tD{aN:List (Option Nat)}{wi:TI}{g:TG}{rz:TT}{te:TE}{iz:Nat}(hc:X.calm=true)(B:o8 X scope cl N' aN)(hi:PI X tg iter wi)(hg:∀C aI ag ex,PG (cL X scope cl N' C aI ag ex) tg g)(ht:∀C aI ag ex,AJ (cL X scope cl N' C aI ag ex) ifs rz)(he:∀C aI ag ex,PE (cL X scope cl N' C aI ag ex) elt te)(hN:X.N.Nodup)(qm:X.N[iz]?=some x)(hx:Loc X.env.scope x)(xp:swapsWith (.ListComp elt [⟨tg,iter,ifs,0⟩] scope pos) (some (.Name x pos')) n6.line X.env=pure true)(xB:X.fn x=true\/X.env.scope.names.lookup x=some .local)(hs:∀x,foldedSetIterable iter X.env x=pure x:=by intro _;rfl):
  PS X (.Assign [.Name x pos'] (.ListComp elt [⟨tg,iter,ifs,0⟩] scope pos) n6) (L9 iz aN wi g rz te):=by
 intro pins s σ H DD I h;rw[exec_Assign_Name_used _ _ _ _ xp];refine wpAny_bind (wpAny_standAt (wpAny_bind ?_));show wpAny _ X.A (do let _ <- comprehension (.ListComp elt [⟨tg,iter,ifs,0⟩] scope pos) scope X.env _ (newList []) false (eval iter X.env) (some (assign (.Name x pos') X.env))) _ _ s
 refine wpAny_bind (wpAny_mono (wpAny_comprehension_free (use:=some (assign (.Name x pos') X.env)) (Q:=fun _ s'=>SP X pins DD .next s') rfl hs B.GZ B.kind B.names (bX (hi pins s σ H _ I h) fun xv bN ie=>bX ie fun Im bo xl=>?_)) (fun _ s' hq=>wpAny_pure (wpAny_pure hq)) fun _ _ e=>e)
 obtain⟨it,fp,tn,J,H2,e,I2,T,rE,f2,W,⟨m0,w0⟩,turn⟩:=xl;subst e;refine wpAny_newObj_type (wpAny_newFunctionEnv B.cells (by intro y hy;simp at hy) (fun ie ll j3=>?_) B.kind);dsimp only at ll j3 ⊢;generalize xN:bo.heap.push {cls:=.type "list",dict:=none,data:=.seq ([]:List Value).toArray}=HH at ll j3 ⊢;have hC:HH.objs.size=bo.heap.objs.size+1:=by rw[<- xN,size_push]
 have Ec:bo.heap.objs.size≠HH.objs.size:=by rw[hC];exact ne_of_lt (Nat.lt_succ_self _)
 have below:∀b,b<bo.heap.objs.size->b≠HH.objs.size/\b≠bo.heap.objs.size:=fun b hb=>⟨by rw[hC];exact ne_of_lt (Nat.lt_succ_of_lt hb),ne_of_lt hb⟩;have old:∀b o,bo.heap.get? b=some o->ie.get? b=some o:=fun b o e=>j3.extBut b o (below b (lt_size e)).1 (get?_push_of_some _ (xN▸get?_push_of_some _ e));have tN:ie.get? bo.heap.objs.size=some {cls:=.type "list",data:=.seq ([]:List Value).toArray}:=j3.extBut _ _ Ec (get?_push_of_some _ (xN▸get?_push_size _ rfl));have nY:bo.heap.objs.size<=HH.objs.size:=by rw[hC];exact Nat.le_succ _
 generalize hD:bo.heap.objs.size=D at *;generalize Ug:HH.objs.size=C at *

 have xU:∀b∈fp,b<D:=fun b hb=>by
  obtain⟨o,e,_⟩:=T.obj _ _ rE b hb;rw[<- hD];exact lt_size e
 have BW:∀x c,cl.lookup x=some c->c<D:=fun x c e=>by
  obtain⟨v,q⟩:=I2.cell x c (B.sub x c e);rw[<- hD];exact q.lt
 have MO:∀b∈jQ X.stack,b∈X.env.locals::X.fs:=fun b hb=>I2.rB b hb;have ok:(cL X scope cl N' C bo H2 fp).Ok:=by
  refine⟨I2.mod,B.kind,I2.ok.glob,I2.ok.blt,?_,fun x y c h1 h2=>I2.ok.inj x y c (B.sub x c h1) (B.sub y c h2),fun x hx=>B.has x hx,fun x c hf=>absurd hf (by simp),I2.ok.hd,I2.ok.frames,.inl rfl,fun b hb=>⟨?_,fun x c e z=>?_⟩,I2.bs,le_trans I2.ok.v7 I2.sz,fun b o e hb=>?_,fun b hb hf=>?_,I2.stack,I2.t9⟩
  ·show bo.heap.objs.size<=C;rw[hD];exact nY
  ·exact ne_of_lt (lt_of_lt_of_le (xU b hb) nY)
  ·exact(f2 b hb).2.2.2.2.1 x c (B.sub x c e) z
  ·have h1:=f2 b hb;rcases h1.2.2.2.1 with z|z
   ·exact I2.ok.tG b o e z
   ·have h2:=(I2.ok.bs b o e).1;exact absurd (lt_of_lt_of_le (lt_size h2) z) (lt_irrefl _)
  ·rcases mem_cons.mp (MO b hf)with z|z
   ·exact(f2 b hb).2.1 z
   ·exact(f2 b hb).2.2.1 z
 have p4:∀a,D<=a->H2 a=none:=fun a ha=>I2.bx.fresh (by rw[hD];exact ha);have I4:Inv (cL X scope cl N' C bo H2 fp) [] (bY aN σ) H2 {bo with heap:=ie,toks:=bo.toks+([]:List (Str×Value)).length}:=by
  refine⟨ok,rfl,I2.bare,Un.kept old,⟨_,ll,fun i x v e1 e2 e3=>?_⟩,fun x c e=>?_,p4 C nY,fun x c e=>I2.iA x c (B.sub x c e),fun p hp=>absurd (show p∈([]:List (Addr×Obj))from hp) (by simp),I2.bx.kept old,?_⟩
  ·have qx:N'[i]?=some x:=e1;unfold bY at e2;rw[getElem?_map]at e2;cases nJ:aN[i]? with
   |none=>rw[nJ]at e2;cases e2
   |some o=>
    rw[nJ]at e2;cases o with
    |none=>cases e2
    |some j=>
     obtain⟨hN,hv,hk,MB⟩:=B.aN i x j qx nJ;have e4:σ[j]?=some (some v):=by
      have e5:some ((σ[j]?).join)=some (some v):=e2;cases hq:σ[j]? with
      |none=>rw[hq]at e5;cases e5
      |some q=>rw[hq]at e5;exact e5
     obtain⟨m,hn,hl⟩:=I2.loc;obtain⟨u,r,l⟩:=hl j x v hN e4 hv;refine⟨u,r,.inr ⟨hk,?_⟩⟩;rcases l with⟨k,_⟩|⟨k,c,nW,o,ho,hd⟩
     ·exact absurd k MB
     ·obtain⟨c',fI⟩:=B.has x hk;have e6:=B.sub x c' fI;rw[nW]at e6;cases e6;exact⟨c,fI,o,old c o ho,hd⟩
  ·obtain⟨v,o,ho,hd⟩:=I2.cell x c (B.sub x c e);exact⟨v,o,old c o ho,hd⟩
  ·show(bY aN σ).length=N'.length;unfold bY;rw[length_map];exact B.len
 have qM:D≠C:=Ec;have N3:D∉jQ X.stack:=fun hb=>by
  obtain⟨_,o,ho,_⟩:=I2.stack.mem hb;have:=lt_size ho;rw[hD]at this;exact absurd this (lt_irrefl _)
 have kS:∀{P:List (Addr×Obj)} {H':Hp},(∀p∈P,p.1=D)->(∀b∈fp,H' b=none)->∀b∈fp,nO (cL X scope cl N' C bo H2 fp) P H' b:=fun hP hn b hb=>
  ⟨hn b hb,(ok.Aj b hb).1,ok.tQ b hb,.inl hb,(ok.Aj b hb).2,fun p hp z=>by
   have dI:p∈_:=hp;rw[hP p (by simpa using dI)]at z;exact Nat.ne_of_gt (xU b hb) z⟩
 have loop:∀kQ:Shared,kQ={bo with heap:=ie,toks:=bo.toks+([]:List (Str×Value)).length}->
   codeAny (model X.prog X.w) X.A (.compLoop (.ListComp elt [⟨tg,iter,ifs,0⟩] scope pos) 0 (.ref it) (.ref D) (compEnvC scope cl C X.env))
    (compPost (model X.prog X.w) X.A X.xe (some (assign (.Name x pos') X.env)) (fun _ s'=>SP X pins DD .next s') (.ref D) C) kQ:=by
  rintro kQ rfl;refine pC (fun n s'=>∃i ys aq H' k,Inv (cL X scope cl N' C bo H2 fp) [] (bY aN σ) H' s'/\tn i s'.heap/\(∀b∈fp,H' b=none)/\H' D=none/\s'.heap.get? D=some {cls:=.type "list",data:=.seq (aq:List Value).toArray k}/\Vals ys aq/\W i n ys H') ?_ m0
   ⟨0,[],[],H2,0,I4,T.keep _ _ _ rE fun b _ o e=>old b o e,fun b hb=>(f2 b hb).1,p4 D (le_refl _),tN,.nil,w0⟩
  rintro n s' ⟨i,ys,aq,H',k,Ia,Cy,Eh,lr,Eb,rv,wa⟩;obtain⟨hsz,tu⟩:=turn i n ys H' wa;have Ib:Inv (cL X scope cl N' C bo H2 fp) [(D,{cls:=.type "list",data:=.seq aq.toArray k})] (bY aN σ) H' s':=Ia.iO fun p hp=>by
   have dI:p=(D,{cls:=.type "list",data:=.seq aq.toArray k}):=by simpa using hp
   subst dI;exact⟨Eb,lr,qM,N3,fun v z=>nomatch z⟩
  have xK:∀p∈[((D,{cls:=.type "list",data:=.seq aq.toArray k}):Addr×Obj)],p.1=D:=fun p hp=>by
   have dI:p=(D,{cls:=.type "list",data:=.seq aq.toArray k}):=by simpa using hp
   rw[dI]
  rcases tu with⟨stop,qn⟩|⟨go,step⟩
  ·refine wpAny_mono (T.done (cL X scope cl N' C bo H2 fp) rfl rfl rfl hc i _ s' (bY aN σ) H' (fun _ _=>False) Ib (kS xK Eh) Cy stop) (fun r s4 xr=>?_) fun _ _ z=>z.elim;obtain⟨hr,Ic⟩:=xr;subst hr;obtain⟨m,hn,_⟩:=Ic.loc;have GF:s4.heap.get? D=some {cls:=.type "list",data:=.seq aq.toArray k}:=(Ic.pin (D,_) (by simp)).1;have IH:H' C=none:=Ic.free;have un:Un (jQ X.stack) fp H2 (upd H' D (.lst ys)) bo.heap s4.heap:=by
    have bs:=Ic.base;refine⟨fun b o e n h1 h2=>bs.keep b o e n h1 h2,fun b o e n h1 h2=>bs.slot b o e n h1 h2,fun b o e n h2=>?_,fun b o e h2=>bs.there b o e h2,fun b xs e=>?_,fun b o u e=>?_,fun b ps e=>?_⟩
    ·have:b<D:=by rw[<- hD];exact lt_size e
     rw[bc (ne_of_lt this)];exact bs.free b o e n h2
    ·have q:=bs.lW b xs e;rw[bc (b9 q lr)];exact q
    ·have q:=bs.k6 b o u e;rw[bc (b9 q lr)];exact q
    ·obtain⟨more,q⟩:=bs.lY b ps e;exact⟨more,by rw[bc (b9 q lr)];exact q⟩
   have bx:gH X.prog X.w (upd H' D (.lst ys)) s4.heap:=fun b u e=>by
    by_cases hb:b=D
    ·subst hb;rw[cW]at e;cases e;exact⟨Nat.le_of_lt hsz,aq,k,rv,GF⟩
    ·rw[bc hb]at e;exact(Ic.bx b u e).lZ (fun c v E9 q=>q) (fun c q=>by rw[bc (b9 q lr)];exact q) fun c xs q=>by rw[bc (b9 q lr)];exact q
   have If:=I2.IU (s':=s4) (H':=upd H' D (.lst ys)) (ch:=fp) Ic.os un bx Ic.bare fun b hb=>⟨(f2 b hb).2.2.2.1,(f2 b hb).2.1,(f2 b hb).2.2.2.2.1,(f2 b hb).2.2.2.2.2⟩;have Q7:C≠X.env.locals:=Nat.ne_of_gt (lt_of_lt_of_le (by rw[<- hD];exact I2.lt) nY);have Q8:∀y c,X.env.cells.lookup y=some c->c≠C:=fun y c e=>by
    obtain⟨v,q⟩:=I2.cell y c e;exact ne_of_lt (lt_of_lt_of_le (by rw[<- hD];exact q.lt) nY)
   refine wpAny_assign_Name (ur If hN qm hx (v:=.ref D) rfl (fun s5 I5 nX=>?_) xB);obtain⟨aa,RN,Tz⟩:=nX;have Ud:C≠aa:=by
    rcases Tz with z|z
    ·rw[z];exact Q7
    ·exact Ne.symm (Q8 x aa z)
   refine⟨m,hn.sameBut RN Ud,fun h' oY=>?_⟩;have Ue:upd H' D (.lst ys) C=none:=by rw[bc (Ne.symm qM)];exact IH
   have I6:Inv X pins (σ.set iz (some (.ref D))) (upd H' D (.lst ys)) {s5 with heap:=h',toks:=s5.toks}:=I5.turned (it:=C) (fun b o hb e=>(oY.2 b hb).trans e) Ue Q7 (.inr (le_trans I2.sz (by rw[hD];exact nY))) Q8 (fun p hp z=>by
    have h1:=(I2.pin p hp).1;have h2:p.1<D:=by rw[<- hD];exact lt_size h1
    exact absurd z (ne_of_lt (lt_of_lt_of_le h2 nY)))
   exact⟨_,_,I6,qn D lr⟩
  ·refine wpAny_mono (T.item (cL X scope cl N' C bo H2 fp) rfl rfl rfl hc i _ s' (bY aN σ) H' (fun _ _=>False) Ib (kS xK Eh) Cy go) (fun r s4 xr=>?_) fun _ _ z=>z.elim;obtain⟨u,hr,h4⟩:=xr;subst hr;refine wpAny_mono h4 (fun _ s5 h5=>?_) fun _ _ z=>z.elim;obtain⟨x,H5,I5,r5,y5,oq,Ei⟩:=h5;have F1:=I5.pinned (kS xK Ei) (T.obj _ _ oq);refine wpAny_mono (hg C bo H2 fp _ s5 (bY aN σ) H5 x u _ F1 r5 (step x H5 y5)) (fun _ s6 h6=>?_) fun _ _ z=>z.elim;obtain⟨rf,H6,I6,rS,q6⟩:=h6;refine wpAny_mono (ht C bo H2 fp _ s6 rf H6 _ I6 q6) (fun b s7 h7=>?_) fun _ _ z=>z.elim;obtain⟨H7,I7,q7⟩:=h7

   have back:∀{bz:St} {sU:Hp} {mx:Shared},Inv (cL X scope cl N' C bo H2 fp) ([((D,{cls:=.type "list",data:=.seq aq.toArray k}):Addr×Obj)]++mF fp s5.heap) bz sU mx->
     mx.heap.get? D=some {cls:=.type "list",data:=.seq aq.toArray k}/\sU D=none/\(∀b∈fp,sU b=none)/\tn (i+1) mx.heap:=fun{bz sU mx} Iz=>by
    have pz:=fun p hp=>Iz.pin p (mem_append_right _ hp);have pD:=pz (D,{cls:=.type "list",data:=.seq aq.toArray k}) (mem_append_left _ mem_cons_self);refine⟨pD.1,pD.2.1,fun b hb=>?_,T.keep _ _ _ oq fun b hb o e=>(pz (b,o) (mem_append_right _ (hV hb e))).1⟩;obtain⟨o,e,_⟩:=T.obj _ _ oq b hb;exact(pz (b,o) (mem_append_right _ (hV hb e))).2.1
   have hits:aq.length=ys.length:=rv.length.symm;cases b with
   |false=>
    rw[if_neg Bool.false_ne_true]at q7 ⊢;obtain⟨m',hm,w7⟩:=q7;obtain⟨b1,b2,b3,b4⟩:=back I7;exact⟨m',hm,i+1,ys,aq,H7,k,(I7.iO (pins':=[]) fun p hp=>absurd hp (by simp)).weak rS.len rS.get,b4,b3,b2,b1,rv,w7⟩
   |true=>
    rw[if_pos rfl]at q7 ⊢;refine wpAny_mono (he C bo H2 fp _ s7 rf H7 _ I7 q7) (fun y s8 h8=>?_) fun _ _ z=>z.elim;obtain⟨v,H8,I8,r8,m',hm,w8⟩:=h8;obtain⟨b1,b2,b3,b4⟩:=back I8;refine wpAny_list_append_plain (l:=D) (items:=aq.toArray) (hsz:=by rw[size_toArray];omega) ⟨k,b1⟩ fun h' sj oY=>?_;obtain⟨k',e'⟩:=sj;have I9:Inv (cL X scope cl N' C bo H2 fp) [] rf H8 {s8 with heap:=h',toks:=s8.toks}:=(I8.iO (pins':=[]) fun p hp=>absurd hp (by simp)).turned (it:=D) (fun b o hb e=>(oY.2 b hb).trans e) b2 qM (.inr (le_of_eq hD))
     (fun x c e=>ne_of_lt (BW x c e)) (fun p hp=>absurd (show p∈([]:List (Addr×Obj))from hp) (by simp))
    refine⟨m',hm,i+1,ys++[v],aq++[y],H8,k',I9.weak rS.len rS.get,T.keep _ _ _ b4 fun b hb o e=>(oY.2 b (ne_of_lt (xU b hb))).trans e,b3,b2,?_,rv.append (.cons r8 .nil),w8⟩;have EA:h'.get? D=_:=e';rw[List.push_toArray]at EA;exact EA
 exact codeAny_compStart_list (loop _ rfl) (T.self X.A 0 _ _ _ (T.keep _ _ _ rE fun b _ o e=>old b o e) (loop _ rfl))
end
end L2
namespace L3
noncomputable section
open PySem PySem.Spec PyProof.Rows L2
open PySem.W (Dat kqdOk)
def n8 (i:Nat) (f:ar->Option (List Dat)):ay->Option Fl:=fun Γ=>(f (bD Γ)).map fun ds=>.nx (Γ.set i (some (.a9 (.list ds))))
theorem uE{f:Str->Addr}:∀{fv:List Str} {y:Str},y∈fv->(fv.map fun x=>(x,f x)).lookup y=some (f y)
 |x::r,y,h=>by
  rw[map_cons,List.lookup_cons];by_cases e:y=x
  ·subst e;simp
  ·have:(y==x)=false:=by simpa using e
   rw[this];exact uE (by simpa [e]using h)
theorem oQ{f:Str->Addr}:∀{fv:List Str} {y:Str} {c:Addr},(fv.map fun x=>(x,f x)).lookup y=some c->y∈fv/\c=f y
 |[],y,c,h=>by simp at h
 |x::r,y,c,h=>by
  rw[map_cons,List.lookup_cons]at h;by_cases e:y=x
  ·subst e;simp at h;exact⟨mem_cons_self,h.symm⟩
  ·have:(y==x)=false:=by simpa using e
   rw[this]at h;obtain⟨h1,h2⟩:=oQ h;exact⟨mem_cons_of_mem _ h1,h2⟩
variable {X:Cx} {scope:Scope}
theorem eZ{tn fv:List Str}{js:List Nat}(nW:closureFor scope X.env=pure (fv.map fun x=>(x,(X.env.cells.lookup x).getD 0)))(hf:∀y∈scope.names,y.2=.free->y.1∈fv)(hc:∀y∈scope.names,y.2≠.cell)(hk:scope.kind=.function)(hn:∀y∈scope.names,y.2=.local->scope.names.lookup y.1=some .local)(nd:(tn++fv).Nodup)(hl:fv.length=js.length)(hs:∀x∈fv,∃c,X.env.cells.lookup x=some c)(hj:∀p∈fv.zip js,X.N[p.2]?=some p.1/\mU X.env.scope p.1/\((relabel scope X.env).names.lookup p.1=some .cell\/(relabel scope X.env).names.lookup p.1=some .free)/\X.env.scope.names.lookup p.1≠some .local):
  o8 X scope (fv.map fun x=>(x,(X.env.cells.lookup x).getD 0)) (tn++fv) ((tn.map fun _=>none)++js.map some):=by
 refine⟨nW,hc,hk,hn,nd,by rw[length_append,length_append,length_map,length_map,hl],fun y c h=>?_,fun y h=>?_,fun i x j e1 e2=>?_⟩
 ·obtain⟨h1,h2⟩:=oQ h;obtain⟨c',e⟩:=hs y h1;rw[h2,e];rfl
 ·have hm:(y,NameKind.cell)∈(relabel scope X.env).names\/(y,NameKind.free)∈(relabel scope X.env).names:=h.elim (fun z=>.inl (PySem.mem_of_lookup z)) fun z=>.inr (PySem.mem_of_lookup z);have:y∈fv:=by
   rcases hm with hm|hm;all_goals
    obtain⟨⟨n,k⟩,hp,e⟩:=mem_map.mp hm;dsimp only at e;split at e
    ·rename_i OD;have hk:k=.free:=by
      cases k<;>first|rfl|(simp at OD)
     first
      |(cases e;done)
      |(cases e;exact hf _ hp hk)
    ·first
      |(cases e;done)
      |(cases e;exact absurd rfl (hc _ hp))
      |(cases e;exact hf _ hp rfl)
  exact⟨_,uE this⟩
 ·by_cases hi:i<tn.length
  ·rw[getElem?_append_left (by rw[length_map];exact hi),getElem?_map,getElem?_eq_getElem hi]at e2;cases e2
  ·rw[getElem?_append_right (by omega)]at e1;rw[getElem?_append_right (by rw[length_map];omega),length_map,getElem?_map]at e2;cases ej:js[i-tn.length]? with
   |none=>rw[ej]at e2;cases e2
   |some j'=>
    rw[ej]at e2;cases e2;refine hj (x,j) ?_;have h1:=(List.getElem?_eq_some_iff.mp e1);have h2:=(List.getElem?_eq_some_iff.mp ej);have h3:(fv.zip js)[i-tn.length]?=some (x,j):=by rw[List.getElem?_zip_eq_some];exact⟨e1,ej⟩
    exact mem_of_getElem? h3
open PySem PySem.Spec PyProof.Rows L2
open PySem.W (Dat kqdOk)
def jG:Dat->Bool
 | .none=>true| .bool _=>true| .int _=>true| .str _=>true
 |_=>false
variable {a b:Expr}
def An:Dat->Dat->Bool
 | .none,.none=>true
 | .bool a,.bool b=>a==b
 | .bool a,.int b=>(if a then 1 else 0)==b
 | .int a,.bool b=>a==(if b then 1 else 0)
 | .int a,.int b=>a==b
 | .str a,.str b=>a==b
 |_,_=>false
variable {K:Fg} {H:Hp} {Av:dA} {v:V} {d:Dat}
theorem aM.flat(r:aM K H Av v d)(h:jG d=true):jF v=true:=by
 cases r<;>first|rfl|cases h
theorem aM.An{u:V}{e:Dat}(r:aM K H Av v d)(q:aM K H Av u e)(h:jG d=true)(k:jG e=true):sG v u=L3.An d e:=by
 cases r<;>cases q<;>first|rfl|cases h|cases k
theorem ax.flat{K:Fg}{H:Hp}{Av:dA}:∀{vs:List V} {ds:List Dat},ax K H Av vs ds->ds.all jG=true->vs.all jF=true
 |_,_,.nil,_=>rfl
 |_,_,.cons r t,h=>by
  simp only[all_cons,and_eq_true]at h ⊢;exact⟨r.flat h.1,t.flat h.2⟩
theorem ax.Mm{K:Fg}{H:Hp}{Av:dA}{x:V}{dx:Dat}(rx:aM K H Av x dx)(hx:jG dx=true):∀{vs:List V} {ds:List Dat},ax K H Av vs ds->ds.all jG=true->xi x vs=ds.any fun y=>An y dx
 |_,_,.nil,_=>rfl
 |_,_,.cons r t,h=>by
  simp only[all_cons,and_eq_true]at h;unfold xi;rw[any_cons,any_cons,r.An rx h.1 hx];have:=ax.Mm rx hx t h.2;unfold xi at this;rw[this]
def PC:Dat->Dat->Option Bool:=fun x y=>match y with
 | .list ds=>if jG x=true/\ds.all jG=true then some (ds.any fun z=>An z x)else none
 | .tuple ds=>if jG x=true/\ds.all jG=true then some (ds.any fun z=>An z x)else none
 | .str j=>match x with
  | .str i=>some (!(Builtin.Str.occurrences j i 0 j.length 1).isEmpty)
  |_=>none
 |_=>none
def inD:Dat->Dat->Option Dat:=fun x y=>(PC x y).map .bool
theorem LV:jm K (fun x y H Q=>Pa K false x y H Q\/(∃i j,x=.str i/\y=.str j/\Q (.bl (!(Builtin.Str.occurrences j i 0 j.length 1).isEmpty)) H)) inD:=by
 intro H Av x y dx dy d Q hA rx ry h q;obtain⟨k,e1,rfl⟩:=aU h;unfold PC at e1;split at e1
 ·split at e1
  ·rename_i ds hc;cases e1;obtain⟨p,xs,rfl,hq,rs⟩:=ry.fG;refine .inl ⟨p,xs,rfl,.inl hq.sq,rx.flat hc.1,rs.flat hc.2,?_⟩;show Q (.bl (xi x xs)) H;rw[ax.Mm rx hc.1 rs hc.2];exact q _ H (aL.refl H) (.bl _)
  ·cases e1
 ·split at e1
  ·rename_i ds hc;cases e1;obtain⟨p,xs,rfl,hq,rs⟩:=ry.fg;refine .inl ⟨p,xs,rfl,.inr hq.sq,rx.flat hc.1,rs.flat hc.2,?_⟩;show Q (.bl (xi x xs)) H;rw[ax.Mm rx hc.1 rs hc.2];exact q _ H (aL.refl H) (.bl _)
  ·cases e1
 ·split at e1
  ·cases e1;exact .inr ⟨_,_,rx.gO,ry.gO,q _ H (aL.refl H) (.bl _)⟩
  ·cases e1
 ·cases e1
def iZ:Dat->Bool
 | .none=>true
 |_=>false
theorem aM.LZ(r:aM K H Av v d):decide (v=.bI)=iZ d:=by cases r<;>rfl
theorem zS:jm K (fun x y H Q=>y=.bI/\Q (.bl (decide (x=.bI))) H) (fun x y=>if iZ y=true then some (.bool (iZ x))else none):=by
 intro H Av x y dx dy d Q hA rx ry h q;dsimp only at h;split at h
 ·rename_i hy;cases h;have e:dy=.none:=by cases dy<;>first|rfl|cases hy
  subst e;exact⟨ry.Ih,by rw[rx.LZ];exact q _ H (aL.refl H) (.bl _)⟩
 ·cases h
theorem G7:jm K (fun x y H Q=>y=.bI/\Q (.bl (!decide (x=.bI))) H) (fun x y=>if iZ y=true then some (.bool (!iZ x))else none):=by
 intro H Av x y dx dy d Q hA rx ry h q;dsimp only at h;split at h
 ·rename_i hy;cases h;have e:dy=.none:=by cases dy<;>first|rfl|cases hy
  subst e;exact⟨ry.Ih,by rw[rx.LZ];exact q _ H (aL.refl H) (.bl _)⟩
 ·cases h
def iH:Dat->Dat->Option Dat:=fun x y=>if iZ y=true then some (.bool (iZ x))else none
def lK:Dat->Dat->Option Dat:=fun x y=>if iZ y=true then some (.bool (!iZ x))else none
def vD:List Dat->Option (List Dat)
 |[.list ds]=>some ds
 |[.tuple ds]=>some ds
 |_=>none
def mr:List Dat->Option Dat
 |[.list ds]=>some (.tuple ds)
 |[.tuple ds]=>some (.tuple ds)
 |_=>none
theorem yO:nR K (fun xs H Q=>∃p ys,xs=[.ref p]/\((eC K H p ys/\∀l,H l=none->Q (.ref l) (upd H l (.tup ys)))\/(i7 K H p ys/\Q (.ref p) H))) mr:=by
 intro H Av xs ds d Q hA r h q;unfold mr at h;split at h
 ·cases h;obtain⟨v,rfl,rv⟩:=r.cS;obtain⟨p,xs,rfl,hq,rs⟩:=rv.fG;exact⟨p,xs,rfl,.inl ⟨hq.sq,fun l hl=>q _ _ (bP hl _) (.qL hA hl rs)⟩⟩
 ·cases h;obtain⟨v,rfl,rv⟩:=r.cS;have CJ:=rv;obtain⟨p,xs,rfl,hq,rs⟩:=rv.fg;exact⟨p,xs,rfl,.inr ⟨hq.sq,q _ H (aL.refl H) CJ⟩⟩
 ·cases h
open PySem PySem.Spec PyProof.Rows L2
open PySem.W (Dat kqdOk)
def ModT (K:Fg) (a:Addr) (ds:List Dat):Prop:=∃(xs:List V) (o:Obj) (aq:Array Value) (n:Nat),K.lookup a=some o/\o.cls=.type "tuple"/\o.data=.seq aq n/\aq.size<=sizeLine/\Vals xs aq.toList/\∀H Av,ax K H Av xs ds
open PySem PySem.Spec PyProof.Rows L2
open PySem.W (Dat kqdOk)
variable {ds es:List Dat} {Γ:ay} {i:Nat} {ad:Nat->Addr}
theorem aS.set_own(hi:Γ[i]?=some (some (.own ds))):∀a,aS Av (Γ.set i (some (.own es))) ad a->aS Av Γ ad a:=by
 rintro a (z|⟨j,fs,e,m,q⟩)
 ·exact .inl z
 ·rcases aK e with⟨e1,_⟩|⟨e1,q1⟩
  ·subst e1;exact .inr ⟨j,_,hi,rfl,q⟩
  ·exact .inr ⟨j,fs,q1,m,q⟩
theorem aS.kx(hi:Γ[i]?=some (some (.own ds))):∀a,aS Av Γ ad a->aS Av (Γ.set i (some (.own es))) ad a:=by
 rintro a (z|⟨j,fs,e,m,q⟩)
 ·exact .inl z
 ·by_cases e1:j=i
  ·subst e1;exact .inr ⟨j,.own es,getElem?_set_self (cT hi),rfl,q⟩
  ·exact .inr ⟨j,fs,by rw[getElem?_set_ne (Ne.symm e1)];exact e,m,q⟩
variable {H':Hp}
theorem Gq(hi:Γ[i]?=some (some (.own ds)))(k:∀b o,H b=some o->b≠ad i->H' b=some o):jB H (aS Av Γ ad) H' (aS Av (Γ.set i (some (.own es))) ad):=
 fun b o h n=>⟨k b o h fun z=>n (.inr ⟨i,_,hi,rfl,z.symm⟩),fun z=>n (aS.set_own hi b z)⟩
variable {σ:L2.St} {pn:Option Addr} {ys:List V} {ag:Hp} {aC:Hid}
theorem GA.lend(G:GA K ag Av pn aC H σ Γ ad)(hi:Γ[i]?=some (some (.own ds)))(k:∀b o,H b=some o->b≠ad i->H' b=some o)(hn:H' (ad i)=some (.lst ys))(r:ax K H' (aS Av Γ ad) ys es):
  GA K ag Av pn aC H' σ (Γ.set i (some (.own es))) ad:=by
 have bV:i<Γ.length:=cT hi;have kp:=Gq (Av:=Av) (es:=es) hi k;obtain⟨KR,g1,g2,g3,g4⟩:=G.own i ds hi;refine⟨fun b o h=>k b o (G.same b o h) (b9 h g4),G.gi,by rw[length_set];exact G.len,fun j d' h=>?_,fun j fs h=>?_,fun j l fs gs h1 h2 m1 m2 e=>?_,fun p hp=>(G.aC p hp).mono kp,fun a fs e h=>?_,fun j O fs h=>?_⟩
 ·rcases aK h with⟨_,q⟩|⟨_,q⟩
  ·cases q
  ·obtain⟨u,a,b⟩:=G.a9 j d' q;exact⟨u,a,b.mono kp⟩
 ·rcases aK h with⟨e,q⟩|⟨e,q⟩
  ·subst e;cases q;exact⟨ys,g1,hn,r.weak (aS.set_own hi),g4⟩
  ·obtain⟨zs,a,b,c,e'⟩:=G.own j fs q;exact⟨zs,a,k _ _ b fun z=>e (G.Ml j i fs ds q hi z),c.mono kp,e'⟩
 ·rcases aK h1 with⟨e1,q1⟩|⟨e1,q1⟩
  ·rcases aK h2 with⟨e2,q2⟩|⟨e2,q2⟩
   ·rw[e1,e2]
   ·subst e1;exact G.inj j l _ gs hi q2 rfl m2 e
  ·rcases aK h2 with⟨e2,q2⟩|⟨e2,q2⟩
   ·subst e2;exact G.inj j l fs _ q1 hi m1 rfl e
   ·exact G.inj j l fs gs q1 q2 m1 m2 e
 ·rcases aK h with⟨z,_⟩|⟨_,q⟩
  ·subst z;exact G.pin a ds e hi
  ·exact G.pin a fs e q
 ·rcases aK h with⟨e,q⟩|⟨e,q⟩
  ·cases q
  ·obtain⟨zs,a,b,c,e'⟩:=G.obj j O fs q;exact⟨zs,a,k _ _ b fun z=>e (G.inj j i _ _ q hi rfl rfl z),c.mono kp,e'⟩
abbrev HF:=ay->Option (Dat×ay)
def tH (K:Fg) (f:HF):TE:=fun σ H Q=>∃ag Av pn aC Γ ad d aj,GA K ag Av pn aC H σ Γ ad/\f Γ=some (d,aj)/\∀v H' iy,GA K ag Av pn aC H' σ aj iy->aM K H' (aS Av aj iy) v d->Q v H'
def HG (K:Fg) (f:ay->Option (Bool×ay)):TT:=fun σ H Q=>∃ag Av pn aC Γ ad d aj,GA K ag Av pn aC H σ Γ ad/\f Γ=some (d,aj)/\∀H' iy,GA K ag Av pn aC H' σ aj iy->Q d H'
def P2 (K:Fg) (f:ay->Option (List Dat×ay)):TA:=fun σ H Q=>∃ag Av pn aC Γ ad d aj,GA K ag Av pn aC H σ Γ ad/\f Γ=some (d,aj)/\∀vs H' iy,GA K ag Av pn aC H' σ aj iy->ax K H' (aS Av aj iy) vs d->Q vs H'
abbrev PH (X:Cx) (e:Expr) (f:HF):Prop:=PE X e (tH X.K f)
abbrev UN (X:Cx) (e:Expr) (f:ay->Option (Bool×ay)):Prop:=PT X e (HG X.K f)
abbrev Vk (X:Cx) (es:List Expr) (f:ay->Option (List Dat×ay)):Prop:=PA X es (P2 X.K f)
variable {f:ar->Option Dat}
def vF (f:ar->Option Dat):HF:=fun Γ=>match f (bD Γ)with
 |some d=>some (d,Γ)
 |none=>(f (bH Γ)).bind fun d=>if CI d=true then some (d,Γ)else none
def xJ (f:ar->Option Bool):ay->Option (Bool×ay):=fun Γ=>(f (bH Γ)).map fun k=>(k,Γ)
def h2 (g:Dat->Dat->Option Dat) (fa fb:HF):HF:=fun Γ=>(fa Γ).bind fun p=>(fb p.2).bind fun r=>(g p.1 r.1).map fun d=>(d,r.2)
variable {hb ha:HF} {r:R2} {g:Dat->Dat->Option Dat}
theorem AS(hr:jm K r g):∀σ H Q,tH K (h2 g ha hb) σ H Q->zt r (tH K ha) (tH K hb) σ H Q:=by
 rintro σ H Q ⟨ag,Av,pn,aC,Γ,ad,d,aj,G,hf,q⟩;obtain⟨⟨dx,Γ1⟩,e1,hf⟩:=bind_some hf;obtain⟨⟨dy,rh⟩,e2,hf⟩:=bind_some hf;obtain⟨d',e3,hf⟩:=aU hf;cases hf;refine⟨ag,Av,pn,aC,Γ,ad,dx,Γ1,G,e1,fun x H1 gF G1 r1=>⟨ag,Av,pn,(x,dx)::aC,Γ1,gF,dy,rh,G1.hide r1,e2,fun y H2 kh G2 r2=>?_⟩⟩;exact hr H2 (aS Av rh kh) x y dx dy _ Q G2.gU (G2.aC (x,dx) mem_cons_self) r2 e3 fun v H3 s3 r3=>q v H3 kh (G2.oh.grow s3) r3
variable {pos:Pos}
theorem wF{op:Operator}(ho:cZ X (binaryOp op) r)(hd:jm X.K r g)(pa:PH X a ha)(pb:PH X b hb):PH X (.BinOp a op b pos) (h2 g ha hb):=bh (Bh ho pa pb) (AS hd)
def sx (f:HF):ay->Option (Bool×ay):=fun Γ=>(f Γ).bind fun p=>(jW p.1).map fun k=>(k,p.2)
theorem zN{op:CmpOp}(ho:cZ X (compareOp op) r)(hd:jm X.K r g)(pa:PH X a ha)(pb:PH X b hb)(hm:behindInMarks op b=false):UN X (.Compare a [op] [b] pos) (sx (h2 g ha hb)):=mD (zK ho pa pb hm) fun σ H Q aQ=>by
 obtain⟨ag,Av,pn,aC,Γ,ad,d,aj,G,hf,q⟩:=aQ;obtain⟨⟨dv,Γ1⟩,e1,hf⟩:=bind_some hf;obtain⟨k,e2,hf⟩:=aU hf;cases hf;have e3:=lA e2;subst e3;exact AS hd σ H _ ⟨ag,Av,pn,aC,Γ,ad,_,Γ1,G,e1,fun v H' iy G' r=>⟨_,r.j8,q H' iy G'⟩⟩
def BJ (f g:ay->Option (Bool×ay)):ay->Option (Bool×ay):=fun Γ=>(f Γ).bind fun p=>if p.1=true then g p.2 else some (false,p.2)
variable {e:Expr}
abbrev Vj (X:Cx) (e:Expr) (f:ay->Option (Bool×ay)):Prop:=PW X e (HG X.K f)
theorem LU:jm K (fun x y H Q=>Lu K x y H Q\/Lr K x y H Q) bB:=by
 intro H Av x y dx dy d Q hA rx ry h q;unfold bB at h;split at h
 ·obtain⟨p,xs,rfl,hq,rs⟩:=rx.fG;obtain⟨v,hv,rv⟩:=rs.gE h;exact .inl ⟨p,xs,_,v,rfl,ry.cU,hq.sq,hv,q v H (aL.refl H) rv⟩
 ·obtain⟨p,xs,rfl,hq,rs⟩:=rx.fg;obtain⟨v,hv,rv⟩:=rs.gE h;exact .inr ⟨p,xs,_,v,rfl,ry.cU,hq.sq,hv,q v H (aL.refl H) rv⟩
 ·cases h
def BH:ay->Option (List Dat×ay):=fun Γ=>some ([],Γ)
def BI (f:HF) (g:ay->Option (List Dat×ay)):ay->Option (List Dat×ay):=fun Γ=>(f Γ).bind fun p=>(g p.2).map fun r=>(p.1::r.1,r.2)
def GC (g:ay->Option (List Dat×ay)):HF:=fun Γ=>(g Γ).bind fun p=>if p.1.length<=sizeLine then some (.tuple p.1,p.2)else none
def MM (n:Nat) (F:List Dat->Option Dat) (fs:ay->Option (List Dat×ay)):HF:=fun Γ=>(fs Γ).bind fun p=>if p.1.length=n then(F p.1).map fun d=>(d,p.2)else none
variable {es:List Expr}
def SG (K:Fg) (n:Nat) (F:List Dat->List Dat->Option (Dat×List Dat)):Sp:=fun vs H Q _=>∃Av a ws xs ds es d dZ,vs=.ref a::ws/\ff H Av/\Av a/\H a=some (.lst xs)/\ax K H Av xs ds/\ax K H Av ws es/\es.length+1=n/\F ds es=some (d,dZ)/\
 ∀v H' ys,(∀b o,H b=some o->b≠a->H' b=some o)->H' a=some (.lst ys)->ax K H' Av ys dZ->aM K H' Av v d->Q v H'
structure iU (P:Program) (w:World) (K:Fg) (mg:Str->Option Value) (base:Heap) (k:Nat) (x:Str) (ps:List Str) (n:Nat) (F:List Dat->List Dat->Option (Dat×List Dat)):Prop where
 ex:∃(f:Addr) (fd:FuncData),fQ P w K mg base gj k f fd ps (SG K n F)/\mg x=some (.ref f)/\keepIn K (.ref f)=true/\Binds K fd ps []
variable {P:Program} {w:World} {mg:Str->Option Value} {base:Heap} {j n:Nat} {ps:List Str}
theorem iU.up{k:Nat}{x:Str}{F:List Dat->List Dat->Option (Dat×List Dat)}(D:iU P w K mg base j x ps n F)(h:j<=k):iU P w K mg base k x ps n F:=by
 obtain⟨f,fd,h1,h2⟩:=D.ex;exact⟨f,fd,h1.mono h,h2⟩
def xM (i n:Nat) (F:List Dat->List Dat->Option (Dat×List Dat)) (fs:ay->Option (List Dat×ay)):HF:=fun Γ=>match Γ[i]? with
 |some (some (.own _))=>(fs Γ).bind fun p=>match p.2[i]? with
  |some (some (.own ds))=>if p.1.length+1=n then(F ds p.1).map fun r=>(r.1,p.2.set i (some (.own r.2)))else none
  |_=>none
 |_=>none
def startM (N:List Str) (ds es:List Dat):ay:=some (.own ds)::(es.map (fun d=>some (.a9 d))++List.replicate (N.length-(es.length+1)) none)
variable {N:List Str} {xs:List V}
theorem Eg{a:Addr}{ws:List V}{es:List Dat}(hA:ff H Av)(ha:Av a)(hx:H a=some (.lst xs))(rx:ax K H Av xs ds)(oA:ax K H Av ws es):
  GA K (fun b=>if b=a then none else H b) (fun b=>Av b/\b≠a) (some a) [] H (start N (.ref a::ws)) (startM N ds es) (fun _=>a):=by
 have nA:∀(i:Nat) (s:Slot),(startM N ds es)[i+1]?=some (some s)->s.mt=false:=fun i s h=>by
  unfold startM at h;rw[getElem?_cons_succ]at h;by_cases hi:i<es.length
  ·rw[getElem?_append_left (by rw[length_map];exact hi),getElem?_map,getElem?_eq_getElem hi]at h;cases h;rfl
  ·rw[getElem?_append_right (by rw[length_map];omega),getElem?_replicate]at h;split at h<;>cases h
 have wk:∀b,aS (fun b=>Av b/\b≠a) (startM N ds es) (fun _=>a) b->Av b:=by
  rintro b (z|⟨i,fs,_,_,rfl⟩)
  ·exact z.1
  ·exact ha
 refine⟨fun b o h=>?_,fun b z=>?_,?_,fun i d h=>?_,fun i fs h=>?_,fun i j fs gs h1 h2 m1 m2 _=>?_,fun p hp=>absurd hp (by simp),(fun a' fs e _=>by cases e;rfl),fun i O fs h=>?_⟩
 ·split at h
  ·cases h
  ·exact h
 ·obtain⟨o,e⟩:=hA b z.1;exact⟨o,by rw[if_neg z.2];exact e⟩
 ·unfold L2.start startM;simp only[map_cons,cons_append,length_cons,length_append,length_map,length_replicate,oA.length]
 ·cases i with
  |zero=>cases h
  |succ i=>
   unfold startM at h;rw[getElem?_cons_succ]at h;by_cases hi:i<es.length
   ·rw[getElem?_append_left (by rw[length_map];exact hi),getElem?_map,getElem?_eq_getElem hi]at h;cases h;obtain⟨v,hv,rv⟩:=oA.get (getElem?_eq_getElem hi);refine⟨v,?_,rv.weak wk⟩;unfold L2.start;rw[map_cons,cons_append,getElem?_cons_succ,getElem?_append_left (by rw[length_map,oA.length];exact hi),getElem?_map,hv];rfl
   ·rw[getElem?_append_right (by rw[length_map];omega),getElem?_replicate]at h;split at h<;>cases h
 ·cases i with
  |zero=>cases h;exact⟨xs,rfl,hx,rx.weak wk,by rw[if_pos rfl]⟩
  |succ i=>exact absurd (nA i _ h) (by simp[Slot.mt])
 ·cases i with
  |succ i=>exact absurd (nA i _ h1) (by rw[m1];decide)
  |zero=>
   cases j with
   |succ j=>exact absurd (nA j _ h2) (by rw[m2];decide)
   |zero=>rfl
 ·cases i with
  |zero=>cases h
  |succ i=>exact absurd (nA i _ h) (by simp[Slot.mt])
def runM (N:List Str) (g:ay->Option Fl) (ds es:List Dat):Option (Dat×List Dat):=match g (startM N ds es)with
 |some (.rm d aj)=>match (aj[0]? : Option (Option Slot))with
  |some (some (.own dZ))=>some (d,dZ)
  |_=>none
 |_=>none
variable {qual:Str} {st:Stmt} {fd:FuncData} {g:ay->Option Fl}
theorem N2{x:Str}{fa:Addr}{k:Nat}{F:List Dat->List Dat->Option (Dat×List Dat)}(U:lT K x qual st fa fd)(hm:mg x=some (.ref fa))(hB:Binds K fd ps [])(S:fD N ps (aP st))(hn:ps.length=n)(hbody:∀(ba:Value) (A:Around) (outer:List Env) (s:Shared) (H:Hp) (E:XK),bS k (A.deeper (envOfC qual (aP st) s.heap.objs.size fa ba))->Hl (gw gj P w K mg base N qual (aP st) fa ba A outer s H E).jP (cM st) g)(hF:∀ds es d dZ,es.length+1=n->F ds es=some (d,dZ)->runM N g ds es=some (d,dZ)):iU P w K mg base (k+1) x ps n F:=by
 refine⟨fa,fd,U.ok S (fun vs H Q E h=>?_) (fun ba A outer s H vs Q E hr h=>?_),hm,U.kp,hB⟩
 ·obtain⟨Av,a,ws,xs,ds,es,d,dZ,rfl,_,_,_,_,r,hl,_⟩:=h;rw[length_cons,r.length,hl,hn]
 ·obtain⟨Av,a,ws,xs,ds,es,d,dZ,rfl,hA,ha,hx,rx,oA,hl,hd,q⟩:=h;have cV:=hF ds es d dZ hl hd;unfold runM at cV;refine⟨_,hbody ba A outer s H E hr,?_⟩;split at cV
  ·rename_i d1 Γ1 hg;split at cV
   ·rename_i ds1 h0;cases cV;refine⟨_,_,some a,[],startM N ds es,_,⟨_,Eg hA ha hx rx oA⟩,hg,fun bz v H' iy G' rv=>?_⟩;obtain⟨ys,y1,y2,y3,y4⟩:=G'.own 0 _ h0;have ea:iy 0=a:=G'.pin a _ rfl h0;have wk:∀b,Av b->aS (fun b=>Av b/\b≠a) Γ1 iy b:=fun b z=>by
     by_cases eb:b=a
     ·exact .inr ⟨0,_,h0,rfl,ea.trans eb.symm⟩
     ·exact .inl ⟨z,eb⟩
    exact q v H' ys (fun b o h ne=>G'.same b o (by rw[if_neg ne];exact h)) (by rw[<- ea];exact y2) (y3.weak wk) (rv.weak wk)
   ·cases cV
  ·cases cV
def B0 (i:Nat) (f:HF):ay->Option Fl:=fun Γ=>(f Γ).map fun p=>.nx (p.2.set i (some (.a9 p.1)))
def B1 (f:HF):ay->Option Fl:=fun Γ=>(f Γ).map fun p=>.rm p.1 p.2
variable {ft:ar->Option Bool} {g2 g1:ay->Option Fl}
def Fz (ft:ay->Option (Bool×ay)) (g1 g2:ay->Option Fl):ay->Option Fl:=fun Γ=>(ft Γ).bind fun p=>if p.1=true then g1 p.2 else g2 p.2
theorem ax.set{K:Fg}{H:Hp}{Av:dA}:∀{vs:List V} {ds:List Dat} {j:Nat} {v:V} {d:Dat},ax K H Av vs ds->aM K H Av v d->ax K H Av (vs.set j v) (ds.set j d)
 |_,_,_,_,_,.nil,_=>.nil
 |_,_,0,_,_,.cons _ r,h=>.cons h r
 |_,_,j+1,_,_,.cons a r,h=>.cons a (ax.set (j:=j) r h)
def oy (i:Nat) (k:Int) (f:HF):ay->Option Fl:=fun Γ=>(f Γ).bind fun p=>match p.2[i]? with
 |some (some (.own ds))=>(qk ds.length k).map fun j=>.nx (p.2.set i (some (.own (ds.set j p.1))))
 |_=>none
open PySem PySem.Spec PyProof.Rows L2
open PySem.W (Dat kqdOk)
def vL (K:Fg) (J:It) (xs:List V) (jk:List Dat) (ds:List Dat):Prop:=∀(i:Nat) (H:Hp) (Av:dA),ax K H Av xs jk->(ds.length<=i->J.stop i H)/\(∀di,ds[i]?=some di->J.go i H/\∀y H',ff H Av->J.uh i H y H'->aL H H'/\aM K H' Av y di)
theorem Over.s{J:It}{x:V}(o:Over K J x d ds):vL K J [x] [d] ds:=fun i H Av r=>by
 obtain⟨v,e,rv⟩:=r.cS;cases e;obtain⟨h1,h2⟩:=o i H Av rv;refine⟨h1,fun di hd=>?_⟩;obtain⟨g,y⟩:=h2 di hd;refine⟨g,fun z H' _ hz=>?_⟩;obtain⟨e,r'⟩:=y z H' hz;subst e;exact⟨aL.refl _,r'⟩
def HI (K:Fg) (fi:ar->Option (List Dat)):TI:=fun σ H R=>∃Av ρ ds,ff H Av/\dH K H Av σ ρ/\fi ρ=some ds/\∀J xs jk H1,aL H H1->ax K H1 Av xs jk->vL K J xs jk ds->R J H1
abbrev Qs (X:Cx) (tg iter:Expr) (fi:ar->Option (List Dat)):Prop:=PI X tg iter (HI X.K fi)
variable {tg iter:Expr}
theorem mG{t t':TI}(h:PI X tg iter t)(m:∀σ H R,t' σ H R->t σ H R):PI X tg iter t':=fun pins s σ H R I q=>h pins s σ H R I (m σ H R q)
def DM (f:ar->Option Dat):ar->Option (List Dat):=fun ρ=>(f ρ).bind eB
variable {fs:ar->Option (List Dat)} in
def xk (rg:List Dat->Option (List Dat)) (fs:ar->Option (List Dat)):ar->Option (List Dat):=fun ρ=>(fs ρ).bind rg
variable {gt:Dat->Option cH} {fi:ar->Option (List Dat)} {gb:ay->Option Fl}
def pQ (gt:Dat->Option cH) (gb:ay->Option Fl) (fi:ar->Option (List Dat)):ay->Option Fl:=fun Γ=>(fi (bD Γ)).bind fun ds=>forL gt gb ds Γ
variable {H1:Hp}
theorem BM{D:Ends}{jk:List Dat}{J:It}{σ:L2.St}{fl:Fl}(ov:vL K J xs jk ds)(G:GA K ag Av pn aC H1 σ Γ ad)(rx:ax K H1 (aS Av Γ ad) xs jk)(hf:forL gt gb ds Γ=some fl)(q:GL K ag Av pn aC D fl):
  ∃W:Nat->Nat->L2.St->Hp->Prop,(∃m,W 0 m σ H1)/\∀i m σ H,W i m σ H->
   (J.stop i H/\D.nx σ H)\/(J.go i H/\∃N:L2.St->Hp->Prop,(∀bz H',N bz H'->∃m',m'<m/\W (i+1) m' bz H')/\∀x H',J.uh i H x H'->ig K gt x σ H' fun dN H2=>vV K gb {D with nx:=N,ct:=N,bk:=D.nx} dN H2):=by
 have OC:∀{vs:List V} {us:List Dat} {aC:Hid} {H:Hp} {σ:L2.St} {Γ:ay} {ad:Nat->Addr},GA K ag Av pn aC H σ Γ ad->ax K H (aS Av Γ ad) vs us->GA K ag Av pn (vs.zip us++aC) H σ Γ ad:=by
  intro vs us aC H σ Γ ad G r;refine⟨G.same,G.gi,G.len,G.a9,G.own,G.inj,fun p hp=>?_,G.pin,G.obj⟩;rcases mem_append.mp hp with h|h
  ·clear G hp;induction vs generalizing us with
   |nil=>simp at h
   |cons v vs ih=>
    cases r with
    |cons r1 r2=>
     rw[zip_cons_cons]at h;rcases mem_cons.mp h with e|h
     ·subst e;exact r1
     ·exact ih r2 h
  ·exact G.aC p h
 have t7:∀{vs:List V} {us:List Dat} {aC:Hid} {H:Hp} {σ:L2.St} {Γ:ay} {ad:Nat->Addr},GA K ag Av pn (vs.zip us++aC) H σ Γ ad->GA K ag Av pn aC H σ Γ ad:=fun G=>⟨G.same,G.gi,G.len,G.a9,G.own,G.inj,fun p hp=>G.aC p (mem_append_right _ hp),G.pin,G.obj⟩;have back:∀{vs:List V} {us:List Dat} {aC:Hid} {H:Hp} {σ:L2.St} {Γ:ay} {ad:Nat->Addr},vs.length=us.length->GA K ag Av pn (vs.zip us++aC) H σ Γ ad->ax K H (aS Av Γ ad) vs us:=by
  intro vs us aC H σ Γ ad hl G;have hp:∀p∈vs.zip us,aM K H (aS Av Γ ad) p.1 p.2:=fun p hp=>G.aC p (mem_append_left _ hp);clear G;induction vs generalizing us with
  |nil=>cases us with|nil=>exact .nil|cons _ _=>simp at hl
  |cons v vs ih=>
   cases us with
   |nil=>simp at hl
   |cons u us=>
    rw[zip_cons_cons]at hp;exact .cons (hp (v,u) mem_cons_self) (ih (by simpa using hl) fun p h=>hp p (mem_cons_of_mem _ h))
 have Th:=rx.length;refine⟨fun i m σ H=>m=ds.length-i/\i<=ds.length/\∃Γ,jb K ag Av pn (xs.zip jk++aC) H σ Γ/\forL gt gb (ds.drop i) Γ=some fl,⟨_,rfl,zero_le _,Γ,⟨ad,OC G rx⟩,by rw[drop_zero];exact hf⟩,?_⟩;rintro i m σ H ⟨rfl,hi,Γ,⟨ad,G⟩,hf⟩;have rx:=back Th G;cases fH:ds[i]? with
 |none=>
  have hl:ds.length<=i:=List.getElem?_eq_none_iff.mp fH;rw[drop_eq_nil_of_le hl]at hf;cases hf;exact .inl ⟨(ov i H _ rx).1 hl,q σ H ⟨ad,t7 G⟩⟩
 |some di=>
  have bV:=cT fH;rw[drop_cons fH]at hf;obtain⟨as,e1,hf⟩:=bind_some (show(gt di).bind _=some fl from hf);obtain⟨lO,e2,hf⟩:=bind_some hf;obtain⟨go,yl⟩:=(ov i H _ rx).2 di fH;refine .inr ⟨go,fun bz H'=>∃aj,jb K ag Av pn (xs.zip jk++aC) H' bz aj/\forL gt gb (ds.drop (i+1)) aj=some fl,fun bz H' ⟨aj,G',h'⟩=>⟨ds.length-(i+1),by omega,rfl,by omega,aj,G',h'⟩,fun y H' hy=>?_⟩;obtain⟨sH,ry⟩:=yl y H' G.gU hy;refine⟨aS Av Γ ad,di,as,ry,e1,fun ws hw=>⟨ag,Av,pn,xs.zip jk++aC,setG Γ as,lO,⟨ad,GA.gz hw (fun _ z=>z) (G.grow sH)⟩,e2,?_⟩⟩;cases lO with
  |nx aj=>exact fun dN H2 G2=>⟨aj,G2,hf⟩
  |ct aj=>exact fun dN H2 G2=>⟨aj,G2,hf⟩
  |bk aj=>cases hf;exact fun dN H2 ⟨kh,G2⟩=>q dN H2 ⟨kh,t7 G2⟩
  |rt v=>cases hf;exact q
  |rm v aj=>cases hf;exact fun dN v2 H2 kh G2 r2=>q dN v2 H2 kh (t7 G2) r2
def ir (aN:List (Option Nat)) (gt:Dat->Option cH) (ft:ar->Option Bool) (fe:ar->Option Dat) (fi:ar->Option (List Dat)):ar->Option (List Dat):=fun ρ=>(fi ρ).bind fun ds=>if ds.length<sizeLine then cw gt ft fe (de aN ρ) ds else none
variable {fe:ar->Option Dat}
theorem zv{aN:List (Option Nat)}(ht:jA gt aN):∀σ H Q,kP K (ir aN gt ft fe fi) σ H Q->pN aN (HI K fi) (ig K gt) (jL K ft) (tF K fe) σ H Q:=by
 rintro σ H Q ⟨Av,ρ,out,hA,hE,hf,q⟩;obtain⟨ds,e1,hf⟩:=bind_some hf;split at hf
 ·rename_i hz;refine⟨Av,ρ,ds,hA,hE,e1,fun J xs jk H1 s1 r ov=>?_⟩;refine⟨fun i m ys H2=>m=ds.length-i/\i<=ds.length/\aL H1 H2/\∃o1 o2,ax K H2 Av ys o1/\o1.length<=i/\cw gt ft fe (de aN ρ) (ds.drop i)=some o2/\out=o1++o2,
   ⟨_,rfl,zero_le _,aL.refl _,[],out,.nil,le_refl _,by rw[drop_zero];exact hf,rfl⟩,?_⟩
  rintro i m ys H2 ⟨rfl,hi,s2,o1,o2,ro,hl,hc,rfl⟩;refine⟨by have:=ro.length;omega,?_⟩;have rx:=r.same s2;cases fH:ds[i]? with
  |none=>
   have hle:ds.length<=i:=List.getElem?_eq_none_iff.mp fH;rw[drop_eq_nil_of_le hle]at hc;cases hc;refine .inl ⟨(ov i H2 _ rx).1 hle,fun D hD=>q H2 D ys (s1.trans s2) hD (by rw[append_nil];exact ro)⟩
  |some di=>
   have bV:=cT fH;rw[drop_cons fH]at hc;obtain⟨as,a1,hc⟩:=bind_some (show(gt di).bind _=some o2 from hc);obtain⟨k,a2,hc⟩:=bind_some hc;obtain⟨go,yl⟩:=(ov i H2 _ rx).2 di fH;refine .inr ⟨go,fun y H' hy=>?_⟩;obtain⟨sH,ry⟩:=yl y H' (hA.same (s1.trans s2)) hy;refine⟨Av,di,as,ry,a1,fun ws hw=>?_⟩;have cs:∀p∈as,(bY aN σ)[p.1]?=some none:=fun p hp=>by
    unfold bY;rw[getElem?_map,ht di as a1 p hp];rfl
   have A2:=hA.same (s1.trans (s2.trans sH));have E2:dH K H' Av (m6 (bY aN σ) ws) (i9 (de aN ρ) as):=dH.gz hw (by unfold bY de;rw[length_map,length_map]) ((hE.same (s1.trans (s2.trans sH))).aN aN);refine⟨dJ.gz hw cs (dJ.refl _),Av,_,k,A2,E2,a2,fun H3 s3=>?_⟩;cases k with
   |false=>
    rw[if_neg Bool.false_ne_true]at hc ⊢;exact⟨ds.length-(i+1),by omega,rfl,by omega,s2.trans (sH.trans s3),o1,o2,ro.same (sH.trans s3),by omega,hc,rfl⟩
   |true=>
    rw[if_pos rfl]at hc ⊢;obtain⟨dv,a3,hc⟩:=bind_some hc;obtain⟨o3,a4,hc⟩:=aU hc;subst hc;refine⟨Av,_,dv,A2.same s3,E2.same s3,a3,fun v H4 s4 rv=>⟨ds.length-(i+1),by omega,rfl,by omega,s2.trans (sH.trans (s3.trans s4)),o1++[dv],o3,(ro.same (sH.trans (s3.trans s4))).append (.cons rv .nil),?_,a4,?_⟩⟩
    ·rw[length_append,length_singleton];omega
    ·rw[append_assoc];rfl
 ·cases hf
def SD (K:Fg) (f:ay->Option (List Dat×ay)):TE:=fun σ H Q=>∃ag Av pn aC Γ ad d aj,GA K ag Av pn aC H σ Γ ad/\f Γ=some (d,aj)/\∀H1 p xs gF,GA K ag Av pn aC H1 σ aj gF->H1 p=none->ax K H1 (aS Av aj gF) xs d->Q (.ref p) (upd H1 p (.lst xs))
def hL (f:ay->Option (List Dat×ay)):HF:=fun Γ=>(f Γ).map fun p=>(.list p.1,p.2)
def nH:ar->ay:=fun ρ=>ρ.map fun o=>o.map Slot.a9
def q9 (gt:Dat->Option cH) (fe:HF) (tl:ay):List Dat->List Dat->Option (List Dat×List Dat)
 |[],ds=>some ([],ds)
 |x::r,ds=>(gt x).bind fun as=>(fe (setG (some (.own ds)::tl) as)).bind fun p=>match (p.2[0]? : Option (Option Slot))with
  |some (some (.own dZ))=>(q9 gt fe tl r dZ).map fun q=>(p.1::q.1,q.2)
  |_=>none
theorem Gu{es:List Dat}(hi:Γ[i]?=some (some (.own ds))):bD (Γ.set i (some (.own es)))=bD Γ:=by
 unfold bD;apply List.ext_getElem?
 intro j;rw[getElem?_map,getElem?_map];by_cases e:j=i
 ·subst e;rw[getElem?_set_self (cT hi),hi];rfl
 ·rw[getElem?_set_ne (Ne.symm e)]
variable {ρ:ar}
theorem lh{s:Slot}(h:(nH ρ)[j]?=some (some s)):∃d,s=.a9 d/\ρ[j]?=some (some d):=by
 unfold nH at h;rw[getElem?_map]at h;cases e:ρ[j]? with
 |none=>rw[e]at h;cases h
 |some o=>
  rw[e]at h;cases o with
  |none=>cases h
  |some d=>cases h;exact⟨d,rfl,rfl⟩
theorem GI{a:Addr}{KP:L2.St}{Hw:ar}(hA:ff H Av)(ha:Av a)(hx:H a=some (.lst xs))(rx:ax K H Av xs ds)(E:dH K H Av KP Hw)(hl:KP.length=Hw.length):
  GA K (fun b=>if b=a then none else H b) (fun b=>Av b/\b≠a) (some a) [] H (some (.ref a)::KP) (some (.own ds)::nH Hw) (fun _=>a):=by
 have wk:∀b,aS (fun b=>Av b/\b≠a) (some (.own ds)::nH Hw) (fun _=>a) b->Av b:=by
  rintro b (z|⟨i,fs,_,_,rfl⟩)
  ·exact z.1
  ·exact ha
 refine⟨fun b o h=>?_,fun b z=>?_,?_,fun i d h=>?_,fun i fs h=>?_,fun i j fs gs h1 h2 m1 m2 _=>?_,fun p hp=>absurd hp (by simp),(fun a' fs e _=>by cases e;rfl),fun i O fs h=>?_⟩
 ·split at h
  ·cases h
  ·exact h
 ·obtain⟨o,e⟩:=hA b z.1;exact⟨o,by rw[if_neg z.2];exact e⟩
 ·unfold nH;rw[length_cons,length_cons,length_map,hl]
 ·cases i with
  |zero=>cases h
  |succ i=>
   rw[getElem?_cons_succ]at h;obtain⟨d',e,h⟩:=lh h;cases e;obtain⟨v,hv,rv⟩:=E i d h;exact⟨v,by rw[getElem?_cons_succ];exact hv,rv.weak wk⟩
 ·cases i with
  |zero=>cases h;exact⟨xs,rfl,hx,rx.weak wk,by rw[if_pos rfl]⟩
  |succ i=>
   rw[getElem?_cons_succ]at h;obtain⟨_,e,_⟩:=lh h;cases e
 ·cases i with
  |succ i=>
   rw[getElem?_cons_succ]at h1;obtain⟨_,e,_⟩:=lh h1;rw[e]at m1;cases m1
  |zero=>
   cases j with
   |succ j=>
    rw[getElem?_cons_succ]at h2;obtain⟨_,e,_⟩:=lh h2;rw[e]at m2;cases m2
   |zero=>rfl
 ·cases i with
  |zero=>cases h
  |succ i=>
   rw[getElem?_cons_succ]at h;obtain⟨_,e,_⟩:=lh h;cases e
theorem GA.Jm{R7:dA}{ws:List (Nat×V)}{as:cH}{σ:L2.St}(h:ja K H R7 ws as)(hw:∀a,aS Av Γ ad a->R7 a)(G:GA K ag Av pn aC H σ Γ ad):
  GA K ag Av pn aC H (m6 σ ws) (setG Γ as) ad:=by
 induction h generalizing σ Γ with
 |nil=>exact G
 | @cons i v d vs ds h r ih=>exact ih (σ:=σ.set i (some v)) (Γ:=Γ.set i (some (.a9 d))) (fun a z=>hw a (aS.iM a z)) (G.set i (h.weak hw))
variable {c:Expr}
theorem Ha{tn fv:List Str}{js:List Nat}(nW:closureFor scope X.env=pure (fv.map fun x=>(x,(X.env.cells.lookup x).getD 0)))(hf:∀y∈scope.names,y.2=.free->y.1∈fv)(hc:∀y∈scope.names,y.2≠.cell)(hk:scope.kind=.function)(hn:∀y∈scope.names,y.2=.local->scope.names.lookup y.1=some .local)(nd:(tn++fv).Nodup)(hl:fv.length=js.length)(hs:∀x∈fv,∃c,X.env.cells.lookup x=some c)(hj:∀p∈fv.zip js,X.N[p.2]?=some p.1/\mU X.env.scope p.1/\((relabel scope X.env).names.lookup p.1=some .cell\/(relabel scope X.env).names.lookup p.1=some .free)/\X.env.scope.names.lookup p.1≠some .local):
  o8 X scope (fv.map fun x=>(x,(X.env.cells.lookup x).getD 0)) (fv++tn) (js.map some++(tn.map fun _=>none)):=by
 have B:=eZ (X:=X) (tn:=tn) (js:=js) nW hf hc hk hn nd hl hs hj;refine⟨B.GZ,B.cells,B.kind,B.names,?_,by rw[length_append,length_append,length_map,length_map,hl],B.sub,B.has,fun i x j e1 e2=>?_⟩
 ·exact(List.perm_append_comm (l₁:=tn) (l₂:=fv)).nodup_iff.mp nd
 ·by_cases hi:i<fv.length
  ·rw[getElem?_append_left hi]at e1;rw[getElem?_append_left (by rw[length_map,<- hl];exact hi),getElem?_map]at e2;cases ej:js[i]? with
   |none=>rw[ej]at e2;cases e2
   |some j'=>
    rw[ej]at e2;cases e2;refine hj (x,j) (mem_of_getElem? (i:=i) ?_);rw[List.getElem?_zip_eq_some];exact⟨e1,ej⟩
  ·rw[getElem?_append_right (by rw[length_map,<- hl];omega),getElem?_map]at e2;cases ej:tn[i-(js.map some).length]? with
   |none=>rw[ej]at e2;cases e2
   |some j'=>rw[ej]at e2;cases e2
set_option maxHeartbeats 4000000
open PySem PySem.Spec PyProof.Rows L2
open PySem.W (Dat kqdOk)
def kj:Bool->Heap->Addr->Array Value->Prop
 |true,h,a,aq=>h.IsList a aq
 |false,h,a,aq=>h.IsTuple a aq
def i8:Bool->Heap->Addr->Addr->Nat->Prop
 |true,h,it,a,i=>h.IsListIter it a i
 |false,h,it,a,i=>h.IsTupleIter it a i
variable {k:Bool} {h h':Heap} {a:Addr} {aq:Array Value}
theorem kj.on(x:kj k h a aq)(e:∀o,h.get? a=some o->h'.get? a=some o):kj k h' a aq:=by
 cases k<;>exact let ⟨o,ho,r⟩:=x;⟨o,e o ho,r⟩
variable {it:Addr}
theorem i8.on(x:i8 k h it a i)(e:∀o,h.get? it=some o->h'.get? it=some o):i8 k h' it a i:=by
 cases k<;>exact let ⟨o,ho,r⟩:=x;⟨o,e o ho,r⟩
theorem i8.obj(x:i8 k h it a i):∃o,h.get? it=some o/\∀v,o.data≠.cell v:=by
 cases k<;>exact let ⟨o,ho,_,hd⟩:=x;⟨o,ho,fun v z=>by rw[hd]at z;cases z⟩
theorem kj.obj(x:kj k h a aq):∃o,h.get? a=some o:=by
 cases k<;>exact let ⟨o,ho,_⟩:=x;⟨o,ho⟩
variable {E Q:Value->Shared->Prop} {A:Around} {prog:Program}
variable {s:Shared} in
theorem BR{ii la:Addr}{x:Value}(hit:i8 k s.heap ii la i)(hq:kj k s.heap la aq)(hx:aq[i]?=some x)(hQ:∀h',i8 k h' ii la (i+1)->SameBut ii s.heap h'->Q x {s with heap:=h'}):wpAny (model prog w) A (Builtin.SmallTypes.nextOf (.ref ii)) Q E s:=by
 cases k with
 |true=>exact wpAny_nextOf_list_item hit hq hx hQ
 |false=>
  have qS:s.heap.IsTupleIter ii la i:=hit;obtain⟨oi,pi,ci,di⟩:=id qS;obtain⟨oa,pa,_,na,da⟩:=(show s.heap.IsTuple la aq from hq);unfold Builtin.SmallTypes.nextOf;refine wpAny_bind (wpAny_callSpecial?_slot (name:=Str.ofString "__next__") qS.typeIs F.slot_tuple_iterator_next (wpAny_call_entry F.slot_tuple_iterator_next qS.typeIs F.entry_tuple_iterator_next ?_ (F.args_tuple_iterator_next_1 _)));show wpAny _ _ (field (.ref ii) 0 >>= _) _ _ s;refine wpAny_bind (wpAny_field pi di (x:=.ref la) rfl ?_);show wpAny _ _ (if(Value.ref la==Value.none)=true then _ else _) _ _ s;rw[if_neg (show ¬((Value.ref la==Value.none)=true)from Bool.false_ne_true)];show wpAny _ _ (field (.ref ii) 1 >>= _) _ _ s;refine wpAny_bind (wpAny_field pi di (x:=.int i 0) rfl ?_);show wpAny _ _ (seqItems? (.ref la) >>= _) _ _ s;refine wpAny_bind (wpAny_seqItems pa da ?_);simp only[hx,toNat_natCast];exact wpAny_bind (wpAny_setField pi di (by simp) (wpAny_pure ⟨x,rfl,wpAny_pure (hQ _ ⟨_,Heap.get?_update_self _ pi (Obj.isFreed_of_fields (Obj.data_mapFields di _)),(Obj.cls_mapFields ..).trans ci,by rw[Obj.data_mapFields di];simp[rawInt]⟩ (SameBut.update ..))⟩))
variable {s:Shared} in
theorem uZ{ii la:Addr}(hh:A.handled=none)(hit:i8 k s.heap ii la i)(hq:kj k s.heap la aq)(hx:aq[i]?=none)(hE:∀h' e,Heap.ExtBut ii s.heap h'->(∃o,h'.get? e=some o/\o.cls=.type "StopIteration")->E (.ref e) {s with heap:=h'}):wpAny (model prog w) A (Builtin.SmallTypes.nextOf (.ref ii)) Q E s:=by
 cases k with
 |true=>exact wpAny_nextOf_list_end hh hit hq hx hE
 |false=>
  have qS:s.heap.IsTupleIter ii la i:=hit;obtain⟨oi,pi,ci,di⟩:=id qS;obtain⟨oa,pa,_,na,da⟩:=(show s.heap.IsTuple la aq from hq);unfold Builtin.SmallTypes.nextOf;refine wpAny_bind (wpAny_callSpecial?_slot (name:=Str.ofString "__next__") qS.typeIs F.slot_tuple_iterator_next (wpAny_call_entry F.slot_tuple_iterator_next qS.typeIs F.entry_tuple_iterator_next ?_ (F.args_tuple_iterator_next_1 _)));show wpAny _ _ (field (.ref ii) 0 >>= _) _ _ s;refine wpAny_bind (wpAny_field pi di (x:=.ref la) rfl ?_);show wpAny _ _ (if(Value.ref la==Value.none)=true then _ else _) _ _ s;rw[if_neg (show ¬((Value.ref la==Value.none)=true)from Bool.false_ne_true)];show wpAny _ _ (field (.ref ii) 1 >>= _) _ _ s;refine wpAny_bind (wpAny_field pi di (x:=.int i 0) rfl ?_);show wpAny _ _ (seqItems? (.ref la) >>= _) _ _ s;refine wpAny_bind (wpAny_seqItems pa da ?_);simp only[hx,toNat_natCast];refine wpAny_bind (wpAny_rule (wpAny_bind (wpAny_setField pi di (by simp) (?_:wpAny _ _ (newExc (.type "StopIteration") [] >>= _) _ _ _))));refine wpAny_bind (by
   simp only[newExc,newTuple];exact wpAny_bind (wpAny_newObj_type (wpAny_bind (m:=firstArgMember _ _) (wpAny_of_eq (a:=Value.none) (by first|rfl|(simp only[firstArgMember];rfl)) (wpAny_newObj_type (by
    simp only[raiseNew];exact wpAny_bind (wpAny_handled (by
     (first|rw[show A.in1.handled=none from hh]|rw[hh])
     exact wpAny_bind (wpAny_pure (wpAny_throw (hE _ _ (((SameBut.update ..).extBut.push _).push _) ⟨_,get?_push_size _ rfl,rfl⟩)))))) (by size_fits)))) (by size_fits)))
abbrev IX (h:Heap) (z TI TO i1 i2:Addr) (f0:Value) (x y:Value):Prop:=IsZip h z TI TO f0/\IsPair h TI (.ref i1) (.ref i2)/\IsPair h TO x y
variable {k1 k2:Bool} {z i1 i2 l1 l2:Addr} {n1 n2:Nat} {xs ys:Array Value}
variable {s:Shared} in
theorem Cs{TI TO:Addr}{x y a b:Value}(D:ZipApart z TI TO i1 i2 l1 l2)(Z:IX s.heap z TI TO i1 i2 .none a b)(w1:i8 k1 s.heap i1 l1 n1)(w2:i8 k2 s.heap i2 l2 n2)(q1:kj k1 s.heap l1 xs)(q2:kj k2 s.heap l2 ys)(hx:xs[n1]?=some x)(hy:ys[n2]?=some y)(hQ:∀h',IsZip h' z TI TO (rawInt s.heap.objs.size)->IsPair h' TO x y->i8 k1 h' i1 l1 (n1+1)->i8 k2 h' i2 l2 (n2+1)->IsPair h' s.heap.objs.size x y->
   (∀c o,c≠z->c≠TO->c≠i1->c≠i2->s.heap.get? c=some o->h'.get? c=some o)->Q (.ref s.heap.objs.size) {s with heap:=h'}):
  wpAny (model prog w) A (Builtin.«zip.__next__» ⟨[.ref z],[]⟩) (fun fin s'=>∃v,fin=.done (.ret v)/\Q v s') E s:=by
 obtain⟨Zz,ZI,ZO⟩:=Z;refine(?_:wpAny _ _ (field (.ref z) 2 >>= _) _ _ _);refine wpAny_bind (wpAny_field Zz rfl (x:=.bool false) rfl (?_:wpAny _ _ (field (.ref z) 3 >>= _) _ _ _));refine wpAny_bind (wpAny_field Zz rfl (x:=.ref TI) rfl (wpAny_bind (wpAny_seqItems ZI rfl ?_)));refine(?_:wpAny _ _ (Builtin.SmallTypes.ownedTupleIsFree (.ref z) >>= _) _ _ _);refine wpAny_bind (by
  unfold Builtin.SmallTypes.ownedTupleIsFree;exact wpAny_bind (wpAny_field Zz rfl (x:=.none) rfl (wpAny_pure (by
   simp only[if_true];refine wpAny_bind (wpAny_rule (wpAny_bind (wpAny_field Zz rfl (x:=.ref TO) rfl (wpAny_bind (wpAny_setField_rec Zz (by simp) fun g1 z1 m1=>?_)))));have Hy:IsZip g1 z TI TO .ellipsis:=z1;refine wpAny_bind ?_;simp only[List.forIn_cons,List.forIn_nil,List.zipIdx_cons,List.zipIdx_nil];refine wpAny_bind (wpAny_bind (wpAny_onRaise (?_:wpAny _ _ (Builtin.SmallTypes.nextOf (.ref i1) >>= _) _ _ _)));refine wpAny_bind (BR (w1.on fun o e=>m1.extBut _ _ D.i1z e) (q1.on fun o e=>m1.extBut _ _ D.l1z e) hx fun g2 v2 m2=>wpAny_pure ?_);have o2:IsPair g2 TO a b:=m2.extBut _ _ D.TOi1 (m1.extBut _ _ D.TOz ZO);refine wpAny_bind (wpAny_seqItems o2 rfl (wpAny_bind (wpAny_updateSeq_pair o2 fun g3 p3 m3=>wpAny_bind (wpAny_letGo (wpAny_pure ?_)))));have o3:IsPair g3 TO x b:=p3;refine wpAny_bind (wpAny_bind (wpAny_onRaise (?_:wpAny _ _ (Builtin.SmallTypes.nextOf (.ref i2) >>= _) _ _ _)));refine wpAny_bind (BR (w2.on fun o e=>m3.extBut _ _ D.TOi2.symm (m2.extBut _ _ D.i12.symm (m1.extBut _ _ D.i2z e))) (q2.on fun o e=>m3.extBut _ _ D.l2TO (m2.extBut _ _ D.l2i1 (m1.extBut _ _ D.l2z e))) hy fun g4 v4 m4=>wpAny_pure ?_);have o4:IsPair g4 TO x b:=m4.extBut _ _ D.TOi2 o3;refine wpAny_bind (wpAny_seqItems o4 rfl (wpAny_bind (wpAny_updateSeq_pair o4 fun g5 p5 m5=>wpAny_bind (wpAny_letGo (wpAny_pure (wpAny_pure ?_))))));have o5:IsPair g5 TO x y:=p5;refine wpAny_bind (wpAny_seqItems o5 rfl (wpAny_bind (wpAny_newTuple ?_)));have sz:g5.objs.size=s.heap.objs.size:=by rw[m5.1,m4.1,m3.1,m2.1,m1.1]
   have z5:IsZip g5 z TI TO .ellipsis:=m5.extBut _ _ D.TOz.symm (m4.extBut _ _ D.i2z.symm (m3.extBut _ _ D.TOz.symm (m2.extBut _ _ D.i1z.symm Hy)));have k5:∀c o,c≠z->c≠TO->c≠i1->c≠i2->s.heap.get? c=some o->g5.get? c=some o:=fun c o a1 a2 a3 a4 e=>m5.extBut _ _ a2 (m4.extBut _ _ a4 (m3.extBut _ _ a2 (m2.extBut _ _ a3 (m1.extBut _ _ a1 e))));have v5:i8 k1 g5 i1 l1 (n1+1):=v2.on fun o e=>m5.extBut _ _ D.TOi1.symm (m4.extBut _ _ D.i12 (m3.extBut _ _ D.TOi1.symm e));have v6:i8 k2 g5 i2 l2 (n2+1):=v4.on fun o e=>m5.extBut _ _ D.TOi2.symm e;have zl:z<g5.objs.size:=lt_size z5;refine(?_:wpAny _ _ (Builtin.SmallTypes.ownedTupleHandOut (.ref z) (.ref g5.objs.size) >>= _) _ _ _);refine wpAny_bind (by
    unfold Builtin.SmallTypes.ownedTupleHandOut;have z6:IsZip (g5.push {cls:=.type "tuple",data:=.seq #[x,y]}) z TI TO .ellipsis:=get?_push_of_some _ z5;refine wpAny_bind (wpAny_setField_rec z6 (by simp) fun g7 z7 m7=>?_);have Sl:IsZip g7 z TI TO (rawInt g5.objs.size):=z7;refine wpAny_setField_rec Sl (by simp) fun g8 z8 m8=>?_;have OW:IsZip g8 z TI TO (rawInt g5.objs.size):=z8;have up:∀c o,c≠z->g5.get? c=some o->g8.get? c=some o:=fun c o c1 e=>m8.extBut _ _ c1 (m7.extBut _ _ c1 (get?_push_of_some _ e));have t8:IsPair g8 g5.objs.size x y:=m8.extBut _ _ (Nat.ne_of_gt zl) (m7.extBut _ _ (Nat.ne_of_gt zl) (get?_push_size _ rfl));rw[sz]at OW t8;refine wpAny_pure ⟨_,rfl,(?_:Q (.ref g5.objs.size) _)⟩;rw[sz];exact hQ g8 OW (up _ _ D.TOz o5) (v5.on fun o e=>up _ o D.i1z e) (v6.on fun o e=>up _ o D.i2z e) t8 fun c o c1 c2 c3 c4 e=>up c o c1 (k5 c o c1 c2 c3 c4 e)))))
  )
variable {s:Shared} in
theorem Cr{TI TO:Addr}{a b:Value}{Q:Fin->Shared->Prop}(hh:A.handled=none)(D:ZipApart z TI TO i1 i2 l1 l2)(Z:IX s.heap z TI TO i1 i2 .none a b)(w1:i8 k1 s.heap i1 l1 n1)(w2:i8 k2 s.heap i2 l2 n2)(q1:kj k1 s.heap l1 xs)(q2:kj k2 s.heap l2 ys)(GB:xs[n1]?=none\/ys[n2]?=none)(hE:∀h' e,(∀c o,c≠z->c≠TO->c≠i1->c≠i2->s.heap.get? c=some o->h'.get? c=some o)->(∃o,h'.get? e=some o/\o.cls=.type "StopIteration")->E (.ref e) {s with heap:=h'}):
  wpAny (model prog w) A (Builtin.«zip.__next__» ⟨[.ref z],[]⟩) Q E s:=by
 obtain⟨Zz,ZI,ZO⟩:=Z;refine(?_:wpAny _ _ (field (.ref z) 2 >>= _) _ _ _);refine wpAny_bind (wpAny_field Zz rfl (x:=.bool false) rfl (?_:wpAny _ _ (field (.ref z) 3 >>= _) _ _ _));refine wpAny_bind (wpAny_field Zz rfl (x:=.ref TI) rfl (wpAny_bind (wpAny_seqItems ZI rfl ?_)));refine(?_:wpAny _ _ (Builtin.SmallTypes.ownedTupleIsFree (.ref z) >>= _) _ _ _);refine wpAny_bind (by
  unfold Builtin.SmallTypes.ownedTupleIsFree;exact wpAny_bind (wpAny_field Zz rfl (x:=.none) rfl (wpAny_pure (by
   simp only[if_true];refine wpAny_bind (wpAny_rule (wpAny_bind (wpAny_field Zz rfl (x:=.ref TO) rfl (wpAny_bind (wpAny_setField_rec Zz (by simp) fun g1 z1 m1=>?_)))));have Hy:IsZip g1 z TI TO .ellipsis:=z1;refine wpAny_bind ?_;simp only[List.forIn_cons,List.forIn_nil,List.zipIdx_cons,List.zipIdx_nil];refine wpAny_bind (wpAny_bind (wpAny_onRaise (?_:wpAny _ _ (Builtin.SmallTypes.nextOf (.ref i1) >>= _) _ _ _)));cases hx:xs[n1]? with
   |none=>
    refine wpAny_bind (uZ hh (w1.on fun o e=>m1.extBut _ _ D.i1z e) (q1.on fun o e=>m1.extBut _ _ D.l1z e) hx fun g2 e m2 he=>?_);obtain⟨oe,pe,ce⟩:=he;have z2:IsZip g2 z TI TO .ellipsis:=m2 _ _ D.i1z.symm Hy;have ez:e≠z:=fun x=>by subst x;rw[z2]at pe;cases pe;simp at ce
    exact wpAny_setField_rec z2 (by simp) fun g3 _ m3=>hE g3 e (fun c o c1 _ c3 _ x=>m3.extBut _ _ c1 (m2 _ _ c3 (m1.extBut _ _ c1 x))) ⟨oe,m3.extBut _ _ ez pe,ce⟩
   |some x=>
    have hy:ys[n2]?=none:=GB.elim (fun h=>by rw[hx]at h;cases h) id;refine wpAny_bind (BR (w1.on fun o e=>m1.extBut _ _ D.i1z e) (q1.on fun o e=>m1.extBut _ _ D.l1z e) hx fun g2 v2 m2=>wpAny_pure ?_);have o2:IsPair g2 TO a b:=m2.extBut _ _ D.TOi1 (m1.extBut _ _ D.TOz ZO);refine wpAny_bind (wpAny_seqItems o2 rfl (wpAny_bind (wpAny_updateSeq_pair o2 fun g3 p3 m3=>wpAny_bind (wpAny_letGo (wpAny_pure ?_)))));refine wpAny_bind (wpAny_bind (wpAny_onRaise (?_:wpAny _ _ (Builtin.SmallTypes.nextOf (.ref i2) >>= _) _ _ _)));refine wpAny_bind (uZ hh (w2.on fun o e=>m3.extBut _ _ D.TOi2.symm (m2.extBut _ _ D.i12.symm (m1.extBut _ _ D.i2z e))) (q2.on fun o e=>m3.extBut _ _ D.l2TO (m2.extBut _ _ D.l2i1 (m1.extBut _ _ D.l2z e))) hy fun g4 e m4 he=>?_);obtain⟨oe,pe,ce⟩:=he;have z4:IsZip g4 z TI TO .ellipsis:=m4 _ _ D.i2z.symm (m3.extBut _ _ D.TOz.symm (m2.extBut _ _ D.i1z.symm Hy));have ez:e≠z:=fun x=>by subst x;rw[z4]at pe;cases pe;simp at ce
    exact wpAny_setField_rec z4 (by simp) fun g5 _ m5=>hE g5 e (fun c o c1 c2 c3 c4 x=>m5.extBut _ _ c1 (m4 _ _ c4 (m3.extBut _ _ c2 (m2.extBut _ _ c3 (m1.extBut _ _ c1 x))))) ⟨oe,m5.extBut _ _ ez pe,ce⟩))))
def jE (k:Bool) (l:Addr):Obj:={cls:=.type (if k then "list_iterator" else "tuple_iterator"),data:=.fields #[.ref l,.int 0 0]}
def rj (k1 k2:Bool) (h:Heap) (l1 l2:Addr):Heap:=(h.push (jE k1 l1)).push (jE k2 l2)
def zg (k1 k2:Bool) (h:Heap) (l1 l2:Addr):Heap:=((rj k1 k2 h l1 l2).push {cls:=.type "tuple",data:=.seq #[.ref h.objs.size,.ref (h.push (jE k1 l1)).objs.size]}).push {cls:=.type "tuple",data:=.seq #[.none,.none]}
def qg (k1 k2:Bool) (h:Heap) (l1 l2:Addr):Heap:=(zg k1 k2 h l1 l2).push {cls:=.type "zip",data:=.fields #[.none,.bool false,.bool false,.ref (rj k1 k2 h l1 l2).objs.size,.ref ((rj k1 k2 h l1 l2).push {cls:=.type "tuple",data:=.seq #[.ref h.objs.size,.ref (h.push (jE k1 l1)).objs.size]}).objs.size]}
variable {s:Shared} in
theorem F6(k1 k2:Bool)(l1 l2:Addr)(xs ys:Array Value):
  Meets (Builtin.«zip.__new__» ⟨[.type "zip",.ref l1,.ref l2],[]⟩) (fun _ R s=>kj k1 s.heap l1 xs/\kj k2 s.heap l2 ys/\R (.ok (.ret (.ref (zg k1 k2 s.heap l1 l2).objs.size))) {s with heap:=qg k1 k2 s.heap l1 l2}):=
 .of_wp fun prog w A R s h=>by
  obtain⟨hp,g,d,tk,os⟩:=s;obtain⟨c1,c2,h⟩:=h;have RM:=sub_zip;cases k1<;>cases k2
  ·have e1:IsTuple (Shared.heap ⟨hp,g,d,tk,os⟩) l1 xs:=c1;have e2:IsTuple (Shared.heap ⟨hp.push {cls:=.type "tuple_iterator",data:=.fields #[.ref l1,.int 0 0]},g,d,tk,os⟩) l2 ys:=IsTuple.push c2 _;wp_walk using wpAny_pyIter_tuple e1,wpAny_pyIter_tuple e2
   exact⟨_,rfl,h⟩
  ·have e1:IsTuple (Shared.heap ⟨hp,g,d,tk,os⟩) l1 xs:=c1;have e2:IsList (Shared.heap ⟨hp.push {cls:=.type "tuple_iterator",data:=.fields #[.ref l1,.int 0 0]},g,d,tk,os⟩) l2 ys:=IsList.push c2 _;wp_walk using wpAny_pyIter_tuple e1,wpAny_pyIter_list e2
   exact⟨_,rfl,h⟩
  ·have e1:IsList (Shared.heap ⟨hp,g,d,tk,os⟩) l1 xs:=c1;have e2:IsTuple (Shared.heap ⟨hp.push {cls:=.type "list_iterator",data:=.fields #[.ref l1,.int 0 0]},g,d,tk,os⟩) l2 ys:=IsTuple.push c2 _;wp_walk using wpAny_pyIter_list e1,wpAny_pyIter_tuple e2
   exact⟨_,rfl,h⟩
  ·have e1:IsList (Shared.heap ⟨hp,g,d,tk,os⟩) l1 xs:=c1;have e2:IsList (Shared.heap ⟨hp.push {cls:=.type "list_iterator",data:=.fields #[.ref l1,.int 0 0]},g,d,tk,os⟩) l2 ys:=IsList.push c2 _;wp_walk using wpAny_pyIter_list e1,wpAny_pyIter_list e2
   exact⟨_,rfl,h⟩
variable {s:Shared} in
theorem EM(c1:kj k1 s.heap l1 xs)(c2:kj k2 s.heap l2 ys)(h:∀h' z TI TO i1 i2,ZipApart z TI TO i1 i2 l1 l2->IX h' z TI TO i1 i2 .none .none .none->i8 k1 h' i1 l1 0->i8 k2 h' i2 l2 0->(∀c o,s.heap.get? c=some o->h'.get? c=some o)->(∀b∈[z,TI,TO,i1,i2],s.heap.objs.size<=b)->Q (.ref z) {s with heap:=h'}):
  wpAny (model prog w) A (call (.type "zip") [.ref l1,.ref l2]) Q E s:=by
 obtain⟨o1,p1⟩:=c1.obj;obtain⟨o2,p2⟩:=c2.obj;refine callType_new F.called_zip (by decide) (F.typeCall_zip_2 _ _) (F.newCall_zip_2 _ _) (fun obj=>F.args_object_init_3 obj _ _) F.entry_zip_new (F6 k1 k2 l1 l2 xs ys) ⟨c1,c2,?_⟩;generalize hn:s.heap.objs.size=n;have SQ:l1<n:=hn▸lt_size p1;have Pq:l2<n:=hn▸lt_size p2;have y1:(s.heap.push (jE k1 l1)).objs.size=n+1:=by rw[size_push,hn]
 have y2:(rj k1 k2 s.heap l1 l2).objs.size=n+2:=by unfold rj;rw[size_push,y1]
 have y3:((rj k1 k2 s.heap l1 l2).push {cls:=.type "tuple",data:=.seq #[.ref s.heap.objs.size,.ref (s.heap.push (jE k1 l1)).objs.size]}).objs.size=n+3:=by rw[size_push,y2]
 have y4:(zg k1 k2 s.heap l1 l2).objs.size=n+4:=by unfold zg;rw[size_push,y3]
 have KW:∀c o,(zg k1 k2 s.heap l1 l2).get? c=some o->(qg k1 k2 s.heap l1 l2).get? c=some o:=fun c o e=>get?_push_of_some _ e;have KY:∀c o,(rj k1 k2 s.heap l1 l2).get? c=some o->(qg k1 k2 s.heap l1 l2).get? c=some o:=fun c o e=>KW c o (get?_push_of_some _ (get?_push_of_some _ e));have f5:(qg k1 k2 s.heap l1 l2).get? (zg k1 k2 s.heap l1 l2).objs.size=some _:=get?_push_size _ rfl;have f4:(qg k1 k2 s.heap l1 l2).get? ((rj k1 k2 s.heap l1 l2).push {cls:=.type "tuple",data:=.seq #[.ref s.heap.objs.size,.ref (s.heap.push (jE k1 l1)).objs.size]}).objs.size=some _:=KW _ _ (get?_push_size _ rfl);have f3:(qg k1 k2 s.heap l1 l2).get? (rj k1 k2 s.heap l1 l2).objs.size=some _:=KW _ _ (get?_push_of_some _ (get?_push_size _ rfl));have f2:(qg k1 k2 s.heap l1 l2).get? (s.heap.push (jE k1 l1)).objs.size=some (jE k2 l2):=KY _ _ (get?_push_size _ (by cases k2<;>rfl));have f1:(qg k1 k2 s.heap l1 l2).get? s.heap.objs.size=some (jE k1 l1):=KY _ _ (get?_push_of_some _ (get?_push_size _ (by cases k1<;>rfl)));rw[y2,y3,y4]at f5;rw[y3]at f4;rw[y2,y1,hn]at f3;rw[y1]at f2;rw[hn]at f1;have r1:i8 k1 (qg k1 k2 s.heap l1 l2) n l1 0:=by cases k1<;>exact⟨_,f1,rfl,rfl⟩
 have r2:i8 k2 (qg k1 k2 s.heap l1 l2) (n+1) l2 0:=by cases k2<;>exact⟨_,f2,rfl,rfl⟩
 refine(?_:_/\_);rw[y4];refine⟨⟨_,f5,rfl⟩,h _ (n+4) (n+2) (n+3) n (n+1) (zipApart_new SQ Pq) ⟨f5,f3,f4⟩ r1 r2 (fun c o e=>KY _ _ (get?_push_of_some _ (get?_push_of_some _ e))) fun b hb=>?_⟩;rw[hn];simp only[mem_cons,not_mem_nil,or_false]at hb;rcases hb with e|e|e|e|e<;>(rw[e];first|exact le_refl _|exact Nat.le_add_right _ _)
open PySem PySem.Spec PyProof.Rows L2
open PySem.W (Dat kqdOk)
variable {pins:List (Addr×Obj)}
variable {s:Shared} in
theorem pM{t':Nat}{ch:List Addr}(I:Inv X pins σ H s)(k:∀b o,b∉ch->s.heap.get? b=some o->h'.get? b=some o)(hf:∀b∈ch,nO X pins H b):Inv X pins σ H {s with heap:=h',toks:=t'}:=by
 have out:∀b u,H b=some u->b∉ch:=fun b u e z=>by rw[(hf b z).1]at e;cases e
 refine I.step (g':=s.gens) (d':=s.drawn) (ch:=ch) (fun b hb=>?_) (fun b o _ _ hc e _=>k b o hc e) (fun b o _ _ hc e _=>⟨o.slots,k b o hc e⟩) (fun _ _ _ _ n=>n)
  (fun b o hc e=>⟨o,k b o hc e⟩) (fun _ _ e=>e) (fun _ _ _ e=>e) (fun b ps e=>⟨#[],by rw[e];simp⟩) (fun m hm=>?_) (fun b u e=>?_) I.bare
 ·obtain⟨_,f1,_,f3,f4,f5⟩:=hf b hb;exact⟨f3,f1,f4,f5⟩
 ·obtain⟨o,es,ep,ho,r⟩:=hm;exact⟨o,es,ep,k _ o (fun z=>(hf _ z).2.1 rfl) ho,r⟩
 ·refine(I.bx b u e).lZ (fun c v hc q=>k c v (hc.elim (fun z=>by rw[z];exact out b u e) fun z=>out c _ z) q) (fun _ q=>q) fun _ _ q=>q
def o6 (K:Fg):Bool->Hp->Addr->List V->Prop
 |true,H,a,xs=>eC K H a xs
 |false,H,a,xs=>i7 K H a xs
variable {xs:List V}
theorem tf{σ:L2.St}{s:Shared}(I:Inv X pins σ H s)(h:o6 X.K k H a xs):∃aq:List Value,Vals xs aq/\kj k s.heap a aq.toArray:=by
 cases k with
 |true=>obtain⟨aq,r,p,_⟩:=I.list h;exact⟨aq,r,p.isList⟩
 |false=>obtain⟨aq,r,p,_⟩:=I.tuple h;exact⟨aq,r,show s.heap.IsTuple a aq.toArray from p⟩
theorem w5{σ:L2.St}{s:Shared}{ys:List V}(I:Inv X pins σ H s)(h:o6 X.K k H a xs)(h':o6 X.K k H a ys):xs=ys:=by
 cases k with
 |true=>exact I.qP h h'
 |false=>exact I.uk h h'
def QK (K:Fg) (k1 k2:Bool) (a1 a2:Addr):It:=
 ⟨fun i H=>∃xs ys x y,o6 K k1 H a1 xs/\o6 K k2 H a2 ys/\xs[i]?=some x/\ys[i]?=some y,
  fun i H v H'=>∃T x y,v=.ref T/\H T=none/\H'=upd H T (.tup [x,y])/\∀xs ys,o6 K k1 H a1 xs->o6 K k2 H a2 ys->xs[i]?=some x/\ys[i]?=some y,
  fun i H=>∃xs ys,o6 K k1 H a1 xs/\o6 K k2 H a2 ys/\(xs.length<=i\/ys.length<=i)⟩
variable {kN:List Expr} {kt:Nat} {a1:Addr}
theorem F8{pt:Pos}{a2 TI TO:Addr}(D:ZipApart z TI TO i1 i2 a1 a2):
  Turn P w K (.Tuple kN kt pt) (QK K k1 k2 a1 a2) [z,TI,TO,i1,i2] z (fun i h=>(∃a b,IX h z TI TO i1 i2 .none a b)/\i8 k1 h i1 a1 i/\i8 k2 h i2 a2 i) where
 mem:=mem_cons_self
 obj:=fun i h st b hb=>by
  obtain⟨⟨u,v,Z1,Z2,Z3⟩,w1,w2⟩:=st;simp only[mem_cons,not_mem_nil,or_false]at hb;rcases hb with e|e|e|e|e
  ·rw[e];exact⟨_,Z1,fun v z=>nomatch z⟩
  ·rw[e];exact⟨_,Z2,fun v z=>nomatch z⟩
  ·rw[e];exact⟨_,Z3,fun v z=>nomatch z⟩
  ·rw[e];exact w1.obj
  ·rw[e];exact w2.obj
 keep:=fun i h h' st k=>by
  obtain⟨⟨u,v,Z1,Z2,Z3⟩,w1,w2⟩:=st;exact⟨⟨u,v,k z (by simp) _ Z1,k TI (by simp) _ Z2,k TO (by simp) _ Z3⟩,w1.on (k i1 (by simp)),w2.on (k i2 (by simp))⟩
 item:=by
  intro X hP hw hK hc i pins s σ H E I hf st hg;subst hP hw hK;obtain⟨⟨u,v,Z⟩,w1,w2⟩:=st;obtain⟨xs,ys,x,y,c1,c2,hx,hy⟩:=hg;obtain⟨Bw,r1,p1⟩:=tf I c1;obtain⟨ic,r2,p2⟩:=tf I c2;obtain⟨ux,Mt,rx⟩:=r1.get hx;obtain⟨uy,T2,ry⟩:=r2.get hy;have hT:s.TypeIs (.ref z) "zip":=⟨_,Z.1,rfl⟩;have lt:∀b∈[z,TI,TO,i1,i2],b<s.heap.objs.size:=fun b hb=>by
   simp only[mem_cons,not_mem_nil,or_false]at hb;rcases hb with e|e|e|e|e
   ·rw[e];exact lt_size Z.1
   ·rw[e];exact lt_size Z.2.1
   ·rw[e];exact lt_size Z.2.2
   ·rw[e];obtain⟨o,q,_⟩:=w1.obj;exact lt_size q
   ·rw[e];obtain⟨o,q,_⟩:=w2.obj;exact lt_size q
  unfold pyNext;refine wpAny_bind (wpAny_attempt (wpAny_callSpecial?_slot (name:=Str.ofString "__next__") hT F.slot_zip_next (wpAny_call_entry F.slot_zip_next hT F.entry_zip_next (Cs D Z w1 w2 p1 p2 (x:=ux) (y:=uy) (by simpa using Mt) (by simpa using T2) fun g b1 b2 b3 b4 b5 b6=>wpAny_pure ?_) (F.args_zip_next_1 _))));refine⟨_,rfl,wpAny_letOwnedTupleGo_zip (s:={s with heap:=g}) b1 fun g' b7 b8=>?_⟩;have In:Inv X pins σ (upd H s.heap.objs.size (.tup [x,y])) {s with heap:=s.heap.push {cls:=.type "tuple",data:=.seq #[ux,uy]},toks:=s.toks}:=
   I.laid (t':=s.toks) (fun b u e=>get?_push_of_some _ e) (le_refl _) ⟨by show 2<=sizeLine;decide,[ux,uy],.cons rx (.cons ry .nil),⟨_,get?_push_size _ rfl,rfl,_,rfl⟩⟩
  have sk:∀b∈[z,TI,TO,i1,i2],(upd H s.heap.objs.size (.tup [x,y])) b=none:=fun b hb=>by
   rw[bc (ne_of_lt (lt b hb))];exact(hf b hb).1
  have cn:∀b,b∉[z,TI,TO,i1,i2]->b≠z/\b≠TO/\b≠i1/\b≠i2:=fun b h=>by
   simp only[mem_cons,not_mem_nil,or_false,not_or]at h;exact⟨h.1,h.2.2.1,h.2.2.2.1,h.2.2.2.2⟩
  have nT:s.heap.objs.size≠z:=Nat.ne_of_gt (lt z (by simp));have I3:Inv X pins σ (upd H s.heap.objs.size (.tup [x,y])) {s with heap:=g',toks:=s.toks}:=pM (s:={s with heap:=s.heap.push {cls:=.type "tuple",data:=.seq #[ux,uy]},toks:=s.toks}) (h':=g') (t':=s.toks) (ch:=[z,TI,TO,i1,i2]) In (fun b o hb e=>by
   obtain⟨n1,n2,n3,n4⟩:=cn b hb;refine b8.extBut _ _ n1 ?_;rcases Heap.get?_push_cases (show(s.heap.push {cls:=.type "tuple",data:=.seq #[ux,uy]}).get? b=some o from e)with⟨e1,e2⟩|e1
   ·rw[e1,e2];exact b5
   ·exact b6 b o n1 n2 n3 n4 e1) fun b hb=>⟨sk b hb,(hf b hb).2⟩
  refine⟨.ref s.heap.objs.size,upd H s.heap.objs.size (.tup [x,y]),I3,rfl,⟨_,x,y,rfl,I.bx.fresh (le_refl _),rfl,fun Sm ys' d1 d2=>?_⟩,⟨⟨_,_,b7,b8.extBut _ _ D.TIz (b6 _ _ D.TIz D.TITO D.TIi1 D.TIi2 Z.2.1),b8.extBut _ _ D.TOz b2⟩,b3.on fun o e=>b8.extBut _ _ D.i1z e,b4.on fun o e=>b8.extBut _ _ D.i2z e⟩,sk⟩;rw[w5 I d1 c1,w5 I d2 c2];exact⟨hx,hy⟩
 done:=by
  intro X hP hw hK hc i pins s σ H E I hf st hg;subst hP hw hK;obtain⟨⟨u,v,Z⟩,w1,w2⟩:=st;obtain⟨xs,ys,c1,c2,hl⟩:=hg;obtain⟨Bw,r1,p1⟩:=tf I c1;obtain⟨ic,r2,p2⟩:=tf I c2;have l1:=r1.length;have l2:=r2.length;have hT:s.TypeIs (.ref z) "zip":=⟨_,Z.1,rfl⟩;have GB:Bw.toArray[i]?=none\/ic.toArray[i]?=none:=hl.elim (fun h=>.inl (by simp;omega)) fun h=>.inr (by simp;omega);unfold pyNext;refine wpAny_bind (wpAny_attempt (wpAny_callSpecial?_slot (name:=Str.ofString "__next__") hT F.slot_zip_next (wpAny_call_entry F.slot_zip_next hT F.entry_zip_next (Cr (I.ok.hd hc) D Z w1 w2 p1 p2 GB fun g e k he=>?_) (F.args_zip_next_1 _))));obtain⟨o,ho,nW⟩:=he;refine wpAny_bind (wpAny_isInstance (T:="StopIteration") (b:=true) ⟨o,ho,nW⟩ isSubtype_stop (wpAny_pure ⟨rfl,?_⟩));exact pM (h':=g) (t':=s.toks) (ch:=[z,TI,TO,i1,i2]) I (fun b o hb e=>by
   simp only[mem_cons,not_mem_nil,or_false,not_or]at hb;exact k b o hb.1 hb.2.2.1 hb.2.2.2.1 hb.2.2.2.2 e) hf
 self:=fun A i s Q E st h=>wpAny_pyIter_zip st.1.choose_spec.choose_spec.1 h
def RG (K:Fg) (ta:TA):TI:=fun σ H R=>ta σ H fun vs H1=>∃k1 k2 a1 a2,vs=[.ref a1,.ref a2]/\(∃xs,o6 K k1 H1 a1 xs)/\(∃ys,o6 K k2 H1 a2 ys)/\R (QK K k1 k2 a1 a2) H1
variable {a:Expr} {p:Pos}
theorem LH{pt:Pos}{ta:TA}(hg:Gl X "zip")(hm:X.mg "zip"=none)(ha:PA X [a,b] ta)(hs:starEach [a,b] X.env=[(false,eval a X.env),(false,eval b X.env)]:=by rfl)(Ip:starEach [b] X.env=[(false,eval b X.env)]:=by rfl):
  PI X (.Tuple kN kt pt) (.Call (.Name "zip" p) [a,b] [] pos) (RG X.K ta):=by
 intro pins s σ H R I h;refine Call_ (mK I hg hm boot_zip (PyProof.Rows.callWith_type1 (bX (ha pos pins s σ H _ I h) fun us s1 ⟨vs,H1,I1,r1,q1⟩=>?_) (by rw[hs,Ip]) (by rw[Ip];rfl)));obtain⟨k1,k2,a1,a2,e,⟨xs,c1⟩,⟨ys,c2⟩,q⟩:=q1;subst e;cases r1 with
 |cons r rr=>
  cases rr with
  |cons r' rr=>
   cases rr;cases r;cases r';obtain⟨Bw,_,p1⟩:=tf I1 c1;obtain⟨ic,_,p2⟩:=tf I1 c2;exact EM p1 p2 fun h' z TI TO i1 i2 D Z w1 w2 kk new=>wpAny_pyIter_zip Z.1 ⟨z,[z,TI,TO,i1,i2],_,_,H1,rfl,I1.kept (t':=s1.toks) kk,F8 D,⟨⟨_,_,Z⟩,w1,w2⟩,fun b hb=>I1.xT (new b hb) (I1.bx.fresh (new b hb)),q⟩
def eh:List Dat->List Dat->List Dat
 |x::xs,y::ys=>.tuple [x,y]::eh xs ys
 |_,_=>[]
variable {fs:ar->Option (List Dat)} in
def sh (fs:ar->Option (List Dat)):ar->Option (List Dat):=fun ρ=>(fs ρ).bind fun ds=>match ds with
 |[d1,d2]=>(eB d1).bind fun x=>(eB d2).map fun y=>eh x y
 |_=>none
theorem kK:∀{xs ys:List Dat} {i:Nat},(eh xs ys).length=min xs.length ys.length/\∀d,(eh xs ys)[i]?=some d->∃x y,xs[i]?=some x/\ys[i]?=some y/\d=.tuple [x,y]
 |[],ys,i=>⟨by simp[eh],fun d h=>by simp[eh]at h⟩
 |x::xs,[],i=>⟨by simp[eh],fun d h=>by simp[eh]at h⟩
 |x::xs,y::ys,0=>⟨by
   have:=(kK (xs:=xs) (ys:=ys) (i:=0)).1;simp only[eh,length_cons,this];omega,fun d h=>by simp[eh]at h;exact⟨x,y,rfl,rfl,h.symm⟩⟩
 |x::xs,y::ys,i+1=>⟨by
   have:=(kK (xs:=xs) (ys:=ys) (i:=i)).1;simp only[eh,length_cons,this];omega,fun d h=>by
   obtain⟨a,b,h1,h2,h3⟩:=(kK (xs:=xs) (ys:=ys) (i:=i)).2 d (by simpa [eh]using h);exact⟨a,b,by simpa using h1,by simpa using h2,h3⟩⟩
theorem xg(r:aM K H Av v d)(h:eB d=some ds):∃k a,v=.ref a/\∀H' Av',aM K H' Av' (.ref a) d->∃xs,o6 K k H' a xs/\ax K H' Av' xs ds:=by
 cases d with
 |list dZ=>
  cases h;obtain⟨a,xs,rfl,_,_⟩:=r.fG;refine⟨true,a,rfl,fun H' Av' r'=>?_⟩;obtain⟨_,xs,e,hq,rs⟩:=r'.fG;cases e;exact⟨xs,hq.sq,rs⟩
 |tuple dZ=>
  cases h;obtain⟨a,xs,rfl,_,_⟩:=r.fg;refine⟨false,a,rfl,fun H' Av' r'=>?_⟩;obtain⟨_,xs,e,hq,rs⟩:=r'.fg;cases e;exact⟨xs,hq.sq,rs⟩
 |_=>cases h
open PySem PySem.Spec PyProof.Rows L2
open PySem.W (Dat kqdOk)
theorem rA{aN:List (Option Nat)}(hi:aN[i]?=some none)(hj:aN[j]?=some none):jA (j9 2 (fj (aName i) (fj (aName j) ka))) aN:=fun d as e p hp=>by
 unfold j9 at e;split at e
 ·split at e
  ·rename_i ds hl;match ds,hl with
   |[a,b],_=>
    cases e;rcases mem_cons.mp hp with e|hp
    ·rw[e];exact hi
    ·rcases mem_cons.mp hp with e|hp
     ·rw[e];exact hj
     ·simp at hp
  ·cases e
 ·cases e
open PySem PySem.Spec PyProof.Rows L2
open PySem.W (Dat kqdOk)
theorem ax.rep{K:Fg}{H:Hp}{Av:dA}{vs:List V}{ds:List Dat}(h:ax K H Av vs ds):∀k:Nat,ax K H Av (List.replicate k vs).flatten (List.replicate k ds).flatten
 |0=>.nil
 |k+1=>by
  rw[replicate_succ,replicate_succ,flatten_cons,flatten_cons];exact h.append (ax.rep h k)
variable {fb:ar->Option Dat}
variable {fs:ar->Option (List Dat)} in
def qW (fs:ar->Option (List Dat)) (fb:ar->Option Dat):ar->Option (List Dat):=fun ρ=>(fs ρ).bind fun ds=>(fb ρ).bind fun d=>match d with
 | .int k=>if(-(2^63)<=k/\k<2^63)/\ds.length*k.toNat<=sizeLine then some (List.replicate k.toNat ds).flatten else none
 |_=>none
def w6 (i:Nat) (f:ay->Option (List Dat×ay)):ay->Option Fl:=fun Γ=>(f Γ).map fun p=>.nx (p.2.set i (some (.a9 (.list p.1))))
variable {x:Str} {k:Nat}
theorem Kg{fa:Addr}(U:lT K x qual st fa fd)(hm:mg x=some (.ref fa))(hB:Binds K fd ps []):Dn P w K mg base k x ps n (fun _=>none):=
 ⟨fa,fd,⟨fun vs H Q E ⟨_,_,_,_,_,_,h,_⟩=>(by cases h),fun A outer s H args us vs Q E _ _ _ _ ⟨_,_,_,_,_,_,h,_⟩=>(by cases h)⟩,hm,U.kp,hB⟩
open PySem PySem.Spec PyProof.Rows L2
open PySem.W (Dat kqdOk)
variable {env:Env} {ts:List Expr}
theorem fN{k}:starEach (.Tuple ts k p::es) env=(false,eval (.Tuple ts k p) env)::starEach es env:=by rw[starEach];intro _ _ h;cases h
theorem bO{op}:starEach (.BinOp a op b p::es) env=(false,eval (.BinOp a op b p) env)::starEach es env:=by rw[starEach];intro _ _ h;cases h
theorem zy{op}:starEach (.UnaryOp op a p::es) env=(false,eval (.UnaryOp op a p) env)::starEach es env:=by rw[starEach];intro _ _ h;cases h
theorem aW:starEach (.Subscript a b p::es) env=(false,eval (.Subscript a b p) env)::starEach es env:=by rw[starEach];intro _ _ h;cases h
theorem bA{ks}:starEach (.Call a ts ks p::es) env=(false,eval (.Call a ts ks p) env)::starEach es env:=by rw[starEach];intro _ _ h;cases h
theorem kT{os}:starEach (.Compare a os ts p::es) env=(false,eval (.Compare a os ts p) env)::starEach es env:=by rw[starEach];intro _ _ h;cases h
open PySem PySem.Spec PyProof.Rows L2
open PySem.W (Dat kqdOk)
structure QE (X:Cx) (e:Expr) (t:TE):Prop where
 o:PE X e t
structure QT (X:Cx) (e:Expr) (t:TT):Prop where
 o:PT X e t
structure QW (X:Cx) (e:Expr) (t:TT):Prop where
 o:PW X e t
structure QA (X:Cx) (e:List Expr) (t:TA):Prop where
 o:PA X e t
structure QS (X:Cx) (e:Stmt) (t:TS):Prop where
 o:PS X e t
structure UL (X:Cx) (e:List Stmt) (t:TS):Prop where
 o:jX X e t
structure QG (X:Cx) (e:Expr) (t:TG):Prop where
 o:PG X e t
structure J0 (X:Cx) (e:List Expr) (t:qz):Prop where
 o:yz X e t
structure QI (X:Cx) (tg e:Expr) (t:TI):Prop where
 o:PI X tg e t
structure QO (X:Cx) (e:Option Expr) (t:TO):Prop where
 o:PO X e t
structure yv (X:Cx) (e:List Expr) (t:TT):Prop where
 o:AJ X e t
abbrev QF (X:Cx) (e:Expr) (f:ar->Option Dat):Prop:=QE X e (tF X.K f)
abbrev gG (X:Cx) (e:Expr) (f:ar->Option Bool):Prop:=QT X e (jL X.K f)
abbrev yy (X:Cx) (e:Expr) (f:ar->Option Bool):Prop:=QW X e (jL X.K f)
abbrev jl (X:Cx) (e:List Expr) (f:ar->Option (List Dat)):Prop:=QA X e (HJ X.K f)
abbrev gc (X:Cx) (e:Stmt) (f:ay->Option Fl):Prop:=QS X e (vV X.K f)
abbrev gL (X:Cx) (e:List Stmt) (f:ay->Option Fl):Prop:=UL X e (vV X.K f)
abbrev QH (X:Cx) (e:Expr) (f:HF):Prop:=QE X e (tH X.K f)
abbrev yw (X:Cx) (e:Expr) (f:ay->Option (Bool×ay)):Prop:=QT X e (HG X.K f)
abbrev IZ (X:Cx) (e:Expr) (f:ay->Option (Bool×ay)):Prop:=QW X e (HG X.K f)
abbrev yx (X:Cx) (e:List Expr) (f:ay->Option (List Dat×ay)):Prop:=QA X e (P2 X.K f)
abbrev vg (X:Cx) (tg e:Expr) (f:ar->Option (List Dat)):Prop:=QI X tg e (HI X.K f)
abbrev J1 (X:Cx) (e:Option Expr) (f:ar->Option (Option Int)):Prop:=QO X e (P0 X.K f)
theorem a7(i:Nat)(hN:X.N[i]?=some x:=by rfl)(hv:mU X.env.scope x:=by first|exact Or.inl rfl|exact Or.inr (Or.inl rfl)|exact Or.inr (Or.inr rfl))(hd:(x==("__debug__" : Str))=false:=by decide)(gD:(x==("__classdict__" : Str))=false:=by decide):
  QF X (.Name x pos) (aT i):=⟨bh (mH hN hv hd gD) fun σ H Q aQ=>by
 obtain⟨Av,ρ,d,hA,hE,hf,q⟩:=aQ;obtain⟨v,e1,r⟩:=hE i d (join_some hf);exact⟨v,e1,q v H (aL.refl H) r⟩⟩
theorem ae{i j pos}:
  QF X (.Constant (.int i) j pos) (fC (.int i)):=⟨bh Dk fun σ H Q ⟨Av,ρ,d,hA,hE,hf,q⟩=>by cases hf;exact q _ H (aL.refl H) (.int i)⟩
theorem iY{i j pos}:
  QF X (.Constant (.bool i) j pos) (fC (.bool i)):=⟨bh Oj fun σ H Q ⟨Av,ρ,d,hA,hE,hf,q⟩=>by cases hf;exact q _ H (aL.refl H) (.bl i)⟩
theorem bg{j pos}:
  QF X (.Constant .none j pos) (fC .none):=⟨bh LM fun σ H Q ⟨Av,ρ,d,hA,hE,hf,q⟩=>by cases hf;exact q _ H (aL.refl H) .bI⟩
theorem aX{i j pos}:
  QF X (.Constant (.str i) j pos) (fC (.str i)):=⟨bh LJ fun σ H Q ⟨Av,ρ,d,hA,hE,hf,q⟩=>by cases hf;exact q _ H (aL.refl H) (.str i)⟩
variable {fa:ar->Option Dat}
theorem bM(ha:QF X a fa)(he:∀whole,isTrue a X.env whole=(do let v <- whole;standAt a.pos;holding [v] (truthy v)):=by intro _;rfl):
  gG X a (mf fa):=⟨mD (FN ha.o he) fun σ H Q aQ=>by
 obtain⟨Av,ρ,b,hA,hE,hf,q⟩:=aQ;obtain⟨d,e1,hf⟩:=bind_some hf;exact⟨Av,ρ,d,hA,hE,e1,fun v H' s r=>⟨b,L6 r hf,q H' s⟩⟩⟩
theorem eV(ha:gG X a ft):
  yy X (.BoolOp .And [a] pos) ft:=⟨zI ha.o⟩
theorem cP(ha:gG X a ft):
  yy X (.BoolOp .Or [a] pos) ft:=⟨LC ha.o⟩
variable {gt:ar->Option Bool}
variable {rest:List Expr} in
theorem f7(ha:gG X a ft)(hb:yy X (.BoolOp .And (b::rest) pos) gt):
  yy X (.BoolOp .And (a::b::rest) pos) (kD ft gt):=⟨tx (De ha.o hb.o) fun σ H Q aQ=>by
 obtain⟨Av,ρ,k,hA,hE,hf,q⟩:=aQ;obtain⟨c,e1,hf⟩:=bind_some hf;refine⟨Av,ρ,c,hA,hE,e1,fun H1 s1=>?_⟩;cases c with
 |true=>rw[if_pos rfl]at hf ⊢;exact⟨Av,ρ,k,hA.same s1,hE.same s1,hf,fun H2 s2=>q H2 (s1.trans s2)⟩
 |false=>rw[if_neg Bool.false_ne_true]at hf ⊢;cases hf;exact q H1 s1⟩
variable {rest:List Expr} in
theorem cF(ha:gG X a ft)(hb:yy X (.BoolOp .Or (b::rest) pos) gt):
  yy X (.BoolOp .Or (a::b::rest) pos) (lx ft gt):=⟨tx (Oe ha.o hb.o) fun σ H Q aQ=>by
 obtain⟨Av,ρ,k,hA,hE,hf,q⟩:=aQ;obtain⟨c,e1,hf⟩:=bind_some hf;refine⟨Av,ρ,c,hA,hE,e1,fun H1 s1=>?_⟩;cases c with
 |false=>rw[if_neg Bool.false_ne_true]at hf ⊢;exact⟨Av,ρ,k,hA.same s1,hE.same s1,hf,fun H2 s2=>q H2 (s1.trans s2)⟩
 |true=>rw[if_pos rfl]at hf ⊢;cases hf;exact q H1 s1⟩
theorem cx(h:yy X e ft):
  gG X e ft:=⟨h.o.pt⟩
theorem gm(ha:gG X a ft):
  gG X (.UnaryOp .Not a pos) (jI ft):=⟨mD (LF ha.o) fun σ H Q aQ=>by
 obtain⟨Av,ρ,k,hA,hE,hf,q⟩:=aQ;unfold jI at hf;cases e:ft ρ with
 |none=>rw[e]at hf;cases hf
 |some c=>rw[e]at hf;cases hf;exact⟨Av,ρ,c,hA,hE,e,q⟩⟩
theorem jv{op}(h:QF X a fa):
  QF X (.BoolOp op [a] pos) fa:=⟨LK h.o⟩
variable {rest:List Expr} in
theorem kH(ha:QF X a fa)(hb:QF X (.BoolOp .And (b::rest) pos) fb):
  QF X (.BoolOp .And (a::b::rest) pos) (pg fa fb):=⟨bh (LN ha.o hb.o) fun σ H Q aQ=>by
 obtain⟨Av,ρ,k,hA,hE,hf,q⟩:=aQ;obtain⟨d,e1,xC⟩:=bind_some hf;clear hf;obtain⟨c,e2,hf⟩:=bind_some xC;clear xC;have e3:=lA e2;subst e3;refine⟨Av,ρ,_,hA,hE,e1,fun x H1 s1 r=>⟨c,r.j8,?_⟩⟩;cases c with
 |true=>rw[if_pos rfl]at hf ⊢;exact⟨Av,ρ,k,hA.same s1,hE.same s1,hf,fun v H2 s2 r2=>q v H2 (s1.trans s2) r2⟩
 |false=>rw[if_neg Bool.false_ne_true]at hf ⊢;cases hf;exact q _ H1 s1 (.bl false)⟩
variable {rest:List Expr} in
theorem Dd(ha:QF X a fa)(hb:QF X (.BoolOp .Or (b::rest) pos) fb):
  QF X (.BoolOp .Or (a::b::rest) pos) (uR fa fb):=⟨bh (Oh ha.o hb.o) fun σ H Q aQ=>by
 obtain⟨Av,ρ,k,hA,hE,hf,q⟩:=aQ;obtain⟨d,e1,xC⟩:=bind_some hf;clear hf;obtain⟨c,e2,hf⟩:=bind_some xC;clear xC;have e3:=lA e2;subst e3;refine⟨Av,ρ,_,hA,hE,e1,fun x H1 s1 r=>⟨c,r.j8,?_⟩⟩;cases c with
 |false=>rw[if_neg Bool.false_ne_true]at hf ⊢;exact⟨Av,ρ,k,hA.same s1,hE.same s1,hf,fun v H2 s2 r2=>q v H2 (s1.trans s2) r2⟩
 |true=>rw[if_pos rfl]at hf ⊢;cases hf;exact q _ H1 s1 (.bl true)⟩
theorem Jy(ha:QF X a fa):
  QF X (.UnaryOp .Not a pos) (pd fa):=⟨bh (LL ha.o) fun σ H Q aQ=>by
 obtain⟨Av,ρ,k,hA,hE,hf,q⟩:=aQ;obtain⟨d,e1,hf⟩:=bind_some hf;cases e2:jW d with
 |none=>rw[e2]at hf;cases hf
 |some c=>
  rw[e2]at hf;cases hf;have e3:=lA e2;subst e3;exact⟨Av,ρ,_,hA,hE,e1,fun x H1 s1 r=>⟨c,r.j8,q _ H1 s1 (.bl _)⟩⟩⟩
theorem eX(hc:gG X c ft)(ha:QF X a fa)(hb:QF X b fb):
  QF X (.IfExp c a b pos) (sC ft fa fb):=⟨bh (FY hc.o ha.o hb.o) fun σ H Q aQ=>by
 obtain⟨Av,ρ,k,hA,hE,hf,q⟩:=aQ;obtain⟨c',e1,hf⟩:=bind_some hf;refine⟨Av,ρ,c',hA,hE,e1,fun H1 s1=>?_⟩;cases c' with
 |true=>rw[if_pos rfl]at hf ⊢;exact⟨Av,ρ,k,hA.same s1,hE.same s1,hf,fun v H2 s2 r2=>q v H2 (s1.trans s2) r2⟩
 |false=>rw[if_neg Bool.false_ne_true]at hf ⊢;exact⟨Av,ρ,k,hA.same s1,hE.same s1,hf,fun v H2 s2 r2=>q v H2 (s1.trans s2) r2⟩⟩
theorem af:
  jl X [] cz:=⟨pV mI fun σ H Q ⟨Av,ρ,d,hA,hE,hf,q⟩=>by cases hf;exact q _ H (aL.refl H) .nil⟩
variable {fs:ar->Option (List Dat)} in
theorem a8(ha:QF X e fa)(hr:jl X es fs)(hs:starEach (e::es) X.env=(false,eval e X.env)::starEach es X.env:=by rfl):
  jl X (e::es) (bj fa fs):=⟨pV (iP ha.o hr.o hs) fun σ H Q aQ=>by
 obtain⟨Av,ρ,d,hA,hE,hf,q⟩:=aQ;obtain⟨dx,e1,hf⟩:=bind_some hf;obtain⟨ds,e2,hf⟩:=aU hf;subst hf;exact⟨Av,ρ,dx,hA,hE,e1,fun x H1 s1 r1=>⟨Av,ρ,ds,hA.same s1,hE.same s1,e2,fun xs H2 s2 r2=>q _ H2 (s1.trans s2) (.cons (r1.same s2) r2)⟩⟩⟩
variable {fs:ar->Option (List Dat)} in
theorem bf{k:Nat}(h:jl X es fs){x1}:
  QF X (.Tuple es x1 pos) (nL fs):=⟨bh (Dj h.o) fun σ H Q aQ=>by
 obtain⟨Av,ρ,d,hA,hE,hf,q⟩:=aQ;obtain⟨ds,e1,hf⟩:=bind_some hf;split at hf
 ·rename_i hz;cases hf;exact⟨Av,ρ,ds,hA,hE,e1,fun xs H1 s1 r1=>⟨by rw[r1.length];exact hz,fun p hp=>q _ _ (s1.trans (bP hp _)) (.qL (hA.same s1) hp r1)⟩⟩
 ·cases hf⟩
variable {fs:ar->Option (List Dat)} in
theorem mC(h:jl X es fs):
  QF X (.List es pos) (pf fs):=⟨bh (wI h.o) fun σ H Q aQ=>by
 obtain⟨Av,ρ,d,hA,hE,hf,q⟩:=aQ;obtain⟨ds,e1,hf⟩:=bind_some hf;split at hf
 ·rename_i hz;cases hf;exact⟨Av,ρ,ds,hA,hE,e1,fun xs H1 s1 r1=>⟨by rw[r1.length];exact hz,fun p hp=>q _ _ (s1.trans (bP hp _)) (.oT (hA.same s1) hp r1)⟩⟩
 ·cases hf⟩
variable {F:List Dat->Option Dat}
variable {fs:ar->Option (List Dat)} in
theorem aH(D:Dn X.prog X.w X.K X.mg X.base k x ps n F)(hr:bS k X.A)(ha:jl X (e::es) fs)(hg:Gl X x:=by rfl)(iq:(x==("__debug__" : Str))=false:=by decide)(he:starEach (e::es) X.env=(false,eval e X.env)::starEach es X.env:=by rfl)(dm:(backTo pos (starEach es X.env)).any (·.1)=false:=by rfl):
  QF X (.Call (.Name x p) (e::es) [] pos) (jS n F fs):=⟨by
 obtain⟨f,fd,h1,h2,h3,h4⟩:=D.ex;exact bh (pU h1 hr hg h2 h3 h4 .nil vC ha.o iq he dm) O5⟩
theorem aR:
  gL X [] ko:=⟨wB zL fun D σ H ⟨ag,Av,pn,aC,Γ,fl,G,hf,q⟩=>by cases hf;exact q σ H G⟩
theorem ak(h:gc X st g):
  gL X [st] g:=⟨tB h.o⟩
variable {rest:List Stmt} in
theorem ah(h1:gc X st g1)(h2:gL X rest g2):
  gL X (st::rest) (dQ g1 g2):=⟨wB (wC h1.o h2.o) fun D σ H aQ=>by
 obtain⟨ag,Av,pn,aC,Γ,fl,G,hf,q⟩:=aQ;obtain⟨lO,e1,hf⟩:=bind_some hf;refine⟨ag,Av,pn,aC,Γ,lO,G,e1,?_⟩;cases lO with
 |nx aj=>exact fun bz H' G'=>⟨ag,Av,pn,aC,aj,fl,G',hf,q⟩
 |rt d=>cases hf;exact q
 |bk aj=>cases hf;exact q
 |ct aj=>cases hf;exact q
 |rm d aj=>cases hf;exact q⟩
theorem az(h:QF X e f):
  gc X (.Return (some e) pos) (kX f):=⟨cv (oI h.o) fun D σ H aQ=>by
 obtain⟨ag,Av,pn,aC,Γ,fl,⟨ad,G⟩,hf,q⟩:=aQ;obtain⟨d,e1,hf⟩:=aU hf;subst hf;exact⟨Av,bH Γ,d,G.gi.same G.same,G.mh,e1,fun v H' s r=>q v H' (G.same.trans s) r⟩⟩
theorem aV{a b:List Stmt}(hc:gG X c ft)(ha:gL X a g1)(hb:gL X b g2):
  gc X (.If c a b pos) (mw ft g1 g2):=⟨cv (Bc hc.o ha.o hb.o) fun D σ H aQ=>by
 obtain⟨ag,Av,pn,aC,Γ,fl,⟨ad,G⟩,hf,q⟩:=aQ;obtain⟨k,e1,hf⟩:=bind_some hf;refine⟨Av,bH Γ,k,G.gi.same G.same,G.mh,e1,fun H' s=>?_⟩;cases k with
 |true=>rw[if_pos rfl]at hf ⊢;exact⟨ag,Av,pn,aC,Γ,fl,⟨ad,G.grow s⟩,hf,q⟩
 |false=>rw[if_neg Bool.false_ne_true]at hf ⊢;exact⟨ag,Av,pn,aC,Γ,fl,⟨ad,G.grow s⟩,hf,q⟩⟩
variable {pos':Pos}
theorem aF(i:Nat)(hN:X.N.Nodup)(h:QF X e f)(hi:X.N[i]?=some x:=by rfl)(hx:Loc X.env.scope x:=by first|exact .inl rfl|exact .inr rfl)(hs:swapsWith e (some (.Name x pos')) pos.line X.env=pure false:=by rfl)(hf:X.fn x=true\/X.env.scope.names.lookup x=some .local:=by first|exact .inl rfl|exact .inr rfl):
  gc X (.Assign [.Name x pos'] e pos) (iB i f):=⟨cv (rO hN hi hx h.o hs hf) L8⟩
theorem aJ(i:Nat)(hN:X.N.Nodup)(hi:X.N[i]?=some x:=by rfl)(hx:Loc X.env.scope x:=by first|exact .inl rfl|exact .inr rfl)(hf:X.fn x=true\/X.env.scope.names.lookup x=some .local:=by first|exact .inl rfl|exact .inr rfl):
  QG X (.Name x pos) (ig X.K (aName i)):=⟨zP (zO hN hi hx hf) fun v σ H Q ⟨Av,d,as,r,e,q⟩=>by cases e;exact q [(i,v)] (.cons r .nil)⟩
theorem cR:
  J0 X [] (AU X.K ka):=⟨wG JH fun vs σ H Q aQ=>by
 obtain⟨Av,ds,as,r,e,q⟩:=aQ;cases r with
 |nil=>cases e;exact⟨rfl,q [] .nil⟩
 |cons _ _=>cases e⟩
variable {gt:Dat->Option cH}
theorem aY{Ee:List Dat->Option cH}(h1:QG X tg (ig X.K gt))(h2:J0 X kN (AU X.K Ee))(hs:(assignEach (tg::kN) X.env).map (·.2)=assign tg X.env::(assignEach kN X.env).map (·.2):=by rfl):
  J0 X (tg::kN) (AU X.K (fj gt Ee)):=⟨wG (FV h1.o h2.o hs) fun vs σ H Q aQ=>by
 obtain⟨Av,ds,as,r,e,q⟩:=aQ;cases r with
 |nil=>cases e
 | @cons v Sr d dZ rd rr=>
  obtain⟨a,e1,e⟩:=bind_some (show(gt d).bind _=some as from e);obtain⟨b,e2,e⟩:=aU e;subst e;refine⟨v,Sr,rfl,Av,d,a,rd,e1,fun ws hw=>⟨Av,dZ,b,rr,e2,fun us hu=>?_⟩⟩;have:=q (ws++us) (hw.append hu);unfold m6 at this ⊢;rw[List.foldl_append]at this;exact this⟩
theorem dC{Ee:List Dat->Option cH}(hc:X.calm=true)(h:J0 X kN (AU X.K Ee))(hn:(assignEach kN X.env).length=n:=by rfl)(hst:(assignEach kN X.env).findIdx? (·.1)=none:=by rfl):
  QG X (.Tuple kN k pos) (ig X.K (j9 n Ee)):=⟨zP (LI hc h.o hn hst) fun v σ H Q aQ=>by
 obtain⟨Av,d,as,r,e,q⟩:=aQ;unfold j9 at e;split at e
 ·split at e
  ·rename_i ds hl;obtain⟨a,xs,rfl,hq,rs⟩:=r.fg;exact⟨a,xs,rfl,hq.sq,by rw[rs.length];exact hl,Av,ds,as,rs,e,q⟩
  ·cases e
 ·cases e⟩
theorem qH(h:QF X e f)(hg:QG X tg (ig X.K gt))(hs:swapsWithSole [tg] e pos.line X.env=pure false:=by rfl)(hw:swappedStores [tg] e X.env=pure none:=by rfl)(h1:(assignEach [tg] X.env).map (·.2)=[assign tg X.env]:=by rfl):
  gc X (.Assign [tg] e pos) (oz gt f):=⟨cv (wD h.o hg.o hs hw h1) fun D σ H aQ=>by
 obtain⟨ag,Av,pn,aC,Γ,fl,⟨ad,G⟩,hf,q⟩:=aQ;obtain⟨d,e1,hf⟩:=bind_some hf;obtain⟨as,e2,hf⟩:=aU hf;subst hf;exact⟨aS Av Γ ad,bD Γ,d,G.gU,G.j6,e1,fun v H' s r=>⟨aS Av Γ ad,d,as,r,e2,fun ws hw=>q _ _ ⟨ad,GA.gz hw (fun _ z=>z) (G.grow s)⟩⟩⟩⟩
variable {body:List Stmt}
theorem gk(hp:PassesOwn (model X.prog X.w) X.A X.env X.xe)(hc:X.calm=true)(hi:QF X iter f)(hg:QG X tg (ig X.K gt))(hb:gL X body gb)(hs:∀x,foldedSetIterable iter X.env x=pure x:=by intro _;rfl):
  gc X (.For tg iter body [] pos) (n9 gt gb f):=⟨cv (rP hp hc (oJ hi.o) hg.o hb.o hs) fun D σ H aQ=>by
 obtain⟨ag,Av,pn,aC,Γ,fl,⟨ad,G⟩,hf,q⟩:=aQ;obtain⟨d,e1,hf⟩:=bind_some hf;obtain⟨ds,e2,hf⟩:=bind_some hf;refine⟨aS Av Γ ad,bD Γ,d,G.gU,G.j6,e1,fun x H1 s1 r=>?_⟩;cases d with
 |list dZ=>
  cases e2;obtain⟨a,xs,rfl,hq,rs⟩:=r.fG;exact⟨a,rfl,.inl ⟨⟨xs,hq.sq⟩,p6 oP ⟨ad,(G.grow s1).hide r⟩ hf q⟩⟩
 |tuple dZ=>
  cases e2;obtain⟨a,xs,rfl,hq,rs⟩:=r.fg;exact⟨a,rfl,.inr ⟨⟨xs,hq.sq⟩,p6 qJ ⟨ad,(G.grow s1).hide r⟩ hf q⟩⟩
 |_=>cases e2⟩
variable {fs:ar->Option (List Dat)} in
theorem B8(hp:PassesOwn (model X.prog X.w) X.A X.env X.xe)(hc:X.calm=true)(hm:X.mg "range"=none)(ha:jl X [a] fs)(hg:QG X tg (ig X.K gt))(hb:gL X body gb)(E6:Gl X "range":=by rfl)(hst:starEach [a] X.env=[(false,eval a X.env)]:=by rfl)(hs:∀x,foldedSetIterable (.Call (.Name "range" p) [a] [] pos') X.env x=pure x:=by intro _;rfl):
  gc X (.For tg (.Call (.Name "range" p) [a] [] pos') body [] pos) (B3 kY gt gb fs):=⟨cv (rP hp hc (oK E6 hm ha.o hst) hg.o hb.o hs) fun D σ H aQ=>by
 obtain⟨ag,Av,pn,aC,Γ,fl,⟨ad,G⟩,hf,q⟩:=aQ;obtain⟨as,e1,hf⟩:=bind_some hf;obtain⟨ds,e2,hf⟩:=bind_some hf;refine⟨Av,bH Γ,as,G.gi.same G.same,G.mh,e1,fun vs H1 s1 r=>?_⟩;unfold kY at e2;split at e2
 ·rename_i j;split at e2
  ·rename_i hj;cases e2;obtain⟨v,rfl,rv⟩:=r.cS;rw[rv.cU];exact⟨j,rfl,hj.1,hj.2,p6 nk ⟨ad,(G.grow s1).hide .bI⟩ hf q⟩
  ·cases e2
 ·cases e2⟩
theorem rL(fuel:ay->Nat)(hp:PassesOwn (model X.prog X.w) X.A X.env X.xe)(hc:gG X c ft)(hb:gL X body gb):
  gc X (.While c body [] pos) (kW fuel ft gb):=⟨cv (FP hp hc.o hb.o) fun D σ H aQ=>by
 obtain⟨ag,Av,pn,aC,Γ,fl,G,hf,q⟩:=aQ;refine⟨fun m σ H=>∃Γ,jb X.K ag Av pn aC H σ Γ/\f6 ft gb m Γ=some fl,⟨_,Γ,G,hf⟩,?_⟩;rintro m σ H ⟨Γ,⟨ad,G⟩,hf⟩;cases m with
 |zero=>cases hf
 |succ m=>
  obtain⟨k,e1,hf⟩:=bind_some (show(ft (bH Γ)).bind _=some fl from hf);refine⟨Av,bH Γ,k,G.gi.same G.same,G.mh,e1,fun H1 s1=>?_⟩;cases k with
  |false=>
   rw[if_neg Bool.false_ne_true]at hf ⊢;cases hf;exact q σ H1 ⟨ad,G.grow s1⟩
  |true=>
   rw[if_pos rfl]at hf ⊢;obtain⟨lO,e2,hf⟩:=bind_some hf;refine⟨fun bz H'=>∃aj,jb X.K ag Av pn aC H' bz aj/\f6 ft gb m aj=some fl,fun bz H' ⟨aj,G',h'⟩=>⟨m,Nat.lt_succ_self m,aj,G',h'⟩,ag,Av,pn,aC,Γ,lO,⟨ad,G.grow s1⟩,e2,?_⟩;cases lO with
   |nx aj=>exact fun dN H2 G2=>⟨aj,G2,hf⟩
   |ct aj=>exact fun dN H2 G2=>⟨aj,G2,hf⟩
   |bk aj=>cases hf;exact fun dN H2 G2=>q dN H2 G2
   |rt v=>cases hf;exact q
   |rm v aj=>cases hf;exact q⟩
variable {fs:ar->Option (List Dat)} in
theorem ju(h:jl X es fs):
  QE X (.List es pos) (kP X.K (mQ fs)):=⟨bh (wI h.o) fun σ H Q aQ=>by
 obtain⟨Av,ρ,d,hA,hE,hf,q⟩:=aQ;obtain⟨ds,e1,hf⟩:=bind_some hf;obtain⟨hz,e2⟩:=Ag hf;cases e2;exact⟨Av,ρ,d,hA,hE,e1,fun xs H1 s1 r1=>⟨by rw[r1.length];exact hz,fun p hp=>q H1 p xs s1 hp r1⟩⟩⟩
variable {fs:ar->Option (List Dat)} in
theorem wj(i:Nat)(hN:X.N.Nodup)(h:QE X e (kP X.K fs))(kg:i≠0:=by decide)(hi:X.N[i]?=some x:=by rfl)(hx:Loc X.env.scope x:=by first|exact .inl rfl|exact .inr rfl)(hs:swapsWith e (some (.Name x pos')) pos.line X.env=pure false:=by rfl)(hf:X.fn x=true\/X.env.scope.names.lookup x=some .local:=by first|exact .inl rfl|exact .inr rfl):
  gc X (.Assign [.Name x pos'] e pos) (tm i fs):=⟨cv (rO hN hi hx h.o hs hf) fun D σ H aQ=>by
 obtain⟨ag,Av,pn,aC,Γ,fl,⟨ad,G⟩,hf,q⟩:=aQ;obtain⟨ds,e1,hf⟩:=aU hf;subst hf;exact⟨aS Av Γ ad,bD Γ,ds,G.gU,G.j6,e1,fun H1 p xs s hp r=>q _ _ ⟨_,(G.grow s).Lf i kg hp r⟩⟩⟩
variable {p1 p2 p3:Pos}
theorem jC(i:Nat)(h:QF X e f)(hN:X.N[i]?=some x:=by rfl)(hv:mU X.env.scope x:=by first|exact Or.inl rfl|exact Or.inr (Or.inl rfl)|exact Or.inr (Or.inr rfl))(hd:(x==("__debug__" : Str))=false:=by decide)(gD:(x==("__classdict__" : Str))=false:=by decide)(BG:attributeBase (.Name x p1) "append" X.env (eval (.Name x p1) X.env)=eval (.Name x p1) X.env:=by rfl)(Gz:((backTo p3 (starEach [e] X.env)).all (fun x=>!x.1)&&(backToKw p3 (keywordEach [] X.env)).all (fun x=>x.1.isSome)&&decide (([e]:List Expr).length+([]:List Keyword).length+(if([]:List Keyword).isEmpty then 0 else 1)<30))=true:=by rfl)(BE:(p2.endLine==p3.line)=true:=by rfl)(PK:starEach [e] X.env=(false,eval e X.env)::starEach [] X.env:=by rfl)(xx:(backTo p3 (starEach [] X.env)).any (·.1)=false:=by rfl)(hs:swapsWith (.Call (.Attribute (.Name x p1) "append" p2) [e] [] p3) none pos.line X.env=pure false:=by rfl):
  gc X (.Expr (.Call (.Attribute (.Name x p1) "append" p2) [e] [] p3) pos) (qF i f):=⟨cv (JD (Oi PySem.F.plainAttrs_list PySem.F.slot_list_append PySem.F.type_list_append DA (mH hN hv hd gD) (iP h.o mI PK) BG Gz BE PK xx) hs) fun D σ H aQ=>by
 obtain⟨ag,Av,pn,aC,Γ,fl,⟨ad,G⟩,hf,q⟩:=aQ;unfold qF at hf;split at hf
 ·rename_i ds hi;obtain⟨d,e1,hf⟩:=bind_some hf;obtain⟨hz,hf⟩:=Ag hf;cases hf;obtain⟨xs,g1,g2,g3,g4⟩:=G.own i ds hi;refine⟨_,g1,.inl ⟨rfl,xs,.of g2⟩,aS Av Γ ad,bD Γ,d,G.gU,G.j6,e1,fun v H1 s1 r=>?_⟩;have G1:=G.grow s1;obtain⟨KQ,k1,k2,k3,k4⟩:=G1.own i ds hi;exact⟨_,KQ,v,rfl,rfl,k2,by rw[k3.length];exact hz,q _ _ ⟨ad,G1.change hi (k3.append (.cons r .nil))⟩⟩
 ·cases hf⟩
theorem gA{fa:Addr}(U:lT K x qual st fa fd)(hm:mg x=some (.ref fa))(hB:Binds K fd ps [])(S:fD N ps (aP st))(hn:ps.length=n)(hbody:∀(ba:Value) (A:Around) (outer:List Env) (s:Shared) (H:Hp) (E:XK),bS k (A.deeper (envOfC qual (aP st) s.heap.objs.size fa ba))->gL (gw gj P w K mg base N qual (aP st) fa ba A outer s H E).jP (cM st) g)(hF:∀ds d,ds.length=n->F ds=some d->iC N g ds=some d):
  Dn P w K mg base (k+1) x ps n F:=
 OL (U:=U) (hm:=hm) (hB:=hB) (S:=S) (hn:=hn) (hbody:=(fun a b c d e f g=>(hbody a b c d e f g).o)) (hF:=hF)
theorem dW(ha:QF X a fa)(hb:QF X b fb):
  QF X (.BinOp a .Add b pos) (f2 k9 fa fb):=⟨l6 (wN.or nq) (by
 intro H Av x y dx dy d Q hA rx ry h q;unfold k9 at h;split at h
 ·cases h;exact .inl ⟨_,_,rx.cU,ry.cU,q _ H (aL.refl H) (.int _)⟩
 ·split at h
  ·rename_i hz;cases h;exact .inr ⟨_,_,rx.gO,ry.gO,hz,q _ H (aL.refl H) (.str _)⟩
  ·cases h
 ·cases h) ha.o hb.o⟩
theorem mz(ha:QF X a fa)(hb:QF X b fb):
  QF X (.BinOp a .Sub b pos) (f2 Fq fa fb):=⟨l6 zQ nr ha.o hb.o⟩
theorem bE(ha:QF X a fa)(hb:QF X b fb):
  QF X (.BinOp a .Mult b pos) (f2 ib fa fb):=⟨l6 zR nr ha.o hb.o⟩
theorem jx(ha:QF X a fa)(hb:QF X b fb):
  QF X (.BinOp a .Mod b pos) (f2 wZ fa fb):=⟨l6 FZ nr ha.o hb.o⟩
theorem mB(ha:QF X a fa)(hb:QF X b fb):
  QF X (.BinOp a .Pow b pos) (f2 FQ fa fb):=⟨l6 LQ nr ha.o hb.o⟩
theorem wy(ha:QF X a fa)(hb:QF X b fb):
  QF X (.Compare a [.Lt] [b] pos) (f2 DC fa fb):=⟨oM HZ nt ha.o hb.o (dR _)⟩
theorem Lz(ha:QF X a fa)(hb:QF X b fb):
  QF X (.Compare a [.Gt] [b] pos) (f2 xO fa fb):=⟨oM Bj nt ha.o hb.o (dR _)⟩
theorem jt(ha:QF X a fa)(hb:QF X b fb):
  gG X (.Compare a [.Lt] [b] pos) (c9 (f2 DC fa fb)):=⟨fV HZ nt ha.o hb.o (dR _)⟩
theorem Jw(ha:QF X a fa)(hb:QF X b fb):
  gG X (.Compare a [.LtE] [b] pos) (c9 (f2 Pu fa fb)):=⟨fV Om nt ha.o hb.o (dR _)⟩
theorem my(ha:QF X a fa)(hb:QF X b fb):
  gG X (.Compare a [.Gt] [b] pos) (c9 (f2 xO fa fb)):=⟨fV Bj nt ha.o hb.o (dR _)⟩
theorem Jx(ha:QF X a fa)(hb:QF X b fb):
  gG X (.Compare a [.GtE] [b] pos) (c9 (f2 Qb fa fb)):=⟨fV Oo nt ha.o hb.o (dR _)⟩
theorem jw(ha:QF X a fa):
  QF X (.UnaryOp .USub a pos) (f1 nC fa):=⟨Of KZ (by
 intro H Av x dx d Q hA rx h q;unfold nC at h;split at h
 ·cases h;exact⟨_,rx.cU,q _ H (aL.refl H) (.int _)⟩
 ·cases h) ha.o⟩
theorem ij(hr:bS k X.A)(ha:QF X a fa)(hb:QF X b fb):
  QF X (.Compare a [.Eq] [b] pos) (f2 dU fa fb):=⟨oM (Bk.or (wM hr.units)) wO ha.o hb.o (dR _)⟩
theorem wx(hr:bS k X.A)(ha:QF X a fa)(hb:QF X b fb):
  QF X (.Compare a [.NotEq] [b] pos) (f2 ik fa fb):=⟨oM (HY.or (Dm hr.units)) Ds ha.o hb.o (dR _)⟩
theorem cq(hr:bS k X.A)(ha:QF X a fa)(hb:QF X b fb):
  gG X (.Compare a [.Eq] [b] pos) (c9 (f2 dU fa fb)):=⟨fV (Bk.or (wM hr.units)) wO ha.o hb.o (dR _)⟩
theorem gZ(hr:bS k X.A)(ha:QF X a fa)(hb:QF X b fb):
  gG X (.Compare a [.NotEq] [b] pos) (c9 (f2 ik fa fb)):=⟨fV (HY.or (Dm hr.units)) Ds ha.o hb.o (dR _)⟩
variable {fs:ar->Option (List Dat)} in
theorem kI(hm:X.mg "abs"=none)(ha:jl X (e::es) fs)(hg:Gl X "abs":=by rfl)(he:starEach (e::es) X.env=(false,eval e X.env)::starEach es X.env:=by rfl)(dm:(backTo pos (starEach es X.env)).any (·.1)=false:=by rfl):
  QF X (.Call (.Name "abs" p) (e::es) [] pos) (dY C4 fs):=⟨wH H9 ET hm ha.o hg (by decide +kernel) (by decide) (by decide) he dm⟩
variable {fs:ar->Option (List Dat)} in
theorem fA(hm:X.mg "len"=none)(ha:jl X (e::es) fs)(hg:Gl X "len":=by rfl)(he:starEach (e::es) X.env=(false,eval e X.env)::starEach es X.env:=by rfl)(dm:(backTo pos (starEach es X.env)).any (·.1)=false:=by rfl):
  QF X (.Call (.Name "len" p) (e::es) [] pos) (dY lb fs):=⟨wH H0 ER hm ha.o hg (by decide +kernel) (by decide) (by decide) he dm⟩
variable {fs:ar->Option (List Dat)} in
theorem wz(hm:X.mg "int"=none)(ha:jl X (e::es) fs)(hg:Gl X "int":=by rfl)(he:starEach (e::es) X.env=(false,eval e X.env)::starEach es X.env:=by rfl)(dm:(backTo pos (starEach es X.env)).any (·.1)=false:=by rfl):
  QF X (.Call (.Name "int" p) (e::es) [] pos) (dY intD fs):=⟨uA EO ES hm ha.o hg (by decide +kernel) (by decide) (by decide) he dm⟩
theorem fE(T:String){TS:Str}(hm:X.mg "isinstance"=none)(Tg:X.mg TS=none)(ha:QF X a fa)(hv:bootBuiltins TS=some (.type T):=by decide +kernel)(hg:Gl X "isinstance":=by rfl)(MF:Gl X TS:=by rfl)(hn:TS≠"__name__":=by decide)(iq:(TS==("__debug__" : Str))=false:=by decide)(he:starEach [a,.Name TS p2] X.env=(false,eval a X.env)::starEach [.Name TS p2] X.env:=by rfl)(Tu:starEach [.Name TS p2] X.env=(false,eval (.Name TS p2) X.env)::starEach [] X.env:=by rfl)(dm:(backTo pos (starEach [.Name TS p2] X.env)).any (·.1)=false:=by rfl):
  QF X (.Call (.Name "isinstance" p) [a,.Name TS p2] [] pos) (f1 (mM T) fa):=⟨bh (wJ (yN T) hg hm (by decide +kernel) (iP ha.o (iP (JN (v:=.ty T) MF Tg hv rfl hn iq) mI Tu) he) (by decide) (by decide) he dm) fun σ H Q aQ=>by
  obtain⟨Av,ρ,d,hA,hE,hf,q⟩:=aQ;obtain⟨dx,e1,hf⟩:=bind_some hf;obtain⟨k,rfl⟩:=Gs hf;exact⟨Av,ρ,dx,hA,hE,e1,fun x H1 s1 r1=>⟨Av,x,dx,k,rfl,r1,hf,q _ H1 s1 (.bl k)⟩⟩⟩
theorem ao(ha:QF X a fa)(hb:QF X b fb)(hs:uc b:=by exact fun _ _=>rfl):
  QF X (.Subscript a b pos) (f2 bB fa fb):=⟨bh (HX (A6.or DJ) ha.o hb.o hs) (vv (by
 intro H Av x y dx dy d Q hA rx ry h q;unfold bB at h;split at h
 ·obtain⟨p,xs,rfl,hq,rs⟩:=rx.fG;obtain⟨v,hv,rv⟩:=rs.gE h;exact .inl ⟨p,xs,_,v,rfl,ry.cU,hq.sq,hv,q v H (aL.refl H) rv⟩
 ·obtain⟨p,xs,rfl,hq,rs⟩:=rx.fg;obtain⟨v,hv,rv⟩:=rs.gE h;exact .inr ⟨p,xs,_,v,rfl,ry.cU,hq.sq,hv,q v H (aL.refl H) rv⟩
 ·cases h))⟩
theorem oG:
  J1 X none ny:=⟨zM JF fun σ H Q ⟨Av,ρ,o,hA,hE,hf,q⟩=>by cases hf;exact q H (aL.refl H)⟩
theorem oF(h:QF X e f):
  J1 X (some e) (nv f):=⟨zM (JE h.o) fun σ H Q aQ=>by
 obtain⟨Av,ρ,o,hA,hE,hf,q⟩:=aQ;obtain⟨d,e1,hf⟩:=bind_some hf;obtain⟨i,e2,Ts⟩:=aU hf;subst Ts;have e3:=Hc e2;rw[e3]at e1;exact⟨Av,ρ,_,hA,hE,e1,fun x H' s r=>⟨i,r.cU,q H' s⟩⟩⟩
variable {elt:Expr} {ifs:List Expr} {cl:List (Str×Addr)} {N':List Str}
theorem jN{aN:List (Option Nat)}{fi:ar->Option Dat}(hc:X.calm=true)(B:o8 X scope cl N' aN)(hi:QF X iter fi)(hg:∀C aI ag ex,QG (cL X scope cl N' C aI ag ex) tg (ig X.K gt))(ht:∀C aI ag ex,yv (cL X scope cl N' C aI ag ex) ifs (jL X.K ft))(he:∀C aI ag ex,QF (cL X scope cl N' C aI ag ex) elt fe)(hT:jA gt aN)(hs:∀x,foldedSetIterable iter X.env x=pure x:=by intro _;rfl):
  QE X (.ListComp elt [⟨tg,iter,ifs,0⟩] scope pos) (kP X.K (lP aN gt ft fe fi)):=⟨bh (tE hc B (oJ hi.o) ((fun C aI ag ex=>(hg C aI ag ex).o)) ((fun C aI ag ex=>(ht C aI ag ex).o)) ((fun C aI ag ex=>(he C aI ag ex).o)) hs) (zw hT)⟩
variable {fs:ar->Option (List Dat)} in
theorem dD(h:QE X e (kP X.K fs)):
  QF X e (fL fs):=⟨bh h.o fun σ H Q aQ=>by
 obtain⟨Av,ρ,d,hA,hE,hf,q⟩:=aQ;obtain⟨ds,e1,hf⟩:=aU hf;subst hf;exact⟨Av,ρ,ds,hA,hE,e1,fun H1 p xs s hp r=>q _ _ (s.trans (bP hp _)) (.oT (hA.same s) hp r)⟩⟩
theorem eK:
  yv X [] (jL X.K gN):=⟨fun pins s σ H Q I ⟨Av,ρ,b,hA,hE,hf,q⟩=>by cases hf;exact zJ pins s σ H Q I (q H (aL.refl H))⟩
theorem jM(h:gG X c ft):
  yv X [c] (jL X.K ft):=⟨JC h.o⟩
variable {px:Pos}
variable {fs:ar->Option (List Dat)} in
theorem FG(i j:Nat){y:Str}{py pt:Pos}{kt k2 wA}(hc:X.calm=true)(hN:X.N.Nodup)(Ab:i≠j)(ha:jl X [a,b] fs)(hi:X.N[i]?=some x:=by rfl)(hj:X.N[j]?=some y:=by rfl)(hx:X.env.scope.names.lookup x=some .local:=by rfl)(hy:X.env.scope.names.lookup y=some .local:=by rfl)(hw:swappedStores [.Tuple [.Name x px,.Name y py] kt pt] (.Tuple [a,b] k2 wA) X.env=pure (some [x,y]):=by rfl)(hs:swapsWithSole [.Tuple [.Name x px,.Name y py] kt pt] (.Tuple [a,b] k2 wA) pos.line X.env=pure false:=by rfl):
  gc X (.Assign [.Tuple [.Name x px,.Name y py] kt pt] (.Tuple [a,b] k2 wA) pos) (B2 i j fs):=⟨cv (LG hc hN hi hj Ab hx hy ha.o hw hs) fun D σ H aQ=>by
 obtain⟨ag,Av,pn,aC,Γ,fl,⟨ad,G⟩,hf,q⟩:=aQ;obtain⟨ds,e1,hf⟩:=bind_some hf;refine⟨aS Av Γ ad,bD Γ,ds,G.gU,G.j6,e1,fun vs H1 s1 r=>?_⟩;match ds,hf with
 |[d,d'],hf=>
  cases hf;obtain⟨v,u,rfl,rv,ru⟩:=r.fw;exact⟨v,u,rfl,q _ _ ⟨ad,((G.grow s1).set i rv).set j (ru.weak aS.iM)⟩⟩⟩
variable {n6:Pos}
theorem oD(i:Nat){aN:List (Option Nat)}{fi:ar->Option Dat}(hN:X.N.Nodup)(hc:X.calm=true)(B:o8 X scope cl N' aN)(hi:QF X iter fi)(hg:∀C aI ag ex,QG (cL X scope cl N' C aI ag ex) tg (ig X.K gt))(ht:∀C aI ag ex,yv (cL X scope cl N' C aI ag ex) ifs (jL X.K ft))(he:∀C aI ag ex,QF (cL X scope cl N' C aI ag ex) elt fe)(hT:jA gt aN)(qm:X.N[i]?=some x:=by rfl)(hx:Loc X.env.scope x:=by first|exact .inl rfl|exact .inr rfl)(xp:swapsWith (.ListComp elt [⟨tg,iter,ifs,0⟩] scope pos) (some (.Name x pos')) n6.line X.env=pure true:=by rfl)(xB:X.fn x=true\/X.env.scope.names.lookup x=some .local:=by first|exact .inl rfl|exact .inr rfl)(hs:∀x,foldedSetIterable iter X.env x=pure x:=by intro _;rfl):
  gc X (.Assign [.Name x pos'] (.ListComp elt [⟨tg,iter,ifs,0⟩] scope pos) n6) (n8 i (lP aN gt ft fe fi)):=⟨cv (tD hc B (oJ hi.o) ((fun C aI ag ex=>(hg C aI ag ex).o)) ((fun C aI ag ex=>(ht C aI ag ex).o)) ((fun C aI ag ex=>(he C aI ag ex).o)) hN qm hx xp xB hs) fun D σ H aQ=>by
 obtain⟨ag,Av,pn,aC,Γ,fl,⟨ad,G⟩,hf,q⟩:=aQ;obtain⟨ds,e1,hf⟩:=aU hf;subst hf;exact zw hT σ H _ ⟨aS Av Γ ad,bD Γ,ds,G.gU,G.j6,e1,fun H1 p xs s hp r=>q _ _ ⟨ad,((G.grow s).grow (bP hp _)).set i (.oT (G.grow s).gU hp r)⟩⟩⟩
theorem zH(ha:QF X a fa)(hb:QF X b fb)(hm:behindInMarks .In b=false:=by with_unfolding_all rfl):
  gG X (.Compare a [.In] [b] pos) (c9 (f2 inD fa fb)):=⟨fV (Dr.or Dq) LV ha.o hb.o hm⟩
theorem cC(ha:QF X a fa)(hb:QF X b fb):
  gG X (.Compare a [.Is] [b] pos) (c9 (f2 iH fa fb)):=⟨fV Dp zS ha.o hb.o (dR _)⟩
theorem lJ(ha:QF X a fa)(hb:QF X b fb):
  gG X (.Compare a [.IsNot] [b] pos) (c9 (f2 lK fa fb)):=⟨fV JP G7 ha.o hb.o (dR _)⟩
variable {fs:ar->Option (List Dat)} in
theorem uz(hm:X.mg "list"=none)(ha:jl X (e::es) fs)(hg:Gl X "list":=by rfl)(he:starEach (e::es) X.env=(false,eval e X.env)::starEach es X.env:=by rfl)(dm:(backTo pos (starEach es X.env)).any (·.1)=false:=by rfl):
  QE X (.Call (.Name "list" p) (e::es) [] pos) (kP X.K fun ρ=>(fs ρ).bind vD):=⟨bh (oN yh hg hm (by decide +kernel) ha.o (by decide) (by decide) he dm) fun σ H Q aQ=>by
 obtain⟨Av,ρ,ds,hA,hE,hf,q⟩:=aQ;obtain⟨as,e1,hf⟩:=bind_some hf;refine⟨Av,ρ,as,hA,hE,e1,fun vs H1 s1 r=>?_⟩;unfold vD at hf;split at hf
 ·cases hf;obtain⟨v,rfl,rv⟩:=r.cS;obtain⟨p,xs,rfl,hq,rs⟩:=rv.fG;exact⟨p,xs,rfl,.inl hq.sq,fun l hl=>q H1 l xs s1 hl rs⟩
 ·cases hf;obtain⟨v,rfl,rv⟩:=r.cS;obtain⟨p,xs,rfl,hq,rs⟩:=rv.fg;exact⟨p,xs,rfl,.inr hq.sq,fun l hl=>q H1 l xs s1 hl rs⟩
 ·cases hf⟩
variable {fs:ar->Option (List Dat)} in
theorem oH(hm:X.mg "tuple"=none)(ha:jl X (e::es) fs)(hg:Gl X "tuple":=by rfl)(he:starEach (e::es) X.env=(false,eval e X.env)::starEach es X.env:=by rfl)(dm:(backTo pos (starEach es X.env)).any (·.1)=false:=by rfl):
  QF X (.Call (.Name "tuple" p) (e::es) [] pos) (dY mr fs):=⟨uA vj yO hm ha.o hg (by decide +kernel) (by decide) (by decide) he dm⟩
theorem cK{a:Addr}(hm:X.mg x=some (.ref a))(ht:ModT X.K a ds)(hg:Gl X x:=by rfl)(hd:(x==("__debug__" : Str))=false:=by decide):
  QF X (.Name x p) (fC (.tuple ds)):=⟨by
 obtain⟨xs,o,aq,n,h1,h2,h3,h4,h5,h6⟩:=ht;exact bh (JL (v:=.ref a) hg hm rfl hd) fun σ H Q ⟨Av,ρ,d,hA,hE,hf,q⟩=>by cases hf;exact q _ H (aL.refl H) (.tup (.inr ⟨o,aq,n,h1,h2,h3,h4,h5⟩) (h6 H Av))⟩
theorem bp(hP:QF X e f):
  QH X e (vF f):=⟨bh hP.o fun σ H Q aQ=>by
 obtain⟨ag,Av,pn,aC,Γ,ad,d,aj,G,hf,q⟩:=aQ;unfold vF at hf;split at hf
 ·rename_i d' e1;cases hf;exact⟨aS Av Γ ad,bD Γ,_,G.gU,G.j6,e1,fun v H' s r=>q v H' ad (G.grow s) r⟩
 ·obtain⟨d',e1,hf⟩:=bind_some hf;split at hf
  ·rename_i hs;cases hf;exact⟨Av,bH Γ,_,G.gi.same G.same,G.mh,e1,fun v H' s r=>q v H' ad (G.grow s) (r.sc hs)⟩
  ·cases hf⟩
theorem CZ(hP:gG X e ft):
  yw X e (xJ ft):=⟨mD hP.o fun σ H Q aQ=>by
 obtain⟨ag,Av,pn,aC,Γ,ad,d,aj,G,hf,q⟩:=aQ;obtain⟨k,e1,hf⟩:=aU hf;cases hf;exact⟨Av,bH Γ,_,G.gi.same G.same,G.mh,e1,fun H' s=>q H' ad (G.grow s)⟩⟩
variable {ht:ay->Option (Bool×ay)}
theorem CY(pa:yw X a ht):
  IZ X (.BoolOp .And [a] pos) ht:=⟨zI pa.o⟩
theorem FH{rest:List Expr}{hu:ay->Option (Bool×ay)}(pa:yw X a ht)(pb:IZ X (.BoolOp .And (b::rest) pos) hu):
  IZ X (.BoolOp .And (a::b::rest) pos) (BJ ht hu):=⟨tx (De pa.o pb.o) fun σ H Q aQ=>by
 obtain⟨ag,Av,pn,aC,Γ,ad,d,aj,G,hf,q⟩:=aQ;obtain⟨⟨k,Γ1⟩,e1,hf⟩:=bind_some hf;refine⟨ag,Av,pn,aC,Γ,ad,k,Γ1,G,e1,fun H1 gF G1=>?_⟩;cases k with
 |true=>rw[if_pos rfl]at hf ⊢;exact⟨ag,Av,pn,aC,Γ1,gF,d,aj,G1,hf,q⟩
 |false=>rw[if_neg Bool.false_ne_true]at hf ⊢;cases hf;exact q H1 gF G1⟩
theorem Lx(h:IZ X e ht):
  yw X e ht:=⟨h.o.pt⟩
theorem zG(pa:QH X a ha)(pb:QH X b hb):
  QH X (.BinOp a .Add b pos) (h2 k9 ha hb):=⟨wF (wN.or nq) (by
 intro H Av x y dx dy d Q hA rx ry h q;unfold k9 at h;split at h
 ·cases h;exact .inl ⟨_,_,rx.cU,ry.cU,q _ H (aL.refl H) (.int _)⟩
 ·split at h
  ·rename_i hz;cases h;exact .inr ⟨_,_,rx.gO,ry.gO,hz,q _ H (aL.refl H) (.str _)⟩
  ·cases h
 ·cases h) pa.o pb.o⟩
theorem pT(pa:QH X a ha)(pb:QH X b hb):
  QH X (.BinOp a .Sub b pos) (h2 Fq ha hb):=⟨wF zQ nr pa.o pb.o⟩
theorem Jv(pa:QH X a ha)(pb:QH X b hb):
  QH X (.BinOp a .Mult b pos) (h2 ib ha hb):=⟨wF zR nr pa.o pb.o⟩
theorem Jt(pa:QH X a ha)(pb:QH X b hb):
  yw X (.Compare a [.Gt] [b] pos) (sx (h2 xO ha hb)):=⟨zN Bj nt pa.o pb.o (dR _)⟩
theorem Ju(hr:bS k X.A)(pa:QH X a ha)(pb:QH X b hb):
  yw X (.Compare a [.Eq] [b] pos) (sx (h2 dU ha hb)):=⟨zN (Bk.or (wM hr.units)) wO pa.o pb.o (dR _)⟩
theorem D0(pa:QH X a ha)(pb:QH X b hb)(hs:uc b:=by exact fun _ _=>rfl):
  QH X (.Subscript a b pos) (h2 bB ha hb):=⟨bh (HX (A6.or DJ) pa.o pb.o hs) (AS LU)⟩
theorem bT:
  yx X [] BH:=⟨pV mI fun σ H Q ⟨ag,Av,pn,aC,Γ,ad,d,aj,G,hf,q⟩=>by cases hf;exact q _ H ad G .nil⟩
variable {hs:ay->Option (List Dat×ay)} {h:HF}
theorem bG(pa:QH X e h)(pr:yx X es hs)(hst:starEach (e::es) X.env=(false,eval e X.env)::starEach es X.env:=by rfl):
  yx X (e::es) (BI h hs):=⟨pV (iP pa.o pr.o hst) fun σ H Q aQ=>by
 obtain⟨ag,Av,pn,aC,Γ,ad,d,aj,G,hf,q⟩:=aQ;obtain⟨⟨dx,Γ1⟩,e1,hf⟩:=bind_some hf;obtain⟨⟨ds,rh⟩,e2,hf⟩:=aU hf;cases hf;exact⟨ag,Av,pn,aC,Γ,ad,dx,Γ1,G,e1,fun x H1 gF G1 r1=>⟨ag,Av,pn,(x,dx)::aC,Γ1,gF,ds,rh,G1.hide r1,e2,fun vs H2 kh G2 r2=>q (x::vs) H2 kh G2.oh (.cons (G2.aC (x,dx) mem_cons_self) r2)⟩⟩⟩
theorem pS(pa:yx X es hs){x1}:
  QH X (.Tuple es x1 pos) (GC hs):=⟨bh (Dj pa.o) fun σ H Q aQ=>by
 obtain⟨ag,Av,pn,aC,Γ,ad,d,aj,G,hf,q⟩:=aQ;obtain⟨⟨ds,Γ1⟩,e1,hf⟩:=bind_some hf;split at hf
 ·rename_i hz;cases hf;exact⟨ag,Av,pn,aC,Γ,ad,ds,Γ1,G,e1,fun xs H1 gF G1 r1=>⟨by rw[r1.length];exact hz,fun p hp=>q _ _ gF (G1.grow (bP hp _)) (.qL G1.gU hp r1)⟩⟩
 ·cases hf⟩
theorem Ly(D:Dn X.prog X.w X.K X.mg X.base k x ps n F)(hr:bS k X.A)(pa:yx X (e::es) hs)(hg:Gl X x:=by rfl)(iq:(x==("__debug__" : Str))=false:=by decide)(he:starEach (e::es) X.env=(false,eval e X.env)::starEach es X.env:=by rfl)(dm:(backTo pos (starEach es X.env)).any (·.1)=false:=by rfl):
  QH X (.Call (.Name x p) (e::es) [] pos) (MM n F hs):=⟨by
 obtain⟨f,fd,h1,h2,h3,h4⟩:=D.ex;refine bh (pU h1 hr hg h2 h3 h4 .nil vC pa.o iq he dm) fun σ H Q ⟨ag,Av,pn,aC,Γ,ad,d,aj,G,hf,q⟩=>?_;obtain⟨⟨ds,Γ1⟩,e1,hf⟩:=bind_some hf;split at hf
 ·rename_i hl;obtain⟨d',e2,hf⟩:=aU hf;cases hf;exact⟨ag,Av,pn,aC,Γ,ad,ds,Γ1,G,e1,fun xs H1 gF G1 r1=>⟨_,ds,_,G1.gU,by rw[append_nil];exact r1,hl,e2,fun v H2 s2 r2=>q v H2 gF (G1.grow s2) r2⟩⟩
 ·cases hf⟩
theorem d5(i:Nat){y:Str}{F:List Dat->List Dat->Option (Dat×List Dat)}(D:iU X.prog X.w X.K X.mg X.base k x ps n F)(hr:bS k X.A)(pa:yx X es hs)(hN:X.N[i]?=some y:=by rfl)(hv:mU X.env.scope y:=by first|exact Or.inl rfl|exact Or.inr (Or.inl rfl)|exact Or.inr (Or.inr rfl))(hd:(y==("__debug__" : Str))=false:=by decide)(gD:(y==("__classdict__" : Str))=false:=by decide)(hg:Gl X x:=by rfl)(iq:(x==("__debug__" : Str))=false:=by decide)(he:starEach (.Name y p1::es) X.env=(false,eval (.Name y p1) X.env)::starEach es X.env:=by rfl)(dm:(backTo pos (starEach es X.env)).any (·.1)=false:=by rfl):
  QH X (.Call (.Name x p) (.Name y p1::es) [] pos) (xM i n F hs):=⟨by
 obtain⟨f,fd,h1,h2,h3,h4⟩:=D.ex;refine bh (pU h1 hr hg h2 h3 h4 .nil vC (iP (mH hN hv hd gD) pa.o he) iq he dm) fun σ H Q ⟨ag,Av,pn,aC,Γ,ad,d,aj,G,hf,q⟩=>?_;unfold xM at hf;split at hf
 ·rename_i IP kg;obtain⟨⟨us,Γ1⟩,e1,hf⟩:=bind_some hf;dsimp only at hf;split at hf
  ·rename_i ds Iv;split at hf
   ·rename_i hl;obtain⟨⟨d',dZ⟩,e2,hf⟩:=aU hf;cases hf;obtain⟨KR,g1,g2,g3,g4⟩:=G.own i IP kg;refine⟨.ref (ad i),g1,ag,Av,pn,aC,Γ,ad,us,Γ1,G,e1,fun ws H1 gF G1 r1=>?_⟩;obtain⟨KQ,k1,k2,k3,k4⟩:=G1.own i ds Iv;have ea:ad i=gF i:=by rw[g1]at k1;injection k1 with k1;injection k1 with k1;injection k1
    exact⟨aS Av Γ1 gF,gF i,ws,KQ,ds,us,_,_,by rw[append_nil,ea],G1.gU,.inr ⟨i,_,Iv,rfl,rfl⟩,k2,k3,r1,hl,e2,fun v H' ys k hn rl rv=>q v H' gF (G1.lend Iv k hn rl) (rv.weak (aS.set_own Iv))⟩
   ·cases hf
  ·cases hf
 ·cases hf⟩
theorem JA{fa:Addr}{F:List Dat->List Dat->Option (Dat×List Dat)}(U:lT K x qual st fa fd)(hm:mg x=some (.ref fa))(hB:Binds K fd ps [])(S:fD N ps (aP st))(hn:ps.length=n)(hbody:∀(ba:Value) (A:Around) (outer:List Env) (s:Shared) (H:Hp) (E:XK),bS k (A.deeper (envOfC qual (aP st) s.heap.objs.size fa ba))->gL (gw gj P w K mg base N qual (aP st) fa ba A outer s H E).jP (cM st) g)(hF:∀ds es d dZ,es.length+1=n->F ds es=some (d,dZ)->runM N g ds es=some (d,dZ)):
  iU P w K mg base (k+1) x ps n F:=
 N2 (U:=U) (hm:=hm) (hB:=hB) (S:=S) (hn:=hn) (hbody:=(fun a b c d e f g=>(hbody a b c d e f g).o)) (hF:=hF)
theorem lH(i:Nat)(hN:X.N.Nodup)(pe:QH X e h)(hi:X.N[i]?=some x:=by rfl)(hx:Loc X.env.scope x:=by first|exact .inl rfl|exact .inr rfl)(hs:swapsWith e (some (.Name x pos')) pos.line X.env=pure false:=by rfl)(hf:X.fn x=true\/X.env.scope.names.lookup x=some .local:=by first|exact .inl rfl|exact .inr rfl):
  gc X (.Assign [.Name x pos'] e pos) (B0 i h):=⟨cv (rO hN hi hx pe.o hs hf) fun D σ H aQ=>by
 obtain⟨ag,Av,pn,aC,Γ,fl,⟨ad,G⟩,hf,q⟩:=aQ;obtain⟨⟨d,Γ1⟩,e1,hf⟩:=aU hf;subst hf;exact⟨ag,Av,pn,aC,Γ,ad,d,Γ1,G,e1,fun v H' iy G' r=>q _ _ ⟨iy,G'.set i r⟩⟩⟩
theorem gg(pe:QH X e h):
  gc X (.Return (some e) pos) (B1 h):=⟨cv (oI pe.o) fun D σ H aQ=>by
 obtain⟨ag,Av,pn,aC,Γ,fl,⟨ad,G⟩,hf,q⟩:=aQ;obtain⟨⟨d,Γ1⟩,e1,hf⟩:=aU hf;subst hf;exact⟨ag,Av,pn,aC,Γ,ad,d,Γ1,G,e1,fun v H' iy G' r=>q σ v H' iy G' r⟩⟩
theorem wm{a b:List Stmt}(hc:yw X c ht)(pa:gL X a g1)(pb:gL X b g2):
  gc X (.If c a b pos) (Fz ht g1 g2):=⟨cv (Bc hc.o pa.o pb.o) fun D σ H aQ=>by
 obtain⟨ag,Av,pn,aC,Γ,fl,⟨ad,G⟩,hf,q⟩:=aQ;obtain⟨⟨k,Γ1⟩,e1,hf⟩:=bind_some hf;refine⟨ag,Av,pn,aC,Γ,ad,k,Γ1,G,e1,fun H' iy G'=>?_⟩;cases k with
 |true=>rw[if_pos rfl]at hf ⊢;exact⟨ag,Av,pn,aC,Γ1,fl,⟨iy,G'⟩,hf,q⟩
 |false=>rw[if_neg Bool.false_ne_true]at hf ⊢;exact⟨ag,Av,pn,aC,Γ1,fl,⟨iy,G'⟩,hf,q⟩⟩
theorem rM(i:Nat){k:Int}{j2:Nat}(pe:QH X e h)(hN:X.N[i]?=some x:=by rfl)(hv:mU X.env.scope x:=by first|exact Or.inl rfl|exact Or.inr (Or.inl rfl)|exact Or.inr (Or.inr rfl))(hd:(x==("__debug__" : Str))=false:=by decide)(gD:(x==("__classdict__" : Str))=false:=by decide)(ha:∀v,assign (.Subscript (.Name x p1) (.Constant (.int k) j2 p2) p3) X.env v=(do
   let ov <- holding [v] (eval (.Name x p1) X.env);let iv <- holding [v,ov] (eval (.Constant (.int k) j2 p2) X.env);standAt p3
   holding [v,ov,iv] (setItem ov iv v)
   release [v,ov,iv] []):=by intro _;rfl)(hs:swapsWithSole [.Subscript (.Name x p1) (.Constant (.int k) j2 p2) p3] e pos.line X.env=pure false:=by rfl)(hw:swappedStores [.Subscript (.Name x p1) (.Constant (.int k) j2 p2) p3] e X.env=pure none:=by rfl)(h1:(assignEach [.Subscript (.Name x p1) (.Constant (.int k) j2 p2) p3] X.env).map (·.2)=[assign (.Subscript (.Name x p1) (.Constant (.int k) j2 p2) p3) X.env]:=by rfl):
  gc X (.Assign [.Subscript (.Name x p1) (.Constant (.int k) j2 p2) p3] e pos) (oy i k h):=⟨cv (wD pe.o (Dh (mH hN hv hd gD) Dk set_list ha) hs hw h1) fun D σ H aQ=>by
 obtain⟨ag,Av,pn,aC,Γ,fl,⟨ad,G⟩,hf,q⟩:=aQ;obtain⟨⟨d,Γ1⟩,e1,hf⟩:=bind_some hf;dsimp only at hf;split at hf
 ·rename_i ds hi;obtain⟨j,e2,hf⟩:=aU hf;subst hf;refine⟨ag,Av,pn,aC,Γ,ad,d,Γ1,G,e1,fun v H' iy G' r=>?_⟩;obtain⟨xs,g1,g2,g3,g4⟩:=G'.own i ds hi;exact⟨_,g1,_,xs,k,j,rfl,rfl,g2,by rw[g3.length];exact e2,q _ _ ⟨iy,G'.change hi (g3.set r)⟩⟩
 ·cases hf⟩
theorem wq(h:QF X iter f):
  vg X tg iter (DM f):=⟨mG (oJ h.o) fun σ H R aQ=>by
 obtain⟨Av,ρ,ds,hA,hE,hf,q⟩:=aQ;obtain⟨d,e1,hf⟩:=bind_some hf;refine⟨Av,ρ,d,hA,hE,e1,fun x H1 s1 r=>?_⟩;cases d with
 |list dZ=>
  cases hf;obtain⟨a,xs,rfl,hq,rs⟩:=r.fG;exact⟨a,rfl,.inl ⟨⟨xs,hq.sq⟩,q _ [_] [_] H1 s1 (.cons r .nil) oP.s⟩⟩
 |tuple dZ=>
  cases hf;obtain⟨a,xs,rfl,hq,rs⟩:=r.fg;exact⟨a,rfl,.inr ⟨⟨xs,hq.sq⟩,q _ [_] [_] H1 s1 (.cons r .nil) qJ.s⟩⟩
 |_=>cases hf⟩
variable {fs:ar->Option (List Dat)} in
theorem qh(hm:X.mg "range"=none)(ha:jl X [a] fs)(E6:Gl X "range":=by rfl)(hst:starEach [a] X.env=[(false,eval a X.env)]:=by rfl):
  vg X tg (.Call (.Name "range" p) [a] [] pos') (xk kY fs):=⟨mG (oK E6 hm ha.o hst) fun σ H R aQ=>by
 obtain⟨Av,ρ,ds,hA,hE,hf,q⟩:=aQ;obtain⟨as,e1,e2⟩:=bind_some hf;refine⟨Av,ρ,as,hA,hE,e1,fun vs H1 s1 r=>?_⟩;unfold kY at e2;split at e2
 ·rename_i j;split at e2
  ·rename_i hj;cases e2;obtain⟨v,rfl,rv⟩:=r.cS;rw[rv.cU];exact⟨j,rfl,hj.1,hj.2,q _ [.bI] [.none] H1 s1 (.cons .bI .nil) nk.s⟩
  ·cases e2
 ·cases e2⟩
theorem lI(hp:PassesOwn (model X.prog X.w) X.A X.env X.xe)(hc:X.calm=true)(hi:vg X tg iter fi)(hg:QG X tg (ig X.K gt))(hb:gL X body gb)(hs:∀x,foldedSetIterable iter X.env x=pure x:=by intro _;rfl):
  gc X (.For tg iter body [] pos) (pQ gt gb fi):=⟨cv (rP hp hc hi.o hg.o hb.o hs) fun D σ H aQ=>by
 obtain⟨ag,Av,pn,aC,Γ,fl,⟨ad,G⟩,hf,q⟩:=aQ;obtain⟨ds,e1,hf⟩:=bind_some hf;exact⟨aS Av Γ ad,bD Γ,ds,G.gU,G.j6,e1,fun J xs jk H1 s1 rx ov=>BM ov (G.grow s1) rx hf q⟩⟩
theorem kv{aN:List (Option Nat)}(hc:X.calm=true)(B:o8 X scope cl N' aN)(hi:vg X tg iter fi)(hg:∀C aI ag ex,QG (cL X scope cl N' C aI ag ex) tg (ig X.K gt))(ht:∀C aI ag ex,yv (cL X scope cl N' C aI ag ex) ifs (jL X.K ft))(he:∀C aI ag ex,QF (cL X scope cl N' C aI ag ex) elt fe)(hT:jA gt aN)(hs:∀x,foldedSetIterable iter X.env x=pure x:=by intro _;rfl):
  QE X (.ListComp elt [⟨tg,iter,ifs,0⟩] scope pos) (kP X.K (ir aN gt ft fe fi)):=⟨bh (tE hc B hi.o ((fun C aI ag ex=>(hg C aI ag ex).o)) ((fun C aI ag ex=>(ht C aI ag ex).o)) ((fun C aI ag ex=>(he C aI ag ex).o)) hs) (zv hT)⟩
variable {fs:ar->Option (List Dat)} in
theorem ng{pt:Pos}(hm:X.mg "zip"=none)(ha:jl X [a,b] fs)(hg:Gl X "zip":=by rfl)(hs:starEach [a,b] X.env=[(false,eval a X.env),(false,eval b X.env)]:=by rfl)(Ip:starEach [b] X.env=[(false,eval b X.env)]:=by rfl):
  vg X (.Tuple kN kt pt) (.Call (.Name "zip" p) [a,b] [] pos) (sh fs):=⟨mG (LH hg hm ha.o hs Ip) fun σ H R aQ=>by
 obtain⟨Av,ρ,ds,hA,hE,hf,q⟩:=aQ;obtain⟨as,e1,hf⟩:=bind_some hf;refine⟨Av,ρ,as,hA,hE,e1,fun vs H1 s1 r=>?_⟩;match as,hf,r with
 |[d1,d2],hf,r=>
  obtain⟨x,f1,hf⟩:=bind_some hf;obtain⟨y,f2,hf⟩:=aU hf;subst hf;obtain⟨v,u,rfl,rv,ru⟩:=r.fw;obtain⟨k1,a1,rfl,g1⟩:=xg rv f1;obtain⟨k2,a2,rfl,g2⟩:=xg ru f2;obtain⟨xs,c1,_⟩:=g1 H1 Av rv;obtain⟨ys,c2,_⟩:=g2 H1 Av ru;refine⟨k1,k2,a1,a2,rfl,⟨xs,c1⟩,⟨ys,c2⟩,q _ [.ref a1,.ref a2] [d1,d2] H1 s1 r fun i H Av' rr=>?_⟩;obtain⟨v',u',e,CJ,SJ⟩:=rr.fw;cases e;obtain⟨xs,c1,rx⟩:=g1 H Av' CJ;obtain⟨ys,c2,ry⟩:=g2 H Av' SJ;refine⟨fun hl=>⟨xs,ys,c1,c2,?_⟩,fun di hd=>?_⟩
  ·rw[(kK (i:=0)).1]at hl;rw[rx.length,ry.length];omega
  ·obtain⟨dx,dy,h1,h2,rfl⟩:=(kK (xs:=x) (ys:=y) (i:=i)).2 di hd;obtain⟨vx,hx,Lk⟩:=rx.get h1;obtain⟨vy,hy,SI⟩:=ry.get h2;refine⟨⟨xs,ys,vx,vy,c1,c2,hx,hy⟩,fun z H' MH hz=>?_⟩;obtain⟨T,x',y',rfl,hT,rfl,hh⟩:=hz;obtain⟨h3,h4⟩:=hh xs ys c1 c2;rw[hx]at h3;rw[hy]at h4;cases h3;cases h4;exact⟨bP hT _,.qL MH hT (.cons Lk (.cons SI .nil))⟩⟩
variable {fs:ar->Option (List Dat)} in
theorem wt(ha:QE X a (kP X.K fs))(hb:QF X b fb):
  QE X (.BinOp a .Mult b pos) (kP X.K (qW fs fb)):=⟨bh (Bh LP ha.o hb.o) fun σ H Q aQ=>by
 obtain⟨Av,ρ,out,hA,hE,hf,q⟩:=aQ;obtain⟨ds,e1,hf⟩:=bind_some hf;obtain⟨d,e2,hf⟩:=bind_some hf;split at hf
 ·rename_i k;split at hf
  ·rename_i hk;cases hf;refine⟨Av,ρ,ds,hA,hE,e1,fun H1 p xs s1 hp r=>?_⟩;have s2:=bP hp (.lst xs);refine⟨Av,ρ,.int k,hA.same (s1.trans s2),hE.same (s1.trans s2),e2,fun y H2 s3 ry=>?_⟩;exact⟨p,k,xs,rfl,ry.cU,s3 p _ cW,hk.1.1,hk.1.2,by rw[r.length];exact hk.2,fun q' hq=>q H2 q' _ (s1.trans (s2.trans s3)) hq ((r.same (s2.trans s3)).rep _)⟩
  ·cases hf
 ·cases hf⟩
theorem rN(i:Nat){aN:List (Option Nat)}(hN:X.N.Nodup)(hc:X.calm=true)(B:o8 X scope cl N' aN)(hi:vg X tg iter fi)(hg:∀C aI ag ex,QG (cL X scope cl N' C aI ag ex) tg (ig X.K gt))(ht:∀C aI ag ex,yv (cL X scope cl N' C aI ag ex) ifs (jL X.K ft))(he:∀C aI ag ex,QF (cL X scope cl N' C aI ag ex) elt fe)(hT:jA gt aN)(qm:X.N[i]?=some x:=by rfl)(hx:Loc X.env.scope x:=by first|exact .inl rfl|exact .inr rfl)(xp:swapsWith (.ListComp elt [⟨tg,iter,ifs,0⟩] scope pos) (some (.Name x pos')) n6.line X.env=pure true:=by rfl)(xB:X.fn x=true\/X.env.scope.names.lookup x=some .local:=by first|exact .inl rfl|exact .inr rfl)(hs:∀x,foldedSetIterable iter X.env x=pure x:=by intro _;rfl):
  gc X (.Assign [.Name x pos'] (.ListComp elt [⟨tg,iter,ifs,0⟩] scope pos) n6) (n8 i (ir aN gt ft fe fi)):=⟨cv (tD hc B hi.o ((fun C aI ag ex=>(hg C aI ag ex).o)) ((fun C aI ag ex=>(ht C aI ag ex).o)) ((fun C aI ag ex=>(he C aI ag ex).o)) hN qm hx xp xB hs) fun D σ H aQ=>by
 obtain⟨ag,Av,pn,aC,Γ,fl,⟨ad,G⟩,hf,q⟩:=aQ;obtain⟨ds,e1,hf⟩:=aU hf;subst hf;exact zv hT σ H _ ⟨aS Av Γ ad,bD Γ,ds,G.gU,G.j6,e1,fun H1 p xs s hp r=>q _ _ ⟨ad,((G.grow s).grow (bP hp _)).set i (.oT (G.grow s).gU hp r)⟩⟩⟩
theorem LA{fa:Addr}(U:lT K x qual st fa fd)(S:fD N ps (aP st))(hn:ps.length=n)(hbody:∀(ba:Value) (A:Around) (outer:List Env) (s:Shared) (H:Hp) (E:XK),bS k (A.deeper (envOfC qual (aP st) s.heap.objs.size fa ba))->gL (gw gj P w K mg base N qual (aP st) fa ba A outer s H E).jP (cM st) g)(hF:∀ds d,ds.length=n->F ds=some d->iC N g ds=some d):fQ P w K mg base gj (k+1) fa fd ps (CB K n F):=by
 have dm:ps.length<=N.length:=by have:=congrArg List.length S.pre;rw[length_take]at this;omega
 refine U.ok S (fun vs H Q E h=>?_) (fun ba A outer s H vs Q E hr h=>?_)
 ·obtain⟨Av,ds,d,_,r,hl,_⟩:=h;rw[r.length,hl,hn]
 ·obtain⟨Av,ds,d,hA,r,hl,hd,q⟩:=h;have cV:=hF ds d hl hd;unfold iC at cV;refine⟨_,(hbody ba A outer s H E hr).o,?_⟩;cases hg:g (bW N ds)with
  |none=>rw[hg]at cV;cases cV
  |some fl=>
   refine⟨H,Av,none,[],bW N ds,fl,qU hA r (by omega),hg,?_⟩;rw[hg]at cV;cases fl with
   |nx Γ=>cases cV;exact fun bz H' ⟨ad,G⟩=>q _ H' G.same .bI
   |rt d'=>cases cV;exact fun v H' s r=>q v H' s r
   |bk Γ=>cases cV
   |ct Γ=>cases cV
   |rm d' Γ=>cases cV
open PySem PySem.Spec PyProof.Rows L2
open PySem.W (Dat kqdOk)
def CF:Dat->Option Int->Option Int->Option Dat
 | .list ds,lo,hi=>some (.list (cutD ds lo hi))
 | .tuple ds,lo,hi=>if ¬(HT.bU ds.length 0 lo=0/\HT.bU ds.length ds.length hi=ds.length)then some (.tuple (cutD ds lo hi))else none
 |_,_,_=>none
def p9 (f:ar->Option Dat) (fl fh:ar->Option (Option Int)):ar->Option Dat:=fun ρ=>(f ρ).bind fun d=>(fl ρ).bind fun l=>(fh ρ).bind fun h=>CF d l h
theorem Di{lo hi:Option Expr}{fl fh:ar->Option (Option Int)}(h:PF X e f)(hl:Qv X lo fl)(hh:Qv X hi fh):PF X (.Subscript e (.Slice lo hi none p2) pos) (p9 f fl fh):=bh (FX (Jk.or Ld) h hl hh) fun σ H Q aQ=>by
 obtain⟨Av,ρ,d,hA,hE,hf,q⟩:=aQ;obtain⟨dx,e1,hf⟩:=bind_some hf;obtain⟨l,e2,hf⟩:=bind_some hf;obtain⟨u,e3,hf⟩:=bind_some hf;refine⟨Av,ρ,_,hA,hE,e1,fun x H1 s1 r1=>⟨Av,ρ,l,hA.same s1,hE.same s1,e2,fun H2 s2=>⟨Av,ρ,u,hA.same (s1.trans s2),hE.same (s1.trans s2),e3,fun H3 s3=>?_⟩⟩⟩;have sa:=s1.trans (s2.trans s3);unfold CF at hf;split at hf
 ·cases hf;obtain⟨a,xs,rfl,hq,rs⟩:=(r1.same (s2.trans s3)).fG;refine .inl ⟨a,xs,rfl,hq.sq,fun p hp=>q _ _ (sa.trans (bP hp _)) (.oT (hA.same sa) hp ?_)⟩;unfold pB cutD;rw[rs.length];exact(rs.drop _).take _
 ·split at hf
  ·rename_i hw;cases hf;obtain⟨a,xs,rfl,hq,rs⟩:=(r1.same (s2.trans s3)).fg;refine .inr ⟨a,xs,rfl,hq.sq,by rw[rs.length];exact hw,fun p hp=>q _ _ (sa.trans (bP hp _)) (.qL (hA.same sa) hp ?_)⟩;unfold pB cutD;rw[rs.length];exact(rs.drop _).take _
  ·cases hf
 ·cases hf
theorem ni{lo hi:Option Expr}{fl fh:ar->Option (Option Int)}(h:QF X e f)(hl:J1 X lo fl)(hh:J1 X hi fh):QF X (.Subscript e (.Slice lo hi none p2) pos) (p9 f fl fh):=⟨Di h.o hl.o hh.o⟩
def HU (K:Fg):R2:=fun x y H Q=>∃l b xs zs,x=.ref l/\y=.ref b/\i7 K H l xs/\i7 K H b zs/\xs.length+zs.length<=sizeLine/\(xs=[]->Q (.ref b) H)/\(xs≠[]->zs=[]->Q (.ref l) H)/\(xs≠[]->zs≠[]->∀p,H p=none->Q (.ref p) (upd H p (.tup (xs++zs))))
theorem JQ:cZ X (binaryOp .Add) (HU X.K):=by
 intro pins s σ H x y v u Q I rx ry h;obtain⟨l,b,xs,zs,rfl,rfl,hH,hB,hz,q0,q1,q2⟩:=h;cases rx;cases ry;obtain⟨aq,r,p1,_⟩:=I.tuple hH;obtain⟨ic,r2,p2,_⟩:=I.tuple hB;obtain⟨⟨cls,dd,data,sl⟩,ho,hc,n,hd⟩:=p1;obtain⟨⟨Sd,ED,data2,CG⟩,oZ,xF,n2,hd2⟩:=p2;simp only at hc hd xF hd2;subst hc hd xF hd2;have h1:=r.length;have h2:=r2.length;have e:aq.toArray++ic.toArray=(aq++ic).toArray:=by simp
 have nf:=PySem.noFill_tuple_add;have sa:=PySem.seq_tuple_add;by_cases hv:aq=[]
 ·have hx:xs=[]:=r.pW.mp hv;exact concat_meets ⟨_,ho,rfl⟩ ⟨_,oZ,rfl⟩ nf sa F.slot_tuple_add F.entry_tuple_add (F.args_tuple_add_2 _ _) (tuple_addW0 l b aq.toArray ic.toArray n n2 dd ED sl CG (by simp[hv])) ⟨ho,oZ,⟨.ref b,H,I,rfl,q0 hx⟩⟩
 ·have hx:xs≠[]:=fun z=>hv (r.pW.mpr z);by_cases hw:ic=[]
  ·have hy:zs=[]:=r2.pW.mp hw;exact concat_meets ⟨_,ho,rfl⟩ ⟨_,oZ,rfl⟩ nf sa F.slot_tuple_add F.entry_tuple_add (F.args_tuple_add_2 _ _) (tuple_addW1 l b aq.toArray ic.toArray n n2 dd ED sl CG (by simpa using hv) (by simp[hw])) ⟨ho,oZ,⟨.ref l,H,I,rfl,q1 hx hy⟩⟩
  ·have hy:zs≠[]:=fun z=>hw (r2.pW.mpr z);refine concat_meets ⟨_,ho,rfl⟩ ⟨_,oZ,rfl⟩ nf sa F.slot_tuple_add F.entry_tuple_add (F.args_tuple_add_2 _ _) (tuple_addW2 l b aq.toArray ic.toArray n n2 dd ED sl CG (by simpa using hv) (by simpa using hw) (by rw[size_toArray,size_toArray];omega)) ⟨ho,oZ,?_⟩;rw[e];refine⟨.ref s.heap.objs.size,upd H s.heap.objs.size (.tup (xs++zs)),I.laid (t':=s.toks) (fun b u e=>get?_push_of_some _ e) (le_refl _) ?_,rfl,q2 hx hy _ I.fresh⟩;exact⟨by rw[length_append];exact hz,_,r.append r2,⟨_,get?_push_size _ rfl,rfl,_,rfl⟩⟩
def tW:Dat->Dat->Option Dat
 | .list xs,.list ys=>if xs.length+ys.length<=sizeLine then some (.list (xs++ys))else none
 | .tuple xs,.tuple ys=>if xs.length+ys.length<=sizeLine then some (.tuple (xs++ys))else none
 |x,y=>k9 x y
theorem Ga:jm X.K (fun x y H Q=>(HV X.K x y H Q\/HU X.K x y H Q)\/((∃i j,x=.int i/\y=.int j/\Q (.int (i+j)) H)\/∃i j,x=.str i/\y=.str j/\i.length+j.length<=sizeLine/\Q (.str (i++j)) H)) tW:=by
 intro H Av x y dx dy d Q hA rx ry h q;unfold tW at h;split at h
 ·split at h
  ·rename_i hz;cases h;obtain⟨l,xs,rfl,hq,rs⟩:=rx.fG;obtain⟨m,ys,rfl,A8,rJ⟩:=ry.fG;exact .inl (.inl ⟨l,m,xs,ys,rfl,rfl,hq.sq,A8.sq,by rw[rs.length,rJ.length];exact hz,fun p hp=>q _ _ (bP hp _) (.oT hA hp (rs.append rJ))⟩)
  ·cases h
 ·split at h
  ·rename_i hz;cases h;obtain⟨l,xs,rfl,hq,rs⟩:=rx.fg;obtain⟨m,ys,rfl,A8,rJ⟩:=ry.fg;refine .inl (.inr ⟨l,m,xs,ys,rfl,rfl,hq.sq,A8.sq,by rw[rs.length,rJ.length];exact hz,fun e=>?_,fun _ e=>?_,fun _ _ p hp=>q _ _ (bP hp _) (.qL hA hp (rs.append rJ))⟩)
   ·subst e;cases rs;exact q _ H (aL.refl H) (.tup A8 rJ)
   ·subst e;cases rJ;rw[append_nil]at q;exact q _ H (aL.refl H) (.tup hq rs)
  ·cases h
 ·unfold k9 at h;split at h
  ·cases h;exact .inr (.inl ⟨_,_,rx.cU,ry.cU,q _ H (aL.refl H) (.int _)⟩)
  ·split at h
   ·rename_i hz;cases h;exact .inr (.inr ⟨_,_,rx.gO,ry.gO,hz,q _ H (aL.refl H) (.str _)⟩)
   ·cases h
  ·cases h
theorem nj(pa:QF X a fa)(pb:QF X b fb):QF X (.BinOp a .Add b pos) (f2 tW fa fb):=⟨l6 ((JR.or JQ).or (wN.or nq)) Ga pa.o pb.o⟩
theorem Jz(pa:QF X a fa)(pb:QF X b fb):QF X (.Compare a [.Is] [b] pos) (f2 iH fa fb):=⟨oM Dp zS pa.o pb.o (dR _)⟩
open PySem PySem.Spec PyProof.Rows L2
open PySem.W (Dat kqdOk)
def y8 (h:Heap) (l:Addr):Heap:=h.push {cls:=.type "list_iterator",data:=.fields #[.ref l,.int 0 0]}
theorem Et(l:Addr)(aq:Array Value):Meets (Builtin.«enumerate.__new__» ⟨[.type "enumerate",.ref l],[]⟩) (fun _ R s=>s.heap.IsList l aq/\R (.ok (.ret (.ref (y8 s.heap l).objs.size))) {s with heap:=(y8 s.heap l).push {cls:=.type "enumerate",data:=.fields #[.none,.bool false,.ref s.heap.objs.size,rawInt 0,.none,.none]}}):=
 .of_wp fun prog w A R s h=>by
  obtain⟨hp,g,d,tk,os⟩:=s;obtain⟨c1,h⟩:=h;have RM:=sub_enumerate;have e1:IsList (Shared.heap ⟨hp,g,d,tk,os⟩) l aq:=c1;wp_walk using wpAny_pyIter_list e1
  refine wpAny_stack_any fun st=>wpAny_pure ?_;split
  ·rename_i c _ _ _ _ _;cases(c==Value.type "enumerate")<;>(wp_walk using wpAny_pyIter_list e1;exact⟨_,rfl,h⟩)
  ·wp_walk using wpAny_pyIter_list e1
   exact⟨_,rfl,h⟩
theorem BX{s:Shared}{l:Addr}(c1:s.heap.IsList l aq)(h:∀h' e it,e≠it->IsEnum h' e it 0 .none->h'.IsListIter it l 0->(∀b o,s.heap.get? b=some o->h'.get? b=some o)->(∀b∈[e,it],s.heap.objs.size<=b)->Q (.ref e) {s with heap:=h'}):
  wpAny (model prog w) A (call (.type "enumerate") [.ref l]) Q E s:=by
 refine callType_new F.called_enumerate (by decide) (F.typeCall_enumerate_1 _) (F.newCall_enumerate_1 _) (fun obj=>F.args_object_init_2 obj _) F.entry_enumerate_new (Et l aq) ⟨c1,?_⟩;have y1:(y8 s.heap l).objs.size=s.heap.objs.size+1:=by unfold y8;rw[size_push]
 have f2:((y8 s.heap l).push {cls:=.type "enumerate",data:=.fields #[.none,.bool false,.ref s.heap.objs.size,rawInt 0,.none,.none]}).get? (y8 s.heap l).objs.size=some _:=get?_push_size _ rfl;have f1:((y8 s.heap l).push {cls:=.type "enumerate",data:=.fields #[.none,.bool false,.ref s.heap.objs.size,rawInt 0,.none,.none]}).get? s.heap.objs.size=some _:=get?_push_of_some _ (get?_push_size _ rfl);refine(?_:_/\_);refine⟨⟨_,f2,rfl⟩,h _ _ s.heap.objs.size (by rw[y1];exact Nat.succ_ne_self _) f2 ⟨_,f1,rfl,rfl⟩ (fun b o e=>get?_push_of_some _ (get?_push_of_some _ e)) fun b hb=>?_⟩;simp only[mem_cons,not_mem_nil,or_false]at hb;rcases hb with e|e
 ·rw[e,y1];exact Nat.le_succ _
 ·rw[e];exact le_refl _
def QL (K:Fg) (a:Addr):It:=
 ⟨fun i H=>∃xs x,eC K H a xs/\xs[i]?=some x,
  fun i H v H'=>∃T x,v=.ref T/\H T=none/\H'=upd H T (.tup [.int i,x])/\∀xs,eC K H a xs->xs[i]?=some x,
  fun i H=>∃xs,eC K H a xs/\xs.length<=i⟩
theorem Cv{pt:Pos}{a e:Addr}(ne:e≠it):
  Turn P w K (.Tuple kN kt pt) (QL K a) [e,it] e (fun i h=>(∃old,IsEnum h e it (i:Int) old)/\h.IsListIter it a i) where
 mem:=mem_cons_self
 obj:=fun i h st b hb=>by
  obtain⟨⟨old,Z⟩,o,ho,_,hd⟩:=st;simp only[mem_cons,not_mem_nil,or_false]at hb;rcases hb with q|q
  ·rw[q];exact⟨_,Z,fun v z=>nomatch z⟩
  ·rw[q];exact⟨o,ho,fun v z=>by rw[hd]at z;cases z⟩
 keep:=fun i h h' st k=>by
  obtain⟨⟨old,Z⟩,o,ho,r⟩:=st;exact⟨⟨old,k e (by simp) _ Z⟩,o,k it (by simp) _ ho,r⟩
 item:=by
  intro X hP hw hK hc i pins s σ H E I hf st hg;subst hP hw hK;obtain⟨⟨old,Z⟩,w1⟩:=st;obtain⟨xs,x,c1,hx⟩:=hg;obtain⟨aq,r1,p1,_⟩:=I.list c1;obtain⟨ux,Mt,rx⟩:=r1.get hx;have lt:∀b∈[e,it],b<s.heap.objs.size:=fun b hb=>by
   simp only[mem_cons,not_mem_nil,or_false]at hb;rcases hb with q|q
   ·rw[q];exact lt_size Z
   ·rw[q];obtain⟨o,ho,_⟩:=w1;exact lt_size ho
  refine wpAny_pyNext_enum_item Z w1 p1.isList (x:=ux) (by simpa using Mt) ne fun g b1 b2 b3 b4 b5=>⟨_,rfl,?_⟩;refine wpAny_letOwnedTupleGo_enum (s:={s with heap:=g,toks:=s.toks+1}) b1 fun g' b6 b7=>?_;have In:Inv X pins σ (upd H s.heap.objs.size (.tup [.int i,x])) {s with heap:=s.heap.push {cls:=.type "tuple",data:=.seq #[.int i s.toks,ux]},toks:=s.toks+1}:=
   I.laid (t':=s.toks+1) (fun b u e=>get?_push_of_some _ e) (le_refl _) ⟨by show 2<=sizeLine;decide,[.int i s.toks,ux],.cons ⟨_,rfl⟩ (.cons rx .nil),⟨_,get?_push_size _ rfl,rfl,_,rfl⟩⟩
  have sk:∀b∈[e,it],(upd H s.heap.objs.size (.tup [.int i,x])) b=none:=fun b hb=>by
   rw[bc (ne_of_lt (lt b hb))];exact(hf b hb).1
  have I3:Inv X pins σ (upd H s.heap.objs.size (.tup [.int i,x])) {s with heap:=g',toks:=s.toks+1}:=pM (s:={s with heap:=s.heap.push {cls:=.type "tuple",data:=.seq #[.int i s.toks,ux]},toks:=s.toks+1}) (h':=g') (t':=s.toks+1) (ch:=[e,it]) In (fun b o hb q=>by
   simp only[mem_cons,not_mem_nil,or_false,not_or]at hb;refine b7.extBut _ _ hb.1 ?_;rcases Heap.get?_push_cases (show(s.heap.push {cls:=.type "tuple",data:=.seq #[.int i s.toks,ux]}).get? b=some o from q)with⟨e1,e2⟩|e1
   ·rw[e1,e2];exact b3
   ·exact b5 b o hb.1 hb.2 e1) fun b hb=>⟨sk b hb,(hf b hb).2⟩
  refine⟨.ref s.heap.objs.size,upd H s.heap.objs.size (.tup [.int i,x]),I3,rfl,⟨_,x,rfl,I.bx.fresh (le_refl _),rfl,fun ys d1=>?_⟩,⟨⟨_,b6⟩,?_⟩,sk⟩
  ·rw[I.qP d1 c1];exact hx
  ·obtain⟨o,ho,r⟩:=b2;exact⟨o,b7.extBut _ _ ne.symm ho,r⟩
 done:=by
  intro X hP hw hK hc i pins s σ H E I hf st hg;subst hP hw hK;obtain⟨⟨old,Z⟩,w1⟩:=st;obtain⟨xs,c1,hl⟩:=hg;obtain⟨aq,r1,p1,_⟩:=I.list c1;have l1:=r1.length;refine wpAny_pyNext_enum_end (I.ok.hd hc) Z w1 p1.isList (by simp;omega) fun g k=>⟨rfl,?_⟩;exact pM (h':=g) (t':=s.toks) (ch:=[e,it]) I (fun b o hb q=>by
   simp only[mem_cons,not_mem_nil,or_false,not_or]at hb;exact k b o hb.2 q) hf
 self:=fun A i s Q E st h=>wpAny_pyIter_enum st.1.choose_spec h
def Oy (K:Fg) (ta:TA):TI:=fun σ H R=>ta σ H fun vs H1=>∃a1,vs=[.ref a1]/\(∃xs,eC K H1 a1 xs)/\R (QL K a1) H1
theorem JG{pt:Pos}{ta:TA}(hg:Gl X "enumerate")(hm:X.mg "enumerate"=none)(ha:PA X [a] ta)(hs:starEach [a] X.env=[(false,eval a X.env)]:=by rfl):
  PI X (.Tuple kN kt pt) (.Call (.Name "enumerate" p) [a] [] pos) (Oy X.K ta):=by
 intro pins s σ H R I h;refine Call_ (mK I hg hm boot_enumerate (PyProof.Rows.callWith_type1 (bX (ha pos pins s σ H _ I h) fun us s1 ⟨vs,H1,I1,r1,q1⟩=>?_) (by rw[hs];rfl) (by rfl)));obtain⟨a1,e,⟨xs,c1⟩,q⟩:=q1;subst e;cases r1 with
 |cons r rr=>
  cases rr;cases r;obtain⟨Bw,_,p1,_⟩:=I1.list c1;exact BX p1.isList fun h' e it ne Z w1 kk new=>wpAny_pyIter_enum Z ⟨e,[e,it],_,_,H1,rfl,I1.kept (t':=s1.toks) kk,Cv ne,⟨⟨_,Z⟩,w1⟩,fun b hb=>I1.xT (new b hb) (I1.bx.fresh (new b hb)),q⟩
def j7:Nat->List Dat->List Dat
 |_,[]=>[]
 |i,x::xs=>.tuple [.int i,x]::j7 (i+1) xs
variable {fs:ar->Option (List Dat)} in
def oX (fs:ar->Option (List Dat)):ar->Option (List Dat):=fun ρ=>(fs ρ).bind fun ds=>match ds with
 |[.list xs]=>some (j7 0 xs)
 |_=>none
theorem uU:∀(xs:List Dat) (i:Nat),(j7 i xs).length=xs.length
 |[],_=>rfl
 |x::xs,i=>congrArg (· + 1) (uU xs (i+1))
theorem uV:∀{xs:List Dat} {k i:Nat} {d:Dat},(j7 k xs)[i]?=some d->∃x,xs[i]?=some x/\d=.tuple [.int ((k+i:Nat):Int),x]
 |[],k,i,d,h=>by simp[j7]at h
 |x::xs,k,0,d,h=>by simp[j7]at h;exact⟨x,rfl,h.symm⟩
 |x::xs,k,i+1,d,h=>by
  obtain⟨y,h1,h2⟩:=uV (xs:=xs) (k:=k+1) (i:=i) (by simpa [j7]using h);exact⟨y,by simpa using h1,by rw[h2,show k+1+i=k+(i+1) by omega]⟩
variable {fs:ar->Option (List Dat)} in
theorem FT{pt:Pos}(hm:X.mg "enumerate"=none)(ha:J2 X [a] fs)(hg:Gl X "enumerate":=by rfl)(hs:starEach [a] X.env=[(false,eval a X.env)]:=by rfl):
  Qs X (.Tuple kN kt pt) (.Call (.Name "enumerate" p) [a] [] pos) (oX fs):=mG (JG hg hm ha hs) fun σ H R aQ=>by
 obtain⟨Av,ρ,ds,hA,hE,hf,q⟩:=aQ;obtain⟨as,e1,hf⟩:=bind_some hf;refine⟨Av,ρ,as,hA,hE,e1,fun vs H1 s1 r=>?_⟩;match as,hf,r with
 |[.list x],hf,r=>
  cases hf;obtain⟨v,rfl,rv⟩:=r.cS;obtain⟨a1,xs,rfl,c1,_⟩:=rv.fG;refine⟨a1,rfl,⟨xs,c1.sq⟩,q _ [.ref a1] [.list x] H1 s1 r fun i H Av' rr=>?_⟩;obtain⟨v',e,CJ⟩:=rr.cS;cases e;obtain⟨_,xs,e,c1,rx⟩:=CJ.fG;cases e;refine⟨fun hl=>⟨xs,c1.sq,?_⟩,fun di hd=>?_⟩
  ·rw[uU]at hl;rw[rx.length];exact hl
  ·obtain⟨dx,h1,rfl⟩:=uV hd;obtain⟨vx,hx,Lk⟩:=rx.get h1;refine⟨⟨xs,vx,c1.sq,hx⟩,fun z H' MH hz=>?_⟩;obtain⟨T,x',rfl,hT,rfl,hh⟩:=hz;have h3:=hh xs c1.sq;rw[hx]at h3;cases h3;rw[zero_add];exact⟨bP hT _,.qL MH hT (.cons (.int _) (.cons Lk .nil))⟩
variable {fs:ar->Option (List Dat)} in
theorem oE{pt:Pos}(hm:X.mg "enumerate"=none)(ha:jl X [a] fs)(hg:Gl X "enumerate":=by rfl)(hs:starEach [a] X.env=[(false,eval a X.env)]:=by rfl):
  vg X (.Tuple kN kt pt) (.Call (.Name "enumerate" p) [a] [] pos) (oX fs):=⟨FT hm ha.o hg hs⟩
open PySem PySem.Spec PyProof.Rows L2
open PySem.W (Dat kqdOk)
variable {hI:ay->Option (List Dat×ay)}
def P1 (K:Fg) (hI:ay->Option (List Dat×ay)):TI:=fun σ H R=>∃ag Av pn aC Γ ad aq aj,GA K ag Av pn aC H σ Γ ad/\hI Γ=some (aq,aj)/\∀J xs jk H1 gF,GA K ag Av pn aC H1 σ aj gF->ax K H1 (aS Av aj gF) xs jk->vL K J xs jk aq->R J H1
abbrev Qp (X:Cx) (tg iter:Expr) (hI:ay->Option (List Dat×ay)):Prop:=QI X tg iter (P1 X.K hI)
def GD (rg:List Dat->Option (List Dat)) (hs:ay->Option (List Dat×ay)):ay->Option (List Dat×ay):=fun Γ=>(hs Γ).bind fun p=>(rg p.1).map fun aq=>(aq,p.2)
theorem yI(hm:X.mg "range"=none)(ha:yx X [a] hs)(E6:Gl X "range":=by rfl)(hst:starEach [a] X.env=[(false,eval a X.env)]:=by rfl):Qp X tg (.Call (.Name "range" p) [a] [] pos') (GD kY hs):=⟨mG (oK E6 hm ha.o hst) fun σ H R aQ=>by
 obtain⟨ag,Av,pn,aC,Γ,ad,aq,aj,G,hf,q⟩:=aQ;obtain⟨⟨as,Γ1⟩,e1,hf⟩:=bind_some hf;obtain⟨its',e2,hf⟩:=aU hf;obtain⟨h1,h2⟩:=Prod.mk.inj hf;subst h1 h2;refine⟨ag,Av,pn,aC,Γ,ad,as,Γ1,G,e1,fun vs H1 gF G1 r=>?_⟩;dsimp only at e2;unfold kY at e2;split at e2
 ·rename_i j;split at e2
  ·rename_i hj;cases e2;obtain⟨v,rfl,rv⟩:=r.cS;rw[rv.cU];exact⟨_,rfl,hj.1,hj.2,q _ [.bI] [.none] H1 gF G1 (.cons .bI .nil) nk.s⟩
  ·cases e2
 ·cases e2⟩
def sA (i:Nat) (gy:List (Option Nat)) (gt:Dat->Option cH) (fe:HF) (hI:ay->Option (List Dat×ay)):ay->Option (List Dat×ay):=fun Hx=>(hI Hx).bind fun p=>match p.2[i]? with
 |some (some (.own ds))=>if p.1.length<sizeLine then(q9 gt fe (nH (de gy (bD p.2))) p.1 ds).map fun q=>(q.1,p.2.set i (some (.own q.2)))else none
 |_=>none
variable {gy:List (Option Nat)}
theorem Jh{fe:HF}(ht:jA gt (some i::gy)):∀σ H Q,SD K (sA i gy gt fe hI) σ H Q->pN (some i::gy) (P1 K hI) (ig K gt) F9 (tH K fe) σ H Q:=by
 rintro σ H Q ⟨ag,Av,pn,aC,Sk,UJ,out,aj,Gi,hf,q⟩;obtain⟨⟨aq,Γ⟩,e1,hf⟩:=bind_some hf;dsimp only at hf;split at hf
 ·rename_i IP hi;split at hf
  ·rename_i hz;obtain⟨⟨LO,MY⟩,e2,hf⟩:=aU hf;obtain⟨h1,h2⟩:=Prod.mk.inj hf;subst h1 h2;clear hf;dsimp only at q;refine⟨ag,Av,pn,aC,Sk,UJ,aq,Γ,Gi,e1,fun J xs jk H1 ad G rx ov=>?_⟩;refine⟨fun k m ys H2=>m=aq.length-k/\k<=aq.length/\∃uY o1 o2 df,GA K ag Av pn aC H2 σ (Γ.set i (some (.own uY))) ad/\ax K H2 (aS Av Γ ad) xs jk/\ax K H2 (aS Av Γ ad) ys o1/\o1.length<=k/\q9 gt fe (nH (de gy (bD Γ))) (aq.drop k) uY=some (o2,df)/\LO=o1++o2/\MY=df,
    ⟨_,rfl,zero_le _,IP,[],LO,MY,?_,rx,.nil,le_refl _,by rw[drop_zero];exact e2,rfl,rfl⟩,?_⟩
   ·have:Γ.set i (some (.own IP))=Γ:=by
     apply List.ext_getElem?
     intro j;by_cases e:j=i
     ·subst e;rw[getElem?_set_self (cT hi),hi]
     ·rw[getElem?_set_ne (Ne.symm e)]
    rw[this];exact G
   rintro k m ys H2 ⟨rfl,hk,uY,o1,o2,df,G2,rx,ro,hl,hc,rfl,rfl⟩;have PV:(Γ.set i (some (Slot.own uY)))[i]?=some (some (.own uY)):=getElem?_set_self (cT hi);refine⟨by have:=ro.length;omega,?_⟩;have UI:ff H2 (aS Av Γ ad):=fun b z=>G2.gU b (aS.kx hi b z);cases fH:aq[k]? with
   |none=>
    have hle:aq.length<=k:=List.getElem?_eq_none_iff.mp fH;rw[drop_eq_nil_of_le hle]at hc;cases hc;refine .inl ⟨(ov k H2 _ rx).1 hle,fun D hD=>q H2 D ys ad G2 hD ?_⟩;rw[append_nil];exact ro.weak (aS.set_own hi)
   |some di=>
    have bV:=cT fH;rw[drop_cons fH]at hc;obtain⟨as,a1,hc⟩:=bind_some (show(gt di).bind _=some (o2,MY)from hc);obtain⟨⟨dv,OV⟩,a2,hc⟩:=bind_some hc;dsimp only at hc;split at hc
    ·rename_i MZ h0;obtain⟨⟨o3,UC⟩,a3,hc⟩:=aU hc;cases hc;obtain⟨go,yl⟩:=(ov k H2 _ rx).2 di fH;refine .inr ⟨go,fun y H' hy=>?_⟩;obtain⟨sH,ry⟩:=yl y H' UI hy;refine⟨aS Av Γ ad,di,as,ry,a1,fun ws hw=>?_⟩;have cs:∀p∈as,(bY (some i::gy) σ)[p.1]?=some none:=fun p hp=>by
      unfold bY;rw[getElem?_map,ht di as a1 p hp];rfl
     have G3:=G2.grow sH;obtain⟨zs,g1,g2,g3,g4⟩:=G3.own i uY PV;have PY:bY (some i::gy) σ=some (.ref (ad i))::bY gy σ:=by
      unfold bY;rw[map_cons];show((σ[i]?).join)::_=_;rw[g1];rfl
     have E3:dH K H' (aS Av Γ ad) (bY gy σ) (de gy (bD Γ)):=by
      have:=G3.j6;rw[Gu hi]at this;exact dH.aN (fun j d h=>let ⟨v,e,r⟩:=this j d h;⟨v,e,r.weak (aS.kx hi)⟩) gy
     have UH:ff H' (aS Av Γ ad):=fun b z=>G3.gU b (aS.kx hi b z);have Gb:=GI (K:=K) (a:=ad i) UH (.inr ⟨i,_,hi,rfl,rfl⟩) g2 (g3.weak (aS.kx hi)) E3 (by unfold bY de;rw[length_map,length_map]);have So:∀b,aS (fun b=>aS Av Γ ad b/\b≠ad i) (some (.own uY)::nH (de gy (bD Γ))) (fun _=>ad i) b->aS Av Γ ad b:=by
      rintro b (z|⟨_,_,_,_,rfl⟩)
      ·exact z.1
      ·exact .inr ⟨i,_,hi,rfl,rfl⟩
     rw[PY];rw[PY]at cs;refine⟨dJ.gz hw cs (dJ.refl _),?_⟩;simp only[F9,if_true];refine⟨_,_,some (ad i),[],_,_,dv,OV,GA.Jm hw So Gb,a2,fun v H4 Qk G4 r4=>?_⟩;obtain⟨us,u1,u2,u3,u4⟩:=G4.own 0 MZ h0;have ea:Qk 0=ad i:=G4.pin _ _ rfl h0;have OX:∀b,aS Av Γ ad b->aS (fun b=>aS Av Γ ad b/\b≠ad i) OV Qk b:=fun b z=>by
      by_cases eb:b=ad i
      ·exact .inr ⟨0,_,h0,rfl,ea.trans eb.symm⟩
      ·exact .inl ⟨z,eb⟩
     have kk:∀b o,H' b=some o->b≠ad i->H4 b=some o:=fun b o h ne=>G4.same b o (by rw[if_neg ne];exact h);have kp:jB H' (aS Av Γ ad) H4 (aS Av Γ ad):=fun b o h n=>⟨kk b o h fun z=>n (.inr ⟨i,_,hi,rfl,z.symm⟩),n⟩;have G5:=G3.lend (es:=MZ) PV kk (by rw[<- ea];exact u2) (u3.weak fun b z=>OX b (aS.set_own (es:=uY) hi b z));rw[List.set_set]at G5;refine⟨aq.length-(k+1),by omega,rfl,by omega,MZ,o1++[dv],o3,UC,G5,(rx.same sH).mono kp,((ro.same sH).mono kp).append (.cons (r4.weak OX) .nil),?_,a3,?_,rfl⟩
     ·rw[length_append,length_singleton];omega
     ·rw[append_assoc];rfl
    ·cases hc
  ·cases hf
 ·cases hf
theorem B6(i j:Nat){fe:HF}(hN:X.N.Nodup)(hc:X.calm=true)(B:o8 X scope cl N' (some j::gy))(hi:Qp X tg iter hI)(hg:∀C aI ag ex,QG (cL X scope cl N' C aI ag ex) tg (ig X.K gt))(he:∀C aI ag ex,QH (cL X scope cl N' C aI ag ex) elt fe)(hT:jA gt (some j::gy))(qm:X.N[i]?=some x:=by rfl)(hx:Loc X.env.scope x:=by first|exact .inl rfl|exact .inr rfl)(xp:swapsWith (.ListComp elt [⟨tg,iter,[],0⟩] scope pos) (some (.Name x pos')) n6.line X.env=pure true:=by rfl)(xB:X.fn x=true\/X.env.scope.names.lookup x=some .local:=by first|exact .inl rfl|exact .inr rfl)(hs:∀x,foldedSetIterable iter X.env x=pure x:=by intro _;rfl):
  gc X (.Assign [.Name x pos'] (.ListComp elt [⟨tg,iter,[],0⟩] scope pos) n6) (w6 i (sA j gy gt fe hI)):=⟨cv (tD hc B hi.o (fun C aI ag ex=>(hg C aI ag ex).o) (fun _ _ _ _=>zJ) (fun C aI ag ex=>(he C aI ag ex).o) hN qm hx xp xB hs) fun D σ H aQ=>by
 obtain⟨ag,Av,pn,aC,Γ,fl,⟨ad,G⟩,hf,q⟩:=aQ;obtain⟨⟨ds,Γ1⟩,e1,hf⟩:=aU hf;subst hf;exact Jh hT σ H _ ⟨ag,Av,pn,aC,Γ,ad,ds,Γ1,G,e1,fun H1 p xs gF G1 hp r=>q _ _ ⟨gF,(G1.grow (bP hp _)).set i (.oT G1.gU hp r)⟩⟩⟩
open PySem PySem.Spec PyProof.Rows L2
open PySem.W (Dat kqdOk kqdP kqdPs kqd_lay)
abbrev RK:=Str×List Int
def d8 (k:RK):Dat:=.tuple [.str k.1,.tuple (k.2.map .int)]
def pR (w:World) (k:RK):Int:=reduceHash (Builtin.Tuple.tupleHashOf [hashStr w k.1,reduceHash (Builtin.Tuple.tupleHashOf (k.2.map hashInt))])
def dh (P:Program) (w:World) (h:Heap) (k:RK) (a:Addr):Prop:=∃o n t b,h.get? a=some o/\o.cls=.type "tuple"/\o.data=.seq #[.str k.1 t,.ref b] n/\IsTupleKey (intKind P w) h k.2 b/\PyData.strOk k.1=true
variable {k:RK} {a:Addr}
variable {s:Shared} in
theorem dh.ty(x:dh P w s.heap k a):s.TypeIs (.ref a) "tuple":=by
 obtain⟨o,n,t,b,h1,h2,_⟩:=x;exact⟨o,h1,h2⟩
variable {h:Heap} {x y:RK}
theorem dh.same(p:dh P w h x a)(q:dh P w h y a):x=y:=by
 obtain⟨o,n,t,b,h1,h2,h3,h4,_⟩:=p;obtain⟨o',n',t',b',g1,g2,g3,g4,_⟩:=q;have e:o=o':=Option.some.inj (h1.symm.trans g1);subst e;rw[h3]at g3;injection g3 with g3 _;injection g3 with g3;injection g3 with e1 e2;injection e2 with e2 _;injection e1 with e1 _;injection e2 with e2;subst e2;exact Prod.ext e1 (h4.inj g4)
variable {d:Addr}
theorem dh.lZ{o:Obj}{es ep}(x:dh P w h k a)(ho:h.get? d=some o)(hd:o.data=.dict es ep)(hs:SameBut d h h'):dh P w h' k a:=by
 obtain⟨o',n,t,b,h1,h2,h3,h4,h5⟩:=x;refine⟨o',n,t,b,(hs.2 a ?_).trans h1,h2,h3,h4.keeps ho hd hs,h5⟩;intro z;subst z;rw[h1]at ho;cases ho;rw[hd]at h3;cases h3
variable {s:Shared} in
theorem dh.hash{Q:Int->Shared->Prop}(hu:A.units+8<cLine)(hk:dh P w s.heap k a)(h:Q (pR w k) {s with toks:=s.toks+(k.2.length+3)}):wpAny (model P w) A (pyHash (.ref a)) Q E s:=by
 have ty:=hk.ty;obtain⟨o,n,t,b,ho,_,hd,hb,_⟩:=hk;unfold pyHash pyHashByItsType;refine wpAny_bind (wpAny_cRoomFor_or (.inr (by omega)) (wpAny_bind (wpAny_specialOf ty F.slot_tuple_hash.lookup ?_)));have nb:¬((some (Value.builtin "tuple.__hash__")==some Value.none)=true):=by rw[beq_builtin_none];exact Bool.false_ne_true
 refine(?_:wpAny _ _ (if(some (Value.builtin "tuple.__hash__")==some Value.none)=true then _ else _) Q E s);rw[if_neg nb];refine wpAny_bind (wpAny_specialOf ty F.slot_tuple_hash.lookup (?_:wpAny _ _ (callSpecialIfBoundUnlessNone? (.ref a) "__hash__" _ >>= _) Q E s));refine wpAny_bind (wpAny_callSpecialIfBoundUnlessNone?_slot ty F.slot_tuple_hash (wpAny_call_entry F.slot_tuple_hash ty F.entry_tuple_hash ?_ (F.args_tuple_hash_1 _)));refine(?_:wpAny _ _ (Builtin.Tuple.tupleItemsOf (.ref a) >>= _) _ _ s);refine wpAny_bind (wpAny_tupleItemsOf ho hd (wpAny_bind ?_));rw[<- forIn_toList];refine wpAny_forIn_list _ (fun rest (arr:Array Int) s'=>(rest=[.str k.1 t,.ref b]/\arr.toList=[]/\s'=s)\/(rest=[.ref b]/\arr.toList=[hashStr w k.1]/\s'={s with toks:=s.toks+1})\/
  (rest=[]/\arr.toList=[hashStr w k.1,tupleKeyHash (intKind P w) k.2]/\s'={s with toks:=s.toks+1+(k.2.length+1)})) _ ?_ ?_ _ _ (.inl ⟨rfl,rfl,rfl⟩)
 ·rintro x rest arr s' (⟨h1,h2,rfl⟩|⟨h1,h2,rfl⟩|⟨h1,_⟩)
  ·cases h1;refine wpAny_bind (wpAny_pyHash_str ?_);first
    |exact wpAny_pure (.inr (.inl ⟨rfl,by simp[h2],rfl⟩))
    |exact wpAny_bind (wpAny_pure (wpAny_pure (.inr (.inl ⟨rfl,by simp[h2],rfl⟩))))
  ·cases h1;refine wpAny_bind (wpAny_pyHash_tuple (by first|omega|(show A.units+1<cLine;omega)|(show A.units+2<cLine;omega)) hb ?_)
   first
    |exact wpAny_pure (.inr (.inr ⟨rfl,by simp[h2],rfl⟩))
    |exact wpAny_bind (wpAny_pure (wpAny_pure (.inr (.inr ⟨rfl,by simp[h2],rfl⟩))))
  ·cases h1
 ·rintro arr s' (⟨h1,_⟩|⟨h1,_⟩|⟨_,h2,rfl⟩)
  ·cases h1
  ·cases h1
  ·refine(?_:wpAny _ _ (retInt (Builtin.Tuple.tupleHashOf arr.toList)) _ _ _);rw[h2];refine wpAny_ret_mkInt ?_;have e1:tupleKeyHash (intKind P w) k.2=reduceHash (Builtin.Tuple.tupleHashOf (k.2.map hashInt)):=rfl;rw[e1];unfold pR at h;generalize hz:Builtin.Tuple.tupleHashOf [hashStr w k.1,reduceHash (Builtin.Tuple.tupleHashOf (k.2.map hashInt))]=z at h;refine(?_:wpAny _ _ (if(decide (-(2:Int)^63<=z)&&decide (z<2^63))=true then _ else _) Q E _);have et:s.toks+1+(k.2.length+1)+1=s.toks+(k.2.length+3):=by omega
   unfold reduceHash at h;by_cases hr:(decide (-(2:Int)^63<=z)&&decide (z<2^63))=true
   ·rw[if_pos hr]at h ⊢;exact wpAny_pure (by rw[<- et]at h;exact h)
   ·rw[if_neg hr]at h ⊢;exact wpAny_bind (wpAny_rule (wpAny_pure (by rw[<- et]at h;exact h)))
theorem rX{h:Heap}:∀{ns:List Int} {vs:List Value},ItemsAre (intKind P w) ns vs->ReadsAll h vs (kqdPs (ns.map Dat.int)) []
 |[],_,.nil=>by rw[map_nil,kqdPs];exact .nil
 |n::ns,_,.cons h1 hr=>by
  obtain⟨t,rfl⟩:=Value.isInt_shape (k:=n) h1;rw[map_cons,kqdPs,kqdP];have:=ReadsAll.cons (Reads.int n t) (rX (h:=h) hr);exact this
theorem dh.reads(x:dh P w h k a):Reads h (.ref a) (kqdP (d8 k)) []:=by
 obtain⟨o,n,t,b,h1,h2,h3,⟨o',aq,n',g1,g2,g3,g4⟩,_⟩:=x;unfold d8;rw[kqdP,kqdPs,kqdPs,kqdPs,kqdP,kqdP];refine .tuple h1 h2 h3 ?_;have:=ReadsAll.cons (Reads.str (h:=h) k.1 t) (ReadsAll.cons (Reads.tuple g1 g2 g3 (rX (h:=h) g4)) .nil);exact this
theorem dh.CC(x:dh P w h k a):PyData.strOk k.1=true:=let ⟨_,_,_,_,_,_,_,_,q⟩:=x;q
theorem kF(hk:PyData.strOk k.1=true):kqdOk 9 (d8 k)=true:=by
 have e:(k.2.map Dat.int).all (kqdOk 7)=true:=by rw[all_map,all_eq_true];exact fun _ _=>rfl
 unfold d8;simp only[kqdOk,all_cons,List.all_nil,e,hk,Bool.and_true,Bool.true_and]
theorem nc(h:d8 x=d8 y):x=y:=by
 unfold d8 at h;simp only[PySem.W.Dat.tuple.injEq,List.cons.injEq,PySem.W.Dat.str.injEq,and_true]at h;exact Prod.ext h.1 ((List.map_inj_right fun a b e=>by simpa using e).mp h.2)
variable {Q:Bool->Shared->Prop}
variable {s:Shared} in
theorem dh.eqv{b:Addr}(hu:A.units+8<cLine)(hx:dh P w s.heap x a)(hy:dh P w s.heap y b)(h:Q (decide (x=y)) s):wpAny (model P w) A (eqBool (.ref a) (.ref b)) Q E s:=by
 have l1:=kqd_lay 9 _ (kF hx.CC);have l2:=kqd_lay 9 _ (kF hy.CC);have d3:(kqdP (d8 x)).depth<=3:=by
  have e:kqdOk 3 (d8 x)=true:=by
   have e:(x.2.map Dat.int).all (kqdOk 1)=true:=by rw[all_map,all_eq_true];exact fun _ _=>rfl
   unfold d8;simp only[kqdOk,all_cons,List.all_nil,e,hx.CC,Bool.and_true,Bool.true_and]
  exact(kqd_lay 3 _ e).2
 refine PySem.SeqAt.eqBoolOverData P w A E s _ _ _ _ _ _ Q hx.reads hy.reads l1.1 l2.1 (by omega) ?_;rw[q4 _ _ (kF hx.CC) (kF hy.CC)];by_cases e:x=y
 ·subst e;rw[mS rfl];rw[decide_eq_true rfl]at h;exact h
 ·rw[pA fun z=>e (nc z)];rw[decide_eq_false e]at h;exact h
variable {m:Nat}
variable {s:Shared} in
theorem B5{ks:List Int}(hk:IsTupleKey (intKind P w) s.heap ks a)(h:Q true s):wpAny (model P w) A (eqIsQuiet (m+1) (.ref a)) Q E s:=by
 have hT:=hk.typeIs;obtain⟨o,aq,n,ho,_,hd,hi⟩:=hk;unfold eqIsQuiet;refine wpAny_bind (wpAny_specialOf hT F.slot_tuple_eq.lookup (?_:wpAny _ _ (isInstance (.ref a) (.type "tuple") >>= _) _ _ s));refine wpAny_bind (wpAny_isInstance hT isSubtype_tuple_tuple ?_);simp only[Bool.not_true,false_eq_true,if_false];refine wpAny_bind (wpAny_seqItems ho hd (wpAny_bind (?_:wpAny _ _ (forIn aq _ _) _ _ s)));rw[<- forIn_toList];refine wpAny_forIn_list _ (fun tl acc s2=>(∀x∈tl,carriedByValue x=true)/\s2=s/\acc.1=none) _ ?_ ?_ _ _ ⟨hi.byValue,rfl,rfl⟩
 ·rintro x tl acc s2 ⟨hv,rfl,ha⟩;rw[eqIsQuiet_byValue _ (hv x mem_cons_self)];refine wpAny_bind (wpAny_pure ?_);simp only[Bool.not_true,false_eq_true,if_false];exact wpAny_pure ⟨fun u q=>hv u (mem_cons_of_mem _ q),rfl,rfl⟩
 ·rintro⟨c1,c2⟩ s2 ⟨_,rfl,ha⟩;simp only at ha;subst ha;exact wpAny_pure h
variable {s:Shared} in
theorem dh.quiet(hk:dh P w s.heap k a)(h:Q true s):wpAny (model P w) A (eqIsQuiet 8 (.ref a)) Q E s:=by
 have hT:=hk.ty;obtain⟨o,n,t,b,ho,_,hd,hb,_⟩:=hk;unfold eqIsQuiet;refine wpAny_bind (wpAny_specialOf hT F.slot_tuple_eq.lookup (?_:wpAny _ _ (isInstance (.ref a) (.type "tuple") >>= _) _ _ s));refine wpAny_bind (wpAny_isInstance hT isSubtype_tuple_tuple ?_);simp only[Bool.not_true,false_eq_true,if_false];refine wpAny_bind (wpAny_seqItems ho hd (wpAny_bind (?_:wpAny _ _ (forIn #[Value.str k.1 t,.ref b] _ _) _ _ s)));rw[<- forIn_toList];refine wpAny_forIn_list _ (fun rest r s'=>r.1=none/\s'=s/\(∀v∈rest,carriedByValue v=true\/v=.ref b)) _ ?_ ?_ _ _ ⟨rfl,rfl,fun v hv=>by
  simp only[mem_cons,not_mem_nil,or_false]at hv;rcases hv with e|e
  ·rw[e];exact .inl rfl
  ·exact .inr e⟩
 ·rintro v rest acc s2 ⟨ha,rfl,xH⟩;rcases xH v mem_cons_self with e|e
  ·rw[eqIsQuiet_byValue _ e];refine wpAny_bind (wpAny_pure ?_);simp only[Bool.not_true,false_eq_true,if_false];exact wpAny_pure ⟨rfl,rfl,fun u q=>xH u (mem_cons_of_mem _ q)⟩
  ·rw[e];refine wpAny_bind (B5 hb ?_);simp only[Bool.not_true,false_eq_true,if_false];exact wpAny_pure ⟨rfl,rfl,fun u q=>xH u (mem_cons_of_mem _ q)⟩
 ·rintro⟨c1,c2⟩ s2 ⟨ha,rfl,_⟩;simp only at ha;subst ha;exact wpAny_pure h
def tv (P:Program) (w:World):HeapKind P w RK where
 is:=dh P w
 hash:=pR w
 draws:=fun k=>k.2.length+3
 room:=fun A=>A.units+8<cLine
 inj:=fun p q=>p.same q
 keeps:=fun x ho hd hs=>x.lZ ho hd hs
 pyHash:=fun hu hk h=>hk.hash hu h
 eqBool:=fun hu hx hy h=>hx.eqv hu hy h
 quiet:=fun hk h=>hk.quiet h
open PySem PySem.Spec PyProof.Rows L2
open PySem.W (Dat kqdOk)
def qA (h:Heap) (d:Addr) (es:Array DictEntry) (ep:Nat):Prop:=∃o,h.get? d=some o/\o.ExactDict/\o.data=.dict es ep
variable {ep:Nat} {es:Array DictEntry}
variable {s:Shared} in
theorem qA.ty(m:qA s.heap d es ep):s.TypeIs (.ref d) "dict":=let ⟨o,e,c,_⟩:=m;⟨o,e,c.1⟩
variable {s:Shared} in
theorem Kf{Q:Value->Shared->Prop}(nd:(d==sysModules)=false)(m:qA s.heap d es ep)(q:Q (.ref s.heap.objs.size) {s with heap:=s.heap.push {cls:=.type "dict_keyiterator",data:=.fields #[.ref d,.int 0 0,.int es.size 0,.int ep 0]}}):wpAny (model P w) A (pyIter (.ref d)) Q E s:=by
 have ty:=m.ty;obtain⟨o,e,c,da⟩:=m;refine wpAny_pyIter_slot ty F.slot_dict_iter (wpAny_call_entry F.slot_dict_iter ty F.entry_dict_iter ?_ (F.args_dict_iter_1 _));unfold Builtin.«dict.__iter__» Builtin.Dict.dictSlotNone;refine wpAny_bind (wpAny_bind (wpAny_notOrdered_dict ty (wpAny_pure ?_)));refine(?_:wpAny _ _ (Builtin.Dict.showsAll d >>= _) _ _ s);unfold Builtin.Dict.showsAll;rw[if_neg (fun z=>Bool.false_ne_true (nd.symm.trans z))];refine wpAny_bind (wpAny_pure (wpAny_bind (wpAny_dictEntries e da (wpAny_bind (wpAny_dictEpoch e da (wpAny_bind (wpAny_newObj_type (wpAny_pure ⟨_,rfl,"dict_keyiterator",_,⟨_,get?_push_size _ rfl,rfl⟩,F.slot_dict_keyiterator_next.lookup,?_⟩))))))));simpa [rawInt]using q
variable {s:Shared} in
theorem Ke{Q:Option Value->Shared->Prop}{x:DictEntry}(ki:s.heap.IsKeyIter it d i es.size ep)(m:qA s.heap d es ep)(hx:es[i]?=some x)(q:∀h',h'.IsKeyIter it d (i+1) es.size ep->SameBut it s.heap h'->Q (some x.key) {s with heap:=h'}):wpAny (model P w) A (pyNext (.ref it)) Q E s:=by
 have ty:=ki.typeIs;obtain⟨o,e,c,da⟩:=id ki;obtain⟨o2,e2,c2,EE⟩:=id m;have lt:i<es.size:=by
  by_cases z:i<es.size
  ·exact z
  ·rw[Array.getElem?_eq_none (by omega)]at hx;cases hx
 unfold pyNext;refine wpAny_bind (wpAny_attempt (wpAny_callSpecial?_slot (name:=Str.ofString "__next__") ty F.slot_dict_keyiterator_next (wpAny_call_entry F.slot_dict_keyiterator_next ty F.entry_dict_keyiterator_next (wpAny_bind (wpAny_pure (wpAny_bind (wpAny_bind ?_)))) (F.args_dict_keyiterator_next_1 _))));first|refine wpAny_bind (wpAny_typeNameOfWhole_keyiter ty (wpAny_pure (wpAny_bind (wpAny_fieldsOf e da ?_))))|refine wpAny_bind (wpAny_typeNameOf_keyiter ty (wpAny_pure (wpAny_bind (wpAny_fieldsOf e da ?_))))
 have ow:Builtin.Dict_items.ownsTuple "dict_keyiterator"=false:=by decide
 simp only[ow,false_eq_true,if_false];refine(?_:wpAny _ _ (if(Value.ref d==Value.none)=true then _ else _) _ _ s);have nn:¬((Value.ref d==Value.none)=true):=Bool.false_ne_true;rw[if_neg nn];refine wpAny_bind (wpAny_pure (wpAny_bind (wpAny_dictEntries e2 EE ?_)));rw[if_neg (by simp)];refine wpAny_bind (wpAny_pure (wpAny_bind (wpAny_dictEpoch e2 EE ?_)));rw[if_neg (by simp)];refine wpAny_pure ?_;simp only[show ¬((i:Int)<0) by omega,if_false,toNat_natCast,hx];refine wpAny_bind ?_;first|refine wpAny_bind (wpAny_typeNameOfWhole_keyiter ty (wpAny_pure (wpAny_bind (wpAny_isOneOf_keyiter ty ?_))))|refine wpAny_bind (wpAny_typeNameOf_keyiter ty (wpAny_pure (wpAny_bind (wpAny_isOneOf_keyiter ty ?_))))
 refine(?_:wpAny _ _ (setField (.ref it) 1 (rawInt ((i:Int)+1)) >>= _) _ _ s);refine wpAny_bind (wpAny_setField e da (by simp) ?_);have Px:(s.heap.update it (Obj.mapFields (·.setIfInBounds 1 (rawInt ((i:Int)+1))))).IsKeyIter it d (i+1) es.size ep:=⟨_,Heap.get?_update_self _ e (Obj.isFreed_of_fields (Obj.data_mapFields da _)),(Obj.cls_mapFields ..).trans c,by rw[Obj.data_mapFields da];simp[rawInt]⟩;refine wpAny_bind (wpAny_holding (wpAny_bind (wpAny_isOneOf_keyiter (s:={s with heap:=s.heap.update it (Obj.mapFields (·.setIfInBounds 1 (rawInt ((i:Int)+1))))}) Px.typeIs ?_)));refine(?_:wpAny _ _ (pure x.key) _ _ _);exact wpAny_pure (wpAny_pure ⟨_,rfl,wpAny_pure (q _ Px (SameBut.update ..))⟩)
variable {s:Shared} in
theorem MW{Q:Option Value->Shared->Prop}(hh:A.handled=none)(ki:s.heap.IsKeyIter it d es.size es.size ep)(m:qA s.heap d es ep)(q:∀h',Heap.ExtBut it s.heap h'->Q none {s with heap:=h'}):wpAny (model P w) A (pyNext (.ref it)) Q E s:=by
 have ty:=ki.typeIs;obtain⟨o,e,c,da⟩:=id ki;obtain⟨o2,e2,c2,EE⟩:=id m;unfold pyNext;refine wpAny_bind (wpAny_attempt (wpAny_callSpecial?_slot (name:=Str.ofString "__next__") ty F.slot_dict_keyiterator_next (wpAny_call_entry F.slot_dict_keyiterator_next ty F.entry_dict_keyiterator_next (wpAny_bind (wpAny_pure (wpAny_bind (wpAny_bind ?_)))) (F.args_dict_keyiterator_next_1 _))));first|refine wpAny_bind (wpAny_typeNameOfWhole_keyiter ty (wpAny_pure (wpAny_bind (wpAny_fieldsOf e da ?_))))|refine wpAny_bind (wpAny_typeNameOf_keyiter ty (wpAny_pure (wpAny_bind (wpAny_fieldsOf e da ?_))))
 have ow:Builtin.Dict_items.ownsTuple "dict_keyiterator"=false:=by decide
 simp only[ow,false_eq_true,if_false];refine(?_:wpAny _ _ (if(Value.ref d==Value.none)=true then _ else _) _ _ s);have nn:¬((Value.ref d==Value.none)=true):=Bool.false_ne_true;rw[if_neg nn];refine wpAny_bind (wpAny_pure (wpAny_bind (wpAny_dictEntries e2 EE ?_)));rw[if_neg (by simp)];refine wpAny_bind (wpAny_pure (wpAny_bind (wpAny_dictEpoch e2 EE ?_)));rw[if_neg (by simp)];refine wpAny_pure ?_;simp only[show ¬((es.size:Int)<0) by omega,if_false,toNat_natCast,Array.getElem?_eq_none (le_refl es.size)];refine wpAny_bind ?_;first|refine wpAny_bind (wpAny_typeNameOfWhole_keyiter ty (wpAny_pure ?_))|refine wpAny_bind (wpAny_typeNameOf_keyiter ty (wpAny_pure ?_))
 refine(?_:wpAny _ _ (setField (.ref it) 0 .none >>= _) _ _ s);refine wpAny_bind (wpAny_setField e da (by simp) (?_:wpAny _ _ (newExc (.type "StopIteration") [] >>= _) _ _ _));refine wpAny_bind ?_;simp only[newExc,newTuple];refine wpAny_bind (wpAny_newObj_type (wpAny_bind (m:=firstArgMember _ _) (wpAny_of_eq (a:=Value.none) (by first|rfl|(simp only[firstArgMember];rfl)) (wpAny_newObj_type ?_ (by size_fits)))) (by size_fits))
 simp only[raiseNew];refine wpAny_bind (wpAny_handled ?_);have h0:A.in1.handled=none:=hh;rw[h0];refine wpAny_bind (wpAny_pure (wpAny_throw (wpAny_bind ?_)));refine wpAny_isInstance (T:="StopIteration") (b:=true) ⟨_,get?_push_size _ rfl,rfl⟩ isSubtype_stop (?_:wpAny _ _ _ _ _ _);exact wpAny_pure (q _ (((SameBut.update ..).extBut.push _).push _))
theorem qA.of(m:qA h d es ep)(k:∀o,h.get? d=some o->h'.get? d=some o):qA h' d es ep:=let ⟨o,e,r⟩:=m;⟨o,k o e,r⟩
theorem GO(hh:A.handled=none)(it d:Addr)(ne:d≠it)(es:Array DictEntry)(ep:Nat):Walks P w A it [it,d] [it] es.size (fun i v=>∃x,es[i]?=some x/\v=x.key) (fun i h=>h.IsKeyIter it d i es.size ep/\qA h d es ep) where
 sub:=fun b hb=>by simp at hb;simp[hb]
 frame:=fun _ _ _ st k=>⟨st.1.at fun o e=>k it (by simp) o e,st.2.of fun o e=>k d (by simp) o e⟩
 item:=fun i s Q E hi st q=>Ke st.1 st.2 (Array.getElem?_eq_getElem hi) fun h' k1 sb=>q _ h' s.toks ⟨_,Array.getElem?_eq_getElem hi,rfl⟩ ⟨k1,st.2.of fun o e=>sb.extBut d o ne e⟩ fun b o hb e=>sb.extBut b o (fun z=>hb (by simp[z])) e
 done:=fun s Q E st q=>MW hh st.1 st.2 fun h' eb=>q h' s.toks fun b o hb e=>eb b o (fun z=>hb (by simp[z])) e
 self:=fun _ _ _ _ st q=>wpAny_pyIter_keyiter st.1 q
theorem MV(nd:(d==sysModules)=false):PySem.W.KdlSrc P w "dict" d d es.size (fun i v=>∃x,es[i]?=some x/\v=x.key) (fun h=>qA h d es ep) where
 type:=fun _ m=>m.ty
 there:=fun _ ⟨_,e,_⟩=>⟨lt_size e,lt_size e⟩
 keep:=fun _ _ m k=>m.of fun o e=>k d (.inl rfl) o e
 notList:=by decide
 notTuple:=by decide
 hint:=fun _ _ _ _ m q=>PySem.W.kdl_hint_dict m.ty q
 iter:=fun _ s hh m=>⟨_,_,(fun _ _ q=>Kf nd m q),GO hh _ d (let ⟨_,e,_⟩:=m;ne_of_lt (lt_size e)) es ep,⟨⟨_,get?_push_size _ rfl,rfl,rfl⟩,m.of fun o e=>get?_push_of_some _ e⟩⟩
open PySem PySem.Spec PyProof.Rows L2
open PySem.W (Dat kqdOk)
def GY (w:World) (p:RK×Addr):DictEntry:=⟨pR w p.1,.ref p.2,.bool true⟩
def iw (w:World) (ks:List RK) (a:Addr) (xs:List V) (h:Heap):Prop:=
 (a==sysModules)=false/\ks.length<=sizeLine/\ks.Nodup/\∃as:List Addr,as.length=ks.length/\xs=as.map V.ref/\∃o es ep,h.get? a=some o/\o.ExactDict/\o.data=.dict es ep/\es.toList=(ks.zip as).map (GY w)
variable {ks:List RK}
theorem iw.ok(m:iw w ks a xs h):fK P w H h a (.ext (iw w ks a xs)):=by
 refine⟨m,?_,fun h1 h2 m1 k=>?_⟩
 ·obtain⟨_,_,_,_,_,_,o,_,_,e,_⟩:=m;exact⟨o,e⟩
 ·obtain⟨c1,c2,c3,as,c4,c5,o,es,ep,e,r⟩:=m1;exact⟨c1,c2,c3,as,c4,c5,o,es,ep,k o e,r⟩
def O4 (w:World):TE:=fun _ H Q=>∀p,H p=none->Q (.ref p) (upd H p (.ext (iw w [] p [])))
theorem JK:PE X (.Dict [] [] pos) (O4 X.w):=fun pins s σ H Q I h=>by
 refine wpAny_Dict_empty ⟨.ref s.heap.objs.size,_,I.laid (a:=s.heap.objs.size) (o:=.ext (iw X.w [] s.heap.objs.size [])) (t':=s.toks) (fun _ _ q=>get?_push_of_some _ q) (le_refl _) (iw.ok ⟨?_,zero_le _,nodup_nil,[],rfl,rfl,_,#[],0,get?_push_size _ rfl,⟨rfl,rfl,rfl⟩,rfl,rfl⟩),rfl,h _ (I.bx.fresh (le_refl _))⟩;have b:=I.big;exact beq_eq_false_iff_ne.mpr (Nat.ne_of_gt b)
theorem uK:∀{ns:List Int} {ys:List V} {us:List Value},ax K H Av ys (ns.map Dat.int)->Vals ys us->ItemsAre (intKind P w) ns us
 |[],_,_,.nil,.nil=>.nil
 |n::ns,_,_,.cons r1 r2,.cons v1 v2=>by
  rw[r1.cU]at v1;obtain⟨t,rfl⟩:=v1;exact .cons (by simp[intKind,Value.isInt]) (uK r2 v2)
theorem CN{σ:L2.St}{s:Shared}(I:Inv X pins σ H s)(hk:PyData.strOk k.1=true)(r:aM X.K H Av v (d8 k)):∃b,v=.ref b/\dh X.prog X.w s.heap k b:=by
 obtain⟨b,xs,rfl,hq,rs⟩:=r.fg;refine⟨b,rfl,?_⟩;obtain⟨aq,vs,⟨o,ho,hc,n,hd⟩,_⟩:=I.tuple hq.sq;cases rs with
 |cons r1 rs=>
  cases rs with
  |cons r2 rs=>
   cases rs;rw[r1.gO]at vs;obtain⟨c,ys,e2,A8,rJ⟩:=r2.fg;subst e2;obtain⟨ic,Sq,⟨o2,oZ,xF,n2,hd2⟩,_⟩:=I.tuple A8.sq;cases vs with
   |cons v1 vs=>
    cases vs with
    |cons v2 vs=>
     cases vs;obtain⟨t,rfl⟩:=v1;cases v2;exact⟨o,n,t,c,ho,hc,hd,⟨o2,ic.toArray,n2,oZ,xF,hd2,by rw[List.toList_toArray];exact uK rJ Sq⟩,hk⟩
theorem wg{pins:List (Addr×Obj)}{σ:L2.St}{s:Shared}(I:Inv X pins σ H s):∀{ks:List RK} {as:List Addr},(∀k∈ks,PyData.strOk k.1=true)->ax X.K H Av (as.map V.ref) (ks.map d8)->∀p∈ks.zip as,dh X.prog X.w s.heap p.1 p.2
 |[],_,_,_,p,hp=>by simp at hp
 |k::ks,[],_,_,p,hp=>by simp at hp
 |k::ks,a::as,hs,.cons r1 r2,p,hp=>by
  rw[zip_cons_cons]at hp;rcases mem_cons.mp hp with e|hp
  ·obtain⟨b,e1,q⟩:=CN I (hs k mem_cons_self) r1;injection e1 with e1;rw[e,e1];exact q
  ·exact wg I (fun k hk=>hs k (mem_cons_of_mem _ hk)) r2 p hp
def gq (ks:List RK) (k:RK):List RK:=if k∈ks then ks else ks++[k]
def vB (ks:List RK) (xs:List V) (k:RK) (v:V):List V:=if k∈ks then xs else xs++[v]
def Oc (K:Fg) (w:World):Ce:=fun o i v H Q=>∃p ks xs k Av,o=.ref p/\v=.bl true/\H p=some (.ext (iw w ks p xs))/\(∀k∈ks,PyData.strOk k.1=true)/\PyData.strOk k.1=true/\ax K H Av xs (ks.map d8)/\aM K H Av i (d8 k)/\ks.length<sizeLine/\Q (upd H p (.ext (iw w (gq ks k) p (vB ks xs k i))))
def nZ (ks:List RK) (as:List Addr):List (RK×Addr×Value):=(ks.zip as).map fun p=>(p.1,p.2,Value.bool true)
variable {as:List Addr}
theorem q8(h:as.length=ks.length):(nZ ks as).map (·.1)=ks:=by
 unfold nZ;rw[map_map];show(ks.zip as).map Prod.fst=ks;rw[List.map_fst_zip (by omega)]
theorem Kz(h:as.length=ks.length):(nZ ks as).length=ks.length:=by
 unfold nZ;rw[length_map,length_zip,h,Nat.min_self]
theorem Nn(h:as.length=ks.length):(atKey (nZ ks as) k).isSome=decide (k∈ks):=by
 unfold atKey;rw[Option.isSome_map];by_cases c:k∈ks
 ·rw[decide_eq_true c];rw[<- q8 h]at c;obtain⟨x,hx,e⟩:=mem_map.mp c;exact List.find?_isSome.mpr ⟨x,hx,decide_eq_true e⟩
 ·rw[decide_eq_false c];refine Bool.eq_false_iff.mpr fun z=>?_;obtain⟨x,hx,e⟩:=List.find?_isSome.mp z;refine c ?_;rw[<- q8 h];exact mem_map.mpr ⟨x,hx,of_decide_eq_true e⟩
theorem Cw{b:Addr}(h:as.length=ks.length):storedH (nZ ks as) k b (.bool true)=nZ (gq ks k) (if k∈ks then as else as++[b]):=by
 have e:=Nn (k:=k) h;unfold storedH gq;by_cases c:k∈ks
 ·rw[decide_eq_true c]at e;rw[if_pos e,if_pos c,if_pos c];unfold nZ;rw[map_map];refine List.map_congr_left fun p _=>?_;show putAt k (.bool true) (p.1,p.2,.bool true)=_;unfold putAt;split<;>rfl
 ·rw[decide_eq_false c]at e;rw[if_neg (by rw[e];decide),if_neg c,if_neg c];unfold nZ;rw[List.zip_append h.symm,map_append];rfl
theorem Eu:(nZ ks as).map (entryOfKey (tv P w))=(ks.zip as).map (GY w):=by
 unfold nZ;rw[map_map];rfl
theorem zj:∀{as:List Addr} {us:List Value},us.length=as.length->(∀(j:Nat) (a:Addr) (u:Value),as[j]?=some a->us[j]?=some u->u=.ref a)->Vals (as.map V.ref) us
 |[],[],_,_=>.nil
 |[],_::_,h,_=>by simp at h
 |_::_,[],h,_=>by simp at h
 |a::as,u::us,h,q=>.cons (q 0 a u rfl rfl) (zj (by simpa using h) fun j b v h1 h2=>q (j+1) b v (by simpa using h1) (by simpa using h2))
theorem Jl(hu:X.A.units+20<cLine):Hk X (Oc X.K X.w):=by
 intro pins s σ H o i v ov iv u Q I ro ri rv h;obtain⟨p,ks,xs,k,Av,rfl,rfl,hp,hs,hk,rs,rk,hz,q⟩:=h;cases ro;cases rv;obtain⟨b,rfl,hb⟩:=CN I hk rk;cases ri;obtain⟨m,_,_⟩:=(show fK X.prog X.w H s.heap p (.ext (iw X.w ks p xs))from I.bx p _ hp);obtain⟨c1,c2,c3,as,c4,rfl,o,es,ep,e,xd,da,he⟩:=m;have hm:s.heap.DictOfH (tv X.prog X.w) p (nZ ks as):=⟨o,es,ep,e,xd,da,by rw[Eu];exact he,fun x hx=>by
  obtain⟨y,hy,rfl⟩:=mem_map.mp hx;exact wg I hs rs y hy,by rw[q8 c4];exact c3⟩
 refine wpAny_setItem_heap (knd:=tv X.prog X.w) (show X.A.in1.units+8<cLine by first|omega|(show X.A.units+1+8<cLine;omega)) hb hm (fun h' A9 sb=>?_) (by rw[Kz c4];omega)
 rw[Cw c4]at A9;obtain⟨o',Ak,Es,e',Sn,UD,Iy,_,Po⟩:=A9;have l2:(if k∈ks then as else as++[b]).length=(gq ks k).length:=by
  unfold gq;split
  ·exact c4
  ·rw[length_append,length_append,c4];rfl
 have n2:(gq ks k).Nodup:=by rw[q8 l2]at Po;exact Po
 have z2:(gq ks k).length<=sizeLine:=by
  unfold gq;split
  ·exact c2
  ·rw[length_append];show ks.length+1<=sizeLine;omega
 have x2:vB ks (as.map V.ref) k (.ref b)=(if k∈ks then as else as++[b]).map V.ref:=by
  unfold vB;split
  ·rfl
  ·rw[map_append];rfl
 refine⟨_,I.write (x:=p) (e:=p) (by rw[hp];trivial) (.inl rfl) (fun c u ne ec=>(sb.2 c ne).trans ec) ⟨o',e'⟩ (iw.ok ⟨c1,z2,n2,_,l2,x2,o',Ak,Es,e',Sn,UD,by rw[Eu]at Iy;exact Iy⟩),q⟩
theorem EN(hh:X.A.handled=none):jf X (.type "list") (fun vs H Q=>∃p ks xs,vs=[.ref p]/\H p=some (.ext (iw X.w ks p xs))/\∀l,H l=none->Q (.ref l) (upd H l (.lst xs))):=by
 intro pins s σ H vs us Q I hv h;obtain⟨p,ks,xs,rfl,hp,q⟩:=h;cases hv with
 |cons v1 v2=>
  cases v2;cases v1;obtain⟨m,_,_⟩:=(show fK X.prog X.w H s.heap p (.ext (iw X.w ks p xs))from I.bx p _ hp);obtain⟨c1,c2,c3,as,c4,rfl,o,es,ep,e,xd,da,he⟩:=m;have ez:es.size=ks.length:=by rw[<- length_toList,he,length_map,length_zip,c4,Nat.min_self]
  refine PySem.W.kdl_call (MV (es:=es) (ep:=ep) c1) hh ⟨o,e,xd,da⟩ (by rw[ez];exact c2) fun h' tk acc c' k hl hi=>?_;have hv:Vals (as.map V.ref) acc.toList:=by
   have hlen:acc.toList.length=as.length:=by rw[length_toList,hi.1,ez,c4]
   refine zj hlen fun j a u ha hu=>?_;obtain⟨x,hx,rfl⟩:=hi.2 j u (by rw[<- Array.getElem?_toList];exact hu);have hj:j<ks.length:=by rw[<- c4];exact(List.getElem?_eq_some_iff.mp ha).1
   have xn:((ks.zip as).map (GY X.w))[j]?=some x:=by rw[<- he,Array.getElem?_toList];exact hx
   rw[getElem?_map]at xn;cases hz:(ks.zip as)[j]? with
   |none=>rw[hz]at xn;cases xn
   |some y=>
    rw[hz]at xn;cases xn;have:=(List.getElem?_zip_eq_some.mp hz).2;rw[ha]at this;cases this;rfl
  refine⟨.ref s.heap.objs.size,_,I.laid (t':=tk) (a:=s.heap.objs.size) (o:=.lst (as.map V.ref)) k (le_refl _) ?_,rfl,q _ I.fresh⟩;exact⟨by rw[length_map,c4];exact c2,acc.toList,_,hv,by rw[Array.toArray_toList];exact hl⟩
open PySem PySem.Spec PyProof.Rows L2
open PySem.W (Dat kqdOk)
theorem GA.Lg(G:GA K ag Av pn aC H σ Γ ad){O:Addr->List V->Heap->Prop}{p:Addr}(i:Nat)(kg:i≠0)(hp:H p=none)(r:ax K H (aS Av Γ ad) xs ds):
  GA K ag Av pn aC (upd H p (.ext (O p xs))) (σ.set i (some (.ref p))) (Γ.set i (some (.obj O ds))) (fun j=>if j=i then p else ad j):=by
 have sm:aL H (upd H p (.ext (O p xs))):=bP hp _;have Du:∀j s,Γ[j]?=some (some s)->Slot.mt s=true->ad j≠p:=fun j s h m=>by
  obtain⟨⟨o,b⟩,_⟩:=G.mt h m;exact b9 b hp
 have kp:jB H (aS Av Γ ad) (upd H p (.ext (O p xs))) (aS Av (Γ.set i (some (.obj O ds))) (fun j=>if j=i then p else ad j)):=by
  intro b o h n;refine⟨sm b o h,?_⟩;rintro(z|⟨j,es,e,m,r⟩)
  ·exact n (.inl z)
  ·rcases aK e with⟨e1,_⟩|⟨e1,q⟩
   ·have r':p=b:=by simpa [e1]using r
    exact b9 h hp r'.symm
   ·have r':ad j=b:=by simpa [e1]using r
    exact n (.inr ⟨j,es,q,m,r'⟩)
 have z0:ag p=none:=by
  cases e0:ag p with
  |none=>rfl
  |some o=>have:=G.same p o e0;rw[hp]at this;cases this
 refine⟨G.same.trans sm,G.gi,by rw[length_set,length_set];exact G.len,fun j d' h=>?_,fun j es h=>?_,fun j l es fs h1 h2 m1 m2 e=>?_,fun q hq=>(G.aC q hq).mono kp,fun a es e h=>?_,fun j O' es h=>?_⟩
 ·rcases aK h with⟨e,q⟩|⟨e,q⟩
  ·cases q
  ·obtain⟨u,a,b⟩:=G.a9 j d' q;exact⟨u,by rw[getElem?_set_ne (Ne.symm e)];exact a,b.mono kp⟩
 ·rcases aK h with⟨e,q⟩|⟨e,q⟩
  ·cases q
  ·obtain⟨ys,a,b,c,e'⟩:=G.own j es q;refine⟨ys,?_,?_,c.mono kp,?_⟩
   ·rw[if_neg e,getElem?_set_ne (Ne.symm e)];exact a
   ·rw[if_neg e];exact sm _ _ b
   ·rw[if_neg e];exact e'
 ·rcases aK h1 with⟨e1,q1⟩|⟨e1,q1⟩
  ·rcases aK h2 with⟨e2,q2⟩|⟨e2,q2⟩
   ·rw[e1,e2]
   ·rw[if_pos e1,if_neg e2]at e;exact absurd e.symm (Du l fs q2 m2)
  ·rcases aK h2 with⟨e2,q2⟩|⟨e2,q2⟩
   ·rw[if_neg e1,if_pos e2]at e;exact absurd e (Du j es q1 m1)
   ·rw[if_neg e1,if_neg e2]at e;exact G.inj j l es fs q1 q2 m1 m2 e
 ·rcases aK h with⟨z,_⟩|⟨_,q⟩
  ·exact absurd z.symm kg
  ·show(if 0=i then p else ad 0)=a;rw[if_neg (Ne.symm kg)];exact G.pin a es e q
 ·have bV:=cT h;rw[length_set]at bV;rcases aK h with⟨e,q⟩|⟨e,q⟩
  ·subst e;cases q;refine⟨xs,?_,?_,r.mono kp,?_⟩
   ·rw[if_pos rfl];exact getElem?_set_self (by rw[G.len];exact bV)
   ·rw[if_pos rfl];exact cW
   ·rw[if_pos rfl];exact z0
  ·obtain⟨ys,a,b,c,e'⟩:=G.obj j O' es q;refine⟨ys,?_,?_,c.mono kp,?_⟩
   ·rw[if_neg e,getElem?_set_ne (Ne.symm e)];exact a
   ·rw[if_neg e];exact sm _ _ b
   ·rw[if_neg e];exact e'
theorem GA.EK(G:GA K ag Av pn aC H σ Γ ad){O O':Addr->List V->Heap->Prop}{es:List Dat}{ys:List V}(hi:Γ[i]?=some (some (.obj O ds)))(r:ax K H (aS Av Γ ad) ys es):
  GA K ag Av pn aC (upd H (ad i) (.ext (O' (ad i) ys))) σ (Γ.set i (some (.obj O' es))) ad:=by
 have av:∀a,aS Av (Γ.set i (some (.obj O' es))) ad a->aS Av Γ ad a:=by
  rintro a (z|⟨j,fs,e,m,q⟩)
  ·exact .inl z
  ·rcases aK e with⟨e1,_⟩|⟨e1,q1⟩
   ·subst e1;exact .inr ⟨j,_,hi,rfl,q⟩
   ·exact .inr ⟨j,fs,q1,m,q⟩
 have kp:jB H (aS Av Γ ad) (upd H (ad i) (.ext (O' (ad i) ys))) (aS Av (Γ.set i (some (.obj O' es))) ad):=by
  intro b o h n;refine⟨?_,fun z=>n (av b z)⟩;rw[bc fun z=>n (.inr ⟨i,_,hi,rfl,z.symm⟩)];exact h
 obtain⟨KR,g1,g2,g3,g4⟩:=G.obj i O ds hi;refine⟨fun b o h=>?_,G.gi,by rw[length_set];exact G.len,fun j d' h=>?_,fun j fs h=>?_,fun j l fs gs h1 h2 m1 m2 e=>?_,fun p hp=>(G.aC p hp).mono kp,fun a fs e h=>?_,fun j O2 fs h=>?_⟩
 ·rw[bc (b9 h g4)];exact G.same b o h
 ·rcases aK h with⟨e,q⟩|⟨e,q⟩
  ·cases q
  ·obtain⟨u,a,b⟩:=G.a9 j d' q;exact⟨u,a,b.mono kp⟩
 ·rcases aK h with⟨e,q⟩|⟨e,q⟩
  ·cases q
  ·obtain⟨zs,a,b,c,e'⟩:=G.own j fs q;refine⟨zs,a,?_,c.mono kp,e'⟩;rw[bc fun z=>e (G.inj j i _ _ q hi rfl rfl z)];exact b
 ·rcases aK h1 with⟨e1,q1⟩|⟨e1,q1⟩
  ·rcases aK h2 with⟨e2,q2⟩|⟨e2,q2⟩
   ·rw[e1,e2]
   ·subst e1;exact G.inj j l _ gs hi q2 rfl m2 e
  ·rcases aK h2 with⟨e2,q2⟩|⟨e2,q2⟩
   ·subst e2;exact G.inj j l fs _ q1 hi m1 rfl e
   ·exact G.inj j l fs gs q1 q2 m1 m2 e
 ·rcases aK h with⟨_,q⟩|⟨_,q⟩
  ·cases q
  ·exact G.pin a fs e q
 ·rcases aK h with⟨e,q⟩|⟨e,q⟩
  ·subst e;cases q;exact⟨ys,g1,cW,r.mono kp,g4⟩
  ·obtain⟨zs,a,b,c,e'⟩:=G.obj j O2 fs q;refine⟨zs,a,?_,c.mono kp,e'⟩;rw[bc fun z=>e (G.inj j i _ _ q hi rfl rfl z)];exact b
def HR (w:World) (i:Nat):ay->Option Fl:=fun Γ=>some (.nx (Γ.set i (some (.obj (iw w []) []))))
variable {x:Str}
theorem Ba(i:Nat)(hN:X.N.Nodup)(hi:X.N[i]?=some x:=by rfl)(kg:i≠0:=by decide)(hx:Loc X.env.scope x:=by first|exact .inl rfl|exact .inr rfl)(hs:swapsWith (.Dict [] [] p2) (some (.Name x pos')) pos.line X.env=pure false:=by rfl)(hf:X.fn x=true\/X.env.scope.names.lookup x=some .local:=by first|exact .inl rfl|exact .inr rfl):
  gc X (.Assign [.Name x pos'] (.Dict [] [] p2) pos) (HR X.w i):=⟨cv (rO hN hi hx JK hs hf) fun D σ H aQ=>by
 obtain⟨ag,Av,pn,aC,Γ,fl,⟨ad,G⟩,hf,q⟩:=aQ;cases hf;exact fun p hp=>q _ _ ⟨_,G.Lg i kg hp .nil⟩⟩
def NO (w:World) (O:Addr->List V->Heap->Prop) (ds:List Dat) (d:Dat) (p:List RK×RK):Prop:=O=iw w p.1/\ds=p.1.map d8/\d=d8 p.2/\(∀k∈p.1,PyData.strOk k.1=true)/\PyData.strOk p.2.1=true/\p.1.length<sizeLine
noncomputable def rH (w:World) (i:Nat) (f:ar->Option Dat):ay->Option Fl:=open Classical in fun Γ=>(f (bD Γ)).bind fun d=>match Γ[i]? with
 |some (some (.obj O ds))=>if h:∃p,NO w O ds d p then some (.nx (Γ.set i (some (.obj (iw w (gq h.choose.1 h.choose.2)) ((gq h.choose.1 h.choose.2).map d8)))))else none
 |_=>none
theorem CO{xs ys:List RK}(h:xs.map d8=ys.map d8):xs=ys:=(List.map_inj_right fun a b e=>nc e).mp h
theorem FA(hi:Γ[i]?=some (some (.obj (iw w ks) (ks.map d8))))(hf:f (bD Γ)=some (d8 k))(h1:∀k∈ks,PyData.strOk k.1=true)(h2:PyData.strOk k.1=true)(h3:ks.length<sizeLine):
  rH w i f Γ=some (.nx (Γ.set i (some (.obj (iw w (gq ks k)) ((gq ks k).map d8))))):=by
 unfold rH;rw[hf,Option.bind_some,hi];have ex:∃p,NO w (iw w ks) (ks.map d8) (d8 k) p:=⟨(ks,k),rfl,rfl,rfl,h1,h2,h3⟩;refine(dif_pos ex).trans ?_;obtain⟨_,g2,g3,_⟩:=ex.choose_spec;rw[<- CO g2,<- nc g3]
variable {k:Nat}
theorem B9(i:Nat)(hr:bS k X.A)(pe:QF X e (fC (.bool true)))(pb:QF X b f)(hN:X.N[i]?=some x:=by rfl)(hv:mU X.env.scope x:=by first|exact Or.inl rfl|exact Or.inr (Or.inl rfl)|exact Or.inr (Or.inr rfl))(hd:(x==("__debug__" : Str))=false:=by decide)(gD:(x==("__classdict__" : Str))=false:=by decide)(ha:∀v,assign (.Subscript (.Name x p1) b p3) X.env v=(do
   let ov <- holding [v] (eval (.Name x p1) X.env);let iv <- holding [v,ov] (eval b X.env);standAt p3
   holding [v,ov,iv] (setItem ov iv v)
   release [v,ov,iv] []):=by intro _;rfl)(hs:swapsWithSole [.Subscript (.Name x p1) b p3] e pos.line X.env=pure false:=by rfl)(hw:swappedStores [.Subscript (.Name x p1) b p3] e X.env=pure none:=by rfl)(h1:(assignEach [.Subscript (.Name x p1) b p3] X.env).map (·.2)=[assign (.Subscript (.Name x p1) b p3) X.env]:=by rfl):
  gc X (.Assign [.Subscript (.Name x p1) b p3] e pos) (rH X.w i f):=⟨cv (wD pe.o (Dh (mH hN hv hd gD) pb.o (Jl (by have:=hr.un;omega)) ha) hs hw h1) fun D σ H aQ=>by
 obtain⟨ag,Av,pn,aC,Γ,fl,⟨ad,G⟩,hf,q⟩:=aQ;obtain⟨d,e2,lN⟩:=bind_some hf;cases hi:Γ[i]? with
 |none=>rw[hi]at lN;cases lN
 |some o=>
  cases o with
  |none=>rw[hi]at lN;cases lN
  |some sl=>
   cases sl with
   |a9 _=>rw[hi]at lN;cases lN
   |own _=>rw[hi]at lN;cases lN
   |obj O ds=>
    rw[hi]at lN;dsimp only at lN;by_cases hx:∃p,NO X.w O ds d p
    ··rw[dif_pos hx]at lN;cases lN;obtain⟨c1,c2,c3,c4,c5,c6⟩:=hx.choose_spec;generalize hx.choose=pk at c1 c2 c3 c4 c5 c6 q;obtain⟨ks,kk⟩:=pk;dsimp only at c1 c2 c3 c4 c5 c6 q;subst c1 c2 c3;refine⟨aS Av Γ ad,bD Γ,.bool true,G.gU,G.j6,rfl,fun v H' s r=>?_⟩;have G1:=G.grow s;obtain⟨xs,g1,g2,g3,g4⟩:=G1.obj i _ _ hi;refine⟨_,g1,aS Av Γ ad,bD Γ,d8 kk,G1.gU,G1.j6,e2,fun y H2 s2 ry=>?_⟩;have G2:=G1.grow s2;obtain⟨ys,g5,g6,g7,g8⟩:=G2.obj i _ _ hi;have rv:v=.bl true:=by cases r;rfl
      refine⟨ad i,ks,ys,kk,aS Av Γ ad,rfl,rv,g6,c4,c5,g7,ry,c6,q _ _ ⟨ad,G2.EK hi ?_⟩⟩;unfold gq vB;split
      ·exact g7
      ·rw[map_append];exact g7.append (.cons ry .nil)
    ·rw[dif_neg hx]at lN;cases lN⟩
noncomputable def rG (w:World) (i:Nat):ay->Option Fl:=open Classical in fun Γ=>match Γ[i]? with
 |some (some (.obj O ds))=>if ∃ks,O=iw w ks then some (.rt (.list ds))else none
 |_=>none
theorem Fy(hi:Γ[i]?=some (some (.obj (iw w ks) ds))):rG w i Γ=some (.rt (.list ds)):=by
 unfold rG;rw[hi];exact if_pos ⟨ks,rfl⟩
theorem B7(i:Nat)(hr:bS k X.A)(hm:X.mg "list"=none)(hN:X.N[i]?=some x:=by rfl)(hv:mU X.env.scope x:=by first|exact Or.inl rfl|exact Or.inr (Or.inl rfl)|exact Or.inr (Or.inr rfl))(hd:(x==("__debug__" : Str))=false:=by decide)(gD:(x==("__classdict__" : Str))=false:=by decide)(hg:Gl X "list":=by rfl)(he:starEach [.Name x p1] X.env=[(false,eval (.Name x p1) X.env)]:=by rfl):
  gc X (.Return (some (.Call (.Name "list" p) [.Name x p1] [] p2)) pos) (rG X.w i):=⟨cv (oI (oN (EN hr.hd) hg hm (by decide +kernel) (iP (mH hN hv hd gD) mI he) (by decide) (by decide) he rfl)) fun D σ H aQ=>by
 obtain⟨ag,Av,pn,aC,Γ,fl,⟨ad,G⟩,hf,q⟩:=aQ;unfold rG at hf;split at hf
 ·rename_i O ds hi;split at hf
  ·rename_i hx;obtain⟨ks,rfl⟩:=hx;cases hf;obtain⟨xs,g1,g2,g3,g4⟩:=G.obj i _ _ hi;exact⟨_,g1,ad i,ks,xs,rfl,g2,fun l hl=>q _ _ (G.same.trans (bP hl _)) (.oT (G.gi.same G.same) hl (g3.weak fun _ z=>.inl z))⟩
  ·cases hf
 ·cases hf⟩
theorem CW(w:World)(i:Nat)(hN:X.N.Nodup)(hw:X.w=w:=by rfl)(hi:X.N[i]?=some x:=by rfl)(kg:i≠0:=by decide)(hx:Loc X.env.scope x:=by first|exact .inl rfl|exact .inr rfl)(hs:swapsWith (.Dict [] [] p2) (some (.Name x pos')) pos.line X.env=pure false:=by rfl)(hf:X.fn x=true\/X.env.scope.names.lookup x=some .local:=by first|exact .inl rfl|exact .inr rfl):
  gc X (.Assign [.Name x pos'] (.Dict [] [] p2) pos) (HR w i):=hw▸Ba i hN hi kg hx hs hf
theorem uw(w:World)(i:Nat)(hr:bS k X.A)(pe:QF X e (fC (.bool true)))(pb:QF X b f)(Mr:X.w=w:=by rfl)(hN:X.N[i]?=some x:=by rfl)(hv:mU X.env.scope x:=by first|exact Or.inl rfl|exact Or.inr (Or.inl rfl)|exact Or.inr (Or.inr rfl))(hd:(x==("__debug__" : Str))=false:=by decide)(gD:(x==("__classdict__" : Str))=false:=by decide)(ha:∀v,assign (.Subscript (.Name x p1) b p3) X.env v=(do
   let ov <- holding [v] (eval (.Name x p1) X.env);let iv <- holding [v,ov] (eval b X.env);standAt p3
   holding [v,ov,iv] (setItem ov iv v)
   release [v,ov,iv] []):=by intro _;rfl)(hs:swapsWithSole [.Subscript (.Name x p1) b p3] e pos.line X.env=pure false:=by rfl)(hw:swappedStores [.Subscript (.Name x p1) b p3] e X.env=pure none:=by rfl)(h1:(assignEach [.Subscript (.Name x p1) b p3] X.env).map (·.2)=[assign (.Subscript (.Name x p1) b p3) X.env]:=by rfl):
  gc X (.Assign [.Subscript (.Name x p1) b p3] e pos) (rH w i f):=Mr▸B9 i hr pe pb hN hv hd gD ha hs hw h1
theorem CU(w:World)(i:Nat)(hr:bS k X.A)(hm:X.mg "list"=none)(Mr:X.w=w:=by rfl)(hN:X.N[i]?=some x:=by rfl)(hv:mU X.env.scope x:=by first|exact Or.inl rfl|exact Or.inr (Or.inl rfl)|exact Or.inr (Or.inr rfl))(hd:(x==("__debug__" : Str))=false:=by decide)(gD:(x==("__classdict__" : Str))=false:=by decide)(hg:Gl X "list":=by rfl)(he:starEach [.Name x p1] X.env=[(false,eval (.Name x p1) X.env)]:=by rfl):
  gc X (.Return (some (.Call (.Name "list" p) [.Name x p1] [] p2)) pos) (rG w i):=Mr▸B7 i hr hm hN hv hd gD hg he
open PySem PySem.Spec PyProof.Rows L2
open PySem.W (Dat kqdOk)
structure FnAt (K:Fg) (mg:Str->Option Value) (x:Str) (st:Stmt) (ps:List Str):Prop where
 ex:∃f fd,lT K x x st f fd/\mg x=some (.ref f)/\Binds K fd ps []
theorem S5{f:Addr}{oc:Value}{od an:Option Addr}{qi:Array (Option Value)}{kV doc pm ba ct:Value}(X:K.In h)(G:h.Ns mainGlobals mg)(a:nsIn K mainGlobals x=some (some (.ref f)))(l:K.lookup f=some ⟨oc,od,.func (fnOf x x (iS st) (cM st) (aP st) .none kV doc pm an ba ct),qi⟩)(c:codeIn K ba x=true)(k:keepIn K (.ref f)=true)(b:∀(kV doc pm:Value) (an:Option Addr) (ba ct:Value) (us:List Value),us.length=ps.length->bindArgs (fnOf x x (iS st) (cM st) (aP st) .none kV doc pm an ba ct) ⟨us,[]⟩=pure (ps.zip us)):FnAt K mg x st ps:=
 ⟨⟨_,_,xS l c k,mg_of X G a,(xS l c k).binds b⟩⟩
theorem cN(N:List Str)(U:FnAt K mg x st ps)(hbody:N.Nodup->∀(fa:Addr) (ba:Value) (A:Around) (outer:List Env) (s:Shared) (H:Hp) (E:XK),bS k (A.deeper (envOfC x (aP st) s.heap.objs.size fa ba))->gL (gw gj P w K mg base N x (aP st) fa ba A outer s H E).jP (cM st) g)(S:fD N ps (aP st):=by exact⟨rfl,rfl,rfl,by decide +kernel,rfl,by decide +kernel,by decide +kernel⟩)(hn:ps.length=n:=by rfl):Dn P w K mg base (k+1) x ps n (iC N g):=by
 obtain⟨f,fd,U,hm,hB⟩:=U.ex;exact gA U hm hB S hn (hbody S.nd f) fun _ _ _ h=>h
theorem vA(N:List Str)(U:FnAt K mg x st ps)(hbody:N.Nodup->∀(fa:Addr) (ba:Value) (A:Around) (outer:List Env) (s:Shared) (H:Hp) (E:XK),bS k (A.deeper (envOfC x (aP st) s.heap.objs.size fa ba))->gL (gw gj P w K mg base N x (aP st) fa ba A outer s H E).jP (cM st) g)(S:fD N ps (aP st):=by exact⟨rfl,rfl,rfl,by decide +kernel,rfl,by decide +kernel,by decide +kernel⟩)(hn:ps.length=n:=by rfl):iU P w K mg base (k+1) x ps n (runM N g):=by
 obtain⟨f,fd,U,hm,hB⟩:=U.ex;exact JA U hm hB S hn (hbody S.nd f) fun _ _ _ _ _ h=>h
structure TC (K:Fg) (mg:Str->Option Value) (x:Str) (ds:List Dat) (a:Addr):Prop where
 mg:mg x=some (.ref a)
 tup:ModT K a ds
variable {sl:Array (Option Value)}
theorem vt{o:Option Addr}{i j:Int}{t u:Tok}(X:K.In h)(G:h.Ns mainGlobals mg)(e:nsIn K mainGlobals x=some (some (.ref a)))(l:K.lookup a=some ⟨.type "tuple",o,.seq #[.int i t,.int j u] n,sl⟩):∃a,TC K mg x [.int i,.int j] a:=
 ⟨a,mg_of X G e,⟨[.int i,.int j],_,_,_,l,rfl,rfl,Nat.le_of_lt (iK (by show 2<=1000;decide)),.cons ⟨_,rfl⟩ (.cons ⟨_,rfl⟩ .nil),fun H Av=>ax.ints [i,j]⟩⟩
open PySem PySem.Spec PyProof.Rows L2
open PySem.W (Dat kqdOk)
def jq (es:Array DictEntry):Bool:=es.toList.all fun e=>match e.key with| .str _ _=>true|_=>false
structure ua (P:Program) (K:Fg) (mg:Str->Option Value):Prop where
 tree:P.given.tree=none
 st:∃(c:Value) (d:Option Addr) (es:Array DictEntry) (n:Nat) (sl:Array (Option Value)),K.lookup cStatics=some ⟨c,d,.dict es n,sl⟩/\jq es=true/\nsIn K cStatics "sys.audit-hooks"=some none/\nsIn K cStatics "sys.dict"=some none
 md:∃(c:Value) (d:Option Addr) (es:Array DictEntry) (n:Nat) (sl:Array (Option Value)),K.lookup sysModules=some ⟨c,d,.dict es n,sl⟩/\jq es=true/\nsIn K sysModules "_pylong"=some none
 bi:∃bm,mg "__builtins__"=some (.ref bm)/\∃(o:Obj),K.lookup bm=some o/\o.cls=.type "module"/\o.dict=some builtinsNs
theorem Jn{c1 c2:Value}{d1 d2:Option Addr}{e1 e2:Array DictEntry}{l1 l2 l3:Array (Option Value)}{bm:Addr}{d3:Data}(X:K.In h)(G:h.Ns mainGlobals mg)(ht:P.given.tree=none)(s1:K.lookup cStatics=some ⟨c1,d1,.dict e1 n1,l1⟩)(s3:nsIn K cStatics "sys.audit-hooks"=some none)(s4:nsIn K cStatics "sys.dict"=some none)(s5:K.lookup sysModules=some ⟨c2,d2,.dict e2 n2,l2⟩)(s7:nsIn K sysModules "_pylong"=some none)(s8:nsIn K mainGlobals "__builtins__"=some (some (.ref bm)))(s9:K.lookup bm=some ⟨.type "module",some builtinsNs,d3,l3⟩)(s2:jq e1=true)(s6:jq e2=true):ua P K mg:=
 ⟨ht,⟨_,_,_,_,_,s1,s2,s3,s4⟩,⟨_,_,_,_,_,s5,s6,s7⟩,⟨_,mg_of X G s8,_,s9,rfl,rfl⟩⟩
theorem AV(h:jq es=true):StrKeys es:=by
 intro e he;have:=all_eq_true.mp h e (Array.mem_def.mp he);revert this;cases hk:e.key with
 |str a b=>intro _;exact⟨a,b,rfl⟩
 |_=>intro z;cases z
theorem oR{c:Value}{d:Option Addr}(X:K.In h)(l:K.lookup a=some ⟨c,d,.dict es n,sl⟩)(k:jq es=true):h.Ns a (nsFind es):=
 ⟨_,es,n,X _ _ l,rfl,AV k,fun _=>rfl⟩
theorem ua.no(S:ua P K mg)(M:Mod K mg h):h.NoSeer:=by
 obtain⟨c,d,es,n,sl,l1,k1,a1,a2⟩:=S.st;obtain⟨c',d',Ak,n',P7,l2,k2,b1⟩:=S.md;obtain⟨bm,m1,o,l3,o1,o2⟩:=S.bi;have g1:=oR M.rT l1 k1;have g2:=oR M.rT l2 k2;exact⟨⟨_,g1,ns_none_of M.rT g1 a1,ns_none_of M.rT g1 a2⟩,⟨_,g2,ns_none_of M.rT g2 b1⟩,M.blt,⟨mg,bm,o,M.glob,m1,M.rT _ _ l3,o1,o2⟩⟩
def AI (X:Cx):Prop:=∃e l,X.stack=e::l/\e.scope.isGenerator=false/\e.scope.isCoroutine=false/\e.builtins=builtinsNs/\e.globals=mainGlobals
theorem G6(S:ua X.prog X.K X.mg)(hr:bS k X.A)(hk:32<=k)(hp:AI X):cZ X (binaryOp .FloorDiv) (rI J9 fun i j=>.int (i.fdiv j)):=by
 intro pins s σ H x y v u Q I rx ry h;obtain⟨i,j,rfl,rfl,hc,q⟩:=h;obtain⟨t,rfl⟩:=rx;obtain⟨t',rfl⟩:=ry;obtain⟨e,l,h1,h2,h3,h4,h5⟩:=hp;have hd:X.A.depth+Builtin.pylongFrames<recursionLimit:=by
  have:=hr.dp;show X.A.depth+100<_;omega
 exact floordiv_int hc ⟨.int (i.fdiv j),H,I.tok _,⟨_,rfl⟩,q⟩ (.inr (PylongRoom.of I.nolimit hd (SeerAt.of ((S.no I.mod).keeps I.bk) S.tree (by rw[I.ok.frames,h1]) h2 h3 h4 h5)))
noncomputable abbrev jH:Dat->Dat->Option Dat:=iD J9 fun i j=>.int (i.fdiv j)
variable {a:Expr}
theorem fF(S:ua X.prog X.K X.mg)(hr:bS k X.A)(ha:QF X a fa)(hb:QF X b fb)(hk:32<=k:=by decide)(hp:AI X:=by exact⟨_,_,rfl,rfl,rfl,rfl,rfl⟩):QF X (.BinOp a .FloorDiv b pos) (f2 jH fa fb):=⟨l6 (G6 S hr hk hp) nr ha.o hb.o⟩
end
end L3
namespace Fr
noncomputable section
theorem xQ(a b:Int)(hb:0<b):gcd b (a.fmod b)=gcd a b:=by
 rw[Int.fmod_eq_emod_of_nonneg a (Int.le_of_lt hb)];apply Nat.dvd_antisymm
 ·apply Int.dvd_gcd
  ·have h1:=gcd_dvd_left b (a % b);have h2:=gcd_dvd_right b (a % b);have e:a=a % b+b*(a/b):=(Int.emod_add_mul_ediv a b).symm;have h3:(↑(b.gcd (a % b)):Int)∣a % b+b*(a/b):=Int.dvd_add h2 (Int.dvd_mul_of_dvd_left h1);rw[<- e]at h3;exact h3
  ·exact gcd_dvd_left b (a % b)
 ·apply Int.dvd_gcd
  ·exact gcd_dvd_right a b
  ·have h1:=gcd_dvd_left a b;have h2:=gcd_dvd_right a b;have e:a % b=a-b*(a/b):=by have:=Int.emod_add_mul_ediv a b;omega
   rw[e];exact Int.dvd_sub h1 (Int.dvd_mul_of_dvd_left h2)
def dv (n d:Int):Int:=if d<0 then -(gcd n d:Int)else(gcd n d:Int)
def num (n d:Int):Int:=n.fdiv (dv n d)
def den (n d:Int):Int:=d.fdiv (dv n d)
variable {n d:Int}
theorem mP(h:d≠0):0<gcd n d:=Nat.pos_of_ne_zero fun e=>h (by
 have:=gcd_dvd_right n d;rw[e]at this;exact Int.zero_dvd.mp this)
theorem vG(h:d≠0):dv n d≠0:=by
 have:=mP (n:=n) h;unfold dv;split<;>omega
theorem vI(n d:Int):dv n d∣n:=by
 unfold dv;split
 ·exact Int.neg_dvd.mpr (gcd_dvd_left n d)
 ·exact gcd_dvd_left n d
theorem vH(n d:Int):dv n d∣d:=by
 unfold dv;split
 ·exact Int.neg_dvd.mpr (gcd_dvd_right n d)
 ·exact gcd_dvd_right n d
theorem num_mul(n d:Int):num n d*dv n d=n:=by
 unfold num;rw[Int.fdiv_eq_ediv_of_dvd (vI n d)];exact Int.ediv_mul_cancel (vI n d)
theorem den_mul(n d:Int):den n d*dv n d=d:=by
 unfold den;rw[Int.fdiv_eq_ediv_of_dvd (vH n d)];exact Int.ediv_mul_cancel (vH n d)
theorem den_pos(h:d≠0):0<den n d:=by
 have e:=den_mul n d;have g:=mP (n:=n) h;by_cases hd:d<0
 ·have e2:dv n d=-(gcd n d:Int):=by unfold dv;exact if_pos hd
  have Gx:dv n d<0:=by omega
  rcases Int.lt_trichotomy (den n d) 0 with q|q|q
  ·have:=Int.mul_pos_of_neg_of_neg q Gx;omega
  ·rw[q]at e;simp at e;omega
  ·exact q
 ·have e2:dv n d=(gcd n d:Int):=by unfold dv;exact if_neg hd
  have xu:0<dv n d:=by omega
  rcases Int.lt_trichotomy (den n d) 0 with q|q|q
  ·have:=Int.mul_neg_of_neg_of_pos q xu;omega
  ·rw[q]at e;simp at e;omega
  ·exact q
theorem sJ(n d:Int):(dv n d).natAbs=gcd n d:=by
 unfold dv;split<;>simp
theorem IS(h:d≠0):gcd (num n d) (den n d)=1:=by
 unfold num den;rw[Int.fdiv_eq_ediv_of_dvd (vI n d),Int.fdiv_eq_ediv_of_dvd (vH n d),Int.gcd_ediv (vI n d) (vH n d),sJ];exact Nat.div_self (mP h)
theorem BU(n d:Int):num n d*d=den n d*n:=by
 have e1:=num_mul n d;have e2:=den_mul n d;calc num n d*d=num n d*(den n d*dv n d):=by rw[e2]
  _=den n d*(num n d*dv n d):=by rw[Int.mul_left_comm]
  _=den n d*n:=by rw[e1]
theorem uniq{p q:Int}(hd:d≠0)(hq:0<q)(hc:gcd p q=1)(h:p*d=q*n):num n d=p/\den n d=q:=by
 have hx:=BU n d;have hk:=IS (n:=n) hd;have xD:=den_pos (n:=n) hd

 have key:p*den n d=q*num n d:=by
  have a1:(p*den n d)*d=(q*num n d)*d:=by
   calc (p*den n d)*d=(p*d)*den n d:=by rw[Int.mul_right_comm]
    _=(q*n)*den n d:=by rw[h]
    _=q*(den n d*n):=by rw[Int.mul_assoc,mul_comm n]
    _=q*(num n d*d):=by rw[hx]
    _=(q*num n d)*d:=by rw[Int.mul_assoc]
  exact Int.eq_of_mul_eq_mul_right hd a1
 have n1:q.natAbs∣(den n d).natAbs:=by
  have z:q.natAbs∣p.natAbs*(den n d).natAbs:=by
   rw[<- natAbs_mul,key,natAbs_mul];exact Nat.dvd_mul_right _ _
  have c:Nat.Coprime q.natAbs p.natAbs:=by
   show Nat.gcd q.natAbs p.natAbs=1;rw[Nat.gcd_comm];exact hc
  exact c.dvd_of_dvd_mul_left z
 have n2:(den n d).natAbs∣q.natAbs:=by
  have z:(den n d).natAbs∣q.natAbs*(num n d).natAbs:=by
   rw[<- natAbs_mul,<- key,natAbs_mul];exact Nat.dvd_mul_left _ _
  have c:Nat.Coprime (den n d).natAbs (num n d).natAbs:=by
   show Nat.gcd (den n d).natAbs (num n d).natAbs=1;rw[Nat.gcd_comm];exact hk
  exact c.dvd_of_dvd_mul_right z
 have e1:den n d=q:=by
  have:=Nat.dvd_antisymm n1 n2;omega
 refine⟨?_,e1⟩;rw[e1]at key;have:q*p=q*num n d:=by rw[mul_comm q p];exact key
 exact(Int.eq_of_mul_eq_mul_left (ne_of_gt hq) this).symm
theorem self{p q:Int}(hq:0<q)(hc:gcd p q=1):num p q=p/\den p q=q:=uniq (ne_of_gt hq) hq hc (mul_comm p q)
theorem turned(h:d≠0):num (0-n) (0-d)=num n d/\den (0-n) (0-d)=den n d:=by
 refine uniq (by omega) (den_pos h) (IS h) ?_;have:=BU n d;rw[Int.mul_sub,Int.mul_sub,this,mul_zero,mul_zero]
theorem BZ(h:d≠0):(num n d).natAbs<=n.natAbs:=by
 have e:=congrArg Int.natAbs (num_mul n d);rw[natAbs_mul]at e;have:1<=(dv n d).natAbs:=by rw[sJ];exact mP h
 calc (num n d).natAbs=(num n d).natAbs*1:=(mul_one _).symm
  _<=(num n d).natAbs*(dv n d).natAbs:=Nat.mul_le_mul_left _ this
  _=n.natAbs:=e
theorem C0(h:d≠0):(den n d).natAbs<=d.natAbs:=by
 have e:=congrArg Int.natAbs (den_mul n d);rw[natAbs_mul]at e;have:1<=(dv n d).natAbs:=by rw[sJ];exact mP h
 calc (den n d).natAbs=(den n d).natAbs*1:=(mul_one _).symm
  _<=(den n d).natAbs*(dv n d).natAbs:=Nat.mul_le_mul_left _ this
  _=d.natAbs:=e
end
end Fr
namespace Fr
noncomputable section
def nd:List (Int×Int)->Int×Int
 |[]=>(0,1)
 |x::l=>(x.1*(nd l).2+(nd l).1*x.2,x.2*(nd l).2)
theorem congr{n d n' d':Int}(h:d≠0)(h':d'≠0)(e:n*d'=n'*d):num n d=num n' d'/\den n d=den n' d':=by
 have c:=BU n' d';refine uniq h (den_pos h') (IS h') ?_

 have:(num n' d'*d)*d'=(den n' d'*n)*d':=by
  calc (num n' d'*d)*d'=(num n' d'*d')*d:=by grind
   _=(den n' d'*n')*d:=by rw[c]
   _=den n' d'*(n'*d):=by grind
   _=den n' d'*(n*d'):=by rw[e]
   _=(den n' d'*n)*d':=by grind
 exact Int.eq_of_mul_eq_mul_right h' this
end
end Fr
namespace Fr
noncomputable section
theorem gI(q:Rat):(q.num:Rat)=q*(q.den:Rat):=by
 have e:q=(q.num:Rat)/(q.den:Rat):=by rw[<- Rat.mkRat_eq_div,mkRat_self]
 have h:(q.den:Rat)≠0:=fun z=>q.den_nz (Rat.natCast_eq_zero_iff.mp z);generalize (q.num:Rat)=a at *;generalize (q.den:Rat)=b at *;grind
theorem wQ(n:Int)(d:Nat)(h:d≠0):num n d=(mkRat n d).num/\den n d=((mkRat n d).den:Int):=by
 refine uniq (by omega) (by have:=(mkRat n d).den_pos;omega) ?_ ?_
 ·have:=(mkRat n d).reduced;show Nat.gcd _ _=1;rw[natAbs_natCast];exact this
 ·have e:=(Rat.mkRat_eq_iff (mkRat n d).den_nz h).mp (mkRat_self (mkRat n d));rw[e];exact mul_comm _ _
theorem zF(a b:Rat):num (a.num*b.den+b.num*a.den) (a.den*b.den)=(a+b).num/\den (a.num*b.den+b.num*a.den) (a.den*b.den)=((a+b).den:Int):=by
 have:=wQ (a.num*b.den+b.num*a.den) (a.den*b.den) (Nat.mul_ne_zero a.den_nz b.den_nz);rw[Rat.add_def'];rw[Int.natCast_mul]at this;exact this
theorem Jq(a b:Rat):num (a.num*b.den-b.num*a.den) (a.den*b.den)=(a-b).num/\den (a.num*b.den-b.num*a.den) (a.den*b.den)=((a-b).den:Int):=by
 have:=wQ (a.num*b.den-b.num*a.den) (a.den*b.den) (Nat.mul_ne_zero a.den_nz b.den_nz);rw[Rat.sub_def'];rw[Int.natCast_mul]at this;exact this
theorem zE(a b:Rat):num (a.num*b.num) (a.den*b.den)=(a*b).num/\den (a.num*b.num) (a.den*b.den)=((a*b).den:Int):=by
 have:=wQ (a.num*b.num) (a.den*b.den) (Nat.mul_ne_zero a.den_nz b.den_nz);rw[Rat.mul_def'];rw[Int.natCast_mul]at this;exact this
theorem m9(n d:Int)(h:d≠0):num n d=((n:Rat)/(d:Rat)).num/\den n d=(((n:Rat)/(d:Rat)).den:Int):=by
 have hd:(d:Rat)≠0:=fun z=>h (Rat.intCast_eq_zero_iff.mp z);generalize hq:(n:Rat)/(d:Rat)=q;refine uniq h (by have:=q.den_pos;omega) ?_ ?_
 ·have:=q.reduced;show Nat.gcd _ _=1;rw[natAbs_natCast];exact this
 ·have e1:q*(d:Rat)=(n:Rat):=by rw[<- hq];exact Rat.div_mul_cancel hd
  have e2:(q.num:Rat)=q*(q.den:Rat):=gI q;have e3:((q.num*d:Int):Rat)=((q.den*n:Int):Rat):=by
   rw[intCast_mul,intCast_mul,e2,<- e1];have:(((q.den:Int)):Rat)=(q.den:Rat):=rfl;rw[this];grind
  exact Rat.intCast_inj.mp e3
theorem Jr(a b:Rat)(h:b.num≠0):num (a.num*b.den) (a.den*b.num)=(a/b).num/\den (a.num*b.den) (a.den*b.num)=((a/b).den:Int):=by
 have hd:(a.den:Int)*b.num≠0:=mul_ne_zero (by have:=a.den_pos;omega) h;have:=m9 (a.num*b.den) (a.den*b.num) hd;have e:((a.num*b.den:Int):Rat)/((a.den*b.num:Int):Rat)=a/b:=by
  have a1:=(gI a).symm;have b1:=(gI b).symm;have ad:(a.den:Rat)≠0:=fun z=>by
   have:=a.den_pos;have z':((a.den:Int):Rat)=0:=z;have:=Rat.intCast_eq_zero_iff.mp z';omega
  have bd:(b.den:Rat)≠0:=fun z=>by
   have:=b.den_pos;have z':((b.den:Int):Rat)=0:=z;have:=Rat.intCast_eq_zero_iff.mp z';omega
  rw[intCast_mul,intCast_mul,<- a1,<- b1];have c1:(((b.den:Int)):Rat)=(b.den:Rat):=rfl;have c2:(((a.den:Int)):Rat)=(a.den:Rat):=rfl;rw[c1,c2];have b0:b≠0:=fun z=>h (by rw[z];rfl);grind
 rw[e]at this;exact this
theorem Lo(a b:Rat):(a<b)↔a.num*b.den<b.num*a.den:=lt_iff a b
end
end Fr
namespace FM
noncomputable section
def sm:Nat->(Nat->Rat)->Rat
 |0,_=>0
 |k+1,f=>sm k f+f k
theorem aO{f g:Nat->Rat}:∀{k:Nat},(∀i,i<k->f i=g i)->sm k f=sm k g
 |0,_=>rfl
 |k+1,h=>by
  show sm k f+f k=sm k g+g k;rw[aO (fun i hi=>h i (by omega)),h k (by omega)]
theorem fU{f:Nat->Rat}:∀{k:Nat},(∀i,i<k->f i=0)->sm k f=0
 |0,_=>rfl
 |k+1,h=>by
  show sm k f+f k=0;rw[fU (fun i hi=>h i (by omega)),h k (by omega)];grind
theorem dj{f g:Nat->Rat}:∀k:Nat,sm k (fun i=>f i+g i)=sm k f+sm k g
 |0=>by show(0:Rat)=0+0;grind
 |k+1=>by
  show sm k (fun i=>f i+g i)+(f k+g k)=(sm k f+f k)+(sm k g+g k);rw[dj k];grind
theorem bw{f:Nat->Rat}(c:Rat):∀k:Nat,sm k (fun i=>c*f i)=c*sm k f
 |0=>by show(0:Rat)=c*0;grind
 |k+1=>by
  show sm k (fun i=>c*f i)+c*f k=c*(sm k f+f k);rw[bw c k];grind
theorem AZ{f g:Nat->Rat}:∀{k:Nat},(∀i,i<k->f i<=g i)->sm k f<=sm k g
 |0,_=>by show(0:Rat)<=0;grind
 |k+1,h=>by
  have:=AZ (k:=k) fun i hi=>h i (by omega);have:=h k (by omega);show sm k f+f k<=sm k g+g k;grind
theorem HQ{f g:Nat->Rat}:∀{k:Nat},(∀i,i<k->f i<=g i)->(∃i,i<k/\f i<g i)->sm k f<sm k g
 |0,_,⟨i,hi,_⟩=>by omega
 |k+1,h,⟨i,hi,hl⟩=>by
  have h1:=h k (by omega);show sm k f+f k<sm k g+g k;by_cases e:i=k
  ·subst e;have:=AZ (k:=i) fun j hj=>h j (by omega);grind
  ·have:=HQ (k:=k) (fun j hj=>h j (by omega)) ⟨i,by omega,hl⟩;grind
theorem CD{f g:Nat->Rat}{p:Nat}{v:Rat}:∀{k:Nat},p<k->sm k (fun i=>(if i=p then v else f i)*g i)=sm k (fun i=>f i*g i)+(v-f p)*g p
 |0,h=>by omega
 |k+1,h=>by
  show sm k (fun i=>(if i=p then v else f i)*g i)+(if k=p then v else f k)*g k=(sm k (fun i=>f i*g i)+f k*g k)+(v-f p)*g p;by_cases e:k=p
  ·rw[aO (g:=fun i=>f i*g i) (fun i hi=>by rw[if_neg (by omega)]),if_pos e,<- e];grind
  ·rw[CD (k:=k) (by omega),if_neg e];grind
theorem td{f:Nat->Nat->Rat}(m:Nat):∀k:Nat,sm k (fun i=>sm m (fun c=>f i c))=sm m (fun c=>sm k (fun i=>f i c))
 |0=>(fU fun _ _=>rfl).symm
 |k+1=>by
  show sm k (fun i=>sm m (fun c=>f i c))+sm m (fun c=>f k c)=_;rw[td m k,<- dj];rfl
theorem vZ{f:Nat->Rat}{p:Nat}:∀{k:Nat},p<k->sm k f=sm k (fun i=>if i=p then 0 else f i)+f p
 |0,h=>by omega
 |k+1,h=>by
  show sm k f+f k=(sm k (fun i=>if i=p then 0 else f i)+(if k=p then 0 else f k))+f p;by_cases e:k=p
  ·rw[aO (f:=fun i=>if i=p then 0 else f i) (g:=f) (fun i hi=>if_neg (by omega)),if_pos e,<- e];grind
  ·rw[vZ (k:=k) (p:=p) (by omega),if_neg e];grind
theorem y0{P:Nat->Prop}(f:Nat->Rat):∀{k:Nat},(∃i,i<k/\P i)->∃i,i<k/\P i/\∀j,j<k->P j->f i<=f j
 |0,⟨i,hi,_⟩=>by omega
 |k+1,⟨i,hi,hp⟩=>by
  by_cases h:∃i,i<k/\P i
  ·obtain⟨m,hm,pm,lm⟩:=y0 f h;by_cases c:P k/\f k<f m
   ·refine⟨k,by omega,c.1,fun j hj pj=>?_⟩;by_cases e:j=k
    ·subst e;grind
    ·have:=lm j (by omega) pj;grind
   ·refine⟨m,by omega,pm,fun j hj pj=>?_⟩;by_cases e:j=k
    ·subst e;have:¬f j<f m:=fun z=>c ⟨pj,z⟩;grind
    ·exact lm j (by omega) pj
  ·have e:i=k:=by
    by_cases e:i=k
    ·exact e
    ·exact absurd ⟨i,by omega,hp⟩ h
   subst e;refine⟨i,by omega,hp,fun j hj pj=>?_⟩;by_cases e:j=i
   ·subst e;grind
   ·exact absurd ⟨j,by omega,pj⟩ h
def cnt:Nat->(Nat->Rat)->Nat
 |0,_=>0
 |k+1,u=>cnt k u+(if u k=0 then 0 else 1)
theorem ye{u v:Nat->Rat}:∀{k:Nat},(∀i,i<k->u i=0->v i=0)->cnt k v<=cnt k u
 |0,_=>le_refl _
 |k+1,h=>by
  have h1:=ye (k:=k) fun i hi=>h i (by omega);show cnt k v+(if v k=0 then 0 else 1)<=cnt k u+(if u k=0 then 0 else 1);by_cases e:u k=0
  ·rw[if_pos e,if_pos (h k (by omega) e)];omega
  ·rw[if_neg e];split<;>omega
theorem sN{u v:Nat->Rat}:∀{k:Nat},(∀i,i<k->u i=0->v i=0)->(∃i,i<k/\v i=0/\u i≠0)->cnt k v<cnt k u
 |0,_,⟨i,hi,_⟩=>by omega
 |k+1,h,⟨i,hi,h1,h2⟩=>by
  show cnt k v+(if v k=0 then 0 else 1)<cnt k u+(if u k=0 then 0 else 1);by_cases e:i=k
  ·subst e;have:=ye (k:=i) fun j hj=>h j (by omega);rw[if_pos h1,if_neg h2];omega
  ·have:=sN (k:=k) (fun j hj=>h j (by omega)) ⟨i,by omega,h1,h2⟩;by_cases e2:u k=0
   ·rw[if_pos e2,if_pos (h k (by omega) e2)];omega
   ·rw[if_neg e2];split<;>omega
def jo:Nat->(Nat->Rat)->List Nat
 |0,_=>[]
 |k+1,u=>if u k=0 then jo k u else k::jo k u
theorem qC{u:Nat->Rat}:∀k:Nat,(jo k u).length=cnt k u
 |0=>rfl
 |k+1=>by
  show(if u k=0 then jo k u else k::jo k u).length=cnt k u+(if u k=0 then 0 else 1);split
  ·exact qC k
  ·rw[length_cons,qC k]
theorem kR{u:Nat->Rat}:∀{k i:Nat},i∈jo k u->i<k/\u i≠0
 |0,i,h=>by simp[jo]at h
 |k+1,i,h=>by
  have h':i∈(if u k=0 then jo k u else k::jo k u):=h;split at h'
  ·have:=kR h';exact⟨by omega,this.2⟩
  ·rename_i e;rcases mem_cons.mp h' with r|r
   ·subst r;exact⟨by omega,e⟩
   ·have:=kR r;exact⟨by omega,this.2⟩
theorem mY{u:Nat->Rat}:∀k:Nat,(jo k u).Nodup
 |0=>nodup_nil
 |k+1=>by
  show(if u k=0 then jo k u else k::jo k u).Nodup;split
  ·exact mY k
  ·exact nodup_cons.mpr ⟨fun h=>by have:=(kR h).1;omega,mY k⟩
theorem ya{k:Nat}:∀(E:List Nat) (B:Nat->Nat->Rat) (S:List Nat),S.Nodup->(∀i∈S,i<k)->E.length<S.length->
  ∃d:Nat->Rat,(∀i,i∉S->d i=0)/\(∃i∈S,d i≠0)/\∀c∈E,sm k (fun i=>d i*B i c)=0
 |[],B,S,hn,hk,hl=>by
  cases S with
  |nil=>simp at hl
  |cons p S=>
   refine⟨fun i=>if i=p then 1 else 0,fun i hi=>if_neg fun e=>hi (by rw[e];exact mem_cons_self),⟨p,mem_cons_self,?_⟩,fun c hc=>by simp at hc⟩;show(if p=p then(1:Rat)else 0)≠0;rw[if_pos rfl];grind
 |c::E,B,S,hn,hk,hl=>by
  rw[length_cons]at hl;by_cases h:∃p∈S,B p c≠0
  ·obtain⟨p,hp,hb⟩:=h;have Iq:p∉S.erase p:=fun z=>by
    rw[hn.mem_erase_iff]at z;exact z.1 rfl
   have E1:E.length<(S.erase p).length:=by rw[List.length_erase_of_mem hp];omega
   obtain⟨d,d1,⟨q,hq,dq⟩,d3⟩:=ya E (fun i c'=>B i c'-B i c/B p c*B p c') (S.erase p) (hn.erase p) (fun i hi=>hk i (List.mem_of_mem_erase hi)) E1;have dp:d p=0:=d1 p Iq;refine⟨fun i=>if i=p then-(sm k (fun i=>d i*B i c))/B p c else d i,fun i hi=>?_,⟨q,List.mem_of_mem_erase hq,?_⟩,fun c' hc=>?_⟩
   ·have e:i≠p:=fun e=>hi (by rw[e];exact hp);dsimp only;rw[if_neg e];exact d1 i fun z=>hi (List.mem_of_mem_erase z)
   ·have e:q≠p:=fun e=>Iq (e▸hq);dsimp only;rw[if_neg e];exact dq
   ·dsimp only;rw[CD (hk p hp),dp];rcases mem_cons.mp hc with e|hc
    ·subst e;have:(- (sm k (fun i=>d i*B i c'))/B p c'-0)*B p c'=- sm k (fun i=>d i*B i c'):=by grind
     rw[this];grind
    ·have h3:=d3 c' hc;have e1:sm k (fun i=>d i*(B i c'-B i c/B p c*B p c'))=sm k (fun i=>d i*B i c')+(- (B p c'/B p c))*sm k (fun i=>d i*B i c):=by
      rw[<- bw,<- dj];exact aO fun i _=>by grind
     rw[e1]at h3;grind
  ·have h':∀p∈S,B p c=0:=fun p hp=>by
    by_cases e:B p c=0
    ·exact e
    ·exact absurd ⟨p,hp,e⟩ h
   obtain⟨d,d1,d2,d3⟩:=ya E B S hn hk (by omega);refine⟨d,d1,d2,fun c' hc=>?_⟩;rcases mem_cons.mp hc with e|hc
   ·subst e;refine fU fun i _=>?_;by_cases m:i∈S
    ·rw[h' i m];grind
    ·rw[d1 i m];grind
   ·exact d3 c' hc
structure iJ (k:Nat) (J:Nat->Prop) (E:List Nat) (B:Nat->Nat->Rat) (u:Nat->Rat):Prop where
 nn:∀i,i<k->0<=u i
 off:∀i,i<k->¬J i->u i=0
 mn:∀c∈E,sm k (fun i=>u i*B i c)=0
structure pH (k:Nat) (J:Nat->Prop) (E:List Nat) (B:Nat->Nat->Rat) (u:Nat->Rat):Prop where
 gx:iJ k J E B u
 ne:∃i,i<k/\u i≠0
 alone:∀v,iJ k J E B v->(∀i,i<k->u i=0->v i=0)->∃c:Rat,0<=c/\∀i,i<k->v i=c*u i
variable {a b c:Rat}
theorem DG(hc:0<c)(h:b<=a/c):b*c<=a:=by
 have:=mul_le_mul_of_nonneg_left h (le_of_lt hc);have e:c*(a/c)=a:=by grind
 rw[e]at this;grind
theorem bC(ha:0<a)(hb:0<b):0<a*b:=Rat.mul_pos ha hb
theorem cO(ha:0<=a)(hb:0<=b):0<=a*b:=Rat.mul_nonneg ha hb
variable {k:Nat} {u:Nat->Rat}
theorem uq{d:Nat->Rat}(hu:∀i,i<k->0<=u i)(hz:∀i,i<k->u i=0->d i=0)(hp:∃i,i<k/\0<d i):
  ∃l:Rat,0<l/\(∀i,i<k->0<=u i-l*d i)/\∃i,i<k/\0<d i/\u i-l*d i=0:=by
 obtain⟨m,hm,pm,lm⟩:=y0 (P:=fun i=>0<d i) (fun i=>u i/d i) hp;have um:0<u m:=by
  have h1:=hu m hm;have h2:u m≠0:=fun e=>by have:=hz m hm e;grind
  grind
 refine⟨u m/d m,?_,fun i hi=>?_,m,hm,pm,by grind⟩
 ·have:0<(d m)⁻¹:=inv_pos.mpr pm;have:=bC um this;grind
 ·by_cases c:0<d i
  ·have:=DG c (lm i hi c);grind
  ·have h1:0<u m/d m:=by
    have:0<(d m)⁻¹:=inv_pos.mpr pm;have:=bC um this;grind
   have h2:=cO (le_of_lt h1) (show 0<=- d i by grind);have:=hu i hi;grind
variable {B:Nat->Nat->Rat} {E:List Nat} {J:Nat->Prop}
theorem iJ.sub{l:Rat}{d:Nat->Rat}(hu:iJ k J E B u)(ho:∀i,i<k->¬J i->d i=0)(hd:∀c∈E,sm k (fun i=>d i*B i c)=0)(hn:∀i,i<k->0<=u i-l*d i):iJ k J E B (fun i=>u i-l*d i):=by
 refine⟨hn,fun i hi hj=>by rw[hu.off i hi hj,ho i hi hj];grind,fun c hc=>?_⟩;have e:sm k (fun i=>(u i-l*d i)*B i c)=sm k (fun i=>u i*B i c)+(-l)*sm k (fun i=>d i*B i c):=by
  rw[<- bw,<- dj];exact aO fun i _=>by grind
 rw[e,hu.mn c hc,hd c hc];grind
theorem pH.MR(h:pH k J E B u):cnt k u<=E.length+1:=by
 apply Nat.le_of_not_lt
 intro bV;rw[<- qC]at bV;cases hs:jo k u with
 |nil=>rw[hs]at bV;simp at bV
 |cons p S=>
  rw[hs,length_cons]at bV;have PN:=mY (u:=u) k;rw[hs]at PN;obtain⟨Iq,Td⟩:=nodup_cons.mp PN;have BC:∀i∈S,i<k/\u i≠0:=fun i hi=>kR (u:=u) (by rw[hs];exact mem_cons_of_mem _ hi);have DT:p<k/\u p≠0:=kR (u:=u) (by rw[hs];exact mem_cons_self);obtain⟨d,d1,⟨q,hq,dq⟩,d3⟩:=ya E B S Td (fun i hi=>(BC i hi).1) (by omega)

  have main:∀d:Nat->Rat,(∀i,i∉S->d i=0)->(∀c∈E,sm k (fun i=>d i*B i c)=0)->¬ ∃i,i∈S/\0<d i:=by
   rintro d d1 d3 ⟨q,hq,dq⟩;have hz:∀i,i<k->u i=0->d i=0:=fun i _ e=>d1 i fun z=>(BC i z).2 e;obtain⟨l,lp,h1,_⟩:=uq h.gx.nn hz ⟨q,(BC q hq).1,dq⟩;have hc:=h.gx.sub (fun i hi hj=>hz i hi (h.gx.off i hi hj)) d3 h1;obtain⟨c,_,hv⟩:=h.alone _ hc fun i hi e=>by rw[e,hz i hi e];grind
   have e1:=hv p DT.1;rw[d1 p Iq]at e1;have c1:c=1:=by
    have:(c-1)*u p=0:=by grind
    rcases mul_eq_zero.mp this with e|e
    ·grind
    ·exact absurd e DT.2
   have e2:=hv q (BC q hq).1;rw[c1]at e2;have:l*d q=0:=by grind
   have:=bC lp dq;grind
  by_cases c:0<d q
  ·exact main d d1 d3 ⟨q,hq,c⟩
  ·refine main (fun i=>- d i) (fun i hi=>by rw[d1 i hi];grind) (fun c' hc=>?_) ⟨q,hq,by grind⟩;have:sm k (fun i=>- d i*B i c')=(-1)*sm k (fun i=>d i*B i c'):=by
    rw[<- bw];exact aO fun i _=>by grind
   rw[this,d3 c' hc];grind
variable {v:Nat->Rat}
def lsum (L:List (Nat->Rat)) (i:Nat):Rat:=match L with
 |[]=>0
 |v::r=>v i+lsum r i
theorem Gn(L M:List (Nat->Rat))(i:Nat):lsum (L++M) i=lsum L i+lsum M i:=by
 induction L with
 |nil=>show lsum M i=0+lsum M i;grind
 |cons v L ih=>show v i+lsum (L++M) i=(v i+lsum L i)+lsum M i;rw[ih];grind
theorem pH.scale(hc:0<c)(h:pH k J E B u):pH k J E B (fun i=>c*u i):=by
 refine⟨⟨fun i hi=>cO (le_of_lt hc) (h.gx.nn i hi),fun i hi hj=>by rw[h.gx.off i hi hj];grind,fun c' fI=>?_⟩,?_,fun v hv hz=>?_⟩
 ·have:sm k (fun i=>c*u i*B i c')=c*sm k (fun i=>u i*B i c'):=by
   rw[<- bw];exact aO fun i _=>by grind
  rw[this,h.gx.mn c' fI];grind
 ·obtain⟨i,hi,bQ⟩:=h.ne;refine⟨i,hi,fun e=>?_⟩;rcases mul_eq_zero.mp e with e|e
  ·grind
  ·exact bQ e
 ·obtain⟨l,h0,hl⟩:=h.alone v hv fun i hi e=>hz i hi (by rw[e];grind);have ci:0<c⁻¹:=inv_pos.mpr hc;refine⟨l*c⁻¹,cO h0 (le_of_lt ci),fun i hi=>?_⟩;rw[hl i hi];grind
theorem parted:∀(m:Nat) (u:Nat->Rat),cnt k u<=m->iJ k J E B u->∃L:List (Nat->Rat),(∀v∈L,pH k J E B v/\∀i,i<k->u i=0->v i=0)/\∀i,i<k->u i=lsum L i:=by
 intro m;induction m with
 |zero=>
  intro u hm hc;refine⟨[],fun v hv=>by simp at hv,fun i hi=>?_⟩;show u i=0;by_cases e:u i=0
  ·exact e
  ·have:=sN (u:=u) (v:=fun _=>0) (k:=k) (fun _ _ _=>rfl) ⟨i,hi,rfl,e⟩;omega
 |succ m ih=>
  intro u hm hc;by_cases h0:∃i,i<k/\u i≠0
  ·by_cases he:pH k J E B u
   ·refine⟨[u],fun v hv=>?_,fun i hi=>?_⟩
    ·rw[mem_singleton.mp hv];exact⟨he,fun _ _ e=>e⟩
    ·show u i=u i+0;grind
   ·
    have hx:∃v,iJ k J E B v/\(∀i,i<k->u i=0->v i=0)/\¬ ∃c:Rat,0<=c/\∀i,i<k->v i=c*u i:=by
     apply Classical.byContradiction
     intro hx;apply he
     refine⟨hc,h0,fun v hv hz=>?_⟩;apply Classical.byContradiction
     intro hn;exact hx ⟨v,hv,hz,hn⟩
    obtain⟨v,hv,hz,hn⟩:=hx

    have fR:∃i,i<k/\0<u i:=by
     obtain⟨i,hi,bQ⟩:=h0;have:=hc.nn i hi;exact⟨i,hi,by grind⟩
    obtain⟨q,hq,pq,lq⟩:=y0 (P:=fun i=>0<u i) (fun i=>v i/u i) fR;have SO:0<=v q/u q:=by
     have h1:0<(u q)⁻¹:=inv_pos.mpr pq;have:=cO (hv.nn q hq) (le_of_lt h1);grind
    have n1:∀i,i<k->0<=v i-v q/u q*u i:=fun i hi=>by
     by_cases c:0<u i
     ·have:=DG c (lq i hi c);grind
     ·have:=hc.nn i hi;have e:u i=0:=by grind
      rw[e,hz i hi e];grind
    have c1:=hv.sub (l:=v q/u q) hc.off hc.mn n1;generalize Tf:v q/u q=mu at *;have z1:∀i,i<k->u i=0->v i-mu*u i=0:=fun i hi e=>by rw[e,hz i hi e];grind
    have Ss:v q-mu*u q=0:=by rw[<- Tf];grind
    have Su:∃i,i<k/\0<v i-mu*u i:=by
     apply Classical.byContradiction
     intro xy;apply hn
     refine⟨mu,SO,fun i hi=>?_⟩;have a1:=n1 i hi;have a2:¬0<v i-mu*u i:=fun z=>xy ⟨i,hi,z⟩;grind
    have k1:=sN (u:=u) (v:=fun i=>v i-mu*u i) (k:=k) z1 ⟨q,hq,Ss,by grind⟩

    obtain⟨l,lp,n2,s,hs,ps,es⟩:=uq hc.nn z1 Su;have c2:=hc.sub c1.off c1.mn n2;have z2:∀i,i<k->u i=0->u i-l*(v i-mu*u i)=0:=fun i hi e=>by rw[z1 i hi e,e];grind
    have us:u s≠0:=fun e=>by have:=z1 s hs e;grind
    have k2:=sN (u:=u) (v:=fun i=>u i-l*(v i-mu*u i)) (k:=k) z2 ⟨s,hs,es,us⟩;obtain⟨L1,a1,b1⟩:=ih _ (by omega) c1;obtain⟨L2,a2,b2⟩:=ih _ (by omega) c2;have sc:∀(L:List (Nat->Rat)) (i:Nat),lsum (L.map fun w=>fun i=>l*w i) i=l*lsum L i:=fun L i=>by
     induction L with
     |nil=>show(0:Rat)=l*0;grind
     |cons w L ih=>show l*w i+lsum (L.map fun w=>fun i=>l*w i) i=l*(w i+lsum L i);rw[ih];grind
    refine⟨L1.map (fun w=>fun i=>l*w i)++L2,fun w hw=>?_,fun i hi=>?_⟩
    ·rcases mem_append.mp hw with h|h
     ·obtain⟨w',DR,rfl⟩:=mem_map.mp h;obtain⟨e1,e2⟩:=a1 w' DR;exact⟨e1.scale lp,fun i hi e=>by
       show l*w' i=0;rw[e2 i hi (z1 i hi e)];grind⟩
     ·obtain⟨e1,e2⟩:=a2 w h;exact⟨e1,fun i hi e=>e2 i hi (z2 i hi e)⟩
    ·rw[Gn,sc,<- b1 i hi,<- b2 i hi];grind
  ·refine⟨[],fun v hv=>by simp at hv,fun i hi=>?_⟩;show u i=0;by_cases e:u i=0
   ·exact e
   ·exact absurd ⟨i,hi,e⟩ h0
inductive Kn where
 |eq|le|lt
deriving DecidableEq
structure Rw where
 kd:Kn
 a:Nat->Rat
 b:Rat
 w:Nat->Rat
def rel:Kn->Rat->Rat->Prop
 | .eq,x,y=>x=y
 | .le,x,y=>x<=y
 | .lt,x,y=>x<y
def vl (n:Nat) (r:Rw) (x:Nat->Rat):Rat:=sm (n+1) fun c=>r.a c*x c
def Hd (n:Nat) (x:Nat->Rat) (r:Rw):Prop:=rel r.kd (vl n r x) r.b
def uo (J:Nat->Bool) (r:Rw) (i:Nat):Rat:=if J i=true then r.w i else 0
structure Sg (n k j:Nat) (J St:Nat->Bool) (E:List Nat) (B:Nat->Nat->Rat) (β:Nat->Rat) (R:List Rw):Prop where
 jn:j<=n
 zero:∀r∈R,∀c,c<j->r.a c=0
 ej:∀c∈E,c<j
 uS:∀r∈R,r.kd=.eq->∀i,i<k->J i=true->r.w i=0
 nn:∀r∈R,r.kd≠.eq->∀i,i<k->J i=true->0<=r.w i
 pos:∀r∈R,r.kd≠.eq->∃i,i<k/\J i=true/\0<r.w i
 st:∀r∈R,r.kd≠.eq->(r.kd=.lt↔∃i,i<k/\J i=true/\St i=true/\0<r.w i)
 va:∀r∈R,r.kd≠.eq->∀c,c<=n->r.a c=sm k fun i=>uo J r i*B i c
 vb:∀r∈R,r.kd≠.eq->r.b=sm k fun i=>uo J r i*β i
 all:∀u,pH k (fun i=>J i=true) E B u->∃r∈R,r.kd≠.eq/\∃c:Rat,0<c/\∀i,i<k->J i=true->r.w i=c*u i
variable {β:Nat->Rat} {n:Nat}
def gp (n:Nat) (B:Nat->Nat->Rat) (β:Nat->Rat) (x:Nat->Rat) (i:Nat):Rat:=sm (n+1) (fun c=>B i c*x c)-β i
def Fx (n k:Nat) (B:Nat->Nat->Rat) (β:Nat->Rat) (x u:Nat->Rat):Rat:=sm k fun i=>u i*gp n B β x i
variable {x:Nat->Rat}
theorem F2(p q:Rat):Fx n k B β x (fun i=>p*u i+q*v i)=p*Fx n k B β x u+q*Fx n k B β x v:=by
 unfold Fx;rw[<- bw,<- bw,<- dj];exact aO fun i _=>by grind
theorem Hn(h:∀i,i<k->v i=c*u i):Fx n k B β x v=c*Fx n k B β x u:=by
 unfold Fx;rw[<- bw];exact aO fun i hi=>by rw[h i hi];grind
variable {J:Nat->Bool} {r:Rw}
theorem yD(ha:∀c,c<=n->r.a c=sm k fun i=>uo J r i*B i c)(hb:r.b=sm k fun i=>uo J r i*β i):Fx n k B β x (uo J r)=vl n r x-r.b:=by
 have e1:vl n r x=sm k (fun i=>uo J r i*sm (n+1) (fun c=>B i c*x c)):=by
  unfold vl;rw[aO (g:=fun c=>sm k fun i=>uo J r i*B i c*x c) (fun c hc=>by
   rw[ha c (by omega)];rw[show(sm k fun i=>uo J r i*B i c)*x c=x c*(sm k fun i=>uo J r i*B i c) by grind,<- bw];exact aO fun i _=>by grind)]
  rw[<- td];refine aO fun i _=>?_;rw[<- bw];exact aO fun c _=>by grind
 rw[e1,hb];unfold Fx gp;have:(sm k fun i=>uo J r i*(sm (n+1) (fun c=>B i c*x c)-β i))=(sm k fun i=>uo J r i*sm (n+1) (fun c=>B i c*x c))+(-1)*sm k fun i=>uo J r i*β i:=by
  rw[<- bw,<- dj];exact aO fun i _=>by grind
 rw[this];grind
variable {j:Nat}
variable {R:List Rw} {St:Nat->Bool} in
theorem pL(S:Sg n k j J St E B β R)(hr:r∈R)(hk:r.kd≠.eq):iJ k (fun i=>J i=true) E B (uo J r):=by
 refine⟨fun i hi=>?_,fun i hi hj=>?_,fun c hc=>?_⟩
 ·unfold uo;split
  ·exact S.nn r hr hk i hi (by assumption)
  ·grind
 ·exact if_neg hj
 ·have h:=S.va r hr hk c (by have:=S.ej c hc;have:=S.jn;omega);rw[<- h];exact S.zero r hr c (S.ej c hc)
variable {R:List Rw} {St:Nat->Bool} in
theorem BV(S:Sg n k j J St E B β R)(hx:∀r∈R,r.kd≠.eq->Hd n x r)(hu:iJ k (fun i=>J i=true) E B u):
  Fx n k B β x u<=0/\((∃i,i<k/\St i=true/\0<u i)->Fx n k B β x u<0):=by
 obtain⟨L,h1,h2⟩:=parted (cnt k u) u (le_refl _) hu;have each:∀v∈L,Fx n k B β x v<=0/\((∃i,i<k/\St i=true/\0<v i)->Fx n k B β x v<0):=by
  intro v hv;obtain⟨he,hz⟩:=h1 v hv;obtain⟨r,hr,hk,c,hc,hw⟩:=S.all v he;have hd:=hx r hr hk;have e1:=yD (x:=x) (S.va r hr hk) (S.vb r hr hk);have e2:Fx n k B β x (uo J r)=c*Fx n k B β x v:=Hn fun i hi=>by
   unfold uo;by_cases hj:J i=true
   ·rw[if_pos hj,hw i hi hj]
   ·rw[if_neg hj,he.gx.off i hi hj];grind
  have ci:0<c⁻¹:=inv_pos.mpr hc;have e3:Fx n k B β x v=c⁻¹*(vl n r x-r.b):=by rw[<- e1,e2];grind
  unfold Hd at hd;constructor
  ·have:vl n r x-r.b<=0:=by
    cases MD:r.kd with
    |eq=>exact absurd MD hk
    |le=>rw[MD]at hd;have:vl n r x<=r.b:=hd;grind
    |lt=>rw[MD]at hd;have:vl n r x<r.b:=hd;grind
   have:=cO (le_of_lt ci) (show 0<=-(vl n r x-r.b) by grind);rw[e3];grind
  ·rintro⟨i,hi,hs,hp⟩;have hj:J i=true:=by
    by_cases hj:J i=true
    ·exact hj
    ·have:=he.gx.off i hi hj;grind
   have hl:r.kd=.lt:=(S.st r hr hk).mpr ⟨i,hi,hj,hs,by rw[hw i hi hj];exact bC hc hp⟩;rw[hl]at hd;have cV:vl n r x<r.b:=hd;have:=bC ci (show 0 < -(vl n r x-r.b) by grind);rw[e3];grind
 have zk:∀L:List (Nat->Rat),Fx n k B β x (lsum L)=L.foldr (fun v s=>Fx n k B β x v+s) 0:=by
  intro L;induction L with
  |nil=>exact fU fun i _=>by show(0:Rat)*_=0;grind
  |cons v L ih=>
   show _=Fx n k B β x v+L.foldr (fun v s=>Fx n k B β x v+s) 0;rw[<- ih];have:=F2 (n:=n) (k:=k) (B:=B) (β:=β) (x:=x) (u:=v) (v:=lsum L) 1 1;rw[show Fx n k B β x (lsum (v::L))=Fx n k B β x (fun i=>1*v i+1*lsum L i)from aO fun i _=>by
    show(v i+lsum L i)*_=(1*v i+1*lsum L i)*_;grind]
   rw[this];grind
 have eu:Fx n k B β x u=Fx n k B β x (lsum L):=aO fun i hi=>by rw[h2 i hi]
 rw[eu,zk];have Pw:∀L:List (Nat->Rat),(∀v∈L,Fx n k B β x v<=0)->L.foldr (fun v s=>Fx n k B β x v+s) 0<=0:=by
  intro L;induction L with
  |nil=>intro _;show(0:Rat)<=0;grind
  |cons v L ih=>
   intro h;have a:=h v mem_cons_self;have b:=ih fun q hq=>h q (mem_cons_of_mem _ hq);show Fx n k B β x v+L.foldr (fun v s=>Fx n k B β x v+s) 0<=0;grind
 refine⟨Pw L fun v hv=>(each v hv).1,?_⟩;rintro⟨i,hi,hs,hp⟩;rw[h2 i hi]at hp;have Ph:∀v∈L,0<=v i:=fun v hv=>(h1 v hv).1.gx.nn i hi;clear eu zk;clear h2 hu;induction L with
 |nil=>exact absurd hp (by show ¬(0:Rat)<0;grind)
 |cons v L ih=>
  have a:=(each v mem_cons_self).1;have a':=Ph v mem_cons_self;have b:=Pw L fun q hq=>(each q (mem_cons_of_mem _ hq)).1;show Fx n k B β x v+L.foldr (fun v s=>Fx n k B β x v+s) 0<0;by_cases c:0<v i
  ·have:=(each v mem_cons_self).2 ⟨i,hi,hs,c⟩;grind
  ·have dI:0<v i+lsum L i:=hp;have:=ih (fun q hq=>h1 q (mem_cons_of_mem _ hq)) (fun q hq=>each q (mem_cons_of_mem _ hq)) (by grind) (fun q hq=>Ph q (mem_cons_of_mem _ hq));grind
structure Jd (up lo r:Rw) (j:Nat):Prop where
 kd:r.kd=if up.kd=.lt\/lo.kd=.lt then .lt else .le
 ex:∃μ:Rat,0<μ/\(∀c,r.a c=μ*(-lo.a j*up.a c+up.a j*lo.a c))/\r.b=μ*(-lo.a j*up.b+up.a j*lo.b)/\∀i,r.w i=μ*(-lo.a j*up.w i+up.a j*lo.w i)
variable {R':List Rw}
variable {R:List Rw} in
structure Pairs (k:Nat) (J:Nat->Bool) (j most:Nat) (R R':List Rw):Prop where
 nB:∀r∈R,r.kd=.eq->r.a j=0
 fJ:∀r∈R',(r∈R/\r.a j=0)\/∃up∈R,∃lo∈R,0<up.a j/\lo.a j<0/\Jd up lo r j
 keep:∀r∈R,r.a j=0->∃r'∈R',r'=r
 join:∀up∈R,∀lo∈R,0<up.a j->lo.a j<0->cnt k (fun i=>uo J up i+uo J lo i)<=most->∃r∈R',Jd up lo r j
theorem Il{up lo:Rw}{μ:Rat}(hw:∀i,r.w i=μ*(-lo.a j*up.w i+up.a j*lo.w i))(i:Nat):uo J r i=μ*(-lo.a j*uo J up i+up.a j*uo J lo i):=by
 unfold uo;split
 ·exact hw i
 ·grind
variable {R:List Rw} {St:Nat->Bool} in
theorem Sg.pairs(S:Sg n k j J St E B β R)(hj:j<n)(P:Pairs k J j (E.length+2) R R'):Sg n k (j+1) J St (j::E) B β R':=by
 have yM:∀{up lo:Rw},up∈R->lo∈R->up.kd≠.eq->lo.kd≠.eq->0<up.a j->lo.a j<0->iJ k (fun i=>J i=true) (j::E) B (fun i=>-lo.a j*uo J up i+up.a j*uo J lo i):=by
  intro up lo hu hl ku kl pu pl;have cu:=pL S hu ku;have cl:=pL S hl kl;refine⟨fun i hi=>?_,fun i hi h=>?_,fun c hc=>?_⟩
  ·have a:=cO (show 0<=-lo.a j by grind) (cu.nn i hi);have b:=cO (le_of_lt pu) (cl.nn i hi);grind
  ·rw[cu.off i hi h,cl.off i hi h];grind
  ·have e:sm k (fun i=>(-lo.a j*uo J up i+up.a j*uo J lo i)*B i c)=-lo.a j*sm k (fun i=>uo J up i*B i c)+up.a j*sm k (fun i=>uo J lo i*B i c):=by
    rw[<- bw,<- bw,<- dj];exact aO fun i _=>by grind
   rw[e];rcases mem_cons.mp hc with h|h
   ·subst h;rw[<- S.va up hu ku c (by omega),<- S.va lo hl kl c (by omega)];grind
   ·rw[cu.mn c h,cl.mn c h];grind
 have kq:∀{r:Rw},r∈R->r.a j≠0->r.kd≠.eq:=fun hr h e=>h (P.nB _ hr e);have PB:∀{up lo r:Rw},Jd up lo r j->r.kd≠.eq:=fun h=>by rw[h.kd];split<;>simp
 refine⟨by omega,fun r hr c hc=>?_,fun c hc=>?_,fun r hr hk i hi hj=>?_,fun r hr hk i hi hj=>?_,fun r hr hk=>?_,fun r hr hk=>?_,fun r hr hk c hc=>?_,fun r hr hk=>?_,fun u hu=>?_⟩
 ·rcases P.fJ r hr with⟨h,h0⟩|⟨up,fR,lo,fY,pu,pl,hd⟩
  ·by_cases e:c=j
   ·rw[e];exact h0
   ·exact S.zero r h c (by omega)
  ·obtain⟨μ,_,ea,_⟩:=hd.ex;rw[ea c];by_cases e:c=j
   ·rw[e];grind
   ·rw[S.zero up fR c (by omega),S.zero lo fY c (by omega)];grind
 ·rcases mem_cons.mp hc with h|h
  ·omega
  ·have:=S.ej c h;omega
 ·rcases P.fJ r hr with⟨h,h0⟩|⟨up,fR,lo,fY,pu,pl,hd⟩
  ·exact S.uS r h hk i hi hj
  ·exact absurd hk (PB hd)
 ·rcases P.fJ r hr with⟨h,h0⟩|⟨up,fR,lo,fY,pu,pl,hd⟩
  ·exact S.nn r h hk i hi hj
  ·obtain⟨μ,mp,_,_,ew⟩:=hd.ex;rw[ew i];have a:=cO (show 0<=-lo.a j by grind) (S.nn up fR (kq fR (by grind)) i hi hj);have b:=cO (le_of_lt pu) (S.nn lo fY (kq fY (by grind)) i hi hj);exact cO (le_of_lt mp) (by grind)
 ·rcases P.fJ r hr with⟨h,h0⟩|⟨up,fR,lo,fY,pu,pl,hd⟩
  ·exact S.pos r h hk
  ·obtain⟨μ,mp,_,_,ew⟩:=hd.ex;obtain⟨i,hi,hj,hp⟩:=S.pos up fR (kq fR (by grind));refine⟨i,hi,hj,?_⟩;rw[ew i];have a:=bC (show 0 < -lo.a j by grind) hp;have b:=cO (le_of_lt pu) (S.nn lo fY (kq fY (by grind)) i hi hj);exact bC mp (by grind)
 ·rcases P.fJ r hr with⟨h,h0⟩|⟨up,fR,lo,fY,pu,pl,hd⟩
  ·exact S.st r h hk
  ·obtain⟨μ,mp,_,_,ew⟩:=hd.ex;have su:=S.st up fR (kq fR (by grind));have sl:=S.st lo fY (kq fY (by grind));have nu:=S.nn up fR (kq fR (by grind));have nl:=S.nn lo fY (kq fY (by grind));constructor
   ·intro e;rw[hd.kd]at e;split at e
    ·rename_i h;rcases h with h|h
     ·obtain⟨i,hi,hj,hs,hp⟩:=su.mp h;refine⟨i,hi,hj,hs,?_⟩;rw[ew i];have a:=bC (show 0 < -lo.a j by grind) hp;have b:=cO (le_of_lt pu) (nl i hi hj);exact bC mp (by grind)
     ·obtain⟨i,hi,hj,hs,hp⟩:=sl.mp h;refine⟨i,hi,hj,hs,?_⟩;rw[ew i];have a:=cO (show 0<=-lo.a j by grind) (nu i hi hj);have b:=bC pu hp;exact bC mp (by grind)
    ·cases e
   ·rintro⟨i,hi,hj,hs,hp⟩;rw[hd.kd,if_pos];by_cases c:0<up.w i
    ·exact .inl (su.mpr ⟨i,hi,hj,hs,c⟩)
    ·right
     refine sl.mpr ⟨i,hi,hj,hs,?_⟩;have T3:up.w i=0:=by have:=nu i hi hj;grind
     by_cases c2:0<lo.w i
     ·exact c2
     ·have To:lo.w i=0:=by have:=nl i hi hj;grind
      rw[ew i,T3,To]at hp;grind
 ·rcases P.fJ r hr with⟨h,h0⟩|⟨up,fR,lo,fY,pu,pl,hd⟩
  ·exact S.va r h hk c hc
  ·obtain⟨μ,mp,ea,_,ew⟩:=hd.ex;rw[ea c,S.va up fR (kq fR (by grind)) c hc,S.va lo fY (kq fY (by grind)) c hc];rw[<- bw,<- bw,<- dj,<- bw];exact aO fun i _=>by rw[Il ew i];grind
 ·rcases P.fJ r hr with⟨h,h0⟩|⟨up,fR,lo,fY,pu,pl,hd⟩
  ·exact S.vb r h hk
  ·obtain⟨μ,mp,_,eb,ew⟩:=hd.ex;rw[eb,S.vb up fR (kq fR (by grind)),S.vb lo fY (kq fY (by grind))];rw[<- bw,<- bw,<- dj,<- bw];exact aO fun i _=>by rw[Il ew i];grind
 ·
  have MR:=hu.MR;rw[length_cons]at MR;have Tx:iJ k (fun i=>J i=true) E B u:=⟨hu.gx.nn,hu.gx.off,fun c hc=>hu.gx.mn c (mem_cons_of_mem _ hc)⟩;obtain⟨L,h1,h2⟩:=parted (cnt k u) u (le_refl _) Tx

  let V:(Nat->Rat)->Rat:=fun v=>sm k fun i=>v i*B i j;have rowOf:∀v∈L,∃r∈R,r.kd≠.eq/\∃c:Rat,0<c/\(∀i,i<k->uo J r i=c*v i)/\r.a j=c*V v:=by
   intro v hv;obtain⟨he,hz⟩:=h1 v hv;obtain⟨r,hr,hk,c,hc,hw⟩:=S.all v he;have e:∀i,i<k->uo J r i=c*v i:=fun i hi=>by
    unfold uo;by_cases hj:J i=true
    ·rw[if_pos hj,hw i hi hj]
    ·rw[if_neg hj,he.gx.off i hi hj];grind
   refine⟨r,hr,hk,c,hc,e,?_⟩;rw[S.va r hr hk j (by omega)];show _=c*sm k fun i=>v i*B i j;rw[<- bw];exact aO fun i hi=>by rw[e i hi];grind
  by_cases hz:∃v∈L,V v=0
  ·obtain⟨v,hv,h0⟩:=hz;obtain⟨r,hr,hk,c,hc,hw,ha⟩:=rowOf v hv;obtain⟨he,RL⟩:=h1 v hv;obtain⟨l,l0,hl⟩:=hu.alone v ⟨he.gx.nn,he.gx.off,fun c' fI=>by
    rcases mem_cons.mp fI with h|h
    ·subst h;exact h0
    ·exact he.gx.mn c' h⟩ RL
   have lp:0<l:=by
    obtain⟨i,hi,bQ⟩:=he.ne;rcases Rat.le_iff_lt_or_eq.mp l0 with h|h
    ·exact h
    ·exact absurd (by rw[hl i hi,<- h];grind) bQ
   obtain⟨r',cD,e⟩:=P.keep r hr (by rw[ha,h0];grind);subst e;refine⟨r',cD,hk,c*l,bC hc lp,fun i hi hj=>?_⟩;have:=hw i hi;unfold uo at this;rw[if_pos hj,hl i hi]at this;rw[this];grind
  ·
   have Rq:∀L:List (Nat->Rat),V (lsum L)=L.foldr (fun v s=>V v+s) 0:=by
    intro L;induction L with
    |nil=>exact fU fun i _=>by show(0:Rat)*_=0;grind
    |cons v L ih=>
     show _=V v+L.foldr (fun v s=>V v+s) 0;rw[<- ih];show(sm k fun i=>(v i+lsum L i)*B i j)=(sm k fun i=>v i*B i j)+sm k fun i=>lsum L i*B i j;rw[<- dj];exact aO fun i _=>by grind
   have zk:L.foldr (fun v s=>V v+s) 0=0:=by
    rw[<- Rq];have:=hu.gx.mn j mem_cons_self;rw[<- this];exact aO fun i hi=>by rw[h2 i hi]
   have QB:L≠[]:=by
    intro e;obtain⟨i,hi,bQ⟩:=hu.ne;apply bQ
    rw[h2 i hi,e];rfl
   have nz:∀v∈L,V v≠0:=fun v hv h=>hz ⟨v,hv,h⟩;have xu:∃v∈L,0<V v:=by
    apply Classical.byContradiction
    intro xy;have neg:∀v∈L,V v<0:=fun v hv=>by
     have a:=nz v hv;have b:¬0<V v:=fun z=>xy ⟨v,hv,z⟩;grind
    have:∀M:List (Nat->Rat),M≠[]->(∀v∈M,V v<0)->M.foldr (fun v s=>V v+s) 0<0:=by
     intro M;induction M with
     |nil=>intro h;exact absurd rfl h
     |cons v M ih=>
      intro _ h;have a:=h v mem_cons_self;show V v+M.foldr (fun v s=>V v+s) 0<0;by_cases e:M=[]
      ·subst e;show V v+0<0;grind
      ·have:=ih e fun q hq=>h q (mem_cons_of_mem _ hq);grind
    have:=this L QB neg;grind
   have Gx:∃v∈L,V v<0:=by
    apply Classical.byContradiction
    intro xy;have neg:∀v∈L,0<V v:=fun v hv=>by
     have a:=nz v hv;have b:¬V v<0:=fun z=>xy ⟨v,hv,z⟩;grind
    have:∀M:List (Nat->Rat),M≠[]->(∀v∈M,0<V v)->0<M.foldr (fun v s=>V v+s) 0:=by
     intro M;induction M with
     |nil=>intro h;exact absurd rfl h
     |cons v M ih=>
      intro _ h;have a:=h v mem_cons_self;show 0<V v+M.foldr (fun v s=>V v+s) 0;by_cases e:M=[]
      ·subst e;show 0<V v+0;grind
      ·have:=ih e fun q hq=>h q (mem_cons_of_mem _ hq);grind
    have:=this L QB neg;grind
   obtain⟨p,hp,pp⟩:=xu;obtain⟨q,hq,qn⟩:=Gx;obtain⟨up,fR,ku,cu,UE,wu,au⟩:=rowOf p hp;obtain⟨lo,fY,kl,cl,UG,wl,al⟩:=rowOf q hq;have pu:0<up.a j:=by rw[au];exact bC UE pp
   have pl:lo.a j<0:=by
    have:=bC UG (show 0 < - V q by grind);rw[al];grind
   have cj:=yM fR fY ku kl pu pl;have sup:∀i,i<k->u i=0->-lo.a j*uo J up i+up.a j*uo J lo i=0:=fun i hi e=>by
    rw[wu i hi,wl i hi,(h1 p hp).2 i hi e,(h1 q hq).2 i hi e];grind
   have Rp:∀i,i<k->u i=0->uo J up i+uo J lo i=0:=fun i hi e=>by
    rw[wu i hi,wl i hi,(h1 p hp).2 i hi e,(h1 q hq).2 i hi e];grind
   obtain⟨l,l0,hl⟩:=hu.alone _ cj sup;have hcnt:=ye (k:=k) Rp;obtain⟨r,hr,hd⟩:=P.join up fR lo fY pu pl (by omega);obtain⟨μ,mp,_,_,ew⟩:=hd.ex;have lp:0<l:=by
    rcases Rat.le_iff_lt_or_eq.mp l0 with h|h
    ·exact h
    ·exfalso;obtain⟨i,hi,hj,hp⟩:=S.pos up fR ku;have e:=hl i hi;rw[<- h]at e;have a:=bC (show 0 < -lo.a j by grind) hp;have b:=cO (le_of_lt pu) (S.nn lo fY kl i hi hj);unfold uo at e;rw[if_pos hj,if_pos hj]at e;grind
   refine⟨r,hr,PB hd,μ*l,bC mp lp,fun i hi hj=>?_⟩;have e:=hl i hi;unfold uo at e;rw[if_pos hj,if_pos hj]at e;rw[ew i,e];grind
structure Wo (q r r':Rw) (j:Nat):Prop where
 kd:r'.kd=r.kd
 ex:∃μ:Rat,0<μ/\(∀c,r'.a c=μ*(r.a c-r.a j/q.a j*q.a c))/\r'.b=μ*(r.b-r.a j/q.a j*q.b)/\∀i,r'.w i=μ*(r.w i-r.a j/q.a j*q.w i)
variable {R:List Rw} in
structure Cj (j:Nat) (q:Rw) (R R':List Rw):Prop where
 mem:q∈R
 eq:q.kd=.eq
 ne:q.a j≠0
 fJ:∀r'∈R',∃r∈R,Wo q r r' j
 to:∀r∈R,r≠q->∃r'∈R',Wo q r r' j
variable {R:List Rw} {St:Nat->Bool} in
theorem Sg.OF{q:Rw}(S:Sg n k j J St E B β R)(hj:j<n)(G:Cj j q R R'):
  Sg n k (j+1) J St E (fun i c=>B i c-B i j/q.a j*q.a c) (fun i=>β i-B i j/q.a j*q.b) R':=by
 have q0:∀i,i<k->J i=true->q.w i=0:=S.uS q G.mem G.eq;have wu:∀{r r':Rw} {μ:Rat},(∀i,r'.w i=μ*(r.w i-r.a j/q.a j*q.w i))->∀i,i<k->uo J r' i=μ*uo J r i:=by
  intro r r' μ h i hi;unfold uo;by_cases hj:J i=true
  ·rw[if_pos hj,if_pos hj,h i,q0 i hi hj];grind
  ·rw[if_neg hj,if_neg hj];grind
 have ww:∀{r r':Rw} {μ:Rat},(∀i,r'.w i=μ*(r.w i-r.a j/q.a j*q.w i))->∀i,i<k->J i=true->r'.w i=μ*r.w i:=by
  intro r r' μ h i hi hj;rw[h i,q0 i hi hj];grind
 refine⟨by omega,fun r' cD c hc=>?_,fun c hc=>?_,fun r' cD hk i hi hj=>?_,fun r' cD hk i hi hj=>?_,fun r' cD hk=>?_,fun r' cD hk=>?_,fun r' cD hk c hc=>?_,fun r' cD hk=>?_,fun u hu=>?_⟩
 ·obtain⟨r,hr,W⟩:=G.fJ r' cD;obtain⟨μ,_,ea,_⟩:=W.ex;rw[ea c];by_cases e:c=j
  ·rw[e];have:r.a j/q.a j*q.a j=r.a j:=by have:=G.ne;grind
   rw[this];grind
  ·rw[S.zero r hr c (by omega),S.zero q G.mem c (by omega)];grind
 ·have:=S.ej c hc;omega
 ·obtain⟨r,hr,W⟩:=G.fJ r' cD;obtain⟨μ,mp,ea,eb,ew⟩:=W.ex;rw[ww ew i hi hj,S.uS r hr (by rw[<- W.kd];exact hk) i hi hj];grind
 ·obtain⟨r,hr,W⟩:=G.fJ r' cD;obtain⟨μ,mp,ea,eb,ew⟩:=W.ex;rw[ww ew i hi hj];exact cO (le_of_lt mp) (S.nn r hr (by rw[<- W.kd];exact hk) i hi hj)
 ·obtain⟨r,hr,W⟩:=G.fJ r' cD;obtain⟨μ,mp,ea,eb,ew⟩:=W.ex;obtain⟨i,hi,hj,hp⟩:=S.pos r hr (by rw[<- W.kd];exact hk);exact⟨i,hi,hj,by rw[ww ew i hi hj];exact bC mp hp⟩
 ·obtain⟨r,hr,W⟩:=G.fJ r' cD;obtain⟨μ,mp,ea,eb,ew⟩:=W.ex;rw[W.kd,S.st r hr (by rw[<- W.kd];exact hk)];constructor
  ·rintro⟨i,hi,hj,hs,hp⟩;exact⟨i,hi,hj,hs,by rw[ww ew i hi hj];exact bC mp hp⟩
  ·rintro⟨i,hi,hj,hs,hp⟩;refine⟨i,hi,hj,hs,?_⟩;rw[ww ew i hi hj]at hp;have nn:=S.nn r hr (by rw[<- W.kd];exact hk) i hi hj;by_cases c:0<r.w i
   ·exact c
   ·have:r.w i=0:=by grind
    rw[this]at hp;grind
 ·obtain⟨r,hr,W⟩:=G.fJ r' cD;obtain⟨μ,mp,ea,eb,ew⟩:=W.ex;have ip:r.kd≠.eq:=by rw[<- W.kd];exact hk
  rw[ea c,S.va r hr ip c hc,S.va r hr ip j (by omega)];rw[aO (f:=fun i=>uo J r' i*(B i c-B i j/q.a j*q.a c)) (g:=fun i=>μ*(uo J r i*B i c)+(-(μ/q.a j*q.a c))*(uo J r i*B i j)) (fun i hi=>by rw[wu ew i hi];grind)];rw[dj,bw,bw];grind
 ·obtain⟨r,hr,W⟩:=G.fJ r' cD;obtain⟨μ,mp,ea,eb,ew⟩:=W.ex;have ip:r.kd≠.eq:=by rw[<- W.kd];exact hk
  rw[eb,S.vb r hr ip,S.va r hr ip j (by omega)];rw[aO (f:=fun i=>uo J r' i*(β i-B i j/q.a j*q.b)) (g:=fun i=>μ*(uo J r i*β i)+(-(μ/q.a j*q.b))*(uo J r i*B i j)) (fun i hi=>by rw[wu ew i hi];grind)];rw[dj,bw,bw];grind
 ·have same:∀v,iJ k (fun i=>J i=true) E (fun i c=>B i c-B i j/q.a j*q.a c) v↔iJ k (fun i=>J i=true) E B v:=by
   intro v;have e:∀c∈E,(sm k fun i=>v i*(B i c-B i j/q.a j*q.a c))=sm k fun i=>v i*B i c:=fun c hc=>by
    rw[S.zero q G.mem c (S.ej c hc)];exact aO fun i _=>by grind
   exact⟨fun h=>⟨h.nn,h.off,fun c hc=>by rw[<- e c hc];exact h.mn c hc⟩,fun h=>⟨h.nn,h.off,fun c hc=>by rw[e c hc];exact h.mn c hc⟩⟩
  obtain⟨r,hr,hk,c,hc,hw⟩:=S.all u ⟨(same u).mp hu.gx,hu.ne,fun v hv=>hu.alone v ((same v).mpr hv)⟩;obtain⟨r',cD,W⟩:=G.to r hr (fun e=>hk (by rw[e];exact G.eq));obtain⟨μ,mp,ea,eb,ew⟩:=W.ex;exact⟨r',cD,by rw[W.kd];exact hk,μ*c,bC mp hc,fun i hi hj=>by rw[ww ew i hi hj,hw i hi hj];grind⟩
def rest (n:Nat) (r:Rw) (x:Nat->Rat) (j:Nat):Rat:=sm (n+1) fun c=>if c=j then 0 else r.a c*x c
def Nm (n:Nat) (r:Rw) (x:Nat->Rat) (j:Nat):Rat:=(r.b-rest n r x j)/r.a j
theorem mW(hj:j<=n):vl n r x=rest n r x j+r.a j*x j:=vZ (by omega)
def put (x:Nat->Rat) (j:Nat) (v:Rat):Nat->Rat:=fun c=>if c=j then v else x c
variable {v:Rat}
theorem FE:rest n r (put x j v) j=rest n r x j:=aO fun c _=>by
 unfold put;split<;>rfl
theorem mm(hj:j<=n):vl n r (put x j v)=rest n r x j+r.a j*v:=by
 rw[mW hj,FE];unfold put;rw[if_pos rfl]
theorem CQ(h:r.a j=0):rest n r x j=vl n r x:=aO fun c _=>by
 by_cases e:c=j
 ·rw[if_pos e,e,h];grind
 ·rw[if_neg e]
theorem xE(hj:j<=n)(h:r.a j=0):Hd n (put x j v) r↔Hd n x r:=by
 unfold Hd;rw[mm hj,h,CQ h,show vl n r x+0*v=vl n r x by grind]
theorem qZ(h:r.a j≠0):r.b=rest n r x j+r.a j*Nm n r x j:=by unfold Nm;grind
theorem AN(hj:j<=n)(h:0<r.a j):vl n r (put x j v)<=r.b↔v<=Nm n r x j:=by
 rw[mm hj,qZ (n:=n) (x:=x) (j:=j) (r:=r) (by grind)];constructor
 ·intro z;have z':r.a j*v<=r.a j*Nm n r x j:=by grind
  exact Rat.le_of_mul_le_mul_left z' h
 ·intro z;have:=mul_le_mul_of_nonneg_left z (le_of_lt h);grind
theorem AM(hj:j<=n)(h:0<r.a j):vl n r (put x j v)<r.b↔v<Nm n r x j:=by
 rw[mm hj,qZ (n:=n) (x:=x) (j:=j) (r:=r) (by grind)];constructor
 ·intro z;have z':r.a j*v<r.a j*Nm n r x j:=by grind
  exact Rat.lt_of_mul_lt_mul_left z' (le_of_lt h)
 ·intro z;have:=bC h (show 0<Nm n r x j-v by grind);grind
theorem lo_le(hj:j<=n)(h:r.a j<0):vl n r (put x j v)<=r.b↔Nm n r x j<=v:=by
 rw[mm hj,qZ (n:=n) (x:=x) (j:=j) (r:=r) (by grind)];constructor
 ·intro z;have z': -r.a j*Nm n r x j<=-r.a j*v:=by grind
  exact Rat.le_of_mul_le_mul_left z' (by grind)
 ·intro z;have:=mul_le_mul_of_nonneg_left z (show 0<=-r.a j by grind);grind
theorem Br(hj:j<=n)(h:r.a j<0):vl n r (put x j v)<r.b↔Nm n r x j<v:=by
 rw[mm hj,qZ (n:=n) (x:=x) (j:=j) (r:=r) (by grind)];constructor
 ·intro z;have z': -r.a j*Nm n r x j < -r.a j*v:=by grind
  exact Rat.lt_of_mul_lt_mul_left z' (by grind)
 ·intro z;have:=bC (show 0 < -r.a j by grind) (show 0<v-Nm n r x j by grind);grind
theorem nM(hj:j<=n)(h:r.a j≠0):vl n r (put x j v)=r.b↔v=Nm n r x j:=by
 rw[mm hj,qZ (n:=n) (x:=x) (j:=j) (r:=r) h];constructor
 ·intro z;have z':r.a j*(v-Nm n r x j)=0:=by grind
  rcases mul_eq_zero.mp z' with e|e
  ·exact absurd e h
  ·grind
 ·intro z;rw[z]
def isUp (r:Rw) (j:Nat):Prop:=0<r.a j\/(r.a j<0/\r.kd=.eq)
def nG (r:Rw) (j:Nat):Prop:=r.a j<0\/(0<r.a j/\r.kd=.eq)
variable {R:List Rw} in
structure Top (n:Nat) (R:List Rw) (x:Nat->Rat) (j:Nat) (g:Option (Bool×Rat)):Prop where
 none:g=none->∀r∈R,¬isUp r j
 some:∀s v,g=some (s,v)->(∃r∈R,isUp r j/\v=Nm n r x j/\(s=true->r.kd=.lt))/\∀r∈R,isUp r j->v<=Nm n r x j/\(r.kd=.lt->Nm n r x j=v->s=true)
variable {R:List Rw} in
structure NT (n:Nat) (R:List Rw) (x:Nat->Rat) (j:Nat) (g:Option (Bool×Rat)):Prop where
 none:g=none->∀r∈R,¬nG r j
 some:∀s v,g=some (s,v)->(∃r∈R,nG r j/\v=Nm n r x j/\(s=true->r.kd=.lt))/\∀r∈R,nG r j->Nm n r x j<=v/\(r.kd=.lt->Nm n r x j=v->s=true)
def sP (least GH:Option Rat):Rat:=match least,GH with
 |none,none=>0
 |some l,none=>l+1
 |none,some g=>g-1
 |some l,some g=>(l+g)/2
variable {R:List Rw} {St:Nat->Bool} in
theorem Dl{up lo:Rw}(S':Sg n k (j+1) J St (j::E) B β R')(S:Sg n k j J St E B β R)(hj:j<n)(P:Pairs k J j (E.length+2) R R')(hx:∀r∈R',Hd n x r)(hu:up∈R)(hl:lo∈R)(pu:0<up.a j)(pl:lo.a j<0):
  Nm n lo x j<=Nm n up x j/\(up.kd=.lt\/lo.kd=.lt->Nm n lo x j<Nm n up x j):=by
 have ku:up.kd≠.eq:=fun e=>by have:=P.nB up hu e;grind
 have kl:lo.kd≠.eq:=fun e=>by have:=P.nB lo hl e;grind
 have cu:=pL S hu ku;have cl:=pL S hl kl;have cj:iJ k (fun i=>J i=true) (j::E) B (fun i=>-lo.a j*uo J up i+up.a j*uo J lo i):=by
  refine⟨fun i hi=>?_,fun i hi h=>?_,fun c hc=>?_⟩
  ·have a:=cO (show 0<=-lo.a j by grind) (cu.nn i hi);have b:=cO (le_of_lt pu) (cl.nn i hi);grind
  ·rw[cu.off i hi h,cl.off i hi h];grind
  ·have e:sm k (fun i=>(-lo.a j*uo J up i+up.a j*uo J lo i)*B i c)=-lo.a j*sm k (fun i=>uo J up i*B i c)+up.a j*sm k (fun i=>uo J lo i*B i c):=by
    rw[<- bw,<- bw,<- dj];exact aO fun i _=>by grind
   rw[e];rcases mem_cons.mp hc with h|h
   ·subst h;rw[<- S.va up hu ku c (by omega),<- S.va lo hl kl c (by omega)];grind
   ·rw[cu.mn c h,cl.mn c h];grind
 obtain⟨h1,h2⟩:=BV S' (fun r hr _=>hx r hr) cj;rw[F2,yD (S.va up hu ku) (S.vb up hu ku),yD (S.va lo hl kl) (S.vb lo hl kl)]at h1 h2;have bu:=qZ (n:=n) (x:=x) (r:=up) (j:=j) (by grind);have bl:=qZ (n:=n) (x:=x) (r:=lo) (j:=j) (by grind);have vu:=mW (n:=n) (j:=j) (r:=up) (x:=x) (by omega);have vo:=mW (n:=n) (j:=j) (r:=lo) (x:=x) (by omega);have key: -lo.a j*(vl n up x-up.b)+up.a j*(vl n lo x-lo.b)=(-lo.a j*up.a j)*(Nm n lo x j-Nm n up x j):=by
  rw[vu,vo,bu,bl];grind
 have pp:0 < -lo.a j*up.a j:=bC (by grind) pu;rw[key]at h1 h2;constructor
 ·by_cases c:Nm n lo x j<=Nm n up x j
  ·exact c
  ·have:=bC pp (show 0<Nm n lo x j-Nm n up x j by grind);grind
 ·intro hs;have qo:∃i,i<k/\St i=true/\0 < -lo.a j*uo J up i+up.a j*uo J lo i:=by
   rcases hs with hs|hs
   ·obtain⟨i,hi,E4,hst,hp⟩:=(S.st up hu ku).mp hs;refine⟨i,hi,hst,?_⟩;have a:=bC (show 0 < -lo.a j by grind) hp;have b:=cO (le_of_lt pu) (cl.nn i hi);unfold uo at b ⊢;rw[if_pos E4]at b ⊢;rw[if_pos E4];grind
   ·obtain⟨i,hi,E4,hst,hp⟩:=(S.st lo hl kl).mp hs;refine⟨i,hi,hst,?_⟩;have a:=cO (show 0<=-lo.a j by grind) (cu.nn i hi);have b:=bC pu hp;unfold uo at a ⊢;rw[if_pos E4]at a ⊢;rw[if_pos E4];grind
  have h3:=h2 qo;by_cases c:Nm n lo x j<Nm n up x j
  ·exact c
  ·have:=cO (le_of_lt pp) (show 0<=Nm n lo x j-Nm n up x j by grind);grind
def ia (g:Option (Bool×Rat)):Option Rat:=g.map (·.2)
variable {R:List Rw} {St:Nat->Bool} in
theorem Em{g l:Option (Bool×Rat)}(S':Sg n k (j+1) J St (j::E) B β R')(S:Sg n k j J St E B β R)(hj:j<n)(P:Pairs k J j (E.length+2) R R')(hx:∀r∈R',Hd n x r)(hg:Top n R x j g)(hl:NT n R x j l):
  ∀r∈R,Hd n (put x j (sP (ia l) (ia g))) r:=by
 have room:=fun{up lo:Rw}=>Dl (up:=up) (lo:=lo) S' S hj P hx;have kq:∀{r:Rw},r∈R->r.a j≠0->r.kd≠.eq:=fun hr h e=>h (P.nB _ hr e);have Sv:∀{r:Rw},r∈R->isUp r j->0<r.a j:=fun hr h=>h.elim id fun z=>absurd z.2 (kq hr (by have:=z.1;grind));have SS:∀{r:Rw},r∈R->nG r j->r.a j<0:=fun hr h=>h.elim id fun z=>absurd z.2 (kq hr (by have:=z.1;grind));intro r hr;by_cases h0:r.a j=0
 ·obtain⟨r',cD,e⟩:=P.keep r hr h0;rw[xE (by omega) h0,<- e];exact hx r' cD
 ·have hk:=kq hr h0;by_cases hp:0<r.a j
  ·
   have goal:∀v:Rat,(v<=Nm n r x j)->(r.kd=.lt->v<Nm n r x j)->Hd n (put x j v) r:=by
    intro v h1 h2;unfold Hd;cases e:r.kd with
    |eq=>exact absurd e hk
    |le=>exact(AN (by omega) hp).mpr h1
    |lt=>exact(AM (by omega) hp).mpr (h2 e)
   cases eg:g with
   |none=>exact absurd (.inl hp) (hg.none eg r hr)
   |some gv=>
    obtain⟨sg,v⟩:=gv;obtain⟨_,g2⟩:=hg.some sg v eg;obtain⟨g3,g4⟩:=g2 r hr (.inl hp);cases el:l with
    |none=>
     have:sP (ia none) (ia (some (sg,v)))=v-1:=rfl;rw[this];exact goal _ (by grind) (fun _=>by grind)
    |some lv=>
     obtain⟨sl,v'⟩:=lv;obtain⟨⟨lo,fY,T1,elo,_⟩,_⟩:=hl.some sl v' el;obtain⟨r1,r2⟩:=room hr fY hp (SS fY T1);have:sP (ia (some (sl,v'))) (ia (some (sg,v)))=(v'+v)/2:=rfl;rw[this];exact goal _ (by grind) (fun e=>by have:=r2 (.inl e);grind)
  ·have hn:r.a j<0:=by grind
   have goal:∀v:Rat,(Nm n r x j<=v)->(r.kd=.lt->Nm n r x j<v)->Hd n (put x j v) r:=by
    intro v h1 h2;unfold Hd;cases e:r.kd with
    |eq=>exact absurd e hk
    |le=>exact(lo_le (by omega) hn).mpr h1
    |lt=>exact(Br (by omega) hn).mpr (h2 e)
   cases el:l with
   |none=>exact absurd (.inl hn) (hl.none el r hr)
   |some lv=>
    obtain⟨sl,v'⟩:=lv;obtain⟨_,l2⟩:=hl.some sl v' el;obtain⟨l3,l4⟩:=l2 r hr (.inl hn);cases eg:g with
    |none=>
     have:sP (ia (some (sl,v'))) (ia none)=v'+1:=rfl;rw[this];exact goal _ (by grind) (fun _=>by grind)
    |some gv=>
     obtain⟨sg,v⟩:=gv;obtain⟨⟨up,fR,SY,eup,_⟩,_⟩:=hg.some sg v eg;obtain⟨r1,r2⟩:=room fR hr (Sv fR SY) hn;have:sP (ia (some (sl,v'))) (ia (some (sg,v)))=(v'+v)/2:=rfl;rw[this];exact goal _ (by grind) (fun e=>by have:=r2 (.inr e);grind)
variable {R:List Rw} in
theorem Eo{q:Rw}{g l:Option (Bool×Rat)}(hj:j<=n)(G:Cj j q R R')(hx:∀r∈R',Hd n x r)(h0:∀r∈R',r.a j=0)(hg:Top n R x j g)(hl:NT n R x j l):
  ∀r∈R,Hd n (put x j (sP (ia l) (ia g))) r:=by

 have at':∀r∈R,Hd n (put x j (Nm n q x j)) r:=by
  intro r hr;have hq:vl n q (put x j (Nm n q x j))=q.b:=(nM hj G.ne).mpr rfl;by_cases e:r=q
  ·rw[e];unfold Hd;rw[G.eq];exact hq
  ·obtain⟨r',cD,W⟩:=G.to r hr e;have hd:=(xE (n:=n) (x:=x) (v:=Nm n q x j) hj (h0 r' cD)).mpr (hx r' cD);obtain⟨μ,mp,ea,eb,_⟩:=W.ex;generalize put x j (Nm n q x j)=y at hd hq ⊢;have ev:vl n r' y=μ*(vl n r y-r.a j/q.a j*vl n q y):=by
    unfold vl;rw[aO (g:=fun c=>μ*(r.a c*y c)+(-(μ*(r.a j/q.a j)))*(q.a c*y c)) (fun c _=>by rw[ea c];grind),dj,bw,bw];grind
   unfold Hd at hd ⊢;rw[W.kd,ev,eb,hq]at hd;have mi:0<μ⁻¹:=inv_pos.mpr mp;cases hk:r.kd with
   |eq=>
    rw[hk]at hd;have cV:μ*(vl n r y-r.a j/q.a j*q.b)=μ*(r.b-r.a j/q.a j*q.b):=hd;have:μ*(vl n r y-r.b)=0:=by grind
    show vl n r y=r.b;rcases mul_eq_zero.mp this with z|z<;>grind
   |le=>
    rw[hk]at hd;have cV:μ*(vl n r y-r.a j/q.a j*q.b)<=μ*(r.b-r.a j/q.a j*q.b):=hd;have:=Rat.le_of_mul_le_mul_left cV mp;show vl n r y<=r.b;grind
   |lt=>
    rw[hk]at hd;have cV:μ*(vl n r y-r.a j/q.a j*q.b)<μ*(r.b-r.a j/q.a j*q.b):=hd;have:=Rat.lt_of_mul_lt_mul_left cV (le_of_lt mp);show vl n r y<r.b;grind
 have qu:isUp q j:=by
  have:=G.ne;by_cases c:0<q.a j
  ·exact .inl c
  ·exact .inr ⟨by grind,G.eq⟩
 have ql:nG q j:=by
  have:=G.ne;by_cases c:q.a j<0
  ·exact .inl c
  ·exact .inr ⟨by grind,G.eq⟩
 have Uj:∀r∈R,isUp r j->Nm n q x j<=Nm n r x j:=by
  intro r hr hu;have h:=at' r hr;unfold Hd at h;rcases hu with hp|⟨hn,he⟩
  ·cases hk:r.kd with
   |eq=>rw[hk]at h;have:=(nM hj (by grind)).mp h;grind
   |le=>rw[hk]at h;exact(AN hj hp).mp h
   |lt=>rw[hk]at h;exact le_of_lt ((AM hj hp).mp h)
  ·rw[he]at h;have:=(nM hj (by grind)).mp h;grind
 have SV:∀r∈R,nG r j->Nm n r x j<=Nm n q x j:=by
  intro r hr hu;have h:=at' r hr;unfold Hd at h;rcases hu with hp|⟨hn,he⟩
  ·cases hk:r.kd with
   |eq=>rw[hk]at h;have:=(nM hj (by grind)).mp h;grind
   |le=>rw[hk]at h;exact(lo_le hj hp).mp h
   |lt=>rw[hk]at h;exact le_of_lt ((Br hj hp).mp h)
  ·rw[he]at h;have:=(nM hj (by grind)).mp h;grind
 have eb:sP (ia l) (ia g)=Nm n q x j:=by
  cases eg:g with
  |none=>exact absurd qu (hg.none eg q G.mem)
  |some gv=>
   obtain⟨sg,v⟩:=gv;obtain⟨⟨r,hr,iu,ev,_⟩,g2⟩:=hg.some sg v eg;have a1:=(g2 q G.mem qu).1;have a2:=Uj r hr iu;cases el:l with
   |none=>exact absurd ql (hl.none el q G.mem)
   |some lv=>
    obtain⟨sl,v'⟩:=lv;obtain⟨⟨r',cD,il,ev',_⟩,l2⟩:=hl.some sl v' el;have b1:=(l2 q G.mem ql).1;have b2:=SV r' cD il;show(v'+v)/2=_;grind
 rw[eb];exact at'
abbrev Row:=Kn×List Int
def ent (r:Row) (c:Nat):Int:=r.2.getD c 0
def lowG (l:List Int):Nat:=l.foldl (fun g x=>Nat.gcd g x.natAbs) 0
def lowered (l:List Int):List Int:=l.map fun x=>x.fdiv (lowG l:Int)
def f9 (one:List Int) (bJ:Int) (other:List Int) (more:Int):List Int:=zipWith (fun a b=>bJ*a+more*b) one other
def mixed (one:List Int) (bJ:Int) (other:List Int) (more:Int):List Int:=lowered (f9 one bJ other more)
def wo (equal:Row) (j:Nat) (r:Row):Row:=(r.1,mixed r.2 ((ent equal j).natAbs:Int) equal.2 (if 0<ent equal j then -ent r j else ent r j))
def joined (j:Nat) (up lo:Row):Row:=(if up.1=.lt\/lo.1=.lt then .lt else .le,mixed up.2 (-ent lo j) lo.2 (ent up j))
def drawn (aA:List Nat) (up lo:Row):Nat:=(aA.filter fun p=>decide (ent up p≠0\/ent lo p≠0)).length
def ins (l:List Row) (r:Row):List Row:=if r∈l then l else l++[r]
def pairsOf (j:Nat) (aA:List Nat) (most:Nat) (rows:List Row):List Row:=
 (rows.filter fun r=>decide (0<ent r j)).flatMap fun up=>((rows.filter fun r=>decide (ent r j<0)).filter fun lo=>decide (drawn aA up lo<=most)).map fun lo=>joined j up lo
def paired (j:Nat) (aA:List Nat) (most:Nat) (rows:List Row):List Row:=(rows.filter (fun r=>decide (ent r j=0))++pairsOf j aA most rows).foldl ins []
def dG (j:Nat) (rows:List Row):Option Row:=rows.find? fun r=>decide (r.1=.eq/\ent r j≠0)
def cI (aA:List Nat) (j most:Nat) (rows:List Row):List Row:=match dG j rows with
 |none=>paired j aA (most+1) rows
 |some q=>(rows.filter fun r=>decide (r≠q)).map (wo q j)
def gR (j most:Nat) (rows:List Row):Nat:=match dG j rows with
 |none=>most+1
 |some _=>most
def kr (aA:List Nat):Nat->Nat->Nat->List Row->List (List Row)
 |0,_,_,rows=>[rows]
 |m+1,j,most,rows=>rows::kr aA m (j+1) (gR j most rows) (cI aA j most rows)
def aB (n:Nat) (r:Row):Rw:=⟨r.1,fun c=>(ent r c:Rat),(ent r (n+1):Rat),fun i=>(ent r (n+2+i):Rat)⟩
theorem A0:∀(l:List Int) (g:Nat),(∀x∈l,(l.foldl (fun g x=>Nat.gcd g x.natAbs) g)∣x.natAbs)/\(l.foldl (fun g x=>Nat.gcd g x.natAbs) g)∣g
 |[],g=>⟨fun x hx=>by simp at hx,Nat.dvd_refl g⟩
 |y::l,g=>by
  obtain⟨h1,h2⟩:=A0 l (Nat.gcd g y.natAbs);rw[foldl_cons];refine⟨fun x hx=>?_,dvd_trans h2 (Nat.gcd_dvd_left _ _)⟩;rcases mem_cons.mp hx with e|h
  ·rw[e];exact dvd_trans h2 (Nat.gcd_dvd_right _ _)
  ·exact h1 x h
variable {l:List Int}
theorem l9{x:Int}(h:x∈l):(lowG l:Int)∣x:=Int.ofNat_dvd_left.mpr ((A0 l 0).1 x h)
theorem qO{x:Int}(h:x∈l)(hx:x≠0):0<lowG l:=by
 rcases Nat.eq_zero_or_pos (lowG l)with e|e
 ·have:=l9 h;rw[e]at this;exact absurd (Int.zero_dvd.mp this) hx
 ·exact e
theorem Ef{f:Int->Int}(f0:f 0=0)(l:List Int)(c:Nat):(l.map f).getD c 0=f (l.getD c 0):=by
 rw[getD_eq_getElem?_getD,getD_eq_getElem?_getD,getElem?_map];cases l[c]? with
 |none=>exact f0.symm
 |some x=>rfl
variable {c:Nat}
theorem mem_getD(h:l.getD c 0≠0):l.getD c 0∈l:=by
 rw[getD_eq_getElem?_getD]at h ⊢;cases e:l[c]? with
 |none=>rw[e]at h;exact absurd rfl h
 |some x=>exact mem_of_getElem? e
theorem yK(hp:0<lowG l)(c:Nat):((lowered l).getD c 0:Rat)=(lowG l:Rat)⁻¹*(l.getD c 0:Rat):=by
 have f0:(0:Int).fdiv (lowG l:Int)=0:=Int.zero_fdiv _;unfold lowered;rw[Ef f0];by_cases e:l.getD c 0=0
 ·rw[e,f0];grind
 ·obtain⟨q,hq⟩:=l9 (mem_getD e);have g0:(lowG l:Int)≠0:=by omega
  have e2:(l.getD c 0).fdiv (lowG l:Int)=q:=by rw[hq,mul_comm,Int.mul_fdiv_cancel _ g0]
  rw[e2,hq,intCast_mul];have g1:((lowG l:Int):Rat)≠0:=fun z=>g0 (Rat.intCast_eq_zero_iff.mp z);have g2:((lowG l:Int):Rat)=(lowG l:Rat):=rfl;rw[g2]at g1 ⊢;grind
theorem qj(l:List Int):(lowered l).length=l.length:=by unfold lowered;rw[length_map]
variable {other:List Int}
theorem l8{one:List Int}(h:one.length=other.length)(bJ more:Int)(c:Nat):(f9 one bJ other more).getD c 0=bJ*one.getD c 0+more*other.getD c 0:=by
 unfold f9;rw[getD_eq_getElem?_getD,getD_eq_getElem?_getD,getD_eq_getElem?_getD,List.getElem?_zipWith];by_cases hc:c<one.length
 ·rw[getElem?_eq_getElem hc,getElem?_eq_getElem (h▸hc)];rfl
 ·rw[List.getElem?_eq_none (by omega),List.getElem?_eq_none (by omega)];show(0:Int)=bJ*0+more*0;omega
theorem Gm{one:List Int}(h:one.length=other.length)(bJ more:Int):(f9 one bJ other more).length=one.length:=by
 unfold f9;rw[List.length_zipWith];omega
theorem yL{g:Nat}(h:0<g):0<(g:Rat)⁻¹:=inv_pos.mpr (by
 have:((0:Nat):Rat)<(g:Rat):=Rat.natCast_lt_natCast.mpr h;exact this)
variable {p:Nat}
theorem uD{one:List Int}(h:one.length=other.length){bJ more:Int}(hp:bJ*one.getD p 0+more*other.getD p 0≠0):
  ∃μ:Rat,0<μ/\∀c,((mixed one bJ other more).getD c 0:Rat)=μ*((bJ:Rat)*(one.getD c 0:Rat)+(more:Rat)*(other.getD c 0:Rat)):=by
 have e:=l8 h bJ more p;have hg:0<lowG (f9 one bJ other more):=qO (mem_getD (by rw[e];exact hp)) (by rw[e];exact hp);refine⟨_,yL hg,fun c=>?_⟩;unfold mixed;rw[yK hg,l8 h,Rat.intCast_add,intCast_mul,intCast_mul]
theorem lL{one:List Int}(h:one.length=other.length)(bJ more:Int):(mixed one bJ other more).length=one.length:=by
 unfold mixed;rw[qj,Gm h]
variable {r:Row}
theorem K2{l:List Row}{x:Row}:x∈ins l r↔x∈l\/x=r:=by
 unfold ins;split
 ·rename_i h;exact⟨.inl,fun z=>z.elim id fun e=>by rw[e];exact h⟩
 ·rw[mem_append,mem_singleton]
theorem sd{x:Row}:∀{M l:List Row},x∈M.foldl ins l↔x∈l\/x∈M
 |[],l=>by simp
 |r::M,l=>by
  rw[foldl_cons,sd,K2,mem_cons];grind
variable {most:Nat} {rows:List Row}
theorem gu{aA:List Nat}{x:Row}:x∈paired j aA most rows↔(x∈rows/\ent x j=0)\/∃up∈rows,∃lo∈rows,0<ent up j/\ent lo j<0/\drawn aA up lo<=most/\x=joined j up lo:=by
 unfold paired pairsOf;rw[sd,mem_append,mem_filter,List.mem_flatMap];constructor
 ·rintro(h|h|⟨up,hu,hx⟩)
  ·simp at h
  ·exact .inl ⟨h.1,by simpa using h.2⟩
  ·obtain⟨xo,Mu⟩:=mem_filter.mp hu;obtain⟨lo,hl,e⟩:=mem_map.mp hx;obtain⟨xA,E1⟩:=mem_filter.mp hl;obtain⟨Tn,Tj⟩:=mem_filter.mp xA;exact .inr ⟨up,xo,lo,Tn,by simpa using Mu,by simpa using Tj,by simpa using E1,e.symm⟩
 ·rintro(⟨h1,h2⟩|⟨up,hu,lo,hl,pu,pl,hd,e⟩)
  ·exact .inr (.inl ⟨h1,by simpa using h2⟩)
  ·exact .inr (.inr ⟨up,mem_filter.mpr ⟨hu,by simpa using pu⟩,mem_map.mpr ⟨lo,mem_filter.mpr ⟨mem_filter.mpr ⟨hl,by simpa using pl⟩,by simpa using hd⟩,e.symm⟩⟩)
variable {a:Int}
theorem gS:(0:Rat)<(a:Rat)↔0<a:=by
 have:((0:Int):Rat)<(a:Rat)↔0<a:=Rat.intCast_lt_intCast;exact this
theorem oW:(a:Rat)<0↔a<0:=by
 have:(a:Rat)<((0:Int):Rat)↔a<0:=Rat.intCast_lt_intCast;exact this
theorem bR:(a:Rat)=0↔a=0:=Rat.intCast_eq_zero_iff
def cf (n k:Nat) (J:Nat->Bool):List Nat:=((List.range k).filter fun i=>J i).map fun i=>n+2+i
theorem EB{up lo:Row}(hu:∀i,i<k->J i=true->0<=(aB n up).w i)(hl:∀i,i<k->J i=true->0<=(aB n lo).w i):
  drawn (cf n k J) up lo=cnt k (fun i=>uo J (aB n up) i+uo J (aB n lo) i):=by
 unfold drawn cf;rw[List.filter_map,length_map,List.filter_filter];induction k with
 |zero=>rfl
 |succ k ih=>
  rw[List.range_succ,List.filter_append,length_append,ih (fun i hi=>hu i (by omega)) (fun i hi=>hl i (by omega))];show _=cnt k _+_;congr 1
  by_cases hj:J k=true
  ·have a:=hu k (by omega) hj;have b:=hl k (by omega) hj;have e0:uo J (aB n up) k+uo J (aB n lo) k=(ent up (n+2+k):Rat)+(ent lo (n+2+k):Rat):=by
    unfold uo;rw[if_pos hj,if_pos hj];rfl
   have a':0<=(ent up (n+2+k):Rat):=a;have b':0<=(ent lo (n+2+k):Rat):=b;by_cases e:ent up (n+2+k)≠0\/ent lo (n+2+k)≠0
   ·rw[if_neg,List.filter_cons_of_pos (by simp[hj];exact e)]
    ·simp
    ·show ¬uo J (aB n up) k+uo J (aB n lo) k=0;rw[e0];intro z;have z1:(ent up (n+2+k):Rat)=0:=by grind
     have z2:(ent lo (n+2+k):Rat)=0:=by grind
     exact e.elim (fun h=>h (bR.mp z1)) (fun h=>h (bR.mp z2))
   ·have h1:ent up (n+2+k)=0:=by
     apply Classical.byContradiction;intro z;exact e (.inl z)
    have h2:ent lo (n+2+k)=0:=by
     apply Classical.byContradiction;intro z;exact e (.inr z)
    rw[if_pos,List.filter_cons_of_neg (by simp[h1,h2])]
    ·simp
    ·show uo J (aB n up) k+uo J (aB n lo) k=0;rw[e0,h1,h2];grind
  ·rw[if_pos,List.filter_cons_of_neg (by simp[hj])]
   ·simp
   ·show uo J (aB n up) k+uo J (aB n lo) k=0;unfold uo;rw[if_neg hj,if_neg hj];grind
structure Rs (n k:Nat) (rows:List Row):Prop where
 len:∀r∈rows,r.2.length=n+2+k
 Be:∀r∈rows,r.1=.eq->∃p,ent r p≠0/\∀s∈rows,s.1=.eq->s≠r->ent s p=0
theorem DI{up lo:Row}(hl:up.2.length=lo.2.length)(pu:0<ent up j)(pl:ent lo j<0)(hp: -ent lo j*ent up p+ent up j*ent lo p≠0):Jd (aB n up) (aB n lo) (aB n (joined j up lo)) j:=by
 refine⟨rfl,?_⟩;obtain⟨μ,mp,h⟩:=uD (bJ:=-ent lo j) (more:=ent up j) hl (p:=p) hp;have h':∀c,((ent (joined j up lo) c:Int):Rat)=μ*(-(ent lo j:Rat)*(ent up c:Rat)+(ent up j:Rat)*(ent lo c:Rat)):=fun c=>by
  have:=h c;rw[Rat.intCast_neg]at this;exact this
 exact⟨μ,mp,fun c=>h' c,h' _,fun i=>h' _⟩
variable {q:Row}
theorem HA(hl:r.2.length=q.2.length)(q0:ent q j≠0)(hp:((ent q j).natAbs:Int)*ent r p+(if 0<ent q j then -ent r j else ent r j)*ent q p≠0):Wo (aB n q) (aB n r) (aB n (wo q j r)) j:=by
 refine⟨rfl,?_⟩;obtain⟨μ,mp,h⟩:=uD (bJ:=((ent q j).natAbs:Int)) (more:=if 0<ent q j then -ent r j else ent r j) hl (p:=p) hp;have qn:((ent q j:Int):Rat)≠0:=fun z=>q0 (bR.mp z);have ab:(((ent q j).natAbs:Int):Rat)=if 0<ent q j then(ent q j:Rat)else -(ent q j:Rat):=by
  by_cases c:0<ent q j
  ·rw[if_pos c,show((ent q j).natAbs:Int)=ent q j by omega]
  ·rw[if_neg c,show((ent q j).natAbs:Int)=-ent q j by omega,Rat.intCast_neg]
 have ap:0<(((ent q j).natAbs:Int):Rat):=gS.mpr (by omega);have h':∀c,((ent (wo q j r) c:Int):Rat)=μ*(((ent q j).natAbs:Int):Rat)*((ent r c:Rat)-(ent r j:Rat)/(ent q j:Rat)*(ent q c:Rat)):=fun c=>by
  have e:=h c;have e2:((ent (wo q j r) c:Int):Rat)=_:=e;rw[e2,ab];show μ*((if 0<ent q j then(ent q j:Rat)else -(ent q j:Rat))*(ent r c:Rat)+((if 0<ent q j then -ent r j else ent r j:Int):Rat)*(ent q c:Rat))=_;by_cases c0:0<ent q j
  ·rw[if_pos c0,if_pos c0,Rat.intCast_neg];grind
  ·rw[if_neg c0,if_neg c0];grind
 exact⟨μ*(((ent q j).natAbs:Int):Rat),bC mp ap,fun c=>h' c,h' _,fun i=>h' _⟩
variable {St:Nat->Bool} in
theorem wK(hR:Rs n k rows)(S:Sg n k j J St E B β (rows.map (aB n)))(hn:dG j rows=none):
  Pairs k J j (E.length+2) (rows.map (aB n)) ((paired j (cf n k J) (E.length+2) rows).map (aB n)):=by
 have mem:∀{r:Row},r∈rows->aB n r∈rows.map (aB n):=fun h=>mem_map.mpr ⟨_,h,rfl⟩;have nB:∀r∈rows,r.1=.eq->ent r j=0:=fun r hr he=>by
  have:=List.find?_eq_none.mp hn r hr;apply Classical.byContradiction
  intro z;exact this (by simp[he,z])
 have kq:∀{r:Row},r∈rows->ent r j≠0->(aB n r).kd≠.eq:=fun hr h e=>h (nB _ hr e);have jd:∀{up lo:Row},up∈rows->lo∈rows->0<ent up j->ent lo j<0->Jd (aB n up) (aB n lo) (aB n (joined j up lo)) j:=by
  intro up lo hu hl pu pl;obtain⟨i,hi,hj,hp⟩:=S.pos (aB n up) (mem hu) (kq hu (by omega));have b:=S.nn (aB n lo) (mem hl) (kq hl (by omega)) i hi hj;refine DI (by rw[hR.len up hu,hR.len lo hl]) pu pl (p:=n+2+i) ?_;have dI:0<ent up (n+2+i):=gS.mp hp;have Ea:0<=ent lo (n+2+i):=by
   have b':(0:Rat)<=(ent lo (n+2+i):Rat):=b;have:((0:Int):Rat)<=(ent lo (n+2+i):Rat):=b';exact Rat.intCast_le_intCast.mp this
  have h1:=Int.mul_pos (show 0 < -ent lo j by omega) dI;have h2:=Int.mul_nonneg (Int.le_of_lt pu) Ea;omega
 refine⟨fun r hr he=>?_,fun r hr=>?_,fun r hr h0=>?_,fun up hu lo hl pu pl hc=>?_⟩
 ·obtain⟨r,cD,rfl⟩:=mem_map.mp hr;exact bR.mpr (nB r cD he)
 ·obtain⟨r,cD,rfl⟩:=mem_map.mp hr;rcases gu.mp cD with⟨h1,h2⟩|⟨up,hu,lo,hl,pu,pl,_,rfl⟩
  ·exact .inl ⟨mem h1,bR.mpr h2⟩
  ·exact .inr ⟨aB n up,mem hu,aB n lo,mem hl,gS.mpr pu,oW.mpr pl,jd hu hl pu pl⟩
 ·obtain⟨r,cD,rfl⟩:=mem_map.mp hr;exact⟨_,mem_map.mpr ⟨r,gu.mpr (.inl ⟨cD,bR.mp h0⟩),rfl⟩,rfl⟩
 ·obtain⟨up,DS,rfl⟩:=mem_map.mp hu;obtain⟨lo,sj,rfl⟩:=mem_map.mp hl;clear hu hl;have hu:=DS;have hl:=sj;have Pe:0<ent up j:=gS.mp pu;have Pf:ent lo j<0:=oW.mp pl;refine⟨_,mem_map.mpr ⟨joined j up lo,gu.mpr (.inr ⟨up,hu,lo,hl,Pe,Pf,?_,rfl⟩),rfl⟩,jd hu hl Pe Pf⟩;rw[EB (S.nn _ (mem hu) (kq hu (by omega))) (S.nn _ (mem hl) (kq hl (by omega)))];exact hc
theorem CM(hR:Rs n k rows)(hn:dG j rows=none):Rs n k (paired j (cf n k J) most rows):=by
 have Py:∀{r:Row},r∈paired j (cf n k J) most rows->r.1=.eq->r∈rows:=fun hr he=>by
  rcases gu.mp hr with⟨h1,h2⟩|⟨up,hu,lo,hl,pu,pl,_,e⟩
  ·exact h1
  ·rw[e]at he;unfold joined at he;dsimp only at he;split at he<;>cases he
 refine⟨fun r hr=>?_,fun r hr he=>?_⟩
 ·rcases gu.mp hr with⟨h1,h2⟩|⟨up,hu,lo,hl,pu,pl,_,e⟩
  ·exact hR.len r h1
  ·rw[e];show(mixed up.2 _ lo.2 _).length=_;rw[lL (by rw[hR.len up hu,hR.len lo hl]),hR.len up hu]
 ·obtain⟨p,h1,h2⟩:=hR.Be r (Py hr he) he;exact⟨p,h1,fun s hs Io bQ=>h2 s (Py hs Io) Io bQ⟩
variable {St:Nat->Bool} in
theorem AL(hR:Rs n k rows)(S:Sg n k j J St E B β (rows.map (aB n)))(hq:q∈rows)(qe:q.1=.eq)(q0:ent q j≠0)(hr:r∈rows)(bQ:r≠q):Wo (aB n q) (aB n r) (aB n (wo q j r)) j:=by
 have mem:∀{r:Row},r∈rows->aB n r∈rows.map (aB n):=fun h=>mem_map.mpr ⟨_,h,rfl⟩;have hl:r.2.length=q.2.length:=by rw[hR.len r hr,hR.len q hq]
 by_cases he:r.1=.eq
 ·obtain⟨p,h1,h2⟩:=hR.Be r hr he;refine HA hl q0 (p:=p) ?_;rw[h2 q hq qe (Ne.symm bQ)];have:((ent q j).natAbs:Int)≠0:=by omega
  have:=mul_ne_zero this h1;omega
 ·obtain⟨i,hi,hj,hp⟩:=S.pos (aB n r) (mem hr) he;have hz:=S.uS (aB n q) (mem hq) qe i hi hj;refine HA hl q0 (p:=n+2+i) ?_;have xm:ent q (n+2+i)=0:=bR.mp hz;have dI:0<ent r (n+2+i):=gS.mp hp;rw[xm];have:((ent q j).natAbs:Int)≠0:=by omega
  have:=mul_ne_zero this (show ent r (n+2+i)≠0 by omega);omega
variable {St:Nat->Bool} in
theorem xR(hR:Rs n k rows)(S:Sg n k j J St E B β (rows.map (aB n)))(hq:dG j rows=some q):
  Cj j (aB n q) (rows.map (aB n)) (((rows.filter fun r=>decide (r≠q)).map (wo q j)).map (aB n)):=by
 have mem:∀{r:Row},r∈rows->aB n r∈rows.map (aB n):=fun h=>mem_map.mpr ⟨_,h,rfl⟩;have hm:=mem_of_find?_eq_some hq;have hp:=find?_some hq;have dI:q.1=.eq/\ent q j≠0:=by simpa using hp
 refine⟨mem hm,dI.1,fun z=>dI.2 (bR.mp z),fun r' cD=>?_,fun r hr bQ=>?_⟩
 ·obtain⟨s,hs,rfl⟩:=mem_map.mp cD;obtain⟨r,hr,rfl⟩:=mem_map.mp hs;obtain⟨h1,h2⟩:=mem_filter.mp hr;exact⟨aB n r,mem h1,AL hR S hm dI.1 dI.2 h1 (by simpa using h2)⟩
 ·obtain⟨r,xt,rfl⟩:=mem_map.mp hr;clear hr;have hr:=xt;have BB:r≠q:=fun e=>bQ (by rw[e]);exact⟨_,mem_map.mpr ⟨_,mem_map.mpr ⟨r,mem_filter.mpr ⟨hr,by simpa using BB⟩,rfl⟩,rfl⟩,AL hR S hm dI.1 dI.2 hr BB⟩
variable {St:Nat->Bool} in
theorem FD(hR:Rs n k rows)(S:Sg n k j J St E B β (rows.map (aB n)))(hq:dG j rows=some q):Rs n k ((rows.filter fun r=>decide (r≠q)).map (wo q j)):=by
 have hm:=mem_of_find?_eq_some hq;have hp:=find?_some hq;have dI:q.1=.eq/\ent q j≠0:=by simpa using hp
 have inv:∀{s:Row},s∈(rows.filter fun r=>decide (r≠q)).map (wo q j)->∃r∈rows,r≠q/\s=wo q j r:=fun hs=>by
  obtain⟨r,hr,rfl⟩:=mem_map.mp hs;obtain⟨h1,h2⟩:=mem_filter.mp hr;exact⟨r,h1,by simpa using h2,rfl⟩
 refine⟨fun s hs=>?_,fun s hs he=>?_⟩
 ·obtain⟨r,hr,bQ,rfl⟩:=inv hs;show(mixed r.2 _ q.2 _).length=_;rw[lL (by rw[hR.len r hr,hR.len q hm]),hR.len r hr]
 ·obtain⟨r,hr,bQ,rfl⟩:=inv hs;obtain⟨p,h1,h2⟩:=hR.Be r hr he;have zq:=h2 q hm dI.1 (Ne.symm bQ)

  have at':∀{t:Row},t∈rows->t≠q->∃μ:Rat,0<μ/\((ent (wo q j t) p:Int):Rat)=μ*(ent t p:Rat):=fun ht T5=>by
   obtain⟨μ,mp,ea,_⟩:=(AL (n:=n) hR S hm dI.1 dI.2 ht T5).ex;refine⟨μ,mp,?_⟩;have:=ea p;show(aB n (wo q j _)).a p=_;rw[this];show μ*((ent _ p:Rat)-_*(ent q p:Rat))=_;rw[zq];grind
  refine⟨p,?_,fun s' qo Iy BB=>?_⟩
  ·obtain⟨μ,mp,e⟩:=at' hr bQ;intro z;rw[z]at e;have e':(0:Rat)=μ*(ent r p:Rat):=e;rcases mul_eq_zero.mp e'.symm with h|h
   ·grind
   ·exact h1 (bR.mp h)
  ·obtain⟨r',cD,RQ,rfl⟩:=inv qo;have Mw:r'≠r:=fun e=>BB (by rw[e]);obtain⟨μ,mp,e⟩:=at' cD RQ;rw[h2 r' cD Iy Mw]at e;exact bR.mp (by rw[e];grind)
def pY (r:Row):Nat->List Rat->Rat->Rat
 |_,[],acc=>acc
 |c,x::xs,acc=>pY r (c+1) xs (if ent r c≠0 then acc-(ent r c:Rat)*x else acc)
def kA (r:Row) (x:List Rat):Rat:=pY r 0 x (ent r x.length:Rat)
abbrev fu:=Bool×Rat×List Rat
def ly (j:Nat) (way:Int) (r:Row):Prop:=0<way*ent r j\/(way*ent r j<0/\r.1=.eq)
instance (j:Nat) (way:Int) (r:Row):Decidable (ly j way r):=inferInstanceAs (Decidable (_\/_))
def d9 (j:Nat) (way:Int) (x:List Rat) (r:Row):Rat:=kA r x/((way*ent r j:Int):Rat)
def mj (j:Nat) (way:Int) (x:List Rat) (r:Row):List Rat:=(r.2.drop (x.length+1)).map fun(w:Int)=>(w:Rat)/((way*ent r j:Int):Rat)
def better (b:Option fu) (kd:Bool) (v:Rat):Bool:=match b with
 |none=>true
 |some b=>decide (v<b.2.1) || (decide (v=b.2.1)&&kd)
def iV (j:Nat) (way:Int) (x:List Rat) (b:Option fu) (r:Row):Option fu:=
 if ly j way r then(if better b (decide (r.1=.lt)) (d9 j way x r)=true then some (decide (r.1=.lt),d9 j way x r,mj j way x r)else b)else b
def gM (rows:List Row) (j:Nat) (x:List Rat) (way:Int):Option fu:=rows.foldl (iV j way x) none
def Gf (b:Option fu):Option Rat:=b.map (·.2.1)
def AR (b:Option fu):Option Rat:=b.map fun b=>0-b.2.1
def kZ (oo:List (List Row)):Nat->List Rat->List Rat
 |0,x=>x
 |m+1,x=>kZ oo m (x.set m (sP (AR (gM (oo.getD m []) m x (-1))) (Gf (gM (oo.getD m []) m x 1))))
def mE (oo:List (List Row)) (n:Nat) (t:Rat):List Rat:=(kZ oo n (List.replicate n 0++[t])).take n
def endOf (n:Nat) (rows:List Row) (way:Int):Option fu:=gM rows n (List.replicate (n+1) 0) way
def cy:Kn->Rat->Bool
 | .eq,b=>decide (b≠0)
 | .le,b=>decide (b<0)
 | .lt,b=>decide (b<0) || decide (b=0)
def fP (n:Nat) (rows:List Row):Option (List Rat):=(rows.find? fun r=>decide (ent r n=0)&&cy r.1 (ent r (n+1):Rat)).map fun r=>
 (r.2.drop (n+2)).map fun(w:Int)=>(((if r.1=.eq/\0<ent r (n+1)then -1 else 1:Int)*w:Int):Rat)
def gh (n:Nat) (rows:List Row):Option (List Rat):=match endOf n rows 1,endOf n rows (-1)with
 |some t,some b=>if cy (if t.1=true\/b.1=true then .lt else .le) (t.2.1+b.2.1)=true then some (zipWith (fun x y=>x+y) t.2.2 b.2.2)else none
 |_,_=>none
def never (n:Nat) (rows:List Row):Option (List Rat):=match fP n rows with
 |some w=>some w
 |none=>gh n rows
theorem xc(r:Row):∀(xs:List Rat) (c:Nat) (acc:Rat),pY r c xs acc=acc-sm xs.length (fun i=>(ent r (c+i):Rat)*xs.getD i 0)
 |[],c,acc=>by show acc=acc-0;grind
 |x::xs,c,acc=>by
  show pY r (c+1) xs _=_;rw[xc r xs (c+1)];have e:sm (xs.length+1) (fun i=>(ent r (c+i):Rat)*(x::xs).getD i 0)=(ent r c:Rat)*x+sm xs.length (fun i=>(ent r (c+1+i):Rat)*xs.getD i 0):=by
   have:∀(m:Nat) (f:Nat->Rat),sm (m+1) f=f 0+sm m (fun i=>f (i+1)):=by
    intro m f;induction m with
    |zero=>show(0:Rat)+f 0=f 0+0;grind
    |succ m ih=>show sm (m+1) f+f (m+1)=f 0+(sm m (fun i=>f (i+1))+f (m+1));rw[ih];grind
   rw[this];congr 1
   exact aO fun i _=>by
    show(ent r (c+(i+1)):Rat)*xs.getD i 0=_;rw[show c+(i+1)=c+1+i by omega]
  show _=acc-sm (xs.length+1) _;rw[e];by_cases h:ent r c=0
  ·rw[if_neg (fun z=>z h),h];grind
  ·rw[if_pos h];grind
abbrev xf (x:List Rat):Nat->Rat:=fun c=>x.getD c 0
variable {x:List Rat}
theorem xb(hx:x.length=n+1):kA r x=(aB n r).b-vl n (aB n r) (xf x):=by
 unfold kA;rw[xc,hx];show _=(ent r (n+1):Rat)-sm (n+1) (fun c=>(ent r c:Rat)*x.getD c 0);congr 1
 exact aO fun i _=>by rw[zero_add]
theorem rR(hx:x.length=n+1)(hj:j<=n)(h0:x.getD j 0=0):kA r x=(aB n r).b-rest n (aB n r) (xf x) j:=by
 rw[xb hx,mW hj];show _-(_+_*x.getD j 0)=_;rw[h0];grind
structure TS (j:Nat) (way:Int) (x:List Rat) (rows:List Row) (b:Option fu):Prop where
 none:b=none->∀r∈rows,¬ly j way r
 some:∀t,b=some t->(∃r∈rows,ly j way r/\t.1=decide (r.1=.lt)/\t.2.1=d9 j way x r/\t.2.2=mj j way x r)/\∀r∈rows,ly j way r->t.2.1<=d9 j way x r/\(r.1=.lt->d9 j way x r=t.2.1->t.1=true)
variable {way:Int}
theorem TS.step{b:Option fu}(h:TS j way x rows b)(r:Row):TS j way x (rows++[r]) (iV j way x b r):=by
 unfold iV;by_cases c:ly j way r
 ·rw[if_pos c];by_cases d:better b (decide (r.1=.lt)) (d9 j way x r)=true
  ·rw[if_pos d];refine⟨(fun e=>by cases e),fun t e=>?_⟩;cases e;refine⟨⟨r,by simp,c,rfl,rfl,rfl⟩,fun s hs cs=>?_⟩;rcases mem_append.mp hs with hs|hs
   ·cases hb:b with
    |none=>exact absurd cs (h.none hb s hs)
    |some t=>
     obtain⟨h1,h2⟩:=(h.some t hb).2 s hs cs;rw[hb]at d;have d':(decide (d9 j way x r<t.2.1) || (decide (d9 j way x r=t.2.1)&&decide (r.1=.lt)))=true:=d;rw[or_eq_true,and_eq_true,decide_eq_true_iff,decide_eq_true_iff]at d';rcases d' with d'|⟨d',d2⟩
     ·exact⟨by show d9 j way x r<=_;grind,fun _ e=>by have e':d9 j way x s=d9 j way x r:=e;grind⟩
     ·exact⟨by show d9 j way x r<=_;grind,fun _ _=>d2⟩
   ·rw[mem_singleton.mp hs];exact⟨by show d9 j way x r<=_;grind,fun e _=>decide_eq_true e⟩
  ·rw[if_neg d];cases hb:b with
   |none=>rw[hb]at d;exact absurd rfl d
   |some t=>
    refine⟨(fun e=>by cases e),fun t' e=>?_⟩;cases e;obtain⟨⟨r0,Mx,h1⟩,h2⟩:=h.some t hb;refine⟨⟨r0,mem_append.mpr (.inl Mx),h1⟩,fun s hs cs=>?_⟩;rcases mem_append.mp hs with hs|hs
    ·exact h2 s hs cs
    ·rw[mem_singleton.mp hs];rw[hb]at d;have d':¬(decide (d9 j way x r<t.2.1) || (decide (d9 j way x r=t.2.1)&&decide (r.1=.lt)))=true:=d;rw[or_eq_true,and_eq_true,decide_eq_true_iff,decide_eq_true_iff,decide_eq_true_iff]at d';have a:¬d9 j way x r<t.2.1:=fun z=>d' (.inl z);exact⟨by grind,fun e1 e2=>absurd (.inr ⟨e2,e1⟩) d'⟩
 ·rw[if_neg c];refine⟨fun e s hs=>?_,fun t e=>?_⟩
  ·rcases mem_append.mp hs with hs|hs
   ·exact h.none e s hs
   ·rw[mem_singleton.mp hs];exact c
  ·obtain⟨⟨r0,Mx,h1⟩,h2⟩:=h.some t e;refine⟨⟨r0,mem_append.mpr (.inl Mx),h1⟩,fun s hs cs=>?_⟩;rcases mem_append.mp hs with hs|hs
   ·exact h2 s hs cs
   ·rw[mem_singleton.mp hs]at cs;exact absurd cs c
theorem TS.all{j:Nat}{way:Int}{x:List Rat}:∀(rows done:List Row) (b:Option fu),TS j way x done b->TS j way x (done++rows) (rows.foldl (iV j way x) b)
 |[],done,b,h=>by rw[append_nil];exact h
 |r::rows,done,b,h=>by
  have:=TS.all rows (done++[r]) _ (h.step r);rw[append_assoc]at this;exact this
theorem kM(rows:List Row)(j:Nat)(x:List Rat)(way:Int):TS j way x rows (gM rows j x way):=by
 have:=TS.all (j:=j) (way:=way) (x:=x) rows [] none ⟨fun _ r hr=>by simp at hr,fun t e=>by cases e⟩;exact this
theorem tT:ly j 1 r↔isUp (aB n r) j:=by
 unfold ly isUp;rw[one_mul];show _↔0<(ent r j:Rat)\/((ent r j:Rat)<0/\r.1=.eq);rw[gS,oW]
theorem tU:ly j (-1) r↔nG (aB n r) j:=by
 unfold ly nG;rw[show(-1:Int)*ent r j=-ent r j by omega];show _↔(ent r j:Rat)<0\/(0<(ent r j:Rat)/\r.1=.eq);rw[gS,oW];constructor
 ·rintro(h|⟨h,e⟩)
  ·exact .inl (by omega)
  ·exact .inr ⟨by omega,e⟩
 ·rintro(h|⟨h,e⟩)
  ·exact .inl (by omega)
  ·exact .inr ⟨by omega,e⟩
theorem zT(hx:x.length=n+1)(hj:j<=n)(h0:x.getD j 0=0):d9 j 1 x r=Nm n (aB n r) (xf x) j:=by
 unfold d9 Nm;rw[rR hx hj h0,one_mul];rfl
theorem zU(hx:x.length=n+1)(hj:j<=n)(h0:x.getD j 0=0):d9 j (-1) x r=- Nm n (aB n r) (xf x) j:=by
 unfold d9 Nm;rw[rR hx hj h0,show(-1:Int)*ent r j=-ent r j by omega,Rat.intCast_neg];show _=- (_/(ent r j:Rat));grind
def jZ (b:Option fu):Option (Bool×Rat):=b.map fun b=>(b.1,b.2.1)
def k8 (b:Option fu):Option (Bool×Rat):=b.map fun b=>(b.1,0-b.2.1)
theorem wR(b:Option fu):ia (jZ b)=Gf b:=by cases b<;>rfl
theorem wU(b:Option fu):ia (k8 b)=AR b:=by cases b<;>rfl
theorem oj(hx:x.length=n+1)(hj:j<=n)(h0:x.getD j 0=0):Top n (rows.map (aB n)) (xf x) j (jZ (gM rows j x 1)):=by
 have T:=kM rows j x 1;refine⟨fun e r hr=>?_,fun s v e=>?_⟩
 ·obtain⟨r,cD,rfl⟩:=mem_map.mp hr;rw[<- tT];refine T.none ?_ r cD;cases h:gM rows j x 1 with
  |none=>rfl
  |some b=>rw[h]at e;cases e
 ·cases h:gM rows j x 1 with
  |none=>rw[h]at e;cases e
  |some t=>
   rw[h]at e;have e':(t.1,t.2.1)=(s,v):=Option.some.inj e;injection e' with e1 e2;obtain⟨⟨r,hr,c,k1,k2,_⟩,h2⟩:=T.some t h;refine⟨⟨aB n r,mem_map.mpr ⟨r,hr,rfl⟩,tT.mp c,?_,fun z=>?_⟩,fun r' cD hu=>?_⟩
   ·rw[<- e2,k2,zT hx hj h0]
   ·rw[<- e1,k1]at z;exact of_decide_eq_true z
   ·obtain⟨r2,xt,rfl⟩:=mem_map.mp cD;obtain⟨a,b⟩:=h2 r2 xt (tT.mpr hu);rw[zT hx hj h0]at a b;rw[<- e1,<- e2];exact⟨a,b⟩
theorem om(hx:x.length=n+1)(hj:j<=n)(h0:x.getD j 0=0):NT n (rows.map (aB n)) (xf x) j (k8 (gM rows j x (-1))):=by
 have T:=kM rows j x (-1);refine⟨fun e r hr=>?_,fun s v e=>?_⟩
 ·obtain⟨r,cD,rfl⟩:=mem_map.mp hr;rw[<- tU];refine T.none ?_ r cD;cases h:gM rows j x (-1)with
  |none=>rfl
  |some b=>rw[h]at e;cases e
 ·cases h:gM rows j x (-1)with
  |none=>rw[h]at e;cases e
  |some t=>
   rw[h]at e;have e':(t.1,0-t.2.1)=(s,v):=Option.some.inj e;injection e' with e1 e2;obtain⟨⟨r,hr,c,k1,k2,_⟩,h2⟩:=T.some t h;refine⟨⟨aB n r,mem_map.mpr ⟨r,hr,rfl⟩,tU.mp c,?_,fun z=>?_⟩,fun r' cD hu=>?_⟩
   ·rw[<- e2,k2,zU hx hj h0];grind
   ·rw[<- e1,k1]at z;exact of_decide_eq_true z
   ·obtain⟨r2,xt,rfl⟩:=mem_map.mp cD;obtain⟨a,b⟩:=h2 r2 xt (tU.mpr hu);rw[zU hx hj h0]at a b;rw[<- e1,<- e2];exact⟨by grind,fun p q=>b p (by grind)⟩
def choice (rows:List Row) (j:Nat) (x:List Rat):Rat:=sP (AR (gM rows j x (-1))) (Gf (gM rows j x 1))
def Ho (n j:Nat) (rows Oa:List Row):Prop:=∀x:List Rat,x.length=n+1->x.getD j 0=0->(∀r∈Oa,Hd n (xf x) (aB n r))->∀r∈rows,Hd n (put (xf x) j (choice rows j x)) (aB n r)
variable {St:Nat->Bool} in
theorem zW(hR:Rs n k rows)(S:Sg n k j J St E B β (rows.map (aB n)))(hj:j<n)(hm:most=E.length+1):
  Rs n k (cI (cf n k J) j most rows)/\(∃E' B' Cq,Sg n k (j+1) J St E' B' Cq ((cI (cf n k J) j most rows).map (aB n))/\gR j most rows=E'.length+1)/\Ho n j rows (cI (cf n k J) j most rows):=by
 unfold cI gR;cases hq:dG j rows with
 |none=>
  have P:=wK hR S hq;have S':=S.pairs hj P;rw[show most+1=E.length+2 by omega];refine⟨CM hR hq,⟨_,_,_,S',by rw[length_cons]⟩,fun x hx h0 hh r hr=>?_⟩;have:=Em (x:=xf x) S' S hj P (fun r hr=>by obtain⟨r,cD,rfl⟩:=mem_map.mp hr;exact hh r cD) (oj hx (by omega) h0) (om hx (by omega) h0) (aB n r) (mem_map.mpr ⟨r,hr,rfl⟩);rw[wR,wU]at this;exact this
 |some q=>
  have G:=xR hR S hq;have S':=S.OF hj G;refine⟨FD hR S hq,⟨_,_,_,S',hm⟩,fun x hx h0 hh r hr=>?_⟩;have:=Eo (x:=xf x) (Nat.le_of_lt hj) G (fun r hr=>by obtain⟨r,cD,rfl⟩:=mem_map.mp hr;exact hh r cD) (fun r hr=>S'.zero r hr j (by omega)) (oj hx (by omega) h0) (om hx (by omega) h0) (aB n r) (mem_map.mpr ⟨r,hr,rfl⟩);rw[wR,wU]at this;exact this
structure lS (n k:Nat) (P:Nat->Nat->Rat) (Bd:Nat->Rat) (p:Nat->Rat) (r:Rw):Prop where
 a:∀c,c<n->r.a c=sm k (fun i=>r.w i*P i c)-r.a n*p c
 b:r.b=sm k fun i=>r.w i*Bd i
variable {P:Nat->Nat->Rat} {Bd p:Nat->Rat}
theorem lS.jd{up lo r:Rw}(hu:lS n k P Bd p up)(hl:lS n k P Bd p lo)(h:Jd up lo r j):lS n k P Bd p r:=by
 obtain⟨μ,mp,ea,eb,ew⟩:=h.ex;have key:∀g:Nat->Rat,sm k (fun i=>r.w i*g i)=μ*(-lo.a j*sm k (fun i=>up.w i*g i)+up.a j*sm k (fun i=>lo.w i*g i)):=fun g=>by
  rw[<- bw,<- bw,<- dj,<- bw];exact aO fun i _=>by rw[ew i];grind
 refine⟨fun c hc=>?_,?_⟩
 ·rw[key,ea c,ea n,hu.a c hc,hl.a c hc];grind
 ·rw[key,eb,hu.b,hl.b]
theorem lS.wo{q r r':Rw}(hq:lS n k P Bd p q)(hr:lS n k P Bd p r)(h:Wo q r r' j):lS n k P Bd p r':=by
 obtain⟨μ,mp,ea,eb,ew⟩:=h.ex;have key:∀g:Nat->Rat,sm k (fun i=>r'.w i*g i)=μ*(sm k (fun i=>r.w i*g i)+(-(r.a j/q.a j))*sm k (fun i=>q.w i*g i)):=fun g=>by
  rw[<- bw,<- dj,<- bw];exact aO fun i _=>by rw[ew i];grind
 refine⟨fun c hc=>?_,?_⟩
 ·rw[key,ea c,ea n];generalize r.a j/q.a j=ρ;rw[hr.a c hc,hq.a c hc];grind
 ·rw[key,eb];generalize r.a j/q.a j=ρ;rw[hr.b,hq.b];grind
variable {St:Nat->Bool} in
theorem Gp(hR:Rs n k rows)(S:Sg n k j J St E B β (rows.map (aB n)))(hm:most=E.length+1)(h:∀r∈rows,lS n k P Bd p (aB n r)):∀r∈cI (cf n k J) j most rows,lS n k P Bd p (aB n r):=by
 unfold cI;cases hq:dG j rows with
 |none=>
  have Pp:=wK hR S hq;rw[show most+1=E.length+2 by omega];intro r hr;rcases Pp.fJ (aB n r) (mem_map.mpr ⟨r,hr,rfl⟩)with⟨h1,_⟩|⟨up,hu,lo,hl,_,_,hd⟩
  ·obtain⟨s,hs,e⟩:=mem_map.mp h1;rw[<- e];exact h s hs
  ·obtain⟨up,DS,rfl⟩:=mem_map.mp hu;obtain⟨lo,sj,rfl⟩:=mem_map.mp hl;exact(h up DS).jd (h lo sj) hd
 |some q=>
  have G:=xR hR S hq;intro r hr;obtain⟨s,hs,W⟩:=G.fJ (aB n r) (mem_map.mpr ⟨r,hr,rfl⟩);obtain⟨s,qo,rfl⟩:=mem_map.mp hs;exact lS.wo (h q (mem_of_find?_eq_some hq)) (h s qo) W
variable {St:Nat->Bool} in
structure Run (n k:Nat) (J St:Nat->Bool) (P:Nat->Nat->Rat) (Bd p:Nat->Rat) (j:Nat) (Ls:List (List Row)) (rows:List Row):Prop where
 len:Ls.length=n-j+1
 head:Ls.getD 0 []=rows
 ext:∀i,j+i<n->Ho n (j+i) (Ls.getD i []) (Ls.getD (i+1) [])
 last:∃E B β,Sg n k n J St E B β ((Ls.getD (n-j) []).map (aB n))
 rs:Rs n k (Ls.getD (n-j) [])
 Pr:∀r∈Ls.getD (n-j) [],lS n k P Bd p (aB n r)
variable {St:Nat->Bool} in
theorem CK{P:Nat->Nat->Rat}{Bd p:Nat->Rat}:∀(m j most:Nat) (rows:List Row) (E:List Nat) (B:Nat->Nat->Rat) (β:Nat->Rat),j+m=n->most=E.length+1->Rs n k rows->Sg n k j J St E B β (rows.map (aB n))->(∀r∈rows,lS n k P Bd p (aB n r))->
  Run n k J St P Bd p j (kr (cf n k J) m j most rows) rows
 |0,j,most,rows,E,B,β,hj,hm,hR,S,hL=>by
  have e:n-j=0:=by omega
  have e2:j=n:=by omega
  subst e2;refine⟨by rw[e];rfl,rfl,fun i hi=>by omega,?_,?_,?_⟩
  ·rw[e];exact⟨E,B,β,S⟩
  ·rw[e];exact hR
  ·rw[e];exact hL
 |m+1,j,most,rows,E,B,β,hj,hm,hR,S,hL=>by
  obtain⟨TQ,⟨E',B',Cq,S',A9⟩,hx⟩:=zW hR S (by omega) hm;have U3:=Gp hR S hm hL;have I:=CK m (j+1) _ _ E' B' Cq (by omega) A9 TQ S' U3;have e:n-j=n-(j+1)+1:=by omega
  refine⟨?_,rfl,fun i hi=>?_,?_,?_,?_⟩
  ·show(kr (cf n k J) m (j+1) _ _).length+1=_;rw[I.len];omega
  ·cases i with
   |zero=>
    show Ho n (j+0) rows ((kr (cf n k J) m (j+1) _ _).getD 0 []);rw[I.head];exact hx
   |succ i=>
    have:=I.ext i (by omega);rw[show j+(i+1)=j+1+i by omega];exact this
  ·rw[e];exact I.last
  ·rw[e];exact I.rs
  ·rw[e];exact I.Pr
variable {m:Nat}
theorem qT(hm:m<x.length):(x.set m v).getD c 0=if c=m then v else x.getD c 0:=by
 rw[getD_eq_getElem?_getD,getD_eq_getElem?_getD];by_cases e:c=m
 ·subst e;rw[if_pos rfl,getElem?_set_self hm];rfl
 ·rw[if_neg e,getElem?_set_ne (Ne.symm e)]
variable {St:Nat->Bool} in
theorem HW{P:Nat->Nat->Rat}{Bd p:Nat->Rat}{Ls:List (List Row)}{rows:List Row}(I:Run n k J St P Bd p 0 Ls rows):∀(m:Nat) (x:List Rat),m<=n->x.length=n+1->(∀c,c<m->x.getD c 0=0)->(∀r∈Ls.getD m [],Hd n (xf x) (aB n r))->
  (kZ Ls m x).length=n+1/\(kZ Ls m x).getD n 0=x.getD n 0/\∀r∈rows,Hd n (xf (kZ Ls m x)) (aB n r)
 |0,x,hm,hx,h0,hh=>⟨hx,rfl,by rw[<- I.head];exact hh⟩
 |m+1,x,hm,hx,h0,hh=>by
  have ex:=I.ext m (by omega);rw[zero_add]at ex;have h1:=ex x hx (h0 m (by omega)) hh;have bV:m<x.length:=by omega
  have e:xf (x.set m (choice (Ls.getD m []) m x))=put (xf x) m (choice (Ls.getD m []) m x):=funext fun c=>qT bV;obtain⟨a,b,c⟩:=HW I m (x.set m (choice (Ls.getD m []) m x)) (by omega) (by rw[length_set];exact hx) (fun c hc=>by
   rw[qT bV,if_neg (by omega)];exact h0 c (by omega)) (fun r hr=>by rw[e];exact h1 r hr)
  refine⟨a,?_,c⟩;show(kZ Ls m (x.set m (choice (Ls.getD m []) m x))).getD n 0=_;rw[b,qT bV,if_neg (by omega)]
abbrev Ol:=Kn×List Rat×Rat
def gK (qs:List Rat):Nat:=qs.foldl (fun m q=>lcm m q.den) 1
def whole (kd:Kn) (qs:List Rat):Row:=(kd,qs.map fun q=>q.num*((gK qs/q.den:Nat):Int))
def bZ (k i:Nat):List Rat:=(List.range k).map fun c=>if i=c then 1 else 0
def cc (k:Nat):Nat->List Ol->List Row
 |_,[]=>[]
 |i,o::os=>whole o.1 (o.2.1++[0,o.2.2]++bZ k i)::cc k (i+1) os
def dP (p:List Rat) (k:Nat):Row:=whole .eq (p.map (fun q=>0-q)++[1,0]++List.replicate k 0)
def aZ (p:List Rat) (os:List Ol):List Row:=cc os.length 0 os++[dP p os.length]
def knd (os:List Ol) (i:Nat):Kn:=(os.getD i (.eq,[],0)).1
def ji (os:List Ol) (i c:Nat):Rat:=(os.getD i (.eq,[],0)).2.1.getD c 0
def lQ (os:List Ol) (i:Nat):Rat:=(os.getD i (.eq,[],0)).2.2
def jO (os:List Ol) (i:Nat):Bool:=decide (knd os i≠.eq)
def sO (os:List Ol) (i:Nat):Bool:=decide (knd os i=.lt)
def bL (p:List Rat) (os:List Ol):List (List Row):=kr (cf p.length os.length (jO os)) p.length 0 1 (aZ p os)
theorem lcm_dvd:∀(qs:List Rat) (m:Nat),(∀q∈qs,q.den∣qs.foldl (fun m q=>lcm m q.den) m)/\m∣qs.foldl (fun m q=>lcm m q.den) m
 |[],m=>⟨fun q hq=>by simp at hq,Nat.dvd_refl m⟩
 |y::qs,m=>by
  obtain⟨h1,h2⟩:=lcm_dvd qs (lcm m y.den);rw[foldl_cons];refine⟨fun q hq=>?_,dvd_trans (Nat.dvd_lcm_left _ _) h2⟩;rcases mem_cons.mp hq with e|h
  ·rw[e];exact dvd_trans (Nat.dvd_lcm_right _ _) h2
  ·exact h1 q h
theorem lcm_pos:∀(qs:List Rat) (m:Nat),0<m->0<qs.foldl (fun m q=>lcm m q.den) m
 |[],m,h=>h
 |y::qs,m,h=>lcm_pos qs _ (Nat.lcm_pos h y.den_pos)
theorem qQ(qs:List Rat):0<gK qs:=lcm_pos qs 1 (by decide)
theorem gI(q:Rat):(q.num:Rat)=q*(q.den:Rat):=by
 have e:q=(q.num:Rat)/(q.den:Rat):=by rw[<- Rat.mkRat_eq_div,mkRat_self]
 have h:(q.den:Rat)≠0:=fun z=>q.den_nz (Rat.natCast_eq_zero_iff.mp z);generalize (q.num:Rat)=a at *;generalize (q.den:Rat)=b at *;grind
variable {qs:List Rat}
theorem Ja{q:Rat}(h:q∈qs):((q.num*((gK qs/q.den:Nat):Int):Int):Rat)=(gK qs:Rat)*q:=by
 obtain⟨d,hd⟩:=(lcm_dvd qs 1).1 q h;have cV:gK qs=q.den*d:=hd;have e:gK qs/q.den=d:=by rw[cV,Nat.mul_div_cancel_left _ q.den_pos]
 rw[e,intCast_mul,gI q,cV,Rat.natCast_mul];show q*(q.den:Rat)*(d:Rat)=(q.den:Rat)*(d:Rat)*q;grind
theorem gf{kd:Kn}(c:Nat):((ent (whole kd qs) c:Int):Rat)=(gK qs:Rat)*qs.getD c 0:=by
 unfold ent whole;rw[getD_eq_getElem?_getD,getD_eq_getElem?_getD,getElem?_map];cases h:qs[c]? with
 |none=>show((0:Int):Rat)=_*0;grind
 |some q=>exact Ja (mem_of_getElem? h)
theorem gT{ps us:List Rat}{s:Rat}(c:Nat):(ps++[s,b]++us).getD c 0=if c<ps.length then ps.getD c 0 else if c=ps.length then s else if c=ps.length+1 then b else us.getD (c-ps.length-2) 0:=by
 rw[append_assoc];simp only[getD_eq_getElem?_getD];by_cases h:c<ps.length
 ·rw[if_pos h,getElem?_append_left h]
 ·rw[if_neg h,getElem?_append_right (by omega)];by_cases h1:c=ps.length
  ·rw[if_pos h1,h1,sub_self];rfl
  ·rw[if_neg h1];by_cases h2:c=ps.length+1
   ·rw[if_pos h2,h2,Nat.add_sub_cancel_left];rfl
   ·rw[if_neg h2,show c-ps.length=(c-ps.length-2)+2 by omega];rfl
variable {i:Nat}
theorem F7(hc:c<k):(bZ k i).getD c 0=if i=c then 1 else 0:=by
 unfold bZ;rw[getD_eq_getElem?_getD,getElem?_map,List.getElem?_range hc];rfl
theorem kL(k i:Nat):(bZ k i).length=k:=by unfold bZ;rw[length_map,length_range]
theorem ou{f:Nat->Rat}{i:Nat}:∀{k:Nat},i<k->(∀c,c<k->c≠i->f c=0)->sm k f=f i
 |0,h,_=>by omega
 |k+1,h,hz=>by
  show sm k f+f k=f i;by_cases e:i=k
  ·subst e;rw[fU fun c hc=>hz c (by omega) (by omega)];grind
  ·rw[ou (i:=i) (by omega) fun c hc bQ=>hz c (by omega) bQ,hz k (by omega) (by omega)];grind
theorem rp(h:0<m):0<(m:Rat):=by
 have:((0:Nat):Rat)<(m:Rat):=Rat.natCast_lt_natCast.mpr h;exact this
structure lR (n k:Nat) (os:List Ol) (i:Nat) (r:Row):Prop where
 kd:r.1=knd os i
 len:r.2.length=n+2+k
 ex:∃M:Rat,0<M/\(∀c,c<n->(aB n r).a c=M*ji os i c)/\(aB n r).a n=0/\(aB n r).b=M*lQ os i/\∀c,c<k->(aB n r).w c=if i=c then M else 0
structure Cf (n k:Nat) (p:List Rat) (r:Row):Prop where
 kd:r.1=.eq
 len:r.2.length=n+2+k
 ex:∃M:Rat,0<M/\(∀c,c<n->(aB n r).a c=- (M*p.getD c 0))/\(aB n r).a n=M/\(aB n r).b=0/\∀c,c<k->(aB n r).w c=0
variable {os:List Ol}
theorem rK{o:Ol}(ho:os[i]?=some o)(hl:o.2.1.length=n)(hk:i<k):lR n k os i (whole o.1 (o.2.1++[0,o.2.2]++bZ k i)):=by
 have e0:os.getD i (.eq,[],0)=o:=by rw[getD_eq_getElem?_getD,ho];rfl
 refine⟨by unfold knd;rw[e0];rfl,?_,(gK (o.2.1++[0,o.2.2]++bZ k i):Rat),rp (qQ _),fun c hc=>?_,?_,?_,fun c hc=>?_⟩
 ·show(List.map _ _).length=_;rw[length_map,length_append,length_append,kL,hl];rfl
 ·show((ent _ c:Int):Rat)=_;rw[gf,gT,if_pos (by omega)];unfold ji;rw[e0]
 ·show((ent _ n:Int):Rat)=_;rw[gf,gT,if_neg (by omega),if_pos hl.symm];grind
 ·show((ent _ (n+1):Int):Rat)=_;rw[gf,gT,if_neg (by omega),if_neg (by omega),if_pos (by omega)];unfold lQ;rw[e0]
 ·show((ent _ (n+2+c):Int):Rat)=_;rw[gf,gT,if_neg (by omega),if_neg (by omega),if_neg (by omega),show n+2+c-o.2.1.length-2=c by omega,F7 hc];split<;>grind
variable {p:List Rat}
theorem vW(k:Nat):Cf p.length k p (dP p k):=by
 have hl:(p.map (fun q=>0-q)).length=p.length:=length_map ..;refine⟨rfl,?_,(gK (p.map (fun q=>0-q)++[1,0]++List.replicate k 0):Rat),rp (qQ _),fun c hc=>?_,?_,?_,fun c hc=>?_⟩
 ·show(List.map _ _).length=_;rw[length_map,length_append,length_append,length_replicate,hl];rfl
 ·show((ent (dP p k) c:Int):Rat)=_;unfold dP;rw[gf,gT,if_pos (by omega)];have:(p.map (fun q=>0-q)).getD c 0=- p.getD c 0:=by
   rw[getD_eq_getElem?_getD,getD_eq_getElem?_getD,getElem?_map];cases p[c]? with
   |none=>show(0:Rat)=-0;grind
   |some q=>show 0-q=-q;grind
  rw[this];grind
 ·show((ent (dP p k) p.length:Int):Rat)=_;unfold dP;rw[gf,gT,if_neg (by omega),if_pos hl.symm];grind
 ·show((ent (dP p k) (p.length+1):Int):Rat)=_;unfold dP;rw[gf,gT,if_neg (by omega),if_neg (by omega),if_pos (by omega)];grind
 ·show((ent (dP p k) (p.length+2+c):Int):Rat)=_;unfold dP;rw[gf,gT,if_neg (by omega),if_neg (by omega),if_neg (by omega)];have:(List.replicate k (0:Rat)).getD (p.length+2+c-(p.map (fun q=>0-q)).length-2) 0=0:=by
   rw[getD_eq_getElem?_getD,getElem?_replicate];split<;>rfl
  rw[this];grind
theorem jR{n k:Nat}{os:List Ol}:∀(l:List Ol) (i0:Nat),(∀i,i<l.length->os[i0+i]?=l[i]?)->(∀o∈l,o.2.1.length=n)->i0+l.length<=k->∀r,r∈cc k i0 l↔∃i o,i<l.length/\l[i]?=some o/\r=whole o.1 (o.2.1++[0,o.2.2]++bZ k (i0+i))
 |[],i0,_,_,_,r=>by simp[cc]
 |o::l,i0,h1,h2,h3,r=>by
  have ih:=jR (n:=n) (k:=k) (os:=os) l (i0+1) (fun i hi=>by
   have:=h1 (i+1) (by rw[length_cons];omega);rw[show i0+1+i=i0+(i+1) by omega,this];rfl) (fun o ho=>h2 o (mem_cons_of_mem _ ho)) (by rw[length_cons]at h3;omega) r
  show r∈whole o.1 (o.2.1++[0,o.2.2]++bZ k i0)::cc k (i0+1) l↔_;rw[mem_cons,ih];constructor
  ·rintro(e|⟨i,o',hi,nV,e⟩)
   ·exact⟨0,o,by rw[length_cons];omega,rfl,e⟩
   ·exact⟨i+1,o',by rw[length_cons];omega,nV,by rw[show i0+(i+1)=i0+1+i by omega];exact e⟩
  ·rintro⟨i,o',hi,nV,e⟩;cases i with
   |zero=>cases nV;exact .inl e
   |succ i=>exact .inr ⟨i,o',by rw[length_cons]at hi;omega,nV,by rw[show i0+1+i=i0+(i+1) by omega];exact e⟩
theorem iE(hl:∀o∈os,o.2.1.length=p.length)(hr:r∈aZ p os):(∃i,i<os.length/\lR p.length os.length os i r)\/Cf p.length os.length p r:=by
 unfold aZ at hr;rcases mem_append.mp hr with h|h
 ·obtain⟨i,o,hi,ho,e⟩:=(jR (n:=p.length) (os:=os) os 0 (fun i _=>by rw[zero_add]) hl (by omega) r).mp h;rw[zero_add]at e;exact .inl ⟨i,hi,by rw[e];exact rK ho (hl o (mem_of_getElem? ho)) hi⟩
 ·rw[mem_singleton.mp h];exact .inr (vW _)
theorem we(hl:∀o∈os,o.2.1.length=p.length)(hi:i<os.length):∃r∈aZ p os,lR p.length os.length os i r:=by
 have ho:=getElem?_eq_getElem hi;refine⟨_,mem_append.mpr (.inl ((jR (n:=p.length) (os:=os) os 0 (fun i _=>by rw[zero_add]) hl (by omega) _).mpr ⟨i,_,hi,ho,rfl⟩)),?_⟩;rw[zero_add];exact rK ho (hl _ (mem_of_getElem? ho)) hi
theorem qV(hl:∀o∈os,o.2.1.length=p.length):Rs p.length os.length (aZ p os):=by
 refine⟨fun r hr=>(iE hl hr).elim (fun⟨i,hi,h⟩=>h.len) (·.len),fun r hr he=>?_⟩;have uniq:∀{r s:Row} {i:Nat},r∈aZ p os->s∈aZ p os->lR p.length os.length os i r->lR p.length os.length os i s->i<os.length->r=s:=by
  intro r s i hr hs h1 h2 hi

  have key:∀{t:Row},t∈aZ p os->lR p.length os.length os i t->t=whole (os[i]).1 ((os[i]).2.1++[0,(os[i]).2.2]++bZ os.length i):=by
   intro t ht hT;obtain⟨M,mp,_,a1,_,w1⟩:=hT.ex;unfold aZ at ht;rcases mem_append.mp ht with h|h
   ·obtain⟨i',o,fS,ho,e⟩:=(jR (n:=p.length) (os:=os) os 0 (fun i _=>by rw[zero_add]) hl (by omega) t).mp h;rw[zero_add]at e;have hR:=rK (n:=p.length) (k:=os.length) ho (hl o (mem_of_getElem? ho)) fS;rw[<- e]at hR;obtain⟨M',DB,_,_,_,w2⟩:=hR.ex;have x1:=w1 i hi;have x2:=w2 i hi;rw[if_pos rfl]at x1;have:i'=i:=by
     apply Classical.byContradiction
     intro z;rw[if_neg z,x1]at x2;grind
    subst this;have:o=os[i']:=by
     have:=getElem?_eq_getElem fS;rw[ho]at this;exact Option.some.inj this
    rw[e,this]
   ·rw[mem_singleton.mp h]at a1;obtain⟨M',DB,_,a2,_⟩:=(vW (p:=p) os.length).ex;rw[a1]at a2;grind
  rw[key hr h1,key hs h2]
 rcases iE hl hr with⟨i,hi,h⟩|h
 ·obtain⟨M,mp,_,_,_,w1⟩:=h.ex;refine⟨p.length+2+i,fun z=>?_,fun s hs Io bQ=>?_⟩
  ·have:=w1 i hi;rw[if_pos rfl]at this;have:(ent r (p.length+2+i):Rat)=M:=this;rw[z]at this;have:(0:Rat)=M:=this;grind
  ·rcases iE hl hs with⟨i',fS,h'⟩|h'
   ·obtain⟨M',DB,_,_,_,w2⟩:=h'.ex;have e:=w2 i hi;have:i'≠i:=fun z=>bQ (uniq hs hr (z▸h') h hi);rw[if_neg this]at e;exact bR.mp e
   ·obtain⟨M',DB,_,_,_,w2⟩:=h'.ex;exact bR.mp (w2 i hi)
 ·obtain⟨M,mp,_,a1,_,w1⟩:=h.ex;refine⟨p.length,fun z=>?_,fun s hs Io bQ=>?_⟩
  ·have:(ent r p.length:Rat)=M:=a1;rw[z]at this;have:(0:Rat)=M:=this;grind
  ·rcases iE hl hs with⟨i',fS,h'⟩|h'
   ·obtain⟨M',DB,_,a2,_⟩:=h'.ex;exact bR.mp a2
   ·
    exfalso;apply bQ
    have key:∀{t:Row},t∈aZ p os->Cf p.length os.length p t->t=dP p os.length:=by
     intro t ht hT;unfold aZ at ht;rcases mem_append.mp ht with h|h
     ·obtain⟨i',o,fS,ho,e⟩:=(jR (n:=p.length) (os:=os) os 0 (fun i _=>by rw[zero_add]) hl (by omega) t).mp h;rw[zero_add]at e;have hR:=rK (n:=p.length) (k:=os.length) ho (hl o (mem_of_getElem? ho)) fS;rw[<- e]at hR;obtain⟨M',DB,_,a3,_⟩:=hR.ex;obtain⟨M2,mp2,_,a4,_⟩:=hT.ex;rw[a3]at a4;grind
     ·exact mem_singleton.mp h
    rw[key hs h',key hr h]
theorem xX(hl:∀o∈os,o.2.1.length=p.length):Sg p.length os.length 0 (jO os) (sO os) [] (fun i c=>if c<p.length then ji os i c else 0) (lQ os) ((aZ p os).map (aB p.length)):=by
 have Dx:∀{r:Row},r∈aZ p os->r.1≠.eq->∃i,i<os.length/\lR p.length os.length os i r/\jO os i=true:=fun hr hk=>by
  rcases iE hl hr with⟨i,hi,h⟩|h
  ·refine⟨i,hi,h,?_⟩;unfold jO;rw[h.kd]at hk;exact decide_eq_true hk
  ·exact absurd h.kd hk
 have HB:∀{r:Row} {i:Nat} {M:Rat},jO os i=true->(∀c,c<os.length->(aB p.length r).w c=if i=c then M else 0)->∀c,c<os.length->uo (jO os) (aB p.length r) c=if i=c then M else 0:=by
  intro r i M hj hw c hc;unfold uo;by_cases e:i=c
  ·subst e;rw[if_pos hj,hw i hc]
  ·rw[if_neg e];split
   ·rw[hw c hc,if_neg e]
   ·rfl
 refine⟨by omega,fun r hr c hc=>by omega,fun c hc=>by simp at hc,fun r hr he i hi hj=>?_,fun r hr he i hi hj=>?_,fun r hr he=>?_,fun r hr he=>?_,fun r hr he c hc=>?_,fun r hr he=>?_,fun u hu=>?_⟩
 ·obtain⟨r,xt,rfl⟩:=mem_map.mp hr;rcases iE hl xt with⟨i',fS,h⟩|h
  ·obtain⟨M,mp,_,_,_,w1⟩:=h.ex;rw[w1 i hi];apply if_neg
   intro e;subst e;have h1:r.1=.eq:=he;rw[h.kd]at h1;unfold jO at hj;exact of_decide_eq_true hj h1
  ·obtain⟨M,mp,_,_,_,w1⟩:=h.ex;exact w1 i hi
 ·obtain⟨r,hr,rfl⟩:=mem_map.mp hr;obtain⟨i',fS,h,p0⟩:=Dx (by assumption) he;obtain⟨M,mp,_,_,_,w1⟩:=h.ex;rw[w1 i hi];split<;>grind
 ·obtain⟨r,hr,rfl⟩:=mem_map.mp hr;obtain⟨i',fS,h,p0⟩:=Dx (by assumption) he;obtain⟨M,mp,_,_,_,w1⟩:=h.ex;exact⟨i',fS,p0,by rw[w1 i' fS,if_pos rfl];exact mp⟩
 ·obtain⟨r,hr,rfl⟩:=mem_map.mp hr;obtain⟨i',fS,h,p0⟩:=Dx (by assumption) he;obtain⟨M,mp,_,_,_,w1⟩:=h.ex;have hk:(aB p.length r).kd=knd os i':=h.kd;rw[hk];constructor
  ·intro e;exact⟨i',fS,p0,decide_eq_true e,by rw[w1 i' fS,if_pos rfl];exact mp⟩
  ·rintro⟨i,hi,_,hs,hp⟩;rw[w1 i hi]at hp;by_cases e:i'=i
   ·subst e;exact of_decide_eq_true hs
   ·rw[if_neg e]at hp;grind
 ·obtain⟨r,hr,rfl⟩:=mem_map.mp hr;obtain⟨i',fS,h,p0⟩:=Dx (by assumption) he;obtain⟨M,mp,a1,a2,_,w1⟩:=h.ex;have e:=ou (k:=os.length) (i:=i') (f:=fun i=>uo (jO os) (aB p.length r) i*(if c<p.length then ji os i c else 0)) fS (fun c' fI bQ=>by rw[HB p0 w1 c' fI,if_neg (Ne.symm bQ)];grind);rw[e,HB p0 w1 i' fS,if_pos rfl];by_cases E8:c<p.length
  ·rw[if_pos E8,a1 c E8]
  ·rw[if_neg E8,show c=p.length by omega,a2];grind
 ·obtain⟨r,hr,rfl⟩:=mem_map.mp hr;obtain⟨i',fS,h,p0⟩:=Dx (by assumption) he;obtain⟨M,mp,_,_,b1,w1⟩:=h.ex;have e:=ou (k:=os.length) (i:=i') (f:=fun i=>uo (jO os) (aB p.length r) i*lQ os i) fS (fun c' fI bQ=>by rw[HB p0 w1 c' fI,if_neg (Ne.symm bQ)];grind);rw[e,HB p0 w1 i' fS,if_pos rfl,b1]
 ·
  obtain⟨i,hi,bQ⟩:=hu.ne;have hj:jO os i=true:=by
   apply Classical.byContradiction
   intro z;exact bQ (hu.gx.off i hi z)
  have ce:iJ os.length (fun i=>jO os i=true) [] (fun i c=>if c<p.length then ji os i c else 0) (fun c=>if i=c then 1 else 0):=by
   refine⟨fun c hc=>?_,fun c hc hz=>if_neg fun(e:i=c)=>hz (e▸hj),fun c hc=>by simp at hc⟩;show(0:Rat)<=if i=c then 1 else 0;split<;>grind
  obtain⟨c,c0,hc⟩:=hu.alone _ ce fun i' fS z=>if_neg fun(e:i=i')=>bQ (e▸z);obtain⟨r,hr,hR⟩:=we hl hi;obtain⟨M,mp,_,_,_,w1⟩:=hR.ex;have e1:=hc i hi;rw[if_pos rfl]at e1;have cp:0<c:=by
   rcases Rat.le_iff_lt_or_eq.mp c0 with h|h
   ·exact h
   ·rw[<- h]at e1;grind
  refine⟨aB p.length r,mem_map.mpr ⟨r,hr,rfl⟩,?_,M*c,bC mp cp,fun i' fS p0=>?_⟩
  ·show r.1≠.eq;rw[hR.kd];unfold jO at hj;exact of_decide_eq_true hj
  ·have e2:=hc i' fS;rw[w1 i' fS];split
   ·rename_i e;rw[if_pos e]at e2;rw[show M*c*u i'=M*(c*u i') by grind,<- e2];grind
   ·rename_i e;rw[if_neg e]at e2;rw[show M*c*u i'=M*(c*u i') by grind,<- e2];grind
theorem Ek(hl:∀o∈os,o.2.1.length=p.length):∀r∈aZ p os,lS p.length os.length (ji os) (lQ os) (fun c=>p.getD c 0) (aB p.length r):=by
 intro r hr;rcases iE hl hr with⟨i,hi,h⟩|h
 ·obtain⟨M,mp,a1,a2,b1,w1⟩:=h.ex;refine⟨fun c hc=>?_,?_⟩
  ·rw[ou (k:=os.length) (i:=i) (f:=fun i=>(aB p.length r).w i*ji os i c) hi (fun c' fI bQ=>by rw[w1 c' fI,if_neg (Ne.symm bQ)];grind),w1 i hi,if_pos rfl,a1 c hc,a2];grind
  ·rw[ou (k:=os.length) (i:=i) (f:=fun i=>(aB p.length r).w i*lQ os i) hi (fun c' fI bQ=>by rw[w1 c' fI,if_neg (Ne.symm bQ)];grind),w1 i hi,if_pos rfl,b1]
 ·obtain⟨M,mp,a1,a2,b1,w1⟩:=h.ex;refine⟨fun c hc=>?_,?_⟩
  ·rw[fU (k:=os.length) (f:=fun i=>(aB p.length r).w i*ji os i c) (fun c' fI=>by rw[w1 c' fI];grind),a1 c hc,a2];grind
  ·rw[fU (k:=os.length) (f:=fun i=>(aB p.length r).w i*lQ os i) (fun c' fI=>by rw[w1 c' fI];grind),b1]
theorem rC(hl:∀o∈os,o.2.1.length=p.length):Run p.length os.length (jO os) (sO os) (ji os) (lQ os) (fun c=>p.getD c 0) 0 (bL p os) (aZ p os):=
 CK p.length 0 1 (aZ p os) [] _ _ (by omega) rfl (qV hl) (xX hl) (Ek hl)
def aD (p:List Rat) (os:List Ol):List Row:=(bL p os).getD p.length []
def gY (os:List Ol) (ws:List Rat) (c:Nat):Rat:=sm os.length fun i=>ws.getD i 0*ji os i c
def ox (os:List Ol) (ws:List Rat):Rat:=sm os.length fun i=>ws.getD i 0*lQ os i
def AW (os:List Ol) (ws:List Rat):Prop:=∃i,i<os.length/\knd os i=.lt/\0<ws.getD i 0
structure NU (os:List Ol) (ws:List Rat):Prop where
 len:ws.length=os.length
 nn:∀i,i<os.length->knd os i≠.eq->0<=ws.getD i 0
def cm (p x:List Rat):Rat:=sm p.length fun c=>p.getD c 0*x.getD c 0
def fX (o:Ol) (x:List Rat):Prop:=rel o.1 (cm o.2.1 x) o.2.2
theorem qX{f:Int->Rat}(f0:f 0=0):((l.drop m).map f).getD i 0=f (l.getD (m+i) 0):=by
 rw[getD_eq_getElem?_getD,getD_eq_getElem?_getD,getElem?_map,List.getElem?_drop];cases l[m+i]? with
 |none=>exact f0.symm
 |some x=>rfl
theorem Sa(q:Rat):((0:Int):Rat)/q=0:=by
 show(0:Rat)/q=0;grind
theorem sZ(n c:Nat):(List.replicate n (0:Rat)).getD c 0=0:=by
 rw[getD_eq_getElem?_getD,getElem?_replicate];split<;>rfl
theorem uG:kA r (List.replicate (n+1) 0)=(aB n r).b:=by
 rw[xb (n:=n) (by rw[length_replicate])];have:vl n (aB n r) (xf (List.replicate (n+1) 0))=0:=fU fun c _=>by
  show _*(List.replicate (n+1) (0:Rat)).getD c 0=0;rw[sZ];grind
 rw[this];grind
structure Qz (p:List Rat) (os:List Ol) (r:Row):Prop where
 len:r.2.length=p.length+2+os.length
 sums:∀c,c<p.length->sm os.length (fun i=>(aB p.length r).w i*ji os i c)=(aB p.length r).a p.length*p.getD c 0
 bd:sm os.length (fun i=>(aB p.length r).w i*lQ os i)=(aB p.length r).b
 uS:r.1=.eq->∀i,i<os.length->knd os i≠.eq->(aB p.length r).w i=0
 nn:r.1≠.eq->∀i,i<os.length->knd os i≠.eq->0<=(aB p.length r).w i
 st:r.1=.lt->∃i,i<os.length/\knd os i=.lt/\0<(aB p.length r).w i
 zero:∀c,c<p.length->(aB p.length r).a c=0
theorem DE(hl:∀o∈os,o.2.1.length=p.length)(hr:r∈aD p os):Qz p os r:=by
 have I:=rC hl;obtain⟨E,B,β,S⟩:=I.last;have L:=I.Pr r (by rw[sub_zero];exact hr);have mem:aB p.length r∈((bL p os).getD (p.length-0) []).map (aB p.length):=mem_map.mpr ⟨r,by rw[sub_zero];exact hr,rfl⟩;have z:∀c,c<p.length->(aB p.length r).a c=0:=fun c hc=>S.zero _ mem c hc;refine⟨I.rs.len r (by rw[sub_zero];exact hr),fun c hc=>?_,L.b.symm,fun he i hi hk=>S.uS _ mem he i hi (decide_eq_true hk),fun he i hi hk=>S.nn _ mem he i hi (decide_eq_true hk),fun he=>?_,z⟩
 ·have:=L.a c hc;rw[z c hc]at this;grind
 ·obtain⟨i,hi,_,hs,hp⟩:=(S.st _ mem (by show r.1≠.eq;rw[he];simp)).mp he;exact⟨i,hi,of_decide_eq_true hs,hp⟩
structure NC (p:List Rat) (os:List Ol) (ws:List Rat) (s b:Rat) (str:Bool):Prop where
 sQ:NU os ws
 parts:∀c,c<p.length->gY os ws c=s*p.getD c 0
 bd:ox os ws=b
 st:str=true->AW os ws
variable {ws:List Rat}
theorem oO{q:Rat}(h:Qz p os r)(hlen:ws.length=os.length)(hw:∀i,i<os.length->ws.getD i 0=q*(aB p.length r).w i)(hq:0<q\/r.1=.eq):NC p os ws (q*(aB p.length r).a p.length) (q*(aB p.length r).b) (decide (r.1=.lt)):=by
 refine⟨⟨hlen,fun i hi hk=>?_⟩,fun c hc=>?_,?_,fun e=>?_⟩
 ·rw[hw i hi];by_cases he:r.1=.eq
  ·rw[h.uS he i hi hk];grind
  ·rcases hq with hq|hq
   ·exact cO (le_of_lt hq) (h.nn he i hi hk)
   ·exact absurd hq he
 ·unfold gY;rw[aO (g:=fun i=>q*((aB p.length r).w i*ji os i c)) (fun i hi=>by rw[hw i hi];grind),bw,h.sums c hc];grind
 ·unfold ox;rw[aO (g:=fun i=>q*((aB p.length r).w i*lQ os i)) (fun i hi=>by rw[hw i hi];grind),bw,h.bd]
 ·have e':=of_decide_eq_true e;obtain⟨i,hi,hk,hp⟩:=h.st e';refine⟨i,hi,hk,?_⟩;rw[hw i hi];rcases hq with hq|hq
  ·exact bC hq hp
  ·rw[e']at hq;cases hq
theorem q5(hl:∀o∈os,o.2.1.length=p.length)(j1:way=1\/way=-1){t:fu}(h:endOf p.length (aD p os) way=some t):NC p os t.2.2 (way:Rat) t.2.1 t.1:=by
 obtain⟨⟨r,hr,hc,k1,k2,k3⟩,_⟩:=(kM (aD p os) p.length (List.replicate (p.length+1) 0) way).some t h;have L:=DE hl hr;have xw:way*ent r p.length≠0:=by rcases hc with hc|⟨hc,_⟩<;>omega
 have qne:((way*ent r p.length:Int):Rat)≠0:=fun z=>xw (bR.mp z);have xu:0<((way*ent r p.length:Int):Rat)⁻¹\/r.1=.eq:=by
  rcases hc with hc|⟨_,e⟩
  ·exact .inl (inv_pos.mpr (gS.mpr hc))
  ·exact .inr e
 have hlen:t.2.2.length=os.length:=by
  rw[k3];unfold mj;rw[length_map,length_drop,L.len,length_replicate];omega
 have hw:∀i,i<os.length->t.2.2.getD i 0=((way*ent r p.length:Int):Rat)⁻¹*(aB p.length r).w i:=fun i hi=>by
  rw[k3];unfold mj;rw[length_replicate,qX (Sa _)];show(ent r (p.length+1+1+i):Rat)/_=_*(ent r (p.length+2+i):Rat);rw[show p.length+1+1+i=p.length+2+i by omega];grind
 have P:=oO L hlen hw xu;have e1:((way*ent r p.length:Int):Rat)⁻¹*(aB p.length r).a p.length=(way:Rat):=by
  show((way*ent r p.length:Int):Rat)⁻¹*(ent r p.length:Rat)=(way:Rat);have a0:(ent r p.length:Rat)≠0:=fun z=>xw (by rw[bR.mp z];omega);rw[intCast_mul];rcases j1 with e|e
  ·subst e;rw[Rat.intCast_one];grind
  ·subst e;have:((-1:Int):Rat)=-1:=rfl;rw[this];grind
 have e2:((way*ent r p.length:Int):Rat)⁻¹*(aB p.length r).b=t.2.1:=by
  rw[k2];unfold d9;rw[uG];grind
 rw[e1,e2,<- k1]at P;exact P
theorem yJ(hl:∀o∈os,o.2.1.length=p.length)(h:never p.length (aD p os)=some ws):NU os ws/\(∀c,c<p.length->gY os ws c=0)/\(ox os ws<0\/(ox os ws=0/\AW os ws)):=by
 unfold never at h;cases hr:fP p.length (aD p os)with
 |some w=>
  rw[hr]at h;cases h;unfold fP at hr;obtain⟨r,hf,e⟩:∃r,(aD p os).find? (fun r=>decide (ent r p.length=0)&&cy r.1 (ent r (p.length+1):Rat))=some r/\_=ws:=by
   cases hf:(aD p os).find? (fun r=>decide (ent r p.length=0)&&cy r.1 (ent r (p.length+1):Rat))with
   |none=>rw[hf]at hr;cases hr
   |some r=>rw[hf]at hr;exact⟨r,rfl,Option.some.inj hr⟩
  have hm:=mem_of_find?_eq_some hf;have hp:=find?_some hf;rw[and_eq_true,decide_eq_true_iff]at hp;obtain⟨h0,hn⟩:=hp;have L:=DE hl hm;have hlen:ws.length=os.length:=by rw[<- e,length_map,length_drop,L.len];omega
  by_cases hw:r.1=.eq/\0<ent r (p.length+1)
  ·have DR:∀i,i<os.length->ws.getD i 0=(-1)*(aB p.length r).w i:=fun i hi=>by
    rw[<- e,if_pos hw,qX (f:=fun(w:Int)=>(((-1:Int)*w:Int):Rat)) rfl,intCast_mul];rfl
   have P:=oO L hlen DR (.inr hw.1);refine⟨P.sQ,fun c hc=>?_,.inl ?_⟩
   ·rw[P.parts c hc];have:(aB p.length r).a p.length=0:=bR.mpr h0;rw[this];grind
   ·rw[P.bd];have:0<(aB p.length r).b:=gS.mpr hw.2;grind
  ·have DR:∀i,i<os.length->ws.getD i 0=1*(aB p.length r).w i:=fun i hi=>by
    rw[<- e,if_neg hw,qX (f:=fun(w:Int)=>(((1:Int)*w:Int):Rat)) rfl,intCast_mul];rfl
   have P:=oO L hlen DR (.inl (by grind));have a0:(aB p.length r).a p.length=0:=bR.mpr h0;refine⟨P.sQ,fun c hc=>by rw[P.parts c hc,a0];grind,?_⟩;rw[P.bd];have eb:1*(aB p.length r).b=(ent r (p.length+1):Rat):=by show 1*(ent r (p.length+1):Rat)=_;grind
   rw[eb];cases hk:r.1 with
   |eq=>
    rw[hk]at hn;have kf:(ent r (p.length+1):Rat)≠0:=of_decide_eq_true hn;have PQ:¬0<ent r (p.length+1):=fun z=>hw ⟨hk,z⟩;have hn3:ent r (p.length+1)≠0:=fun z=>kf (by rw[z];rfl);exact .inl (oW.mpr (by omega))
   |le=>rw[hk]at hn;exact .inl (of_decide_eq_true hn)
   |lt=>
    rw[hk]at hn;have kf:(decide ((ent r (p.length+1):Rat)<0) || decide ((ent r (p.length+1):Rat)=0))=true:=hn;rw[or_eq_true,decide_eq_true_iff,decide_eq_true_iff]at kf;rcases kf with z|z
    ·exact .inl z
    ·exact .inr ⟨z,P.st (decide_eq_true hk)⟩
 |none=>
  rw[hr]at h;have h':gh p.length (aD p os)=some ws:=h;unfold gh at h';cases ht:endOf p.length (aD p os) 1 with
  |none=>rw[ht]at h';cases h'
  |some t=>
   cases hb:endOf p.length (aD p os) (-1)with
   |none=>rw[ht,hb]at h';cases h'
   |some b=>
    rw[ht,hb]at h';have h2:(if cy (if t.1=true\/b.1=true then .lt else .le) (t.2.1+b.2.1)=true then some (zipWith (fun x y=>x+y) t.2.2 b.2.2)else none)=some ws:=h';by_cases hn:cy (if t.1=true\/b.1=true then .lt else .le) (t.2.1+b.2.1)=true
    ·rw[if_pos hn]at h2;have e:=Option.some.inj h2;have Pt:=q5 hl (.inl rfl) ht;have Pb:=q5 hl (.inr rfl) hb;have c1:((1:Int):Rat)=1:=rfl;have c2:((-1:Int):Rat)=-1:=rfl;rw[c1]at Pt;rw[c2]at Pb;have hlen:ws.length=os.length:=by rw[<- e,List.length_zipWith,Pt.sQ.len,Pb.sQ.len,Nat.min_self]
     have hw:∀i,i<os.length->ws.getD i 0=t.2.2.getD i 0+b.2.2.getD i 0:=fun i hi=>by
      rw[<- e,getD_eq_getElem?_getD,getD_eq_getElem?_getD,getD_eq_getElem?_getD,List.getElem?_zipWith,getElem?_eq_getElem (by rw[Pt.sQ.len];exact hi),getElem?_eq_getElem (by rw[Pb.sQ.len];exact hi)];rfl
     have Pg:=Pt.sQ.nn;have Pj:=Pb.sQ.nn;have hs:(t.1=true\/b.1=true)->AW os ws:=by
      rintro(z|z)
      ·obtain⟨i,hi,hk,hp⟩:=Pt.st z;have:=Pj i hi (by rw[hk];simp);exact⟨i,hi,hk,by rw[hw i hi];grind⟩
      ·obtain⟨i,hi,hk,hp⟩:=Pb.st z;have:=Pg i hi (by rw[hk];simp);exact⟨i,hi,hk,by rw[hw i hi];grind⟩
     have Ut:ox os ws=t.2.1+b.2.1:=by
      rw[<- Pt.bd,<- Pb.bd];unfold ox;rw[<- dj];exact aO fun i hi=>by rw[hw i hi];grind
     refine⟨⟨hlen,fun i hi hk=>?_⟩,fun c hc=>?_,?_⟩
     ·have a:=Pg i hi hk;have b':=Pj i hi hk;rw[hw i hi];grind
     ·have e1:gY os ws c=gY os t.2.2 c+gY os b.2.2 c:=by
       unfold gY;rw[<- dj];exact aO fun i hi=>by rw[hw i hi];grind
      rw[e1,Pt.parts c hc,Pb.parts c hc];grind
     ·rw[Ut];split at hn
      ·rename_i hst;have kf:(decide (t.2.1+b.2.1<0) || decide (t.2.1+b.2.1=0))=true:=hn;rw[or_eq_true,decide_eq_true_iff,decide_eq_true_iff]at kf;exact kf.elim .inl fun z=>.inr ⟨z,hs hst⟩
      ·exact .inl (of_decide_eq_true hn)
    ·rw[if_neg hn]at h2;cases h2
theorem t5(n:Nat)(t:Rat):xf (List.replicate n 0++[t])=put (xf (List.replicate (n+1) 0)) n t:=funext fun c=>by
 show(List.replicate n 0++[t]).getD c 0=if c=n then t else(List.replicate (n+1) (0:Rat)).getD c 0;rw[sZ,getD_eq_getElem?_getD];by_cases e:c=n
 ·rw[if_pos e,e,getElem?_append_right (by rw[length_replicate];omega),length_replicate,sub_self];rfl
 ·rw[if_neg e];by_cases h:c<n
  ·rw[getElem?_append_left (by rw[length_replicate];exact h),getElem?_replicate,if_pos h];rfl
  ·rw[List.getElem?_eq_none (by rw[length_append,length_replicate,length_singleton];omega)];rfl
theorem Ct{y:Nat->Rat}(h:lR p.length os.length os i r)(hy:∀c,c<p.length->y c=x.getD c 0)(ho:(os.getD i (.eq,[],0)).2.1.length=p.length):Hd p.length y (aB p.length r)->fX (os.getD i (.eq,[],0)) x:=by
 obtain⟨M,mp,a1,a2,b1,_⟩:=h.ex;intro hd;unfold Hd at hd;have ev:vl p.length (aB p.length r) y=M*cm (os.getD i (.eq,[],0)).2.1 x:=by
  unfold vl cm;show sm p.length _+(aB p.length r).a p.length*y p.length=_;rw[a2,ho,<- bw,aO (g:=fun c=>M*(ji os i c*x.getD c 0)) (fun c hc=>by rw[a1 c hc,hy c hc];grind)];show sm p.length (fun c=>M*(ji os i c*x.getD c 0))+0*y p.length=_;have:sm p.length (fun c=>M*(ji os i c*x.getD c 0))=sm p.length fun c=>M*((os.getD i (.eq,[],0)).2.1.getD c 0*x.getD c 0):=rfl;rw[this];grind
 rw[ev,b1]at hd;have hk:(aB p.length r).kd=(os.getD i (.eq,[],0)).1:=h.kd;rw[hk]at hd;unfold fX;have hb:lQ os i=(os.getD i (.eq,[],0)).2.2:=rfl;rw[hb]at hd;generalize os.getD i (.eq,[],0)=o at *;cases Iu:o.1 with
 |eq=>
  rw[Iu]at hd;have cV:M*cm o.2.1 x=M*o.2.2:=hd;have:M*(cm o.2.1 x-o.2.2)=0:=by grind
  show cm o.2.1 x=o.2.2;rcases mul_eq_zero.mp this with z|z<;>grind
 |le=>rw[Iu]at hd;exact Rat.le_of_mul_le_mul_left hd mp
 |lt=>rw[Iu]at hd;exact Rat.lt_of_mul_lt_mul_left hd (le_of_lt mp)
variable {t:Rat}
theorem FR(hl:∀o∈os,o.2.1.length=p.length)(h:∀r∈aD p os,Hd p.length (put (xf (List.replicate (p.length+1) 0)) p.length t) (aB p.length r)):
  (mE (bL p os) p.length t).length=p.length/\(∀o∈os,fX o (mE (bL p os) p.length t))/\cm p (mE (bL p os) p.length t)=t:=by
 have I:=rC hl;have h0:∀c,c<p.length->(List.replicate p.length 0++[t]).getD c 0=0:=fun c hc=>by
  have:=congrFun (t5 p.length t) c;have e:(List.replicate p.length 0++[t]).getD c 0=put (xf (List.replicate (p.length+1) 0)) p.length t c:=this;rw[e];unfold put;rw[if_neg (by omega)];exact sZ _ _
 obtain⟨e1,e2,e3⟩:=HW I p.length (List.replicate p.length 0++[t]) (le_refl _) (by rw[length_append,length_replicate,length_singleton]) h0 (fun r hr=>by rw[t5];exact h r hr);generalize hX:kZ (bL p os) p.length (List.replicate p.length 0++[t])=X at e1 e2 e3;have hP:mE (bL p os) p.length t=X.take p.length:=by unfold mE;rw[hX]
 have hy:∀c,c<p.length->xf X c=(X.take p.length).getD c 0:=fun c hc=>by
  show X.getD c 0=_;rw[getD_eq_getElem?_getD,getD_eq_getElem?_getD,List.getElem?_take,if_pos hc]
 have et:X.getD p.length 0=t:=by
  rw[e2];have:=congrFun (t5 p.length t) p.length;have e:(List.replicate p.length 0++[t]).getD p.length 0=put (xf (List.replicate (p.length+1) 0)) p.length t p.length:=this;rw[e];unfold put;rw[if_pos rfl]
 rw[hP];refine⟨by rw[length_take,e1];omega,fun o ho=>?_,?_⟩
 ·obtain⟨i,hi,e⟩:=List.getElem_of_mem ho;obtain⟨r,hr,hR⟩:=we hl hi;have eo:os.getD i (.eq,[],0)=o:=by rw[getD_eq_getElem?_getD,getElem?_eq_getElem hi,e];rfl
  have:=Ct hR hy (by rw[eo];exact hl o ho) (e3 r hr);rw[eo]at this;exact this
 ·have hs:=e3 (dP p os.length) (by unfold aZ;simp);obtain⟨M,mp,a1,a2,b1,_⟩:=(vW (p:=p) os.length).ex;unfold Hd at hs;have hk:(aB p.length (dP p os.length)).kd=.eq:=rfl;rw[hk]at hs;have qo:vl p.length (aB p.length (dP p os.length)) (xf X)=(aB p.length (dP p os.length)).b:=hs;rw[b1]at qo;have ev:vl p.length (aB p.length (dP p os.length)) (xf X)=(-M)*cm p (X.take p.length)+M*t:=by
   unfold vl cm;show sm p.length _+(aB p.length (dP p os.length)).a p.length*xf X p.length=_;rw[a2,<- bw,aO (g:=fun c=>(-M)*(p.getD c 0*(X.take p.length).getD c 0)) (fun c hc=>by rw[a1 c hc,hy c hc];grind)];show _+M*X.getD p.length 0=_;rw[et]
  rw[ev]at qo;have:M*(cm p (X.take p.length)-t)=0:=by grind
  rcases mul_eq_zero.mp this with z|z<;>grind
theorem Ji(hl:∀o∈os,o.2.1.length=p.length)(hn:never p.length (aD p os)=none)(hu:∀s v,jZ (endOf p.length (aD p os) 1)=some (s,v)->t<=v/\(s=true->t<v))(hb:∀s v,k8 (endOf p.length (aD p os) (-1))=some (s,v)->v<=t/\(s=true->v<t)):
  ∀r∈aD p os,Hd p.length (put (xf (List.replicate (p.length+1) 0)) p.length t) (aB p.length r):=by
 intro r hr;have T:=oj (n:=p.length) (j:=p.length) (rows:=aD p os) (x:=List.replicate (p.length+1) 0) (by rw[length_replicate]) (le_refl _) (sZ _ _);have Bt:=om (n:=p.length) (j:=p.length) (rows:=aD p os) (x:=List.replicate (p.length+1) 0) (by rw[length_replicate]) (le_refl _) (sZ _ _);have mem:aB p.length r∈(aD p os).map (aB p.length):=mem_map.mpr ⟨r,hr,rfl⟩;have MA:fP p.length (aD p os)=none:=by
  unfold never at hn;cases h:fP p.length (aD p os)with
  |none=>rfl
  |some w=>rw[h]at hn;cases hn
 by_cases h0:ent r p.length=0
 ·have a0:(aB p.length r).a p.length=0:=bR.mpr h0;have hf:cy r.1 (ent r (p.length+1):Rat)=false:=by
   unfold fP at MA;rw[Option.map_eq_none_iff]at MA;have:=List.find?_eq_none.mp MA r hr;cases hz:cy r.1 (ent r (p.length+1):Rat)with
   |false=>rfl
   |true=>rw[hz]at this;exact absurd (by simp[h0]) this
  rw[xE (le_refl _) a0];have hv:vl p.length (aB p.length r) (xf (List.replicate (p.length+1) 0))=0:=fU fun c _=>by
   show _*(List.replicate (p.length+1) (0:Rat)).getD c 0=0;rw[sZ];grind
  unfold Hd;rw[hv];show rel r.1 0 (ent r (p.length+1):Rat);generalize (ent r (p.length+1):Rat)=b at hf;cases hk:r.1 with
  |eq=>rw[hk]at hf;have:=of_decide_eq_false hf;show 0=b;grind
  |le=>rw[hk]at hf;have:=of_decide_eq_false hf;show 0<=b;grind
  |lt=>
   rw[hk]at hf;have xC:(decide (b<0) || decide (b=0))=false:=hf;rw[Bool.or_eq_false_iff,decide_eq_false_iff_not,decide_eq_false_iff_not]at xC;show 0<b;grind
 ·
  have up:isUp (aB p.length r) p.length->t<=Nm p.length (aB p.length r) (xf (List.replicate (p.length+1) 0)) p.length/\(r.1=.lt->t<Nm p.length (aB p.length r) (xf (List.replicate (p.length+1) 0)) p.length):=by
   intro hi;cases hg:jZ (endOf p.length (aD p os) 1)with
   |none=>exact absurd hi (T.none hg _ mem)
   |some g=>
    obtain⟨s,v⟩:=g;obtain⟨h1,h2⟩:=(T.some s v hg).2 _ mem hi;obtain⟨h3,h4⟩:=hu s v hg;refine⟨by grind,fun e=>?_⟩;by_cases z:Nm p.length (aB p.length r) (xf (List.replicate (p.length+1) 0)) p.length=v
    ·have:=h4 (h2 e z);grind
    ·grind
  have lo:nG (aB p.length r) p.length->Nm p.length (aB p.length r) (xf (List.replicate (p.length+1) 0)) p.length<=t/\(r.1=.lt->Nm p.length (aB p.length r) (xf (List.replicate (p.length+1) 0)) p.length<t):=by
   intro hi;cases hg:k8 (endOf p.length (aD p os) (-1))with
   |none=>exact absurd hi (Bt.none hg _ mem)
   |some g=>
    obtain⟨s,v⟩:=g;obtain⟨h1,h2⟩:=(Bt.some s v hg).2 _ mem hi;obtain⟨h3,h4⟩:=hb s v hg;refine⟨by grind,fun e=>?_⟩;by_cases z:Nm p.length (aB p.length r) (xf (List.replicate (p.length+1) 0)) p.length=v
    ·have:=h4 (h2 e z);grind
    ·grind
  have a0:(aB p.length r).a p.length≠0:=fun z=>h0 (bR.mp z);unfold Hd;by_cases hp:0<(aB p.length r).a p.length
  ·cases hk:r.1 with
   |eq=>
    have ip:(aB p.length r).kd=.eq:=hk;rw[ip];have a:=(up (.inl hp)).1;have b:=(lo (.inr ⟨hp,hk⟩)).1;exact(nM (le_refl _) a0).mpr (by grind)
   |le=>
    have ip:(aB p.length r).kd=.le:=hk;rw[ip];exact(AN (le_refl _) hp).mpr (up (.inl hp)).1
   |lt=>
    have ip:(aB p.length r).kd=.lt:=hk;rw[ip];exact(AM (le_refl _) hp).mpr ((up (.inl hp)).2 hk)
  ·have kf:(aB p.length r).a p.length<0:=by grind
   cases hk:r.1 with
   |eq=>
    have ip:(aB p.length r).kd=.eq:=hk;rw[ip];have a:=(up (.inr ⟨kf,hk⟩)).1;have b:=(lo (.inl kf)).1;exact(nM (le_refl _) a0).mpr (by grind)
   |le=>
    have ip:(aB p.length r).kd=.le:=hk;rw[ip];exact(lo_le (le_refl _) kf).mpr (lo (.inl kf)).1
   |lt=>
    have ip:(aB p.length r).kd=.lt:=hk;rw[ip];exact(Br (le_refl _) kf).mpr ((lo (.inl kf)).2 hk)
theorem Ew(hn:never p.length (aD p os)=none){s s':Bool}{v':Rat}(hu:jZ (endOf p.length (aD p os) 1)=some (s,v))(hb:k8 (endOf p.length (aD p os) (-1))=some (s',v')):v'<=v/\(s=true\/s'=true->v'<v):=by
 have bQ:gh p.length (aD p os)=none:=by
  unfold never at hn;cases h:fP p.length (aD p os)with
  |none=>rw[h]at hn;exact hn
  |some w=>rw[h]at hn;cases hn
 unfold gh at bQ;cases ht:endOf p.length (aD p os) 1 with
 |none=>rw[ht]at hu;cases hu
 |some t=>
  cases uN:endOf p.length (aD p os) (-1)with
  |none=>rw[uN]at hb;cases hb
  |some b=>
   rw[ht]at hu;rw[uN]at hb;have DS:(t.1,t.2.1)=(s,v):=Option.some.inj hu;have Ea:(b.1,0-b.2.1)=(s',v'):=Option.some.inj hb;injection DS with u1 u2;injection Ea with b1 b2;rw[ht,uN]at bQ;have h2:(if cy (if t.1=true\/b.1=true then .lt else .le) (t.2.1+b.2.1)=true then some (zipWith (fun x y=>x+y) t.2.2 b.2.2)else none)=none:=bQ;by_cases hz:cy (if t.1=true\/b.1=true then .lt else .le) (t.2.1+b.2.1)=true
   ·rw[if_pos hz]at h2;cases h2
   ·split at hz
    ·have xm:¬(decide (t.2.1+b.2.1<0) || decide (t.2.1+b.2.1=0))=true:=hz;rw[or_eq_true,decide_eq_true_iff,decide_eq_true_iff]at xm;have z1:¬t.2.1+b.2.1<0:=fun z=>xm (.inl z);have z2:¬t.2.1+b.2.1=0:=fun z=>xm (.inr z);exact⟨by grind,fun _=>by grind⟩
    ·rename_i hst;have z1:¬t.2.1+b.2.1<0:=fun z=>hz (decide_eq_true z);exact⟨by grind,fun z=>absurd (by rw[u1,b1];exact z) hst⟩
theorem ve(hl:∀o∈os,o.2.1.length=n)(ha:NU os ws)(hx:∀o∈os,fX o x):sm n (fun c=>gY os ws c*x.getD c 0)<=ox os ws/\(AW os ws->sm n (fun c=>gY os ws c*x.getD c 0)<ox os ws):=by
 have at':∀i,i<os.length->os.getD i (.eq,[],0)∈os:=fun i hi=>by
  rw[getD_eq_getElem?_getD,getElem?_eq_getElem hi];exact List.getElem_mem _
 have hw:∀i,i<os.length->cm (os.getD i (.eq,[],0)).2.1 x=sm n fun c=>ji os i c*x.getD c 0:=fun i hi=>by
  unfold cm;rw[hl _ (at' i hi)];rfl
 have le:∀i,i<os.length->ws.getD i 0*cm (os.getD i (.eq,[],0)).2.1 x<=ws.getD i 0*lQ os i:=fun i hi=>by
  have hh:=hx _ (at' i hi);unfold fX at hh;have nn:=ha.nn i hi;unfold knd at nn;unfold lQ;cases hk:(os.getD i (.eq,[],0)).1 with
  |eq=>rw[hk]at hh;rw[show cm (os.getD i (.eq,[],0)).2.1 x=_ from hh];exact Rat.le_refl
  |le=>
   rw[hk]at hh;exact mul_le_mul_of_nonneg_left hh (nn (by rw[hk];simp))
  |lt=>
   rw[hk]at hh;exact mul_le_mul_of_nonneg_left (le_of_lt hh) (nn (by rw[hk];simp))
 have zk:sm os.length (fun i=>ws.getD i 0*cm (os.getD i (.eq,[],0)).2.1 x)=sm n fun c=>gY os ws c*x.getD c 0:=by
  rw[aO (g:=fun i=>sm n fun c=>ws.getD i 0*ji os i c*x.getD c 0) (fun i hi=>by
   rw[hw i hi,<- bw];exact aO fun c _=>by grind),td]
  refine aO fun c _=>?_;unfold gY;rw[aO (g:=fun i=>x.getD c 0*(ws.getD i 0*ji os i c)) (fun i _=>by grind),bw];grind
 refine⟨by rw[<- zk];exact AZ le,fun⟨i,hi,hk,hp⟩=>?_⟩;rw[<- zk];refine HQ le ⟨i,hi,?_⟩;have hh:=hx _ (at' i hi);unfold fX at hh;unfold knd at hk;rw[hk]at hh;exact mul_lt_mul_of_pos_left hh hp
theorem uB{s:Rat}{st:Bool}(hl:∀o∈os,o.2.1.length=p.length)(P:NC p os ws s b st)(hx:∀o∈os,fX o x):s*cm p x<=b/\(st=true->s*cm p x<b):=by
 obtain⟨h1,h2⟩:=ve hl P.sQ hx;have e:sm p.length (fun c=>gY os ws c*x.getD c 0)=s*cm p x:=by
  unfold cm;rw[<- bw];exact aO fun c hc=>by rw[P.parts c hc];grind
 rw[e,P.bd]at h1 h2;exact⟨h1,fun z=>h2 (P.st z)⟩
def dO (g:Option (Bool×Rat)) (t:Rat):Prop:=∀s v,g=some (s,v)->t<=v/\(s=true->t<v)
def dS (g:Option (Bool×Rat)) (t:Rat):Prop:=∀s v,g=some (s,v)->v<=t/\(s=true->v<t)
abbrev k0 (p:List Rat) (os:List Ol):Option (Bool×Rat):=jZ (endOf p.length (aD p os) 1)
abbrev nN (p:List Rat) (os:List Ol):Option (Bool×Rat):=k8 (endOf p.length (aD p os) (-1))
theorem KS(hl:∀o∈os,o.2.1.length=p.length)(hn:never p.length (aD p os)=none)(t:Rat):(∃x:List Rat,x.length=p.length/\(∀o∈os,fX o x)/\cm p x=t)↔dO (k0 p os) t/\dS (nN p os) t:=by
 constructor
 ·rintro⟨x,_,hx,rfl⟩;constructor
  ·intro s v h;cases h1:endOf p.length (aD p os) 1 with
   |none=>unfold k0 at h;rw[h1]at h;cases h
   |some b=>
    unfold k0 at h;rw[h1]at h;cases h;have:=uB hl (q5 hl (.inl rfl) h1) hx;rw[show((1:Int):Rat)=1 from rfl,Rat.one_mul]at this;exact this
  ·intro s v h;cases h1:endOf p.length (aD p os) (-1)with
   |none=>unfold nN at h;rw[h1]at h;cases h
   |some b=>
    unfold nN at h;rw[h1]at h;cases h;have:=uB hl (q5 hl (.inr rfl) h1) hx;rw[show((-1:Int):Rat)=-1 from rfl]at this;refine⟨by grind,fun z=>?_⟩;have:=this.2 z;grind
 ·rintro⟨hu,hb⟩;obtain⟨h1,h2,h3⟩:=FR hl (Ji hl hn hu hb);exact⟨_,h1,h2,h3⟩
theorem Gh(hl:∀o∈os,o.2.1.length=p.length)(hn:never p.length (aD p os)=some ws)(x:List Rat):¬ ∀o∈os,fX o x:=fun hx=>by
 obtain⟨h1,h2,h3⟩:=yJ hl hn;obtain⟨a,b⟩:=ve hl h1 hx;have e:sm p.length (fun c=>gY os ws c*x.getD c 0)=0:=fU fun c hc=>by rw[h2 c hc,Rat.zero_mul]
 rw[e]at a b;rcases h3 with h3|⟨h3,h4⟩
 ·grind
 ·have:=b h4;grind
theorem AY(hn:never p.length (aD p os)=none):∃t,dO (k0 p os) t/\dS (nN p os) t:=by
 have R:=fun{s s' v v'}=>Ew (p:=p) (os:=os) hn (s:=s) (s':=s') (v:=v) (v':=v');show ∃t,dO (jZ (endOf p.length (aD p os) 1)) t/\dS (k8 (endOf p.length (aD p os) (-1))) t;generalize jZ (endOf p.length (aD p os) 1)=g at R;generalize k8 (endOf p.length (aD p os) (-1))=l at R;cases g with
 |none=>
  cases l with
  |none=>exact⟨0,(fun s v h=>nomatch h),(fun s v h=>nomatch h)⟩
  |some l=>exact⟨l.2+1,(fun s v h=>nomatch h),fun s v h=>by cases h;exact⟨by grind,fun _=>by grind⟩⟩
 |some g=>
  cases l with
  |none=>exact⟨g.2-1,fun s v h=>by cases h;exact⟨by grind,fun _=>by grind⟩,(fun s v h=>nomatch h)⟩
  |some l=>
   obtain⟨s,v⟩:=g;obtain⟨s',v'⟩:=l;obtain⟨h1,h2⟩:=R rfl rfl;refine⟨(v+v')/2,fun a b h=>?_,fun a b h=>?_⟩
   ·cases h;exact⟨by grind,fun z=>by have:=h2 (.inl z);grind⟩
   ·cases h;exact⟨by grind,fun z=>by have:=h2 (.inr z);grind⟩
theorem dS.up{l:Option (Bool×Rat)}{u:Rat}(h:dS l t)(hu:t<=u):dS l u:=fun s v e=>by
 obtain⟨a,b⟩:=h s v e;exact⟨by grind,fun z=>by have:=b z;grind⟩
theorem dO.down{l:Option (Bool×Rat)}{u:Rat}(h:dO l t)(hu:u<=t):dO l u:=fun s v e=>by
 obtain⟨a,b⟩:=h s v e;exact⟨by grind,fun z=>by have:=b z;grind⟩
variable {g1 g2 l1 l2:Option (Bool×Rat)} {t0:Rat}
theorem Bu(h:∀t,dO g1 t/\dS l1 t->dO g2 t/\dS l2 t)(h0:dO g1 t0/\dS l1 t0){s:Bool}(e:g2=some (s,v)):∃s' v',g1=some (s',v')/\v'<=v/\(v'=v->s=true->s'=true):=by
 cases g1 with
 |none=>
  exfalso;by_cases hv:t0<=v
  ·have:=((h (v+1) ⟨(fun _ _ z=>nomatch z),h0.2.up (by grind)⟩).1 s v e).1
   grind
  ·have:=((h t0 h0).1 s v e).1;grind
 |some g=>
  obtain⟨s',v'⟩:=g;have b0:=h0.1 s' v' rfl;refine⟨s',v',rfl,?_,fun ev es=>?_⟩
  ·by_cases hv:v'<=v
   ·exact hv
   ·exfalso;have t1:=((h t0 h0).1 s v e).1;have:=((h ((v+v')/2) ⟨fun a b z=>by cases z;exact⟨by grind,fun _=>by grind⟩,h0.2.up (by grind)⟩).1 s v e).1;grind
  ·cases s' with
   |true=>rfl
   |false=>
    exfalso;have:=((h v' ⟨fun a b z=>by cases z;exact⟨Rat.le_refl,fun z=>by cases z⟩,h0.2.up b0.1⟩).1 s v e).2 es;grind
theorem Bv(h:∀t,dO g1 t/\dS l1 t->dO g2 t/\dS l2 t)(h0:dO g1 t0/\dS l1 t0){s:Bool}(e:l2=some (s,v)):∃s' v',l1=some (s',v')/\v<=v'/\(v'=v->s=true->s'=true):=by
 cases l1 with
 |none=>
  exfalso;by_cases hv:v<=t0
  ·have:=((h (v-1) ⟨h0.1.down (by grind),(fun _ _ z=>nomatch z)⟩).2 s v e).1
   grind
  ·have:=((h t0 h0).2 s v e).1;grind
 |some g=>
  obtain⟨s',v'⟩:=g;have b0:=h0.2 s' v' rfl;refine⟨s',v',rfl,?_,fun ev es=>?_⟩
  ·by_cases hv:v<=v'
   ·exact hv
   ·exfalso;have t1:=((h t0 h0).2 s v e).1;have:=((h ((v+v')/2) ⟨h0.1.down (by grind),fun a b z=>by cases z;exact⟨by grind,fun _=>by grind⟩⟩).2 s v e).1;grind
  ·cases s' with
   |true=>rfl
   |false=>
    exfalso;have:=((h v' ⟨h0.1.down b0.1,fun a b z=>by cases z;exact⟨Rat.le_refl,fun z=>by cases z⟩⟩).2 s v e).2 es;grind
theorem lF(h:∀t,dO g1 t/\dS l1 t↔dO g2 t/\dS l2 t)(h0:dO g1 t0/\dS l1 t0):g1=g2/\l1=l2:=by
 have Af:=(h t0).mp h0;constructor
 ·cases e1:g1 with
  |none=>
   cases e2:g2 with
   |none=>rfl
   |some b=>obtain⟨s',v',z,_⟩:=Bu (fun t=>(h t).mp) h0 (s:=b.1) (v:=b.2) e2;rw[e1]at z;cases z
  |some a=>
   obtain⟨s2,v2,z,a1,a2⟩:=Bu (fun t=>(h t).mpr) Af (s:=a.1) (v:=a.2) e1;obtain⟨s1,v1,z',b1,b2⟩:=Bu (fun t=>(h t).mp) h0 (s:=s2) (v:=v2) z;rw[e1]at z';cases z';have ev:v1=v2:=Rat.le_antisymm b1 a1;rw[z,ev];cases s1<;>cases s2<;>first|rfl|exact absurd (b2 ev rfl) (by decide)|exact absurd (a2 ev.symm rfl) (by decide)
 ·cases e1:l1 with
  |none=>
   cases e2:l2 with
   |none=>rfl
   |some b=>obtain⟨s',v',z,_⟩:=Bv (fun t=>(h t).mp) h0 (s:=b.1) (v:=b.2) e2;rw[e1]at z;cases z
  |some a=>
   obtain⟨s2,v2,z,a1,a2⟩:=Bv (fun t=>(h t).mpr) Af (s:=a.1) (v:=a.2) e1;obtain⟨s1,v1,z',b1,b2⟩:=Bv (fun t=>(h t).mp) h0 (s:=s2) (v:=v2) z;rw[e1]at z';cases z';have ev:v1=v2:=Rat.le_antisymm a1 b1;rw[z,ev];cases s1<;>cases s2<;>first|rfl|exact absurd (b2 ev rfl) (by decide)|exact absurd (a2 ev.symm rfl) (by decide)
end
end FM
namespace L3
noncomputable section
open PySem PySem.Spec PyProof.Rows L2
open PySem.W (Dat kqdOk)
variable {Γ:ay}
def S4 (i:Nat) (Γ:ay):ay:=match Γ[i]? with
 |some (some (.own ds))=>Γ.set i (some (.a9 (.list ds)))
 |_=>Γ
open PySem PySem.Spec PyProof.Rows L2
open PySem.W (Dat kqdOk)
def k6 (is:List Nat) (Γ:ay):ay:=is.foldl (fun Γ i=>S4 i Γ) Γ
open PySem PySem.Spec PyProof.Rows L2
open PySem.W (Dat)
def rZ:List Dat->Option (List Int)
 |[]=>some []
 | .int n::r=>(rZ r).map (n::·)
 |_=>none
theorem qR:∀{ds:List Dat} {ns:List Int},rZ ds=some ns->ds=ns.map .int
 |[],ns,h=>by cases h;rfl
 | .int n::r,ns,h=>by
  obtain⟨m,e,h⟩:=aU (show(rZ r).map (n::·)=some ns from h);subst h;rw[qR e];rfl
theorem ax.LD{K:Fg}{H:Hp}{Av:dA}:∀{ns:List Int} {xs:List V},ax K H Av xs (ns.map .int)->xs=ns.map .int
 |[],xs,h=>by cases h;rfl
 |n::r,xs,h=>by
  cases h with
  |cons a b=>rw[a.cU,ax.LD b];rfl
structure gW (H H2:Hp) (as:List Addr) (iN:List (List Int)):Prop where
 nd:as.Nodup
 new:∀a∈as,H a=none
 len:as.length=iN.length
 at':∀(j:Nat) (a:Addr) (ps:List Int),as[j]?=some a->iN[j]?=some ps->H2 a=some (.lst (ps.map .int))
variable {H H2:Hp} {as:List Addr} {iN:List (List Int)} {a:Addr}
theorem gW.ob(h:gW H H2 as iN)(ha:a∈as):∃o,H2 a=some o:=by
 obtain⟨j,e⟩:=List.mem_iff_getElem?.mp ha;have hl:=cT e;exact⟨_,h.at' j a _ e (getElem?_eq_getElem (by rw[<- h.len];exact hl))⟩
theorem iQ{H1:Hp}(s:aL H H1)(h:H1 a=none):H a=none:=by
 cases e:H a with
 |none=>rfl
 |some o=>rw[s a o e]at h;cases h
def mv (K:Fg) (f:ar->Option (List (List Int))):TE:=fun σ H Q=>∃Av ρ iN,ff H Av/\dH K H Av σ ρ/\f ρ=some iN/\∀(H2:Hp) (p:Addr) (as:List Addr),aL H H2->gW H H2 as iN->H2 p=none->Q (.ref p) (upd H2 p (.lst (as.map .ref)))
theorem gW.old{H1:Hp}(s:aL H H1)(h:gW H1 H2 as iN):gW H H2 as iN:=⟨h.nd,fun a ha=>iQ s (h.new a ha),h.len,h.at'⟩
theorem gW.grow{H3:Hp}(s:aL H2 H3)(h:gW H H2 as iN):gW H H3 as iN:=⟨h.nd,h.new,h.len,fun j a ps e1 e2=>s _ _ (h.at' j a ps e1 e2)⟩
theorem gW.nil:gW H H2 [] []:=⟨nodup_nil,(fun a ha=>absurd ha not_mem_nil),rfl,(fun j a ps e _=>by rw[List.getElem?_nil]at e;cases e)⟩
variable {p:Addr}
theorem gW.snoc(h:gW H H2 as iN)(s:aL H H2){ps:List Int}(hp:H2 p=none):gW H (upd H2 p (.lst (ps.map .int))) (as++[p]) (iN++[ps]):=by
 have np:p∉as:=fun ha=>by
  obtain⟨o,e⟩:=h.ob ha;rw[hp]at e;cases e
 refine⟨?_,fun a ha=>?_,by rw[length_append,length_append,h.len];rfl,fun j a qs e1 e2=>?_⟩
 ·rw[List.nodup_append];exact⟨h.nd,by simp,fun a ha b hb e=>np (by rw[mem_singleton.mp hb]at e;rw[<- e];exact ha)⟩
 ·rcases mem_append.mp ha with ha|ha
  ·exact h.new a ha
  ·rw[mem_singleton.mp ha];exact iQ s hp
 ·by_cases hj:j<as.length
  ·rw[getElem?_append_left hj]at e1;rw[getElem?_append_left (by rw[<- h.len];exact hj)]at e2;have z:=h.at' j a qs e1 e2;rw[bc (b9 z hp)];exact z
  ·have hl:=cT e1;rw[length_append,length_singleton]at hl;have ej:j=as.length:=by omega
   subst ej;rw[getElem?_append_right (le_refl _),sub_self]at e1;rw[h.len,getElem?_append_right (le_refl _),sub_self]at e2;cases e1;cases e2;exact cW
def sM (gt:Dat->Option cH) (fe:ar->Option (List Dat)) (jg:ar):List Dat->Option (List (List Int))
 |[]=>some []
 |d::r=>(gt d).bind fun as=>(fe (i9 jg as)).bind fun ds=>(rZ ds).bind fun ps=>(sM gt fe jg r).map (ps::·)
def sD (aN:List (Option Nat)) (gt:Dat->Option cH) (fe:ar->Option (List Dat)) (fi:ar->Option (List Dat)):ar->Option (List (List Int)):=fun ρ=>(fi ρ).bind fun ds=>if ds.length<sizeLine then sM gt fe (de aN ρ) ds else none
variable {K:Fg} {gt:Dat->Option cH} {fe fi:ar->Option (List Dat)}
theorem Jg{aN:List (Option Nat)}(ht:jA gt aN):∀σ H Q,mv K (sD aN gt fe fi) σ H Q->pN aN (HI K fi) (ig K gt) (jL K gN) (kP K fe) σ H Q:=by
 rintro σ H Q ⟨Av,ρ,out,hA,hE,hf,q⟩;obtain⟨ds,e1,hf⟩:=bind_some hf;split at hf
 ·rename_i hz;refine⟨Av,ρ,ds,hA,hE,e1,fun J xs jk H1 s1 r ov=>?_⟩;refine⟨fun i m ys H2=>m=ds.length-i/\i<=ds.length/\aL H1 H2/\∃as o1 o2,ys=as.map .ref/\gW H H2 as o1/\o1.length<=i/\sM gt fe (de aN ρ) (ds.drop i)=some o2/\out=o1++o2,
   ⟨_,rfl,zero_le _,aL.refl _,[],[],out,rfl,.nil,le_refl _,by rw[drop_zero];exact hf,rfl⟩,?_⟩
  rintro i m ys H2 ⟨rfl,hi,s2,as,o1,o2,rfl,ro,hl,hc,rfl⟩;refine⟨by rw[length_map,ro.len];omega,?_⟩;have rx:=r.same s2;cases fH:ds[i]? with
  |none=>
   have hle:ds.length<=i:=List.getElem?_eq_none_iff.mp fH;rw[drop_eq_nil_of_le hle]at hc;cases hc;refine .inl ⟨(ov i H2 _ rx).1 hle,fun D hD=>q H2 D as (s1.trans s2) (by rw[append_nil];exact ro) hD⟩
  |some di=>
   have bV:=cT fH;rw[drop_cons fH]at hc;obtain⟨IV,a1,hc⟩:=bind_some (show(gt di).bind _=some o2 from hc);obtain⟨dv,a3,hc⟩:=bind_some hc;obtain⟨ps,a5,hc⟩:=bind_some hc;obtain⟨o3,a4,hc⟩:=aU hc;subst hc;obtain⟨go,yl⟩:=(ov i H2 _ rx).2 di fH;refine .inr ⟨go,fun y H' hy=>?_⟩;obtain⟨sH,ry⟩:=yl y H' (hA.same (s1.trans s2)) hy;refine⟨Av,di,IV,ry,a1,fun ws hw=>?_⟩;have cs:∀p∈IV,(bY aN σ)[p.1]?=some none:=fun p hp=>by
    unfold bY;rw[getElem?_map,ht di IV a1 p hp];rfl
   have A2:=hA.same (s1.trans (s2.trans sH));have E2:dH K H' Av (m6 (bY aN σ) ws) (i9 (de aN ρ) IV):=dH.gz hw (by unfold bY de;rw[length_map,length_map]) ((hE.same (s1.trans (s2.trans sH))).aN aN);refine⟨dJ.gz hw cs (dJ.refl _),Av,_,true,A2,E2,rfl,fun H3 s3=>?_⟩;show(if true=true then _ else _);rw[if_pos rfl];refine⟨Av,_,dv,A2.same s3,E2.same s3,a3,fun H4 p Sm s4 hp rv=>?_⟩;rw[qR a5]at rv;have ex:=rv.LD;subst ex;have s5:aL H2 H4:=sH.trans (s3.trans s4);refine⟨ds.length-(i+1),by omega,rfl,by omega,(s2.trans s5).trans (bP hp _),as++[p],o1++[ps],o3,by rw[map_append];rfl,(ro.grow s5).snoc ((s1.trans s2).trans s5) hp,by rw[length_append,length_singleton];omega,a4,by rw[append_assoc];rfl⟩
 ·cases hf
variable {iter tg:Expr} {pos:Pos} {X:Cx}
theorem FW{elt:Expr}{ifs:List Expr}{scope:Scope}{cl:List (Str×Addr)}{N':List Str}{aN:List (Option Nat)}(hc:X.calm=true)(B:o8 X scope cl N' aN)(hi:Qs X tg iter fi)(hg:∀C aI ag ex,PG (cL X scope cl N' C aI ag ex) tg (ig X.K gt))(ht:∀C aI ag ex,AJ (cL X scope cl N' C aI ag ex) ifs (jL X.K gN))(he:∀C aI ag ex,PE (cL X scope cl N' C aI ag ex) elt (kP X.K fe))(hT:jA gt aN)(hs:∀x,foldedSetIterable iter X.env x=pure x:=by intro _;rfl):PE X (.ListComp elt [⟨tg,iter,ifs,0⟩] scope pos) (mv X.K (sD aN gt fe fi)):=bh (tE hc B hi hg ht he hs) (Jg hT)
variable {ag:Hp}
theorem GA.re{H₀' H':Hp}{Av Av':dA}{pn:Option Addr}{aC:Hid}{σ:L2.St}{ad:Nat->Addr}(G:GA K ag Av pn aC H σ Γ ad)(s:aL H₀' H')(t:ff H₀' Av')(k:jB H (aS Av Γ ad) H' (aS Av' Γ ad))(g:aL H H')(n:∀(i:Nat) (z:Slot),Γ[i]?=some (some z)->z.mt=true->H₀' (ad i)=none):GA K H₀' Av' pn aC H' σ Γ ad:=by
 refine⟨s,t,G.len,fun i d h=>?_,fun i ds h=>?_,G.inj,fun p hp=>(G.aC p hp).mono k,G.pin,fun i O ds h=>?_⟩
 ·obtain⟨v,a,r⟩:=G.a9 i d h;exact⟨v,a,r.mono k⟩
 ·obtain⟨xs,a,b,r,c⟩:=G.own i ds h;exact⟨xs,a,g _ _ b,r.mono k,n i _ h rfl⟩
 ·obtain⟨xs,a,b,r,c⟩:=G.obj i O ds h;exact⟨xs,a,g _ _ b,r.mono k,n i _ h rfl⟩
theorem GA.take{H₀':Hp}{Av Av':dA}{pn:Option Addr}{aC:Hid}{σ:L2.St}{ad:Nat->Addr}(G:GA K ag Av pn aC H σ Γ ad){ns:List Int}(i:Nat)(kg:i≠0)(hp:ag p=some (.lst (ns.map .int)))(ha:Av p)(dI:H₀' p=none)(s:aL H₀' ag)(t:ff H₀' Av')(k:∀b,Av' b->Av b):
  GA K H₀' Av' pn aC H (σ.set i (some (.ref p))) (Γ.set i (some (.own (ns.map .int)))) (fun j=>if j=i then p else ad j):=by
 have ne:∀(j:Nat) (z:Slot),Γ[j]?=some (some z)->z.mt=true->ad j≠p:=fun j z h m e=>by
  have:=(G.mt h m).2;rw[e,hp]at this;cases this
 have kp:jB H (aS Av Γ ad) H (aS Av' (Γ.set i (some (.own (ns.map .int)))) (fun j=>if j=i then p else ad j)):=by
  intro b o h n;refine⟨h,?_⟩;rintro(z|⟨j,es,e,m,r⟩)
  ·exact n (.inl (k b z))
  ·dsimp only at r;rcases aK e with⟨ej,q⟩|⟨ej,q⟩
   ·rw[if_pos ej]at r;exact n (.inl (r▸ha))
   ·rw[if_neg ej]at r;exact n (.inr ⟨j,es,q,m,r⟩)
 refine⟨s.trans G.same,t,by rw[length_set,length_set];exact G.len,fun j d h=>?_,fun j ds h=>?_,fun j l z1 z2 h1 h2 m1 m2 e=>?_,fun q hq=>(G.aC q hq).mono kp,fun a ds e h=>?_,fun j O ds h=>?_⟩
 ·rcases aK h with⟨ej,q⟩|⟨ej,q⟩
  ·cases q
  ·obtain⟨v,a,r⟩:=G.a9 j d q;exact⟨v,by rw[getElem?_set_ne (Ne.symm ej)];exact a,r.mono kp⟩
 ·have bV:=cT h;rw[length_set]at bV;rcases aK h with⟨ej,q⟩|⟨ej,q⟩
  ·subst ej;cases q;refine⟨ns.map .int,?_,?_,ax.ints ns,?_⟩
   ·rw[if_pos rfl];exact getElem?_set_self (by rw[G.len];exact bV)
   ·rw[if_pos rfl];exact G.same _ _ hp
   ·rw[if_pos rfl];exact dI
  ·obtain⟨xs,a,b,r,c⟩:=G.own j ds q;rw[if_neg ej];exact⟨xs,by rw[getElem?_set_ne (Ne.symm ej)];exact a,b,r.mono kp,iQ s c⟩
 ·rcases aK h1 with⟨e1,q1⟩|⟨e1,q1⟩<;>rcases aK h2 with⟨e2,q2⟩|⟨e2,q2⟩
  ·rw[e1,e2]
  ·rw[if_pos e1,if_neg e2]at e;exact absurd e.symm (ne l z2 q2 m2)
  ·rw[if_neg e1,if_pos e2]at e;exact absurd e (ne j z1 q1 m1)
  ·rw[if_neg e1,if_neg e2]at e;exact G.inj j l z1 z2 q1 q2 m1 m2 e
 ·rw[getElem?_set_ne kg]at h;rw[if_neg (Ne.symm kg)];exact G.pin a ds e h
 ·rcases aK h with⟨ej,q⟩|⟨ej,q⟩
  ·cases q
  ·obtain⟨xs,a,b,r,c⟩:=G.obj j O ds q;rw[if_neg ej];exact⟨xs,by rw[getElem?_set_ne (Ne.symm ej)];exact a,b,r.mono kp,iQ s c⟩
variable {gb:ay->Option Fl}
def tO (k:Nat) (gb:ay->Option Fl):List (List Int)->ay->Option Fl
 |[],Γ=>some (.nx Γ)
 |ns::r,Γ=>(gb (Γ.set k (some (.own (ns.map .int))))).bind fun fl=>match fl with
  | .nx aj=>tO k gb r aj
  | .ct aj=>tO k gb r aj
  | .bk aj=>some (.nx aj)
  | .rt v=>some (.rt v)
  | .rm v aj=>some (.rm v aj)
variable {fp:ar->Option (List (List Int))}
def vz (k:Nat) (gb:ay->Option Fl) (fp:ar->Option (List (List Int))):ay->Option Fl:=fun Γ=>(fp (bD Γ)).bind fun iN=>tO k gb iN Γ
def qq (ag H2:Hp) (p:Addr) (as:List Addr) (i:Nat):Hp:=open Classical in fun b=>if b=p then some (.lst (as.map .ref))else if b∈as.drop i then H2 b else ag b
def AF (Av:dA) (as:List Addr) (i:Nat):dA:=fun b=>Av b\/b∈as.drop i
variable {i:Nat}
theorem BA:qq ag H2 p as i p=some (.lst (as.map .ref)):=if_pos rfl
theorem pZ(h:a≠p)(ha:a∈as.drop i):qq ag H2 p as i a=H2 a:=(if_neg h).trans (if_pos ha)
theorem si(h:a≠p)(ha:a∉as.drop i):qq ag H2 p as i a=ag a:=(if_neg h).trans (if_neg ha)
variable {x:Str}
theorem FO{px:Pos}{body:List Stmt}(k:Nat)(hN:X.N.Nodup)(hp:PassesOwn (model X.prog X.w) X.A X.env X.xe)(hc:X.calm=true)(hi:PE X iter (mv X.K fp))(hb:Hl X body gb)(Aa:k≠0:=by decide)(hk:X.N[k]?=some x:=by rfl)(hx:Loc X.env.scope x:=by first|exact .inl rfl|exact .inr rfl)(hf:X.fn x=true\/X.env.scope.names.lookup x=some .local:=by first|exact .inl rfl|exact .inr rfl|assumption)(hs:∀x,foldedSetIterable iter X.env x=pure x:=by intro _;rfl):UM X (.For (.Name x px) iter body [] pos) (vz k gb fp):=cv (rP hp hc (oJ hi) (zO hN hk hx hf) hb hs) fun D σ H aQ=>by
 obtain⟨ag,Av,pn,aC,Γ,fl,⟨ad,G⟩,hf,q⟩:=aQ;obtain⟨iN,e1,hf⟩:=bind_some hf;refine⟨aS Av Γ ad,bD Γ,iN,G.gU,G.j6,e1,fun H2 p as s2 ps fo=>⟨p,rfl,.inl ⟨⟨as.map .ref,.inl (.inl cW)⟩,?_⟩⟩⟩;have zY:∀{a o},H2 a=some o->a≠p:=fun h=>b9 h fo;have Pl:∀{a},a∈as->a≠p:=fun ha=>by obtain⟨o,e⟩:=ps.ob ha;exact zY e
 have s0:aL ag H2:=G.same.trans s2;have sat:∀i,aL ag (qq ag H2 p as i):=fun i b o h=>by
  have h2:=s0 b o h;by_cases hd:b∈as.drop i
  ·rw[pZ (zY h2) hd];exact h2
  ·rw[si (zY h2) hd];exact h
 have gi:∀i,ff (qq ag H2 p as i) (AF Av as i):=fun i b hb=>by
  rcases hb with hb|hb
  ·obtain⟨o,e⟩:=G.gi b hb;exact⟨o,sat i b o e⟩
  ·obtain⟨o,e⟩:=ps.ob (List.mem_of_mem_drop hb);exact⟨o,by rw[pZ (zY e) hb];exact e⟩
 have G0:GA X.K (qq ag H2 p as 0) (AF Av as 0) pn aC (upd H2 p (.lst (as.map .ref))) σ Γ ad:=by
  refine G.re (fun b o h=>?_) (gi 0) (fun b o h n=>⟨?_,?_⟩) (s2.trans (bP fo _)) (fun i z h m=>?_)
  ·by_cases e:b=p
   ·subst e;rw[BA]at h;rw[cW];exact h
   ·rw[bc e];by_cases hd:b∈as.drop 0
    ·rw[pZ e hd]at h;exact h
    ·rw[si e hd]at h;exact s0 b o h
  ·rw[bc (zY (s2 b o h))];exact s2 b o h
  ·rintro((z|z)|z)
   ·exact n (.inl z)
   ·rw[drop_zero]at z;have:=ps.new b z;rw[h]at this;cases this
   ·exact n (.inr z)
  ·obtain⟨⟨o,e⟩,e0⟩:=G.mt h m;have hd:ad i∉as.drop 0:=fun z=>by
    rw[drop_zero]at z;have:=ps.new _ z;rw[e]at this;cases this
   rw[si (zY (s2 _ _ e)) hd];exact e0
 have back:∀{i H σ Γ ad},GA X.K (qq ag H2 p as i) (AF Av as i) pn aC H σ Γ ad->GA X.K ag Av pn aC H σ Γ ad:=fun{i H σ Γ ad} G'=>G'.re ((sat i).trans G'.same) G.gi (fun b o h n=>⟨h,fun z=>n (z.elim (fun z=>.inl (.inl z)) .inr)⟩) (aL.refl _) (fun j z h m=>iQ (sat i) (G'.mt h m).2);refine⟨fun i m σ H=>m=as.length-i/\i<=as.length/\∃Γ,jb X.K (qq ag H2 p as i) (AF Av as i) pn aC H σ Γ/\tO k gb (iN.drop i) Γ=some fl,⟨_,rfl,zero_le _,Γ,⟨ad,G0⟩,by rw[drop_zero];exact hf⟩,?_⟩;rintro i m σ H ⟨rfl,hi,Γ,⟨ad,G'⟩,hf⟩;have dm:H p=some (.lst (as.map .ref)):=G'.same _ _ BA;have sq:eC X.K H p (as.map .ref):=.inl (.inl dm);cases xI:as[i]? with
 |none=>
  have hle:as.length<=i:=List.getElem?_eq_none_iff.mp xI;rw[drop_eq_nil_of_le (by rw[<- ps.len];exact hle)]at hf;cases hf;exact .inl ⟨⟨_,sq,by rw[length_map];exact hle⟩,q σ H ⟨ad,back G'⟩⟩
 |some a=>
  have bV:=cT xI;have MI:a∈as.drop i:=by rw[drop_cons xI];exact mem_cons_self
  obtain⟨ns,DW⟩:∃ns,iN[i]?=some ns:=⟨_,getElem?_eq_getElem (by rw[<- ps.len];exact bV)⟩;rw[drop_cons DW]at hf;obtain⟨lO,e2,hf⟩:=bind_some (show(gb (Γ.set k (some (.own (ns.map .int))))).bind _=some fl from hf);have qm:(as.map V.ref)[i]?=some (.ref a):=by rw[getElem?_map,xI];rfl
  refine .inr ⟨⟨_,_,sq,qm⟩,fun bz H'=>∃aj,jb X.K (qq ag H2 p as (i+1)) (AF Av as (i+1)) pn aC H' bz aj/\tO k gb (iN.drop (i+1)) aj=some fl,fun bz H' ⟨aj,G',h'⟩=>⟨as.length-(i+1),by omega,rfl,by omega,aj,G',h'⟩,fun y H' hy=>?_⟩;obtain⟨eH,ey⟩:=hy;subst eH;have Qd:=ey _ sq;rw[qm]at Qd;cases Qd;have SN:a∉as.drop (i+1):=fun z=>by
   have h1:(as.drop i).Nodup:=ps.nd.sublist (List.drop_sublist _ _);rw[drop_cons xI]at h1;exact(nodup_cons.mp h1).1 z
  have sub:∀b,b∈as.drop (i+1)->b∈as.drop i:=fun b hb=>by rw[drop_cons xI];exact mem_cons_of_mem _ hb
  have MC:a∈as:=List.mem_of_mem_drop MI;have G2:=G'.take (Av':=AF Av as (i+1)) (H₀':=qq ag H2 p as (i+1)) k Aa (p:=a) (ns:=ns) (by rw[pZ (Pl MC) MI];exact ps.at' i a ns xI DW) (.inr MI) (by rw[si (Pl MC) SN];exact iQ (G.same) (ps.new a MC)) (fun b o h=>by
   by_cases e:b=p
   ·subst e;rw[BA]at h ⊢;exact h
   ·by_cases hd:b∈as.drop (i+1)
    ·rw[pZ e hd]at h;rw[pZ e (sub b hd)];exact h
    ·rw[si e hd]at h;exact sat i b o h) (gi (i+1)) (fun b hb=>hb.elim .inl fun z=>.inr (sub b z))
  refine⟨_,_,pn,aC,_,lO,⟨_,G2⟩,e2,?_⟩;cases lO with
  |nx aj=>exact fun dN H2 G2=>⟨aj,G2,hf⟩
  |ct aj=>exact fun dN H2 G2=>⟨aj,G2,hf⟩
  |bk aj=>cases hf;exact fun dN H2 ⟨kh,G2⟩=>q dN H2 ⟨kh,back G2⟩
  |rt v=>cases hf;exact fun v2 H3 s3 r2=>q v2 H3 ((sat (i+1)).trans s3) (r2.weak fun _ z=>.inl z)
  |rm v aj=>cases hf;exact fun dN v2 H2 kh G2 r2=>q dN v2 H2 kh (back G2) (r2.weak fun _ z=>z.elim (fun z=>.inl (.inl z)) .inr)
def SF (K:Fg) (n:Nat) (F:List Dat->Option (List (List Int))):Sp:=fun vs H Q _=>∃Av ds out,ff H Av/\ax K H Av vs ds/\ds.length=n/\F ds=some out/\∀(H2:Hp) (p:Addr) (as:List Addr),aL H H2->gW H H2 as out->H2 p=none->Q (.ref p) (upd H2 p (.lst (as.map .ref)))
structure sY (P:Program) (w:World) (K:Fg) (mg:Str->Option Value) (base:Heap) (k:Nat) (x:Str) (ps:List Str) (n:Nat) (F:List Dat->Option (List (List Int))):Prop where
 ex:∃(f:Addr) (fd:FuncData),fQ P w K mg base gj k f fd ps (SF K n F)/\mg x=some (.ref f)/\keepIn K (.ref f)=true/\Binds K fd ps []
variable {P:Program} {w:World} {mg:Str->Option Value} {base:Heap} {j k n:Nat} {ps:List Str} {F:List Dat->Option (List (List Int))}
theorem sY.up(D:sY P w K mg base j x ps n F)(h:j<=k):sY P w K mg base k x ps n F:=by
 obtain⟨f,fd,h1,h2⟩:=D.ex;exact⟨f,fd,h1.mono h,h2⟩
def BO (n:Nat) (F:List Dat->Option (List (List Int))) (fs:ar->Option (List Dat)):ar->Option (List (List Int)):=fun ρ=>(fs ρ).bind fun ds=>if ds.length=n then F ds else none
variable {e:Expr}
theorem JJ{es:List Expr}{p:Pos}{fs:ar->Option (List Dat)}(D:sY X.prog X.w X.K X.mg X.base k x ps n F)(hr:bS k X.A)(pa:J2 X (e::es) fs)(hg:Gl X x:=by rfl)(iq:(x==("__debug__" : Str))=false:=by decide)(he:starEach (e::es) X.env=(false,eval e X.env)::starEach es X.env:=by rfl)(dm:(backTo pos (starEach es X.env)).any (·.1)=false:=by rfl):PE X (.Call (.Name x p) (e::es) [] pos) (mv X.K (BO n F fs)):=by
 obtain⟨f,fd,h1,h2,h3,h4⟩:=D.ex;refine bh (pU h1 hr hg h2 h3 h4 .nil vC pa iq he dm) fun σ H Q ⟨Av,ρ,out,hA,hE,hf,q⟩=>?_;obtain⟨ds,e1,hf⟩:=bind_some hf;split at hf
 ·rename_i hl;exact⟨Av,ρ,ds,hA,hE,e1,fun xs H1 s1 r1=>⟨Av,ds,out,hA.same s1,by rw[append_nil];exact r1,hl,hf,fun H2 p as s2 r2 hp=>q H2 p as (s1.trans s2) (r2.old s1) hp⟩⟩
 ·cases hf
variable {ft:ar->Option Bool}
theorem N1{qual:Str}{st:Stmt}{fa:Addr}{fd:FuncData}{N:List Str}{f1 f2:ar->Option (List (List Int))}(U:lT K x qual st fa fd)(hm:mg x=some (.ref fa))(hB:Binds K fd ps [])(S:fD N ps (aP st))(hn:ps.length=n){c e1 e2:Expr}{p1 p2 p3:Pos}(hb:cM st=[.If c [.Return (some e1) p1] [] p2,.Return (some e2) p3])(hbody:∀(ba:Value) (A:Around) (outer:List Env) (s:Shared) (H:Hp) (E:XK),bS k (A.deeper (envOfC qual (aP st) s.heap.objs.size fa ba))->Qu (gw gj P w K mg base N qual (aP st) fa ba A outer s H E).jP c ft/\PE (gw gj P w K mg base N qual (aP st) fa ba A outer s H E).jP e1 (mv K f1)/\PE (gw gj P w K mg base N qual (aP st) fa ba A outer s H E).jP e2 (mv K f2))(hF:∀ds out,ds.length=n->F ds=some out->∃b,ft (bH (bW N ds))=some b/\(if b=true then f1 (bH (bW N ds))else f2 (bH (bW N ds)))=some out):sY P w K mg base (k+1) x ps n F:=by
 have dm:ps.length<=N.length:=by have:=congrArg List.length S.pre;rw[length_take]at this;omega
 refine⟨fa,fd,U.ok S (fun vs H Q E h=>?_) (fun ba A outer s H vs Q E hr h=>?_),hm,U.kp,hB⟩
 ·obtain⟨Av,ds,d,_,r,hl,_⟩:=h;rw[r.length,hl,hn]
 ·obtain⟨Av,ds,out,hA,r,hl,hd,q⟩:=h;obtain⟨ad,G⟩:=qU (K:=K) (N:=N) hA r (by omega);obtain⟨b,uO,IC⟩:=hF ds out hl hd;obtain⟨h1,h2,h3⟩:=hbody ba A outer s H E hr;rw[hb];refine⟨_,wC (Bc h1 (tB (oI h2)) zL) (tB (oI h3)),Av,bH (bW N ds),b,hA,G.mh,uO,fun H1 s1=>?_⟩;cases b with
  |true=>
   rw[if_pos rfl]at IC ⊢;exact⟨Av,bH (bW N ds),out,hA.same s1,G.mh.same s1,IC,fun H2 p as s2 r2 hp=>q H2 p as (s1.trans s2) (r2.old s1) hp⟩
  |false=>
   rw[if_neg Bool.false_ne_true]at IC ⊢;exact⟨Av,bH (bW N ds),out,hA.same s1,G.mh.same s1,IC,fun H2 p as s2 r2 hp=>q H2 p as (s1.trans s2) (r2.old s1) hp⟩
def BN (f:ar->Option (List Dat)):ar->Option (List (List Int)):=fun ρ=>(f ρ).bind fun ds=>(rZ ds).map fun ns=>[ns]
theorem JI{f:ar->Option (List Dat)}(h:PE X e (kP X.K f))(hs:starEach [e] X.env=[(false,eval e X.env)]:=by rfl):PE X (.List [e] pos) (mv X.K (BN f)):=bh (wI (iP h mI hs)) fun σ H Q aQ=>by
 obtain⟨Av,ρ,out,hA,hE,hf,q⟩:=aQ;obtain⟨ds,e1,hf⟩:=bind_some hf;obtain⟨ns,e2,hf⟩:=aU hf;subst hf;refine⟨Av,ρ,ds,hA,hE,e1,fun H1 p xs s1 hp r1=>⟨Nat.le_of_lt (iK (by show 1<=1000;decide)),fun p2 fo=>?_⟩⟩;rw[qR e2]at r1;have ex:=r1.LD;subst ex;exact q _ p2 [p] (s1.trans (bP hp _)) (gW.nil.snoc s1 hp) fo
theorem FJ{f:ar->Option (List Dat)}(h:QE X e (kP X.K f))(hs:starEach [e] X.env=[(false,eval e X.env)]:=by rfl):QE X (.List [e] pos) (mv X.K (BN f)):=⟨JI h.o hs⟩
theorem Dc{elt:Expr}{ifs:List Expr}{scope:Scope}{cl:List (Str×Addr)}{N':List Str}{aN:List (Option Nat)}(hc:X.calm=true)(B:o8 X scope cl N' aN)(hi:vg X tg iter fi)(hg:∀C aI ag ex,QG (cL X scope cl N' C aI ag ex) tg (ig X.K gt))(ht:∀C aI ag ex,yv (cL X scope cl N' C aI ag ex) ifs (jL X.K gN))(he:∀C aI ag ex,QE (cL X scope cl N' C aI ag ex) elt (kP X.K fe))(hT:jA gt aN)(hs:∀x,foldedSetIterable iter X.env x=pure x:=by intro _;rfl):QE X (.ListComp elt [⟨tg,iter,ifs,0⟩] scope pos) (mv X.K (sD aN gt fe fi)):=⟨FW hc B hi.o (fun C aI ag ex=>(hg C aI ag ex).o) (fun C aI ag ex=>(ht C aI ag ex).o) (fun C aI ag ex=>(he C aI ag ex).o) hT hs⟩
theorem FK{es:List Expr}{p:Pos}{fs:ar->Option (List Dat)}(D:sY X.prog X.w X.K X.mg X.base k x ps n F)(hr:bS k X.A)(pa:jl X (e::es) fs)(hg:Gl X x:=by rfl)(iq:(x==("__debug__" : Str))=false:=by decide)(he:starEach (e::es) X.env=(false,eval e X.env)::starEach es X.env:=by rfl)(dm:(backTo pos (starEach es X.env)).any (·.1)=false:=by rfl):QE X (.Call (.Name x p) (e::es) [] pos) (mv X.K (BO n F fs)):=⟨JJ D hr pa.o hg iq he dm⟩
theorem CV{px:Pos}{body:List Stmt}(k:Nat)(hN:X.N.Nodup)(hp:PassesOwn (model X.prog X.w) X.A X.env X.xe)(hc:X.calm=true)(hi:QE X iter (mv X.K fp))(hb:gL X body gb)(Aa:k≠0:=by decide)(hk:X.N[k]?=some x:=by rfl)(hx:Loc X.env.scope x:=by first|exact .inl rfl|exact .inr rfl)(hf:X.fn x=true\/X.env.scope.names.lookup x=some .local:=by first|exact .inl rfl|exact .inr rfl|assumption)(hs:∀x,foldedSetIterable iter X.env x=pure x:=by intro _;rfl):gc X (.For (.Name x px) iter body [] pos) (vz k gb fp):=⟨FO k hN hp hc hi.o hb.o Aa hk hx hf hs⟩
def FC (N:List Str) (ft:ar->Option Bool) (f1 f2:ar->Option (List (List Int))) (ds:List Dat):Option (List (List Int)):=(ft (bH (bW N ds))).bind fun b=>if b=true then f1 (bH (bW N ds))else f2 (bH (bW N ds))
variable {st:Stmt}
theorem Od(N:List Str)(U:FnAt K mg x st ps){f1 f2:ar->Option (List (List Int))}{c e1 e2:Expr}{p1 p2 p3:Pos}(hb:cM st=[.If c [.Return (some e1) p1] [] p2,.Return (some e2) p3])(h1:N.Nodup->∀(fa:Addr) (ba:Value) (A:Around) (outer:List Env) (s:Shared) (H:Hp) (E:XK),bS k (A.deeper (envOfC x (aP st) s.heap.objs.size fa ba))->gG (gw gj P w K mg base N x (aP st) fa ba A outer s H E).jP c ft)(h2:N.Nodup->∀(fa:Addr) (ba:Value) (A:Around) (outer:List Env) (s:Shared) (H:Hp) (E:XK),bS k (A.deeper (envOfC x (aP st) s.heap.objs.size fa ba))->QE (gw gj P w K mg base N x (aP st) fa ba A outer s H E).jP e1 (mv K f1))(h3:N.Nodup->∀(fa:Addr) (ba:Value) (A:Around) (outer:List Env) (s:Shared) (H:Hp) (E:XK),bS k (A.deeper (envOfC x (aP st) s.heap.objs.size fa ba))->QE (gw gj P w K mg base N x (aP st) fa ba A outer s H E).jP e2 (mv K f2))(S:fD N ps (aP st):=by exact⟨rfl,rfl,rfl,by decide +kernel,rfl,by decide +kernel,by decide +kernel⟩)(hn:ps.length=n:=by rfl):sY P w K mg base (k+1) x ps n (FC N ft f1 f2):=by
 obtain⟨f,fd,U,hm,hB⟩:=U.ex;exact N1 U hm hB S hn hb (fun ba A outer s H E hr=>⟨(h1 S.nd f ba A outer s H E hr).o,(h2 S.nd f ba A outer s H E hr).o,(h3 S.nd f ba A outer s H E hr).o⟩) fun ds out _ h=>bind_some h
open PySem PySem.Spec PyProof.Rows L2
open PySem.W (Dat kqdOk kqdP kqdPs kqd_lay kqd_eqv)
variable {b a:Expr}
mutual
theorem aM.iX{pins:List (Addr×Obj)}{σ:L2.St}{H:Hp}{s:Shared}{Av:dA}(I:Inv X pins σ H s):∀{v:V} {d:Dat},aM X.K H Av v d->∀u,RelV v u->∃as,Reads s.heap u (kqdP d) as
 |_,_,.bI,u,r=>by cases(show u=Value.none from r);rw[kqdP];exact⟨_,.none⟩
 |_,_,.bl b,u,r=>by cases(show u=Value.bool b from r);rw[kqdP];exact⟨_,.bool b⟩
 |_,_,.int i,u,r=>by obtain⟨t,q⟩:=(show ∃t,u=Value.int i t from r);subst q;rw[kqdP];exact⟨_,.int i t⟩
 |_,_,.str x,u,r=>by obtain⟨t,q⟩:=(show ∃t,u=Value.str x t from r);subst q;rw[kqdP];exact⟨_,.str x t⟩
 |_,_,.tup (a:=a) hq rs,u,r=>by
  cases(show u=Value.ref a from r);obtain⟨aq,rv,⟨o,h1,h2,m,h3⟩,_⟩:=I.tuple hq.sq;obtain⟨as,q⟩:=ax.iX I rs aq rv;rw[kqdP];exact⟨as,.tuple h1 h2 h3 (by simpa using q)⟩
 |_,_,.lst (a:=a) hq rs,u,r=>by
  cases(show u=Value.ref a from r);obtain⟨aq,rv,⟨o,m,h1,h2,_,h3⟩,_⟩:=I.list hq.sq;obtain⟨as,q⟩:=ax.iX I rs aq rv;rw[kqdP];exact⟨_,.list h1 h2 h3 (by simpa using q)⟩
theorem ax.iX {pins:List (Addr×Obj)} {σ:L2.St} {H:Hp} {s:Shared} {Av:dA} (I:Inv X pins σ H s):∀{vs:List V} {ds:List Dat},ax X.K H Av vs ds->∀us,Vals vs us->∃as,ReadsAll s.heap us (kqdPs ds) as
 |_,_,.nil,us,r=>by cases r;rw[kqdPs];exact⟨_,.nil⟩
 |_,_,.cons h t,us,r=>by
  cases r with
  |cons r1 r2=>
   obtain⟨as,q⟩:=aM.iX I h _ r1;obtain⟨bs,p⟩:=ax.iX I t _ r2;rw[kqdPs];exact⟨_,.cons q p⟩
end
def qv (x y:Dat):Option Bool:=if SeqAt.shaped (kqdP x)=true/\SeqAt.shaped (kqdP y)=true then some (PyData.eqv (kqdP x) (kqdP y))else none
def BP (x y:Dat):Option Dat:=(qv x y).map .bool
def tI (x y:Dat):Option Dat:=(qv x y).map fun k=>.bool (!k)
theorem Am{x y:Dat}{k:Bool}(h:qv x y=some k):SeqAt.shaped (kqdP x)=true/\SeqAt.shaped (kqdP y)=true/\k=PyData.eqv (kqdP x) (kqdP y):=by
 unfold qv at h;split at h
 ·rename_i c;cases h;exact⟨c.1,c.2,rfl⟩
 ·cases h
theorem Ka{x y:Dat}(h1:kqdOk 9 x=true)(h2:kqdOk 9 y=true):qv x y=some (k7 x y):=by
 unfold qv;rw[if_pos ⟨iL x h1,iL y h2⟩,q4 x y h1 h2]
def Lv (K:Fg):R2:=fun x y H Q=>∃Av d e k,aM K H Av x d/\aM K H Av y e/\qv d e=some k/\Q (.bl k) H
def Lp (K:Fg):R2:=fun x y H Q=>∃Av d e k,aM K H Av x d/\aM K H Av y e/\qv d e=some k/\Q (.bl (!k)) H
theorem LS(hu:X.A.units+64<cLine):cZ X (compareOp .Eq) (Lv X.K):=by
 intro pins s σ H x y v u Q I rx ry h;obtain⟨Av,d,e,k,r1,r2,hk,q⟩:=h;obtain⟨k1,k2,rfl⟩:=Am hk;obtain⟨as,ra⟩:=r1.iX I v rx;obtain⟨bs,rb⟩:=r2.iX I u ry;exact eq_dataH ra rb k1 k2 hu ⟨.bl _,H,I,rfl,q⟩
theorem LR(hu:X.A.units+64<cLine):cZ X (compareOp .NotEq) (Lp X.K):=by
 intro pins s σ H x y v u Q I rx ry h;obtain⟨Av,d,e,k,r1,r2,hk,q⟩:=h;obtain⟨k1,k2,rfl⟩:=Am hk;obtain⟨as,ra⟩:=r1.iX I v rx;obtain⟨bs,rb⟩:=r2.iX I u ry;exact ne_dataH ra rb k1 k2 hu ⟨.bl _,H,I,rfl,q⟩
theorem JT:jm K (Lv K) BP:=by
 intro H Av x y dx dy d Q hA rx ry h q;obtain⟨k,e1,rfl⟩:=aU h;exact⟨Av,dx,dy,k,rx,ry,e1,q _ H (aL.refl H) (.bl _)⟩
theorem JS:jm K (Lp K) tI:=by
 intro H Av x y dx dy d Q hA rx ry h q;obtain⟨k,e1,rfl⟩:=aU h;exact⟨Av,dx,dy,k,rx,ry,e1,q _ H (aL.refl H) (.bl _)⟩
variable {fb fa:ar->Option Dat}
theorem FI(hr:bS k X.A)(ha:QF X a fa)(hb:QF X b fb):gG X (.Compare a [.Eq] [b] pos) (c9 (f2 BP fa fb)):=⟨fV (LS hr.units) JT ha.o hb.o (dR _)⟩
theorem nh(hr:bS k X.A)(ha:QF X a fa)(hb:QF X b fb):gG X (.Compare a [.NotEq] [b] pos) (c9 (f2 tI fa fb)):=⟨fV (LR hr.units) JS ha.o hb.o (dR _)⟩
end
end L3
namespace FM
noncomputable section
abbrev En:=Option (Bool×Rat)
def ee (l:En) (s:Bool) (v:Rat):En:=match l with
 |none=>some (s,v)
 |some (s0,v0)=>if v0<v\/(v0=v/\s=true)then some (s,v)else some (s0,v0)
def cY (g:En) (s:Bool) (v:Rat):En:=match g with
 |none=>some (s,v)
 |some (s0,v0)=>if v<v0\/(v0=v/\s=true)then some (s,v)else some (s0,v0)
variable {v t:Rat}
theorem dB{s:Bool}:dO (some (s,v)) t↔t<=v/\(s=true->t<v):=⟨fun h=>h s v rfl,fun h a b e=>by cases e;exact h⟩
theorem dF{s:Bool}:dS (some (s,v)) t↔v<=t/\(s=true->v<t):=⟨fun h=>h s v rfl,fun h a b e=>by cases e;exact h⟩
theorem gX:dO none t:=(fun _ _ h=>nomatch h)
theorem hZ:dS none t:=(fun _ _ h=>nomatch h)
theorem rQ(l:En)(s:Bool)(v t:Rat):dS (ee l s v) t↔dS l t/\dS (some (s,v)) t:=by
 match l with
 |none=>exact⟨fun h=>⟨hZ,h⟩,fun h=>h.2⟩
 |some (s0,v0)=>
  unfold ee;dsimp only;split
  ·rename_i c;refine⟨fun h=>⟨?_,h⟩,fun h=>h.2⟩;rw[dF]at h ⊢;rcases c with c|⟨c,cs⟩
   ·exact⟨by grind,fun _=>by grind⟩
   ·have:=h.2 cs;exact⟨by grind,fun _=>by grind⟩
  ·rename_i c;refine⟨fun h=>⟨h,?_⟩,fun h=>h.1⟩;rw[dF]at h ⊢;have c1:¬v0<v:=fun z=>c (.inl z);refine⟨by grind,fun hs=>?_⟩;have c2:v0≠v:=fun z=>c (.inr ⟨z,hs⟩);grind
theorem rq(g:En)(s:Bool)(v t:Rat):dO (cY g s v) t↔dO g t/\dO (some (s,v)) t:=by
 match g with
 |none=>exact⟨fun h=>⟨gX,h⟩,fun h=>h.2⟩
 |some (s0,v0)=>
  unfold cY;dsimp only;split
  ·rename_i c;refine⟨fun h=>⟨?_,h⟩,fun h=>h.2⟩;rw[dB]at h ⊢;rcases c with c|⟨c,cs⟩
   ·exact⟨by grind,fun _=>by grind⟩
   ·have:=h.2 cs;exact⟨by grind,fun _=>by grind⟩
  ·rename_i c;refine⟨fun h=>⟨h,?_⟩,fun h=>h.1⟩;rw[dB]at h ⊢;have c1:¬v<v0:=fun z=>c (.inl z);refine⟨by grind,fun hs=>?_⟩;have c2:v0≠v:=fun z=>c (.inr ⟨z,hs⟩);grind
abbrev L1:=Kn×Rat×Rat
abbrev i6 (o:L1):Ol:=(o.1,[o.2.1],o.2.2)
def kc (k:Kn):Bool:=decide (k=.lt)
def dg (p:En×En) (o:L1):En×En:=
 (if o.1=.eq\/o.2.1<0 then ee p.1 (kc o.1) (o.2.2/o.2.1)else p.1,if o.1=.eq\/0<o.2.1 then cY p.2 (kc o.1) (o.2.2/o.2.1)else p.2)
def rn (k:Kn) (b:Rat):Bool:=match k with
 | .eq=>decide (b=0)
 | .le=>decide (0<=b)
 | .lt=>decide (0<b)
def In (p:En×En) (t:Rat):Prop:=dO p.2 t/\dS p.1 t
theorem vO(a t:Rat):cm [a] [t]=a*t:=by
 show(0:Rat)+a*t=_;grind
theorem Jj(p:En×En)(o:L1)(h:o.2.1≠0)(t:Rat):In (dg p o) t↔In p t/\rel o.1 (o.2.1*t) o.2.2:=by
 obtain⟨k,a,b⟩:=o;dsimp only at h;have e:a*(b/a)=b:=by grind
 rcases(show 0<a\/a<0 by grind)with ha|ha
 ·have le:a*t<=b↔t<=b/a:=by
   constructor
   ·intro z;exact not_lt.mp fun c=>by have:=mul_lt_mul_of_pos_left c ha;grind
   ·intro z;have:=mul_le_mul_of_nonneg_left z (le_of_lt ha);grind
  have lt:a*t<b↔t<b/a:=by
   constructor
   ·intro z;exact not_le.mp fun c=>by have:=mul_le_mul_of_nonneg_left c (le_of_lt ha);grind
   ·intro z;have:=mul_lt_mul_of_pos_left z ha;grind
  have eq:a*t=b↔t=b/a:=⟨fun z=>by grind,fun z=>by grind⟩;cases k with
  |le=>
   have s:dg p (.le,a,b)=(p.1,cY p.2 false (b/a)):=by
    unfold dg;rw[if_neg (fun z=>z.elim (fun z=>by cases z) fun z=>absurd z (by grind)),if_pos (.inr ha)];rfl
   rw[s];show dO (cY p.2 false (b/a)) t/\dS p.1 t↔_/\a*t<=b;rw[rq,dB,le];exact⟨fun⟨⟨x,y⟩,z⟩=>⟨⟨x,z⟩,y.1⟩,fun⟨⟨x,z⟩,y⟩=>⟨⟨x,y,fun q=>by cases q⟩,z⟩⟩
  |lt=>
   have s:dg p (.lt,a,b)=(p.1,cY p.2 true (b/a)):=by
    unfold dg;rw[if_neg (fun z=>z.elim (fun z=>by cases z) fun z=>absurd z (by grind)),if_pos (.inr ha)];rfl
   rw[s];show dO (cY p.2 true (b/a)) t/\dS p.1 t↔_/\a*t<b;rw[rq,dB,lt];exact⟨fun⟨⟨x,y⟩,z⟩=>⟨⟨x,z⟩,y.2 rfl⟩,fun⟨⟨x,z⟩,y⟩=>⟨⟨x,le_of_lt y,fun _=>y⟩,z⟩⟩
  |eq=>
   have s:dg p (.eq,a,b)=(ee p.1 false (b/a),cY p.2 false (b/a)):=by
    unfold dg;rw[if_pos (.inl rfl),if_pos (.inl rfl)];rfl
   rw[s];show dO (cY p.2 false (b/a)) t/\dS (ee p.1 false (b/a)) t↔_/\a*t=b;rw[rq,rQ,dB,dF,eq];exact⟨fun⟨⟨x,y⟩,z,u⟩=>⟨⟨x,z⟩,Rat.le_antisymm y.1 u.1⟩,fun⟨⟨x,z⟩,y⟩=>⟨⟨x,by grind,fun q=>by cases q⟩,z,by grind,fun q=>by cases q⟩⟩
 ·have hn:0 < -a:=by grind
  have le:a*t<=b↔b/a<=t:=by
   constructor
   ·intro z;exact not_lt.mp fun c=>by have:=mul_lt_mul_of_pos_left c hn;grind
   ·intro z;have:=mul_le_mul_of_nonneg_left z (le_of_lt hn);grind
  have lt:a*t<b↔b/a<t:=by
   constructor
   ·intro z;exact not_le.mp fun c=>by have:=mul_le_mul_of_nonneg_left c (le_of_lt hn);grind
   ·intro z;have:=mul_lt_mul_of_pos_left z hn;grind
  have eq:a*t=b↔t=b/a:=⟨fun z=>by grind,fun z=>by grind⟩;cases k with
  |le=>
   have s:dg p (.le,a,b)=(ee p.1 false (b/a),p.2):=by
    unfold dg;rw[if_pos (.inr ha),if_neg (fun z=>z.elim (fun z=>by cases z) fun z=>absurd z (by grind))];rfl
   rw[s];show dO p.2 t/\dS (ee p.1 false (b/a)) t↔_/\a*t<=b;rw[rQ,dF,le];exact⟨fun⟨x,z,y⟩=>⟨⟨x,z⟩,y.1⟩,fun⟨⟨x,z⟩,y⟩=>⟨x,z,y,fun q=>by cases q⟩⟩
  |lt=>
   have s:dg p (.lt,a,b)=(ee p.1 true (b/a),p.2):=by
    unfold dg;rw[if_pos (.inr ha),if_neg (fun z=>z.elim (fun z=>by cases z) fun z=>absurd z (by grind))];rfl
   rw[s];show dO p.2 t/\dS (ee p.1 true (b/a)) t↔_/\a*t<b;rw[rQ,dF,lt];exact⟨fun⟨x,z,y⟩=>⟨⟨x,z⟩,y.2 rfl⟩,fun⟨⟨x,z⟩,y⟩=>⟨x,z,le_of_lt y,fun _=>y⟩⟩
  |eq=>
   have s:dg p (.eq,a,b)=(ee p.1 false (b/a),cY p.2 false (b/a)):=by
    unfold dg;rw[if_pos (.inl rfl),if_pos (.inl rfl)];rfl
   rw[s];show dO (cY p.2 false (b/a)) t/\dS (ee p.1 false (b/a)) t↔_/\a*t=b;rw[rq,rQ,dB,dF,eq];exact⟨fun⟨⟨x,y⟩,z,u⟩=>⟨⟨x,z⟩,Rat.le_antisymm y.1 u.1⟩,fun⟨⟨x,z⟩,y⟩=>⟨⟨x,by grind,fun q=>by cases q⟩,z,by grind,fun q=>by cases q⟩⟩
def fO:List L1->En×En->Option (En×En)
 |[],p=>some p
 |o::r,p=>if o.2.1=0 then(if rn o.1 o.2.2=true then fO r p else none)else fO r (dg p o)
theorem zh(k:Kn)(b t:Rat):rn k b=true↔rel k (0*t) b:=by
 have e:(0:Rat)*t=0:=Rat.zero_mul _;rw[e];cases k with
 |eq=>exact decide_eq_true_iff.trans ⟨fun h=>h.symm,fun h=>h.symm⟩
 |le=>exact decide_eq_true_iff
 |lt=>exact decide_eq_true_iff
def vf (ls:List L1) (t:Rat):Prop:=∀o∈ls,rel o.1 (o.2.1*t) o.2.2
variable {ls:List L1}
theorem vY{o:L1}:vf (o::ls) t↔rel o.1 (o.2.1*t) o.2.2/\vf ls t:=⟨fun h=>⟨h o mem_cons_self,fun q hq=>h q (mem_cons_of_mem _ hq)⟩,fun h q hq=>by
 rcases mem_cons.mp hq with e|hq
 ·rw[e];exact h.1
 ·exact h.2 q hq⟩
theorem lG:∀{ls:List L1} {p q:En×En},fO ls p=some q->∀t,In q t↔In p t/\vf ls t
 |[],p,q,h,t=>by cases h;exact⟨fun h=>⟨h,fun o ho=>absurd ho not_mem_nil⟩,fun h=>h.1⟩
 |o::ls,p,q,h,t=>by
  unfold fO at h;rw[vY];split at h
  ·rename_i c;split at h
   ·rename_i z;rw[lG h t,c];have:=(zh o.1 o.2.2 t).mp z;exact⟨fun⟨a,b⟩=>⟨a,this,b⟩,fun⟨a,_,b⟩=>⟨a,b⟩⟩
   ·cases h
  ·rename_i c;rw[lG h t,Jj p o c t];exact⟨fun⟨⟨a,b⟩,d⟩=>⟨a,b,d⟩,fun⟨a,b,d⟩=>⟨⟨a,b⟩,d⟩⟩
theorem oC:∀{ls:List L1} {p:En×En},fO ls p=none->∀t,¬vf ls t
 |[],p,h,t=>by cases h
 |o::ls,p,h,t=>by
  unfold fO at h;rw[vY];split at h
  ·rename_i c;split at h
   ·exact fun z=>oC h t z.2
   ·rename_i z;rw[c];exact fun y=>z ((zh o.1 o.2.2 t).mpr y.1)
  ·exact fun z=>oC h t z.2
def gone (p:En×En):Bool:=match p.1,p.2 with
 |some (s,v),some (s',v')=>decide (v'<v) || (decide (v=v')&&(s || s'))
 |_,_=>false
def cg (ls:List L1):Option (En×En):=(fO ls (none,none)).bind fun p=>if gone p=true then none else some p
theorem xP(p:En×En):gone p=true↔∀t,¬In p t:=by
 obtain⟨l,g⟩:=p;match l,g with
 |none,none=>exact⟨(fun h=>by cases h),fun h=>absurd ⟨gX,hZ⟩ (h 0)⟩
 |some (s,v),none=>exact⟨(fun h=>by cases h),fun h=>absurd ⟨gX,dF.mpr ⟨by grind,fun _=>by grind⟩⟩ (h (v+1))⟩
 |none,some (s,v)=>exact⟨(fun h=>by cases h),fun h=>absurd ⟨dB.mpr ⟨by grind,fun _=>by grind⟩,hZ⟩ (h (v-1))⟩
 |some (s,v),some (s',v')=>
  show(decide (v'<v) || (decide (v=v')&&(s || s')))=true↔∀t,¬(dO (some (s',v')) t/\dS (some (s,v)) t);constructor
  ·intro h t ⟨h1,h2⟩;rw[dB]at h1;rw[dF]at h2;rcases or_eq_true _ _▸h with h|h
   ·have:=of_decide_eq_true h;grind
   ·obtain⟨h3,h4⟩:=(and_eq_true _ _).mp h;have e:=of_decide_eq_true h3;rcases(or_eq_true _ _).mp h4 with h4|h4
    ·have:=h2.2 h4;grind
    ·have:=h1.2 h4;grind
  ·intro h;by_cases c:v'<v
   ·rw[decide_eq_true c];rfl
   ·rw[decide_eq_false c,Bool.false_or];by_cases e:v=v'
    ·subst e;rw[decide_eq_true rfl,Bool.true_and];cases s with
     |true=>rfl
     |false=>
      cases s' with
      |true=>rfl
      |false=>exact absurd ⟨dB.mpr ⟨Rat.le_refl,fun z=>by cases z⟩,dF.mpr ⟨Rat.le_refl,fun z=>by cases z⟩⟩ (h v)
    ·exfalso;exact h ((v+v')/2) ⟨dB.mpr ⟨by grind,fun _=>by grind⟩,dF.mpr ⟨by grind,fun _=>by grind⟩⟩
theorem yH(h:cg ls=none)(t:Rat):¬vf ls t:=by
 unfold cg at h;cases e:fO ls (none,none)with
 |none=>exact oC e t
 |some p=>
  rw[e,Option.bind_some]at h;split at h
  ·rename_i g;intro z;exact(xP p).mp g t ((lG e t).mpr ⟨⟨gX,hZ⟩,z⟩)
  ·cases h
variable {p:En×En}
theorem ma(h:cg ls=some p):(∀t,In p t↔vf ls t)/\∃t,In p t:=by
 unfold cg at h;cases e:fO ls (none,none)with
 |none=>rw[e]at h;cases h
 |some q=>
  rw[e,Option.bind_some]at h;split at h
  ·cases h
  ·rename_i g;cases h;refine⟨fun t=>(lG e t).trans ⟨fun z=>z.2,fun z=>⟨⟨gX,hZ⟩,z⟩⟩,?_⟩;exact Classical.byContradiction fun c=>g ((xP _).mpr fun t z=>c ⟨t,z⟩)
theorem DU(o:L1)(t:Rat):fX (i6 o) [t]↔rel o.1 (o.2.1*t) o.2.2:=by
 show rel o.1 (cm [o.2.1] [t]) o.2.2↔_;rw[vO]
theorem ot:(∀o∈ls.map i6,fX o [t])↔vf ls t:=⟨fun h o ho=>(DU o t).mp (h _ (mem_map.mpr ⟨o,ho,rfl⟩)),fun h o ho=>by
 obtain⟨q,hq,rfl⟩:=mem_map.mp ho;exact(DU q t).mpr (h q hq)⟩
theorem Ma(ls:List L1)(a:Rat):∀o∈ls.map i6,o.2.1.length=[a].length:=fun o ho=>by
 obtain⟨q,hq,rfl⟩:=mem_map.mp ho;rfl
theorem t6{a:Rat}(hn:never [a].length (aD [a] (ls.map i6))=none)(t:Rat):(∃x,vf ls x/\a*x=t)↔dO (k0 [a] (ls.map i6)) t/\dS (nN [a] (ls.map i6)) t:=by
 rw[<- KS (Ma ls a) hn];constructor
 ·rintro⟨x,h1,h2⟩;exact⟨[x],rfl,ot.mpr h1,by rw[vO];exact h2⟩
 ·rintro⟨x,h1,h2,h3⟩;match x,h1 with
  |[x],_=>exact⟨x,ot.mp h2,by rw[vO]at h3;exact h3⟩
theorem mJ{a:Rat}:never [a].length (aD [a] (ls.map i6))=none↔cg ls≠none:=by
 constructor
 ·intro hn h;obtain⟨t,ht⟩:=AY hn;obtain⟨x,hx,_⟩:=(t6 hn t).mpr ht;exact yH h x hx
 ·intro h;cases hn:never [a].length (aD [a] (ls.map i6))with
  |none=>rfl
  |some ws=>
   exfalso;cases hr:cg ls with
   |none=>exact h hr
   |some p=>
    obtain⟨h1,t,h2⟩:=ma hr;exact Gh (Ma ls a) hn [t] (ot.mpr ((h1 t).mp h2))
theorem OK(h:cg ls=some p):k0 [1] (ls.map i6)=p.2/\nN [1] (ls.map i6)=p.1:=by
 have hn:=(mJ (ls:=ls) (a:=1)).mpr (by rw[h];simp);obtain⟨h1,t,h2⟩:=ma h;have hw:=t6 hn;refine lF (t0:=t) (fun u=>?_) ((hw t).mp ⟨t,(h1 t).mp h2,by grind⟩);rw[<- hw u];constructor
 ·rintro⟨x,hx,e⟩;rw[<- e,Rat.one_mul];exact(h1 x).mpr hx
 ·intro z;exact⟨u,(h1 u).mp z,by grind⟩
variable {c:Rat}
theorem kz(hc:0<c){x y:Rat}:c*x<=c*y↔x<=y:=⟨fun z=>not_lt.mp fun k=>by have:=mul_lt_mul_of_pos_left k hc;grind,fun z=>mul_le_mul_of_nonneg_left z (le_of_lt hc)⟩
theorem ky(hc:0<c){x y:Rat}:c*x<c*y↔x<y:=⟨fun z=>not_le.mp fun k=>by have:=mul_le_mul_of_nonneg_left k (le_of_lt hc);grind,fun z=>mul_lt_mul_of_pos_left z hc⟩
def scale (c:Rat) (g:En):En:=g.map fun b=>(b.1,c*b.2)
theorem vT(hc:0<c)(g:En)(t:Rat):dO (scale c g) (c*t)↔dO g t:=by
 match g with
 |none=>exact⟨fun _=>gX,fun _=>gX⟩
 |some (s,v)=>
  show dO (some (s,c*v)) (c*t)↔_;rw[dB,dB,kz hc,ky hc]
theorem xa(hc:0<c)(g:En)(t:Rat):dS (scale c g) (c*t)↔dS g t:=by
 match g with
 |none=>exact⟨fun _=>hZ,fun _=>hZ⟩
 |some (s,v)=>
  show dS (some (s,c*v)) (c*t)↔_;rw[dF,dF,kz hc,ky hc]
theorem uj(hc:c<0)(g:En)(t:Rat):dO (scale c g) (c*t)↔dS g t:=by
 have hn:0 < -c:=by grind
 match g with
 |none=>exact⟨fun _=>hZ,fun _=>gX⟩
 |some (s,v)=>
  show dO (some (s,c*v)) (c*t)↔_;rw[dB,dF];have e1:c*t<=c*v↔v<=t:=by rw[<- kz hn (x:=v) (y:=t)];constructor<;>intro z<;>grind
  have e2:c*t<c*v↔v<t:=by rw[<- ky hn (x:=v) (y:=t)];constructor<;>intro z<;>grind
  rw[e1,e2]
theorem uF(hc:c<0)(g:En)(t:Rat):dS (scale c g) (c*t)↔dO g t:=by
 have hn:0 < -c:=by grind
 match g with
 |none=>exact⟨fun _=>gX,fun _=>hZ⟩
 |some (s,v)=>
  show dS (some (s,c*v)) (c*t)↔_;rw[dB,dF];have e1:c*v<=c*t↔t<=v:=by rw[<- kz hn (x:=t) (y:=v)];constructor<;>intro z<;>grind
  have e2:c*v<c*t↔t<v:=by rw[<- ky hn (x:=t) (y:=v)];constructor<;>intro z<;>grind
  rw[e1,e2]
theorem Ra(h:cg ls=some p)(c:Rat):k0 [c] (ls.map i6)=if c=0 then some (false,0)else if 0<c then scale c p.2 else scale c p.1:=by
 have hn:=(mJ (ls:=ls) (a:=c)).mpr (by rw[h];simp);obtain⟨h1,t,h2⟩:=ma h;have hw:=t6 hn;have h0:=(hw (c*t)).mp ⟨t,(h1 t).mp h2,rfl⟩;split
 ·rename_i c0;subst c0;refine(lF (t0:=0*t) (g2:=some (false,0)) (l2:=some (false,0)) (fun u=>?_) h0).1;rw[<- hw u,dB,dF];constructor
  ·rintro⟨x,_,e⟩;exact⟨⟨by grind,fun z=>by cases z⟩,by grind,fun z=>by cases z⟩
  ·rintro⟨⟨a,_⟩,b,_⟩;exact⟨t,(h1 t).mp h2,by grind⟩
 ·rename_i c0;have inv:∀u:Rat,c*(u/c)=u:=fun u=>by grind
  split
  ·rename_i hc;refine(lF (t0:=c*t) (l2:=scale c p.1) (fun u=>?_) h0).1;rw[<- hw u];constructor
   ·rintro⟨x,hx,e⟩;rw[<- e,vT hc,xa hc];exact(h1 x).mpr hx
   ·intro z;rw[<- inv u,vT hc,xa hc]at z;exact⟨u/c,(h1 _).mp z,inv u⟩
  ·rename_i hc;have fI:c<0:=by grind
   refine(lF (t0:=c*t) (l2:=scale c p.2) (fun u=>?_) h0).1;rw[<- hw u];constructor
   ·rintro⟨x,hx,e⟩;rw[<- e,uj fI,uF fI];exact⟨((h1 x).mpr hx).2,((h1 x).mpr hx).1⟩
   ·intro z;rw[<- inv u,uj fI,uF fI]at z;exact⟨u/c,(h1 _).mp ⟨z.2,z.1⟩,inv u⟩
end
end FM
set_option maxHeartbeats 4000000
namespace L3
noncomputable section
open PySem PySem.Spec PyProof.Rows L2
open PySem.W (Dat kqdOk)
theorem Ap(a b:Int):eqB (.int a) (.int b)=some (decide (a=b)):=by
 have h:eqB (.int a) (.int b)=if kqdOk 9 (.int a)=true/\kqdOk 9 (.int b)=true then some (k7 (.int a) (.int b))else none:=rfl;rw[h,if_pos ⟨rfl,rfl⟩];congr 1
 by_cases e:a=b
 ·rw[mS (by rw[e]),decide_eq_true e]
 ·rw[pA (fun z=>e (by injection z)),decide_eq_false e]
theorem cB(a b:Int):dU (.int a) (.int b)=some (.bool (decide (a=b))):=by unfold dU;rw[Ap];rfl
theorem fW(a b:Int):ik (.int a) (.int b)=some (.bool (!decide (a=b))):=by unfold ik;rw[Ap];rfl
theorem eA(a b:Int):Fq (.int a) (.int b)=some (.int (a-b)):=fT trivial
theorem dE(a b:Int):DC (.int a) (.int b)=some (.bool (decide (a<b))):=fT trivial
theorem A4(a b:Int):Pu (.int a) (.int b)=some (.bool (decide (a<=b))):=fT trivial
theorem fB(a b:Int):xO (.int a) (.int b)=some (.bool (decide (b<a))):=fT trivial
theorem K4(a b:Int):Qb (.int a) (.int b)=some (.bool (decide (b<=a))):=fT trivial
variable {a b:Int}
theorem iG(h:b≠0):wZ (.int a) (.int b)=some (.int (a.fmod b)):=fT h
theorem p8(h:b≠0)(_:b.natAbs.log2<9000000):jH (.int a) (.int b)=some (.int (a.fdiv b)):=fT h
theorem nD(h:IntMulOk a b):ib (.int a) (.int b)=some (.int (a*b)):=fT h
theorem cA(a b:Int):k9 (.int a) (.int b)=some (.int (a+b)):=rfl
theorem iI(c:Int):C4 [.int c]=some (.int (c.natAbs:Int)):=by
 show some (Dat.int (if c<0 then -c else c))=_;congr 2
 split<;>omega
variable {Γ aj:ay} {g2 g1:ay->Option Fl}
theorem aE(h:g1 Γ=some (.nx aj)):dQ g1 g2 Γ=g2 aj:=by unfold dQ;rw[h];rfl
variable {d:Dat}
theorem Jo(h:g1 Γ=some (.rt d)):dQ g1 g2 Γ=some (.rt d):=by unfold dQ;rw[h];rfl
variable {i:Nat} {f:ar->Option Dat}
theorem tj(h:f (bD Γ)=some d):iB i f Γ=some (.nx (Γ.set i (some (.a9 d)))):=by unfold iB;rw[h]
variable {ft:ar->Option Bool}
theorem pO(h:ft (bH Γ)=some true):mw ft g1 g2 Γ=g1 Γ:=by unfold mw;rw[h];rfl
theorem pP(h:ft (bH Γ)=some false):mw ft g1 g2 Γ=g2 Γ:=by unfold mw;rw[h];rfl
theorem zA(h:f (bH Γ)=some d):kX f Γ=some (.rt d):=by unfold kX;rw[h];rfl
variable {gb:ay->Option Fl} {n:Nat}
theorem vR(h:ft (bH Γ)=some false):f6 ft gb (n+1) Γ=some (.nx Γ):=by show(ft (bH Γ)).bind _=_;rw[h];rfl
theorem vQ(h:ft (bH Γ)=some true)(h2:gb Γ=some (.nx aj)):f6 ft gb (n+1) Γ=f6 ft gb n aj:=by
 show(ft (bH Γ)).bind _=_;rw[h];show(gb Γ).bind _=_;rw[h2];rfl
variable {ds:List Dat}
theorem c8{N:List Str}{g:ay->Option Fl}(h:g (bW N ds)=some (.rt d)):iC N g ds=some d:=by unfold iC;rw[h]
open PySem PySem.Spec PyProof.Rows L2
open PySem.W (Dat kqdOk)
theorem eY{gt:Dat->Option cH}{fe:ar->Option Dat}{jg:ar}:∀(aq out:List Dat),aq.length=out.length->(∀(i:Nat) (d o:Dat),aq[i]?=some d->out[i]?=some o->∃as,gt d=some as/\fe (i9 jg as)=some o)->cw gt gN fe jg aq=some out
 |[],[],_,_=>rfl
 |[],_::_,h,_=>by simp at h
 |_::_,[],h,_=>by simp at h
 |d::aq,o::out,h,st=>by
  obtain⟨as,e1,e2⟩:=st 0 d o rfl rfl;have ih:=eY aq out (by simpa using h) fun i d' o' h1 h2=>st (i+1) d' o' (by simpa using h1) (by simpa using h2);simp only[cw,e1,Option.bind_some,gN,if_true,e2,ih,map_some]
open PySem PySem.Spec PyProof.Rows L2
open PySem.W (Dat kqdOk)
theorem nK{gt:Dat->Option cH}{gb:ay->Option Fl}{β τ:Type}(enc:β->Dat)(St:τ->ay->Prop)(Q:τ->List β->Prop)(dk:τ->β->τ)(step:∀s p l Γ,Q s (p::l)->St s Γ->∃as,gt (enc p)=some as/\∃aj,gb (setG Γ as)=some (.nx aj)/\St (dk s p) aj/\Q (dk s p) l):∀(l:List β) (s:τ) (Γ:ay),Q s l->St s Γ->∃aj,forL gt gb (l.map enc) Γ=some (.nx aj)/\St (l.foldl dk s) aj
 |[],s,Γ,_,h=>⟨Γ,rfl,h⟩
 |p::l,s,Γ,q,h=>by
  obtain⟨as,e1,Γ1,e2,h1,q1⟩:=step s p l Γ q h;obtain⟨rh,e3,h2⟩:=nK enc St Q dk step l (dk s p) Γ1 q1 h1;refine⟨rh,?_,h2⟩;rw[map_cons];show(gt (enc p)).bind _=_;rw[e1];show(gb (setG Γ as)).bind _=_;rw[e2];exact e3
variable {gt:Dat->Option cH} {β τ:Type}
theorem iR(enc:β->Dat)(St:τ->ay->Prop)(Q:τ->List β->Prop)(dk:τ->β->τ){l:List β}{s:τ}(hf:f (bD Γ)=some d)(hi:eB d=some (l.map enc))(hq:Q s l)(hs:St s Γ)(step:∀s p l Γ,Q s (p::l)->St s Γ->∃as,gt (enc p)=some as/\∃aj,gb (setG Γ as)=some (.nx aj)/\St (dk s p) aj/\Q (dk s p) l):∃aj,n9 gt gb f Γ=some (.nx aj)/\St (l.foldl dk s) aj:=by
 obtain⟨aj,e,h⟩:=nK (gt:=gt) (gb:=gb) enc St Q dk step l s Γ hq hs;refine⟨aj,?_,h⟩;unfold n9;rw[hf];show(eB d).bind _=_;rw[hi];exact e
theorem uP{gt:Dat->Option cH}{gb:ay->Option Fl}{β:Type}(enc:β->Dat)(I:ay->Prop)(p:β->Bool)(rt:β->Dat):∀(l:List β) (Γ:ay),I Γ->(∀x∈l,∀Γ,I Γ->∃as,gt (enc x)=some as/\if p x=true then gb (setG Γ as)=some (.rt (rt x))else ∃aj,gb (setG Γ as)=some (.nx aj)/\I aj)->
  (∃x,l.find? p=some x/\forL gt gb (l.map enc) Γ=some (.rt (rt x)))\/(l.find? p=none/\∃aj,forL gt gb (l.map enc) Γ=some (.nx aj)/\I aj)
 |[],Γ,h,_=>.inr ⟨rfl,Γ,rfl,h⟩
 |x::l,Γ,h,st=>by
  obtain⟨as,e1,e2⟩:=st x mem_cons_self Γ h;by_cases c:p x=true
  ·rw[if_pos c]at e2;refine .inl ⟨x,by rw[List.find?_cons_of_pos c],?_⟩;rw[map_cons];show(gt (enc x)).bind _=_;rw[e1];show(gb (setG Γ as)).bind _=_;rw[e2];rfl
  ·rw[if_neg c]at e2;obtain⟨Γ1,e2,h1⟩:=e2;have e3:forL gt gb ((x::l).map enc) Γ=forL gt gb (l.map enc) Γ1:=by
    rw[map_cons];show(gt (enc x)).bind _=_;rw[e1];show(gb (setG Γ as)).bind _=_;rw[e2];rfl
   rw[e3,List.find?_cons_of_neg c];exact uP enc I p rt l Γ1 h1 fun y hy=>st y (mem_cons_of_mem _ hy)
theorem uQ(enc:β->Dat)(I:ay->Prop)(p:β->Bool)(rt:β->Dat){l:List β}{fl:Option β->Fl}(hf:f (bD Γ)=some d)(hi:eB d=some (l.map enc))(hs:I Γ)(st:∀x∈l,∀Γ,I Γ->∃as,gt (enc x)=some as/\if p x=true then gb (setG Γ as)=some (.rt (rt x))else ∃aj,gb (setG Γ as)=some (.nx aj)/\I aj)(h1:∀x,fl (some x)=.rt (rt x))(h2:∀aj,I aj->g2 aj=some (fl none)):
  dQ (n9 gt gb f) g2 Γ=some (fl (l.find? p)):=by
 have e:n9 gt gb f Γ=forL gt gb (l.map enc) Γ:=by
  unfold n9;rw[hf];show(eB d).bind _=_;rw[hi];rfl
 unfold dQ;rw[e];rcases uP enc I p rt l Γ hs st with⟨x,e1,e2⟩|⟨e1,aj,e2,h'⟩
 ·rw[e1,e2,h1];rfl
 ·rw[e1,e2];exact h2 aj h'
theorem iW{fl:Fl}(I:ay->Prop)(h:∃aj,g1 Γ=some (.nx aj)/\I aj)(fin:∀aj,I aj->g2 aj=some fl):dQ g1 g2 Γ=some fl:=by
 obtain⟨aj,e,h⟩:=h;unfold dQ;rw[e];exact fin aj h
open PySem PySem.Spec PyProof.Rows L2
open PySem.W (Dat kqdOk)
theorem i4{gt:Dat->Option cH}{ft:ar->Option Bool}{fe:ar->Option Dat}{jg:ar}{β:Type}(enc:β->Dat)(GN:β->Dat)(p:β->Bool):∀(l:List β),(∀x∈l,∃as,gt (enc x)=some as/\ft (i9 jg as)=some (p x)/\(p x=true->fe (i9 jg as)=some (GN x)))->cw gt ft fe jg (l.map enc)=some ((l.filter p).map GN)
 |[],_=>rfl
 |x::l,h=>by
  obtain⟨as,e1,e2,e3⟩:=h x mem_cons_self;have ih:=i4 enc GN p l fun y hy=>h y (mem_cons_of_mem _ hy);rw[map_cons,cw,e1,Option.bind_some,e2,Option.bind_some,filter_cons];by_cases c:p x=true
  ·rw[if_pos c,if_pos c,e3 c,Option.bind_some,ih];rfl
  ·rw[if_neg c,if_neg c];exact ih
variable {I:ay->Prop}
theorem K9{A:ay->Option Fl}{J:ay->Prop}(h:∃aj,A Γ=some (.nx aj)/\I aj)(k:∀aj,I aj->J aj):∃aj,A Γ=some (.nx aj)/\J aj:=let ⟨aj,e,i⟩:=h;⟨aj,e,k aj i⟩
open PySem PySem.Spec PyProof.Rows L2
open PySem.W (Dat kqdOk)
variable {fi:ar->Option (List Dat)}
theorem p7(enc:β->Dat)(St:τ->ay->Prop)(Q:τ->List β->Prop)(dk:τ->β->τ){l:List β}{s:τ}(hf:fi (bD Γ)=some (l.map enc))(hq:Q s l)(hs:St s Γ)(step:∀s p l Γ,Q s (p::l)->St s Γ->∃as,gt (enc p)=some as/\∃aj,gb (setG Γ as)=some (.nx aj)/\St (dk s p) aj/\Q (dk s p) l):∃aj,pQ gt gb fi Γ=some (.nx aj)/\St (l.foldl dk s) aj:=by
 obtain⟨aj,e,h⟩:=nK (gt:=gt) (gb:=gb) enc St Q dk step l s Γ hq hs;refine⟨aj,?_,h⟩;unfold pQ;rw[hf];exact e
variable {out:List Dat}
theorem zz{g:ar->Option (List Dat)}(h:g (bD Γ)=some out):n8 i g Γ=some (.nx (Γ.set i (some (.a9 (.list out))))):=by
 unfold n8;rw[h];rfl
variable {ρ:ar}
theorem yd{aN:List (Option Nat)}{fe:ar->Option Dat}(h:fi ρ=some ds)(hl:ds.length<sizeLine)(hc:cw gt ft fe (de aN ρ) ds=some out):ir aN gt ft fe fi ρ=some out:=by
 unfold ir;rw[h,Option.bind_some,if_pos hl,hc]
variable {rg:List Dat->Option (List Dat)} {as:List Dat}
theorem xj{fs:ar->Option (List Dat)}(h:fs ρ=some as)(h2:rg as=some ds):xk rg fs ρ=some ds:=by
 unfold xk;rw[h];exact h2
end
end L3
namespace FM
noncomputable section
open PySem
theorem oU{l:List Int}{p:Nat}(h:l.getD p 0≠0):∃x∈l,x≠0:=⟨_,mem_getD h,h⟩
variable {B:Nat->Nat->Rat} {n j k:Nat} {E:List Nat} {β:Nat->Rat} {J:Nat->Bool}
variable {St:Nat->Bool} in
theorem JO{rows:List Row}(hR:Rs n k rows)(S:Sg n k j J St E B β (rows.map (aB n)))(hn:dG j rows=none):
  ∀u∈rows,∀l∈rows,0<ent u j->ent l j<0->∃x∈f9 u.2 (-ent l j) l.2 (ent u j),x≠0:=by
 have mem:∀{r:Row},r∈rows->aB n r∈rows.map (aB n):=fun h=>mem_map.mpr ⟨_,h,rfl⟩;have nB:∀r∈rows,r.1=.eq->ent r j=0:=fun r hr he=>by
  have:=List.find?_eq_none.mp hn r hr;apply Classical.byContradiction
  intro z;exact this (by simp[he,z])
 have kq:∀{r:Row},r∈rows->ent r j≠0->(aB n r).kd≠.eq:=fun hr h e=>h (nB _ hr e);intro up hu lo hl pu pl;obtain⟨i,hi,hj,hp⟩:=S.pos (aB n up) (mem hu) (kq hu (by omega));have b:=S.nn (aB n lo) (mem hl) (kq hl (by omega)) i hi hj;have dI:0<ent up (n+2+i):=gS.mp hp;have Ea:0<=ent lo (n+2+i):=by
  have b':(0:Rat)<=(ent lo (n+2+i):Rat):=b;have:((0:Int):Rat)<=(ent lo (n+2+i):Rat):=b';exact Rat.intCast_le_intCast.mp this
 have h1:=Int.mul_pos (show 0 < -ent lo j by omega) dI;have h2:=Int.mul_nonneg (Int.le_of_lt pu) Ea;refine oU (p:=n+2+i) ?_;rw[l8 (by rw[hR.len up hu,hR.len lo hl])];have e1:up.2.getD (n+2+i) 0=ent up (n+2+i):=rfl;have e2:lo.2.getD (n+2+i) 0=ent lo (n+2+i):=rfl;rw[e1,e2];omega
variable {St:Nat->Bool} in
theorem NV{rows:List Row}{q r:Row}(hR:Rs n k rows)(S:Sg n k j J St E B β (rows.map (aB n)))(hq:q∈rows)(qe:q.1=.eq)(q0:ent q j≠0)(hr:r∈rows)(bQ:r≠q):
  ∃x∈f9 r.2 ((ent q j).natAbs:Int) q.2 (if 0<ent q j then -ent r j else ent r j),x≠0:=by
 have mem:∀{r:Row},r∈rows->aB n r∈rows.map (aB n):=fun h=>mem_map.mpr ⟨_,h,rfl⟩;have hl:r.2.length=q.2.length:=by rw[hR.len r hr,hR.len q hq]
 have ab:((ent q j).natAbs:Int)≠0:=by omega
 by_cases he:r.1=.eq
 ·obtain⟨p,h1,h2⟩:=hR.Be r hr he;refine oU (p:=p) ?_;rw[l8 hl];have e1:q.2.getD p 0=ent q p:=rfl;have e2:r.2.getD p 0=ent r p:=rfl;rw[e1,e2,h2 q hq qe (Ne.symm bQ)];have:=mul_ne_zero ab h1;rw[mul_zero];omega
 ·obtain⟨i,hi,hj,hp⟩:=S.pos (aB n r) (mem hr) he;have hz:=S.uS (aB n q) (mem hq) qe i hi hj;have xm:ent q (n+2+i)=0:=bR.mp hz;have dI:0<ent r (n+2+i):=gS.mp hp;refine oU (p:=n+2+i) ?_;rw[l8 hl];have e1:q.2.getD (n+2+i) 0=ent q (n+2+i):=rfl;have e2:r.2.getD (n+2+i) 0=ent r (n+2+i):=rfl;rw[e1,e2,xm,mul_zero];have:=mul_ne_zero ab (show ent r (n+2+i)≠0 by omega);omega
def bt:Nat->Nat->Nat
 |b,0=>b
 |b,i+1=>bt (2*b+1) i
theorem vJ:∀(i b:Nat),b<=bt b i
 |0,b=>le_refl _
 |i+1,b=>le_trans (by omega) (vJ i (2*b+1))
def cb:Nat->Nat->Nat
 |r,0=>r
 |r,i+1=>cb (r+r*r/4) i
theorem IT:∀(i r:Nat),r<=cb r i
 |0,r=>le_refl _
 |i+1,r=>le_trans (Nat.le_add_right _ _) (IT i _)
variable {u:Nat}
theorem quarter{l r:Nat}(h:u+l<=r):u*l<=r*r/4:=by
 rw[Nat.le_div_iff_mul_le (by decide)];have h1:(u+l)*(u+l)<=r*r:=mul_le_mul h h;refine le_trans ?_ h1;rcases Nat.le_total u l with c|c
 ·obtain⟨d,rfl⟩:=Nat.exists_eq_add_of_le c;grind
 ·obtain⟨d,rfl⟩:=Nat.exists_eq_add_of_le c;grind
theorem IK(p q:Row->Bool)(hd:∀r,p r=true->q r=false):∀l:List Row,(l.filter p).length+(l.filter q).length<=l.length
 |[]=>le_refl _
 |r::l=>by
  have ih:=IK p q hd l;rw[filter_cons,filter_cons,length_cons];by_cases c:p r=true
  ·rw[if_pos c,hd r c,if_neg Bool.false_ne_true,length_cons];omega
  ·rw[if_neg c];split
   ·rw[length_cons];omega
   ·omega
theorem wL(rows:List Row)(j:Nat):rows.length+(rows.filter fun r=>decide (0<ent r j)).length*(rows.filter fun r=>decide (ent r j<0)).length<=rows.length+rows.length*rows.length/4:=
 Nat.add_le_add_left (quarter (IK _ _ (fun r h=>by
  have:=of_decide_eq_true h;exact decide_eq_false (by omega)) rows)) _
theorem mN(ks:List Row)(r:Row):(ins ks r).length<=ks.length+1:=by
 unfold ins;split
 ·omega
 ·rw[length_append];exact le_refl _
theorem sf:∀(M l:List Row),(M.foldl ins l).length<=l.length+M.length
 |[],l=>le_refl _
 |r::M,l=>by
  rw[foldl_cons,length_cons];have:=sf M (ins l r);have:=mN l r;omega
theorem xW{α β:Type}(f:α->List β)(c:Nat):∀l:List α,(∀x∈l,(f x).length<=c)->(l.flatMap f).length<=l.length*c
 |[],_=>by simp
 |x::l,h=>by
  rw[List.flatMap_cons,length_append,length_cons,Nat.succ_mul];have:=xW f c l fun y hy=>h y (mem_cons_of_mem _ hy);have:=h x mem_cons_self;omega
theorem Bi(rows:List Row)(j most:Nat)(aA:List Nat):(paired j aA most rows).length<=rows.length+rows.length*rows.length/4:=by
 have h1:=sf (rows.filter (fun r=>decide (ent r j=0))++pairsOf j aA most rows) [];have h2:=wL rows j;have h3:(pairsOf j aA most rows).length<=(rows.filter fun r=>decide (0<ent r j)).length*(rows.filter fun r=>decide (ent r j<0)).length:=by
  unfold pairsOf;refine xW _ _ _ fun x _=>?_;rw[length_map];exact length_filter_le _ _
 have h4:=length_filter_le (fun r=>decide (ent r j=0)) rows;rw[length_append]at h1;unfold paired;simp only[length_nil]at h1;omega
theorem Gj(rows:List Row)(j most:Nat)(aA:List Nat):(cI aA j most rows).length<=rows.length+rows.length*rows.length/4:=by
 unfold cI;split
 ·exact Bi _ _ _ _
 ·rw[length_map];exact le_trans (length_filter_le _ _) (Nat.le_add_right _ _)
abbrev Nx:=List Row×Nat×List (List Row)
def dk (aA:List Nat) (s:Nx) (j:Nat):Nx:=(cI aA j s.2.1 s.1,gR j s.2.1 s.1,s.2.2++[s.1])
theorem wc(aA:List Nat):∀(m j most:Nat) (rows:List Row) (acc:List (List Row)),(((range' j m).foldl (dk aA) (rows,most,acc)).2.2++[((range' j m).foldl (dk aA) (rows,most,acc)).1])=acc++kr aA m j most rows
 |0,j,most,rows,acc=>rfl
 |m+1,j,most,rows,acc=>by
  rw[List.range'_succ,foldl_cons];show(((range' (j+1) m).foldl (dk aA) (cI aA j most rows,gR j most rows,acc++[rows])).2.2++[((range' (j+1) m).foldl (dk aA) (cI aA j most rows,gR j most rows,acc++[rows])).1])=_;rw[wc aA m (j+1),append_assoc];rfl
end
end FM
namespace L3
noncomputable section
open PySem PySem.Spec PyProof.Rows L2
open PySem.W (Dat kqdOk)
variable {gt:Dat->Option cH} {gb:ay->Option Fl} {Γ:ay}
theorem Ej{rg:List Dat->Option (List Dat)}{fs:ar->Option (List Dat)}{β τ:Type}(enc:β->Dat)(St:τ->ay->Prop)(Q:τ->List β->Prop)(dk:τ->β->τ){l:List β}{s:τ}{as:List Dat}(hf:fs (bH Γ)=some as)(hr:rg as=some (l.map enc))(hq:Q s l)(hs:St s Γ)(step:∀s p l Γ,Q s (p::l)->St s Γ->∃as,gt (enc p)=some as/\∃aj,gb (setG Γ as)=some (.nx aj)/\St (dk s p) aj/\Q (dk s p) l):∃aj,B3 rg gt gb fs Γ=some (.nx aj)/\St (l.foldl dk s) aj:=by
 obtain⟨aj,e,h⟩:=nK (gt:=gt) (gb:=gb) enc St Q dk step l s Γ hq hs;refine⟨aj,?_,h⟩;unfold B3;rw[hf];show(rg as).bind _=_;rw[hr];exact e
end
end L3
namespace QD
noncomputable section
open PySem PySem.Spec PyProof.Rows L2 L3
open PySem.W (Dat kqdOk)
local macro_rules | `(tactic| simp! [$xs,*]) => `(tactic| simp only [iC, bW, dQ, iB, mw, kX, ko, oz, c9, mf, L3.f2, L3.f1, aT, fC, bj, cz, nL, pf, jS, dY, sC, pg, uR, pd, kD, lx, jI, bD, bH, jW, lX, nC, List.map_cons, List.map_nil, List.getElem?_cons_zero, List.getElem?_cons_succ, Option.join_some, Option.bind_some, Option.map_some, List.set_cons_zero, List.set_cons_succ, List.length_cons, List.length_nil, List.cons_append, List.nil_append, List.replicate, Nat.add_sub_cancel, Nat.zero_add, Nat.reduceAdd, Nat.reduceSub, if_true, if_false, Bool.false_eq_true, Bool.not_true, Bool.not_false, decide_true, decide_false, reduceIte, reduceCtorEq, Nat.reduceEqDiff, Nat.reduceLeDiff, tm, kW, f6, qF, mQ, gd, bB, fL, lP, eB, cw, aName, i9, de, List.foldl_cons, List.foldl_nil, Option.map_none, Option.bind_none, List.isEmpty, List.reverse_cons, List.reverse_nil, and_self, and_true, true_and, Option.some.injEq, j9, fj, ka, setG, List.append_nil, vF, xJ, L3.h2, sx, BJ, BH, BI, GC, MM, xM, runM, startM, B0, B1, Fz, oy, pQ, DM, xk, sh, eh, hL, CI, mr, List.length_set, List.append_eq, $xs,*])
local macro_rules | `(tactic| dsimp! [$xs,*]) => `(tactic| simp only [iC, bW, dQ, iB, mw, kX, ko, oz, c9, mf, L3.f2, L3.f1, aT, fC, bj, cz, nL, pf, jS, dY, sC, pg, uR, pd, kD, lx, jI, bD, bH, jW, lX, nC, List.map_cons, List.map_nil, List.getElem?_cons_zero, List.getElem?_cons_succ, Option.join_some, Option.bind_some, Option.map_some, List.set_cons_zero, List.set_cons_succ, List.length_cons, List.length_nil, List.cons_append, List.nil_append, List.replicate, Nat.add_sub_cancel, Nat.zero_add, Nat.reduceAdd, Nat.reduceSub, if_true, if_false, Bool.false_eq_true, Bool.not_true, Bool.not_false, decide_true, decide_false, reduceIte, reduceCtorEq, Nat.reduceEqDiff, Nat.reduceLeDiff, tm, kW, f6, qF, mQ, gd, fL, lP, eB, cw, aName, i9, de, List.foldl_cons, List.foldl_nil, Option.map_none, Option.bind_none, List.isEmpty, List.reverse_cons, List.reverse_nil, and_self, and_true, true_and, Option.some.injEq, j9, fj, ka, setG, List.append_nil, vF, xJ, L3.h2, sx, BJ, BH, BI, GC, MM, xM, runM, startM, B0, B1, Fz, oy, pQ, DM, xk, sh, eh, hL, CI, mr, List.length_set, List.append_eq, $xs,*])
local macro_rules | `(tactic| simp!) => `(tactic| simp only [bW, List.map_cons, List.map_nil, List.length_cons, List.length_nil, List.cons_append, List.nil_append, List.replicate])
local macro_rules | `(tactic| dsimp!) => `(tactic| simp only [setG, List.foldl_cons, List.foldl_nil, List.set_cons_succ, List.set_cons_zero])
def top (i:Nat):Stmt:=PySem.Challenge.pw_stepjudge_k28_ranges_of_one_unknown.main.body.getD i (.Pass ⟨0,0,0,0⟩)
structure TX (P:Program) (K:Fg) (mg:Str->Option Value):Prop where
 seer:ua P K mg
 abs:mg "abs"=none
 len:mg "len"=none
 int:mg "int"=none
 isinstance:mg "isinstance"=none
 tuple:mg "tuple"=none
 bool:mg "bool"=none
 range:mg "range"=none
 zip:mg "zip"=none
 list:mg "list"=none
 str:mg "str"=none
 all:mg "all"=none
 enumerate:mg "enumerate"=none
 max:mg "max"=none
theorem sz{n:Nat}(h:n<=1000):n<=sizeLine:=Nat.le_of_lt (iK h)
def nP:List Dat->Option Dat
 |[.int a,.int b]=>if 0<=a/\0<=b then some (.int (gcd a b))else none
 |_=>none
def OH:ay->Nat
 |_::some (.a9 (.int b))::_=>b.natAbs+1
 |_=>0
abbrev Qh:ar->Option Bool:=c9 (f2 ik (aT 1) (fC (Dat.int 0)))
abbrev Qi:ay->Option Fl:=dQ (iB 2 (f2 wZ (aT 0) (aT 1))) (dQ (iB 0 (aT 1)) (iB 1 (aT 2)))
theorem EL(x z:Option Slot)(b:Int)(r:ay):Qh (bH (x::some (.a9 (.int b))::r))=some (!decide (b=0)):=by
 show(ik (.int b) (.int 0)).bind jW=_;rw[fW];rfl
theorem AD:∀(n:Nat) (a b:Int) (r:Option Slot),0<=a->0<=b->b.natAbs<n->∃r',f6 Qh Qi n [some (.a9 (.int a)),some (.a9 (.int b)),r]=some (.nx [some (.a9 (.int (gcd a b))),some (.a9 (.int 0)),r'])
 |0,_,_,_,_,_,h=>by omega
 |n+1,a,b,r,ha,hb,h=>by
  by_cases e:b=0
  ·subst e;refine⟨r,?_⟩;rw[vR (by rw[EL _ none];rfl)];congr
   rw[Int.gcd_zero];omega
  ·have uL:0<=a.fmod b:=Int.fmod_nonneg_of_pos a (by omega);have hm1:a.fmod b<b:=Int.fmod_lt_of_pos a (by omega);have hbody:Qi [some (.a9 (.int a)),some (.a9 (.int b)),r]=some (.nx [some (.a9 (.int b)),some (.a9 (.int (a.fmod b))),some (.a9 (.int (a.fmod b)))]):=by
    refine(aE (tj (d:=.int (a.fmod b)) (iG e))).trans ?_;refine(aE (tj (d:=.int b) rfl)).trans ?_;exact tj (d:=.int (a.fmod b)) rfl
   obtain⟨r',q⟩:=AD n b (a.fmod b) _ hb uL (by omega);refine⟨r',?_⟩;rw[vQ (by rw[EL _ none,decide_eq_false e];rfl) hbody,q,Fr.xQ a b (by omega)]
variable {P:Program} {mg:Str->Option Value} {K:Fg} {base:Heap} {w:World}
theorem Sb(T:TX P K mg)(U:FnAt K mg "common_divisor" (top 1) ["a","b"]):Dn P w K mg base 41 "common_divisor" ["a","b"] 2 nP:=by
 obtain⟨f,fd,U,hm,hB⟩:=U.ex;have nd:(["a","b","rest"]:List Str).Nodup:=by decide +kernel
 refine gA U hm hB (N:=["a","b","rest"]) ⟨rfl,rfl,rfl,by decide +kernel,rfl,by decide +kernel,by decide +kernel⟩ rfl (fun ba A outer s H E hr=>
  (ah (rL OH PassesOwn.never (gZ hr (a7 1) ae) (ah (aF 2 nd (jx (a7 0) (a7 1)))
  (ah (aF 0 nd (a7 1))
  (ak (aF 1 nd (a7 2))))))
  (ak (az (a7 0))))) ?_
 intro ds d hl hF;unfold nP at hF;split at hF
 ·rename_i a b;split at hF
  ·rename_i h;cases hF;obtain⟨r',q⟩:=AD (b.natAbs+1) a b none h.1 h.2 (by omega);refine c8 ?_;refine(aE q).trans ?_;exact zA rfl
  ·cases hF
 ·cases hF
def dw:List Dat->Option Dat
 |[.int n,.int d]=>if d≠0/\d.natAbs.log2<9000000 then some (.tuple [.int (Fr.num n d),.int (Fr.den n d)])else none
 |_=>none
theorem JZ{a b:Nat}(h:a<=b):a.log2<=b.log2:=by
 by_cases ha:a=0
 ·subst ha;exact zero_le _
 ·rw[Nat.le_log2 (by omega)];exact le_trans (Nat.log2_self_le ha) h
theorem Nc(T:TX P K mg)(fM:Dn P w K mg base 41 "common_divisor" ["a","b"] 2 nP)(U:FnAt K mg "make" (top 2) ["n","d"]):Dn P w K mg base 42 "make" ["n","d"] 2 dw:=by
 obtain⟨f,fd,U,hm,hB⟩:=U.ex;have nd:(["n","d","divisor"]:List Str).Nodup:=by decide +kernel
 refine gA U hm hB (N:=["n","d","divisor"]) ⟨rfl,rfl,rfl,by decide +kernel,rfl,by decide +kernel,by decide +kernel⟩ rfl (fun ba A outer s H E hr=>
  (ah (aF 2 nd (aH fM hr (a8 (kI T.abs (a8 (a7 0) af)) (a8 (kI T.abs (a8 (a7 1) af)) af))))
  (ah (aV (jt (a7 1) ae) (ak (aF 2 nd (jw (a7 2)))) aR)
  (ak (az (bf (k:=0) (a8 (fF T.seer hr (a7 0) (a7 2)) (a8 (fF T.seer hr (a7 1) (a7 2)) af)))))))) ?_
 intro ds d' hl hF;unfold dw at hF;split at hF
 ·rename_i n d;split at hF
  ·rename_i h;cases hF;have e1:nP [.int (n.natAbs:Int),.int (d.natAbs:Int)]=some (.int (gcd n d)):=by
    have z:nP [.int (n.natAbs:Int),.int (d.natAbs:Int)]=if 0<=(n.natAbs:Int)/\0<=(d.natAbs:Int)then some (.int (gcd (n.natAbs:Int) (d.natAbs:Int)))else none:=rfl;rw[z,if_pos ⟨Int.natCast_nonneg _,Int.natCast_nonneg _⟩];simp[gcd]
   have hb:(Fr.dv n d).natAbs.log2<9000000:=by
    rw[Fr.sJ];refine lt_of_le_of_lt (JZ ?_) h.2;have:=gcd_dvd_right n d;have:=Int.natAbs_dvd_natAbs.mpr this;exact Nat.le_of_dvd (by omega) (by simpa using this)
   have q1:jH (.int n) (.int (Fr.dv n d))=some (.int (Fr.num n d)):=fT (Fr.vG h.1);have q2:jH (.int d) (.int (Fr.dv n d))=some (.int (Fr.den n d)):=fT (Fr.vG h.1);have z2:2<=sizeLine:=sz (by decide);by_cases hd:d<0
   ·have e2: -(gcd n d:Int)=Fr.dv n d:=by unfold Fr.dv;exact(if_pos hd).symm
    simp only[iC,bW,dQ,iB,mw,kX,ko,oz,c9,mf,f2,f1,aT,fC,bj,cz,nL,pf,jS,dY,sC,pg,uR,pd,kD,lx,jI,bD,bH,jW,lX,nC,map_cons,map_nil,getElem?_cons_zero,getElem?_cons_succ,Option.join_some,Option.bind_some,map_some,set_cons_zero,set_cons_succ,length_cons,length_nil,cons_append,nil_append,List.replicate,add_sub_cancel,zero_add,reduceAdd,reduceSub,if_true,if_false,false_eq_true,Bool.not_true,Bool.not_false,decide_true,decide_false,reduceIte,reduceCtorEq,reduceEqDiff,reduceLeDiff,iI,e1,dE,hd,e2,q1,q2,z2]
   ·have e2:(gcd n d:Int)=Fr.dv n d:=by unfold Fr.dv;exact(if_neg hd).symm
    simp only[iC,bW,dQ,iB,mw,kX,ko,oz,c9,mf,f2,f1,aT,fC,bj,cz,nL,pf,jS,dY,sC,pg,uR,pd,kD,lx,jI,bD,bH,jW,lX,nC,map_cons,map_nil,getElem?_cons_zero,getElem?_cons_succ,Option.join_some,Option.bind_some,map_some,set_cons_zero,set_cons_succ,length_cons,length_nil,cons_append,nil_append,List.replicate,add_sub_cancel,zero_add,reduceAdd,reduceSub,if_true,if_false,false_eq_true,Bool.not_true,Bool.not_false,decide_true,decide_false,reduceIte,reduceCtorEq,reduceEqDiff,reduceLeDiff,iI,e1,dE,hd,e2,q1,q2,z2]
  ·cases hF
 ·cases hF
variable {k:Nat}
theorem log2_small{n:Nat}(hk:0<k)(h:n<2^k):n.log2<k:=by
 by_cases e:n=0
 ·subst e;simpa using hk
 ·exact(Nat.log2_lt e).mpr h
theorem jV(a b:Dat):gE [a,b] 0=some a:=rfl
theorem jU(a b:Dat):gE [a,b] 1=some b:=rfl
variable {b:Int}
theorem tP(a:Int)(h:0<b):0<=a.fmod b/\a.fmod b<b:=⟨Int.fmod_nonneg_of_pos a h,Int.fmod_lt_of_pos a h⟩
theorem mulR(a:Int)(h1: -(2^64)<b)(h2:b<2^64):ib (.int a) (.int b)=some (.int (a*b)):=nD (.of_right (intBits_le_64 h1 h2))
variable {a:Int}
theorem mulL(b:Int)(h1: -(2^64)<a)(h2:a<2^64):ib (.int a) (.int b)=some (.int (a*b)):=nD (.of_left (intBits_le_64 h1 h2))
theorem Bf:FQ (.int 10) (.int 18)=some (.int (10^18)):=fT (by unfold Cp;decide)
theorem Mj(i:Int):mM "int" (.int i)=some (.bool true):=rfl
theorem Mk(i:Int):mM "bool" (.int i)=some (.bool false):=rfl
theorem Ov(ds:List Dat):mM "tuple" (.tuple ds)=some (.bool true):=rfl
theorem Ow(x:Str):mM "str" (.str x)=some (.bool true):=rfl
theorem bits_le{x:Int}(hk:0<k)(h:x.natAbs<2^k):Builtin.Int.intBits x<=k:=by
 have:=log2_small hk h;unfold Builtin.Int.intBits;split
 ·exact zero_le _
 ·omega
theorem Kb{x y:Str}(h:x=y):dU (.str x) (.str y)=some (.bool true):=by
 subst h;show some (Dat.bool _)=_;simp
theorem GJ(a b:Bool):dU (.bool a) (.bool b)=some (.bool (a==b)):=rfl
structure Md (x:Int):Prop where
 lt:x.natAbs<2^4000000
theorem pw(a b:Nat):2^a*2^b=2^(a+b):=(pow_add 2 a b).symm
theorem Md.mul(ha:Md a)(hb:Md b):(a*b).natAbs<2^8000000:=by
 rw[natAbs_mul];have h:=Nat.mul_lt_mul'' ha.lt hb.lt;rw[pw]at h;exact h
theorem mulM(ha:Md a)(hb:Md b):ib (.int a) (.int b)=some (.int (a*b)):=
 nD (.of_le (bits_le (k:=4000000) (by decide) ha.lt) (bits_le (k:=4000000) (by decide) hb.lt) (by decide))
theorem Bp(ha:a.natAbs<2^9000000)(hb:b.natAbs<2^9000000):ib (.int a) (.int b)=some (.int (a*b)):=
 nD (.of_le (bits_le (k:=9000000) (by decide) ha) (bits_le (k:=9000000) (by decide) hb) (by decide))
theorem jy{n d:Int}(h:d≠0)(hb:d.natAbs<2^8000000):dw [.int n,.int d]=some (.tuple [.int (Fr.num n d),.int (Fr.den n d)]):=
 if_pos ⟨h,lt_trans (log2_small (k:=8000000) (by decide) hb) (by decide)⟩
structure Gd (p q:Int):Prop where
 pos:0<q
 IS:gcd p q=1
 mp:Md p
 mq:Md q
abbrev fr (p q:Int):Dat:=.tuple [.int p,.int q]
def kE (g:Int->Int->Int->Int->Option Dat):List Dat->Option Dat:=open Classical in fun ds=>match ds with
 |[.tuple [.int p,.int q],.tuple [.int r,.int s]]=>if Gd p q/\Gd r s then g p q r s else none
 |_=>none
variable {p:Int}
theorem lB{g:Int->Int->Int->Int->Option Dat}{q r s:Int}(h:Gd p q)(h':Gd r s):kE g [fr p q,fr r s]=g p q r s:=by
 unfold kE;exact if_pos ⟨h,h'⟩
abbrev mk (n d:Int):Dat:=fr (Fr.num n d) (Fr.den n d)
abbrev jc:=kE fun p q r s=>some (mk (p*s+r*q) (q*s))
abbrev iT:=kE fun p q r s=>some (mk (p*s-r*q) (q*s))
abbrev i5:=kE fun p q r s=>some (mk (p*r) (q*s))
abbrev sV:=kE fun p q r s=>if r≠0 then some (mk (p*s) (q*r))else none
abbrev gJ:=kE fun p q r s=>some (.bool (decide (p*s<r*q)))
variable {ds:List Dat}
theorem fw{g:Int->Int->Int->Int->Option Dat}{d:Dat}(h:kE g ds=some d):∃p q r s,ds=[fr p q,fr r s]/\Gd p q/\Gd r s/\g p q r s=some d:=by
 unfold kE at h;split at h
 ·split at h
  ·rename_i hc;exact⟨_,_,_,_,rfl,hc.1,hc.2,h⟩
  ·cases h
 ·cases h
theorem N8(T:TX P K mg)(jJ:Dn P w K mg base 42 "make" ["n","d"] 2 dw)(U:FnAt K mg "plus" (top 3) ["a","b"]):Dn P w K mg base 43 "plus" ["a","b"] 2 jc:=by
 obtain⟨f,fd,U,hm,hB⟩:=U.ex;have nd:(["a","b"]:List Str).Nodup:=by decide +kernel
 refine gA U hm hB (N:=["a","b"]) ⟨rfl,rfl,rfl,by decide +kernel,rfl,by decide +kernel,by decide +kernel⟩ rfl (fun ba A outer s H E hr=>
  (ak (az (aH jJ hr (a8 (dW (bE (ao (a7 0) ae) (ao (a7 1) ae)) (bE (ao (a7 1) ae) (ao (a7 0) ae))) (a8 (bE (ao (a7 0) ae) (ao (a7 1) ae)) af)))))) ?_
 intro ds d hl hF;obtain⟨p,q,r,s,rfl,g1,g2,e⟩:=fw hF;have z:=mul_ne_zero (ne_of_gt g1.pos) (ne_of_gt g2.pos);cases e;simp only[iC,bW,dQ,iB,mw,kX,ko,oz,c9,mf,f2,f1,aT,fC,bj,cz,nL,pf,jS,dY,sC,pg,uR,pd,kD,lx,jI,bD,bH,jW,lX,nC,map_cons,map_nil,getElem?_cons_zero,getElem?_cons_succ,Option.join_some,Option.bind_some,map_some,set_cons_zero,set_cons_succ,length_cons,length_nil,cons_append,nil_append,List.replicate,add_sub_cancel,zero_add,reduceAdd,reduceSub,if_true,if_false,false_eq_true,Bool.not_true,Bool.not_false,decide_true,decide_false,reduceIte,reduceCtorEq,reduceEqDiff,reduceLeDiff,tm,kW,f6,qF,mQ,gd,bB,fL,lP,eB,cw,aName,i9,de,foldl_cons,foldl_nil,map_none,bind_none,isEmpty,List.reverse_cons,List.reverse_nil,and_self,and_true,true_and,Option.some.injEq,j9,fj,ka,setG,append_nil,fr,jV,jU,cA,eA,dE,mulM g1.mp g2.mq,mulM g2.mp g1.mq,mulM g1.mq g2.mq,mulM g1.mp g2.mp,mulM g1.mq g2.mp,jy z (g1.mq.mul g2.mq)]
theorem Kj(T:TX P K mg)(jJ:Dn P w K mg base 42 "make" ["n","d"] 2 dw)(U:FnAt K mg "times" (top 5) ["a","b"]):Dn P w K mg base 43 "times" ["a","b"] 2 i5:=by
 obtain⟨f,fd,U,hm,hB⟩:=U.ex;have nd:(["a","b"]:List Str).Nodup:=by decide +kernel
 refine gA U hm hB (N:=["a","b"]) ⟨rfl,rfl,rfl,by decide +kernel,rfl,by decide +kernel,by decide +kernel⟩ rfl (fun ba A outer s H E hr=>
  (ak (az (aH jJ hr (a8 (bE (ao (a7 0) ae) (ao (a7 1) ae)) (a8 (bE (ao (a7 0) ae) (ao (a7 1) ae)) af)))))) ?_
 intro ds d hl hF;obtain⟨p,q,r,s,rfl,g1,g2,e⟩:=fw hF;have z:=mul_ne_zero (ne_of_gt g1.pos) (ne_of_gt g2.pos);cases e;simp only[iC,bW,dQ,iB,mw,kX,ko,oz,c9,mf,f2,f1,aT,fC,bj,cz,nL,pf,jS,dY,sC,pg,uR,pd,kD,lx,jI,bD,bH,jW,lX,nC,map_cons,map_nil,getElem?_cons_zero,getElem?_cons_succ,Option.join_some,Option.bind_some,map_some,set_cons_zero,set_cons_succ,length_cons,length_nil,cons_append,nil_append,List.replicate,add_sub_cancel,zero_add,reduceAdd,reduceSub,if_true,if_false,false_eq_true,Bool.not_true,Bool.not_false,decide_true,decide_false,reduceIte,reduceCtorEq,reduceEqDiff,reduceLeDiff,tm,kW,f6,qF,mQ,gd,bB,fL,lP,eB,cw,aName,i9,de,foldl_cons,foldl_nil,map_none,bind_none,isEmpty,List.reverse_cons,List.reverse_nil,and_self,and_true,true_and,Option.some.injEq,j9,fj,ka,setG,append_nil,fr,jV,jU,cA,eA,dE,mulM g1.mp g2.mq,mulM g2.mp g1.mq,mulM g1.mq g2.mq,mulM g1.mp g2.mp,mulM g1.mq g2.mp,jy z (g1.mq.mul g2.mq)]
theorem Ky(T:TX P K mg)(jJ:Dn P w K mg base 42 "make" ["n","d"] 2 dw)(U:FnAt K mg "below" (top 7) ["a","b"]):Dn P w K mg base 43 "below" ["a","b"] 2 gJ:=by
 obtain⟨f,fd,U,hm,hB⟩:=U.ex;have nd:(["a","b"]:List Str).Nodup:=by decide +kernel
 refine gA U hm hB (N:=["a","b"]) ⟨rfl,rfl,rfl,by decide +kernel,rfl,by decide +kernel,by decide +kernel⟩ rfl (fun ba A outer s H E hr=>
  (ak (az (wy (bE (ao (a7 0) ae) (ao (a7 1) ae)) (bE (ao (a7 1) ae) (ao (a7 0) ae)))))) ?_
 intro ds d hl hF;obtain⟨p,q,r,s,rfl,g1,g2,e⟩:=fw hF;have z:=mul_ne_zero (ne_of_gt g1.pos) (ne_of_gt g2.pos);cases e;simp only[iC,bW,dQ,iB,mw,kX,ko,oz,c9,mf,f2,f1,aT,fC,bj,cz,nL,pf,jS,dY,sC,pg,uR,pd,kD,lx,jI,bD,bH,jW,lX,nC,map_cons,map_nil,getElem?_cons_zero,getElem?_cons_succ,Option.join_some,Option.bind_some,map_some,set_cons_zero,set_cons_succ,length_cons,length_nil,cons_append,nil_append,List.replicate,add_sub_cancel,zero_add,reduceAdd,reduceSub,if_true,if_false,false_eq_true,Bool.not_true,Bool.not_false,decide_true,decide_false,reduceIte,reduceCtorEq,reduceEqDiff,reduceLeDiff,tm,kW,f6,qF,mQ,gd,bB,fL,lP,eB,cw,aName,i9,de,foldl_cons,foldl_nil,map_none,bind_none,isEmpty,List.reverse_cons,List.reverse_nil,and_self,and_true,true_and,Option.some.injEq,j9,fj,ka,setG,append_nil,fr,jV,jU,cA,eA,dE,mulM g1.mp g2.mq,mulM g2.mp g1.mq,mulM g1.mq g2.mq,mulM g1.mp g2.mp,mulM g1.mq g2.mp]
abbrev Ai (x:Int×Int):Dat:=fr x.1 x.2
theorem kG(lo:Int)(n:Nat):(iF lo n).length=n:=by unfold iF;rw[length_map,length_range]
variable {n m:Nat}
theorem M1{a b:Nat}(ha:a<2^n)(hb:b<2^m):a*b<2^(n+m):=by
 have h:=Nat.mul_lt_mul'' ha hb;rw[pw]at h;exact h
def SK (n d:Int):Int×Int:=(Fr.num n d,Fr.den n d)
def pl (x y:Int×Int):Int×Int:=SK (x.1*y.2+y.1*x.2) (x.2*y.2)
def Pq (x y:Int×Int):Bool:=decide (x.1*y.2<y.1*x.2)
theorem me{α β γ:Type}{f:α->β->γ}{z:γ}:∀{xs:List α} {ys:List β},z∈zipWith f xs ys->∃x∈xs,∃y∈ys,z=f x y
 |[],ys,h=>by simp at h
 |x::xs,[],h=>by simp at h
 |x::xs,y::ys,h=>by
  rw[List.zipWith_cons_cons]at h;rcases mem_cons.mp h with e|h
  ·exact⟨x,mem_cons_self,y,mem_cons_self,e⟩
  ·obtain⟨a,ha,b,hb,e⟩:=me h;exact⟨a,mem_cons_of_mem _ ha,b,mem_cons_of_mem _ hb,e⟩
theorem K5{x y:Int×Int}(h:Ai x=Ai y):x=y:=by
 simp only[PySem.W.Dat.tuple.injEq,List.cons.injEq,PySem.W.Dat.int.injEq,and_true]at h;exact Prod.ext h.1 h.2
theorem Kd{d e:Dat}(h1:kqdOk 9 d=true)(h2:kqdOk 9 e=true)(n1:∀b,d≠.bool b)(n2:∀b,d≠.str b):eqB d e=some (k7 d e):=by
 unfold eqB;split
 ·exact absurd rfl (n1 _)
 ·exact absurd rfl (n2 _)
 ·exact if_pos ⟨h1,h2⟩
theorem Ao(x y:Int×Int):dU (Ai x) (Ai y)=some (.bool (decide (x=y))):=by
 unfold dU;rw[Kd rfl rfl (fun b h=>by cases h) (fun b h=>by cases h)];by_cases e:x=y
 ·subst e;rw[mS rfl,decide_eq_true rfl];rfl
 ·rw[pA fun z=>e (K5 z),decide_eq_false e];rfl
theorem JX(x y:Int×Int):ik (Ai x) (Ai y)=some (.bool (!decide (x=y))):=by
 have h:=Ao x y;unfold dU at h;unfold ik;obtain⟨k,e1,e2⟩:=aU h;rw[e1];injection e2 with e2;show some (Dat.bool (!k))=_;rw[e2]
theorem cJ(x y:Str):dU (.str x) (.str y)=some (.bool (decide (x=y))):=rfl
theorem wX(x y:Str):ik (.str x) (.str y)=some (.bool (!decide (x=y))):=rfl
theorem Sh(x y z:Dat):gE [x,y,z] 0=some x:=rfl
theorem Sf(x y z:Dat):gE [x,y,z] 1=some y:=rfl
theorem Se(x y z:Dat):gE [x,y,z] 2=some z:=rfl
abbrev qD (q:Rat):Dat:=.tuple [.int q.num,.int (q.den:Int)]
structure SR (n:Nat) (q:Rat):Prop where
 ln:q.num.natAbs<2^n
 ld:q.den<2^n
variable {q:Rat}
theorem SR.up(h:SR n q)(hn:n<=m):SR m q:=⟨lt_of_lt_of_le h.ln (pow_le_pow_right (by decide) hn),lt_of_lt_of_le h.ld (pow_le_pow_right (by decide) hn)⟩
theorem SR.gd(h:SR n q)(hn:n<=4000000):Gd q.num (q.den:Int):=⟨by have:=q.den_pos;omega,by show Nat.gcd _ _=1;rw[natAbs_natCast];exact q.reduced,⟨(h.up hn).ln⟩,⟨by rw[natAbs_natCast];exact(h.up hn).ld⟩⟩
variable {a b:Rat}
theorem sT(ha:SR n a)(hb:SR m b)(hn:n<=4000000)(hm:m<=4000000):jc [qD a,qD b]=some (qD (a+b)):=by
 have:=lB (g:=fun p q r s=>some (mk (p*s+r*q) (q*s))) (ha.gd hn) (hb.gd hm);obtain⟨e1,e2⟩:=Fr.zF a b;refine this.trans (congrArg some ?_);show Dat.tuple [.int (Fr.num _ _),.int (Fr.den _ _)]=_;rw[e1,e2]
theorem ub(ha:SR n a)(hb:SR m b)(hn:n<=4000000)(hm:m<=4000000):iT [qD a,qD b]=some (qD (a-b)):=by
 have:=lB (g:=fun p q r s=>some (mk (p*s-r*q) (q*s))) (ha.gd hn) (hb.gd hm);obtain⟨e1,e2⟩:=Fr.Jq a b;refine this.trans (congrArg some ?_);show Dat.tuple [.int (Fr.num _ _),.int (Fr.den _ _)]=_;rw[e1,e2]
theorem qa(ha:SR n a)(hb:SR m b)(hn:n<=4000000)(hm:m<=4000000):i5 [qD a,qD b]=some (qD (a*b)):=by
 have:=lB (g:=fun p q r s=>some (mk (p*r) (q*s))) (ha.gd hn) (hb.gd hm);obtain⟨e1,e2⟩:=Fr.zE a b;refine this.trans (congrArg some ?_);show Dat.tuple [.int (Fr.num _ _),.int (Fr.den _ _)]=_;rw[e1,e2]
theorem NB(ha:SR n a)(hb:SR m b)(hn:n<=4000000)(hm:m<=4000000)(h0:b.num≠0):sV [qD a,qD b]=some (qD (a/b)):=by
 have:=lB (g:=fun p q r s=>if r≠0 then some (mk (p*s) (q*r))else none) (ha.gd hn) (hb.gd hm);rw[if_pos h0]at this;obtain⟨e1,e2⟩:=Fr.Jr a b h0;refine this.trans (congrArg some ?_);show Dat.tuple [.int (Fr.num _ _),.int (Fr.den _ _)]=_;rw[e1,e2]
theorem mV(ha:SR n a)(hb:SR m b)(hn:n<=4000000)(hm:m<=4000000):gJ [qD a,qD b]=some (.bool (decide (a<b))):=by
 have:=lB (g:=fun p q r s=>some (.bool (decide (p*s<r*q)))) (ha.gd hn) (hb.gd hm);rw[show gJ [qD a,qD b]=_ from this];congr 2
 exact decide_eq_decide.mpr (Fr.Lo a b).symm
theorem AX{N D:Int}(hD:D≠0)(h1:Fr.num N D=q.num)(h2:Fr.den N D=(q.den:Int))(hn:N.natAbs<2^n)(hd:D.natAbs<2^n):SR n q:=by
 have a:=Fr.BZ (n:=N) (d:=D) hD;have b:=Fr.C0 (n:=N) (d:=D) hD;rw[h1]at a;rw[h2,natAbs_natCast]at b;exact⟨lt_of_le_of_lt a hn,lt_of_le_of_lt b hd⟩
theorem EC(q:Rat):(q.den:Int)≠0:=by have:=q.den_pos;omega
variable {a b:Int}
theorem g9(ha:a.natAbs<2^n)(hb:b.natAbs<2^m):(a*b).natAbs<2^(n+m):=by rw[natAbs_mul];exact M1 ha hb
theorem yj(ha:a.natAbs<2^n)(hb:b.natAbs<2^n):(a+b).natAbs<2^(n+1):=by
 have e:(2:Nat)^(n+1)=2^n*2:=Nat.pow_succ 2 n;rw[e];generalize (2:Nat)^n=z at *;omega
theorem Nq(ha:a.natAbs<2^n)(hb:b.natAbs<2^n):(a-b).natAbs<2^(n+1):=by
 have e:(2:Nat)^(n+1)=2^n*2:=Nat.pow_succ 2 n;rw[e];generalize (2:Nat)^n=z at *;omega
theorem gn{x:Nat}(h:x<2^n)(hn:n<=m):x<2^m:=lt_of_lt_of_le h (pow_le_pow_right (by decide) hn)
theorem SR.dn(h:SR n q):(q.den:Int).natAbs<2^n:=by rw[natAbs_natCast];exact h.ld
theorem SR.add{a b:Rat}(ha:SR n a)(hb:SR m b):SR (n+m+1) (a+b):=by
 obtain⟨e1,e2⟩:=Fr.zF a b;refine AX (mul_ne_zero (EC a) (EC b)) e1 e2 (yj (g9 ha.ln hb.dn) (by rw[Nat.add_comm n m];exact g9 hb.ln ha.dn)) (gn (g9 ha.dn hb.dn) (by omega))
theorem SR.mul{a b:Rat}(ha:SR n a)(hb:SR m b):SR (n+m) (a*b):=by
 obtain⟨e1,e2⟩:=Fr.zE a b;exact AX (mul_ne_zero (EC a) (EC b)) e1 e2 (g9 ha.ln hb.ln) (g9 ha.dn hb.dn)
theorem Kq(T:TX P K mg)(jJ:Dn P w K mg base 42 "make" ["n","d"] 2 dw)(U:FnAt K mg "minus" (top 4) ["a","b"]):Dn P w K mg base 43 "minus" ["a","b"] 2 iT:=by
 obtain⟨f,fd,U,hm,hB⟩:=U.ex;have nd:(["a","b"]:List Str).Nodup:=by decide +kernel
 refine gA U hm hB (N:=["a","b"]) ⟨rfl,rfl,rfl,by decide +kernel,rfl,by decide +kernel,by decide +kernel⟩ rfl (fun ba A outer s H E hr=>
  (ak (az (aH jJ hr (a8 (mz (bE (ao (a7 0) ae) (ao (a7 1) ae)) (bE (ao (a7 1) ae) (ao (a7 0) ae))) (a8 (bE (ao (a7 0) ae) (ao (a7 1) ae)) af (hs:=bO)) (hs:=bO)))))) ?_
 intro ds d hl hF;obtain⟨p,q,r,s,rfl,g1,g2,e⟩:=fw hF;have z:=Int.mul_pos g1.pos g2.pos;cases e;simp![jV,jU,mulM g1.mp g2.mq,mulM g2.mp g1.mq,mulM g1.mq g2.mq,eA,jy (ne_of_gt z) (g1.mq.mul g2.mq)]
theorem N9(T:TX P K mg)(jJ:Dn P w K mg base 42 "make" ["n","d"] 2 dw)(U:FnAt K mg "over" (top 6) ["a","b"]):Dn P w K mg base 43 "over" ["a","b"] 2 sV:=by
 obtain⟨f,fd,U,hm,hB⟩:=U.ex;have nd:(["a","b"]:List Str).Nodup:=by decide +kernel
 refine gA U hm hB (N:=["a","b"]) ⟨rfl,rfl,rfl,by decide +kernel,rfl,by decide +kernel,by decide +kernel⟩ rfl (fun ba A outer s H E hr=>
  (ak (az (aH jJ hr (a8 (bE (ao (a7 0) ae) (ao (a7 1) ae)) (a8 (bE (ao (a7 0) ae) (ao (a7 1) ae)) af (hs:=bO)) (hs:=bO)))))) ?_
 intro ds d hl hF;obtain⟨p,q,r,s,rfl,g1,g2,e⟩:=fw hF;by_cases h0:r≠0
 ·rw[if_pos h0]at e;have z:q*r≠0:=mul_ne_zero (ne_of_gt g1.pos) h0;cases e;simp![jV,jU,mulM g1.mp g2.mq,mulM g1.mq g2.mp,jy z (g1.mq.mul g2.mp)]
 ·rw[if_neg h0]at e;cases e
def bF:FM.Kn->Str
 | .eq=>"="
 | .le=>"<="
 | .lt=>"<"
def aG (r:FM.Row):Dat:=d8 (bF r.1,r.2)
abbrev eJ (l:List Int):Dat:=.tuple (l.map Dat.int)
theorem K0{a b:FM.Kn}(h:bF a=bF b):a=b:=by cases a<;>cases b<;>first|rfl|exact absurd h (by decide +kernel)
theorem zB{a b:FM.Row}(h:aG a=aG b):a=b:=by
 have:=nc h;obtain⟨e1,e2⟩:=Prod.mk.inj this;exact Prod.ext (K0 e1) e2
theorem jD(k:FM.Kn):(bF k="=")↔k=.eq:=by cases k<;>simp[bF]<;>decide +kernel
theorem Bs(k:FM.Kn):(bF k="<")↔k=.lt:=by cases k<;>simp[bF]<;>decide +kernel
theorem jh(r:FM.Row):bB (aG r) (.int 0)=some (.str (bF r.1)):=rfl
theorem gP(r:FM.Row):bB (aG r) (.int 1)=some (eJ r.2):=rfl
variable {j:Nat}
theorem fZ{l:List Int}(h:j<l.length):bB (eJ l) (.int (j:Int))=some (.int (l.getD j 0)):=by
 show gE (l.map Dat.int) (j:Int)=_;unfold L2.gE L2.qk;rw[if_pos (by omega),if_pos (by rw[length_map];omega)];show(l.map Dat.int)[((j:Int)).toNat]?=_;rw[toNat_natCast,getElem?_map,getD_eq_getElem?_getD,getElem?_eq_getElem h];rfl
theorem M6{l:List Int}{x:Int}(h:x∈l)(hx:x≠0):FM.lowG l<=x.natAbs:=Nat.le_of_dvd (by omega) (Int.ofNat_dvd_left.mp (FM.l9 h))
theorem EH(T:TX P K mg)(fM:Dn P w K mg base 41 "common_divisor" ["a","b"] 2 nP)(U:FnAt K mg "lowered" (top 11) ["numbers"]):
  ∃F,Dn P w K mg base 42 "lowered" ["numbers"] 1 F/\∀(l:List Int),l.length<=900->(∀x∈l,x.natAbs<2^9000000)->(∃x∈l,x≠0)->F [.list (l.map .int)]=some (eJ (FM.lowered l)):=by
 refine⟨_,cN ["numbers","divisor","number"] U fun nd _ _ _ _ _ _ _ hr=>
  (ah (aF 1 nd ae)
  (ah (gk PassesOwn.never rfl (a7 0) (aJ 2 nd)
  (ak (aF 1 nd (aH fM hr (a8 (a7 1) (a8 (kI T.abs (a8 (a7 2) af)) af (hs:=bA)))))))
  (ak (az (oH T.tuple (a8 (dD (jN rfl (eZ (tn:=["number"]) (fv:=["divisor"]) (js:=[1]) rfl (by decide +kernel) (by decide +kernel) rfl (by decide +kernel) (by decide +kernel) rfl
   (fun x hx=>by((have gC:x="divisor":=(by simpa using hx));(rcases gC with rfl<;>exact⟨_,rfl⟩)))
   (fun p hp=>by((have fo:p=(("divisor" : Str),(1:Nat)):=(by simpa using hp));(rcases fo with rfl<;>exact⟨rfl,.inr (.inl rfl),.inl rfl,fun z=>by cases z⟩)))) (a7 0) (fun _ _ _ _=>(aJ 0 (show(["number","divisor"]:List Str).Nodup by decide +kernel))) (fun _ _ _ _=>eK) (fun _ _ _ _=>(fF T.seer hr (a7 0) (a7 1))) (fz rfl))) af)))))),?_⟩
 intro l hl hb ⟨x0,DO,bQ⟩;have hp:=FM.qO DO bQ;have Ti:((FM.lowG l:Int)).natAbs.log2<9000000:=by
  refine log2_small (k:=9000000) (by decide) ?_;rw[natAbs_natCast];exact lt_of_le_of_lt (M6 DO bQ) (hb x0 DO)
 have zl:l.length<sizeLine:=lt_of_lt_of_le (show l.length<1000 by omega) (sz (by decide));refine c8 ?_;simp!;rw[aE (aj:=[some (.a9 (.list (l.map .int))),some (.a9 (.int 0)),none]) (by simp![])];refine iW (I:=_) (iR (l:=l) (s:=0) Dat.int (fun(g:Nat) Γ=>∃u,Γ=[some (.a9 (.list (l.map .int))),some (.a9 (.int (g:Int))),u]) (fun _ _=>True) (fun g x=>Nat.gcd g x.natAbs) (d:=.list (l.map .int)) rfl rfl trivial ⟨none,rfl⟩ ?_) ?_
 ·rintro g x l' Γ _ ⟨u,rfl⟩;refine⟨[(2,.int x)],rfl,?_⟩;dsimp!;have e1:nP [.int (g:Int),.int (x.natAbs:Int)]=some (.int ((Nat.gcd g x.natAbs:Nat):Int)):=by
   show(if 0<=(g:Int)/\0<=(x.natAbs:Int)then some (Dat.int (gcd (g:Int) (x.natAbs:Int)))else none)=_;rw[if_pos ⟨by omega,by omega⟩];rfl
  exact⟨[some (.a9 (.list (l.map .int))),some (.a9 (.int ((Nat.gcd g x.natAbs:Nat):Int))),some (.a9 (.int x))],by simp![iI,e1],⟨_,rfl⟩,trivial⟩
 ·rintro aj ⟨u,rfl⟩;have eG:(l.foldl (fun g x=>Nat.gcd g x.natAbs) 0:Nat)=FM.lowG l:=rfl;rw[eG];have ec:cw (aName 0) gN (L3.f2 jH (aT 0) (aT 1)) [none,some (.int (FM.lowG l:Int))] (l.map .int)=some ((FM.lowered l).map .int):=by
   refine eY _ _ (by rw[length_map,length_map,FM.qj]) fun i d o h1 h2=>?_;unfold FM.lowered at h2;rw[getElem?_map]at h1 h2;rw[getElem?_map]at h2;cases hq:l[i]? with
   |none=>rw[hq]at h1;cases h1
   |some x=>
    rw[hq]at h1 h2;cases h1;cases h2;refine⟨[(0,.int x)],rfl,?_⟩;have e:=p8 (a:=x) (b:=(FM.lowG l:Int)) (by omega) Ti;simp![e]
  simp![length_map,zl,ec]
theorem vN:∀(xs ys:List Int),eh (xs.map Dat.int) (ys.map Dat.int)=(xs.zip ys).map fun z=>Dat.tuple [.int z.1,.int z.2]
 |[],ys=>by simp[eh]
 |x::xs,[]=>by simp[eh]
 |x::xs,y::ys=>by simp only[map_cons,eh,zip_cons_cons,vN xs ys]
theorem Kp(T:TX P K mg){Fl:List Dat->Option Dat}(Ht:Dn P w K mg base 42 "lowered" ["numbers"] 1 Fl)(hL:∀(l:List Int),l.length<=900->(∀x∈l,x.natAbs<2^9000000)->(∃x∈l,x≠0)->Fl [.list (l.map .int)]=some (eJ (FM.lowered l)))(U:FnAt K mg "mixed" (top 14) ["one","much","other","more"]):
  ∃F,Dn P w K mg base 43 "mixed" ["one","much","other","more"] 4 F/\∀(b:Nat) (one other:List Int) (bJ more:Int),b<=4400000->one.length<=900->(∀x∈one,x.natAbs<2^b)->(∀x∈other,x.natAbs<2^b)->bJ.natAbs<2^b->more.natAbs<2^b->(∃x∈FM.f9 one bJ other more,x≠0)->
   F [eJ one,.int bJ,eJ other,.int more]=some (eJ (FM.mixed one bJ other more))/\∀x∈FM.mixed one bJ other more,x.natAbs<2^(2*b+1):=by
 refine⟨_,cN ["one","much","other","more"] U fun nd _ _ _ _ _ _ _ hr=>
  (ak (az (aH Ht hr (a8 (dD (kv rfl (eZ (tn:=["a","b"]) (fv:=["much","more"]) (js:=[1,3]) rfl (by decide +kernel) (by decide +kernel) rfl (by decide +kernel) (by decide +kernel) rfl
   (fun x hx=>by((have gC:x="much"\/x="more":=(by simpa using hx));(rcases gC with rfl|rfl<;>exact⟨_,rfl⟩)))
   (fun p hp=>by((have fo:p=(("much" : Str),(1:Nat))\/p=(("more" : Str),(3:Nat)):=(by simpa using hp));(rcases fo with rfl|rfl<;>exact⟨rfl,.inr (.inl rfl),.inl rfl,fun z=>by cases z⟩)))) (ng T.zip (a8 (a7 0) (a8 (a7 2) af))) (fun _ _ _ _=>(dC (n:=2) rfl (aY (aJ 0 (show(["a","b","much","more"]:List Str).Nodup by decide +kernel)) (aY (aJ 1 (show(["a","b","much","more"]:List Str).Nodup by decide +kernel)) cR)))) (fun _ _ _ _=>eK) (fun _ _ _ _=>(dW (bE (a7 2) (a7 0)) (bE (a7 3) (a7 1)))) (rA rfl rfl))) af)))),?_⟩
 intro b one other bJ more hb h9 h1 h2 h3 h4 bQ;have bd:∀x∈FM.f9 one bJ other more,x.natAbs<2^(2*b+1):=fun x hx=>by
  obtain⟨p,hp,q,hq,rfl⟩:=me (show x∈zipWith (fun a b=>bJ*a+more*b) one other from hx);rw[show 2*b=b+b by omega];exact yj (g9 h3 (h1 p hp)) (g9 h4 (h2 q hq))
 have ml:(FM.f9 one bJ other more).length<=900:=by
  show(zipWith _ one other).length<=900;rw[List.length_zipWith];omega
 have eL:=hL (FM.f9 one bJ other more) ml (fun x hx=>gn (bd x hx) (by omega)) bQ;constructor
 ·have zl:(one.zip other).length<sizeLine:=by rw[length_zip];exact lt_of_lt_of_le (show min one.length other.length<1000 by omega) (sz (by decide))
  have ec:cw (j9 2 (fj (aName 0) (fj (aName 1) ka))) gN (L3.f2 k9 (L3.f2 ib (aT 2) (aT 0)) (L3.f2 ib (aT 3) (aT 1))) [none,none,some (.int bJ),some (.int more)] ((one.zip other).map fun z=>Dat.tuple [.int z.1,.int z.2])=some ((FM.f9 one bJ other more).map .int):=by
   have es:FM.f9 one bJ other more=(one.zip other).map fun z=>bJ*z.1+more*z.2:=by
    show zipWith _ one other=_;clear eL ml bd bQ h1 h2 h9 zl;induction one generalizing other with
    |nil=>simp
    |cons x one ih=>
     cases other with
     |nil=>simp
     |cons y other=>rw[List.zipWith_cons_cons,zip_cons_cons,map_cons,ih]
   rw[es];refine eY _ _ (by rw[length_map,length_map,length_map]) fun i d o g1 g2=>?_;rw[getElem?_map]at g1 g2;rw[getElem?_map]at g2;cases hq:(one.zip other)[i]? with
   |none=>rw[hq]at g1;cases g1
   |some z=>
    rw[hq]at g1 g2;cases g1;cases g2;obtain⟨Mq,Mp⟩:=of_mem_zip (mem_of_getElem? hq);refine⟨[(0,.int z.1),(1,.int z.2)],rfl,?_⟩;have e1:=Bp (a:=bJ) (b:=z.1) (gn h3 (by omega)) (gn (h1 z.1 Mq) (by omega));have e2:=Bp (a:=more) (b:=z.2) (gn h4 (by omega)) (gn (h2 z.2 Mp) (by omega));simp![e1,e2,cA]
  simp![ir,vN,length_map,zl,ec,eL];rfl
 ·intro x hx;obtain⟨y,hy,rfl⟩:=mem_map.mp (show x∈(FM.f9 one bJ other more).map (fun x=>x.fdiv (FM.lowG (FM.f9 one bJ other more):Int))from hx);refine lt_of_le_of_lt ?_ (bd y hy);obtain⟨c,hc⟩:=FM.l9 hy;obtain⟨x0,DO,h0⟩:=bQ;have gp:=FM.qO DO h0;generalize (FM.lowG (FM.f9 one bJ other more))=g at hc gp;rw[hc,mul_comm,Int.mul_fdiv_cancel _ (by omega),natAbs_mul,natAbs_natCast];exact Nat.le_mul_of_pos_right _ gp
structure km (m b:Nat) (rows:List FM.Row):Prop where
 len:∀r∈rows,r.2.length=m
 bd:∀r∈rows,∀x∈r.2,x.natAbs<2^b
theorem cX{r:FM.Row}{b:Nat}(h:∀x∈r.2,x.natAbs<2^b):(FM.ent r j).natAbs<2^b:=by
 by_cases c:FM.ent r j=0
 ·rw[c];exact pow_pos (by decide)
 ·exact h _ (FM.mem_getD c)
def qK:Option FM.Row->Dat
 |none=>.none
 |some r=>aG r
theorem Kv(T:TX P K mg)(U:FnAt K mg "equal_row" (top 15) ["rows","place"]):
  ∃F,Dn P w K mg base 41 "equal_row" ["rows","place"] 2 F/\∀(rows:List FM.Row) (j m:Nat),(∀r∈rows,r.2.length=m)->j<m->F [.list (rows.map aG),.int (j:Int)]=some (qK (FM.dG j rows)):=by
 refine⟨_,cN ["rows","place","row"] U fun nd _ _ _ _ _ _ _ hr=>
  (ah (gk PassesOwn.never rfl (a7 0) (aJ 2 nd)
  (ak (aV (cx (f7 (cq hr (ao (a7 2) ae) aX) (eV (gZ hr (ao (ao (a7 2) ae) (a7 1)) ae)))) (ak (az (a7 2))) aR)))
  (ak (az bg))),?_⟩
 intro rows j m hl hj;refine c8 ?_;simp!;refine(uQ (l:=rows) aG (fun Γ=>∃u,Γ=[some (.a9 (.list (rows.map aG))),some (.a9 (.int (j:Int))),u]) (fun r=>decide (r.1=.eq/\FM.ent r j≠0)) aG (d:=.list (rows.map aG)) (fl:=fun o=>.rt (qK o)) rfl rfl ⟨none,rfl⟩ ?_ (fun _=>rfl) ?_)
 ·rintro r hr Γ ⟨u,rfl⟩;refine⟨[(2,aG r)],rfl,?_⟩;dsimp!;have a1:=fZ (l:=r.2) (j:=j) (by rw[hl r hr];exact hj);have a0:FM.ent r j=r.2.getD j 0:=rfl;by_cases c1:r.1=.eq
  ·have k1:=(jD r.1).mpr c1;by_cases c2:r.2.getD j 0=0
   ·rw[if_neg (by rw[a0,decide_eq_true_eq];exact fun z=>z.2 c2)];refine⟨[some (.a9 (.list (rows.map aG))),some (.a9 (.int (j:Int))),some (.a9 (aG r))],?_,_,rfl⟩;dsimp![jh,gP,a1,cJ,fW,eq_true k1,eq_true c2]
   ·rw[if_pos (by rw[a0];exact decide_eq_true ⟨c1,c2⟩)];dsimp![jh,gP,a1,cJ,fW,eq_true k1,eq_false c2]
  ·have k1:¬bF r.1="=":=fun z=>c1 ((jD r.1).mp z);rw[if_neg (by simp[c1])];refine⟨[some (.a9 (.list (rows.map aG))),some (.a9 (.int (j:Int))),some (.a9 (aG r))],?_,_,rfl⟩;dsimp![jh,gP,a1,cJ,fW,eq_false k1]
 ·rintro aj ⟨u,rfl⟩;simp![qK]
abbrev NF (Fm:List Dat->Option Dat):Prop:=∀(b:Nat) (one other:List Int) (bJ more:Int),b<=4400000->one.length<=900->(∀x∈one,x.natAbs<2^b)->(∀x∈other,x.natAbs<2^b)->bJ.natAbs<2^b->more.natAbs<2^b->(∃x∈FM.f9 one bJ other more,x≠0)->
   Fm [eJ one,.int bJ,eJ other,.int more]=some (eJ (FM.mixed one bJ other more))/\∀x∈FM.mixed one bJ other more,x.natAbs<2^(2*b+1)
abbrev Ql (F:List Dat->Option Dat):Prop:=∀(b m j:Nat) (r q:FM.Row),b<=4400000->m<=900->j<m->r.2.length=m->q.2.length=m->(∀x∈r.2,x.natAbs<2^b)->(∀x∈q.2,x.natAbs<2^b)->(∃x∈FM.f9 r.2 ((FM.ent q j).natAbs:Int) q.2 (if 0<FM.ent q j then -FM.ent r j else FM.ent r j),x≠0)->
   F [aG r,aG q,.int (j:Int)]=some (aG (FM.wo q j r))/\∀x∈(FM.wo q j r).2,x.natAbs<2^(2*b+1)
theorem EF(T:TX P K mg){Fm:List Dat->Option Dat}(yF:Dn P w K mg base 43 "mixed" ["one","much","other","more"] 4 Fm)(hM:NF Fm)(U:FnAt K mg "without" (top 16) ["row","equal","place"]):
  ∃F,Dn P w K mg base 44 "without" ["row","equal","place"] 3 F/\Ql F:=by
 refine⟨_,cN ["row","equal","place","part","more"] U fun nd _ _ _ _ _ _ _ hr=>
  (ah (aF 3 nd (ao (ao (a7 1) ae) (a7 2)))
  (ah (aF 4 nd (eX (my (a7 3) ae) (jw (ao (ao (a7 0) ae) (a7 2))) (ao (ao (a7 0) ae) (a7 2))))
  (ak (az (bf (k:=0) (a8 (ao (a7 0) ae) (a8 (aH yF hr (a8 (ao (a7 0) ae) (a8 (kI T.abs (a8 (a7 3) af)) (a8 (ao (a7 1) ae) (a8 (a7 4) af) (hs:=aW)) (hs:=bA)) (hs:=aW))) af (hs:=bA)) (hs:=aW))))))),?_⟩
 intro b m j r q hb mO hj hr hq br bq bQ;have z2:2<=sizeLine:=sz (by decide);have a1:=fZ (l:=r.2) (j:=j) (by omega);have a2:=fZ (l:=q.2) (j:=j) (by omega);have m1:(((FM.ent q j).natAbs:Int)).natAbs<2^b:=by rw[natAbs_natCast];exact cX bq
 have m2:(if 0<FM.ent q j then -FM.ent r j else FM.ent r j).natAbs<2^b:=by
  split
  ·rw[natAbs_neg];exact cX br
  ·exact cX br
 obtain⟨e,MG⟩:=hM b r.2 q.2 _ _ hb (by omega) br bq m1 m2 bQ;refine⟨?_,MG⟩;have Uo:q.2.getD j 0=FM.ent q j:=rfl;have Um:r.2.getD j 0=FM.ent r j:=rfl;rw[Um]at a1;rw[Uo]at a2;have er:aG (FM.wo q j r)=.tuple [.str (bF r.1),eJ (FM.mixed r.2 ((FM.ent q j).natAbs:Int) q.2 (if 0<FM.ent q j then -FM.ent r j else FM.ent r j))]:=rfl;rw[er];by_cases c:0<FM.ent q j
 ·rw[if_pos c]at e ⊢;dsimp![jh,gP,a1,a2,fB,iI,eq_true c,e,z2]
 ·rw[if_neg c]at e ⊢;dsimp![jh,gP,a1,a2,fB,iI,eq_false c,e,z2]
abbrev QJ (F:List Dat->Option Dat):Prop:=∀(b m j:Nat) (u l:FM.Row),b<=4400000->m<=900->j<m->u.2.length=m->l.2.length=m->(∀x∈u.2,x.natAbs<2^b)->(∀x∈l.2,x.natAbs<2^b)->(∃x∈FM.f9 u.2 (-FM.ent l j) l.2 (FM.ent u j),x≠0)->
   F [aG u,aG l,.int (j:Int)]=some (aG (FM.joined j u l))/\∀x∈(FM.joined j u l).2,x.natAbs<2^(2*b+1)
theorem GX(T:TX P K mg){Fm:List Dat->Option Dat}(yF:Dn P w K mg base 43 "mixed" ["one","much","other","more"] 4 Fm)(hM:NF Fm)(U:FnAt K mg "joined" (top 17) ["upper","lower","place"]):
  ∃F,Dn P w K mg base 44 "joined" ["upper","lower","place"] 3 F/\QJ F:=by
 refine⟨_,cN ["upper","lower","place","kind"] U fun nd _ _ _ _ _ _ _ hr=>
  (ah (aF 3 nd (eX (zH aX (bf (k:=0) (a8 (ao (a7 0) ae) (a8 (ao (a7 1) ae) af (hs:=aW)) (hs:=aW)))) aX aX))
  (ak (az (bf (k:=0) (a8 (a7 3) (a8 (aH yF hr (a8 (ao (a7 0) ae) (a8 (jw (ao (ao (a7 1) ae) (a7 2))) (a8 (ao (a7 1) ae) (a8 (ao (ao (a7 0) ae) (a7 2)) af (hs:=aW)) (hs:=aW)) (hs:=zy)) (hs:=aW))) af (hs:=bA))))))),?_⟩
 intro b m j u l hb mO hj hu hl bu bl bQ;have z2:2<=sizeLine:=sz (by decide);have a1:=fZ (l:=u.2) (j:=j) (by omega);have a2:=fZ (l:=l.2) (j:=j) (by omega);obtain⟨e,MG⟩:=hM b u.2 l.2 (-FM.ent l j) (FM.ent u j) hb (by omega) bu bl (by rw[natAbs_neg];exact cX bl) (cX bu) bQ;refine⟨?_,MG⟩;have Ul:u.2.getD j 0=FM.ent u j:=rfl;have Uq:l.2.getD j 0=FM.ent l j:=rfl;rw[Ul]at a1;rw[Uq]at a2;have er:aG (FM.joined j u l)=.tuple [.str (bF (if u.1=.lt\/l.1=.lt then .lt else .le)),eJ (FM.mixed u.2 (-FM.ent l j) l.2 (FM.ent u j))]:=rfl;rw[er];have ei:inD (.str "<") (.tuple [.str (bF u.1),.str (bF l.1)])=some (.bool (decide (u.1=.lt\/l.1=.lt))):=by
  cases xo:u.1<;>cases xA:l.1<;>rfl
 by_cases c:u.1=.lt\/l.1=.lt
 ·rw[decide_eq_true c]at ei;rw[if_pos c];have ks:bF .lt="<":=rfl;dsimp![jh,gP,a1,a2,ei,e,z2,ks]
 ·rw[decide_eq_false c]at ei;rw[if_neg c];have ks:bF .le="<=":=rfl;dsimp![jh,gP,a1,a2,ei,e,z2,ks]
variable {α:Type}
theorem pX(g:α->Dat)(xs:List α):lb [.list (xs.map g)]=some (.int xs.length):=by show some (Dat.int ((xs.map g).length:Nat))=_;rw[length_map]
abbrev nat (p:Nat):Dat:=.int (p:Int)
abbrev QR (F:List Dat->Option Dat):Prop:=∀(m:Nat) (aA:List Nat) (u l:FM.Row),aA.length<=900->u.2.length=m->l.2.length=m->(∀p∈aA,p<m)->F [aG u,aG l,.list (aA.map nat)]=some (.int (FM.drawn aA u l:Nat))
theorem Kx(T:TX P K mg)(U:FnAt K mg "drawn_on" (top 18) ["one","other","weighed"]):
  ∃F,Dn P w K mg base 41 "drawn_on" ["one","other","weighed"] 3 F/\QR F:=by
 refine⟨_,cN ["one","other","weighed"] U fun nd _ _ _ _ _ _ _ hr=>
  (ak (az (fA T.len (a8 (dD (jN rfl (eZ (tn:=["place"]) (fv:=["other","one"]) (js:=[1,0]) rfl (by decide +kernel) (by decide +kernel) rfl (by decide +kernel) (by decide +kernel) rfl
   (fun x hx=>by((have gC:x="other"\/x="one":=(by simpa using hx));(rcases gC with rfl|rfl<;>exact⟨_,rfl⟩)))
   (fun p hp=>by((have fo:p=(("other" : Str),(1:Nat))\/p=(("one" : Str),(0:Nat)):=(by simpa using hp));(rcases fo with rfl|rfl<;>exact⟨rfl,.inr (.inl rfl),.inl rfl,fun z=>by cases z⟩)))) (a7 2) (fun _ _ _ _=>(aJ 0 (show(["place","other","one"]:List Str).Nodup by decide +kernel))) (fun _ _ _ _=>(jM (cx (cF (gZ hr (ao (ao (a7 2) ae) (a7 0)) ae) (cP (gZ hr (ao (ao (a7 1) ae) (a7 0)) ae)))))) (fun _ _ _ _=>(a7 0)) (fz rfl))) af)))),?_⟩
 intro m aA u l hw hu hl hp;have zl:aA.length<sizeLine:=lt_of_lt_of_le (show aA.length<1000 by omega) (sz (by decide));have ec:cw (aName 0) (lx (c9 (L3.f2 ik (L3.f2 bB (L3.f2 bB (aT 2) (fC (.int 1))) (aT 0)) (fC (.int 0)))) (c9 (L3.f2 ik (L3.f2 bB (L3.f2 bB (aT 1) (fC (.int 1))) (aT 0)) (fC (.int 0))))) (aT 0) [none,some (aG l),some (aG u)] (aA.map nat)=some ((aA.filter fun p=>decide (FM.ent u p≠0\/FM.ent l p≠0)).map nat):=by
  refine i4 nat nat _ aA fun p DT=>⟨[(0,nat p)],rfl,?_,fun _=>rfl⟩;have a1:bB (eJ u.2) (nat p)=some (.int (FM.ent u p)):=fZ (by rw[hu];exact hp p DT);have a2:bB (eJ l.2) (nat p)=some (.int (FM.ent l p)):=fZ (by rw[hl];exact hp p DT);by_cases c1:FM.ent u p=0
  ·by_cases c2:FM.ent l p=0
   ·rw[decide_eq_false (by rw[c1,c2];simp)];dsimp![gP,a1,a2,fW,eq_true c1,eq_true c2]
   ·rw[decide_eq_true (.inr c2)];dsimp![gP,a1,a2,fW,eq_true c1,eq_false c2]
  ·rw[decide_eq_true (.inl c1)];dsimp![gP,a1,a2,fW,eq_false c1]
 have le:=pX nat (aA.filter fun p=>decide (FM.ent u p≠0\/FM.ent l p≠0));simp![length_map,zl,ec,le];rfl
abbrev rk (r:FM.Row):RK:=(bF r.1,r.2)
theorem Ln{a b:FM.Row}(h:rk a=rk b):a=b:=zB (congrArg d8 h)
abbrev kO (w:World) (ks:List FM.Row):Slot:=.obj (iw w (ks.map rk)) ((ks.map rk).map d8)
theorem JB(ks:List FM.Row)(r:FM.Row):gq (ks.map rk) (rk r)=(FM.ins ks r).map rk:=by
 unfold gq FM.ins;have e:rk r∈ks.map rk↔r∈ks:=⟨fun h=>by obtain⟨x,hx,e⟩:=mem_map.mp h;rw[<- Ln e];exact hx,fun h=>mem_map.mpr ⟨r,h,rfl⟩⟩;by_cases c:r∈ks
 ·rw[if_pos (e.mpr c),if_pos c]
 ·rw[if_neg (fun z=>c (e.mp z)),if_neg c,map_append];rfl
theorem rV(k:FM.Kn):PyData.strOk (bF k)=true:=by cases k<;>decide +kernel
variable {i:Nat} {Γ:ay}
theorem Df{g:ar->Option Dat}{ks:List FM.Row}{r:FM.Row}(hi:Γ[i]?=some (some (kO w ks)))(hf:g (bD Γ)=some (aG r))(hz:ks.length<sizeLine):rH w i g Γ=some (.nx (Γ.set i (some (kO w (FM.ins ks r))))):=by
 have:=FA (k:=rk r) hi hf (fun k hk=>by obtain⟨x,_,rfl⟩:=mem_map.mp hk;exact rV x.1) (rV r.1) (by rw[length_map];exact hz);rw[JB]at this;exact this
theorem mN(ks:List FM.Row)(r:FM.Row):(FM.ins ks r).length<=ks.length+1:=by
 unfold FM.ins;split
 ·omega
 ·rw[length_append];exact le_refl _
def Qr (F:List Dat->Option Dat):Prop:=∀(b m j most:Nat) (aA:List Nat) (rows:List FM.Row),b<=4400000->m<=900->j<m->km m b rows->aA.length<=900->(∀p∈aA,p<m)->
   (∀u∈rows,∀l∈rows,0<FM.ent u j->FM.ent l j<0->∃x∈FM.f9 u.2 (-FM.ent l j) l.2 (FM.ent u j),x≠0)->rows.length+(rows.filter fun r=>decide (0<FM.ent r j)).length*(rows.filter fun r=>decide (FM.ent r j<0)).length<sizeLine->
   F [.list (rows.map aG),.int (j:Int),.list (aA.map nat),.int (most:Int)]=some (.list ((FM.paired j aA most rows).map aG))
theorem kC{α β:Type}(p:β->Bool)(h:α->β->α):∀(l:List β) (s:α),l.foldl (fun s x=>if p x=true then h s x else s) s=(l.filter p).foldl h s
 |[],s=>rfl
 |x::l,s=>by
  rw[foldl_cons,filter_cons];by_cases c:p x=true
  ·rw[if_pos c,if_pos c,foldl_cons];exact kC p h l _
  ·rw[if_neg c,if_neg c];exact kC p h l _
variable {Fd:List Dat->Option Dat}
theorem GR(T:TX P K mg){Fj:List Dat->Option Dat}(F5:Dn P w K mg base 44 "drawn_on" ["one","other","weighed"] 3 Fd)(hD:QR Fd)(KO:Dn P w K mg base 44 "joined" ["upper","lower","place"] 3 Fj)(hJ:QJ Fj)(U:FnAt K mg "paired" (top 19) ["rows","place","weighed","most"]):
  ∃F,Dn P w K mg base 45 "paired" ["rows","place","weighed","most"] 4 F/\Qr F:=by
 refine⟨_,cN ["rows","place","weighed","most","kept","row","lowers","upper","lower"] U fun nd _ _ _ _ _ _ _ hr=>
  (ah (CW w 4 nd)
  (ah (gk PassesOwn.never rfl (a7 0) (aJ 5 nd)
  (ak (aV (cq hr (ao (ao (a7 5) ae) (a7 1)) ae) (ak (uw w 4 hr iY (a7 5))) aR)))
  (ah (oD 6 nd rfl (eZ (tn:=["row"]) (fv:=["place"]) (js:=[1]) rfl (by decide +kernel) (by decide +kernel) rfl (by decide +kernel) (by decide +kernel) rfl
   (fun x hx=>by((have gC:x="place":=(by simpa using hx));(rcases gC with rfl<;>exact⟨_,rfl⟩)))
   (fun p hp=>by((have fo:p=(("place" : Str),(1:Nat)):=(by simpa using hp));(rcases fo with rfl<;>exact⟨rfl,.inr (.inl rfl),.inl rfl,fun z=>by cases z⟩)))) (a7 0) (fun _ _ _ _=>(aJ 0 (show(["row","place"]:List Str).Nodup by decide +kernel))) (fun _ _ _ _=>(jM (jt (ao (ao (a7 0) ae) (a7 1)) ae))) (fun _ _ _ _=>(a7 0)) (fz rfl))
  (ah (gk PassesOwn.never rfl (dD (jN rfl (eZ (tn:=["row"]) (fv:=["place"]) (js:=[1]) rfl (by decide +kernel) (by decide +kernel) rfl (by decide +kernel) (by decide +kernel) rfl
   (fun x hx=>by((have gC:x="place":=(by simpa using hx));(rcases gC with rfl<;>exact⟨_,rfl⟩)))
   (fun p hp=>by((have fo:p=(("place" : Str),(1:Nat)):=(by simpa using hp));(rcases fo with rfl<;>exact⟨rfl,.inr (.inl rfl),.inl rfl,fun z=>by cases z⟩)))) (a7 0) (fun _ _ _ _=>(aJ 0 (show(["row","place"]:List Str).Nodup by decide +kernel))) (fun _ _ _ _=>(jM (my (ao (ao (a7 0) ae) (a7 1)) ae))) (fun _ _ _ _=>(a7 0)) (fz rfl))) (aJ 7 nd)
  (ak (gk PassesOwn.never rfl (a7 6) (aJ 8 nd)
  (ak (aV (Jw (aH F5 hr (a8 (a7 7) (a8 (a7 8) (a8 (a7 2) af)))) (a7 3)) (ak (uw w 4 hr iY (aH KO hr (a8 (a7 7) (a8 (a7 8) (a8 (a7 1) af)))))) aR)))))
  (ak (CU w 4 hr T.list)))))),?_⟩
 intro b m j most aA rows hb mO hj hR hw Ms Tc hN;have ai:∀r∈rows,bB (eJ r.2) (.int (j:Int))=some (.int (FM.ent r j)):=fun r hr=>fZ (by rw[hR.len r hr];exact hj);have zr:rows.length<sizeLine:=by omega
 generalize Gv:(rows.filter fun r=>decide (0<FM.ent r j))=ups at hN;generalize BD:(rows.filter fun r=>decide (FM.ent r j<0))=lows at hN;refine c8 ?_;simp!;rw[aE (aj:=[some (.a9 (.list (rows.map aG))),some (.a9 (.int (j:Int))),some (.a9 (.list (aA.map nat))),some (.a9 (.int (most:Int))),some (kO w []),none,none,none,none]) rfl]

 refine iW (I:=_) (iR (l:=rows) (s:=[]) aG (fun(ks:List FM.Row) Γ=>∃u,Γ=[some (.a9 (.list (rows.map aG))),some (.a9 (.int (j:Int))),some (.a9 (.list (aA.map nat))),some (.a9 (.int (most:Int))),some (kO w ks),u,none,none,none]) (fun ks l=>ks.length+l.length<=rows.length/\∀r∈l,r∈rows) (fun ks r=>if decide (FM.ent r j=0)=true then FM.ins ks r else ks) (d:=.list (rows.map aG)) rfl rfl ⟨by simp,fun _ h=>h⟩ ⟨none,rfl⟩ ?_) ?_
 ·rintro ks r l Γ ⟨hq,jj⟩ ⟨u,rfl⟩;rw[length_cons]at hq;have a1:=ai r (jj r mem_cons_self);refine⟨[(5,aG r)],rfl,?_⟩;dsimp!;by_cases c:FM.ent r j=0
  ·refine⟨[some (.a9 (.list (rows.map aG))),some (.a9 (.int (j:Int))),some (.a9 (.list (aA.map nat))),some (.a9 (.int (most:Int))),some (kO w (FM.ins ks r)),some (.a9 (aG r)),none,none,none],?_,⟨_,by rw[if_pos (decide_eq_true c)]⟩,?_,fun x hx=>jj x (mem_cons_of_mem _ hx)⟩
   ·rw[pO (by dsimp![gP,a1,cB,eq_true c])];exact Df rfl rfl (by omega)
   ·rw[if_pos (decide_eq_true c)];have:=mN ks r;omega
  ·refine⟨[some (.a9 (.list (rows.map aG))),some (.a9 (.int (j:Int))),some (.a9 (.list (aA.map nat))),some (.a9 (.int (most:Int))),some (kO w ks),some (.a9 (aG r)),none,none,none],?_,⟨_,by rw[if_neg (by rw[decide_eq_true_eq];exact c)]⟩,?_,fun x hx=>jj x (mem_cons_of_mem _ hx)⟩
   ·rw[pP (by dsimp![gP,a1,cB,eq_false c])];rfl
   ·rw[if_neg (by rw[decide_eq_true_eq];exact c)];omega
 rintro Γ ⟨u,rfl⟩;rw[kC];generalize Aa:(rows.filter fun r=>decide (FM.ent r j=0)).foldl FM.ins []=Ij;have hk0l:Ij.length<=rows.length:=by
  rw[<- Aa];have:∀(l s:List FM.Row),(l.foldl FM.ins s).length<=s.length+l.length:=fun l=>by
   induction l with
   |nil=>intro s;exact le_refl _
   |cons x l ih=>intro s;rw[foldl_cons,length_cons];have:=ih (FM.ins s x);have:=mN s x;omega
  have h1:=this (rows.filter fun r=>decide (FM.ent r j=0)) [];have h2:=length_filter_le (fun r=>decide (FM.ent r j=0)) rows;simp only[length_nil,zero_add]at h1;omega
 have Us:cw (aName 0) (c9 (L3.f2 DC (L3.f2 bB (L3.f2 bB (aT 0) (fC (.int 1))) (aT 1)) (fC (.int 0)))) (aT 0) [none,some (.int (j:Int))] (rows.map aG)=some (lows.map aG):=by
  rw[<- BD];refine i4 aG aG _ rows fun r hr=>⟨[(0,aG r)],rfl,?_,fun _=>rfl⟩;have a1:=ai r hr;dsimp![gP,a1,dE]
 have Ur:cw (aName 0) (c9 (L3.f2 xO (L3.f2 bB (L3.f2 bB (aT 0) (fC (.int 1))) (aT 1)) (fC (.int 0)))) (aT 0) [none,some (.int (j:Int))] (rows.map aG)=some (ups.map aG):=by
  rw[<- Gv];refine i4 aG aG _ rows fun r hr=>⟨[(0,aG r)],rfl,?_,fun _=>rfl⟩;have a1:=ai r hr;dsimp![gP,a1,fB]
 rw[aE (aj:=[some (.a9 (.list (rows.map aG))),some (.a9 (.int (j:Int))),some (.a9 (.list (aA.map nat))),some (.a9 (.int (most:Int))),some (kO w Ij),u,some (.a9 (.list (lows.map aG))),none,none]) (by simp![n8,length_map,zr,Us])];have RJ:∀r∈ups,r∈rows/\0<FM.ent r j:=fun r hr=>by rw[<- Gv]at hr;exact⟨(mem_filter.mp hr).1,of_decide_eq_true (mem_filter.mp hr).2⟩
 have RS:∀r∈lows,r∈rows/\FM.ent r j<0:=fun r hr=>by rw[<- BD]at hr;exact⟨(mem_filter.mp hr).1,of_decide_eq_true (mem_filter.mp hr).2⟩
 refine iW (I:=_) (iR (l:=ups) (s:=Ij) aG (fun(ks:List FM.Row) Γ=>∃x7 x8,Γ=[some (.a9 (.list (rows.map aG))),some (.a9 (.int (j:Int))),some (.a9 (.list (aA.map nat))),some (.a9 (.int (most:Int))),some (kO w ks),u,some (.a9 (.list (lows.map aG))),x7,x8]) (fun ks l=>ks.length+l.length*lows.length<sizeLine/\∀r∈l,r∈ups) (fun ks up=>lows.foldl (fun ks lo=>if decide (FM.drawn aA up lo<=most)=true then FM.ins ks (FM.joined j up lo)else ks) ks) (d:=.list (ups.map aG)) (by simp![length_map,zr,Ur]) rfl ⟨by omega,fun _ h=>h⟩ ⟨none,none,rfl⟩ ?_) ?_
 ·rintro ks up l Γ ⟨hq,jj⟩ ⟨x7,x8,rfl⟩;rw[length_cons,Nat.succ_mul]at hq;obtain⟨xo,Mu⟩:=RJ up (jj up mem_cons_self);refine⟨[(7,aG up)],rfl,?_⟩;dsimp!;refine K9 (iR (l:=lows) (s:=ks) aG (fun(uH:List FM.Row) Γ=>∃x8,Γ=[some (.a9 (.list (rows.map aG))),some (.a9 (.int (j:Int))),some (.a9 (.list (aA.map nat))),some (.a9 (.int (most:Int))),some (kO w uH),u,some (.a9 (.list (lows.map aG))),some (.a9 (aG up)),x8]/\uH.length<=ks.length+lows.length) (fun uH l=>uH.length+l.length<=ks.length+lows.length/\∀r∈l,r∈lows) (fun ks lo=>if decide (FM.drawn aA up lo<=most)=true then FM.ins ks (FM.joined j up lo)else ks) (d:=.list (lows.map aG)) rfl rfl ⟨le_refl _,fun _ h=>h⟩ ⟨x8,rfl,by omega⟩ ?_) ?_
  ·rintro uH lo l' Γ ⟨Mz,tL⟩ ⟨x8,rfl,hk⟩;rw[length_cons]at Mz;obtain⟨xA,E1⟩:=RS lo (tL lo mem_cons_self);refine⟨[(8,aG lo)],rfl,?_⟩;dsimp!;have ed:=hD m aA up lo hw (hR.len up xo) (hR.len lo xA) Ms;obtain⟨ej,_⟩:=hJ b m j up lo hb mO hj (hR.len up xo) (hR.len lo xA) (hR.bd up xo) (hR.bd lo xA) (Tc up xo lo xA Mu E1);by_cases c:FM.drawn aA up lo<=most
   ·have c':((FM.drawn aA up lo:Nat):Int)<=(most:Int):=by omega
    have Tq:=mN uH (FM.joined j up lo);refine⟨[some (.a9 (.list (rows.map aG))),some (.a9 (.int (j:Int))),some (.a9 (.list (aA.map nat))),some (.a9 (.int (most:Int))),some (kO w (FM.ins uH (FM.joined j up lo))),u,some (.a9 (.list (lows.map aG))),some (.a9 (aG up)),some (.a9 (aG lo))],?_,⟨_,by rw[if_pos (decide_eq_true c)],by rw[if_pos (decide_eq_true c)];omega⟩,by rw[if_pos (decide_eq_true c)];omega,fun x hx=>tL x (mem_cons_of_mem _ hx)⟩;rw[pO (by simp![ed,A4,eq_true c'])];exact Df rfl (by simp![ej]) (by omega)
   ·have c':¬((FM.drawn aA up lo:Nat):Int)<=(most:Int):=by omega
    refine⟨[some (.a9 (.list (rows.map aG))),some (.a9 (.int (j:Int))),some (.a9 (.list (aA.map nat))),some (.a9 (.int (most:Int))),some (kO w uH),u,some (.a9 (.list (lows.map aG))),some (.a9 (aG up)),some (.a9 (aG lo))],?_,⟨_,by rw[if_neg (by rw[decide_eq_true_eq];exact c)],by rw[if_neg (by rw[decide_eq_true_eq];exact c)];omega⟩,by rw[if_neg (by rw[decide_eq_true_eq];exact c)];omega,fun x hx=>tL x (mem_cons_of_mem _ hx)⟩;rw[pP (by simp![ed,A4,eq_false c'])];rfl
  ·rintro rh ⟨x8',rfl,Iu⟩;exact⟨⟨_,_,rfl⟩,by omega,fun x hx=>jj x (mem_cons_of_mem _ hx)⟩
 ·rintro aj ⟨x7,x8,rfl⟩;have er:ups.foldl (fun ks up=>lows.foldl (fun ks lo=>if decide (FM.drawn aA up lo<=most)=true then FM.ins ks (FM.joined j up lo)else ks) ks) Ij=FM.paired j aA most rows:=by
   unfold FM.paired FM.pairsOf;rw[List.foldl_append,Aa,Gv,BD,List.foldl_flatMap];congr 1
   funext ks up
   rw[kC,List.foldl_map]
  rw[er];have:=Fy (w:=w) (i:=4) (Γ:=[some (.a9 (.list (rows.map aG))),some (.a9 (.int (j:Int))),some (.a9 (.list (aA.map nat))),some (.a9 (.int (most:Int))),some (kO w (FM.paired j aA most rows)),u,some (.a9 (.list (lows.map aG))),x7,x8]) rfl;rw[map_map]at this;exact this
def fq (qs:List Rat):Nat:=qs.foldr (fun q m=>q.den*m) 1
theorem Au:∀qs:List Rat,0<fq qs
 |[]=>Nat.one_pos
 |q::qs=>Nat.mul_pos q.den_pos (Au qs)
theorem wY(a b:Nat):((a:Int)).fdiv (b:Int)=((a/b:Nat):Int):=by
 rw[Int.fdiv_eq_ediv_of_nonneg _ (by omega),Int.natCast_ediv]
theorem Mb(m d:Nat):((m:Int)*(d:Int)).fdiv ((Nat.gcd m d:Nat):Int)=((lcm m d:Nat):Int):=by
 rw[<- Int.natCast_mul,wY];rfl
theorem DH(m d:Nat)(h:0<m)(h2:0<d):lcm m d<=m*d:=Nat.le_of_dvd (Nat.mul_pos h h2) (Nat.lcm_dvd (Nat.dvd_mul_right m d) (Nat.dvd_mul_left d m))
abbrev Qm (F:List Dat->Option Dat):Prop:=∀(c e:Nat) (k:FM.Kn) (qs:List Rat),qs.length<=900->c<=4000000->e<=4000000->(∀q∈qs,SR c q)->fq qs<2^e->F [.str (bF k),.list (qs.map qD)]=some (aG (FM.whole k qs))/\∀x∈(FM.whole k qs).2,x.natAbs<2^(c+e)
theorem tK:∀(qs:List Rat) (m:Nat),0<m->qs.foldl (fun m q=>lcm m q.den) m<=m*fq qs
 |[],m,_=>by show m<=m*1;omega
 |q::qs,m,h=>by
  have p:=q.den_pos;have h1:=tK qs (lcm m q.den) (Nat.lcm_pos h p);refine le_trans h1 ?_;show _<=m*(q.den*fq qs);rw[<- Nat.mul_assoc];exact Nat.mul_le_mul_right _ (DH m q.den h p)
theorem Kh(T:TX P K mg)(fM:Dn P w K mg base 41 "common_divisor" ["a","b"] 2 nP)(U:FnAt K mg "whole_row" (top 12) ["kind","fractions"]):
  ∃F,Dn P w K mg base 42 "whole_row" ["kind","fractions"] 2 F/\Qm F:=by
 refine⟨_,cN ["kind","fractions","multiple","n","d"] U fun nd _ _ _ _ _ _ _ hr=>
  (ah (aF 2 nd ae)
  (ah (gk PassesOwn.never rfl (a7 1) (dC (n:=2) rfl (aY (aJ 3 nd) (aY (aJ 4 nd) cR)))
  (ak (aF 2 nd (fF T.seer hr (bE (a7 2) (a7 4)) (aH fM hr (a8 (a7 2) (a8 (a7 4) af)))))))
  (ak (az (bf (k:=0) (a8 (a7 0) (a8 (oH T.tuple (a8 (dD (kv rfl (eZ (tn:=["n","d"]) (fv:=["multiple"]) (js:=[2]) rfl (by decide +kernel) (by decide +kernel) rfl (by decide +kernel) (by decide +kernel) rfl
   (fun x hx=>by((have gC:x="multiple":=(by simpa using hx));(rcases gC with rfl<;>exact⟨_,rfl⟩)))
   (fun p hp=>by((have fo:p=(("multiple" : Str),(2:Nat)):=(by simpa using hp));(rcases fo with rfl<;>exact⟨rfl,.inr (.inl rfl),.inl rfl,fun z=>by cases z⟩)))) (wq (a7 1)) (fun _ _ _ _=>(dC (n:=2) rfl (aY (aJ 0 (show(["n","d","multiple"]:List Str).Nodup by decide +kernel)) (aY (aJ 1 (show(["n","d","multiple"]:List Str).Nodup by decide +kernel)) cR)))) (fun _ _ _ _=>eK) (fun _ _ _ _=>(bE (a7 0) (fF T.seer hr (a7 2) (a7 1)))) (rA rfl rfl))) af)) af (hs:=bA)))))))),?_⟩
 intro c e k qs hl hc he hq hP;have z2:2<=sizeLine:=sz (by decide);have zl:qs.length<sizeLine:=lt_of_lt_of_le (show qs.length<1000 by omega) (sz (by decide));have hL:FM.gK qs<2^e:=by
  have:=tK qs 1 (by decide);rw[Nat.one_mul]at this;exact lt_of_le_of_lt this hP
 have hLp:0<FM.gK qs:=FM.qQ qs;constructor
 ·refine c8 ?_;simp!;rw[aE (aj:=[some (.a9 (.str (bF k))),some (.a9 (.list (qs.map qD))),some (.a9 (.int 1)),none,none]) (by simp![])];refine iW (I:=_) (iR (l:=qs) (s:=1) qD (fun(m:Nat) Γ=>∃x3 x4,Γ=[some (.a9 (.str (bF k))),some (.a9 (.list (qs.map qD))),some (.a9 (.int (m:Int))),x3,x4]) (fun m l=>0<m/\m*fq l<2^e/\∀q∈l,q∈qs) (fun m q=>lcm m q.den) (d:=.list (qs.map qD)) rfl rfl ⟨by decide,by rw[Nat.one_mul];exact hP,fun _ h=>h⟩ ⟨none,none,rfl⟩ ?_) ?_
  ·rintro m q l Γ ⟨h1,h2,h3⟩ ⟨x3,x4,rfl⟩;have p:=q.den_pos;have Q9:m*q.den*fq l<2^e:=by rw[Nat.mul_assoc];exact h2
   have lp:=Au l;have PR:m*q.den<2^e:=lt_of_le_of_lt (Nat.le_mul_of_pos_right _ lp) Q9;have uL:m<2^e:=lt_of_le_of_lt (Nat.le_mul_of_pos_right _ p) PR;have PX:q.den<2^e:=lt_of_le_of_lt (Nat.le_mul_of_pos_left _ h1) PR;refine⟨[(3,.int q.num),(4,.int (q.den:Int))],rfl,?_⟩;dsimp!;have e1:nP [.int (m:Int),.int (q.den:Int)]=some (.int ((Nat.gcd m q.den:Nat):Int)):=by
    show(if 0<=(m:Int)/\0<=(q.den:Int)then some (Dat.int (gcd (m:Int) (q.den:Int)))else none)=_;rw[if_pos ⟨by omega,by omega⟩];rfl
   have gp:0<Nat.gcd m q.den:=Nat.gcd_pos_of_pos_left _ h1;have e2:=Bp (a:=(m:Int)) (b:=(q.den:Int)) (by rw[natAbs_natCast];exact gn uL (by omega)) (by rw[natAbs_natCast];exact gn PX (by omega));have e3:=p8 (a:=(m:Int)*(q.den:Int)) (b:=((Nat.gcd m q.den:Nat):Int)) (by omega) (lt_trans (log2_small (k:=4000000) (by decide) (by rw[natAbs_natCast];exact lt_of_le_of_lt (Nat.gcd_le_left _ h1) (gn uL he))) (by decide));rw[Mb]at e3;refine⟨[some (.a9 (.str (bF k))),some (.a9 (.list (qs.map qD))),some (.a9 (.int ((lcm m q.den:Nat):Int))),some (.a9 (.int q.num)),some (.a9 (.int (q.den:Int)))],by simp![e1,e2,e3],⟨_,_,rfl⟩,Nat.lcm_pos h1 p,lt_of_le_of_lt (Nat.mul_le_mul_right _ (DH m q.den h1 p)) Q9,fun x hx=>h3 x (mem_cons_of_mem _ hx)⟩
  ·rintro aj ⟨x3,x4,rfl⟩;have eL:(qs.foldl (fun m q=>lcm m q.den) 1:Nat)=FM.gK qs:=rfl;rw[eL];have ec:cw (j9 2 (fj (aName 0) (fj (aName 1) ka))) gN (L3.f2 ib (aT 0) (L3.f2 jH (aT 2) (aT 1))) [none,none,some (.int (FM.gK qs:Int))] (qs.map qD)=some ((FM.whole k qs).2.map .int):=by
    refine eY _ _ (by rw[length_map,length_map];show _=(qs.map _).length;rw[length_map]) fun i d o g1 g2=>?_;unfold FM.whole at g2;rw[getElem?_map]at g1 g2;rw[getElem?_map]at g2;cases hz:qs[i]? with
    |none=>rw[hz]at g1;cases g1
    |some q=>
     rw[hz]at g1 g2;cases g1;cases g2;have qp:=hq q (mem_of_getElem? hz);have p:=q.den_pos;refine⟨[(0,.int q.num),(1,.int (q.den:Int))],rfl,?_⟩;have e3:=p8 (a:=(FM.gK qs:Int)) (b:=(q.den:Int)) (by omega) (lt_trans (log2_small (k:=4000000) (by decide) (by rw[natAbs_natCast];exact gn qp.ld hc)) (by decide));rw[wY]at e3;have e2:=Bp (a:=q.num) (b:=((FM.gK qs/q.den:Nat):Int)) (gn qp.ln (by omega)) (by rw[natAbs_natCast];exact lt_of_le_of_lt (Nat.div_le_self _ _) (gn hL (by omega)));simp![e3,e2]
   simp![ir,length_map,zl,ec,z2];rfl
 ·intro x hx;obtain⟨q,qp,rfl⟩:=mem_map.mp (show x∈qs.map (fun q=>q.num*((FM.gK qs/q.den:Nat):Int))from hx);exact g9 (hq q qp).ln (by rw[natAbs_natCast];exact lt_of_le_of_lt (Nat.div_le_self _ _) hL)
abbrev cE (o:FM.Ol):Dat:=.tuple [.str (bF o.1),.tuple (o.2.1.map qD),qD o.2.2]
def eN:Nat->List FM.Ol->List (Nat×FM.Ol)
 |_,[]=>[]
 |i,o::os=>(i,o)::eN (i+1) os
abbrev Ar (p:Nat×FM.Ol):Dat:=.tuple [.int (p.1:Int),cE p.2]
theorem BQ:∀(os:List FM.Ol) (i:Nat),j7 i (os.map cE)=(eN i os).map Ar
 |[],i=>rfl
 |o::os,i=>by rw[map_cons,j7,eN,map_cons,BQ os (i+1)]
theorem y7:∀(os:List FM.Ol) (i:Nat),(eN i os).length=os.length
 |[],i=>rfl
 |o::os,i=>by rw[eN,length_cons,length_cons,y7 os]
theorem xZ(k:Nat):∀(os:List FM.Ol) (i:Nat),(FM.cc k i os).length=os.length
 |[],i=>rfl
 |o::os,i=>by rw[FM.cc,length_cons,length_cons,xZ k os]
theorem Aq(k:Nat):∀(os:List FM.Ol) (i:Nat) (acc:List FM.Row),(eN i os).foldl (fun acc (p:Nat×FM.Ol)=>acc++[FM.whole p.2.1 (p.2.2.1++[0,p.2.2.2]++FM.bZ k p.1)]) acc=acc++FM.cc k i os
 |[],i,acc=>by show acc=acc++[];rw[append_nil]
 |o::os,i,acc=>by
  rw[eN,foldl_cons,Aq k os (i+1),FM.cc,append_assoc];rfl
theorem Ex:∀{os:List FM.Ol} {i:Nat} {p:Nat×FM.Ol},p∈eN i os->p.2∈os/\p.1<i+os.length
 |[],i,p,h=>by simp[eN]at h
 |o::os,i,p,h=>by
  rw[eN]at h;rcases mem_cons.mp h with e|h
  ·rw[e];exact⟨mem_cons_self,by rw[length_cons];omega⟩
  ·obtain⟨h1,h2⟩:=Ex h;exact⟨mem_cons_of_mem _ h1,by rw[length_cons];omega⟩
theorem vK(a b:List Rat)(h:a.length+b.length<=1000):tW (.list (a.map qD)) (.list (b.map qD))=some (.list ((a++b).map qD)):=by
 show(if(a.map qD).length+(b.map qD).length<=sizeLine then some (Dat.list (a.map qD++b.map qD))else none)=_;rw[if_pos (by rw[length_map,length_map];exact sz h),map_append]
theorem IJ{α:Type}(d:α):∀m:Nat,(List.replicate m [d]).flatten=List.replicate m d
 |0=>rfl
 |m+1=>by rw[replicate_succ,flatten_cons,IJ d m,replicate_succ];rfl
theorem Rr(j:Int)(h1:0<=j)(h2:j<=2000000):kY [.int j]=some (iF 0 j.toNat):=if_pos ⟨by omega,by omega⟩
theorem B4(n:Nat)(h:n<=2000000):kY [.int (n:Int)]=some (iF 0 n):=by
 have:=Rr (n:Int) (by omega) (by omega);rw[toNat_natCast]at this;exact this
variable {ρ:ar}
theorem CS{fb:ar->Option Dat}(h:fb ρ=some (.int n))(hn:n<=100):qW (mQ (bj (fC (.tuple [.int 0,.int 1])) cz)) fb ρ=some ((List.replicate n (0:Rat)).map qD):=by
 have z1:1<=sizeLine:=sz (by decide);have zm:1*((n:Int).toNat)<=sizeLine:=by rw[Nat.one_mul,toNat_natCast];exact sz (by omega)
 have e1:mQ (bj (fC (.tuple [.int 0,.int 1])) cz) ρ=some [.tuple [.int 0,.int 1]]:=by
  show(if 1<=sizeLine then some [Dat.tuple [.int 0,.int 1]]else none)=_;exact if_pos z1
 unfold qW;rw[e1,Option.bind_some,h,Option.bind_some];show(if _ then some (List.replicate ((n:Int).toNat) [Dat.tuple [Dat.int 0,Dat.int 1]]).flatten else none)=_;rw[if_pos ⟨⟨by omega,by omega⟩,zm⟩,IJ,List.map_replicate,toNat_natCast];rfl
theorem q0:qD 0=.tuple [.int 0,.int 1]:=rfl
theorem q1:qD 1=.tuple [.int 1,.int 1]:=rfl
variable {c:Nat}
theorem kU(h:1<=c):SR c 0:=⟨pow_pos (by decide),one_lt_two_pow (by omega)⟩
theorem CA(h:1<=c):SR c 1:=⟨one_lt_two_pow (by omega),one_lt_two_pow (by omega)⟩
theorem i3:∀a b:List Rat,fq (a++b)=fq a*fq b
 |[],b=>by show fq b=1*fq b;omega
 |q::a,b=>by show q.den*fq (a++b)=q.den*fq a*fq b;rw[i3 a b,Nat.mul_assoc]
theorem mR:∀{a:List Rat},(∀q∈a,q.den=1)->fq a=1
 |[],_=>rfl
 |q::a,h=>by show q.den*fq a=1;rw[h q mem_cons_self,mR fun x hx=>h x (mem_cons_of_mem _ hx)]
theorem mX(h:q∈FM.bZ k i):q=0\/q=1:=by
 obtain⟨c,_,rfl⟩:=mem_map.mp h;split
 ·exact .inr rfl
 ·exact .inl rfl
structure yA (c e n:Nat) (o:FM.Ol):Prop where
 len:o.2.1.length=n
 sq:∀q∈o.2.1,SR c q
 bd:SR c o.2.2
 dn:fq o.2.1*o.2.2.den<2^e
abbrev QP (F:List Dat->Option Dat):Prop:=∀(c e:Nat) (p:List Rat) (os:List FM.Ol),1<=c->c<=3000000->e<=4000000->p.length<=100->os.length<=100->(∀q∈p,SR c q)->fq p<2^e->(∀o∈os,yA c e p.length o)->F [.tuple (p.map qD),.list (os.map cE)]=some (.list ((FM.aZ p os).map aG))
theorem neg_den(q:Rat):(0-q).den=q.den:=by
 have:(0:Rat)-q=-q:=by grind
 rw[this];exact Rat.neg_den q
theorem wW(h:SR c q):SR c (0-q):=by
 refine⟨?_,by rw[neg_den];exact h.ld⟩;have:(0:Rat)-q=-q:=by grind
 rw[this,neg_num,natAbs_neg];exact h.ln
theorem tR:∀p:List Rat,fq (p.map fun q=>0-q)=fq p
 |[]=>rfl
 |q::p=>by show(0-q).den*fq (p.map fun q=>0-q)=q.den*fq p;rw[neg_den,tR p]
variable {a1:Addr} {Fw:List Dat->Option Dat}
theorem Ku(T:TX P K mg){a2:Addr}(Z1:TC K mg "ZERO_elimination" [.int 0,.int 1] a1)(Z2:TC K mg "ONE_elimination" [.int 1,.int 1] a2)(sW:Dn P w K mg base 43 "whole_row" ["kind","fractions"] 2 Fw)(hW:Qm Fw)(pJ:Dn P w K mg base 43 "minus" ["a","b"] 2 iT)(U:FnAt K mg "first_rows" (top 13) ["parts","others"]):
  ∃F,Dn P w K mg base 44 "first_rows" ["parts","others"] 2 F/\QP F:=by
 refine⟨_,cN ["parts","others","rows","place","other","weights","less"] U fun nd _ _ _ _ _ _ _ hr=>
  (ah (wj 2 nd (ju af))
  (ah (lI PassesOwn.never rfl (oE T.enumerate (a8 (a7 1) af)) (dC (n:=2) rfl (aY (aJ 3 nd) (aY (aJ 4 nd) cR)))
  (ah (rN 5 nd rfl (eZ (tn:=["one"]) (fv:=["place"]) (js:=[3]) rfl (by decide +kernel) (by decide +kernel) rfl (by decide +kernel) (by decide +kernel) rfl
   (fun x hx=>by((have gC:x="place":=(by simpa using hx));(rcases gC with rfl<;>exact⟨_,rfl⟩)))
   (fun p hp=>by((have fo:p=(("place" : Str),(3:Nat)):=(by simpa using hp));(rcases fo with rfl<;>exact⟨rfl,.inr (.inl rfl),.inl rfl,fun z=>by cases z⟩)))) (qh T.range (a8 (fA T.len (a8 (a7 1) af)) af (hs:=bA))) (fun _ _ _ _=>(aJ 0 (show(["one","place"]:List Str).Nodup by decide +kernel))) (fun _ _ _ _=>eK) (fun _ _ _ _=>(eX (cq hr (a7 1) (a7 0)) (cK Z2.mg Z2.tup) (cK Z1.mg Z1.tup))) (fz rfl))
  (ak (jC 2 (aH sW hr (a8 (ao (a7 4) ae) (a8 (nj (nj (dD (uz T.list (a8 (ao (a7 4) ae) af (hs:=aW)))) (mC (a8 (cK Z1.mg Z1.tup) (a8 (ao (a7 4) ae) af (hs:=aW))))) (a7 5)) af (hs:=bO)) (hs:=aW)))))))
  (ah (oD 6 nd rfl (pE (N':=["part"])) (a7 0) (fun _ _ _ _=>(aJ 0 (show(["part"]:List Str).Nodup by decide +kernel))) (fun _ _ _ _=>eK) (fun _ _ _ _=>(aH pJ hr (a8 (cK Z1.mg Z1.tup) (a8 (a7 0) af)))) (fz rfl))
  (ah (jC 2 (aH sW hr (a8 aX (a8 (nj (nj (a7 6) (mC (a8 (cK Z2.mg Z2.tup) (a8 (cK Z1.mg Z1.tup) af)))) (dD (wt (ju (a8 (cK Z1.mg Z1.tup) af)) (fA T.len (a8 (a7 1) af))))) af (hs:=bO)))))
  (ak (az (a7 2))))))),?_⟩
 intro c e p os j4 hc he hp lj ke xD bx;have z0:0<=sizeLine:=zero_le _;have z1:1<=sizeLine:=sz (by decide);have z2:2<=sizeLine:=sz (by decide);have lo:=pX cE os;have qr:oX (bj (aT 1) cz) (bD [some (.a9 (.tuple (p.map qD))),some (.a9 (.list (os.map cE))),some (.own ([])),none,none,none,none])=some ((eN 0 os).map Ar):=by
  rw[<- BQ];rfl
 refine c8 ?_;simp!;rw[aE (aj:=[some (.a9 (.tuple (p.map qD))),some (.a9 (.list (os.map cE))),some (.own ([])),none,none,none,none]) (by simp![z0])];refine iW (I:=_) (p7 (l:=eN 0 os) (s:=[]) Ar (fun(acc:List FM.Row) Γ=>∃x3 x4 x5,Γ=[some (.a9 (.tuple (p.map qD))),some (.a9 (.list (os.map cE))),some (.own (acc.map aG)),x3,x4,x5,none]) (fun acc l=>acc.length+l.length<=100/\∀x∈l,x∈eN 0 os) (fun acc (q:Nat×FM.Ol)=>acc++[FM.whole q.2.1 (q.2.2.1++[0,q.2.2.2]++FM.bZ os.length q.1)]) qr ⟨by
   rw[y7];exact le_trans (le_of_eq (zero_add _)) lj,fun _ h=>h⟩ ⟨none,none,none,rfl⟩ ?_) ?_
 ·rintro acc ⟨i,o⟩ l Γ ⟨hq,jj⟩ ⟨x3,x4,x5,rfl⟩;rw[length_cons]at hq;obtain⟨Ta,Tq⟩:=Ex (jj (i,o) mem_cons_self);have ho:=bx o Ta;refine⟨[(3,.int (i:Int)),(4,cE o)],rfl,?_⟩;dsimp!;have eR:kY [.int ((os.length:Nat):Int)]=some (iF 0 os.length):=B4 os.length (by omega);have ec:cw (aName 0) gN (sC (c9 (L3.f2 dU (aT 1) (aT 0))) (fC (.tuple [.int 1,.int 1])) (fC (.tuple [.int 0,.int 1]))) [none,some (.int (i:Int))] (iF 0 os.length)=some ((FM.bZ os.length i).map qD):=by
   refine eY _ _ (by rw[kG,length_map,FM.kL]) fun n d o' h1 h2=>?_;obtain⟨hn,rfl⟩:=qG h1;refine⟨[(0,.int (0+(n:Int)))],rfl,?_⟩;rw[getElem?_map]at h2;have hu:(FM.bZ os.length i)[n]?=some (if i=n then 1 else 0):=by
    unfold FM.bZ;rw[getElem?_map,List.getElem?_range hn];rfl
   rw[hu]at h2;cases h2;by_cases ci:i=n
   ·have Nj:(i:Int)=0+(n:Int):=by omega
    rw[if_pos ci,q1];simp![cB,eq_true Nj]
   ·have Nj:¬(i:Int)=0+(n:Int):=by omega
    rw[if_neg ci,q0];simp![cB,eq_false Nj]
  have zn:os.length<sizeLine:=lt_of_lt_of_le (show os.length<1000 by omega) (sz (by decide));rw[aE (aj:=[some (.a9 (.tuple (p.map qD))),some (.a9 (.list (os.map cE))),some (.own (acc.map aG)),some (.a9 (.int (i:Int))),some (.a9 (cE o)),some (.a9 (.list ((FM.bZ os.length i).map qD))),none]) (zz (yd (xj (as:=[.int ((os.length:Nat):Int)]) (by simp![lo]) eR) (by rw[kG];exact zn) ec))];have a1:=vK o.2.1 [0,o.2.2] (by rw[ho.len];show _+2<=_;omega);have a2:=vK (o.2.1++[0,o.2.2]) (FM.bZ os.length i) (by rw[length_append,ho.len,FM.kL];show _+2+_<=_;omega);have a1:tW (.list (o.2.1.map qD)) (.list [.tuple [.int 0,.int 1],qD o.2.2])=some (.list ((o.2.1++[0,o.2.2]).map qD)):=a1;obtain⟨ew,_⟩:=hW c e o.1 (o.2.1++[0,o.2.2]++FM.bZ os.length i) (by rw[length_append,length_append,ho.len,FM.kL];show _+2+_<=_;omega) (by omega) he (fun q hq=>by
   rcases mem_append.mp hq with h|h
   ·rcases mem_append.mp h with h|h
    ·exact ho.sq q h
    ·rcases mem_cons.mp h with h|h
     ·rw[h];exact kU j4
     ·rw[mem_singleton.mp h];exact ho.bd
   ·rcases mX h with e|e
    ·rw[e];exact kU j4
    ·rw[e];exact CA j4) (by
   rw[i3,i3,mR (a:=FM.bZ os.length i) (fun q hq=>by rcases mX hq with e|e<;>(rw[e];rfl)),mul_one];show fq o.2.1*(1*(o.2.2.den*1))<_;rw[Nat.one_mul,mul_one];exact ho.dn)
  have l1:vD [.tuple (o.2.1.map qD)]=some (o.2.1.map qD):=rfl;have zs:acc.length<sizeLine:=lt_of_lt_of_le (show acc.length<1000 by omega) (sz (by decide));refine⟨[some (.a9 (.tuple (p.map qD))),some (.a9 (.list (os.map cE))),some (.own (acc.map aG++[aG (FM.whole o.1 (o.2.1++[0,o.2.2]++FM.bZ os.length i))])),some (.a9 (.int (i:Int))),some (.a9 (cE o)),some (.a9 (.list ((FM.bZ os.length i).map qD))),none],?_,⟨_,_,_,by rw[map_append];rfl⟩,by rw[length_append];show acc.length+1+l.length<=100;omega,fun x hx=>jj x (mem_cons_of_mem _ hx)⟩;simp![Sh,Sf,Se,l1,a1,a2,ew,length_map,zs,z2]
 ·rintro aj ⟨x3,x4,x5,rfl⟩;rw[Aq,nil_append];have zp:p.length<sizeLine:=lt_of_lt_of_le (show p.length<1000 by omega) (sz (by decide));have ec:cw (aName 0) gN (jS 2 iT (bj (fC (.tuple [.int 0,.int 1])) (bj (aT 0) cz))) [none] (p.map qD)=some ((p.map fun q=>0-q).map qD):=by
   refine eY _ _ (by rw[length_map,length_map,length_map]) fun n d o' h1 h2=>?_;rw[getElem?_map]at h1 h2;rw[getElem?_map]at h2;cases hz:p[n]? with
   |none=>rw[hz]at h1;cases h1
   |some q=>
    rw[hz]at h1 h2;cases h1;cases h2;refine⟨[(0,qD q)],rfl,?_⟩;have em:iT [.tuple [.int 0,.int 1],qD q]=some (qD (0-q)):=ub (kU (c:=1) (by decide)) (ke q (mem_of_getElem? hz)) (by decide) (by omega);simp![em]
  rw[aE (aj:=[some (.a9 (.tuple (p.map qD))),some (.a9 (.list (os.map cE))),some (.own ((FM.cc os.length 0 os).map aG)),x3,x4,x5,some (.a9 (.list ((p.map fun q=>0-q).map qD)))]) (by simp![n8,length_map,zp,ec])];have a1:=vK (p.map fun q=>0-q) [1,0] (by rw[length_map];show _+2<=_;omega);have a2:=vK ((p.map fun q=>0-q)++[1,0]) (List.replicate os.length 0) (by rw[length_append,length_map,length_replicate];show _+2+_<=_;omega);have a1:tW (.list ((p.map fun q=>0-q).map qD)) (.list [.tuple [.int 1,.int 1],.tuple [.int 0,.int 1]])=some (.list ((p.map (fun q=>0-q)++[1,0]).map qD)):=a1;obtain⟨ew,_⟩:=hW c e .eq ((p.map fun q=>0-q)++[1,0]++List.replicate os.length 0) (by rw[length_append,length_append,length_map,length_replicate];show _+2+_<=_;omega) (by omega) he (fun q hq=>by
   rcases mem_append.mp hq with h|h
   ·rcases mem_append.mp h with h|h
    ·obtain⟨x,hx,rfl⟩:=mem_map.mp h;exact wW (ke x hx)
    ·rcases mem_cons.mp h with h|h
     ·rw[h];exact CA j4
     ·rw[mem_singleton.mp h];exact kU j4
   ·rw[(mem_replicate.mp h).2];exact kU j4) (by
   rw[i3,i3,mR (a:=List.replicate os.length 0) (fun q hq=>by rw[(mem_replicate.mp hq).2];rfl),mul_one,tR];show fq p*1<_;rw[mul_one];exact xD)
  have er:fL (qW (mQ (bj (fC (.tuple [.int 0,.int 1])) cz)) (dY lb (bj (aT 1) cz))) (bD [some (.a9 (.tuple (p.map qD))),some (.a9 (.list (os.map cE))),some (.own ((FM.cc os.length 0 os).map aG)),x3,x4,x5,some (.a9 (.list ((p.map fun q=>0-q).map qD)))])=some (.list ((List.replicate os.length (0:Rat)).map qD)):=by
   unfold fL;rw[CS (n:=os.length) lo lj];rfl
  have zf:(FM.cc os.length 0 os).length<sizeLine:=by
   rw[xZ];exact lt_of_lt_of_le (show os.length<1000 by omega) (sz (by decide))
  have ks:bF .eq="=":=rfl;rw[ks]at ew;have S6:(FM.aZ p os).map aG=(FM.cc os.length 0 os).map aG++[aG (FM.whole .eq (p.map (fun q=>0-q)++[1,0]++List.replicate os.length 0))]:=by
   show(FM.cc os.length 0 os++[_]).map aG=_;rw[map_append];rfl
  rw[S6];generalize fL (qW (mQ (bj (fC (.tuple [.int 0,.int 1])) cz)) (dY lb (bj (aT 1) cz)))=gr at *;have er2:∀(y3 y4 y5:Option Dat),True:=fun _ _ _=>trivial;rw[aE (aj:=[some (.a9 (.tuple (p.map qD))),some (.a9 (.list (os.map cE))),some (.own ((FM.cc os.length 0 os).map aG++[aG (FM.whole .eq (p.map (fun q=>0-q)++[1,0]++List.replicate os.length 0))])),x3,x4,x5,some (.a9 (.list ((p.map fun q=>0-q).map qD)))]) (by
   simp only[bD,map_cons,map_nil]at er;simp![er,a1,a2,ew,length_map,zf,z2])]
  simp![]
theorem Bb{a b:Rat}:((a.num,(a.den:Int)):Int×Int)=(b.num,(b.den:Int))↔a=b:=by
 constructor
 ·intro h;obtain⟨h1,h2⟩:=Prod.mk.inj h;exact Rat.ext h1 (by omega)
 ·intro h;rw[h]
theorem sF(a b:Rat):dU (qD a) (qD b)=some (.bool (decide (a=b))):=by
 have:=Ao (a.num,(a.den:Int)) (b.num,(b.den:Int));rw[show decide ((a.num,(a.den:Int))=(b.num,(b.den:Int)))=decide (a=b)from decide_eq_decide.mpr Bb]at this;exact this
theorem Ot(a b:Rat):ik (qD a) (qD b)=some (.bool (!decide (a=b))):=by
 have:=JX (a.num,(a.den:Int)) (b.num,(b.den:Int));rw[show decide ((a.num,(a.den:Int))=(b.num,(b.den:Int)))=decide (a=b)from decide_eq_decide.mpr Bb]at this;exact this
theorem EI(T:TX P K mg)(Z1:TC K mg "ZERO_elimination" [.int 0,.int 1] a1)(yG:Dn P w K mg base 43 "below" ["a","b"] 2 gJ)(U:FnAt K mg "is_never" (top 26) ["kind","bound"]):
  ∃F,Dn P w K mg base 44 "is_never" ["kind","bound"] 2 F/\∀(n:Nat) (k:FM.Kn) (b:Rat),n<=4000000->SR n b->F [.str (bF k),qD b]=some (.bool (FM.cy k b)):=by
 refine⟨_,cN ["kind","bound"] U fun nd _ _ _ _ _ _ _ hr=>
  (ah (aV (cq hr (a7 0) aX) (ak (az (wx hr (a7 1) (cK Z1.mg Z1.tup)))) aR)
  (ak (az (Dd (aH yG hr (a8 (a7 1) (a8 (cK Z1.mg Z1.tup) af))) (jv (kH (ij hr (a7 0) aX) (jv (ij hr (a7 1) (cK Z1.mg Z1.tup))))))))),?_⟩
 intro n k b hn hb;have e1:ik (qD b) (.tuple [.int 0,.int 1])=some (.bool (!decide (b=0))):=Ot b 0;have e2:dU (qD b) (.tuple [.int 0,.int 1])=some (.bool (decide (b=0))):=sF b 0;have e3:gJ [qD b,.tuple [.int 0,.int 1]]=some (.bool (decide (b<0))):=mV hb (kU (c:=1) (by decide)) hn (by decide);by_cases c1:bF k="="
 ·have:=(jD k).mp c1;subst this;have er:FM.cy .eq b=!decide (b=0):=by show decide (b≠0)=_;rw[decide_not]
  rw[er];simp![cJ,eq_true c1,e1]
 ·by_cases c2:bF k="<"
  ·have:=(Bs k).mp c2;subst this;have er:FM.cy .lt b=(decide (b<0) || decide (b=0)):=rfl;rw[er];by_cases c3:b<0
   ·rw[decide_eq_true c3]at e3 ⊢;simp![cJ,eq_false c1,eq_true c2,e3,Bool.true_or]
   ·rw[decide_eq_false c3]at e3 ⊢;simp![cJ,eq_false c1,eq_true c2,e3,e2,Bool.false_or]
  ·have hk:k=.le:=by
    cases k with
    |eq=>exact absurd rfl c1
    |lt=>exact absurd rfl c2
    |le=>rfl
   subst hk;have er:FM.cy .le b=decide (b<0):=rfl;rw[er];by_cases c3:b<0
   ·rw[decide_eq_true c3]at e3 ⊢;simp![cJ,eq_false c1,eq_false c2,e3]
   ·rw[decide_eq_false c3]at e3 ⊢;simp![cJ,eq_false c1,eq_false c2,e3]
abbrev gB (b:Bool):Str:=if b=true then "<" else "<="
def cG:Option FM.fu->Dat
 |none=>.none
 |some b=>.tuple [.str (gB b.1),qD b.2.1,.list (b.2.2.map qD)]
theorem nF:iH .none .none=some (.bool true):=rfl
theorem kB(b:FM.fu):iH (cG (some b)) .none=some (.bool false):=rfl
theorem qI(z:Int):qD (z:Rat)=.tuple [.int z,.int 1]:=rfl
variable {b:Nat} {z:Int}
theorem vX(hb:1<=b)(h:z.natAbs<2^b):SR b (z:Rat):=⟨h,one_lt_two_pow (by omega)⟩
def eQ:Nat->List Rat->List (Nat×Rat)
 |_,[]=>[]
 |i,x::xs=>(i,x)::eQ (i+1) xs
abbrev GK (p:Nat×Rat):Dat:=.tuple [.int (p.1:Int),qD p.2]
theorem IM:∀(xs:List Rat) (i:Nat),j7 i (xs.map qD)=(eQ i xs).map GK
 |[],i=>rfl
 |x::xs,i=>by rw[map_cons,j7,eQ,map_cons,IM xs (i+1)]
theorem Ez:∀{xs:List Rat} {i:Nat} {p:Nat×Rat},p∈eQ i xs->p.2∈xs/\p.1<i+xs.length
 |[],i,p,h=>by simp[eQ]at h
 |x::xs,i,p,h=>by
  rw[eQ]at h;rcases mem_cons.mp h with e|h
  ·rw[e];exact⟨mem_cons_self,by rw[length_cons];omega⟩
  ·obtain⟨h1,h2⟩:=Ez h;exact⟨mem_cons_of_mem _ h1,by rw[length_cons];omega⟩
theorem As(r:FM.Row):∀(xs:List Rat) (i:Nat) (acc:Rat),(eQ i xs).foldl (fun acc (p:Nat×Rat)=>if FM.ent r p.1≠0 then acc-(FM.ent r p.1:Rat)*p.2 else acc) acc=FM.pY r i xs acc
 |[],i,acc=>rfl
 |x::xs,i,acc=>by
  rw[eQ,foldl_cons,As r xs (i+1)];rfl
inductive lU:List Rat->Nat->Prop
 |nil:lU [] 0
 |zero {xs:List Rat} {C:Nat} {q:Rat}:q=0->lU xs C->lU (q::xs) C
 |cons {xs:List Rat} {C s:Nat} {q:Rat}:SR s q->lU xs C->lU (q::xs) (C+s+1)
variable {C:Nat}
theorem lU.mem{xs:List Rat}(h:lU xs C):∀q∈xs,SR (C+1) q:=by
 induction h with
 |nil=>intro q hq;cases hq
 |zero h0 _ ih=>
  intro q hq;rcases mem_cons.mp hq with e|e
  ·rw[e,h0];exact⟨pow_pos (by decide),one_lt_two_pow (by omega)⟩
  ·exact ih q e
 |cons hs _ ih=>
  intro q hq;rcases mem_cons.mp hq with e|e
  ·rw[e];exact hs.up (by omega)
  ·exact(ih q e).up (by omega)
def Nd (u d:Nat) (q:Rat):Prop:=∃N D:Int,D≠0/\N.natAbs<2^u/\D.natAbs<=2^d/\q=(N:Rat)/(D:Rat)
theorem jr(h0:p≠0)(hz:z.natAbs<2^b)(hp:p.natAbs<2^b):SR b ((z:Rat)/(p:Rat)):=by
 obtain⟨e1,e2⟩:=Fr.m9 z p h0;exact AX h0 e1 e2 hz hp
theorem Nd.sr{u d:Nat}(h:Nd u d q)(hd:d<u):SR u q:=by
 obtain⟨N,D,h0,hN,hD,rfl⟩:=h;exact jr h0 hN (lt_of_le_of_lt hD (Nat.pow_lt_pow_right (by decide) hd))
theorem Dy(h:z.natAbs<2^b):Nd b 0 (z:Rat):=⟨z,1,by decide,h,by decide,by
 have:((1:Int):Rat)=1:=rfl;rw[this];grind⟩
theorem zZ{s:Nat}{acc y:Rat}(h:Nd (b+C) C acc)(ha:a.natAbs<2^b)(hy:SR s y):Nd (b+(C+s+1)) (C+s+1) (acc-(a:Rat)*y):=by
 obtain⟨N,D,h0,hN,hD,rfl⟩:=h;have yp:(y.den:Int)≠0:=EC y;refine⟨N*(y.den:Int)-a*y.num*D,D*(y.den:Int),mul_ne_zero h0 yp,?_,?_,?_⟩
 ·have h1:(N*(y.den:Int)).natAbs<2^(b+C+s):=g9 hN hy.dn;have h2:(a*y.num*D).natAbs<2^(b+C+s):=by
   rw[natAbs_mul,show b+C+s=(b+s)+C by omega,pow_add];have h3:=g9 ha hy.ln;have p:=pow_pos (n:=C) (show 0<2 by decide);exact lt_of_le_of_lt (Nat.mul_le_mul_left _ hD) (Nat.mul_lt_mul_of_pos_right h3 p)
  rw[show b+(C+s+1)=b+C+s+1 by omega];exact Nq h1 h2
 ·rw[natAbs_mul];refine le_trans (mul_le_mul hD (Nat.le_of_lt hy.dn)) ?_;rw[<- pow_add];exact pow_le_pow_right (by decide) (by omega)
 ·have e1:y=(y.num:Rat)/((y.den:Int):Rat):=by
   have:((y.den:Int):Rat)=(y.den:Rat):=rfl;rw[this,<- Rat.mkRat_eq_div,mkRat_self]
  have d1:((D:Int):Rat)≠0:=fun z=>h0 (FM.bR.mp z);have d2:(((y.den:Int)):Rat)≠0:=fun z=>yp (FM.bR.mp z);rw[Rat.intCast_sub,intCast_mul,intCast_mul,intCast_mul,intCast_mul];conv=>lhs;rw[e1]
  generalize ((y.den:Int):Rat)=dd at *;generalize (y.num:Rat)=nn at *;grind
theorem Nd.up{u d u' d':Nat}(h:Nd u d q)(hu:u<=u')(hd:d<=d'):Nd u' d' q:=by
 obtain⟨N,D,h0,hN,hD,e⟩:=h;exact⟨N,D,h0,gn hN hu,le_trans hD (pow_le_pow_right (by decide) hd),e⟩
theorem A3(r:FM.Row){b:Nat}(hr:∀z∈r.2,z.natAbs<2^b):∀(xs:List Rat) (i C C1:Nat) (acc:Rat),Nd (b+C) C acc->lU xs C1->Nd (b+(C+C1)) (C+C1) (FM.pY r i xs acc)
 |[],i,C,C1,acc,h,hx=>by cases hx;exact h
 |x::xs,i,C,C1,acc,h,hx=>by
  have key:∃C2 C3,C2+C3=C+C1/\lU xs C3/\Nd (b+C2) C2 (if FM.ent r i≠0 then acc-(FM.ent r i:Rat)*x else acc):=by
   cases hx with
   |zero h0 hx=>
    refine⟨C,C1,rfl,hx,?_⟩;rw[h0,show acc-(FM.ent r i:Rat)*0=acc by grind];split<;>exact h
   | @cons _ C' s _ hs hx=>
    refine⟨C+s+1,C',by omega,hx,?_⟩;split
    ·exact zZ h (cX hr) hs
    ·exact h.up (by omega) (by omega)
  obtain⟨C2,C3,e,h3,h4⟩:=key;rw[<- e];exact A3 r hr xs (i+1) C2 C3 _ h4 h3
abbrev dJ (F:List Dat->Option Dat):Prop:=∀(b C:Nat) (r:FM.Row) (x:List Rat),1<=b->x.length<r.2.length->x.length<=100->(∀z∈r.2,z.natAbs<2^b)->lU x C->b+C+1<=4000000->F [aG r,.list (x.map qD)]=some (qD (FM.kA r x))/\Nd (b+C) C (FM.kA r x)
theorem Ey:∀(xs:List Rat) (i:Nat),(eQ i xs).map (fun p=>p.2)=xs
 |[],i=>rfl
 |x::xs,i=>by show x::(eQ (i+1) xs).map _=_;rw[Ey xs]
theorem Nh(T:TX P K mg)(pJ:Dn P w K mg base 43 "minus" ["a","b"] 2 iT)(NK:Dn P w K mg base 43 "times" ["a","b"] 2 i5)(U:FnAt K mg "left_over" (top 21) ["row","point"]):
  ∃F,Dn P w K mg base 44 "left_over" ["row","point"] 2 F/\dJ F:=by
 refine⟨_,cN ["row","point","left","place","number","part"] U fun nd _ _ _ _ _ _ _ hr=>
  (ah (aF 2 nd (bf (k:=0) (a8 (ao (ao (a7 0) ae) (fA T.len (a8 (a7 1) af))) (a8 ae af) (hs:=aW))))
  (ah (lI PassesOwn.never rfl (oE T.enumerate (a8 (a7 1) af)) (dC (n:=2) rfl (aY (aJ 3 nd) (aY (aJ 4 nd) cR)))
  (ah (aF 5 nd (ao (ao (a7 0) ae) (a7 3)))
  (ak (aV (gZ hr (a7 5) ae) (ak (aF 2 nd (aH pJ hr (a8 (a7 2) (a8 (aH NK hr (a8 (bf (k:=0) (a8 (a7 5) (a8 ae af))) (a8 (a7 4) af) (hs:=fN))) af (hs:=bA)))))) aR))))
  (ak (az (a7 2))))),?_⟩
 intro b C r x hb hl GG hr hx hbud;have z2:2<=sizeLine:=sz (by decide);have lo:=pX qD x;have a0:bB (eJ r.2) (.int (x.length:Int))=some (.int (FM.ent r x.length)):=fZ hl;refine⟨?_,by
  have:=A3 r hr x 0 0 C (FM.ent r x.length:Rat) (Dy (cX hr)) hx;rw[zero_add]at this;exact this⟩
 have qr:oX (bj (aT 1) cz) (bD [some (.a9 (aG r)),some (.a9 (.list (x.map qD))),some (.a9 (qD (FM.ent r x.length:Rat))),none,none,none])=some ((eQ 0 x).map GK):=by
  rw[<- IM];rfl
 refine c8 ?_;simp!;rw[aE (aj:=[some (.a9 (aG r)),some (.a9 (.list (x.map qD))),some (.a9 (qD (FM.ent r x.length:Rat))),none,none,none]) (by rw[qI];dsimp![gP,lo,a0,z2])];refine iW (I:=_) (p7 (l:=eQ 0 x) (s:=(FM.ent r x.length:Rat)) GK (fun(acc:Rat) Γ=>∃x3 x4 x5,Γ=[some (.a9 (aG r)),some (.a9 (.list (x.map qD))),some (.a9 (qD acc)),x3,x4,x5]) (fun acc l=>∃C2 C3,C2+C3=C/\Nd (b+C2) C2 acc/\lU (l.map fun p=>p.2) C3/\∀p∈l,p∈eQ 0 x) (fun acc (p:Nat×Rat)=>if FM.ent r p.1≠0 then acc-(FM.ent r p.1:Rat)*p.2 else acc) qr ⟨0,C,by omega,Dy (cX hr),by rw[Ey];exact hx,fun _ h=>h⟩ ⟨none,none,none,rfl⟩ ?_) ?_
 ·rintro acc ⟨i,y⟩ l Γ ⟨C2,C3,hC,hs,PJ,jj⟩ ⟨x3,x4,x5,rfl⟩;obtain⟨hy,hi⟩:=Ez (jj (i,y) mem_cons_self);have sy:=hx.mem y hy;have tL:∀p∈l,p∈eQ 0 x:=fun p hp=>jj p (mem_cons_of_mem _ hp);have hQ:∃C2 C3,C2+C3=C/\Nd (b+C2) C2 (if FM.ent r i≠0 then acc-(FM.ent r i:Rat)*y else acc)/\lU (l.map fun p=>p.2) C3/\∀p∈l,p∈eQ 0 x:=by
   rw[map_cons]at PJ;cases PJ with
   |zero h0 hx=>
    refine⟨C2,C3,hC,?_,hx,tL⟩;have h0:y=0:=h0;rw[h0,show acc-(FM.ent r i:Rat)*0=acc by grind];split<;>exact hs
   | @cons _ C' s _ qo hx=>
    refine⟨C2+s+1,C',by omega,?_,hx,tL⟩;split
    ·exact zZ hs (cX hr) qo
    ·exact hs.up (by omega) (by omega)
  refine⟨[(3,.int (i:Int)),(4,qD y)],rfl,?_⟩;dsimp!;have a1:bB (eJ r.2) (.int (i:Int))=some (.int (FM.ent r i)):=fZ (by have:i<0+x.length:=hi;omega);rw[aE (aj:=[some (.a9 (aG r)),some (.a9 (.list (x.map qD))),some (.a9 (qD acc)),some (.a9 (.int (i:Int))),some (.a9 (qD y)),some (.a9 (.int (FM.ent r i)))]) (by dsimp![gP,a1])];by_cases c:FM.ent r i=0
  ·refine⟨[some (.a9 (aG r)),some (.a9 (.list (x.map qD))),some (.a9 (qD acc)),some (.a9 (.int (i:Int))),some (.a9 (qD y)),some (.a9 (.int (FM.ent r i)))],?_,⟨_,_,_,by rw[if_neg (fun z=>z c)]⟩,hQ⟩;simp![fW,eq_true c]
  ·have e1:i5 [.tuple [.int (FM.ent r i),.int 1],qD y]=some (qD ((FM.ent r i:Rat)*y)):=qa (vX hb (cX hr)) sy (by omega) (by omega);have sp:SR (b+(C+1)) ((FM.ent r i:Rat)*y):=(vX hb (cX (j:=i) hr)).mul sy;have e2:=ub (hs.sr (by omega)) sp (by omega) (by omega);refine⟨[some (.a9 (aG r)),some (.a9 (.list (x.map qD))),some (.a9 (qD (acc-(FM.ent r i:Rat)*y))),some (.a9 (.int (i:Int))),some (.a9 (qD y)),some (.a9 (.int (FM.ent r i)))],?_,⟨_,_,_,by rw[if_pos c]⟩,hQ⟩;simp![fW,eq_false c,z2,e1,e2]
 ·rintro aj ⟨x3,x4,x5,rfl⟩;rw[As];simp![];rfl
theorem EJ(h:m<=ds.length):L3.cutD ds (some (m:Int)) none=ds.drop m:=by
 unfold L3.cutD;rw[HT.tp,HT.w9,Nat.min_eq_left h,List.take_of_length_le (by rw[length_drop];omega)]
theorem Le(l:List Int)(h:j+1<=l.length):CF (eJ l) (some ((j:Int)+1)) none=some (eJ (l.drop (j+1))):=by
 show(if ¬(HT.bU (l.map Dat.int).length 0 (some ((j+1:Nat):Int))=0/\HT.bU (l.map Dat.int).length (l.map Dat.int).length none=(l.map Dat.int).length)then some (Dat.tuple (L3.cutD (l.map Dat.int) (some ((j+1:Nat):Int)) none))else none)=_;rw[if_pos (by rw[HT.tp,length_map];omega),EJ (by rw[length_map];exact h),<- List.map_drop]
theorem Gk(h:p≠0)(hb:p.natAbs<2^8000000):dw [.int z,.int p]=some (qD ((z:Rat)/(p:Rat))):=by
 obtain⟨e1,e2⟩:=Fr.m9 z p h;rw[jy h hb,e1,e2]
abbrev Qn (F:List Dat->Option Dat):Prop:=∀(b C m j:Nat) (rows:List FM.Row) (x:List Rat) (way:Int),(way=1\/way=-1)->1<=b->km m b rows->x.length<m->m<=900->x.length<=100->j<m->lU x C->b+C+1<=4000000->F [.list (rows.map aG),.int (j:Int),.list (x.map qD),.int way]=some (cG (FM.gM rows j x way))/\∀t,FM.gM rows j x way=some t->SR (b+C) t.2.1
theorem JY(h:Nd (b+C) C q)(hz:z.natAbs<2^b)(h0:z≠0):SR (b+C) (q/(z:Rat)):=by
 obtain⟨N,D,Q6,hN,hD,rfl⟩:=h;have e:(N:Rat)/(D:Rat)/(z:Rat)=(N:Rat)/((D*z:Int):Rat):=by
  have d1:((D:Int):Rat)≠0:=fun z=>Q6 (FM.bR.mp z);have d2:((z:Int):Rat)≠0:=fun y=>h0 (FM.bR.mp y);rw[intCast_mul];grind
 rw[e];refine jr (mul_ne_zero Q6 h0) hN ?_;rw[natAbs_mul,Nat.add_comm b C,pow_add];exact lt_of_le_of_lt (Nat.mul_le_mul_right _ hD) (Nat.mul_lt_mul_of_pos_left hz (pow_pos (by decide)))
theorem LW(h:z≠0):((z:Rat)).num≠0:=h
theorem Kk(T:TX P K mg){Fl:List Dat->Option Dat}(Cn:Dn P w K mg base 44 "left_over" ["row","point"] 2 Fl)(hL:dJ Fl)(OU:Dn P w K mg base 44 "over" ["a","b"] 2 sV)(yG:Dn P w K mg base 44 "below" ["a","b"] 2 gJ)(jJ:Dn P w K mg base 44 "make" ["n","d"] 2 dw)(U:FnAt K mg "tightest" (top 22) ["rows","place","point","way"]):
  ∃F,Dn P w K mg base 45 "tightest" ["rows","place","point","way"] 4 F/\Qn F:=by
 refine⟨_,cN ["rows","place","point","way","best","row","part","kind","number"] U fun nd _ _ _ _ _ _ _ hr=>
  (ah (aF 4 nd bg)
  (ah (gk PassesOwn.never rfl (a7 0) (aJ 5 nd)
  (ah (aF 6 nd (bE (a7 3) (ao (ao (a7 5) ae) (a7 1))))
  (ak (aV (cx (cF (my (a7 6) ae) (cP (cx (f7 (jt (a7 6) ae) (eV (cq hr (ao (a7 5) ae) aX))))))) (ah (aF 7 nd (eX (cq hr (ao (a7 5) ae) aX) aX aX))
  (ah (aF 8 nd (aH OU hr (a8 (aH Cn hr (a8 (a7 5) (a8 (a7 2) af))) (a8 (bf (k:=0) (a8 (a7 6) (a8 ae af))) af (hs:=fN)) (hs:=bA))))
  (ak (aV (cx (cF (cC (a7 4) bg) (cF (bM (aH yG hr (a8 (a7 8) (a8 (ao (a7 4) ae) af (hs:=aW))))) (cP (cx (f7 (cq hr (a7 8) (ao (a7 4) ae)) (eV (cq hr (a7 7) aX)))))))) (ak (aF 4 nd (bf (k:=0) (a8 (a7 7) (a8 (a7 8) (a8 (dD (jN rfl (eZ (tn:=["weight"]) (fv:=["part"]) (js:=[6]) rfl (by decide +kernel) (by decide +kernel) rfl (by decide +kernel) (by decide +kernel) rfl
   (fun x hx=>by((have gC:x="part":=(by simpa using hx));(rcases gC with rfl<;>exact⟨_,rfl⟩)))
   (fun p hp=>by((have fo:p=(("part" : Str),(6:Nat)):=(by simpa using hp));(rcases fo with rfl<;>exact⟨rfl,.inr (.inl rfl),.inl rfl,fun z=>by cases z⟩)))) (ni (ao (a7 5) ae) (oF (dW (fA T.len (a8 (a7 2) af)) ae)) oG) (fun _ _ _ _=>(aJ 0 (show(["weight","part"]:List Str).Nodup by decide +kernel))) (fun _ _ _ _=>eK) (fun _ _ _ _=>(aH jJ hr (a8 (a7 0) (a8 (a7 1) af)))) (fz rfl))) af)))))) aR)))) aR))))
  (ak (az (a7 4))))),?_⟩
 intro b C m j rows x way j1 hb hR PD mO GG hj hx hsz;have z2:2<=sizeLine:=sz (by decide);have z3:3<=sizeLine:=sz (by decide);have lo:=pX qD x;have wb:∀r∈rows,(way*FM.ent r j).natAbs<2^b:=fun r hr=>by
  have:=cX (j:=j) (hR.bd r hr);rcases j1 with e|e
  ·rw[e,one_mul];exact this
  ·rw[e,Int.neg_mul,one_mul,natAbs_neg];exact this
 have LX:∀r∈rows,way*FM.ent r j≠0->SR (b+C) (FM.d9 j way x r):=fun r hr h0=>by
  obtain⟨_,sl⟩:=hL b C r x hb (by rw[hR.len r hr];exact PD) GG (hR.bd r hr) hx hsz;exact JY sl (wb r hr) h0
 have tS:∀(l:List FM.Row) (t:Option FM.fu),(∀r∈l,r∈rows)->(∀y,t=some y->SR (b+C) y.2.1)->∀y,l.foldl (FM.iV j way x) t=some y->SR (b+C) y.2.1:=fun l=>by
  induction l with
  |nil=>intro t _ h;exact h
  |cons r l ih=>
   intro t jj h;refine ih (FM.iV j way x t r) (fun q hq=>jj q (mem_cons_of_mem _ hq)) fun y hy=>?_;unfold FM.iV at hy;split at hy
   ·rename_i hc;split at hy
    ·cases hy;refine LX r (jj r mem_cons_self) ?_;rcases hc with h|h
     ·omega
     ·have:=h.1;omega
    ·exact h y hy
   ·exact h y hy
 refine⟨?_,tS rows none (fun _ h=>h) (fun y h=>by cases h)⟩;refine c8 ?_;simp!;rw[aE (aj:=[some (.a9 (.list (rows.map aG))),some (.a9 (.int (j:Int))),some (.a9 (.list (x.map qD))),some (.a9 (.int way)),some (.a9 (cG none)),none,none,none,none]) (by simp![cG])];refine iW (I:=_) (iR (l:=rows) (s:=(none:Option FM.fu)) aG (fun(t:Option FM.fu) Γ=>∃x5 x6 x7 x8,Γ=[some (.a9 (.list (rows.map aG))),some (.a9 (.int (j:Int))),some (.a9 (.list (x.map qD))),some (.a9 (.int way)),some (.a9 (cG t)),x5,x6,x7,x8]) (fun t l=>(∀y,t=some y->SR (b+C) y.2.1)/\∀r∈l,r∈rows) (FM.iV j way x) (d:=.list (rows.map aG)) rfl rfl ⟨fun y h=>(by cases h),fun _ h=>h⟩ ⟨none,none,none,none,rfl⟩ ?_) ?_
 ·rintro t r l Γ ⟨ht,jj⟩ ⟨x5,x6,x7,x8,rfl⟩;have hr:=jj r mem_cons_self;have hQ:(∀y,FM.iV j way x t r=some y->SR (b+C) y.2.1)/\∀q∈l,q∈rows:=⟨tS [r] t (fun q hq=>by rw[mem_singleton.mp hq];exact hr) ht,fun q hq=>jj q (mem_cons_of_mem _ hq)⟩;have a1:bB (eJ r.2) (.int (j:Int))=some (.int (FM.ent r j)):=fZ (by rw[hR.len r hr];exact hj);have em:ib (.int way) (.int (FM.ent r j))=some (.int (way*FM.ent r j)):=mulL _ (by rcases j1 with e|e<;>(rw[e];decide)) (by rcases j1 with e|e<;>(rw[e];decide));refine⟨[(5,aG r)],rfl,?_⟩;dsimp!;rw[aE (aj:=[some (.a9 (.list (rows.map aG))),some (.a9 (.int (j:Int))),some (.a9 (.list (x.map qD))),some (.a9 (.int way)),some (.a9 (cG t)),some (.a9 (aG r)),some (.a9 (.int (way*FM.ent r j))),x7,x8]) (by dsimp![gP,a1,em])];by_cases hc:FM.ly j way r
  ·have h0:way*FM.ent r j≠0:=by
    rcases hc with h|h
    ·omega
    ·have:=h.1;omega
   rw[pO (by
    rcases hc with h|⟨h,hk⟩
    ·dsimp![fB,eq_true h]
    ·have h':¬0<way*FM.ent r j:=by omega
     have k1:=(jD r.1).mpr hk;dsimp![fB,dE,jh,cJ,eq_false h',eq_true h,eq_true k1])]
   obtain⟨eL,sl⟩:=hL b C r x hb (by rw[hR.len r hr];exact PD) GG (hR.bd r hr) hx hsz;have eo:sV [qD (FM.kA r x),.tuple [.int (way*FM.ent r j),.int 1]]=some (qD (FM.d9 j way x r)):=NB (sl.sr (by omega)) (vX hb (wb r hr)) (by omega) (by omega) (LW h0);have sn:=LX r hr h0;have ek:(if r.1=.lt then("<" : Str)else "<=")=gB (decide (r.1=.lt)):=by unfold gB;by_cases c:r.1=.lt<;>simp[c]
   rw[aE (aj:=[some (.a9 (.list (rows.map aG))),some (.a9 (.int (j:Int))),some (.a9 (.list (x.map qD))),some (.a9 (.int way)),some (.a9 (cG t)),some (.a9 (aG r)),some (.a9 (.int (way*FM.ent r j))),some (.a9 (.str (gB (decide (r.1=.lt))))),x8]) (by
    by_cases c:r.1=.lt
    ·have k1:=(Bs r.1).mpr c;rw[decide_eq_true c];dsimp![jh,cJ,eq_true k1,gB]
    ·have k1:¬bF r.1="<":=fun z=>c ((Bs r.1).mp z);rw[decide_eq_false c];dsimp![jh,cJ,eq_false k1,gB])]
   rw[aE (aj:=[some (.a9 (.list (rows.map aG))),some (.a9 (.int (j:Int))),some (.a9 (.list (x.map qD))),some (.a9 (.int way)),some (.a9 (cG t)),some (.a9 (aG r)),some (.a9 (.int (way*FM.ent r j))),some (.a9 (.str (gB (decide (r.1=.lt))))),some (.a9 (qD (FM.d9 j way x r)))]) (by dsimp![eL,eo,z2])];have eb:FM.iV j way x t r=if FM.better t (decide (r.1=.lt)) (FM.d9 j way x r)=true then some (decide (r.1=.lt),FM.d9 j way x r,FM.mj j way x r)else t:=if_pos hc;generalize hkt:decide (r.1=.lt)=kt at *;generalize hv:FM.d9 j way x r=v at *;have hN:b+C<=4000000:=by omega
   have PU:dU (.str (gB kt)) (.str "<")=some (.bool kt):=by cases kt<;>rfl
   have test:lx (c9 (L3.f2 iH (aT 4) (fC .none))) (lx (mf (jS 2 gJ (bj (aT 8) (bj (L3.f2 bB (aT 4) (fC (.int 1))) cz)))) (kD (c9 (L3.f2 dU (aT 8) (L3.f2 bB (aT 4) (fC (.int 1))))) (c9 (L3.f2 dU (aT 7) (fC (.str "<")))))) (bH [some (.a9 (.list (rows.map aG))),some (.a9 (.int (j:Int))),some (.a9 (.list (x.map qD))),some (.a9 (.int way)),some (.a9 (cG t)),some (.a9 (aG r)),some (.a9 (.int (way*FM.ent r j))),some (.a9 (.str (gB kt))),some (.a9 (qD v))])=some (FM.better t kt v):=by
    cases t with
    |none=>
     have e0:cG none=.none:=rfl;have er:FM.better none kt v=true:=rfl;rw[er,e0];dsimp![nF]
    |some y=>
     have er:FM.better (some y) kt v=(decide (v<y.2.1) || (decide (v=y.2.1)&&kt)):=rfl;have a2:bB (cG (some y)) (.int 1)=some (qD y.2.1):=rfl;have e1:=mV sn (ht y rfl) hN hN;have e2:=sF v y.2.1;rw[er];by_cases c1:v<y.2.1
     ·rw[decide_eq_true c1]at e1 ⊢;dsimp![kB,a2,e1,Bool.true_or]
     ·rw[decide_eq_false c1]at e1 ⊢;by_cases c2:v=y.2.1
      ·rw[decide_eq_true c2]at e2 ⊢;cases kt with
       |true=>dsimp![kB,a2,e1,e2,PU,Bool.false_or,Bool.true_and]
       |false=>dsimp![kB,a2,e1,e2,PU,Bool.false_or,Bool.true_and]
      ·rw[decide_eq_false c2]at e2 ⊢;dsimp![kB,a2,e1,e2,Bool.false_or,Bool.false_and]
   cases uM:FM.better t kt v with
   |false=>
    rw[uM]at test eb;rw[if_neg Bool.false_ne_true]at eb;refine⟨[some (.a9 (.list (rows.map aG))),some (.a9 (.int (j:Int))),some (.a9 (.list (x.map qD))),some (.a9 (.int way)),some (.a9 (cG t)),some (.a9 (aG r)),some (.a9 (.int (way*FM.ent r j))),some (.a9 (.str (gB kt))),some (.a9 (qD v))],?_,⟨_,_,_,_,by rw[eb]⟩,hQ⟩;rw[pP test];rfl
   |true=>
    rw[uM]at test eb;rw[if_pos rfl]at eb;refine⟨[some (.a9 (.list (rows.map aG))),some (.a9 (.int (j:Int))),some (.a9 (.list (x.map qD))),some (.a9 (.int way)),some (.a9 (cG (some (kt,v,FM.mj j way x r)))),some (.a9 (aG r)),some (.a9 (.int (way*FM.ent r j))),some (.a9 (.str (gB kt))),some (.a9 (qD v))],?_,⟨_,_,_,_,by rw[eb]⟩,hQ⟩;rw[pO test];have es:=Le r.2 (j:=x.length) (by rw[hR.len r hr];omega);have zd:(r.2.drop (x.length+1)).length<sizeLine:=by rw[length_drop,hR.len r hr];exact lt_of_lt_of_le (show m-(x.length+1)<1000 by omega) (sz (by decide))
    have ec:cw (aName 0) gN (jS 2 dw (bj (aT 0) (bj (aT 1) cz))) [none,some (.int (way*FM.ent r j))] ((r.2.drop (x.length+1)).map .int)=some ((FM.mj j way x r).map qD):=by
     refine eY _ _ (by unfold FM.mj;rw[length_map,length_map,length_map]) fun i d o h1 h2=>?_;unfold FM.mj at h2;rw[getElem?_map]at h1 h2;rw[getElem?_map]at h2;cases hz:(r.2.drop (x.length+1))[i]? with
     |none=>rw[hz]at h1;cases h1
     |some z=>
      rw[hz]at h1 h2;cases h1;cases h2;refine⟨[(0,.int z)],rfl,?_⟩;have e:=Gk (z:=z) h0 (gn (wb r hr) (by omega));simp![e]
    have Uu:cG (some (kt,v,FM.mj j way x r))=.tuple [.str (gB kt),qD v,.list ((FM.mj j way x r).map qD)]:=rfl;rw[Uu];dsimp![gP,p9,nv,ny,yi,lo,cA,es,length_map,zd,ec,z3]
  ·have eb:FM.iV j way x t r=t:=if_neg hc;refine⟨[some (.a9 (.list (rows.map aG))),some (.a9 (.int (j:Int))),some (.a9 (.list (x.map qD))),some (.a9 (.int way)),some (.a9 (cG t)),some (.a9 (aG r)),some (.a9 (.int (way*FM.ent r j))),x7,x8],?_,⟨_,_,_,_,by rw[eb]⟩,hQ⟩;rw[pP (by
    have h1:¬0<way*FM.ent r j:=fun z=>hc (.inl z);by_cases h2:way*FM.ent r j<0
    ·have k1:¬bF r.1="=":=fun z=>hc (.inr ⟨h2,(jD r.1).mp z⟩);dsimp![fB,dE,jh,cJ,eq_false h1,eq_true h2,eq_false k1]
    ·dsimp![fB,dE,jh,cJ,eq_false h1,eq_false h2])]
   rfl
 ·rintro aj ⟨x5,x6,x7,x8,rfl⟩;simp![];rfl
abbrev cQ (rows:List FM.Row):Dat:=.list (rows.map aG)
theorem AG(g:α->Dat){xs:List α}{x:α}(hl:xs.length=n+1)(h:xs[n]?=some x):bB (.list (xs.map g)) (.int (-1))=some (g x):=by
 show gE (xs.map g) (-1)=_;unfold L2.gE L2.qk;rw[if_neg (by decide),if_pos (by rw[length_map];omega)];show(xs.map g)[((-1:Int)+((xs.map g).length:Int)).toNat]?=_;rw[length_map,hl,show((-1:Int)+((n+1:Nat):Int)).toNat=n by omega,getElem?_map,h];rfl
theorem yc:∀n:Nat,lU (List.replicate n 0) 0
 |0=>.nil
 |n+1=>.zero rfl (yc n)
abbrev US (F:List Dat->Option Dat):Prop:=∀(b n m:Nat) (Ls:List (List FM.Row)) (rows:List FM.Row) (way:Int),(way=1\/way=-1)->1<=b->Ls.length=n+1->Ls[n]?=some rows->km m b rows->n+1<m->m<=900->n<=90->b<=3900000->F [.list (Ls.map cQ),.int way]=some (cG (FM.endOf n rows way))/\∀t,FM.endOf n rows way=some t->SR b t.2.1
theorem Kw(T:TX P K mg)(Z1:TC K mg "ZERO_elimination" [.int 0,.int 1] a1){Ft:List Dat->Option Dat}(F3:Dn P w K mg base 45 "tightest" ["rows","place","point","way"] 4 Ft)(hT:Qn Ft)(U:FnAt K mg "end_of" (top 23) ["stages","way"]):
  ∃F,Dn P w K mg base 46 "end_of" ["stages","way"] 2 F/\US F:=by
 refine⟨_,cN ["stages","way","place"] U fun nd _ _ _ _ _ _ _ hr=>
  (ah (aF 2 nd (mz (fA T.len (a8 (a7 0) af)) ae))
  (ak (az (aH F3 hr (a8 (ao (a7 0) (jw ae)) (a8 (a7 2) (a8 (dD (wt (ju (a8 (cK Z1.mg Z1.tup) af)) (dW (a7 2) ae))) (a8 (a7 1) af) (hs:=bO))) (hs:=aW)))))),?_⟩
 intro b n m Ls rows way j1 hb hl hn hR DX mO DY hsz;have lo:=pX cQ Ls;have al:=AG cQ hl hn;have er:∀ρ:ar,(L3.f2 k9 (aT 2) (fC (.int 1))) ρ=some (.int ((n+1:Nat):Int))->qW (mQ (bj (fC (.tuple [.int 0,.int 1])) cz)) (L3.f2 k9 (aT 2) (fC (.int 1))) ρ=some ((List.replicate (n+1) (0:Rat)).map qD):=fun ρ h=>CS h (by omega);have e1:=hT b 0 m n rows (List.replicate (n+1) 0) way j1 hb hR (by rw[length_replicate];omega) mO (by rw[length_replicate];omega) (by omega) (yc _) (by omega);obtain⟨e1,e2⟩:=e1;refine⟨?_,e2⟩;refine c8 ?_;simp!;have hp:((Ls.length:Nat):Int)-1=(n:Int):=by omega
 rw[aE (aj:=[some (.a9 (.list (Ls.map cQ))),some (.a9 (.int way)),some (.a9 (.int (n:Int)))]) (by simp![lo,eA,hp])];have Qe:=er (bH [some (.a9 (.list (Ls.map cQ))),some (.a9 (.int way)),some (.a9 (.int (n:Int)))]) rfl;clear er;generalize (List.replicate (n+1) (0:Rat)).map qD=zs at *;generalize qW (mQ (bj (fC (.tuple [.int 0,.int 1])) cz)) (L3.f2 k9 (aT 2) (fC (.int 1)))=gr at *;simp only[bH,map_cons,map_nil]at Qe;dsimp![al,Qe,e1];rfl
variable {Fe:List Dat->Option Dat}
theorem Ki(T:TX P K mg)(ug:Dn P w K mg base 46 "end_of" ["stages","way"] 2 Fe)(U:FnAt K mg "upper_end" (top 24) ["stages"]):
  ∃F,Dn P w K mg base 47 "upper_end" ["stages"] 1 F/\∀s d,Fe [s,.int 1]=some d->F [s]=some d:=by
 refine⟨_,cN ["stages"] U fun nd _ _ _ _ _ _ _ hr=>
  (ak (az (aH ug hr (a8 (a7 0) (a8 ae af))))),?_⟩
 intro s d h;simp![h]
theorem Na(T:TX P K mg)(ug:Dn P w K mg base 46 "end_of" ["stages","way"] 2 Fe)(U:FnAt K mg "opposite_end" (top 25) ["stages"]):
  ∃F,Dn P w K mg base 47 "opposite_end" ["stages"] 1 F/\∀s d,Fe [s,.int (-1)]=some d->F [s]=some d:=by
 refine⟨_,cN ["stages"] U fun nd _ _ _ _ _ _ _ hr=>
  (ak (az (aH ug hr (a8 (a7 0) (a8 (jw ae) af (hs:=zy)))))),?_⟩
 intro s d h;simp![h]
def nS:Option (List Rat)->Dat
 |none=>.none
 |some ws=>.list (ws.map qD)
theorem O9(l:List Int)(h:j+2<=l.length):CF (eJ l) (some ((j:Int)+2)) none=some (eJ (l.drop (j+2))):=by
 have:=Le l (j:=j+1) h;rw[show((j+1:Nat):Int)+1=(j:Int)+2 by omega]at this;exact this
variable {way:Int}
theorem KU(j1:way=1\/way=-1)(h:z.natAbs<2^b):(way*z).natAbs<2^b:=by
 rcases j1 with e|e
 ·rw[e,one_mul];exact h
 ·rw[e,Int.neg_mul,one_mul,natAbs_neg];exact h
variable {rows:List FM.Row}
theorem y6(j1:way=1\/way=-1)(hR:km m b rows){t:FM.fu}(h:FM.endOf n rows way=some t):SR b t.2.1/\∀w∈t.2.2,SR b w:=by
 obtain⟨⟨r,hr,hc,k1,k2,k3⟩,_⟩:=(FM.kM rows n (List.replicate (n+1) 0) way).some t h;have xw:way*FM.ent r n≠0:=by rcases hc with hc|⟨hc,_⟩<;>omega
 have hb:=KU j1 (cX (j:=n) (hR.bd r hr));have e:FM.kA r (List.replicate (n+1) 0)=((FM.ent r (n+1):Int):Rat):=FM.uG;rw[k2,k3];unfold FM.d9;rw[e];refine⟨jr xw (cX (hR.bd r hr)) hb,fun w hw=>?_⟩;unfold FM.mj at hw;obtain⟨z,hz,rfl⟩:=mem_map.mp hw;exact jr xw (hR.bd r hr z (List.mem_of_mem_drop hz)) hb
abbrev QM (F:List Dat->Option Dat):Prop:=∀(n:Nat) (k:FM.Kn) (b:Rat),n<=4000000->SR n b->F [.str (bF k),qD b]=some (.bool (FM.cy k b))
def zV (n:Nat) (r:FM.Row):List Rat:=(r.2.drop (n+2)).map fun(w:Int)=>(((if r.1=.eq/\0<FM.ent r (n+1)then -1 else 1:Int)*w:Int):Rat)
abbrev Qy (F:List Dat->Option Dat):Prop:=∀(b n m:Nat) (Ls:List (List FM.Row)) (rows:List FM.Row),1<=b->Ls.length=n+1->Ls[n]?=some rows->km m b rows->n+2<=m->m<=900->b<=4000000->F [.list (Ls.map cQ)]=some (nS (FM.fP n rows))
theorem Ko(T:TX P K mg){Fi:List Dat->Option Dat}(pK:Dn P w K mg base 44 "is_never" ["kind","bound"] 2 Fi)(hI:QM Fi)(U:FnAt K mg "never_by_a_row" (top 27) ["stages"]):
  ∃F,Dn P w K mg base 45 "never_by_a_row" ["stages"] 1 F/\Qy F:=by
 refine⟨_,cN ["stages","place","row","bound","way"] U fun nd _ _ _ _ _ _ _ hr=>
  (ah (aF 1 nd (mz (fA T.len (a8 (a7 0) af)) ae))
  (ah (gk PassesOwn.never rfl (ao (a7 0) (jw ae)) (aJ 2 nd)
  (ah (aF 3 nd (ao (ao (a7 2) ae) (dW (a7 1) ae)))
  (ak (aV (cx (f7 (cq hr (ao (ao (a7 2) ae) (a7 1)) ae) (eV (bM (aH pK hr (a8 (ao (a7 2) ae) (a8 (bf (k:=0) (a8 (a7 3) (a8 ae af))) af (hs:=fN)) (hs:=aW))))))) (ah (aF 4 nd (eX (cx (f7 (cq hr (ao (a7 2) ae) aX) (eV (my (a7 3) ae)))) (jw ae) ae))
  (ak (az (dD (jN rfl (eZ (tn:=["weight"]) (fv:=["way"]) (js:=[4]) rfl (by decide +kernel) (by decide +kernel) rfl (by decide +kernel) (by decide +kernel) rfl
   (fun x hx=>by((have gC:x="way":=(by simpa using hx));(rcases gC with rfl<;>exact⟨_,rfl⟩)))
   (fun p hp=>by((have fo:p=(("way" : Str),(4:Nat)):=(by simpa using hp));(rcases fo with rfl<;>exact⟨rfl,.inr (.inl rfl),.inl rfl,fun z=>by cases z⟩)))) (ni (ao (a7 2) ae) (oF (dW (a7 1) ae)) oG) (fun _ _ _ _=>(aJ 0 (show(["weight","way"]:List Str).Nodup by decide +kernel))) (fun _ _ _ _=>eK) (fun _ _ _ _=>(bf (k:=0) (a8 (bE (a7 1) (a7 0)) (a8 ae af) (hs:=bO)))) (fz rfl)))))) aR))))
  (ak (az bg)))),?_⟩
 intro b n m Ls rows hb hl hn hR DX mO Ad;have z2:2<=sizeLine:=sz (by decide);have lo:=pX cQ Ls;have al:=AG cQ hl hn;have hp:((Ls.length:Nat):Int)-1=(n:Int):=by omega
 refine c8 ?_;simp!;rw[aE (aj:=[some (.a9 (.list (Ls.map cQ))),some (.a9 (.int (n:Int))),none,none,none]) (by simp![lo,eA,hp])];refine(uQ (l:=rows) aG (fun Γ=>∃x2 x3 x4,Γ=[some (.a9 (.list (Ls.map cQ))),some (.a9 (.int (n:Int))),x2,x3,x4]) (fun r=>decide (FM.ent r n=0)&&FM.cy r.1 (FM.ent r (n+1):Rat)) (fun r=>.list ((zV n r).map qD)) (d:=cQ rows) (fl:=fun o=>.rt (nS (o.map (zV n)))) (by dsimp![al]) rfl ⟨none,none,none,rfl⟩ ?_ (fun _=>rfl) ?_)
 ·rintro r hr Γ ⟨x2,x3,x4,rfl⟩;refine⟨[(2,aG r)],rfl,?_⟩;dsimp!;have a0:bB (eJ r.2) (.int (n:Int))=some (.int (FM.ent r n)):=fZ (by rw[hR.len r hr];omega);have a1:bB (eJ r.2) (.int ((n:Int)+1))=some (.int (FM.ent r (n+1))):=fZ (j:=n+1) (by rw[hR.len r hr];omega);have hN:Fi [.str (bF r.1),.tuple [.int (FM.ent r (n+1)),.int 1]]=some (.bool (FM.cy r.1 (FM.ent r (n+1):Rat))):=hI b r.1 _ Ad (vX hb (cX (hR.bd r hr)));rw[aE (aj:=[some (.a9 (.list (Ls.map cQ))),some (.a9 (.int (n:Int))),some (.a9 (aG r)),some (.a9 (.int (FM.ent r (n+1)))),x4]) (by dsimp![gP,cA,a1])];by_cases c1:FM.ent r n=0
  ·cases c2:FM.cy r.1 (FM.ent r (n+1):Rat)with
   |false=>
    rw[c2]at hN;rw[if_neg (by rw[Bool.and_false];exact Bool.false_ne_true)];refine⟨[some (.a9 (.list (Ls.map cQ))),some (.a9 (.int (n:Int))),some (.a9 (aG r)),some (.a9 (.int (FM.ent r (n+1)))),x4],?_,_,_,_,rfl⟩;dsimp![jh,gP,a0,cB,eq_true c1,hN,z2]
   |true=>
    rw[c2]at hN;rw[if_pos (by rw[decide_eq_true c1];rfl)];rw[pO (by dsimp![jh,gP,a0,cB,eq_true c1,hN,z2])];have es:=O9 r.2 (j:=n) (by rw[hR.len r hr];omega);have zd:(r.2.drop (n+2)).length<sizeLine:=by rw[length_drop,hR.len r hr];exact lt_of_lt_of_le (show m-(n+2)<1000 by omega) (sz (by decide))
    have fin:∀way:Int,(way=1\/way=-1)->cw (aName 0) gN (nL (bj (L3.f2 ib (aT 1) (aT 0)) (bj (fC (.int 1)) cz))) [none,some (.int way)] ((r.2.drop (n+2)).map .int)=some (((r.2.drop (n+2)).map fun(w:Int)=>((way*w:Int):Rat)).map qD):=by
     intro way j1;refine eY _ _ (by rw[length_map,length_map,length_map]) fun i d o h1 h2=>?_;rw[getElem?_map]at h1 h2;rw[getElem?_map]at h2;cases hz:(r.2.drop (n+2))[i]? with
     |none=>rw[hz]at h1;cases h1
     |some z=>
      rw[hz]at h1 h2;cases h1;cases h2;refine⟨[(0,.int z)],rfl,?_⟩;have em:ib (.int way) (.int z)=some (.int (way*z)):=mulL _ (by rcases j1 with e|e<;>(rw[e];decide)) (by rcases j1 with e|e<;>(rw[e];decide));have eq:qD ((way*z:Int):Rat)=.tuple [.int (way*z),.int 1]:=qI _;simp![em,eq,z2]
    by_cases c3:r.1=.eq/\0<FM.ent r (n+1)
    ·have k1:=(jD r.1).mpr c3.1;rw[aE (aj:=[some (.a9 (.list (Ls.map cQ))),some (.a9 (.int (n:Int))),some (.a9 (aG r)),some (.a9 (.int (FM.ent r (n+1)))),some (.a9 (.int (-1)))]) (by dsimp![jh,cJ,eq_true k1,fB,eq_true c3.2])];have ew:zV n r=(r.2.drop (n+2)).map fun(w:Int)=>(((-1:Int)*w:Int):Rat):=by unfold zV;rw[if_pos c3]
     rw[ew];have ec:=fin (-1) (.inr rfl);dsimp![gP,p9,nv,ny,yi,cA,es,length_map,zd,ec]
    ·rw[aE (aj:=[some (.a9 (.list (Ls.map cQ))),some (.a9 (.int (n:Int))),some (.a9 (aG r)),some (.a9 (.int (FM.ent r (n+1)))),some (.a9 (.int 1))]) (by
      by_cases c4:r.1=.eq
      ·have k1:=(jD r.1).mpr c4;have c5:¬0<FM.ent r (n+1):=fun z=>c3 ⟨c4,z⟩;dsimp![jh,cJ,eq_true k1,fB,eq_false c5]
      ·have k1:¬bF r.1="=":=fun z=>c4 ((jD r.1).mp z);dsimp![jh,cJ,eq_false k1])]
     have ew:zV n r=(r.2.drop (n+2)).map fun(w:Int)=>(((1:Int)*w:Int):Rat):=by unfold zV;rw[if_neg c3]
     rw[ew];have ec:=fin 1 (.inl rfl);dsimp![gP,p9,nv,ny,yi,cA,es,length_map,zd,ec]
  ·rw[if_neg (by rw[decide_eq_false c1];exact Bool.false_ne_true)];refine⟨[some (.a9 (.list (Ls.map cQ))),some (.a9 (.int (n:Int))),some (.a9 (aG r)),some (.a9 (.int (FM.ent r (n+1)))),x4],?_,_,_,_,rfl⟩;dsimp![jh,gP,a0,cB,eq_false c1]
 ·rintro aj ⟨x2,x3,x4,rfl⟩;simp![nS,map_none]
theorem Hz:∀(xs ys:List Rat),eh (xs.map qD) (ys.map qD)=(xs.zip ys).map fun z=>Dat.tuple [qD z.1,qD z.2]
 |[],ys=>by simp[eh]
 |x::xs,[]=>by simp[eh]
 |x::xs,y::ys=>by simp only[map_cons,eh,zip_cons_cons,Hz xs ys]
abbrev Qx (F:List Dat->Option Dat):Prop:=∀(b n m:Nat) (Ls:List (List FM.Row)) (rows:List FM.Row),1<=b->Ls.length=n+1->Ls[n]?=some rows->km m b rows->n+2<=m->m<=900->n<=90->b<=1900000->F [.list (Ls.map cQ)]=some (nS (FM.gh n rows))
abbrev yk (way:Int) (F:List Dat->Option Dat):Prop:=∀(b n m:Nat) (Ls:List (List FM.Row)) (rows:List FM.Row),1<=b->Ls.length=n+1->Ls[n]?=some rows->km m b rows->n+1<m->m<=900->n<=90->b<=1900000->F [.list (Ls.map cQ)]=some (cG (FM.endOf n rows way))
theorem zi(hl:∀r∈rows,r.2.length=m){t:FM.fu}(h:FM.endOf n rows way=some t):t.2.2.length=m-(n+2):=by
 obtain⟨⟨r,hr,hc,k1,k2,k3⟩,_⟩:=(FM.kM rows n (List.replicate (n+1) 0) way).some t h;rw[k3];unfold FM.mj;rw[length_map,length_drop,hl r hr,length_replicate]
variable {Fu:List Dat->Option Dat}
theorem GU(T:TX P K mg){Fo Fi:List Dat->Option Dat}(je:Dn P w K mg base 47 "upper_end" ["stages"] 1 Fu)(hU:yk 1 Fu)(kb:Dn P w K mg base 47 "opposite_end" ["stages"] 1 Fo)(hO:yk (-1) Fo)(pK:Dn P w K mg base 47 "is_never" ["kind","bound"] 2 Fi)(hI:QM Fi)(J6:Dn P w K mg base 47 "plus" ["a","b"] 2 jc)(U:FnAt K mg "never_by_ends" (top 28) ["stages"]):
  ∃F,Dn P w K mg base 48 "never_by_ends" ["stages"] 1 F/\Qx F:=by
 refine⟨_,cN ["stages","top","bottom","kind"] U fun nd _ _ _ _ _ _ _ hr=>
  (ah (aF 1 nd (aH je hr (a8 (a7 0) af)))
  (ah (aF 2 nd (aH kb hr (a8 (a7 0) af)))
  (ah (aV (cx (cF (cC (a7 1) bg) (cP (cC (a7 2) bg)))) (ak (az bg)) aR)
  (ah (aF 3 nd (eX (zH aX (bf (k:=0) (a8 (ao (a7 1) ae) (a8 (ao (a7 2) ae) af (hs:=aW)) (hs:=aW)))) aX aX))
  (ah (aV (bM (aH pK hr (a8 (a7 3) (a8 (aH J6 hr (a8 (ao (a7 1) ae) (a8 (ao (a7 2) ae) af (hs:=aW)) (hs:=aW))) af (hs:=bA))))) (ak (az (dD (kv rfl (pE (N':=["a","b"])) (ng T.zip (a8 (ao (a7 1) ae) (a8 (ao (a7 2) ae) af (hs:=aW)) (hs:=aW))) (fun _ _ _ _=>(dC (n:=2) rfl (aY (aJ 0 (show(["a","b"]:List Str).Nodup by decide +kernel)) (aY (aJ 1 (show(["a","b"]:List Str).Nodup by decide +kernel)) cR)))) (fun _ _ _ _=>eK) (fun _ _ _ _=>(aH J6 hr (a8 (a7 0) (a8 (a7 1) af)))) (rA rfl rfl))))) aR)
  (ak (az bg))))))),?_⟩
 intro b n m Ls rows hb hl hn hR DX mO DY hsz;have z2:2<=sizeLine:=sz (by decide);have eu:=hU b n m Ls rows hb hl hn hR (by omega) mO DY hsz;have eo:=hO b n m Ls rows hb hl hn hR (by omega) mO DY hsz;refine c8 ?_;simp!;rw[aE (aj:=[some (.a9 (.list (Ls.map cQ))),some (.a9 (cG (FM.endOf n rows 1))),none,none]) (by dsimp![eu])];rw[aE (aj:=[some (.a9 (.list (Ls.map cQ))),some (.a9 (cG (FM.endOf n rows 1))),some (.a9 (cG (FM.endOf n rows (-1)))),none]) (by dsimp![eo])];have nE:FM.gh n rows=(match FM.endOf n rows 1,FM.endOf n rows (-1)with
  |some t,some b=>if FM.cy (if t.1=true\/b.1=true then .lt else .le) (t.2.1+b.2.1)=true then some (zipWith (fun x y=>x+y) t.2.2 b.2.2)else none
  |_,_=>none):=rfl
 rw[nE];cases ht:FM.endOf n rows 1 with
 |none=>
  have e0:cG none=.none:=rfl;rw[e0];dsimp![nF,nS]
 |some t=>
  cases ho:FM.endOf n rows (-1)with
  |none=>
   have e0:cG none=.none:=rfl;rw[e0];dsimp![nF,kB,nS]
  |some o=>
   obtain⟨s1,s2⟩:=y6 (.inl rfl) hR ht;obtain⟨s3,s4⟩:=y6 (.inr rfl) hR ho;have w1:=zi hR.len ht;have w2:=zi hR.len ho;have Ad:b+b+1<=4000000:=by omega
   have t0:bB (cG (some t)) (.int 0)=some (.str (gB t.1)):=rfl;have t1:bB (cG (some t)) (.int 1)=some (qD t.2.1):=rfl;have t2:bB (cG (some t)) (.int 2)=some (.list (t.2.2.map qD)):=rfl;have o0:bB (cG (some o)) (.int 0)=some (.str (gB o.1)):=rfl;have o1:bB (cG (some o)) (.int 1)=some (qD o.2.1):=rfl;have o2:bB (cG (some o)) (.int 2)=some (.list (o.2.2.map qD)):=rfl;have ei:inD (.str "<") (.tuple [.str (gB t.1),.str (gB o.1)])=some (.bool (decide (t.1=true\/o.1=true))):=by
    cases t.1<;>cases o.1<;>rfl
   have ep:=sT s1 s3 (by omega) (by omega);have eN:=hI (b+b+1) (if t.1=true\/o.1=true then .lt else .le) (t.2.1+o.2.1) Ad (s1.add s3);show _=some (Fl.rt (nS (if FM.cy (if t.1=true\/o.1=true then .lt else .le) (t.2.1+o.2.1)=true then some (zipWith (fun x y=>x+y) t.2.2 o.2.2)else none)));rw[aE (aj:=[some (.a9 (.list (Ls.map cQ))),some (.a9 (cG (some t))),some (.a9 (cG (some o))),none]) (by dsimp![kB])];rw[aE (aj:=[some (.a9 (.list (Ls.map cQ))),some (.a9 (cG (some t))),some (.a9 (cG (some o))),some (.a9 (.str (bF (if t.1=true\/o.1=true then .lt else .le))))]) (by
    by_cases c:t.1=true\/o.1=true
    ·rw[decide_eq_true c]at ei;rw[if_pos c];have ks:bF .lt="<":=rfl;dsimp![t0,o0,ei,z2,ks]
    ·rw[decide_eq_false c]at ei;rw[if_neg c];have ks:bF .le="<=":=rfl;dsimp![t0,o0,ei,z2,ks])]
   generalize (if t.1=true\/o.1=true then FM.Kn.lt else .le)=kn at *;cases c2:FM.cy kn (t.2.1+o.2.1)with
   |false=>
    rw[c2]at eN;rw[if_neg Bool.false_ne_true];dsimp![t1,o1,ep,eN,nS]
   |true=>
    rw[c2]at eN;rw[if_pos rfl];have zl:(t.2.2.zip o.2.2).length<sizeLine:=by rw[length_zip,w1,w2];exact lt_of_lt_of_le (show min (m-(n+2)) (m-(n+2))<1000 by omega) (sz (by decide))
    have ec:cw (j9 2 (fj (aName 0) (fj (aName 1) ka))) gN (jS 2 jc (bj (aT 0) (bj (aT 1) cz))) [none,none] ((t.2.2.zip o.2.2).map fun z=>Dat.tuple [qD z.1,qD z.2])=some ((zipWith (fun x y=>x+y) t.2.2 o.2.2).map qD):=by
     have es:zipWith (fun x y=>x+y) t.2.2 o.2.2=(t.2.2.zip o.2.2).map fun z=>z.1+z.2:=by rw[List.zip,List.map_zipWith]
     rw[es];refine eY _ _ (by rw[length_map,length_map,length_map]) fun i d o' g1 g2=>?_;rw[getElem?_map]at g1 g2;rw[getElem?_map]at g2;cases hq:(t.2.2.zip o.2.2)[i]? with
     |none=>rw[hq]at g1;cases g1
     |some z=>
      rw[hq]at g1 g2;cases g1;cases g2;obtain⟨Mq,Mp⟩:=of_mem_zip (mem_of_getElem? hq);refine⟨[(0,qD z.1),(1,qD z.2)],rfl,?_⟩;have e1:=sT (s2 z.1 Mq) (s4 z.2 Mp) (by omega) (by omega);simp![e1]
    dsimp![t1,t2,o1,o2,ep,eN,ir,Hz,length_map,zl,ec,nS]
abbrev ND (F:List Dat->Option Dat):Prop:=∀(b n m:Nat) (Ls:List (List FM.Row)) (rows:List FM.Row),1<=b->Ls.length=n+1->Ls[n]?=some rows->km m b rows->n+2<=m->m<=900->n<=90->b<=1900000->F [.list (Ls.map cQ)]=some (nS (FM.never n rows))
variable {Fr:List Dat->Option Dat}
theorem Km(T:TX P K mg)(sX:Dn P w K mg base 48 "never_by_a_row" ["stages"] 1 Fr)(hR:Qy Fr)(ud:Dn P w K mg base 48 "never_by_ends" ["stages"] 1 Fe)(hE:Qx Fe)(U:FnAt K mg "never" (top 29) ["stages"]):
  ∃F,Dn P w K mg base 49 "never" ["stages"] 1 F/\ND F:=by
 refine⟨_,cN ["stages","weights"] U fun nd _ _ _ _ _ _ _ hr=>
  (ah (aF 1 nd (aH sX hr (a8 (a7 0) af)))
  (ak (az (eX (cC (a7 1) bg) (aH ud hr (a8 (a7 0) af)) (a7 1))))),?_⟩
 intro b n m Ls rows hb hl hn j5 DX mO DY hsz;have e1:=hR b n m Ls rows hb hl hn j5 DX mO (by omega);have e2:=hE b n m Ls rows hb hl hn j5 DX mO DY hsz;have nE:FM.never n rows=(match FM.fP n rows with
  |some w=>some w
  |none=>FM.gh n rows):=rfl
 rw[nE];cases hw:FM.fP n rows with
 |none=>
  rw[hw]at e1;have e0:nS none=.none:=rfl;rw[e0]at e1;simp![e1,nF,e2]
 |some ws=>
  rw[hw]at e1;have e0:nS (some ws)=.list (ws.map qD):=rfl;rw[e0]at e1;have n0:iH (.list (ws.map qD)) .none=some (.bool false):=rfl;simp![e1,n0,e0]
theorem K8{g x:Int}(h:g∣x):(x.fdiv g).natAbs<=x.natAbs:=by
 obtain⟨c,rfl⟩:=h;by_cases g0:g=0
 ·rw[g0];simp
 ·rw[mul_comm,Int.mul_fdiv_cancel _ g0,natAbs_mul];exact Nat.le_mul_of_pos_right _ (by omega)
theorem x9{one other:List Int}{bJ more:Int}(h1:∀x∈one,x.natAbs<2^b)(h2:∀x∈other,x.natAbs<2^b)(h3:bJ.natAbs<2^b)(h4:more.natAbs<2^b):∀x∈FM.mixed one bJ other more,x.natAbs<2^(2*b+1):=by
 intro x hx;obtain⟨y,hy,rfl⟩:=mem_map.mp (show x∈(FM.f9 one bJ other more).map (fun x=>x.fdiv (FM.lowG (FM.f9 one bJ other more):Int))from hx);refine lt_of_le_of_lt (K8 (FM.l9 hy)) ?_;obtain⟨p,hp,q,hq,rfl⟩:=me (show y∈zipWith (fun a b=>bJ*a+more*b) one other from hy);rw[show 2*b=b+b by omega];exact yj (g9 h3 (h1 p hp)) (g9 h4 (h2 q hq))
theorem zX{most:Nat}{aA:List Nat}(hR:km m b rows):km m (2*b+1) (FM.cI aA j most rows):=by
 have up:∀{x:Int},x.natAbs<2^b->x.natAbs<2^(2*b+1):=fun h=>gn h (by omega);unfold FM.cI;split
 ·refine⟨fun r hr=>?_,fun r hr x hx=>?_⟩
  ·rcases FM.gu.mp hr with⟨h1,h2⟩|⟨u,hu,l,hl,pu,pl,_,e⟩
   ·exact hR.len r h1
   ·rw[e];show(FM.mixed u.2 _ l.2 _).length=_;rw[FM.lL (by rw[hR.len u hu,hR.len l hl]),hR.len u hu]
  ·rcases FM.gu.mp hr with⟨h1,h2⟩|⟨u,hu,l,hl,pu,pl,_,e⟩
   ·exact up (hR.bd r h1 x hx)
   ·rw[e]at hx;exact x9 (hR.bd u hu) (hR.bd l hl) (by rw[natAbs_neg];exact cX (hR.bd l hl)) (cX (hR.bd u hu)) x hx
 ·rename_i q hq;have hm:=mem_of_find?_eq_some hq;refine⟨fun r hr=>?_,fun r hr x hx=>?_⟩
  ·obtain⟨s,hs,rfl⟩:=mem_map.mp hr;have hs:=(mem_filter.mp hs).1;show(FM.mixed s.2 _ q.2 _).length=_;rw[FM.lL (by rw[hR.len s hs,hR.len q hm]),hR.len s hs]
  ·obtain⟨s,hs,rfl⟩:=mem_map.mp hr;have hs:=(mem_filter.mp hs).1;exact x9 (hR.bd s hs) (hR.bd q hm) (by rw[natAbs_natCast];exact cX (hR.bd q hm)) (by split<;>(try rw[natAbs_neg])<;>exact cX (hR.bd s hs)) x hx
theorem CL{M:Nat}(aA:List Nat):∀(m j most b:Nat) (rows:List FM.Row),km M b rows->∀i,i<=m->∃rs,(FM.kr aA m j most rows)[i]?=some rs/\km M (FM.bt b i) rs
 |0,j,most,b,rows,h,i,hi=>by
  have:i=0:=by omega
  subst this;exact⟨rows,rfl,h⟩
 |m+1,j,most,b,rows,h,0,hi=>⟨rows,rfl,h⟩
 |m+1,j,most,b,rows,h,i+1,hi=>CL aA m (j+1) _ (2*b+1) _ (zX h) i (by omega)
theorem tq(aA:List Nat):∀(m j most:Nat) (rows:List FM.Row),(FM.kr aA m j most rows).length=m+1
 |0,j,most,rows=>rfl
 |m+1,j,most,rows=>by
  show(FM.kr aA m (j+1) _ _).length+1=_;rw[tq]
variable {e:Nat}
theorem vP{k:FM.Kn}{qs:List Rat}(hq:∀q∈qs,SR c q)(hP:fq qs<2^e):∀x∈(FM.whole k qs).2,x.natAbs<2^(c+e):=by
 have hL:FM.gK qs<2^e:=by
  have:=tK qs 1 (by decide);rw[Nat.one_mul]at this;exact lt_of_le_of_lt this hP
 intro x hx;obtain⟨q,qp,rfl⟩:=mem_map.mp (show x∈qs.map (fun q=>q.num*((FM.gK qs/q.den:Nat):Int))from hx);exact g9 (hq q qp).ln (by rw[natAbs_natCast];exact lt_of_le_of_lt (Nat.div_le_self _ _) hL)
theorem IL{c e n k:Nat}(j4:1<=c):∀(l:List FM.Ol) (i:Nat),(∀o∈l,yA c e n o)->∀r∈FM.cc k i l,∀x∈r.2,x.natAbs<2^(c+e)
 |[],i,_,r,hr=>by simp[FM.cc]at hr
 |o::l,i,h,r,hr=>by
  rcases mem_cons.mp (show r∈FM.whole o.1 (o.2.1++[0,o.2.2]++FM.bZ k i)::FM.cc k (i+1) l from hr)with e|hr
  ·subst e;have ho:=h o mem_cons_self;refine vP (fun q hq=>?_) ?_
   ·rcases mem_append.mp hq with h|h
    ·rcases mem_append.mp h with h|h
     ·exact ho.sq q h
     ·rcases mem_cons.mp h with h|h
      ·rw[h];exact kU j4
      ·rw[mem_singleton.mp h];exact ho.bd
    ·rcases mX h with e|e
     ·rw[e];exact kU j4
     ·rw[e];exact CA j4
   ·rw[i3,i3,mR (a:=FM.bZ k i) (fun q hq=>by rcases mX hq with e|e<;>(rw[e];rfl)),mul_one];show fq o.2.1*(1*(o.2.2.den*1))<_;rw[Nat.one_mul,mul_one];exact ho.dn
  ·exact IL j4 l (i+1) (fun o ho=>h o (mem_cons_of_mem _ ho)) r hr
theorem xY{p:List Rat}{os:List FM.Ol}(j4:1<=c)(ke:∀q∈p,SR c q)(xD:fq p<2^e)(bx:∀o∈os,yA c e p.length o):km (p.length+2+os.length) (c+e) (FM.aZ p os):=by
 refine⟨(FM.qV fun o ho=>(bx o ho).len).len,fun r hr=>?_⟩;unfold FM.aZ at hr;rcases mem_append.mp hr with h|h
 ·exact IL j4 os 0 bx r h
 ·rw[mem_singleton.mp h];refine vP (fun q hq=>?_) ?_
  ·rcases mem_append.mp hq with h|h
   ·rcases mem_append.mp h with h|h
    ·obtain⟨x,hx,rfl⟩:=mem_map.mp h;exact wW (ke x hx)
    ·rcases mem_cons.mp h with h|h
     ·rw[h];exact CA j4
     ·rw[mem_singleton.mp h];exact kU j4
   ·rw[(mem_replicate.mp h).2];exact kU j4
  ·rw[i3,i3,mR (a:=List.replicate os.length 0) (fun q hq=>by rw[(mem_replicate.mp hq).2];rfl),mul_one,tR];show fq p*1<_;rw[mul_one];exact xD
theorem Kc(a b:FM.Row):eqB (aG a) (aG b)=some (decide (a=b)):=by
 have h:eqB (aG a) (aG b)=if kqdOk 9 (aG a)=true/\kqdOk 9 (aG b)=true then some (k7 (aG a) (aG b))else none:=rfl;rw[h,if_pos ⟨kF (rV a.1),kF (rV b.1)⟩];congr 1
 by_cases e:a=b
 ·rw[mS (by rw[e]),decide_eq_true e]
 ·rw[pA (fun z=>e (zB z)),decide_eq_false e]
theorem JW(a b:FM.Row):ik (aG a) (aG b)=some (.bool (!decide (a=b))):=by unfold ik;rw[Kc];rfl
theorem vS{os:List FM.Ol}{n:Nat}:∀(l:List FM.Ol) (i:Nat),(∀t,t<l.length->os[i+t]?=l[t]?)->((eN i l).filter fun p=>!decide (p.2.1=.eq)).map (fun p=>nat (n+2+p.1))=(((range' i l.length).filter fun i=>FM.jO os i).map fun i=>n+2+i).map nat
 |[],i,_=>rfl
 |o::l,i,h=>by
  have ih:=vS l (i+1) (n:=n) (os:=os) fun t ht=>by
   have:=h (t+1) (by rw[length_cons];omega);rw[show i+1+t=i+(t+1) by omega];exact this
  have h0:=h 0 (by rw[length_cons];omega);have hk:FM.knd os i=o.1:=by
   unfold FM.knd;rw[getD_eq_getElem?_getD,show i=i+0 by omega,h0];rfl
  have hj:FM.jO os i=!decide (o.1=.eq):=by unfold FM.jO;rw[hk,decide_not]
  rw[length_cons,List.range'_succ];show(((i,o)::eN (i+1) l).filter _).map _=_;rw[filter_cons,filter_cons];show(if(!decide (o.1=.eq))=true then _ else _:List (Nat×FM.Ol)).map _=_;rw[hj];by_cases c:(!decide (o.1=.eq))=true
  ·rw[if_pos c,if_pos c,map_cons,map_cons,map_cons,ih]
  ·rw[if_neg c,if_neg c,ih]
abbrev Nw (F:List Dat->Option Dat):Prop:=∀(c e:Nat) (p:List Rat) (os:List FM.Ol),1<=c->c<=3000000->e<=4000000->p.length<=50->os.length<=100->(∀q∈p,SR c q)->fq p<2^e->(∀o∈os,yA c e p.length o)->FM.bt (c+e) p.length<=4400000->FM.cb (os.length+1) p.length<sizeLine->F [.tuple (p.map qD),.list (os.map cE)]=some (.list ((FM.bL p os).map cQ))
theorem GP(T:TX P K mg){Ff Fp:List Dat->Option Dat}(zc:Dn P w K mg base 45 "first_rows" ["parts","others"] 2 Ff)(hF:QP Ff)(Co:Dn P w K mg base 45 "equal_row" ["rows","place"] 2 Fe)(hE:∀(rows:List FM.Row) (j m:Nat),(∀r∈rows,r.2.length=m)->j<m->Fe [.list (rows.map aG),.int (j:Int)]=some (qK (FM.dG j rows)))(KJ:Dn P w K mg base 45 "paired" ["rows","place","weighed","most"] 4 Fp)(hP:Qr Fp)(Hq:Dn P w K mg base 45 "without" ["row","equal","place"] 3 Fw)(hW:Ql Fw)(U:FnAt K mg "stages_of" (top 20) ["parts","others"]):
  ∃F,Dn P w K mg base 46 "stages_of" ["parts","others"] 2 F/\Nw F:=by
 refine⟨_,cN ["parts","others","rows","ahead","weighed","most","stages","place","equal"] U fun nd _ _ _ _ _ _ _ hr=>
  (ah (aF 2 nd (aH zc hr (a8 (a7 0) (a8 (a7 1) af))))
  (ah (aF 3 nd (dW (fA T.len (a8 (a7 0) af)) ae))
  (ah (rN 4 nd rfl (eZ (tn:=["place","other"]) (fv:=["ahead"]) (js:=[3]) rfl (by decide +kernel) (by decide +kernel) rfl (by decide +kernel) (by decide +kernel) rfl
   (fun x hx=>by((have gC:x="ahead":=(by simpa using hx));(rcases gC with rfl<;>exact⟨_,rfl⟩)))
   (fun p hp=>by((have fo:p=(("ahead" : Str),(3:Nat)):=(by simpa using hp));(rcases fo with rfl<;>exact⟨rfl,.inr (.inl rfl),.inl rfl,fun z=>by cases z⟩)))) (oE T.enumerate (a8 (a7 1) af)) (fun _ _ _ _=>(dC (n:=2) rfl (aY (aJ 0 (show(["place","other","ahead"]:List Str).Nodup by decide +kernel)) (aY (aJ 1 (show(["place","other","ahead"]:List Str).Nodup by decide +kernel)) cR)))) (fun _ _ _ _=>(jM (gZ hr (ao (a7 1) ae) aX))) (fun _ _ _ _=>(dW (a7 2) (a7 0))) (rA rfl rfl))
  (ah (aF 5 nd ae)
  (ah (wj 6 nd (ju af))
  (ah (B8 PassesOwn.never rfl T.range (a8 (fA T.len (a8 (a7 0) af)) af (hs:=bA)) (aJ 7 nd) (ah (jC 6 (a7 2))
  (ah (aF 8 nd (aH Co hr (a8 (a7 2) (a8 (a7 7) af))))
  (ak (aV (cC (a7 8) bg) (ah (aF 5 nd (dW (a7 5) ae))
  (ak (aF 2 nd (aH KJ hr (a8 (a7 2) (a8 (a7 7) (a8 (a7 4) (a8 (a7 5) af)))))))) (ak (oD 2 nd rfl (eZ (tn:=["row"]) (fv:=["place","equal"]) (js:=[7,8]) rfl (by decide +kernel) (by decide +kernel) rfl (by decide +kernel) (by decide +kernel) rfl
   (fun x hx=>by((have gC:x="place"\/x="equal":=(by simpa using hx));(rcases gC with rfl|rfl<;>exact⟨_,rfl⟩)))
   (fun p hp=>by((have fo:p=(("place" : Str),(7:Nat))\/p=(("equal" : Str),(8:Nat)):=(by simpa using hp));(rcases fo with rfl|rfl<;>exact⟨rfl,.inr (.inl rfl),.inl rfl,fun z=>by cases z⟩)))) (a7 2) (fun _ _ _ _=>(aJ 0 (show(["row","place","equal"]:List Str).Nodup by decide +kernel))) (fun _ _ _ _=>(jM (gZ hr (a7 0) (a7 2)))) (fun _ _ _ _=>(aH Hq hr (a8 (a7 0) (a8 (a7 2) (a8 (a7 1) af))))) (fz rfl))))))))
  (ah (jC 6 (a7 2))
  (ak (az (a7 6)))))))))),?_⟩
 intro c e p os j4 hc he hp lj ke xD bx uM Tw;have z0:0<=sizeLine:=zero_le _;have hlen:∀o∈os,o.2.1.length=p.length:=fun o ho=>(bx o ho).len;have lp:lb [.tuple (p.map qD)]=some (.int p.length):=by show some (Dat.int ((p.map qD).length:Nat))=_;rw[length_map]
 have eF:=hF c e p os j4 hc he (by omega) lj ke xD bx;generalize DQ:FM.cf p.length os.length (FM.jO os)=wd;have DP:wd.length<=900:=by
  rw[<- DQ];unfold FM.cf;rw[length_map];have:=length_filter_le (fun i=>FM.jO os i) (List.range os.length);rw[length_range]at this;omega
 have Ms:∀q∈wd,q<p.length+2+os.length:=fun q hq=>by
  rw[<- DQ]at hq;unfold FM.cf at hq;obtain⟨i,hi,rfl⟩:=mem_map.mp hq;have:=List.mem_range.mp (mem_filter.mp hi).1;omega
 refine c8 ?_;simp!;rw[aE (aj:=[some (.a9 (.tuple (p.map qD))),some (.a9 (.list (os.map cE))),some (.a9 (.list ((FM.aZ p os).map aG))),none,none,none,none,none,none]) (by simp![eF])];rw[aE (aj:=[some (.a9 (.tuple (p.map qD))),some (.a9 (.list (os.map cE))),some (.a9 (.list ((FM.aZ p os).map aG))),some (.a9 (.int ((p.length:Int)+2))),none,none,none,none,none]) (by simp![lp,cA])];have zn:os.length<sizeLine:=lt_of_lt_of_le (show os.length<1000 by omega) (sz (by decide));have qr:oX (bj (aT 1) cz) (bD [some (.a9 (.tuple (p.map qD))),some (.a9 (.list (os.map cE))),some (.a9 (.list ((FM.aZ p os).map aG))),some (.a9 (.int ((p.length:Int)+2))),none,none,none,none,none])=some ((eN 0 os).map Ar):=by
  rw[<- BQ];rfl
 have ec:cw (j9 2 (fj (aName 0) (fj (aName 1) ka))) (c9 (L3.f2 ik (L3.f2 bB (aT 1) (fC (.int 0))) (fC (.str "=")))) (L3.f2 k9 (aT 2) (aT 0)) [none,none,some (.int ((p.length:Int)+2))] ((eN 0 os).map Ar)=some (wd.map nat):=by
  rw[i4 Ar (fun q=>nat (p.length+2+q.1)) (fun q=>!decide (q.2.1=.eq)) (eN 0 os) (fun q hq=>?_)]
  ·rw[vS os 0 (fun t _=>by rw[zero_add]),<- DQ];unfold FM.cf;rw[List.range_eq_range']
  ·refine⟨[(0,.int (q.1:Int)),(1,cE q.2)],rfl,?_,fun _=>?_⟩
   ·have e0:bB (cE q.2) (.int 0)=some (.str (bF q.2.1)):=rfl;by_cases ck:q.2.1=.eq
    ·have k1:=(jD q.2.1).mpr ck;rw[decide_eq_true ck];dsimp![e0,wX,eq_true k1]
    ·have k1:¬bF q.2.1="=":=fun z=>ck ((jD q.2.1).mp z);rw[decide_eq_false ck];dsimp![e0,wX,eq_false k1]
   ·have en:nat (p.length+2+q.1)=.int ((p.length:Int)+2+(q.1:Int)):=rfl;rw[en];simp![cA]
 rw[aE (aj:=[some (.a9 (.tuple (p.map qD))),some (.a9 (.list (os.map cE))),some (.a9 (.list ((FM.aZ p os).map aG))),some (.a9 (.int ((p.length:Int)+2))),some (.a9 (.list (wd.map nat))),none,none,none,none]) (zz (yd qr (by rw[length_map,y7];exact zn) ec))];rw[aE (aj:=[some (.a9 (.tuple (p.map qD))),some (.a9 (.list (os.map cE))),some (.a9 (.list ((FM.aZ p os).map aG))),some (.a9 (.int ((p.length:Int)+2))),some (.a9 (.list (wd.map nat))),some (.a9 (.int 1)),none,none,none]) (by simp![])];rw[aE (aj:=[some (.a9 (.tuple (p.map qD))),some (.a9 (.list (os.map cE))),some (.a9 (.list ((FM.aZ p os).map aG))),some (.a9 (.int ((p.length:Int)+2))),some (.a9 (.list (wd.map nat))),some (.a9 (.int 1)),some (.own ([])),none,none]) (by simp![z0])];have T7:kY [.int ((p.length:Nat):Int)]=some ((range' 0 p.length).map nat):=by
  rw[B4 p.length (by omega)];unfold iF;rw[List.range_eq_range'];congr 1
  exact List.map_congr_left fun i _=>by rw[Int.zero_add]
 refine iW (I:=_) (Ej (as:=[.int ((p.length:Nat):Int)]) (l:=range' 0 p.length) (s:=((FM.aZ p os,1,[]):FM.Nx)) nat (fun(s:FM.Nx) Γ=>∃x7 x8,Γ=[some (.a9 (.tuple (p.map qD))),some (.a9 (.list (os.map cE))),some (.a9 (.list (s.1.map aG))),some (.a9 (.int ((p.length:Int)+2))),some (.a9 (.list (wd.map nat))),some (.a9 (.int (s.2.1:Int))),some (.own (s.2.2.map cQ)),x7,x8])
  (fun s l=>∃(j m b r:Nat) (E:List Nat) (B:Nat->Nat->Rat) (β:Nat->Rat),l=range' j m/\j+m=p.length/\s.2.1=E.length+1/\FM.Rs p.length os.length s.1/\FM.Sg p.length os.length j (FM.jO os) (FM.sO os) E B β (s.1.map (FM.aB p.length))/\km (p.length+2+os.length) b s.1/\s.1.length<=r/\FM.bt b m<=4400000/\FM.cb r m<sizeLine/\s.2.2.length<=j)
  (FM.dk wd) (by simp![lp]) T7 ⟨0,p.length,c+e,os.length+1,[],_,_,rfl,by omega,rfl,FM.qV hlen,FM.xX hlen,xY j4 ke xD bx,by
   unfold FM.aZ;rw[length_append,xZ];exact le_refl _,uM,Tw,le_refl _⟩ ⟨none,none,rfl⟩ ?_) ?_
 ·rintro⟨rows,most,acc⟩ j0 l Γ ⟨j,m,b,r,E,B,β,hl,hjm,Ir,Ae,ID,j5,xq,Ad,Q0,tN⟩ ⟨x7,x8,rfl⟩;cases m with
  |zero=>cases hl
  |succ m=>
   rw[List.range'_succ]at hl;obtain⟨rfl,rfl⟩:=List.cons.inj hl;dsimp only at Ir Ae ID j5 xq tN;have PM:=FM.zW Ae ID (by omega) Ir;rw[DQ]at PM;obtain⟨RY,⟨E',B',Cq,RX,A9⟩,_⟩:=PM;have hQ:∃(j m2 b r:Nat) (E:List Nat) (B:Nat->Nat->Rat) (β:Nat->Rat),range' (j0+1) m=range' j m2/\j+m2=p.length/\(FM.dk wd (rows,most,acc) j0).2.1=E.length+1/\FM.Rs p.length os.length (FM.dk wd (rows,most,acc) j0).1/\FM.Sg p.length os.length j (FM.jO os) (FM.sO os) E B β ((FM.dk wd (rows,most,acc) j0).1.map (FM.aB p.length))/\km (p.length+2+os.length) b (FM.dk wd (rows,most,acc) j0).1/\(FM.dk wd (rows,most,acc) j0).1.length<=r/\FM.bt b m2<=4400000/\FM.cb r m2<sizeLine/\(FM.dk wd (rows,most,acc) j0).2.2.length<=j:=by
    refine⟨j0+1,m,2*b+1,r+r*r/4,E',B',Cq,rfl,by omega,A9,RY,RX,zX j5,?_,Ad,Q0,?_⟩
    ·exact le_trans (FM.Gj rows j0 most wd) (Nat.add_le_add xq (Nat.div_le_div_right (mul_le_mul xq xq)))
    ·show(acc++[rows]).length<=_;rw[length_append];exact Nat.add_le_add_right tN 1
   have uN:b<=4400000:=le_trans (le_trans (show b<=2*b+1 by omega) (FM.vJ m (2*b+1))) Ad;have Mw:r+r*r/4<sizeLine:=lt_of_le_of_lt (FM.IT m _) Q0;have zr:rows.length<sizeLine:=by omega
   have za:acc.length<sizeLine:=lt_of_lt_of_le (show acc.length<1000 by omega) (sz (by decide));refine⟨[(7,nat j0)],rfl,?_⟩;dsimp!;rw[aE (aj:=[some (.a9 (.tuple (p.map qD))),some (.a9 (.list (os.map cE))),some (.a9 (.list (rows.map aG))),some (.a9 (.int ((p.length:Int)+2))),some (.a9 (.list (wd.map nat))),some (.a9 (.int (most:Int))),some (.own (acc.map cQ++[cQ rows])),some (.a9 (nat j0)),x8]) (by simp![length_map,za])];have eE:=hE rows j0 (p.length+2+os.length) j5.len (by omega);rw[aE (aj:=[some (.a9 (.tuple (p.map qD))),some (.a9 (.list (os.map cE))),some (.a9 (.list (rows.map aG))),some (.a9 (.int ((p.length:Int)+2))),some (.a9 (.list (wd.map nat))),some (.a9 (.int (most:Int))),some (.own (acc.map cQ++[cQ rows])),some (.a9 (nat j0)),some (.a9 (qK (FM.dG j0 rows)))]) (by simp![eE])];cases hq:FM.dG j0 rows with
   |none=>
    have e0:qK none=.none:=rfl;have en:FM.dk wd (rows,most,acc) j0=(FM.paired j0 wd (most+1) rows,most+1,acc++[rows]):=by
     unfold FM.dk FM.cI FM.gR;dsimp only;rw[hq]
    have eP:=hP b (p.length+2+os.length) j0 (most+1) wd rows uN (by omega) (by omega) j5 DP Ms (FM.JO Ae ID hq) (lt_of_le_of_lt (le_trans (FM.wL rows j0) (Nat.add_le_add xq (Nat.div_le_div_right (mul_le_mul xq xq)))) Mw);refine⟨[some (.a9 (.tuple (p.map qD))),some (.a9 (.list (os.map cE))),some (.a9 (.list ((FM.paired j0 wd (most+1) rows).map aG))),some (.a9 (.int ((p.length:Int)+2))),some (.a9 (.list (wd.map nat))),some (.a9 (.int ((most+1:Nat):Int))),some (.own (acc.map cQ++[cQ rows])),some (.a9 (nat j0)),some (.a9 (.none))],?_,⟨_,_,by rw[en,map_append];rfl⟩,hQ⟩;rw[e0,pO (by dsimp![nF])];rw[aE (aj:=[some (.a9 (.tuple (p.map qD))),some (.a9 (.list (os.map cE))),some (.a9 (.list (rows.map aG))),some (.a9 (.int ((p.length:Int)+2))),some (.a9 (.list (wd.map nat))),some (.a9 (.int ((most+1:Nat):Int))),some (.own (acc.map cQ++[cQ rows])),some (.a9 (nat j0)),some (.a9 (.none))]) (by simp![cA];rfl)];simp![eP]
   |some q=>
    have qp:=mem_of_find?_eq_some hq;have T8:=find?_some hq;have My:q.1=.eq/\FM.ent q j0≠0:=by simpa using T8
    have e0:qK (some q)=aG q:=rfl;have en:FM.dk wd (rows,most,acc) j0=((rows.filter fun r=>decide (r≠q)).map (FM.wo q j0),most,acc++[rows]):=by
     unfold FM.dk FM.cI FM.gR;dsimp only;rw[hq]
    have ec:cw (aName 0) (c9 (L3.f2 ik (aT 0) (aT 2))) (jS 3 Fw (bj (aT 0) (bj (aT 2) (bj (aT 1) cz)))) [none,some (nat j0),some (aG q)] (rows.map aG)=some (((rows.filter fun r=>decide (r≠q)).map (FM.wo q j0)).map aG):=by
     rw[i4 aG (fun r=>aG (FM.wo q j0 r)) (fun r=>decide (r≠q)) rows (fun r hr=>?_)]
     ·rw[map_map];rfl
     ·refine⟨[(0,aG r)],rfl,?_,fun hd=>?_⟩
      ·have er:(!decide (r=q))=decide (r≠q):=(decide_not).symm;rw[<- er];simp![JW]
      ·have bQ:r≠q:=of_decide_eq_true hd;obtain⟨eW,_⟩:=hW b (p.length+2+os.length) j0 r q uN (by omega) (by omega) (j5.len r hr) (j5.len q qp) (j5.bd r hr) (j5.bd q qp) (FM.NV Ae ID qp My.1 My.2 hr bQ);simp![eW]
    refine⟨[some (.a9 (.tuple (p.map qD))),some (.a9 (.list (os.map cE))),some (.a9 (.list (((rows.filter fun r=>decide (r≠q)).map (FM.wo q j0)).map aG))),some (.a9 (.int ((p.length:Int)+2))),some (.a9 (.list (wd.map nat))),some (.a9 (.int (most:Int))),some (.own (acc.map cQ++[cQ rows])),some (.a9 (nat j0)),some (.a9 (aG q))],?_,⟨_,_,by rw[en,map_append];rfl⟩,hQ⟩;have n0:iH (aG q) .none=some (.bool false):=rfl;rw[e0,pP (by dsimp![n0])];simp![n8,length_map,zr,ec]
 ·rintro aj ⟨x7,x8,rfl⟩;have Mv:=FM.wc wd p.length 0 1 (FM.aZ p os) [];generalize hfs:(range' 0 p.length).foldl (FM.dk wd) (FM.aZ p os,1,[])=fs at *;have hl:fs.2.2.length=p.length:=by
   have:=congrArg List.length Mv;rw[length_append,nil_append,tq]at this;exact Nat.succ.inj this
  have za:fs.2.2.length<sizeLine:=lt_of_lt_of_le (show fs.2.2.length<1000 by omega) (sz (by decide));have es:FM.bL p os=fs.2.2++[fs.1]:=by
   unfold FM.bL;rw[DQ,Mv,nil_append]
  rw[es,map_append];simp![length_map,za,map_cons,map_nil]
structure yB (c e:Nat) (p:List Rat) (os:List FM.Ol):Prop where
 c1:1<=c
 c3:c<=3000000
 e4:e<=4000000
 n5:p.length<=50
 k1:os.length<=100
 bt:FM.bt (c+e) p.length<=1900000
 cb:FM.cb (os.length+1) p.length<sizeLine
 sp:∀q∈p,SR c q
 dp:fq p<2^e
 ok:∀o∈os,yA c e p.length o
theorem HP{p:List Rat}{os:List FM.Ol}(h:yB c e p os):∀i,i<=p.length->∃rs,(FM.bL p os)[i]?=some rs/\km (p.length+2+os.length) (FM.bt (c+e) i) rs:=
 fun i hi=>CL _ p.length 0 1 (c+e) _ (xY h.c1 h.sp h.dp h.ok) i hi
theorem Cz(p:List Rat)(os:List FM.Ol):(FM.bL p os).length=p.length+1:=tq _ _ _ _ _
def aw (g:Option (Bool×Rat)):Dat:=match g with
 |none=>.none
 |some (s,v)=>.tuple [qD v,.bool (!s)]
theorem Ii(s:Bool):dU (.str (gB s)) (.str "<=")=some (.bool (!s)):=by cases s<;>rfl
theorem Ks(T:TX P K mg){a5:Addr}(Z5:TC K mg "ZERO_nearest" [.int 0,.int 1] a5)(pJ:Dn P w K mg base 43 "minus" ["a","b"] 2 iT)(U:FnAt K mg "least_told" (top 34) ["end"]):
  ∃F,Dn P w K mg base 44 "least_told" ["end"] 1 F/\∀(n:Nat) b,n<=4000000->(∀x,b=some x->SR n x.2.1)->F [cG b]=some (aw (FM.k8 b)):=by
 refine⟨_,cN ["end"] U fun nd _ _ _ _ _ _ _ hr=>
  (ak (az (eX (cC (a7 0) bg) bg (bf (k:=0) (a8 (aH pJ hr (a8 (cK Z5.mg Z5.tup) (a8 (ao (a7 0) ae) af (hs:=aW)))) (a8 (ij hr (ao (a7 0) ae) aX) af (hs:=kT)) (hs:=bA)))))),?_⟩
 intro n b hn hb;have z2:2<=sizeLine:=sz (by decide);cases b with
 |none=>rfl
 |some b=>
  have e:iT [.tuple [.int 0,.int 1],qD b.2.1]=some (qD (0-b.2.1)):=ub (kU (c:=1) (by decide)) (hb b rfl) (by decide) hn;have a0:bB (cG (some b)) (.int 0)=some (.str (gB b.1)):=rfl;have a1:bB (cG (some b)) (.int 1)=some (qD b.2.1):=rfl;have er:aw (FM.k8 (some b))=.tuple [qD (0-b.2.1),.bool (!b.1)]:=rfl;have ek:=Ii b.1;rw[er];generalize qD (0-b.2.1)=d0 at *;dsimp![kB,a0,a1,e,ek,z2]
theorem BS(T:TX P K mg)(U:FnAt K mg "greatest_told" (top 35) ["end"]):
  ∃F,Dn P w K mg base 44 "greatest_told" ["end"] 1 F/\∀b,F [cG b]=some (aw (FM.jZ b)):=by
 refine⟨_,cN ["end"] U fun nd _ _ _ _ _ _ _ hr=>
  (ak (az (eX (cC (a7 0) bg) bg (bf (k:=0) (a8 (ao (a7 0) ae) (a8 (ij hr (ao (a7 0) ae) aX) af (hs:=kT)) (hs:=aW)))))),?_⟩
 intro b;have z2:2<=sizeLine:=sz (by decide);cases b with
 |none=>rfl
 |some b=>
  have a0:bB (cG (some b)) (.int 0)=some (.str (gB b.1)):=rfl;have a1:bB (cG (some b)) (.int 1)=some (qD b.2.1):=rfl;have er:aw (FM.jZ (some b))=.tuple [qD b.2.1,.bool (!b.1)]:=rfl;have ek:=Ii b.1;rw[er];generalize qD b.2.1=d0 at *;dsimp![kB,a0,a1,ek,z2]
def CP (p:List Rat) (os:List FM.Ol):Dat:=match FM.never p.length (FM.aD p os)with
 |some _=>.none
 |none=>.tuple [aw (FM.nN p os),aw (FM.k0 p os)]
def Bo (p:List Rat) (os:List FM.Ol):Dat:=match FM.never p.length (FM.aD p os)with
 |some _=>.tuple [.str "any"]
 |none=>match FM.k0 p os with
  |none=>.tuple [.str "none"]
  |some (s,v)=>.tuple [.str "at",.str (gB s),qD v]
abbrev Qo (F:List Dat->Option Dat):Prop:=∀(c e:Nat) (p:List Rat) (os:List FM.Ol),yB c e p os->F [.tuple (p.map qD),.list (os.map cE)]=some (CP p os)
abbrev Qw (F:List Dat->Option Dat):Prop:=∀(c e:Nat) (p:List Rat) (os:List FM.Ol),yB c e p os->F [.tuple (p.map qD),.list (os.map cE)]=some (Bo p os)
theorem oS:lK .none .none=some (.bool false):=rfl
theorem Dv(ws:List Rat):lK (.list (ws.map qD)) .none=some (.bool true):=rfl
variable {Fs:List Dat->Option Dat}
theorem N6(T:TX P K mg){Fn Fo Fl Fg:List Dat->Option Dat}(nQ:Dn P w K mg base 49 "stages_of" ["parts","others"] 2 Fs)(hS:Nw Fs)(yE:Dn P w K mg base 49 "never" ["stages"] 1 Fn)(hN:ND Fn)(je:Dn P w K mg base 49 "upper_end" ["stages"] 1 Fu)(hU:yk 1 Fu)(kb:Dn P w K mg base 49 "opposite_end" ["stages"] 1 Fo)(hO:yk (-1) Fo)(zb:Dn P w K mg base 49 "least_told" ["end"] 1 Fl)(hL:∀(n:Nat) b,n<=4000000->(∀x,b=some x->SR n x.2.1)->Fl [cG b]=some (aw (FM.k8 b)))(uf:Dn P w K mg base 49 "greatest_told" ["end"] 1 Fg)(hG:∀b,Fg [cG b]=some (aw (FM.jZ b)))(U:FnAt K mg "range_of_sum" (top 36) ["parts","others"]):
  ∃F,Dn P w K mg base 50 "range_of_sum" ["parts","others"] 2 F/\Qo F:=by
 refine⟨_,cN ["parts","others","stages"] U fun nd _ _ _ _ _ _ _ hr=>
  (ah (aF 2 nd (aH nQ hr (a8 (a7 0) (a8 (a7 1) af))))
  (ah (aV (lJ (aH yE hr (a8 (a7 2) af)) bg) (ak (az bg)) aR)
  (ak (az (bf (k:=0) (a8 (aH zb hr (a8 (aH kb hr (a8 (a7 2) af)) af (hs:=bA))) (a8 (aH uf hr (a8 (aH je hr (a8 (a7 2) af)) af (hs:=bA))) af (hs:=bA)) (hs:=bA))))))),?_⟩
 intro c e p os S;have z2:2<=sizeLine:=sz (by decide);have uO:1<=FM.bt (c+e) p.length:=le_trans (show 1<=c+e by have:=S.c1;omega) (FM.vJ _ _);have uM:=S.bt;have Te:=S.n5;have Tp:=S.k1;have eS:=hS c e p os S.c1 S.c3 S.e4 S.n5 S.k1 S.sp S.dp S.ok (by omega) S.cb;obtain⟨rows,lM,j5⟩:=HP S p.length (le_refl _);have hlen:=Cz p os;have eN:=hN _ p.length _ (FM.bL p os) rows uO hlen lM j5 (by omega) (by omega) (by omega) uM;have eU:=hU _ p.length _ (FM.bL p os) rows uO hlen lM j5 (by omega) (by omega) (by omega) (by omega);have eO:=hO _ p.length _ (FM.bL p os) rows uO hlen lM j5 (by omega) (by omega) (by omega) (by omega);have BF:FM.aD p os=rows:=by unfold FM.aD;rw[getD_eq_getElem?_getD,lM];rfl
 have sE:∀t,FM.endOf p.length rows (-1)=some t->SR (FM.bt (c+e) p.length) t.2.1:=fun t h=>(y6 (.inr rfl) j5 h).1;have eL:=hL _ (FM.endOf p.length rows (-1)) (by omega) sE;have eG:=hG (FM.endOf p.length rows 1);unfold CP FM.nN FM.k0;cases BF;generalize cG (FM.endOf p.length (FM.aD p os) 1)=du at *;generalize cG (FM.endOf p.length (FM.aD p os) (-1))=do9 at *;generalize aw (FM.jZ (FM.endOf p.length (FM.aD p os) 1))=dt at *;generalize aw (FM.k8 (FM.endOf p.length (FM.aD p os) (-1)))=db at *;refine c8 ?_;simp!;rw[aE (aj:=[some (.a9 (.tuple (p.map qD))),some (.a9 (.list (os.map cE))),some (.a9 (.list ((FM.bL p os).map cQ)))]) (by dsimp![eS])];cases DV:FM.never p.length (FM.aD p os)with
 |some ws=>
  rw[DV]at eN;have qw:Fn [.list ((FM.bL p os).map cQ)]=some (.list (ws.map qD)):=eN;dsimp![qw,Dv]
 |none=>
  rw[DV]at eN;have qw:Fn [.list ((FM.bL p os).map cQ)]=some .none:=eN;dsimp![qw,oS,eU,eO,eL,eG,z2]
theorem EG(T:TX P K mg){Fn:List Dat->Option Dat}(nQ:Dn P w K mg base 49 "stages_of" ["parts","others"] 2 Fs)(hS:Nw Fs)(yE:Dn P w K mg base 49 "never" ["stages"] 1 Fn)(hN:ND Fn)(je:Dn P w K mg base 49 "upper_end" ["stages"] 1 Fu)(hU:yk 1 Fu)(U:FnAt K mg "nearest" (top 33) ["parts","others"]):
  ∃F,Dn P w K mg base 50 "nearest" ["parts","others"] 2 F/\Qw F:=by
 refine⟨_,cN ["parts","others","stages","top"] U fun nd _ _ _ _ _ _ _ hr=>
  (ah (aF 2 nd (aH nQ hr (a8 (a7 0) (a8 (a7 1) af))))
  (ah (aV (lJ (aH yE hr (a8 (a7 2) af)) bg) (ak (az (bf (k:=0) (a8 aX af)))) aR)
  (ah (aF 3 nd (aH je hr (a8 (a7 2) af)))
  (ah (aV (cC (a7 3) bg) (ak (az (bf (k:=0) (a8 aX af)))) aR)
  (ak (az (bf (k:=0) (a8 aX (a8 (ao (a7 3) ae) (a8 (ao (a7 3) ae) af (hs:=aW)) (hs:=aW)))))))))),?_⟩
 intro c e p os S;have z1:1<=sizeLine:=sz (by decide);have z3:3<=sizeLine:=sz (by decide);have uO:1<=FM.bt (c+e) p.length:=le_trans (show 1<=c+e by have:=S.c1;omega) (FM.vJ _ _);have uM:=S.bt;have Te:=S.n5;have Tp:=S.k1;have eS:=hS c e p os S.c1 S.c3 S.e4 S.n5 S.k1 S.sp S.dp S.ok (by omega) S.cb;obtain⟨rows,lM,j5⟩:=HP S p.length (le_refl _);have hlen:=Cz p os;have eN:=hN _ p.length _ (FM.bL p os) rows uO hlen lM j5 (by omega) (by omega) (by omega) uM;have eU:=hU _ p.length _ (FM.bL p os) rows uO hlen lM j5 (by omega) (by omega) (by omega) (by omega);have BF:FM.aD p os=rows:=by unfold FM.aD;rw[getD_eq_getElem?_getD,lM];rfl
 unfold Bo FM.k0;cases BF;refine c8 ?_;simp!;rw[aE (aj:=[some (.a9 (.tuple (p.map qD))),some (.a9 (.list (os.map cE))),some (.a9 (.list ((FM.bL p os).map cQ))),none]) (by dsimp![eS])];cases DV:FM.never p.length (FM.aD p os)with
 |some ws=>
  rw[DV]at eN;have qw:Fn [.list ((FM.bL p os).map cQ)]=some (.list (ws.map qD)):=eN;dsimp![qw,Dv,z1]
 |none=>
  rw[DV]at eN;have qw:Fn [.list ((FM.bL p os).map cQ)]=some .none:=eN;cases qr:FM.endOf p.length (FM.aD p os) 1 with
  |none=>
   rw[qr]at eU;have eb:cG none=.none:=rfl;rw[eb]at eU;dsimp![qw,oS,eU,nF,z1];rfl
  |some t=>
   rw[qr]at eU;have t0:bB (cG (some t)) (.int 0)=some (.str (gB t.1)):=rfl;have t1:bB (cG (some t)) (.int 1)=some (qD t.2.1):=rfl;dsimp![qw,oS,eU,kB,t0,t1,z3];rfl
variable {gt:Dat->Option cH} {out:List Dat}
theorem El{aN:List (Option Nat)}{ft:ar->Option Bool}{fe:ar->Option Dat}{fi:ar->Option (List Dat)}(h:fi ρ=some ds)(hl:ds.length<sizeLine)(hc:cw gt ft fe (de aN ρ) ds=some out):fL (ir aN gt ft fe fi) ρ=some (.list out):=by
 unfold fL ir;rw[h];show((if ds.length<sizeLine then cw gt ft fe (de aN ρ) ds else none).map _)=_;rw[if_pos hl,hc];rfl
theorem Jc{a:ar->Option Dat}(h:a ρ=some (.list ds)):dY mr (bj a cz) ρ=some (.tuple ds):=by
 unfold dY bj cz;rw[h];rfl
theorem MP{F:List Dat->Option Dat}{a b:ar->Option Dat}{x y d:Dat}(ha:a ρ=some x)(hb:b ρ=some y)(h:F [x,y]=some d):jS 2 F (bj a (bj b cz)) ρ=some d:=by
 unfold jS bj cz;rw[ha,hb];exact h
abbrev Ny (F:List Dat->Option Dat):Prop:=∀(c e i n:Nat) (os:List FM.Ol),n<=50->yB c e (FM.bZ n i) os->F [.int (i:Int),.int (n:Int),.list (os.map cE)]=some (CP (FM.bZ n i) os)
theorem Kl(T:TX P K mg){a5 a6:Addr}(Z5:TC K mg "ZERO_nearest" [.int 0,.int 1] a5)(Z6:TC K mg "ONE_nearest" [.int 1,.int 1] a6)(vq:Dn P w K mg base 50 "range_of_sum" ["parts","others"] 2 Fr)(hR:Qo Fr)(U:FnAt K mg "range_of" (top 37) ["place","many","others"]):
  ∃F,Dn P w K mg base 51 "range_of" ["place","many","others"] 3 F/\Ny F:=by
 refine⟨_,cN ["place","many","others"] U fun nd _ _ _ _ _ _ _ hr=>
  (ak (az (aH vq hr (a8 (oH T.tuple (a8 (dD (kv rfl (eZ (tn:=["one"]) (fv:=["place"]) (js:=[0]) rfl (by decide +kernel) (by decide +kernel) rfl (by decide +kernel) (by decide +kernel) rfl
   (fun x hx=>by((have gC:x="place":=(by simpa using hx));(rcases gC with rfl<;>exact⟨_,rfl⟩)))
   (fun p hp=>by((have fo:p=(("place" : Str),(0:Nat)):=(by simpa using hp));(rcases fo with rfl<;>exact⟨rfl,.inr (.inl rfl),.inl rfl,fun z=>by cases z⟩)))) (qh T.range (a8 (a7 1) af)) (fun _ _ _ _=>(aJ 0 (show(["one","place"]:List Str).Nodup by decide +kernel))) (fun _ _ _ _=>eK) (fun _ _ _ _=>(eX (cq hr (a7 1) (a7 0)) (cK Z6.mg Z6.tup) (cK Z5.mg Z5.tup))) (fz rfl))) af)) (a8 (a7 2) af) (hs:=bA))))),?_⟩
 intro c e i n os hn S;have eR:=B4 n (by omega);have q0:(.tuple [.int 0,.int 1]:Dat)=qD 0:=rfl;have q1:(.tuple [.int 1,.int 1]:Dat)=qD 1:=rfl;refine c8 (zA (MP (Jc (El (xj rfl eR) (by rw[kG];exact lt_of_le_of_lt hn (iK (by decide))) (eY _ ((FM.bZ n i).map qD) (by rw[kG,length_map,FM.kL]) fun j d o h1 h2=>?_))) rfl (hR c e _ os S)));obtain⟨hj,rfl⟩:=qG h1;rw[getElem?_map]at h2;have eu:(FM.bZ n i)[j]?=some (if i=j then 1 else 0):=by
  unfold FM.bZ;rw[getElem?_map,List.getElem?_range hj];rfl
 rw[eu]at h2;cases h2;refine⟨_,rfl,?_⟩;by_cases Ab:i=j
 ·subst Ab;have e1:dU (.int (i:Int)) (.int (0+(i:Int)))=some (.bool true):=by rw[cB,decide_eq_true (by omega)]
  rw[if_pos rfl];simp![e1,q1]
 ·have e1:dU (.int (i:Int)) (.int (0+(j:Int)))=some (.bool false):=by rw[cB,decide_eq_false (by omega)]
  rw[if_neg Ab];simp![e1,q0]
open PySem.W (kqdP kqdPs) in
theorem uW(a:Option (Bool×Rat)):SeqAt.shaped (kqdP (aw a))=true:=by
 match a with
 |none=>rfl
 |some (s,v)=>rfl
open PySem.W (kqdP kqdPs) in
theorem Ep(a b:Option (Bool×Rat)):qv (aw a) (aw b)=some (decide (a=b)):=by
 unfold qv;rw[if_pos ⟨uW a,uW b⟩];match a,b with
 |none,none=>rfl
 |none,some (s,v)=>rfl
 |some (s,v),none=>rfl
 |some (s,v),some (s',v')=>
  show some (((v.num==v'.num)&&(((v.den:Int)==(v'.den:Int))&&true))&&(((!s)==(!s'))&&true))=_;by_cases e:v=v'
  ·subst e;cases s<;>cases s'<;>simp
  ·have bQ:¬(v.num=v'.num/\(v.den:Int)=v'.den):=fun h=>e (Bb.mp (by rw[h.1,h.2]));have h2:((v.num==v'.num)&&(((v.den:Int)==(v'.den:Int))&&true))=false:=by
    rw[Bool.and_true];cases h3:(v.num==v'.num)with
    |false=>rfl
    |true=>
     cases h4:((v.den:Int)==(v'.den:Int))with
     |false=>rfl
     |true=>exact absurd ⟨eq_of_beq h3,eq_of_beq h4⟩ bQ
   rw[h2,Bool.false_and];congr 1
   exact(decide_eq_false fun h=>by cases h;exact e rfl).symm
theorem Ou(a b:Option (Bool×Rat)):tI (aw a) (aw b)=some (.bool (!decide (a=b))):=by
 unfold tI;rw[Ep];rfl
theorem OJ(a b:Option (Bool×Rat)):BP (aw a) (aw b)=some (.bool (decide (a=b))):=by
 unfold BP;rw[Ep];rfl
def fc (r:Option (Option (Bool×Rat)×Option (Bool×Rat))):Dat:=match r with
 |some (some (s,v),g)=>if g=some (s,v)then qD v else .none
 |_=>.none
def fk (r:Option (Option (Bool×Rat)×Option (Bool×Rat))):Dat:=match r with
 |none=>.none
 |some (l,g)=>.tuple [aw l,aw g]
def zC (p:List Rat) (os:List FM.Ol):Option (Option (Bool×Rat)×Option (Bool×Rat)):=match FM.never p.length (FM.aD p os)with
 |some _=>none
 |none=>some (FM.nN p os,FM.k0 p os)
theorem HS(p:List Rat)(os:List FM.Ol):CP p os=fk (zC p os):=by
 unfold CP zC;cases FM.never p.length (FM.aD p os)<;>rfl
theorem xh(l g:Option (Bool×Rat)):iH (.tuple [aw l,aw g]) .none=some (.bool false):=rfl
theorem lg(s:Bool)(v:Rat):iH (aw (some (s,v))) .none=some (.bool false):=rfl
theorem mL:iH (aw none) .none=some (.bool true):=rfl
theorem GQ(T:TX P K mg)(U:FnAt K mg "single_worth" (top 38) ["ends"]):
  ∃F,Dn P w K mg base 44 "single_worth" ["ends"] 1 F/\∀r,F [fk r]=some (fc r):=by
 refine⟨_,cN ["ends"] U fun nd _ _ _ _ _ _ _ hr=>
  (ah (aV (cx (cF (cC (a7 0) bg) (cF (cC (ao (a7 0) ae) bg) (cP (nh hr (ao (a7 0) ae) (ao (a7 0) ae)))))) (ak (az bg)) aR)
  (ak (az (ao (ao (a7 0) ae) ae)))),?_⟩
 intro r;match r with
 |none=>rfl
 |some (none,g)=>
  have e:fk (some (none,g))=.tuple [aw none,aw g]:=rfl;have e2:fc (some (none,g))=.none:=rfl;have b0:bB (.tuple [aw none,aw g]) (.int 0)=some (aw none):=rfl;have i1:=xh none g;rw[e,e2];generalize Dat.tuple [aw none,aw g]=d0 at *;dsimp![i1,b0,mL]
 |some (some (s,v),g)=>
  have e:fk (some (some (s,v),g))=.tuple [aw (some (s,v)),aw g]:=rfl;have e2:fc (some (some (s,v),g))=if g=some (s,v)then qD v else .none:=rfl;have a0:bB (aw (some (s,v))) (.int 0)=some (qD v):=rfl;have b0:bB (.tuple [aw (some (s,v)),aw g]) (.int 0)=some (aw (some (s,v))):=rfl;have b1:bB (.tuple [aw (some (s,v)),aw g]) (.int 1)=some (aw g):=rfl;have bQ:=Ou (some (s,v)) g;have i1:=xh (some (s,v)) g;have i2:=lg s v;rw[e,e2];generalize Dat.tuple [aw (some (s,v)),aw g]=d0 at *;by_cases h:g=some (s,v)
  ·rw[decide_eq_true h.symm]at bQ;rw[if_pos h];generalize aw (some (s,v))=d1 at *;dsimp![i1,i2,b0,b1,bQ,a0]
  ·rw[decide_eq_false fun z=>h z.symm]at bQ;rw[if_neg h];generalize aw (some (s,v))=d1 at *;dsimp![i1,i2,b0,b1,bQ,a0]
abbrev Nr (F:List Dat->Option Dat):Prop:=∀(c e i n:Nat) (os:List FM.Ol),n<=50->yB c e (FM.bZ n i) os->F [.int (i:Int),.int (n:Int),.list (os.map cE)]=some (fc (zC (FM.bZ n i) os))
theorem N5(T:TX P K mg)(pI:Dn P w K mg base 51 "range_of" ["place","many","others"] 3 Fr)(hR:Ny Fr)(vp:Dn P w K mg base 51 "single_worth" ["ends"] 1 Fs)(hS:∀r,Fs [fk r]=some (fc r))(U:FnAt K mg "what_is" (top 39) ["place","many","others"]):
  ∃F,Dn P w K mg base 52 "what_is" ["place","many","others"] 3 F/\Nr F:=by
 refine⟨_,cN ["place","many","others"] U fun nd _ _ _ _ _ _ _ hr=>
  (ak (az (aH vp hr (a8 (aH pI hr (a8 (a7 0) (a8 (a7 1) (a8 (a7 2) af)))) af (hs:=bA))))),?_⟩
 intro c e i n os hn S;have eR:=hR c e i n os hn S;rw[HS]at eR;have eS:=hS (zC (FM.bZ n i) os);generalize Dat.list (os.map cE)=d0 at *;dsimp![eR,eS]
variable {g:ay->Option Fl}
theorem Jp{N:List Str}{es dZ:List Dat}{d:Dat}(h:g (startM N ds es)=some (.rm d Γ))(h0:Γ[0]?=some (some (.own dZ))):runM N g ds es=some (d,dZ):=by
 unfold runM;rw[h];show(match (Γ[0]? : Option (Option Slot))with|some (some (.own dZ))=>some (d,dZ)|_=>none)=_
 rw[h0]
def WP (o:Option Fl) (Q:Fl->Prop):Prop:=∃fl,o=some fl/\Q fl
variable {g1 g2:ay->Option Fl} {Γ1:ay}
theorem wp_seq{Q:Fl->Prop}(h:g1 Γ=some (.nx Γ1))(h2:WP (g2 Γ1) Q):WP (dQ g1 g2 Γ) Q:=by
 rw[aE h];exact h2
theorem wp_seqx{Q:Fl->Prop}(I:ay->Prop)(h:∃Γ1,g1 Γ=some (.nx Γ1)/\I Γ1)(h2:∀Γ1,I Γ1->WP (g2 Γ1) Q):WP (dQ g1 g2 Γ) Q:=by
 obtain⟨Γ1,e,i⟩:=h;exact wp_seq e (h2 Γ1 i)
theorem wp_runM{N:List Str}{es:List Dat}(D:α->Dat)(S:α->List Dat)(Pp:α->Prop)(h:WP (g (startM N ds es)) (fun fl=>∃a Γ,fl=.rm (D a) Γ/\Γ[0]?=some (some (.own (S a)))/\Pp a)):∃a,runM N g ds es=some (D a,S a)/\Pp a:=by
 obtain⟨fl,e,a,Γ,rfl,h0,p⟩:=h;exact⟨a,Jp e h0,p⟩
def II:ay->Nat
 |_::some (.a9 (.int d))::_=>d.natAbs+1
 |_=>0
abbrev M8:ar->Option Bool:=c9 (f2 ik (aT 3) (fC (Dat.int 0)))
abbrev M9:ay->Option Fl:=B2 2 3 (bj (aT 3) (bj (f2 wZ (aT 2) (aT 3)) cz))
theorem A1(x y:Option Slot):∀(n:Nat) (a b:Int),0<=a->0<=b->b.natAbs<n->f6 M8 M9 n [x,y,some (.a9 (.int a)),some (.a9 (.int b))]=some (.nx [x,y,some (.a9 (.int (gcd a b))),some (.a9 (.int 0))])
 |0,a,b,_,_,h=>by omega
 |n+1,a,b,ha,hb,h=>by
  have eT:∀b:Int,M8 (bH [x,y,some (.a9 (.int a)),some (.a9 (.int b))])=some (!decide (b=0)):=fun b=>by
   show(ik (.int b) (.int 0)).bind jW=_;rw[fW];rfl
  by_cases e:b=0
  ·subst e;rw[vR (by rw[eT];rfl)];have:((gcd a 0:Nat):Int)=a:=by rw[Int.gcd_zero_right];omega
   rw[this]
  ·have hp:0<b:=by omega
   have bd:=tP a hp;have e1:M9 [x,y,some (.a9 (.int a)),some (.a9 (.int b))]=some (.nx [x,y,some (.a9 (.int b)),some (.a9 (.int (a.fmod b)))]):=by
    have em:=iG (a:=a) (b:=b) e;show(B2 2 3 (bj (aT 3) (bj (L3.f2 wZ (aT 2) (aT 3)) cz)) _)=_;simp![B2,em]
   rw[vQ (by rw[eT,decide_eq_false e];rfl) e1,A1 x y n b (a.fmod b) hb bd.1 (by omega),Fr.xQ a b hp]
theorem OM(T:TX P K mg)(U:FnAt K mg "_law_low" (top 43) ["n","d"]):Dn P w K mg base 41 "_law_low" ["n","d"] 2 dw:=by
 obtain⟨f,fd,U,hm,hB⟩:=U.ex;have nd:(["n","d","one","other"]:List Str).Nodup:=by decide +kernel
 refine gA U hm hB (N:=["n","d","one","other"]) ⟨rfl,rfl,rfl,by decide +kernel,rfl,by decide +kernel,by decide +kernel⟩ rfl (fun ba A outer s H E hr=>
  (ah (aF 2 nd (kI T.abs (a8 (a7 0) af)))
  (ah (aF 3 nd (kI T.abs (a8 (a7 1) af)))
  (ah (rL II PassesOwn.never (gZ hr (a7 3) ae) (ak (FG 2 3 rfl nd (by decide) (a8 (a7 3) (a8 (jx (a7 2) (a7 3)) af (hs:=bO))))))
  (ah (aV (jt (a7 1) ae) (ak (aF 2 nd (mz ae (a7 2)))) aR)
  (ak (az (bf (k:=0) (a8 (fF T.seer hr (a7 0) (a7 2)) (a8 (fF T.seer hr (a7 1) (a7 2)) af (hs:=bO)) (hs:=bO)))))))))) ?_
 intro ds d' hl hF;unfold dw at hF;split at hF
 ·rename_i n d;split at hF
  ·rename_i h;cases hF;have g0:gcd (n.natAbs:Int) (d.natAbs:Int)=gcd n d:=by simp[gcd]
   have hl:=A1 (some (.a9 (.int n))) (some (.a9 (.int d))) (d.natAbs+1) n.natAbs d.natAbs (by omega) (by omega) (by omega);rw[g0]at hl;have hw:kW II M8 M9 [some (.a9 (.int n)),some (.a9 (.int d)),some (.a9 (.int n.natAbs)),some (.a9 (.int d.natAbs))]=_:=hl;have hn:=iI n;have cV:=iI d;have q1:jH (.int n) (.int (Fr.dv n d))=some (.int (Fr.num n d)):=fT (Fr.vG h.1);have q2:jH (.int d) (.int (Fr.dv n d))=some (.int (Fr.den n d)):=fT (Fr.vG h.1);have z2:2<=sizeLine:=sz (by decide);refine c8 ?_;simp!;rw[aE (aj:=[some (.a9 (.int n)),some (.a9 (.int d)),some (.a9 (.int n.natAbs)),none]) (by dsimp![hn])];rw[aE (aj:=[some (.a9 (.int n)),some (.a9 (.int d)),some (.a9 (.int n.natAbs)),some (.a9 (.int d.natAbs))]) (by dsimp![cV])];rw[aE (aj:=[some (.a9 (.int n)),some (.a9 (.int d)),some (.a9 (.int (gcd n d))),some (.a9 (.int 0))]) hw];have bV:=dE d 0;have hs:=eA 0 (gcd n d);by_cases hd:d<0
   ·have e2:0-(gcd n d:Int)=Fr.dv n d:=by unfold Fr.dv;rw[if_pos hd];omega
    rw[decide_eq_true hd]at bV;rw[e2]at hs;dsimp![bV,hs,q1,q2,z2]
   ·have e2:(gcd n d:Int)=Fr.dv n d:=by unfold Fr.dv;exact(if_neg hd).symm
    rw[decide_eq_false hd]at bV;rw[e2];dsimp![bV,q1,q2,z2]
  ·cases hF
 ·cases hF
theorem Kr(T:TX P K mg)(lD:Dn P w K mg base 41 "_law_low" ["n","d"] 2 dw)(U:FnAt K mg "_law_plus" (top 44) ["a","b"]):Dn P w K mg base 42 "_law_plus" ["a","b"] 2 jc:=by
 obtain⟨f,fd,U,hm,hB⟩:=U.ex;have nd:(["a","b"]:List Str).Nodup:=by decide +kernel
 refine gA U hm hB (N:=["a","b"]) ⟨rfl,rfl,rfl,by decide +kernel,rfl,by decide +kernel,by decide +kernel⟩ rfl (fun ba A outer s H E hr=>
  (ak (az (aH lD hr (a8 (dW (bE (ao (a7 0) ae) (ao (a7 1) ae)) (bE (ao (a7 1) ae) (ao (a7 0) ae))) (a8 (bE (ao (a7 0) ae) (ao (a7 1) ae)) af (hs:=bO)) (hs:=bO)))))) ?_
 intro ds d hl hF;obtain⟨p,q,r,s,rfl,g1,g2,e⟩:=fw hF;have z:=mul_ne_zero (ne_of_gt g1.pos) (ne_of_gt g2.pos);cases e;simp![fr,jV,jU,cA,mulM g1.mp g2.mq,mulM g2.mp g1.mq,mulM g1.mq g2.mq,jy z (g1.mq.mul g2.mq)]
theorem GV(T:TX P K mg)(lD:Dn P w K mg base 41 "_law_low" ["n","d"] 2 dw)(U:FnAt K mg "_law_times" (top 45) ["a","b"]):Dn P w K mg base 42 "_law_times" ["a","b"] 2 i5:=by
 obtain⟨f,fd,U,hm,hB⟩:=U.ex;have nd:(["a","b"]:List Str).Nodup:=by decide +kernel
 refine gA U hm hB (N:=["a","b"]) ⟨rfl,rfl,rfl,by decide +kernel,rfl,by decide +kernel,by decide +kernel⟩ rfl (fun ba A outer s H E hr=>
  (ak (az (aH lD hr (a8 (bE (ao (a7 0) ae) (ao (a7 1) ae)) (a8 (bE (ao (a7 0) ae) (ao (a7 1) ae)) af (hs:=bO)) (hs:=bO)))))) ?_
 intro ds d hl hF;obtain⟨p,q,r,s,rfl,g1,g2,e⟩:=fw hF;have z:=mul_ne_zero (ne_of_gt g1.pos) (ne_of_gt g2.pos);cases e;simp![fr,jV,jU,mulM g1.mp g2.mp,mulM g1.mq g2.mq,jy z (g1.mq.mul g2.mq)]
abbrev R:=Int×Int
abbrev rD (r:R):List Dat:=[.int r.1,.int r.2]
abbrev EZ (F:List Dat->List Dat->Option (Dat×List Dat)):Prop:=∀(r:R) (m:Int),0<m->m<2^200->∃(k:Int) (r':R),F (rD r) [.int m]=some (.int k,rD r')/\0<=k/\k<m
theorem Nb(T:TX P K mg)(U:FnAt K mg "_law_next" (top 41) ["pot","many"]):
  ∃F,iU P w K mg base 41 "_law_next" ["pot","many"] 2 F/\EZ F:=by
 refine⟨_,vA ["pot","many","cell","stir"] U fun nd _ _ _ _ _ _ _ hr=>(ah (rM 0 (bp (dW (ao (a7 0) ae) ae)))
  (ah (aF 2 nd (ao (a7 0) ae))
  (ah (aV (Jx (a7 2) (mB ae ae)) (ah (rM 0 (bp (fF T.seer hr (a7 2) (a7 1))))
  (ak (gg (bp (jx (a7 2) (a7 1)))))) aR)
  (ah (aF 3 nd (jx (dW (dW (bE (a7 2) ae) (bE (ao (a7 0) ae) ae)) ae) ae))
  (ah (aF 3 nd (jx (bE (a7 3) (a7 3)) ae))
  (ak (gg (bp (jx (fF T.seer hr (jx (dW (bE (a7 3) ae) (bE (ao (a7 0) ae) ae)) ae) ae) (a7 1)))))))))),?_⟩
 intro r m h1 h2;have uL:m≠0:=by omega
 obtain⟨a,b⟩:=r;have i0:∀x y:Dat,gE [x,y] 0=some x:=fun _ _=>rfl;have i1:∀x y:Dat,gE [x,y] 1=some y:=fun _ _=>rfl;have n0:qk 2 0=some 0:=rfl;have n1:qk 2 1=some 1:=rfl;have ha:=cA b 1;have hg:=K4 a (10^18);have bm:∀x:Int,0<=x.fmod m/\x.fmod m<m:=fun x=>tP x h1;by_cases Qa:(10:Int)^18<=a
 ·rw[decide_eq_true Qa]at hg;have e1:=iG (a:=a) (b:=m) uL;have e2:jH (.int a) (.int m)=some (.int (a.fdiv m)):=fT uL;refine⟨a.fmod m,(a.fdiv m,b+1),?_,bm a⟩;generalize a.fmod m=k at e1;generalize a.fdiv m=q at e2;simp![oy,i0,i1,n0,n1,ha,hg,Bf,e1,e2]
 ·rw[decide_eq_false Qa]at hg;have e1:=mulR a (b:=69621) (by decide) (by decide);have e2:=mulR (b+1) (b:=7919) (by decide) (by decide);have e3:=iG (a:=a*69621+(b+1)*7919+13) (b:=2147483647) (by decide);have b3:=tP (a*69621+(b+1)*7919+13) (b:=2147483647) (by decide);have a1:=cA (a*69621) ((b+1)*7919);have a2:=cA (a*69621+(b+1)*7919) 13;generalize (a*69621+(b+1)*7919+13).fmod 2147483647=s1 at e3 b3;have e4:ib (.int s1) (.int s1)=some (.int (s1*s1)):=mulR _ (by omega) (by omega);have e5:=iG (a:=s1*s1) (b:=2147483629) (by decide);generalize (s1*s1).fmod 2147483629=s2 at e5;have e6:=mulR s2 (b:=48271) (by decide) (by decide);have e7:=mulR (b+1) (b:=40692) (by decide) (by decide);have a3:=cA (s2*48271) ((b+1)*40692);have e8:=iG (a:=s2*48271+(b+1)*40692) (b:=2147483587) (by decide);generalize (s2*48271+(b+1)*40692).fmod 2147483587=s3 at e8;have e9:jH (.int s3) (.int 8)=some (.int (s3.fdiv 8)):=fT (show(8:Int)≠0 by decide);generalize s3.fdiv 8=s4 at e9;have Qf:=iG (a:=s4) (b:=m) uL;refine⟨s4.fmod m,(a,b+1),?_,bm s4⟩;generalize s4.fmod m=k at Qf;simp![oy,i0,i1,n0,n1,ha,hg,Bf,e1,e2,e3,a1,a2,e4,e5,e6,e7,a3,e8,e9,Qf]
theorem MS{β:Type}{Q:α->β->Prop}(h:∃a:α×β,Q a.1 a.2):∃x y,Q x y:=by
 obtain⟨⟨x,y⟩,q⟩:=h;exact⟨x,y,q⟩
theorem LB(n:Int):(.tuple [.int n,.int 1]:Dat)=qD (n:Rat):=rfl
abbrev AK (c:Nat) (F:List Dat->List Dat->Option (Dat×List Dat)):Prop:=∀r:R,∃(q:Rat) (r':R),F (rD r) []=some (qD q,rD r')/\SR c q
theorem GS(T:TX P K mg){Fx:List Dat->List Dat->Option (Dat×List Dat)}(ef:iU P w K mg base 41 "_law_next" ["pot","many"] 2 Fx)(hX:EZ Fx)(lD:Dn P w K mg base 41 "_law_low" ["n","d"] 2 dw)(U:FnAt K mg "_law_number" (top 47) ["pot"]):
  ∃F,iU P w K mg base 42 "_law_number" ["pot"] 1 F/\AK 20 F:=by
 refine⟨_,vA ["pot","kind"] U fun nd _ _ _ _ _ _ _ hr=>(ah (lH 1 nd (d5 0 ef hr (bG (bp ae) bT)))
  (ah (aV (jt (a7 1) ae) (ak (gg (pS (bG (pT (d5 0 ef hr (bG (bp ae) bT)) (bp ae)) (bG (bp ae) bT) (hst:=bO))))) aR)
  (ah (aV (jt (a7 1) ae) (ak (gg (Ly lD hr (bG (pT (d5 0 ef hr (bG (bp ae) bT)) (bp ae)) (bG (zG (bp ae) (d5 0 ef hr (bG (bp ae) bT))) bT (hst:=bO)) (hst:=bO))))) aR)
  (ak (gg (pS (bG (pT (d5 0 ef hr (bG (bp ae) bT)) (bp ae)) (bG (bp ae) bT) (hst:=bO)))))))),?_⟩
 intro r;have z2:2<=sizeLine:=sz (by decide);refine MS (wp_runM (fun a:Rat×R=>qD a.1) (fun a=>rD a.2) (fun a=>SR 20 a.1) ?_);show WP (dQ _ _ [some (.own (rD r)),none]) _;obtain⟨k,r1,e1,b1,Nl⟩:=hX r 8 (by decide) (by decide);have qx:Fx [.int r.1,.int r.2] [.int 8]=some (.int k,rD r1):=e1;refine wp_seq (Γ1:=[some (.own (rD r1)),some (.a9 (.int k))]) (by simp![qx]) ?_;have l5:=dE k 5;have l7:=dE k 7;by_cases c5:k<5
 ·rw[decide_eq_true c5]at l5;obtain⟨n,r2,e2,b2,Nk⟩:=hX r1 11 (by decide) (by decide);have ph:Fx [.int r1.1,.int r1.2] [.int 11]=some (.int n,rD r2):=e2;have s2:=eA n 5;refine⟨.rm (qD ((n-5:Int):Rat)) [some (.own (rD r2)),some (.a9 (.int k))],?_,(((n-5:Int):Rat),r2),_,rfl,rfl,vX (by decide) (by omega)⟩;rw[<- LB];simp![l5,ph,s2,z2]
 ·rw[decide_eq_false c5]at l5;refine wp_seq (Γ1:=[some (.own (rD r1)),some (.a9 (.int k))]) (by simp![l5]) ?_;by_cases c7:k<7
  ·rw[decide_eq_true c7]at l7;obtain⟨n,r2,e2,b2,Nk⟩:=hX r1 41 (by decide) (by decide);have ph:Fx [.int r1.1,.int r1.2] [.int 41]=some (.int n,rD r2):=e2;obtain⟨m,r3,e3,b3,Qj⟩:=hX r2 6 (by decide) (by decide);have y9:Fx [.int r2.1,.int r2.2] [.int 6]=some (.int m,rD r3):=e3;have s2:=eA n 20;have s3:=cA 1 m;have em:=Gk (z:=n-20) (p:=1+m) (by omega) (lt_of_lt_of_le (show(1+m).natAbs<2^20 by omega) (pow_le_pow_right (by decide) (by decide)));refine⟨.rm (qD (((n-20:Int):Rat)/((1+m:Int):Rat))) [some (.own (rD r3)),some (.a9 (.int k))],?_,((((n-20:Int):Rat)/((1+m:Int):Rat)),r3),_,rfl,rfl,jr (by omega) (by omega) (by omega)⟩;generalize qD (((n-20:Int):Rat)/((1+m:Int):Rat))=dq at *;simp![l7,ph,y9,s2,s3,em]
  ·rw[decide_eq_false c7]at l7;refine wp_seq (Γ1:=[some (.own (rD r1)),some (.a9 (.int k))]) (by simp![l7]) ?_;obtain⟨n,r2,e2,b2,Nk⟩:=hX r1 20001 (by decide) (by decide);have ph:Fx [.int r1.1,.int r1.2] [.int 20001]=some (.int n,rD r2):=e2;have s2:=eA n 10000;refine⟨.rm (qD ((n-10000:Int):Rat)) [some (.own (rD r2)),some (.a9 (.int k))],?_,(((n-10000:Int):Rat),r2),_,rfl,rfl,vX (by decide) (by omega)⟩;rw[<- LB];simp![ph,s2,z2]
theorem Rx:FQ (.int 10) (.int 9)=some (.int (10^9)):=fT (by unfold Cp;decide)
theorem OO(T:TX P K mg){Fx Fn:List Dat->List Dat->Option (Dat×List Dat)}(ef:iU P w K mg base 42 "_law_next" ["pot","many"] 2 Fx)(hX:EZ Fx)(jY:iU P w K mg base 42 "_law_number" ["pot"] 1 Fn)(hN:AK 20 Fn)(U:FnAt K mg "_law_far" (top 49) ["pot"]):
  ∃F,iU P w K mg base 43 "_law_far" ["pot"] 1 F/\AK 62 F:=by
 refine⟨_,vA ["pot"] U fun nd _ _ _ _ _ _ _ hr=>(ah (wm (Ju hr (d5 0 ef hr (bG (bp ae) bT)) (bp ae)) (ak (gg (pS (bG (pT (zG (Jv (d5 0 ef hr (bG (bp (bE ae (mB ae ae))) bT (hst:=bO))) (bp (mB ae ae))) (d5 0 ef hr (bG (bp (mB ae ae)) bT (hst:=bO)))) (bp (mB ae ae))) (bG (bp ae) bT) (hst:=bO))))) aR)
  (ak (gg (d5 0 jY hr bT)))),?_⟩
 intro r;have z2:2<=sizeLine:=sz (by decide);refine MS (wp_runM (fun a:Rat×R=>qD a.1) (fun a=>rD a.2) (fun a=>SR 62 a.1) ?_);show WP (dQ _ _ [some (.own (rD r))]) _;obtain⟨k,r1,e1,b1,Nl⟩:=hX r 9 (by decide) (by decide);have qx:Fx [.int r.1,.int r.2] [.int 9]=some (.int k,rD r1):=e1;have q0:=cB k 0;by_cases c0:k=0
 ·rw[decide_eq_true c0]at q0;obtain⟨n,r2,e2,b2,Nk⟩:=hX r1 (2*10^9) (by decide) (by decide);obtain⟨m,r3,e3,b3,Qj⟩:=hX r2 (10^9) (by decide) (by decide);have ph:Fx [.int r1.1,.int r1.2] [.int (2*10^9)]=some (.int n,rD r2):=e2;have y9:Fx [.int r2.1,.int r2.2] [.int (10^9)]=some (.int m,rD r3):=e3;have m1:ib (.int 2) (.int (10^9))=some (.int (2*10^9)):=mulR _ (by decide) (by decide);have m2:ib (.int n) (.int (10^9))=some (.int (n*10^9)):=mulR _ (by decide) (by decide);have a2:=cA (n*10^9) m;have s2:=eA (n*10^9+m) (10^18);refine⟨.rm (qD ((n*10^9+m-10^18:Int):Rat)) [some (.own (rD r3))],?_,(((n*10^9+m-10^18:Int):Rat),r3),_,rfl,rfl,vX (by decide) (by omega)⟩;rw[<- LB];generalize n*10^9+m-10^18=y at *;generalize n*10^9+m=y2 at *;generalize n*10^9=y3 at *;simp![qx,q0,Rx,m1,ph,m2,y9,a2,Bf,s2,z2]
 ·rw[decide_eq_false c0]at q0;refine wp_seq (Γ1:=[some (.own (rD r1))]) (by simp![qx,q0]) ?_;obtain⟨q,r2,e2,hq⟩:=hN r1;have ph:Fn [.int r1.1,.int r1.2] []=some (qD q,rD r2):=e2;refine⟨.rm (qD q) [some (.own (rD r2))],?_,(q,r2),_,rfl,rfl,hq.up (by decide)⟩;generalize qD q=dq at *;simp![ph]
abbrev QC (F:List Dat->List Dat->Option (Dat×List Dat)):Prop:=∀r:R,∃(o:FM.Ol) (r':R),F (rD r) []=some (cE o,rD r')/\∃a:Rat,o.2.1=[a]/\SR 62 a/\SR 62 o.2.2
theorem SW{t:Int}(h:0<=t/\t<6):∃k:FM.Kn,bB (.list [.str "=",.str "<=",.str "<=",.str "<",.str "<",.str "<="]) (.int t)=some (.str (bF k)):=by
 rcases(show t=0\/t=1\/t=2\/t=3\/t=4\/t=5 by omega)with e|e|e|e|e|e<;>subst e
 ·exact⟨.eq,rfl⟩
 ·exact⟨.le,rfl⟩
 ·exact⟨.le,rfl⟩
 ·exact⟨.lt,rfl⟩
 ·exact⟨.lt,rfl⟩
 ·exact⟨.le,rfl⟩
theorem Nf(T:TX P K mg){Fx Fn Ff:List Dat->List Dat->Option (Dat×List Dat)}(ef:iU P w K mg base 43 "_law_next" ["pot","many"] 2 Fx)(hX:EZ Fx)(jY:iU P w K mg base 43 "_law_number" ["pot"] 1 Fn)(hN:AK 20 Fn)(NL:iU P w K mg base 43 "_law_far" ["pot"] 1 Ff)(hF:AK 62 Ff)(U:FnAt K mg "_law_line" (top 51) ["pot"]):
  ∃F,iU P w K mg base 44 "_law_line" ["pot"] 1 F/\QC F:=by
 refine⟨_,vA ["pot","kind","part"] U fun nd _ _ _ _ _ _ _ hr=>(ah (lH 1 nd (D0 (bp (mC (a8 aX (a8 aX (a8 aX (a8 aX (a8 aX (a8 aX af)))))))) (d5 0 ef hr (bG (bp ae) bT))))
  (ah (lH 2 nd (d5 0 jY hr bT))
  (ah (wm (Lx (FH (Jt (d5 0 ef hr (bG (bp ae) bT)) (bp ae)) (CY (CZ (cq hr (ao (a7 2) ae) ae))))) (ak (aF 2 nd (bf (k:=0) (a8 ae (a8 ae af))))) aR)
  (ak (gg (pS (bG (bp (a7 1)) (bG (bp (bf (k:=0) (a8 (a7 2) af))) (bG (d5 0 NL hr bT) bT (hst:=bA)) (hst:=fN))))))))),?_⟩
 intro r;have z1:1<=sizeLine:=sz (by decide);have z2:2<=sizeLine:=sz (by decide);have z3:3<=sizeLine:=sz (by decide);have z6:6<=sizeLine:=sz (by decide);refine MS (wp_runM (fun a:FM.Ol×R=>cE a.1) (fun a=>rD a.2) (fun a=>∃q:Rat,a.1.2.1=[q]/\SR 62 q/\SR 62 a.1.2.2) ?_);show WP (dQ _ _ [some (.own (rD r)),none,none]) _;obtain⟨t,r1,e1,b1,Nl⟩:=hX r 6 (by decide) (by decide);have qx:Fx [.int r.1,.int r.2] [.int 6]=some (.int t,rD r1):=e1;obtain⟨k,ek⟩:=SW ⟨b1,Nl⟩;refine wp_seq (Γ1:=[some (.own (rD r1)),some (.a9 (.str (bF k))),none]) (by dsimp![qx,z6,ek]) ?_;obtain⟨q,r2,e2,hq⟩:=hN r1;have ph:Fn [.int r1.1,.int r1.2] []=some (qD q,rD r2):=e2;refine wp_seq (Γ1:=[some (.own (rD r2)),some (.a9 (.str (bF k))),some (.a9 (qD q))]) (by
  generalize qD q=dq at *;simp![ph]) ?_
 obtain⟨n,r3,e3,b3,Qj⟩:=hX r2 8 (by decide) (by decide);have y9:Fx [.int r2.1,.int r2.2] [.int 8]=some (.int n,rD r3):=e3;refine wp_seqx (fun Γ=>∃q':Rat,SR 62 q'/\Γ=[some (.own (rD r3)),some (.a9 (.str (bF k))),some (.a9 (qD q'))]) ?_ ?_
 ·have g0:=fB n 0;have i0:bB (qD q) (.int 0)=some (.int q.num):=rfl;have q0:=cB q.num 0;by_cases c:0<n
  ·rw[decide_eq_true c]at g0;by_cases c2:q.num=0
   ·rw[decide_eq_true c2]at q0;refine⟨_,?_,1,⟨by decide,by decide⟩,rfl⟩;have q1:(.tuple [.int 1,.int 1]:Dat)=qD 1:=rfl;generalize qD q=dq at *;dsimp![y9,g0,i0,q0,z2,q1]
   ·rw[decide_eq_false c2]at q0;refine⟨_,?_,q,hq.up (by decide),rfl⟩;generalize qD q=dq at *;dsimp![y9,g0,i0,q0]
  ·rw[decide_eq_false c]at g0;refine⟨_,?_,q,hq.up (by decide),rfl⟩;generalize qD q=dq at *;dsimp![y9,g0]
 ·rintro Γ ⟨q',Mz,rfl⟩;obtain⟨b,r4,e4,hb⟩:=hF r3;have UB:Ff [.int r3.1,.int r3.2] []=some (qD b,rD r4):=e4;have eo:cE (k,[q'],b)=.tuple [.str (bF k),.tuple [qD q'],qD b]:=rfl;refine⟨.rm (cE (k,[q'],b)) [some (.own (rD r4)),some (.a9 (.str (bF k))),some (.a9 (qD q'))],?_,((k,[q'],b),r4),_,rfl,rfl,q',rfl,Mz,hb⟩;rw[eo];generalize qD q'=dq at *;generalize qD b=db at *;simp![UB,z1,z3]
abbrev Qq (F:List Dat->Option (List (List Int))):Prop:=∀ns:List Int,ns.length<=63->∃rs:List R,F [.list (ns.map .int)]=some (rs.map fun r=>[r.1,r.2])
theorem v3{gt:Dat->Option cH}{fe:ar->Option (List Dat)}{jg:ar}:∀(ns:List Int),(∀n:Int,∃as,gt (.int n)=some as/\fe (i9 jg as)=some [.int n,.int 0])->sM gt fe jg (ns.map .int)=some (ns.map fun n=>[n,0])
 |[],_=>rfl
 |n::ns,h=>by
  obtain⟨as,e1,e2⟩:=h n;show(gt (.int n)).bind _=_;rw[e1,Option.bind_some,e2,Option.bind_some];show(Option.map _ (sM gt fe jg (ns.map .int)))=_;rw[v3 ns h];rfl
theorem Ni(ds:List Dat)(m:Nat):L3.cutD ds none (some (m:Int))=ds.take m:=by
 unfold L3.cutD;rw[HT.tp,HT.w9,drop_zero,sub_zero];by_cases h:m<=ds.length
 ·rw[Nat.min_eq_left h]
 ·rw[Nat.min_eq_right (by omega),List.take_of_length_le (le_refl _),List.take_of_length_le (by omega)]
theorem N7(T:TX P K mg)(U:FnAt K mg "_law_pots" (top 42) ["script"]):
  ∃F,sY P w K mg base 41 "_law_pots" ["script"] 1 F/\Qq F:=by
 refine⟨_,Od ["script"] U rfl (fun nd _ _ _ _ _ _ _ hr=>cq hr (fA T.len (a8 (a7 0) af)) ae) (fun nd _ _ _ _ _ _ _ hr=>FJ (ju (a8 ae (a8 ae af)))) (fun nd _ _ _ _ _ _ _ hr=>Dc rfl (pE (N':=["cell"])) (wq (ni (a7 0) oG (oF ae))) (fun _ _ _ _=>(aJ 0 (show(["cell"]:List Str).Nodup by decide +kernel))) (fun _ _ _ _=>eK) (fun _ _ _ _=>ju (a8 (a7 0) (a8 ae af))) (fz rfl)),?_⟩;intro ns hl;have z2:2<=sizeLine:=sz (by decide);have ln:lb [.list (ns.map .int)]=some (.int (ns.length:Int)):=by show some (Dat.int ((ns.map Dat.int).length:Int))=_;rw[length_map]
 have ge:∀b:Bool,(decide ((ns.length:Int)=0))=b->∀(f1 f2:ar->Option (List (List Int))),FC ["script"] (c9 (L3.f2 dU (dY lb (bj (aT 0) cz)) (fC (.int 0)))) f1 f2 [.list (ns.map .int)]=if b=true then f1 (bH [some (.a9 (.list (ns.map .int)))])else f2 (bH [some (.a9 (.list (ns.map .int)))]):=fun b hb f1 f2=>by
  have e:c9 (L3.f2 dU (dY lb (bj (aT 0) cz)) (fC (.int 0))) (bH (bW ["script"] [.list (ns.map .int)]))=some b:=by
   have eq:=cB (ns.length:Int) 0;rw[hb]at eq;generalize Dat.list (ns.map .int)=d0 at *;dsimp![ln,eq]
  unfold FC;rw[e];rfl
 by_cases h0:(ns.length:Int)=0
 ·refine⟨[(0,0)],(ge true (decide_eq_true h0) _ _).trans ?_⟩;rw[if_pos rfl];unfold BN;have e:mQ (bj (fC (.int 0)) (bj (fC (.int 0)) cz)) (bH [some (.a9 (.list (ns.map .int)))])=some [.int 0,.int 0]:=by simp![z2]
  rw[e];rfl
 ·refine⟨(ns.take 63).map fun n=>(n,0),(ge false (decide_eq_false h0) _ _).trans ?_⟩;rw[if_neg Bool.false_ne_true];have s1:CF (.list (ns.map .int)) none (some 63)=some (.list ((ns.take 63).map .int)):=by
   show some (Dat.list (L3.cutD (ns.map Dat.int) none (some ((63:Nat):Int))))=_;rw[Ni,List.map_take]
  have nW:(ns.take 63).length<=63:=by rw[length_take];omega
  generalize ns.take 63=cs at s1 nW;unfold sD;have e:DM (p9 (aT 0) ny (nv (fC (.int 63)))) (bH [some (.a9 (.list (ns.map .int)))])=some (cs.map .int):=by
   unfold DM;have e2:p9 (aT 0) ny (nv (fC (.int 63))) (bH [some (.a9 (.list (ns.map .int)))])=some (.list (cs.map .int)):=by dsimp![p9,nv,ny,yi,s1]
   rw[e2];rfl
  rw[e,Option.bind_some,if_pos (by rw[length_map];exact lt_of_le_of_lt nW (iK (by decide)))];rw[v3 cs fun n=>⟨[(0,.int n)],rfl,by simp![z2]⟩,map_map];rfl
def Al:Nat->Dat->Prop
 |0,_=>False
 |n+1,.tuple ds=>ds.length<=1000/\∀d∈ds,Al n d
 |_+1,.int _=>True
 |_+1,.str _=>True
 |_+1,.bool _=>True
 |_+1,.none=>True
 |_+1,_=>False
abbrev R9 (n:Nat) (F:List Dat->Option Dat):Prop:=∀d,Al n d->F [d,d]=some (.bool true)
theorem vM:∀(ds:List Dat),eh ds ds=ds.map fun d=>.tuple [d,d]
 |[]=>rfl
 |d::ds=>by show Dat.tuple [d,d]::eh ds ds=_;rw[vM ds];rfl
theorem Az(T:TX P K mg)(U:FnAt K mg "_law_alike" (top 56) ["told","due"]):∀n:Nat,
  ∃F,Dn P w K mg base (40+n) "_law_alike" ["told","due"] 2 F/\R9 n F
 |0=>by
  obtain⟨f,fd,U,hm,hB⟩:=U.ex;exact⟨fun _=>none,Kg U hm hB,fun d h=>h.elim⟩
 |n+1=>by
  obtain⟨F0,lE,h0⟩:=Az T U n;refine⟨_,cN ["told","due","one","other"] U fun nd _ _ _ _ _ _ _ hr=>
   (ah (aV (cC (a7 1) bg) (ak (az (Jz (a7 0) bg))) aR)
  (ah (aV (bM (fE "bool" T.isinstance T.bool (a7 1))) (ak (az (kH (fE "bool" T.isinstance T.bool (a7 0)) (jv (ij hr (a7 0) (a7 1)))))) aR)
  (ah (aV (bM (fE "str" T.isinstance T.str (a7 1))) (ak (az (kH (fE "str" T.isinstance T.str (a7 0)) (jv (ij hr (a7 0) (a7 1)))))) aR)
  (ah (aV (bM (fE "int" T.isinstance T.int (a7 1))) (ak (az (kH (fE "int" T.isinstance T.int (a7 0)) (kH (Jy (fE "bool" T.isinstance T.bool (a7 0))) (jv (ij hr (a7 0) (a7 1))))))) aR)
  (ah (aV (cx (cF (gm (bM (fE "tuple" T.isinstance T.tuple (a7 0)))) (cP (gZ hr (fA T.len (a8 (a7 0) af)) (fA T.len (a8 (a7 1) af)))))) (ak (az iY)) aR)
  (ah (lI PassesOwn.never rfl (ng T.zip (a8 (a7 0) (a8 (a7 1) af))) (dC (n:=2) rfl (aY (aJ 2 nd) (aY (aJ 3 nd) cR)))
  (ak (aV (gm (bM (aH lE hr (a8 (a7 2) (a8 (a7 3) af))))) (ak (az iY)) aR)))
  (ak (az iY)))))))),?_⟩
  intro d hd;have nb:∀x,mM "bool" (.str x)=some (.bool false):=fun _=>rfl;have bb:∀x,mM "bool" (.bool x)=some (.bool true):=fun _=>rfl;have is:∀x,mM "str" (.int x)=some (.bool false):=fun _=>rfl;have tb:∀x,mM "bool" (.tuple x)=some (.bool false):=fun _=>rfl;have ti:∀x,mM "int" (.tuple x)=some (.bool false):=fun _=>rfl;have ts:∀x,mM "str" (.tuple x)=some (.bool false):=fun _=>rfl;have SU:∀x:List Dat,lb [.tuple x]=some (.int (x.length:Int)):=fun _=>rfl;cases d with
  |none=>simp![iH,iZ]
  |bool b=>simp![iH,iZ,bb,GJ,beq_self_eq_true]
  |int i=>simp![iH,iZ,Mj,Mk,is,cB]
  |str x=>simp![iH,iZ,nb,Ow,Kb rfl]
  |tuple ds=>
   refine c8 ?_;simp!;rw[aE (aj:=[some (.a9 (.tuple ds)),some (.a9 (.tuple ds)),none,none]) (by simp![iH,iZ]),aE (aj:=[some (.a9 (.tuple ds)),some (.a9 (.tuple ds)),none,none]) (by simp![tb]),aE (aj:=[some (.a9 (.tuple ds)),some (.a9 (.tuple ds)),none,none]) (by simp![ts]),aE (aj:=[some (.a9 (.tuple ds)),some (.a9 (.tuple ds)),none,none]) (by simp![ti]),aE (aj:=[some (.a9 (.tuple ds)),some (.a9 (.tuple ds)),none,none]) (by simp![Ov,SU,fW])];have hz:sh (bj (aT 0) (bj (aT 1) cz)) (bD [some (.a9 (.tuple ds)),some (.a9 (.tuple ds)),none,none])=some (ds.map fun d=>.tuple [d,d]):=by
    rw[<- vM];rfl
   obtain⟨aj,e1,u,v,e2⟩:=p7 (fun d:Dat=>.tuple [d,d]) (fun _ Γ=>∃u v,Γ=[some (.a9 (.tuple ds)),some (.a9 (.tuple ds)),u,v]) (fun _ l=>∀d∈l,d∈ds) (fun s _=>s) (gt:=j9 2 (fj (aName 2) (fj (aName 3) ka))) (gb:=mw (jI (mf (jS 2 F0 (bj (aT 2) (bj (aT 3) cz))))) (kX (fC (.bool false))) ko) (l:=ds) (s:=()) hz (fun d h=>h) ⟨_,_,rfl⟩ (by
     rintro s d l Γ hi ⟨u,v,rfl⟩;refine⟨[(2,d),(3,d)],rfl,[some (.a9 (.tuple ds)),some (.a9 (.tuple ds)),some (.a9 (d)),some (.a9 (d))],?_,⟨_,_,rfl⟩,fun j hj=>hi j (mem_cons_of_mem _ hj)⟩;have t:=h0 d (hd.2 d (hi d mem_cons_self));generalize Dat.tuple ds=dt at *;dsimp![t])
   rw[aE e1,e2];simp![]
  |_=>exact hd.elim
theorem Ng(T:TX P K mg)(U:FnAt K mg "_law_less" (top 53) ["a","b"]):Dn P w K mg base 41 "_law_less" ["a","b"] 2 gJ:=by
 obtain⟨f,fd,U,hm,hB⟩:=U.ex;have nd:(["a","b"]:List Str).Nodup:=by decide +kernel
 refine gA U hm hB (N:=["a","b"]) ⟨rfl,rfl,rfl,by decide +kernel,rfl,by decide +kernel,by decide +kernel⟩ rfl (fun ba A outer s H E hr=>
  (ak (az (wy (bE (ao (a7 0) ae) (ao (a7 1) ae)) (bE (ao (a7 1) ae) (ao (a7 0) ae)))))) ?_
 intro ds d hl hF;obtain⟨p,q,r,s,rfl,g1,g2,e⟩:=fw hF;cases e;simp![fr,jV,jU,dE,mulM g1.mp g2.mq,mulM g2.mp g1.mq]
theorem Pd:(.tuple [.int 0,.int 1]:Dat)=qD 0:=rfl
abbrev QU (F:List Dat->Option Dat):Prop:=∀(c:Nat) (a b:Rat),c<=1000000->SR c a->SR c b->F [.tuple [qD a],.tuple [qD b]]=some (qD (a*b))
theorem OQ(T:TX P K mg)(ue:Dn P w K mg base 42 "_law_plus" ["a","b"] 2 jc)(lC:Dn P w K mg base 42 "_law_times" ["a","b"] 2 i5)(U:FnAt K mg "_law_dot" (top 46) ["parts","point"]):
  ∃F,Dn P w K mg base 43 "_law_dot" ["parts","point"] 2 F/\QU F:=by
 refine⟨_,cN ["parts","point","told","one","other"] U fun nd _ _ _ _ _ _ _ hr=>
  (ah (aF 2 nd (bf (k:=0) (a8 ae (a8 ae af))))
  (ah (lI PassesOwn.never rfl (ng T.zip (a8 (a7 0) (a8 (a7 1) af))) (dC (n:=2) rfl (aY (aJ 3 nd) (aY (aJ 4 nd) cR)))
  (ak (aF 2 nd (aH ue hr (a8 (a7 2) (a8 (aH lC hr (a8 (a7 3) (a8 (a7 4) af))) af (hs:=bA)))))))
  (ak (az (a7 2))))),?_⟩
 intro c a b hc ha hb;have z2:2<=sizeLine:=sz (by decide);have e1:=qa ha hb (by omega) (by omega);have SH:SR (c+c) (a*b):=(ha.mul hb).up (by omega);have e2:jc [qD 0,qD (a*b)]=some (qD (a*b)):=by
  rw[sT (kU (c:=1) (by decide)) SH (by decide) (by omega),Rat.zero_add]
 refine c8 ?_;simp!;generalize qD a=da at *;generalize qD b=db at *;generalize qD (a*b)=dab at *;rw[aE (aj:=[some (.a9 (.tuple [da])),some (.a9 (.tuple [db])),some (.a9 (qD 0)),none,none]) (by dsimp![z2,Pd])];generalize qD 0=d0 at *;dsimp![pQ,sh,eh,eB,forL,e1,e2]
def Ig (b:Rat):Dat:=.tuple [.int (0-b.num),.int (b.den:Int)]
theorem RC(b:Rat):Ig b=qD (-b):=by
 unfold Ig;rw[show qD (-b)=.tuple [.int (-b).num,.int ((-b).den:Int)]from rfl,neg_num,Rat.neg_den,Int.zero_sub]
abbrev QN (F:List Dat->Option Dat):Prop:=∀(k:FM.Kn) (b:Rat),SR 62 b->F [cE (k,[0],b),.tuple [qD 0]]=some (.bool (FM.rn k b))
theorem Bm(b:Rat):(-b).num<0↔0<b:=by
 have e:=lt_iff (a:=0) (b:=b);have z:(0:Rat).num=0:=rfl;have z1:(0:Rat).den=1:=rfl;rw[z,z1,zero_mul]at e;rw[neg_num,e];omega
theorem Bn(b:Rat):(-b).num=0↔b=0:=by rw[neg_num];rw[<- num_eq_zero];omega
theorem Kt(T:TX P K mg)(ue:Dn P w K mg base 43 "_law_plus" ["a","b"] 2 jc)(NN:Dn P w K mg base 43 "_law_dot" ["parts","point"] 2 Fd)(hD:QU Fd)(U:FnAt K mg "_law_holds" (top 50) ["line","point"]):
  ∃F,Dn P w K mg base 44 "_law_holds" ["line","point"] 2 F/\QN F:=by
 refine⟨_,cN ["line","point","kind","parts","bound","less"] U fun nd _ _ _ _ _ _ _ hr=>
  (ah (qH (a7 0) (dC (n:=3) rfl (aY (aJ 2 nd) (aY (aJ 3 nd) (aY (aJ 4 nd) cR)))))
  (ah (aF 5 nd (aH ue hr (a8 (aH NN hr (a8 (a7 3) (a8 (a7 1) af))) (a8 (bf (k:=0) (a8 (mz ae (ao (a7 4) ae)) (a8 (ao (a7 4) ae) af (hs:=aW)) (hs:=bO))) af (hs:=fN)) (hs:=bA))))
  (ah (aV (cq hr (a7 2) aX) (ak (az (ij hr (ao (a7 5) ae) ae))) aR)
  (ak (az (Dd (wy (ao (a7 5) ae) ae) (jv (kH (ij hr (a7 2) aX) (jv (ij hr (ao (a7 5) ae) ae)))))))))),?_⟩
 intro k b hb;have z2:2<=sizeLine:=sz (by decide);have e1:=hD 1 0 0 (by decide) (kU (by decide)) (kU (by decide));rw[Rat.zero_mul]at e1;have sb:SR 62 (-b):=by
  have:=wW hb;rwa[show 0-b=-b by grind]at this
 have e2:jc [qD 0,Ig b]=some (qD (-b)):=by
  rw[RC,sT (kU (c:=1) (by decide)) sb (by decide) (by decide),Rat.zero_add]
 have s0:=eA 0 b.num;have i0:bB (qD b) (.int 0)=some (.int b.num):=rfl;have i1:bB (qD b) (.int 1)=some (.int (b.den:Int)):=rfl;have j0:bB (qD (-b)) (.int 0)=some (.int (-b).num):=rfl;have Up:Ig b=.tuple [.int (0-b.num),.int (b.den:Int)]:=rfl;have eo:cE (k,[0],b)=.tuple [.str (bF k),.tuple [qD 0],qD b]:=rfl;have q0:=cB (-b).num 0;have l0:=dE (-b).num 0;rw[eo];refine c8 ?_;simp!;have dz:decide ((-b).num=0)=decide (b=0):=by rw[decide_eq_decide];exact Bn b
 have dl:decide ((-b).num<0)=decide (0<b):=by rw[decide_eq_decide];exact Bm b
 rw[dz]at q0;rw[dl]at l0;rw[Up]at e2;generalize qD (-b)=N0 at *;generalize qD b=db at *;generalize qD 0=d0 at *;rw[aE (aj:=[some (.a9 (.tuple [.str (bF k),.tuple [d0],db])),some (.a9 (.tuple [d0])),some (.a9 (.str (bF k))),some (.a9 (.tuple [d0])),some (.a9 (db)),none]) (by simp![])];rw[aE (aj:=[some (.a9 (.tuple [.str (bF k),.tuple [d0],db])),some (.a9 (.tuple [d0])),some (.a9 (.str (bF k))),some (.a9 (.tuple [d0])),some (.a9 (db)),some (.a9 (N0))]) (by dsimp![e1,i0,i1,s0,z2,e2])];cases k with
 |eq=>
  have ek:dU (.str (bF .eq)) (.str "=")=some (.bool true):=rfl;dsimp![ek,j0,q0];rfl
 |le=>
  have ek:dU (.str (bF .le)) (.str "=")=some (.bool false):=rfl;have MU:dU (.str (bF .le)) (.str "<=")=some (.bool true):=rfl;have ez:FM.rn .le b=(decide (0<b) || decide (b=0)):=by
   show decide (0<=b)=_;rw[<- Bool.decide_or,decide_eq_decide];constructor
   ·intro z;grind
   ·intro z;grind
  rw[ez];rw[aE (aj:=[some (.a9 (.tuple [.str (bF .le),.tuple [d0],db])),some (.a9 (.tuple [d0])),some (.a9 (.str (bF .le))),some (.a9 (.tuple [d0])),some (.a9 (db)),some (.a9 (N0))]) (by dsimp![ek])];by_cases c:0<b
  ·rw[decide_eq_true c]at l0 ⊢;dsimp![j0,l0];rfl
  ·rw[decide_eq_false c]at l0 ⊢;dsimp![j0,l0,MU,q0];rfl
 |lt=>
  have ek:dU (.str (bF .lt)) (.str "=")=some (.bool false):=rfl;have MU:dU (.str (bF .lt)) (.str "<=")=some (.bool false):=rfl;rw[aE (aj:=[some (.a9 (.tuple [.str (bF .lt),.tuple [d0],db])),some (.a9 (.tuple [d0])),some (.a9 (.str (bF .lt))),some (.a9 (.tuple [d0])),some (.a9 (db)),some (.a9 (N0))]) (by dsimp![ek])];show _=some (Fl.rt (.bool (decide (0<b))));by_cases c:0<b
  ·rw[decide_eq_true c]at l0 ⊢;dsimp![j0,l0]
  ·rw[decide_eq_false c]at l0 ⊢;dsimp![j0,l0,MU]
def o7 (n:Nat) (g:FM.En):Prop:=∀s v,g=some (s,v)->SR n v
theorem o7.lo{l:FM.En}{s:Bool}{v:Rat}(h:o7 n l)(hv:SR n v):o7 n (FM.ee l s v):=by
 match l with
 |none=>exact fun a b e=>by cases e;exact hv
 |some (s0,v0)=>
  unfold FM.ee;dsimp only;split
  ·exact fun a b e=>by cases e;exact hv
  ·exact h
theorem o7.hi{l:FM.En}{s:Bool}{v:Rat}(h:o7 n l)(hv:SR n v):o7 n (FM.cY l s v):=by
 match l with
 |none=>exact fun a b e=>by cases e;exact hv
 |some (s0,v0)=>
  unfold FM.cY;dsimp only;split
  ·exact fun a b e=>by cases e;exact hv
  ·exact h
abbrev R6 (F:List Dat->Option Dat):Prop:=∀(n:Nat) (l g:FM.En) (v:Rat) (s:Bool),n<=1000000->o7 n l->o7 n g->SR n v->
 F [.tuple [aw l,aw g],qD v,.bool (!s),.int 0]=some (.tuple [aw (FM.ee l s v),aw g])/\F [.tuple [aw l,aw g],qD v,.bool (!s),.int 1]=some (.tuple [aw l,aw (FM.cY g s v)])
theorem OR(T:TX P K mg)(qb:Dn P w K mg base 41 "_law_less" ["a","b"] 2 gJ)(U:FnAt K mg "_law_cut" (top 52) ["range_now","number","may_be","side"]):
  ∃F,Dn P w K mg base 42 "_law_cut" ["range_now","number","may_be","side"] 4 F/\R6 F:=by
 refine⟨_,cN ["range_now","number","may_be","side","least","greatest"] U fun nd _ _ _ _ _ _ _ hr=>
  (ah (qH (a7 0) (dC (n:=2) rfl (aY (aJ 4 nd) (aY (aJ 5 nd) cR))))
  (ah (aV (cq hr (a7 3) ae) (ak (aV (cx (cF (cC (a7 4) bg) (cF (bM (aH qb hr (a8 (ao (a7 4) ae) (a8 (a7 1) af) (hs:=aW)))) (cP (cx (f7 (cq hr (ao (a7 4) ae) (a7 1)) (eV (gm (bM (a7 2)))))))))) (ak (aF 4 nd (bf (k:=0) (a8 (a7 1) (a8 (a7 2) af))))) aR)) (ak (aV (cx (cF (cC (a7 5) bg) (cF (bM (aH qb hr (a8 (a7 1) (a8 (ao (a7 5) ae) af (hs:=aW))))) (cP (cx (f7 (cq hr (ao (a7 5) ae) (a7 1)) (eV (gm (bM (a7 2)))))))))) (ak (aF 5 nd (bf (k:=0) (a8 (a7 1) (a8 (a7 2) af))))) aR)))
  (ak (az (bf (k:=0) (a8 (a7 4) (a8 (a7 5) af))))))),?_⟩
 intro n l g v s hn hl hg hv;have z2:2<=sizeLine:=sz (by decide);have a0:∀s0 v0,bB (aw (some (s0,v0))) (.int 0)=some (qD v0):=fun _ _=>rfl;have es: .tuple [qD v,.bool (!s)]=aw (some (s,v)):=rfl;have q0:dU (.int 0) (.int 0)=some (.bool true):=by rw[cB];rfl
 have q1:dU (.int 1) (.int 0)=some (.bool false):=by rw[cB];rfl
 constructor
 ·refine c8 ?_;simp!;rw[aE (aj:=[some (.a9 (.tuple [aw l,aw g])),some (.a9 (qD v)),some (.a9 (.bool (!s))),some (.a9 (.int 0)),some (.a9 (aw l)),some (.a9 (aw g))]) (by
   generalize qD v=dv at *;simp![])]
  rw[aE (aj:=[some (.a9 (.tuple [aw l,aw g])),some (.a9 (qD v)),some (.a9 (.bool (!s))),some (.a9 (.int 0)),some (.a9 (aw (FM.ee l s v))),some (.a9 (aw g))]) (by
   match l with
   |none=>
    show _=some (Fl.nx [some (.a9 (.tuple [aw none,aw g])),some (.a9 (qD v)),some (.a9 (.bool (!s))),some (.a9 (.int 0)),some (.a9 (aw (some (s,v)))),some (.a9 (aw g))]);rw[<- es];generalize qD v=dv at *;dsimp![q0,mL,z2]
   |some (s0,v0)=>
    have hi:=lg s0 v0;have bV:=mV (hl s0 v0 rfl) hv (by omega) (by omega);have heq:=sF v0 v;have ha:=a0 s0 v0;unfold FM.ee;dsimp only;by_cases c1:v0<v
    ·rw[decide_eq_true c1]at bV;rw[if_pos (.inl c1),<- es];generalize aw (some (s0,v0))=d0 at *;generalize qD v=dv at *;dsimp![q0,hi,ha,bV,z2]
    ·rw[decide_eq_false c1]at bV;by_cases c2:v0=v
     ·rw[decide_eq_true c2]at heq;cases s with
      |true=>
       rw[if_pos (.inr ⟨c2,rfl⟩),<- es];generalize aw (some (s0,v0))=d0 at *;generalize qD v=dv at *;dsimp![q0,hi,ha,bV,heq,z2]
      |false=>
       rw[if_neg (fun z=>z.elim (fun z=>c1 z) fun⟨_,z⟩=>by cases z)];generalize aw (some (s0,v0))=d0 at *;generalize qD v=dv at *;dsimp![q0,hi,ha,bV,heq,z2]
     ·rw[decide_eq_false c2]at heq;rw[if_neg (fun z=>z.elim (fun z=>c1 z) fun⟨z,_⟩=>c2 z)];generalize aw (some (s0,v0))=d0 at *;generalize qD v=dv at *;dsimp![q0,hi,ha,bV,heq,z2])]
  generalize qD v=dv at *;dsimp![z2]
 ·refine c8 ?_;simp!;rw[aE (aj:=[some (.a9 (.tuple [aw l,aw g])),some (.a9 (qD v)),some (.a9 (.bool (!s))),some (.a9 (.int 1)),some (.a9 (aw l)),some (.a9 (aw g))]) (by
   generalize qD v=dv at *;simp![])]
  rw[aE (aj:=[some (.a9 (.tuple [aw l,aw g])),some (.a9 (qD v)),some (.a9 (.bool (!s))),some (.a9 (.int 1)),some (.a9 (aw l)),some (.a9 (aw (FM.cY g s v)))]) (by
   match g with
   |none=>
    show _=some (Fl.nx [some (.a9 (.tuple [aw l,aw none])),some (.a9 (qD v)),some (.a9 (.bool (!s))),some (.a9 (.int 1)),some (.a9 (aw l)),some (.a9 (aw (some (s,v))))]);rw[<- es];generalize qD v=dv at *;dsimp![q1,mL,z2]
   |some (s0,v0)=>
    have hi:=lg s0 v0;have bV:=mV hv (hg s0 v0 rfl) (by omega) (by omega);have heq:=sF v0 v;have ha:=a0 s0 v0;unfold FM.cY;dsimp only;by_cases c1:v<v0
    ·rw[decide_eq_true c1]at bV;rw[if_pos (.inl c1),<- es];generalize aw (some (s0,v0))=d0 at *;generalize qD v=dv at *;dsimp![q1,hi,ha,bV,z2]
    ·rw[decide_eq_false c1]at bV;by_cases c2:v0=v
     ·rw[decide_eq_true c2]at heq;cases s with
      |true=>
       rw[if_pos (.inr ⟨c2,rfl⟩),<- es];generalize aw (some (s0,v0))=d0 at *;generalize qD v=dv at *;dsimp![q1,hi,ha,bV,heq,z2]
      |false=>
       rw[if_neg (fun z=>z.elim (fun z=>c1 z) fun⟨_,z⟩=>by cases z)];generalize aw (some (s0,v0))=d0 at *;generalize qD v=dv at *;dsimp![q1,hi,ha,bV,heq,z2]
     ·rw[decide_eq_false c2]at heq;rw[if_neg (fun z=>z.elim (fun z=>c1 z) fun⟨z,_⟩=>c2 z)];generalize aw (some (s0,v0))=d0 at *;generalize qD v=dv at *;dsimp![q1,hi,ha,bV,heq,z2])]
  generalize qD v=dv at *;dsimp![z2]
abbrev dX (o:FM.L1):Dat:=cE (FM.i6 o)
def pG (o:FM.L1):Prop:=SR 62 o.2.1/\SR 62 o.2.2
def Pz (p:FM.En×FM.En):Prop:=o7 200 p.1/\o7 200 p.2
theorem By{a:Rat}(h:a≠0):((a.den:Int):Rat)/(a.num:Rat)=a⁻¹:=by
 have hn:((a.num:Int):Rat)≠0:=fun z=>h (num_eq_zero.mp (FM.bR.mp z));have e:=FM.gI a;have hd:((a.den:Int):Rat)≠0:=fun z=>a.den_nz (by have:=FM.bR.mp z;omega);have e':(a.num:Rat)=a*((a.den:Int):Rat):=e;grind
theorem oB{gt:Dat->Option cH}{gb:ay->Option Fl}{St:FM.En×FM.En->ay->Prop}(hz:∀(o:FM.L1) (p:FM.En×FM.En) (Γ:ay),pG o->Pz p->St p Γ->o.2.1=0->∃as,gt (dX o)=some as/\((FM.rn o.1 o.2.2=true->∃aj,gb (setG Γ as)=some (.nx aj)/\St p aj)/\(FM.rn o.1 o.2.2=false->gb (setG Γ as)=some (.rt .none))))(hs:∀(o:FM.L1) (p:FM.En×FM.En) (Γ:ay),pG o->Pz p->St p Γ->o.2.1≠0->Pz (FM.dg p o)/\∃as,gt (dX o)=some as/\∃aj,gb (setG Γ as)=some (.nx aj)/\St (FM.dg p o) aj):
  ∀(ls:List FM.L1) (p:FM.En×FM.En) (Γ:ay),(∀o∈ls,pG o)->Pz p->St p Γ->(FM.fO ls p=none->forL gt gb (ls.map dX) Γ=some (.rt .none))/\∀q,FM.fO ls p=some q->Pz q/\∃aj,forL gt gb (ls.map dX) Γ=some (.nx aj)/\St q aj
 |[],p,Γ,_,hp,h=>⟨(fun z=>by cases z),(fun q z=>by cases z;exact⟨hp,Γ,rfl,h⟩)⟩
 |o::ls,p,Γ,ho,hp,h=>by
  have go:∀{as aj},gt (dX o)=some as->gb (setG Γ as)=some (.nx aj)->forL gt gb ((o::ls).map dX) Γ=forL gt gb (ls.map dX) aj:=fun{as aj} e1 e2=>by
   show(gt (dX o)).bind _=_;rw[e1];show(gb (setG Γ as)).bind _=_;rw[e2];rfl
  have ht:∀q∈ls,pG q:=fun q hq=>ho q (mem_cons_of_mem _ hq);unfold FM.fO;by_cases c:o.2.1=0
  ·rw[if_pos c];obtain⟨as,e1,h1,h2⟩:=hz o p Γ (ho o mem_cons_self) hp h c;cases z:FM.rn o.1 o.2.2 with
   |true=>
    obtain⟨aj,e2,h'⟩:=h1 z;rw[if_pos rfl,go e1 e2];exact oB hz hs ls p aj ht hp h'
   |false=>
    rw[if_neg Bool.false_ne_true];refine⟨fun _=>?_,(fun q y=>by cases y)⟩;show(gt (dX o)).bind _=_;rw[e1];show(gb (setG Γ as)).bind _=_;rw[h2 z];rfl
  ·rw[if_neg c];obtain⟨dI,as,e1,aj,e2,h'⟩:=hs o p Γ (ho o mem_cons_self) hp h c;rw[go e1 e2];exact oB hz hs ls _ aj ht dI h'
variable {ls:List FM.L1} {p:FM.En×FM.En}
theorem K6{gb rest:ay->Option Fl}{fi:ar->Option Dat}{St:FM.En×FM.En->ay->Prop}{X:FM.En×FM.En->Dat}(hf:fi (bD Γ)=some (.list (ls.map dX)))(H:(FM.fO ls p=none->forL gt gb (ls.map dX) Γ=some (.rt .none))/\∀q,FM.fO ls p=some q->Pz q/\∃aj,forL gt gb (ls.map dX) Γ=some (.nx aj)/\St q aj)(fin:∀q aj,Pz q->St q aj->rest aj=some (.rt (X q))):
  dQ (n9 gt gb fi) rest Γ=some (.rt (match FM.fO ls p with|none=>.none|some q=>X q)):=by
 have e:n9 gt gb fi Γ=forL gt gb (ls.map dX) Γ:=by
  unfold n9;rw[hf];rfl
 cases h:FM.fO ls p with
 |none=>exact Jo (e.trans (H.1 h))
 |some q=>
  obtain⟨hp,aj,e2,s⟩:=H.2 q h;rw[aE (e.trans e2)];exact fin q aj hp s
theorem zx{o:FM.L1}(hp:Pz p)(ho:pG o)(h:o.2.1≠0):SR 200 (o.2.2/o.2.1)/\Pz (FM.dg p o):=by
 have sv:SR 200 (o.2.2/o.2.1):=by
  have e:o.2.2/o.2.1=o.2.2*(((o.2.1.den:Int):Rat)/(o.2.1.num:Rat)):=by rw[By h];grind
  rw[e];have hn:o.2.1.num≠0:=fun z=>h (num_eq_zero.mp z);exact(ho.2.mul (jr (b:=62) hn (by rw[natAbs_natCast];exact ho.1.ld) ho.1.ln)).up (by decide)
 refine⟨sv,?_,?_⟩
 ·unfold FM.dg;dsimp only;split
  ·exact hp.1.lo sv
  ·exact hp.1
 ·unfold FM.dg;dsimp only;split
  ·exact hp.2.hi sv
  ·exact hp.2
abbrev Nz (F:List Dat->Option Dat):Prop:=∀ls:List FM.L1,ls.length<=100->(∀o∈ls,pG o)->F [.list (ls.map dX)]=some (fk (FM.cg ls))
theorem GW(T:TX P K mg){Fh Fc:List Dat->Option Dat}(Hv:Dn P w K mg base 44 "_law_holds" ["line","point"] 2 Fh)(hH:QN Fh)(lC:Dn P w K mg base 44 "_law_times" ["a","b"] 2 i5)(lD:Dn P w K mg base 44 "_law_low" ["n","d"] 2 dw)(F4:Dn P w K mg base 44 "_law_cut" ["range_now","number","may_be","side"] 4 Fc)(hC:R6 Fc)(qb:Dn P w K mg base 44 "_law_less" ["a","b"] 2 gJ)(U:FnAt K mg "_law_range" (top 54) ["others"]):
  ∃F,Dn P w K mg base 45 "_law_range" ["others"] 1 F/\Nz F:=by
 refine⟨_,cN ["others","told","kind","parts","bound","part","number","least","greatest"] U fun nd _ _ _ _ _ _ _ hr=>
  (ah (aF 1 nd (bf (k:=0) (a8 bg (a8 bg af))))
  (ah (gk PassesOwn.never rfl (a7 0) (dC (n:=3) rfl (aY (aJ 2 nd) (aY (aJ 3 nd) (aY (aJ 4 nd) cR))))
  (ah (aF 5 nd (ao (a7 3) ae))
  (ak (aV (cq hr (ao (a7 5) ae) ae) (ak (aV (gm (bM (aH Hv hr (a8 (bf (k:=0) (a8 (a7 2) (a8 (a7 3) (a8 (a7 4) af)))) (a8 (bf (k:=0) (a8 (bf (k:=0) (a8 ae (a8 ae af))) af (hs:=fN))) af (hs:=fN)) (hs:=fN))))) (ak (az bg)) aR)) (ah (aF 6 nd (aH lC hr (a8 (a7 4) (a8 (aH lD hr (a8 (ao (a7 5) ae) (a8 (ao (a7 5) ae) af (hs:=aW)) (hs:=aW))) af (hs:=bA)))))
  (ah (aV (cx (cF (cq hr (a7 2) aX) (cP (my (ao (a7 5) ae) ae)))) (ak (aF 1 nd (aH F4 hr (a8 (a7 1) (a8 (a7 6) (a8 (wx hr (a7 2) aX) (a8 ae af) (hs:=kT))))))) aR)
  (ak (aV (cx (cF (cq hr (a7 2) aX) (cP (jt (ao (a7 5) ae) ae)))) (ak (aF 1 nd (aH F4 hr (a8 (a7 1) (a8 (a7 6) (a8 (wx hr (a7 2) aX) (a8 ae af) (hs:=kT))))))) aR))))))))
  (ah (qH (a7 1) (dC (n:=2) rfl (aY (aJ 7 nd) (aY (aJ 8 nd) cR))))
  (ah (aV (cx (cF (cC (a7 7) bg) (cP (cC (a7 8) bg)))) (ak (az (a7 1))) aR)
  (ah (aV (cx (cF (bM (aH qb hr (a8 (ao (a7 8) ae) (a8 (ao (a7 7) ae) af (hs:=aW)) (hs:=aW)))) (cP (cx (f7 (cq hr (ao (a7 7) ae) (ao (a7 8) ae)) (eV (gm (cx (f7 (bM (ao (a7 7) ae)) (eV (bM (ao (a7 8) ae)))))))))))) (ak (az bg)) aR)
  (ak (az (a7 1)))))))),?_⟩
 intro ls hl bx;have z1:1<=sizeLine:=sz (by decide);have z2:2<=sizeLine:=sz (by decide);have z3:3<=sizeLine:=sz (by decide);have n0:(.none:Dat)=aw none:=rfl;have er:fk (FM.cg ls)=match FM.fO ls (none,none)with|none=>.none|some q=>fk (if FM.gone q=true then none else some q):=by
  unfold FM.cg;cases FM.fO ls (none,none)<;>rfl
 rw[er];refine c8 ?_;simp!;generalize Tv:Dat.list (ls.map dX)=gQ;rw[aE (aj:=[some (.a9 (gQ)),some (.a9 (.tuple [aw none,aw none])),none,none,none,none,none,none,none]) (by simp![z2,n0])];refine K6 (St:=fun p Γ=>∃x2 x3 x4 x5 x6 x7 x8,Γ=[some (.a9 (gQ)),some (.a9 (.tuple [aw p.1,aw p.2])),x2,x3,x4,x5,x6,x7,x8]) (X:=fun q=>fk (if FM.gone q=true then none else some q)) (by rw[Tv];rfl) (oB ?_ ?_ ls (none,none) _ bx ⟨fun _ _ e=>(by cases e),fun _ _ e=>(by cases e)⟩ ⟨_,_,_,_,_,_,_,rfl⟩) ?_
 ·rintro⟨k,a,b⟩ p Γ ho hp ⟨x2,x3,x4,x5,x6,x7,x8,rfl⟩ h0;cases(show a=0 from h0);refine⟨[(2,.str (bF k)),(3,.tuple [qD 0]),(4,qD b)],rfl,?_⟩;dsimp!;have eH:=hH k b ho.2;have eo:cE (k,[0],b)=.tuple [.str (bF k),.tuple [qD 0],qD b]:=rfl;rw[eo]at eH;have i0:bB (qD 0) (.int 0)=some (.int 0):=rfl;have q0:dU (.int 0) (.int 0)=some (.bool true):=by rw[cB];rfl
  generalize Dat.tuple [aw p.1,aw p.2]=dp at *;generalize qD b=db at *;constructor
  ·intro hk;have ip:FM.rn k b=true:=hk;rw[ip]at eH;refine⟨[some (.a9 (gQ)),some (.a9 (dp)),some (.a9 (.str (bF k))),some (.a9 (.tuple [qD 0])),some (.a9 (db)),some (.a9 (qD 0)),x6,x7,x8],?_,_,_,_,_,_,_,_,rfl⟩;generalize hq:qD 0=d0 at *;have FL:(.tuple [.int 0,.int 1]:Dat)=d0:=hq;rw[aE (aj:=[some (.a9 (gQ)),some (.a9 (dp)),some (.a9 (.str (bF k))),some (.a9 (.tuple [d0])),some (.a9 (db)),some (.a9 (d0)),x6,x7,x8]) (by dsimp![show bB (.tuple [d0]) (.int 0)=some d0 from rfl])];dsimp![i0,q0,z1,z2,z3,FL,eH]
  ·intro hk;have ip:FM.rn k b=false:=hk;rw[ip]at eH;generalize hq:qD 0=d0 at *;have FL:(.tuple [.int 0,.int 1]:Dat)=d0:=hq;rw[aE (aj:=[some (.a9 (gQ)),some (.a9 (dp)),some (.a9 (.str (bF k))),some (.a9 (.tuple [d0])),some (.a9 (db)),some (.a9 (d0)),x6,x7,x8]) (by dsimp![show bB (.tuple [d0]) (.int 0)=some d0 from rfl])];dsimp![i0,q0,z1,z2,z3,FL,eH]
 ·rintro⟨k,a,b⟩ p Γ ho hp ⟨x2,x3,x4,x5,x6,x7,x8,rfl⟩ h0;have Af:a≠0:=h0;obtain⟨sv,dI⟩:=zx hp ho h0;refine⟨dI,[(2,.str (bF k)),(3,.tuple [qD a]),(4,qD b)],rfl,?_⟩;dsimp!;have hn:a.num≠0:=fun z=>Af (num_eq_zero.mp z);have i0:bB (qD a) (.int 0)=some (.int a.num):=rfl;have i1:bB (qD a) (.int 1)=some (.int (a.den:Int)):=rfl;have j0:bB (.tuple [qD a]) (.int 0)=some (qD a):=rfl;have q0:dU (.int a.num) (.int 0)=some (.bool false):=by rw[cB,decide_eq_false hn]
  have eL:dw [.int (a.den:Int),.int a.num]=some (qD a⁻¹):=by
   rw[Gk hn (lt_of_lt_of_le ho.1.ln (pow_le_pow_right (by decide) (by decide))),By Af]
  have sa:SR 62 a⁻¹:=by
   rw[<- By Af];exact jr hn (by rw[natAbs_natCast];exact ho.1.ld) ho.1.ln
  have eT:i5 [qD b,qD a⁻¹]=some (qD (b/a)):=by
   rw[qa ho.2 sa (by decide) (by decide)];congr 2
  have P4:SR 200 (b/a):=sv;have ek:dU (.str (bF k)) (.str "=")=some (.bool (decide (k=.eq))):=by cases k<;>rfl
  have en:ik (.str (bF k)) (.str "<")=some (.bool (!FM.kc k)):=by cases k<;>rfl
  have eg:xO (.int a.num) (.int 0)=some (.bool (decide (0<a))):=by
   rw[fB];congr 2
   rw[decide_eq_decide];have e:=lt_iff (a:=0) (b:=a);rw[show(0:Rat).num=0 from rfl,show(0:Rat).den=1 from rfl,zero_mul]at e;rw[e];omega
  have el:DC (.int a.num) (.int 0)=some (.bool (decide (a<0))):=by
   rw[dE];congr 2
   rw[decide_eq_decide];have e:=lt_iff (a:=a) (b:=0);rw[show(0:Rat).num=0 from rfl,show(0:Rat).den=1 from rfl,zero_mul]at e;rw[e];omega
  obtain⟨l,g⟩:=p;have c1:=(hC 200 l g (b/a) (FM.kc k) (by decide) hp.1 hp.2 P4).2;have MF:o7 200 (if k=.eq\/0<a then FM.cY g (FM.kc k) (b/a)else g):=dI.2;have c2:=(hC 200 l (if k=.eq\/0<a then FM.cY g (FM.kc k) (b/a)else g) (b/a) (FM.kc k) (by decide) hp.1 MF P4).1;refine⟨[some (.a9 (gQ)),some (.a9 (.tuple [aw (FM.dg (l,g) (k,a,b)).1,aw (FM.dg (l,g) (k,a,b)).2])),some (.a9 (.str (bF k))),some (.a9 (.tuple [qD a])),some (.a9 (qD b)),some (.a9 (qD a)),some (.a9 (qD (b/a))),x7,x8],?_,_,_,_,_,_,_,_,rfl⟩;show dQ _ _ [some (.a9 (gQ)),some (.a9 (.tuple [aw l,aw g])),some (.a9 (.str (bF k))),some (.a9 (.tuple [qD a])),some (.a9 (qD b)),x5,x6,x7,x8]=_;generalize TL:Dat.tuple [aw l,aw g]=dp at *;generalize hq9:Dat.tuple [qD a]=IQ at *;generalize qD a⁻¹=dia at *;generalize qD (b/a)=N4 at *;generalize qD a=da at *;generalize qD b=db at *;rw[aE (aj:=[some (.a9 (gQ)),some (.a9 (dp)),some (.a9 (.str (bF k))),some (.a9 (IQ)),some (.a9 (db)),some (.a9 (da)),x6,x7,x8]) (by dsimp![j0])];rw[pP (by dsimp![i0,q0])];rw[aE (aj:=[some (.a9 (gQ)),some (.a9 (dp)),some (.a9 (.str (bF k))),some (.a9 (IQ)),some (.a9 (db)),some (.a9 (da)),some (.a9 (N4)),x7,x8]) (by dsimp![i0,i1,eL,eT])];rw[aE (aj:=[some (.a9 (gQ)),some (.a9 (.tuple [aw l,aw (if k=.eq\/0<a then FM.cY g (FM.kc k) (b/a)else g)])),some (.a9 (.str (bF k))),some (.a9 (IQ)),some (.a9 (db)),some (.a9 (da)),some (.a9 (N4)),x7,x8]) (by
   by_cases d1:k=.eq
   ·rw[decide_eq_true d1]at ek;rw[if_pos (.inl d1)];generalize Dat.tuple [aw l,aw (FM.cY g (FM.kc k) (b/a))]=dr at *;dsimp![ek,en,c1]
   ·rw[decide_eq_false d1]at ek;by_cases d2:0<a
    ·rw[decide_eq_true d2]at eg;rw[if_pos (.inr d2)];generalize Dat.tuple [aw l,aw (FM.cY g (FM.kc k) (b/a))]=dr at *;dsimp![ek,i0,eg,en,c1]
    ·rw[decide_eq_false d2]at eg;rw[if_neg (fun z=>z.elim (fun z=>d1 z) fun z=>d2 z),TL];dsimp![ek,i0,eg])]
  have es:(FM.dg (l,g) (k,a,b))=(if k=.eq\/a<0 then FM.ee l (FM.kc k) (b/a)else l,if k=.eq\/0<a then FM.cY g (FM.kc k) (b/a)else g):=rfl;rw[es];generalize (if k=.eq\/0<a then FM.cY g (FM.kc k) (b/a)else g)=g2 at *;show _=some (Fl.nx [some (.a9 (gQ)),some (.a9 (.tuple [aw (if k=.eq\/a<0 then FM.ee l (FM.kc k) (b/a)else l),aw g2])),some (.a9 (.str (bF k))),some (.a9 (IQ)),some (.a9 (db)),some (.a9 (da)),some (.a9 (N4)),x7,x8]);by_cases d1:k=.eq
  ·rw[decide_eq_true d1]at ek;rw[if_pos (.inl d1)];generalize Dat.tuple [aw (FM.ee l (FM.kc k) (b/a)),aw g2]=dr at *;generalize Dat.tuple [aw l,aw g2]=Qg at *;dsimp![ek,en,c2]
  ·rw[decide_eq_false d1]at ek;by_cases d2:a<0
   ·rw[decide_eq_true d2]at el;rw[if_pos (.inr d2)];generalize Dat.tuple [aw (FM.ee l (FM.kc k) (b/a)),aw g2]=dr at *;generalize Dat.tuple [aw l,aw g2]=Qg at *;dsimp![ek,i0,el,en,c2]
   ·rw[decide_eq_false d2]at el;rw[if_neg (fun z=>z.elim (fun z=>d1 z) fun z=>d2 z)];generalize Dat.tuple [aw l,aw g2]=Qg at *;dsimp![ek,i0,el]
 ·rintro q Γ hp ⟨x2,x3,x4,x5,x6,x7,x8,rfl⟩;obtain⟨l,g⟩:=q;have j0:∀x y,bB (.tuple [aw x,aw y]) (.int 0)=some (aw x):=fun _ _=>rfl;rw[aE (aj:=[some (.a9 (gQ)),some (.a9 (.tuple [aw l,aw g])),x2,x3,x4,x5,x6,some (.a9 (aw l)),some (.a9 (aw g))]) (by simp![])];match l,g with
  |none,g=>
   have e:fk (if FM.gone (none,g)=true then none else some (none,g))=.tuple [aw none,aw g]:=rfl;rw[e];generalize Dat.tuple [aw none,aw g]=dr at *;dsimp![mL]
  |some (s,v),none=>
   have e:fk (if FM.gone (some (s,v),none)=true then none else some (some (s,v),none))=.tuple [aw (some (s,v)),aw none]:=rfl;have hi:=lg s v;rw[e];generalize Dat.tuple [aw (some (s,v)),aw none]=dr at *;generalize aw (some (s,v))=d1 at *;dsimp![mL,hi]
  |some (s,v),some (s',v')=>
   have hi:=lg s v;have fS:=lg s' v';have a0:bB (aw (some (s,v))) (.int 0)=some (qD v):=rfl;have b0:bB (aw (some (s',v'))) (.int 0)=some (qD v'):=rfl;have a1:bB (aw (some (s,v))) (.int 1)=some (.bool (!s)):=rfl;have b1:bB (aw (some (s',v'))) (.int 1)=some (.bool (!s')):=rfl;have bV:=mV (hp.2 s' v' rfl) (hp.1 s v rfl) (by decide) (by decide);have heq:=sF v v';have eg:FM.gone (some (s,v),some (s',v'))=(decide (v'<v) || (decide (v=v')&&(s || s'))):=rfl;rw[eg];have er:fk (some (some (s,v),some (s',v')))=.tuple [aw (some (s,v)),aw (some (s',v'))]:=rfl;have en:fk none=.none:=rfl;rw[aE (aj:=[some (.a9 (gQ)),some (.a9 (.tuple [aw (some (s,v)),aw (some (s',v'))])),x2,x3,x4,x5,x6,some (.a9 (aw (some (s,v)))),some (.a9 (aw (some (s',v'))))]) (by
    generalize Dat.tuple [aw (some (s,v)),aw (some (s',v'))]=dr at *;generalize aw (some (s,v))=d1 at *;generalize aw (some (s',v'))=d2 at *;dsimp![hi,fS])]
   generalize Dat.tuple [aw (some (s,v)),aw (some (s',v'))]=dr at *;generalize aw (some (s,v))=d1 at *;generalize aw (some (s',v'))=d2 at *;generalize qD v=dv at *;generalize qD v'=dv' at *;by_cases c1:v'<v
   ·rw[decide_eq_true c1]at bV ⊢;rw[Bool.true_or,if_pos rfl,en];dsimp![a0,b0,bV]
   ·rw[decide_eq_false c1]at bV ⊢;rw[Bool.false_or];by_cases c2:v=v'
    ·rw[decide_eq_true c2]at heq ⊢;rw[Bool.true_and];cases s with
     |true=>
      rw[Bool.true_or,if_pos rfl,en];dsimp![a0,b0,bV,heq,a1]
     |false=>
      rw[Bool.false_or];cases s' with
      |true=>
       rw[if_pos rfl,en];dsimp![a0,b0,bV,heq,a1,b1]
      |false=>
       rw[if_neg Bool.false_ne_true,er];dsimp![a0,b0,bV,heq,a1,b1]
    ·rw[decide_eq_false c2]at heq ⊢;rw[Bool.false_and,if_neg Bool.false_ne_true,er];dsimp![a0,b0,bV,heq]
def jz (c:Rat) (r:Option (FM.En×FM.En)):Dat:=match r with
 |none=>.tuple [.str "any"]
 |some p=>match (if c=0 then some (false,0)else if 0<c then FM.scale c p.2 else FM.scale c p.1:FM.En)with
  |none=>.tuple [.str "none"]
  |some (s,v)=>.tuple [.str "at",.str (gB s),qD v]
abbrev QQ (F:List Dat->Option Dat):Prop:=∀(c:Rat) (r:Option (FM.En×FM.En)),SR 62 c->(∀p,r=some p->Pz p)->F [qD c,fk r]=some (jz c r)
theorem OP(T:TX P K mg)(lC:Dn P w K mg base 42 "_law_times" ["a","b"] 2 i5)(U:FnAt K mg "_law_due" (top 57) ["part","told"]):
  ∃F,Dn P w K mg base 43 "_law_due" ["part","told"] 2 F/\QQ F:=by
 refine⟨_,cN ["part","told","end"] U fun nd _ _ _ _ _ _ _ hr=>
  (ah (aV (cC (a7 1) bg) (ak (az (bf (k:=0) (a8 aX af)))) aR)
  (ah (aV (cq hr (ao (a7 0) ae) ae) (ak (az (bf (k:=0) (a8 aX (a8 aX (a8 (bf (k:=0) (a8 ae (a8 ae af))) af (hs:=fN))))))) aR)
  (ah (aF 2 nd (ao (a7 1) (wz T.int (a8 (Lz (ao (a7 0) ae) ae) af (hs:=kT)))))
  (ah (aV (cC (a7 2) bg) (ak (az (bf (k:=0) (a8 aX af)))) aR)
  (ak (az (bf (k:=0) (a8 aX (a8 (ao (mC (a8 aX (a8 aX af))) (wz T.int (a8 (ao (a7 2) ae) af (hs:=aW)))) (a8 (aH lC hr (a8 (a7 0) (a8 (ao (a7 2) ae) af (hs:=aW)))) af (hs:=bA)) (hs:=aW)))))))))),?_⟩
 intro c r hc hr;have z1:1<=sizeLine:=sz (by decide);have z2:2<=sizeLine:=sz (by decide);have z3:3<=sizeLine:=sz (by decide);have i0:bB (qD c) (.int 0)=some (.int c.num):=rfl;match r with
 |none=>
  have e:fk none=.none:=rfl;have e2:jz c none=.tuple [.str "any"]:=rfl;rw[e,e2];generalize qD c=dc at *;dsimp![nF,z1]
 |some (l,g)=>
  obtain⟨hl,hg⟩:=hr _ rfl;have e:fk (some (l,g))=.tuple [aw l,aw g]:=rfl;have hn:=xh l g;rw[e];refine c8 ?_;simp!;rw[aE (aj:=[some (.a9 (qD c)),some (.a9 (.tuple [aw l,aw g])),none]) (by
   generalize qD c=dc at *;generalize Dat.tuple [aw l,aw g]=dr at *;dsimp![hn])]
  by_cases c0:c=0
  ·have e2:jz c (some (l,g))=.tuple [.str "at",.str "<=",qD 0]:=by
    unfold jz;dsimp only;rw[if_pos c0];rfl
   have q0:dU (.int c.num) (.int 0)=some (.bool true):=by rw[cB,decide_eq_true (by rw[c0];rfl)]
   rw[e2];generalize qD c=dc at *;generalize Dat.tuple [aw l,aw g]=dr at *;dsimp![i0,q0,z2,z3,Pd]
  ·have E8:c.num≠0:=fun z=>c0 (num_eq_zero.mp z);have q0:dU (.int c.num) (.int 0)=some (.bool false):=by rw[cB,decide_eq_false E8]
   rw[aE (aj:=[some (.a9 (qD c)),some (.a9 (.tuple [aw l,aw g])),none]) (by
    generalize qD c=dc at *;generalize Dat.tuple [aw l,aw g]=dr at *;dsimp![i0,q0])]
   have eg:xO (.int c.num) (.int 0)=some (.bool (decide (0<c))):=by
    rw[fB];congr 2
    rw[decide_eq_decide];have e:=lt_iff (a:=0) (b:=c);rw[show(0:Rat).num=0 from rfl,show(0:Rat).den=1 from rfl,zero_mul]at e;rw[e];omega
   obtain⟨en,qr,Tt,hd⟩:∃en:FM.En,bB (.tuple [aw l,aw g]) (.int (if 0<c then 1 else 0))=some (aw en)/\o7 200 en/\jz c (some (l,g))=match FM.scale c en with|none=>.tuple [.str "none"]|some (s,v)=>.tuple [.str "at",.str (gB s),qD v]:=by
    by_cases cp:0<c
    ·exact⟨g,by rw[if_pos cp];rfl,hg,by unfold jz;dsimp only;rw[if_neg c0,if_pos cp]⟩
    ·exact⟨l,by rw[if_neg cp];rfl,hl,by unfold jz;dsimp only;rw[if_neg c0,if_neg cp]⟩
   rw[hd];have eI:intD [.bool (decide (0<c))]=some (.int (if 0<c then 1 else 0)):=by
    by_cases cp:0<c
    ·rw[decide_eq_true cp,if_pos cp];rfl
    ·rw[decide_eq_false cp,if_neg cp];rfl
   generalize (if 0<c then(1:Int)else 0)=ix at *;rw[aE (aj:=[some (.a9 (qD c)),some (.a9 (.tuple [aw l,aw g])),some (.a9 (aw en))]) (by
    generalize qD c=dc at *;generalize Dat.tuple [aw l,aw g]=dr at *;dsimp![i0,eg,eI,qr])]
   match en with
   |none=>
    show _=some (Fl.rt (.tuple [.str "none"]));generalize qD c=dc at *;generalize Dat.tuple [aw l,aw g]=dr at *;dsimp![mL,z1]
   |some (s,v)=>
    show _=some (Fl.rt (.tuple [.str "at",.str (gB s),qD (c*v)]));have hi:=lg s v;have a0:bB (aw (some (s,v))) (.int 0)=some (qD v):=rfl;have a1:bB (aw (some (s,v))) (.int 1)=some (.bool (!s)):=rfl;have eT:=qa hc (Tt s v rfl) (by decide) (by decide);have Uz:intD [.bool (!s)]=some (.int (if s=true then 0 else 1)):=by cases s<;>rfl
    have eS:bB (.list [.str "<",.str "<="]) (.int (if s=true then 0 else 1))=some (.str (gB s)):=by cases s<;>rfl
    generalize qD c=dc at *;generalize qD v=dv at *;generalize qD (c*v)=dcv at *;generalize Dat.tuple [aw l,aw g]=dr at *;generalize aw (some (s,v))=d1 at *;dsimp![hi,a0,a1,Uz,eS,eT,z2,z3]
theorem DF{a:Rat}(hl:ls.length<=8)(bx:∀o∈ls,pG o)(ha:SR 62 a):yB 100 200 [a] (ls.map FM.i6):=by
 refine⟨by decide,by decide,by decide,by show 1<=50;decide,by rw[length_map];omega,by show FM.bt (100+200) 1<=1900000;decide,?_,fun q hq=>?_,?_,fun o ho=>?_⟩
 ·rw[length_map];have h:∀k,k<=8->FM.cb (k+1) 1<1000:=by decide
  exact lt_trans (h _ hl) (iK (le_refl _))
 ·rw[mem_singleton.mp hq];exact ha.up (by decide)
 ·show a.den*1<2^200;rw[mul_one];exact lt_of_lt_of_le ha.ld (pow_le_pow_right (by decide) (by decide))
 ·obtain⟨q,hq,rfl⟩:=mem_map.mp ho;obtain⟨h1,h2⟩:=bx q hq;refine⟨rfl,fun x hx=>?_,h2.up (by decide),?_⟩
  ·rw[mem_singleton.mp hx];exact h1.up (by decide)
  ·show q.2.1.den*1*q.2.2.den<2^200;rw[mul_one];exact lt_of_lt_of_le (Nat.mul_lt_mul'' h1.ld h2.ld) (by rw[<- pow_add];exact pow_le_pow_right (by decide) (by decide))
theorem HC:FM.bZ 1 0=[1]:=rfl
theorem P8:zC [1] (ls.map FM.i6)=FM.cg ls:=by
 unfold zC;cases hr:FM.cg ls with
 |none=>
  cases hn:FM.never [(1:Rat)].length (FM.aD [1] (ls.map FM.i6))with
  |some _=>rfl
  |none=>exact absurd hr (FM.mJ.mp hn)
 |some p=>
  have hn:=(FM.mJ (ls:=ls) (a:=1)).mpr (by rw[hr];simp);obtain⟨e1,e2⟩:=FM.OK hr;rw[hn,e1,e2]
theorem S9(c:Rat):Bo [c] (ls.map FM.i6)=jz c (FM.cg ls):=by
 unfold Bo;cases hr:FM.cg ls with
 |none=>
  cases hn:FM.never [c].length (FM.aD [c] (ls.map FM.i6))with
  |some _=>rfl
  |none=>exact absurd hr (FM.mJ.mp hn)
 |some p=>
  have hn:=(FM.mJ (ls:=ls) (a:=c)).mpr (by rw[hr];simp);rw[hn,FM.Ra hr c];unfold jz;rfl
theorem tw:∀{ls:List FM.L1} {p q:FM.En×FM.En},(∀o∈ls,pG o)->Pz p->FM.fO ls p=some q->Pz q
 |[],p,q,_,hp,h=>by cases h;exact hp
 |o::ls,p,q,ho,hp,h=>by
  have ht:∀q∈ls,pG q:=fun q hq=>ho q (mem_cons_of_mem _ hq);unfold FM.fO at h;split at h
  ·split at h
   ·exact tw ht hp h
   ·cases h
  ·rename_i c;exact tw ht (zx hp (ho o mem_cons_self) c).2 h
theorem CT(bx:∀o∈ls,pG o)(h:FM.cg ls=some p):Pz p:=by
 unfold FM.cg at h;cases e:FM.fO ls (none,none)with
 |none=>rw[e]at h;cases h
 |some q=>
  rw[e,Option.bind_some]at h;split at h
  ·cases h
  ·cases h;exact tw bx ⟨fun _ _ e=>(by cases e),fun _ _ e=>(by cases e)⟩ e
theorem He(n:Nat)(q:Rat):Al (n+2) (qD q):=⟨by show 2<=1000;decide,fun d hd=>by
 rcases mem_cons.mp hd with e|hd
 ·rw[e];exact trivial
 ·rw[mem_singleton.mp hd];exact trivial⟩
theorem IW(n:Nat)(g:FM.En):Al (n+3) (aw g):=by
 match g with
 |none=>exact trivial
 |some (s,v)=>exact⟨by show 2<=1000;decide,fun d hd=>by
   rcases mem_cons.mp hd with e|hd
   ·rw[e];exact He n v
   ·rw[mem_singleton.mp hd];exact trivial⟩
theorem OS(r:Option (FM.En×FM.En)):Al 5 (fk r):=by
 match r with
 |none=>exact trivial
 |some (l,g)=>exact⟨by show 2<=1000;decide,fun d hd=>by
   rcases mem_cons.mp hd with e|hd
   ·rw[e];exact IW 1 l
   ·rw[mem_singleton.mp hd];exact IW 1 g⟩
theorem Hf(r:Option (FM.En×FM.En)):Al 5 (fc r):=by
 match r with
 |none=>exact trivial
 |some (none,g)=>exact trivial
 |some (some (s,v),g)=>
  show Al 5 (if g=some (s,v)then qD v else .none);split
  ·exact He 3 v
  ·exact trivial
theorem Np(c:Rat)(r:Option (FM.En×FM.En)):Al 5 (jz c r):=by
 unfold jz;split
 ·exact⟨by show 1<=1000;decide,fun d hd=>by rw[mem_singleton.mp hd];exact trivial⟩
 ·split
  ·exact⟨by show 1<=1000;decide,fun d hd=>by rw[mem_singleton.mp hd];exact trivial⟩
  ·rename_i s v _;exact⟨by show 3<=1000;decide,fun d hd=>by
    rcases mem_cons.mp hd with e|hd
    ·rw[e];exact trivial
    ·rcases mem_cons.mp hd with e|hd
     ·rw[e];exact trivial
     ·rw[mem_singleton.mp hd];exact He 2 _⟩
theorem Mi(k:FM.Kn):PyData.strOk (bF k)=true:=by cases k<;>decide +kernel
theorem Oq(o:FM.L1):kqdOk 8 (dX o)=true:=by
 show(PyData.strOk (bF o.1)&&_)=true;rw[Mi];rfl
theorem JV(ls:List FM.L1):tI (.list (ls.map dX)) (.list (ls.map dX))=some (.bool false):=by
 have h:kqdOk 9 (.list (ls.map dX))=true:=by
  show(ls.map dX).all (kqdOk 8)=true;rw[all_map,all_eq_true];exact fun x _=>Oq x
 unfold tI;rw[Ka h h,mS rfl];rfl
def Ck:List Dat->Option Dat:=open Classical in fun ds=>if ∃ns:List Int,ds=[.list (ns.map .int)]/\ns.length<=63 then some (.bool true)else none
variable {I:ay->Prop}
theorem jT(h:g1 Γ=some (.nx Γ1))(h2:∃aj,g2 Γ1=some (.nx aj)/\I aj):∃aj,dQ g1 g2 Γ=some (.nx aj)/\I aj:=by
 obtain⟨aj,e,i⟩:=h2;exact⟨aj,by rw[aE h];exact e,i⟩
theorem xV{k:Nat}{gb:ay->Option Fl}{I:ay->Prop}(st:∀(r:R) (Γ:ay),I Γ->∃aj,gb (Γ.set k (some (.own (rD r))))=some (.nx aj)/\I aj):∀(rs:List R) (Γ:ay),I Γ->∃aj,tO k gb (rs.map fun r=>[r.1,r.2]) Γ=some (.nx aj)/\I aj
 |[],Γ,h=>⟨Γ,rfl,h⟩
 |r::rs,Γ,h=>by
  obtain⟨Γ1,e1,h1⟩:=st r Γ h;obtain⟨rh,e2,h2⟩:=xV st rs Γ1 h1;refine⟨rh,?_,h2⟩;show(gb (Γ.set k (some (.own (rD r))))).bind _=_;rw[e1];exact e2
theorem K7{gb:ay->Option Fl}{fp:ar->Option (List (List Int))}{rs:List R}(h:fp (bD Γ)=some (rs.map fun r=>[r.1,r.2]))(hI:I Γ)(st:∀(r:R) (Γ:ay),I Γ->∃aj,gb (Γ.set k (some (.own (rD r))))=some (.nx aj)/\I aj):∃aj,vz k gb fp Γ=some (.nx aj)/\I aj:=by
 unfold vz;rw[h,Option.bind_some];exact xV st rs Γ hI
theorem AA{gt:Dat->Option cH}{fe:HF}{tl:ay}{β:Type}(enc:β->Dat)(Pp:β->Prop):∀(aq:List Dat),(∀d∈aq,∀r:R,∃as,gt d=some as/\∃(x:β) (r':R) (OZ:ay),fe (setG (some (.own (rD r))::tl) as)=some (enc x,some (.own (rD r'))::OZ)/\Pp x)->
  ∀r:R,∃(xs:List β) (r':R),q9 gt fe tl aq (rD r)=some (xs.map enc,rD r')/\xs.length=aq.length/\∀x∈xs,Pp x
 |[],_,r=>⟨[],r,rfl,rfl,fun x hx=>by simp at hx⟩
 |d::aq,st,r=>by
  obtain⟨as,e1,x,r1,OZ,e2,px⟩:=st d mem_cons_self r;obtain⟨xs,r2,e3,hl,hp⟩:=AA enc Pp aq (fun d hd=>st d (mem_cons_of_mem _ hd)) r1;refine⟨x::xs,r2,?_,by rw[length_cons,length_cons,hl],fun y hy=>?_⟩
  ·show(gt d).bind _=_;rw[e1];show(fe (setG (some (.own (rD r))::tl) as)).bind _=_;rw[e2];show((q9 gt fe tl aq (rD r1)).map _)=_;rw[e3];rfl
  ·rcases mem_cons.mp hy with e|h
   ·rw[e];exact px
   ·exact hp y h
theorem Ed{gy:List (Option Nat)}{fe:HF}{hI:ay->Option (List Dat×ay)}{aq dZ:List Dat}(hf:hI Γ=some (aq,Γ1))(h0:Γ1[i]?=some (some (.own ds)))(hl:aq.length<sizeLine)(hc:q9 gt fe (nH (de gy (bD Γ1))) aq ds=some (out,dZ)):sA i gy gt fe hI Γ=some (out,Γ1.set i (some (.own dZ))):=by
 unfold sA;rw[hf,Option.bind_some];show(match (Γ1[i]? : Option (Option Slot))with|some (some (.own ds))=>_|_=>_)=_
 rw[h0];show(if aq.length<sizeLine then _ else none)=_;rw[if_pos hl,hc];rfl
theorem Fv{f:ay->Option (List Dat×ay)}(h:f Γ=some (out,Γ1)):w6 j f Γ=some (.nx (Γ1.set j (some (.a9 (.list out))))):=by
 unfold w6;rw[h];rfl
theorem K3{rg:List Dat->Option (List Dat)}{hs:ay->Option (List Dat×ay)}{aj:ay}{as aq:List Dat}(h:hs Γ=some (as,aj))(h2:rg as=some aq):GD rg hs Γ=some (aq,aj):=by
 unfold GD;rw[h];show(rg as).map _=_;rw[h2];rfl
theorem SX{t:Int}(h:0<=t/\t<8):∃n:Nat,bB (.list [.int 0,.int 1,.int 2,.int 2,.int 3,.int 4,.int 6,.int 8]) (.int t)=some (.int (n:Int))/\n<=8:=by
 rcases(show t=0\/t=1\/t=2\/t=3\/t=4\/t=5\/t=6\/t=7 by omega)with e|e|e|e|e|e|e|e<;>subst e
 ·exact⟨0,rfl,by decide⟩
 ·exact⟨1,rfl,by decide⟩
 ·exact⟨2,rfl,by decide⟩
 ·exact⟨2,rfl,by decide⟩
 ·exact⟨3,rfl,by decide⟩
 ·exact⟨4,rfl,by decide⟩
 ·exact⟨6,rfl,by decide⟩
 ·exact⟨8,rfl,by decide⟩
theorem Uk{aj:ay}(h:g Γ=some (.nx aj))(hI:I aj):∃aj,g Γ=some (.nx aj)/\I aj:=⟨aj,h,hI⟩
variable {f:Addr} {fd:FuncData}
theorem ON(T:TX P K mg){Fx J5 Fm:List Dat->List Dat->Option (Dat×List Dat)}{Fp:List Dat->Option (List (List Int))}{Fa NJ Fn:List Dat->Option Dat}(KL:sY P w K mg base 52 "_law_pots" ["script"] 1 Fp)(hP:Qq Fp)(ef:iU P w K mg base 52 "_law_next" ["pot","many"] 2 Fx)(hX:EZ Fx)(KN:iU P w K mg base 52 "_law_line" ["pot"] 1 J5)(hL:QC J5)(jY:iU P w K mg base 52 "_law_number" ["pot"] 1 Fm)(hM:AK 20 Fm)(Hu:Dn P w K mg base 52 "_law_range" ["others"] 1 Fr)(hR:Nz Fr)(lE:Dn P w K mg base 52 "_law_alike" ["told","due"] 2 Fa)(hA:R9 5 Fa)(pI:Dn P w K mg base 52 "range_of" ["place","many","others"] 3 NJ)(IE:Ny NJ)(Hr:Dn P w K mg base 52 "what_is" ["place","many","others"] 3 Fw)(hW:Nr Fw)(Hs:Dn P w K mg base 52 "nearest" ["parts","others"] 2 Fn)(hN:Qw Fn)(NM:Dn P w K mg base 52 "_law_due" ["part","told"] 2 Fd)(hD:QQ Fd)(U:lT K "law" "law" (top 58) f fd):
  fQ P w K mg base gj 53 f fd ["script"] (CB K 1 Ck):=by
 have nd:(["script","pot","others","part","told","handed","alone"]:List Str).Nodup:=by decide +kernel
 refine LA U (N:=["script","pot","others","part","told","handed","alone"]) ⟨rfl,rfl,rfl,by decide +kernel,rfl,by decide +kernel,by decide +kernel⟩ rfl (fun ba A outer s H E hr=>
  (ah (CV 1 nd PassesOwn.never rfl (FK KL hr (a8 (a7 0) af))
  (ah (B6 2 1 nd rfl (Ha (tn:=["k"]) (fv:=["pot"]) (js:=[1]) rfl (by decide +kernel) (by decide +kernel) rfl (by decide +kernel) (by decide +kernel) rfl
   (fun x hx=>by((have gC:x="pot":=(by simpa using hx));(rcases gC with rfl<;>exact⟨_,rfl⟩)))
   (fun p hp=>by((have fo:p=(("pot" : Str),(1:Nat)):=(by simpa using hp));(rcases fo with rfl<;>exact⟨rfl,.inr (.inl rfl),.inl rfl,fun z=>by cases z⟩)))) (yI T.range (bG (D0 (bp (mC (a8 ae (a8 ae (a8 ae (a8 ae (a8 ae (a8 ae (a8 ae (a8 ae af)))))))))) (d5 1 ef hr (bG (bp ae) bT))) bT (hst:=aW))) (fun _ _ _ _=>(aJ 1 (show(["pot","k"]:List Str).Nodup by decide +kernel))) (fun _ _ _ _=>(d5 0 KN hr bT)) (fz rfl))
  (ah (lH 3 nd (d5 1 jY hr bT))
  (ah (aF 4 nd (aH Hu hr (a8 (a7 2) af)))
  (ah (aF 5 nd (dD (uz T.list (a8 (a7 2) af))))
  (ah (aV (cx (cF (gm (bM (aH lE hr (a8 (aH pI hr (a8 ae (a8 ae (a8 (a7 5) af)))) (a8 (a7 4) af) (hs:=bA))))) (cP (nh hr (a7 5) (a7 2))))) (ak (az iY)) aR)
  (ah (aF 6 nd bg)
  (ah (aV (cx (f7 (lJ (a7 4) bg) (f7 (lJ (ao (a7 4) ae) bg) (eV (FI hr (ao (a7 4) ae) (ao (a7 4) ae)))))) (ak (aF 6 nd (ao (ao (a7 4) ae) ae))) aR)
  (ah (aV (cx (cF (gm (bM (aH lE hr (a8 (aH Hr hr (a8 ae (a8 ae (a8 (a7 5) af)))) (a8 (a7 6) af) (hs:=bA))))) (cP (nh hr (a7 5) (a7 2))))) (ak (az iY)) aR)
  (ak (aV (cx (cF (gm (bM (aH lE hr (a8 (aH Hs hr (a8 (bf (k:=0) (a8 (a7 3) af)) (a8 (a7 5) af) (hs:=fN))) (a8 (aH NM hr (a8 (a7 3) (a8 (a7 4) af))) af (hs:=bA)) (hs:=bA))))) (cP (nh hr (a7 5) (a7 2))))) (ak (az iY)) aR)))))))))))
  (ak (az iY)))) ?_
 intro ds d hl IG;unfold Ck at IG;split at IG
 ·rename_i h;obtain⟨ns,rfl,Ui⟩:=h;cases IG;have z1:1<=sizeLine:=sz (by decide);have z8:8<=sizeLine:=sz (by decide);refine c8 ?_;simp!;obtain⟨rs,eP⟩:=hP ns Ui;have Ux:BO 1 Fp (bj (aT 0) cz) (bD [some (.a9 (.list (ns.map .int))),none,none,none,none,none,none])=some (rs.map fun r=>[r.1,r.2]):=eP;generalize Dat.list (ns.map .int)=pv at *;refine iW (I:=fun Γ=>∃x1 x2 x3 x4 x5 x6,Γ=[some (.a9 (pv)),x1,x2,x3,x4,x5,x6]) (K7 Ux ⟨_,_,_,_,_,_,rfl⟩ ?_) ?_
  ·rintro r0 Γ ⟨x1,x2,x3,x4,x5,x6,rfl⟩;simp only[set_cons_succ,set_cons_zero];obtain⟨t8,r1,e8,b8⟩:=hX r0 8 (by decide) (by decide);have UA:Fx [.int r0.1,.int r0.2] [.int 8]=some (.int t8,rD r1):=e8;obtain⟨n,en,hn⟩:=SX b8;have eR:kY [.int (n:Int)]=some (iF 0 n):=B4 n (by omega);have zn:n<sizeLine:=lt_of_lt_of_le (show n<1000 by omega) (sz (by decide));obtain⟨os,r2,ec,ol,lj⟩:=AA (gt:=aName 1) (fe:=xM 0 1 J5 BH) (tl:=[none]) dX pG (iF 0 n) (fun d _ r=>by
    obtain⟨o,r',e,a,ea,s1,s2⟩:=hL r;obtain⟨k,ps,b⟩:=o;simp only at ea s2;subst ea;have e':J5 [.int r.1,.int r.2] []=some (dX (k,a,b),rD r'):=e;refine⟨[(1,d)],rfl,(k,a,b),r',[some (.a9 d)],?_,s1,s2⟩;simp![e']) r1
   rw[kG]at ol;refine jT (Γ1:=[some (.a9 (pv)),some (.own (rD r2)),some (.a9 (.list (os.map dX))),x3,x4,x5,x6]) (Fv (Ed (K3 (aj:=[some (.a9 (pv)),some (.own (rD r1)),x2,x3,x4,x5,x6]) (by dsimp![UA,en,z8]) eR) rfl (by rw[kG];exact zn) ec)) ?_;obtain⟨c,r3,eM,sc⟩:=hM r2;have Uy:Fm [.int r2.1,.int r2.2] []=some (qD c,rD r3):=eM;have Li:SR 62 c:=sc.up (by decide);have hO:os.map dX=(os.map FM.i6).map cE:=by rw[map_map];rfl
   have Uw:=hR os (by omega) lj;have T9:∀p,FM.cg os=some p->Pz p:=fun p hp=>CT lj hp;have K1:yB 100 200 (FM.bZ 1 0) (os.map FM.i6):=DF (a:=1) (by omega) lj (CA (by decide));have MX:=IE 100 200 0 1 (os.map FM.i6) (by decide) K1;have eW:=hW 100 200 0 1 (os.map FM.i6) (by decide) K1;have eN:=hN 100 200 [c] (os.map FM.i6) (DF (by omega) lj Li);have eD:=hD c (FM.cg os) Li T9;rw[HS,HC,P8]at MX;rw[HC,P8]at eW;rw[S9]at eN;rw[<- hO]at MX eW eN;have S8:NJ [.int 0,.int 1,.list (os.map dX)]=some (fk (FM.cg os)):=MX;have Uv:Fw [.int 0,.int 1,.list (os.map dX)]=some (fc (FM.cg os)):=eW;have qw:Fn [.tuple [qD c],.list (os.map dX)]=some (jz c (FM.cg os)):=eN;have bQ:=JV os;have a1:=hA _ (OS (FM.cg os));have a2:=hA _ (Hf (FM.cg os));have a3:=hA _ (Np c (FM.cg os));have li:vD [.list (os.map dX)]=some (os.map dX):=rfl;refine jT (Γ1:=[some (.a9 (pv)),some (.own (rD r3)),some (.a9 (.list (os.map dX))),some (.a9 (qD c)),x4,x5,x6]) (by simp![Uy]) ?_;generalize FM.cg os=rg at *;generalize qD c=dc at *;refine jT (Γ1:=[some (.a9 (pv)),some (.own (rD r3)),some (.a9 (.list (os.map dX))),some (.a9 (dc)),some (.a9 (fk rg)),x5,x6]) (by simp![Uw]) ?_;refine jT (Γ1:=[some (.a9 (pv)),some (.own (rD r3)),some (.a9 (.list (os.map dX))),some (.a9 (dc)),some (.a9 (fk rg)),some (.a9 (.list (os.map dX))),x6]) (by simp![li]) ?_;generalize Dat.list (os.map dX)=gQ at *;refine jT (Γ1:=[some (.a9 (pv)),some (.own (rD r3)),some (.a9 (gQ)),some (.a9 (dc)),some (.a9 (fk rg)),some (.a9 (gQ)),x6]) (by dsimp![S8,a1,bQ]) ?_;refine jT (Γ1:=[some (.a9 (pv)),some (.own (rD r3)),some (.a9 (gQ)),some (.a9 (dc)),some (.a9 (fk rg)),some (.a9 (gQ)),some (.a9 (.none))]) (by dsimp![]) ?_;refine jT (Γ1:=[some (.a9 (pv)),some (.own (rD r3)),some (.a9 (gQ)),some (.a9 (dc)),some (.a9 (fk rg)),some (.a9 (gQ)),some (.a9 (fc rg))]) ?_ ?_
   ·match rg with
    |none=>
     have e:fk none=.none:=rfl;have e2:fc none=.none:=rfl;have i1:lK .none .none=some (.bool false):=rfl;rw[e,e2];dsimp![i1]
    |some (none,g)=>
     have e:fk (some (none,g))=.tuple [aw none,aw g]:=rfl;have e2:fc (some (none,g))=.none:=rfl;have b0:bB (.tuple [aw none,aw g]) (.int 0)=some (aw none):=rfl;have i1:lK (.tuple [aw none,aw g]) .none=some (.bool true):=rfl;have i2:lK (aw none) .none=some (.bool false):=rfl;rw[e,e2];generalize Dat.tuple [aw none,aw g]=d0 at *;dsimp![i1,b0,i2]
    |some (some (s,v),g)=>
     have e:fk (some (some (s,v),g))=.tuple [aw (some (s,v)),aw g]:=rfl;have e2:fc (some (some (s,v),g))=if g=some (s,v)then qD v else .none:=rfl;have a0:bB (aw (some (s,v))) (.int 0)=some (qD v):=rfl;have b0:bB (.tuple [aw (some (s,v)),aw g]) (.int 0)=some (aw (some (s,v))):=rfl;have b1:bB (.tuple [aw (some (s,v)),aw g]) (.int 1)=some (aw g):=rfl;have hq:=OJ (some (s,v)) g;have i1:lK (.tuple [aw (some (s,v)),aw g]) .none=some (.bool true):=rfl;have i2:lK (aw (some (s,v))) .none=some (.bool true):=rfl;rw[e,e2];generalize Dat.tuple [aw (some (s,v)),aw g]=d0 at *;by_cases h:g=some (s,v)
     ·rw[decide_eq_true h.symm]at hq;rw[if_pos h];generalize aw (some (s,v))=d1 at *;dsimp![i1,i2,b0,b1,hq,a0]
     ·rw[decide_eq_false fun z=>h z.symm]at hq;rw[if_neg h];generalize aw (some (s,v))=d1 at *;dsimp![i1,i2,b0,b1,hq,a0]
   refine jT (Γ1:=[some (.a9 (pv)),some (.own (rD r3)),some (.a9 (gQ)),some (.a9 (dc)),some (.a9 (fk rg)),some (.a9 (gQ)),some (.a9 (fc rg))]) (by
    generalize fk rg=d4 at *;generalize fc rg=d6 at *;dsimp![Uv,a2,bQ]) ?_
   refine Uk (aj:=[some (.a9 (pv)),some (.own (rD r3)),some (.a9 (gQ)),some (.a9 (dc)),some (.a9 (fk rg)),some (.a9 (gQ)),some (.a9 (fc rg))]) (by
    generalize fk rg=d4 at *;generalize fc rg=d6 at *;generalize jz c rg=d7 at *;dsimp![qw,eD,a3,bQ,z1]) ⟨_,_,_,_,_,_,rfl⟩
  ·rintro aj ⟨x1,x2,x3,x4,x5,x6,rfl⟩;simp![]
 ·cases IG
theorem all_mk{lw:PySem.W.OpenLaw}{h:Heap}{fa:Addr}{od an:Option Addr}{sl:Array (Option Value)}{oc kV dc pm cd ct:Value}(X:K.In h)(G:h.Ns mainGlobals mg)(Tr:mg "law"=some (.ref fa))(r9:FnAt K mg "common_divisor" (top 1) ["a","b"])(Nv:FnAt K mg "make" (top 2) ["n","d"])(Nt:FnAt K mg "plus" (top 3) ["a","b"])(KH:FnAt K mg "minus" (top 4) ["a","b"])(KC:FnAt K mg "times" (top 5) ["a","b"])(Nu:FnAt K mg "over" (top 6) ["a","b"])(KI:FnAt K mg "below" (top 7) ["a","b"])(EY:FnAt K mg "lowered" (top 11) ["numbers"])(yQ:FnAt K mg "whole_row" (top 12) ["kind","fractions"])(yn:FnAt K mg "first_rows" (top 13) ["parts","others"])(KG:FnAt K mg "mixed" (top 14) ["one","much","other","more"])(yU:FnAt K mg "equal_row" (top 15) ["rows","place"])(EV:FnAt K mg "without" (top 16) ["row","equal","place"])(Hh:FnAt K mg "joined" (top 17) ["upper","lower","place"])(C8:FnAt K mg "drawn_on" (top 18) ["one","other","weighed"])(Hg:FnAt K mg "paired" (top 19) ["rows","place","weighed","most"])(yS:FnAt K mg "stages_of" (top 20) ["parts","others"])(yT:FnAt K mg "left_over" (top 21) ["row","point"])(C5:FnAt K mg "tightest" (top 22) ["rows","place","point","way"])(Hi:FnAt K mg "end_of" (top 23) ["stages","way"])(yR:FnAt K mg "upper_end" (top 24) ["stages"])(u0:FnAt K mg "opposite_end" (top 25) ["stages"])(C7:FnAt K mg "is_never" (top 26) ["kind","bound"])(r6:FnAt K mg "never_by_a_row" (top 27) ["stages"])(sR:FnAt K mg "never_by_ends" (top 28) ["stages"])(KD:FnAt K mg "never" (top 29) ["stages"])(ym:FnAt K mg "least_told" (top 34) ["end"])(sS:FnAt K mg "greatest_told" (top 35) ["end"])(tZ:FnAt K mg "range_of_sum" (top 36) ["parts","others"])(EX:FnAt K mg "nearest" (top 33) ["parts","others"])(C6:FnAt K mg "range_of" (top 37) ["place","many","others"])(tY:FnAt K mg "single_worth" (top 38) ["ends"])(EW:FnAt K mg "what_is" (top 39) ["place","many","others"])(C9:FnAt K mg "_law_low" (top 43) ["n","d"])(yW:FnAt K mg "_law_plus" (top 44) ["a","b"])(yo:FnAt K mg "_law_times" (top 45) ["a","b"])(yX:FnAt K mg "_law_next" (top 41) ["pot","many"])(vn:FnAt K mg "_law_number" (top 47) ["pot"])(Ca:FnAt K mg "_law_far" (top 49) ["pot"])(yY:FnAt K mg "_law_line" (top 51) ["pot"])(yV:FnAt K mg "_law_pots" (top 42) ["script"])(yt:FnAt K mg "_law_alike" (top 56) ["told","due"])(yZ:FnAt K mg "_law_less" (top 53) ["a","b"])(Cc:FnAt K mg "_law_dot" (top 46) ["parts","point"])(yr:FnAt K mg "_law_holds" (top 50) ["line","point"])(Cd:FnAt K mg "_law_cut" (top 52) ["range_now","number","may_be","side"])(yq:FnAt K mg "_law_range" (top 54) ["others"])(Cb:FnAt K mg "_law_due" (top 57) ["part","told"])(pF:∃a,TC K mg "ZERO_elimination" [.int (0),.int (1)] a)(qf:∃a,TC K mg "ONE_elimination" [.int (1),.int (1)] a)(tX:∃a,TC K mg "ZERO_nearest" [.int (0),.int (1)] a)(vm:∃a,TC K mg "ONE_nearest" [.int (1),.int (1)] a)(a:nsIn K mainGlobals "law"=some (some (.ref f)))(l:K.lookup f=some ⟨oc,od,.func (fnOf "law" "law" (iS (top 58)) (cM (top 58)) (aP (top 58)) .none kV dc pm an cd ct),sl⟩)(c:codeIn K cd "law"=true)(k:keepIn K (.ref f)=true)(T:TX lw.prog K mg)
  : ∃fd:FuncData,(∀(s:Shared) (v:Value),BindsTo s fd ⟨[v],[]⟩ [("script",v)])/\∀base:Heap,K.In base->base.Ns mainGlobals mg->fQ lw.prog w K mg base gj 100 fa fd ["script"] (vw K):=by
 have e:=Tr.symm.trans (mg_of X G a);cases e;obtain⟨_,gV⟩:=pF;obtain⟨_,qd⟩:=qf;obtain⟨_,mT⟩:=tX;obtain⟨_,vk⟩:=vm;refine⟨fnOf "law" "law" (iS (top 58)) (cM (top 58)) (aP (top 58)) .none kV dc pm an cd ct,fun s v=>.of_eq rfl,fun base _ _=>?_⟩;have OT:=xS (st:=top 58) l c k;have D1:=Sb (P:=lw.prog) (w:=w) (base:=base) T r9;have D2:=Nc T D1 Nv;have D3:=N8 T D2 Nt;have D4:=Kq T D2 KH;have D5:=Kj T D2 KC;have D6:=N9 T D2 Nu;have D7:=Ky T D2 KI;obtain⟨G8,D8,S0⟩:=EH T D1 EY;obtain⟨G9,D9,TH⟩:=Kh T D1 yQ;obtain⟨G10,Vi,U7⟩:=Ku T gV qd (D9.up (by decide)) TH (D4.up (by decide)) yn;obtain⟨G11,R5,ML⟩:=Kp T D8 S0 KG;obtain⟨G12,Vh,U9⟩:=Kv (P:=lw.prog) (w:=w) (base:=base) T yU;obtain⟨G13,Vg,TB⟩:=EF T R5 ML EV;obtain⟨G14,Vf,U4⟩:=GX T R5 ML Hh;obtain⟨G15,Ve,Ub⟩:=Kx (P:=lw.prog) (w:=w) (base:=base) T C8;obtain⟨G16,Vd,TU⟩:=GR T (Ve.up (by decide)) Ub (Vf.up (by decide)) U4 Hg;obtain⟨G17,R4,Q1⟩:=GP T (Vi.up (by decide)) U7 (Vh.up (by decide)) U9 (Vd.up (by decide)) TU (Vg.up (by decide)) TB yS;obtain⟨G18,Vc,U2⟩:=Nh T (D4.up (by decide)) (D5.up (by decide)) yT;obtain⟨G19,Vb,TK⟩:=Kk T (Vc.up (by decide)) U2 (D6.up (by decide)) (D7.up (by decide)) (D2.up (by decide)) C5;obtain⟨G20,R3,Q5⟩:=Kw T gV (Vb.up (by decide)) TK Hi;obtain⟨UR,NR,RW⟩:=Ki T (R3.up (by decide)) yR;obtain⟨UQ,R1,RZ⟩:=Na T (R3.up (by decide)) u0;have MJ:yk 1 UR:=fun b n m Ls rows h1 h2 h3 h4 h5 h6 h7 h8=>RW _ _ (Q5 b n m Ls rows 1 (.inl rfl) h1 h2 h3 h4 h5 h6 h7 (by omega)).1;have Q2:yk (-1) UQ:=fun b n m Ls rows h1 h2 h3 h4 h5 h6 h7 h8=>RZ _ _ (Q5 b n m Ls rows (-1) (.inr rfl) h1 h2 h3 h4 h5 h6 h7 (by omega)).1;obtain⟨G23,R0,hIn⟩:=EI T gV (D7.up (by decide)) C7;obtain⟨G24,Va,TZ⟩:=Ko T (R0.up (by decide)) hIn r6;obtain⟨G25,V9,TY⟩:=GU T (NR.up (by decide)) MJ (R1.up (by decide)) Q2 (R0.up (by decide)) hIn (D3.up (by decide)) sR;obtain⟨G26,QZ,Q3⟩:=Km T (Va.up (by decide)) TZ (V9.up (by decide)) TY KD;obtain⟨G27,V8,U0⟩:=Ks T mT (D4.up (by decide)) ym;obtain⟨G28,V7,U6⟩:=BS (P:=lw.prog) (w:=w) (base:=base) T sS;obtain⟨G29,V6,Ae⟩:=N6 T (R4.up (by decide)) Q1 (QZ.up (by decide)) Q3 (NR.up (by decide)) MJ (R1.up (by decide)) Q2 (V8.up (by decide)) U0 (V7.up (by decide)) U6 tZ;obtain⟨G30,V5,TV⟩:=EG T (R4.up (by decide)) Q1 (QZ.up (by decide)) Q3 (NR.up (by decide)) MJ EX
 obtain⟨G31,QY,IE⟩:=Kl T mT vk (V6.up (by decide)) Ae C6;obtain⟨G32,V4,TM⟩:=GQ (P:=lw.prog) (w:=w) (base:=base) T tY;obtain⟨G33,V3,TF⟩:=N5 T (QY.up (by decide)) IE (V4.up (by decide)) TM EW;have J8:=OM (P:=lw.prog) (w:=w) (base:=base) T C9;have QX:=Kr T J8 yW;have NQ:=GV T J8 yo;obtain⟨G43,J7,IF⟩:=Nb (P:=lw.prog) (w:=w) (base:=base) T yX;obtain⟨G44,NP,MK⟩:=GS T (J7.up (by decide)) IF (J8.up (by decide)) vn;obtain⟨G45,V2,U8⟩:=OO T (J7.up (by decide)) IF (NP.up (by decide)) MK Ca;obtain⟨G46,V1,U1⟩:=Nf T (J7.up (by decide)) IF (NP.up (by decide)) MK (V2.up (by decide)) U8 yY;obtain⟨G47,V0,TR⟩:=N7 (P:=lw.prog) (w:=w) (base:=base) T yV;obtain⟨G48,UZ,Uh⟩:=Az (P:=lw.prog) (w:=w) (base:=base) T yt 5;have QV:=Ng (P:=lw.prog) (w:=w) (base:=base) T yZ;obtain⟨G50,UY,Eb⟩:=OQ T (QX.up (by decide)) (NQ.up (by decide)) Cc;obtain⟨G51,UX,U5⟩:=Kt T (QX.up (by decide)) (UY.up (by decide)) Eb yr;obtain⟨G52,UW,Uc⟩:=OR T (QV.up (by decide)) Cd;obtain⟨G53,UU,TN⟩:=GW T (UX.up (by decide)) U5 (NQ.up (by decide)) (J8.up (by decide)) (UW.up (by decide)) Uc (QV.up (by decide)) yq;obtain⟨G54,UT,Ua⟩:=OP T (NQ.up (by decide)) Cb;have DL:=ON T (V0.up (by decide)) TR (J7.up (by decide)) IF (V1.up (by decide)) U1 (NP.up (by decide)) MK (UU.up (by decide)) TN (UZ.up (by decide)) Uh (QY.up (by decide)) IE (V3.up (by decide)) TF (V5.up (by decide)) TV (UT.up (by decide)) Ua OT;exact(Mc DL fun ns hl=>by unfold Ck;exact if_pos ⟨ns,rfl,hl⟩).mono (by decide)
end
end QD
namespace PySem.W.Fast
def tw1637460762512642694:=0
def tw16102949020340511953:=0
def tw1405965058867545199:=0
def tw16136937573986795979:=0
def tw16445071720259801002:=0
def tw11812934894099027958:=0
def tw3778432831943754724:=0
def tw1775981920925512952:=0
def tw1835939306789030069:=0
def tw14726359025242213582:=0
def tw15736208807478093511:=0
def tw17163462896468843777:=0
def tw15069463412224637519:=0
def tw11710577041673893435:=0
def tw15942662524745528211:=0
def tw2062538278883272076:=0
def tw14498037028777600536:=0
def tw12376522205991038540:=0
def tw16728250089462988558:=0
def tw10956628111775588680:=0
def tw4982499922116667235:=0
def tw5832341848716129309:=0
def tw18373879570218161695:=0
def tw17178213089458477625:=0
def tw12942793847053284633:=0
def tw11571064992724022498:=0
def tw5949759390856479312:=0
def tw5499899868666683090:=0
def tw11983178405140492986:=0
def tw9311968126414797940:=0
def tw7610729780184311333:=0
def tw13544066048533338202:=0
def tw8816258094105947758:=0
def tw10970175976152375554:=0
def tw1482928437989204025:=0
def tw2428948711846883560:=0
def tw12373366526306743298:=0
def tw2835379582641861705:=0
def tw9186493057825754471:=0
def tw11218949104089839149:=0
def tw6198535206387339165:=0
def tw17760746709714569995:=0
def tw8417722842896766159:=0
def tw12090933231015741928:=0
def tw7013485034577298248:=0
def tw9922824789443096002:=0
def tw12450589999757205371:=0
def tw2340936981108938989:=0
def tw3180107808624455863:=0
def tw17628179029385565337:=0
def tw13666687532954553183:=0
def tw3542738506991990151:=0
def tw6111540833540982714:=0
def tw1079889084971095425:=0
def tw17599755257688309019:=0
def tw14459577888899493331:=0
def tw9819089698481741768:=0
def tw17347868699225193529:=0
def tw5491955942884547801:=0
def tw2103878437950979644:=0
end PySem.W.Fast
open PySem PySem.W PyProof.Rows
local macro_rules | `(tactic| simp_all!) => `(tactic| (refine' L3.S5 (by assumption) (by assumption) ?a ?l ?c ?k ?b; (case a => k_is); (case l => k_is); (case c => k_is); (case k => k_is); (case b => intro _ _ _ _ _ _ us hl; rcases us with _ | ⟨_, _ | ⟨_, _ | ⟨_, _ | ⟨_, _ | ⟨_, _ | ⟨_, _⟩⟩⟩⟩⟩⟩ <;> first | rfl | cases hl)))
set_option maxRecDepth 100000 in
set_option maxHeartbeats 0 in
theorem PySem.Challenge.cw_stepjudge_k28_ranges_of_one_unknown_holds : PySem.Challenge.rw_stepjudge_k28_ranges_of_one_unknown.Holds := by
 w_on;o_law;x_head;(case hw=>w_witness2)
 k_fill
 refine L3.NY (k:=1) (by decide) (l:=PySem.Challenge.rw_stepjudge_k28_ranges_of_one_unknown) rfl rfl (fun w h Y=>PySem.W.kIn_of Y) ?F;case F=>
  intro w mg fa h KX G DZ;refine' QD.all_mk KX G DZ ?u1 ?u2 ?u3 ?u4 ?u5 ?u6 ?u7 ?u8 ?u9 ?u10 ?u11 ?u12 ?u13 ?u14 ?u15 ?u16 ?u17 ?u18 ?u19 ?u20 ?u21 ?u22 ?u23 ?u24 ?u25 ?u26 ?u27 ?u28 ?u29 ?u30 ?u31 ?u32 ?u33 ?u34 ?u35 ?u36 ?u37 ?u38 ?u39 ?u40 ?u41 ?u42 ?u43 ?u44 ?u45 ?u46 ?u47 ?u48 ?t1 ?t2 ?t3 ?t4 ?a ?l ?c ?k ⟨?se,mg_none_of KX G ?z1,mg_none_of KX G ?z2,mg_none_of KX G ?z3,mg_none_of KX G ?z4,mg_none_of KX G ?z5,mg_none_of KX G ?z6,mg_none_of KX G ?z7,mg_none_of KX G ?z8,mg_none_of KX G ?z9,mg_none_of KX G ?z10,mg_none_of KX G ?z11,mg_none_of KX G ?z12,mg_none_of KX G ?z13⟩
  (case se=>refine' L3.Jn KX G rfl ?s1 ?s3 ?s4 ?s5 ?s7 ?s8 ?s9 ?s2 ?s6;(case s1=>k_is);(case s3=>k_is);(case s4=>k_is);(case s5=>k_is);(case s7=>k_is);(case s8=>k_is);(case s9=>k_is);(case s2=>rfl);(case s6=>rfl))
  case u1|u2|u3|u4|u5|u6|u7|u8|u9|u10|u11|u12|u13|u14|u15|u16|u17|u18|u19|u20|u21|u22|u23|u24|u25|u26|u27|u28|u29|u30|u31|u32|u33|u34|u35|u36|u37|u38|u39|u40|u41|u42|u43|u44|u45|u46|u47|u48=>simp_all!
  case t1|t2|t3|t4=>refine' L3.vt KX G ?ta ?tl;(case ta=>k_is);(case tl=>k_is)
  case a|l|c|k=>k_is
  case z1|z2|z3|z4|z5|z6|z7|z8|z9|z10|z11|z12|z13=>k_is
