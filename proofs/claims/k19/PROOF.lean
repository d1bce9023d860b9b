import PyProof.Rows.All
import Wide.All
import OpenK.AllK
import Wide.FinOn
import Lean
import PyProof.EqAt
import PyProof.EqKinds
import PyProof.TupleCall
import KE.KDictList
import PySem.Challenge.RW_stepjudge_k19_one_unknown
open PySem.W (methodObj Frag keepIn fnOf codeIn kia_one nsIn mg_of mg_none_of)
open PySem.Heap (lt_size SameBut get?_push_of_some get?_push_size size_push IsTuple IsList)
open Nat (lt_of_lt_of_le lt_irrefl ne_of_lt le_trans mul_one le_refl succ_mul add_comm le_of_eq lt_of_le_of_lt lt_trans zero_le le_add_right zero_add min_self mul_le_mul_left dvd_trans one_mul lcm sub_zero mul_le_mul le_of_dvd add_sub_cancel reduceAdd reduceSub reduceEqDiff reduceLeDiff pow_add pow_le_pow_right pow_pos one_lt_two_pow mul_add)
open List (mem_filter mem_cons_self mem_cons_of_mem mem_cons append_assoc mem_append mem_append_left getElem?_set_self getElem?_set_ne mem_append_right size_toArray append_nil nodup_cons of_mem_zip length_take getElem?_append_right getElem?_replicate getElem?_append_left getElem?_map mem_of_getElem? length_append length_map length_replicate length_drop length_set all_cons any_cons replicate_succ flatten_cons foldl foldl_cons length_singleton nil_append map_nil map_cons getElem?_cons_succ getElem?_cons_zero drop_zero drop_eq_nil_of_le length_range getElem?_eq_getElem not_mem_nil mem_map cons_append length_cons zip_cons_cons all_map all_eq_true map_map length_zip map_append mem_singleton zipWith getD_eq_getElem?_getD length_zipWith range_succ mem_of_find?_eq_some find?_some filter_cons length_filter_le length_nil range' set_cons_zero set_cons_succ foldl_nil isEmpty mem_replicate map_take)
open Rat (le_of_lt mkRat_self intCast_mul inv_pos mul_eq_zero)
open Array (length_toList toList forIn_toList)
open Int (ne_of_gt toNat_natCast mul_comm gcd gcd_dvd_left gcd_dvd_right natAbs_mul mul_zero natAbs_natCast mul_ne_zero mul_pos natAbs_neg)
open Bool (and_eq_true eq_false_iff or_eq_true false_eq_true not_eq_true)
open Option (map_some map_none bind_none)
set_option Elab.async false
set_option linter.all false
set_option maxRecDepth 100000
namespace L2
noncomputable section
open PySem PySem.Spec PyProof.Rows
abbrev Key:=Sum Int Str
def K2:Key->Value->Bool
 | .inl k,v=>Value.isInt k v
 | .inr x,v=>Value.isStrOf x v
def Ur (w:World):Key->Int
 | .inl k=>hashInt k
 | .inr x=>hashStr w x
theorem fc:∀{k:Key} {v:Value},K2 k v=true->(∃i t,k=Sum.inl i/\v=Value.int i t)\/(∃x t,k=Sum.inr x/\v=Value.str x t)
 | .inl i,v,h=>by
  obtain⟨t,e⟩:=Value.isInt_shape (k:=i) (v:=v) h;exact .inl ⟨i,t,rfl,e⟩
 | .inr x,v,h=>by
  obtain⟨t,e⟩:=Value.isStrOf_shape (x:=x) (v:=v) h;exact .inr ⟨x,t,rfl,e⟩
theorem Ob(a b:Int):decide ((Sum.inl a:Key)=Sum.inl b)=(a==b):=by
 by_cases e:a=b
 ·subst e;simp
 ·have h:¬(Sum.inl a:Key)=Sum.inl b:=fun q=>e (Sum.inl.inj q);rw[decide_eq_false h];exact(beq_eq_false_iff_ne.mpr e).symm
theorem O8(a b:Str):decide ((Sum.inr a:Key)=Sum.inr b)=decide (a=b):=by
 by_cases e:a=b
 ·subst e;simp
 ·have h:¬(Sum.inr a:Key)=Sum.inr b:=fun q=>e (Sum.inr.inj q);rw[decide_eq_false h,decide_eq_false e]
theorem Oa(a:Int)(b:Str):decide ((Sum.inl a:Key)=Sum.inr b)=false:=decide_eq_false (fun q=>nomatch q)
theorem O9(a:Str)(b:Int):decide ((Sum.inr a:Key)=Sum.inl b)=false:=decide_eq_false (fun q=>nomatch q)
def vY (prog:Program) (w:World):PySem.KeyKind prog w Key where
 is:=K2
 hash:=Ur w
 inj:=fun v a b ha hb=>by
  rcases fc ha with⟨i,t,rfl,rfl⟩|⟨x,t,rfl,rfl⟩
  ·rcases fc hb with⟨j,u,rfl,e⟩|⟨y,u,rfl,e⟩
   ·injection e with e1 _;rw[e1]
   ·exact nomatch e
  ·rcases fc hb with⟨j,u,rfl,e⟩|⟨y,u,rfl,e⟩
   ·exact nomatch e
   ·injection e with e1 _;rw[e1]
 byValue:=fun k v h=>by
  rcases fc h with⟨i,t,rfl,rfl⟩|⟨x,t,rfl,rfl⟩<;>rfl
 pyHash:=fun hv h=>by
  rcases fc hv with⟨i,t,rfl,rfl⟩|⟨x,t,rfl,rfl⟩
  ·exact wpAny_pyHash_int h
  ·exact wpAny_pyHash_str h
 eqBool:=fun hu hv h=>by
  rcases fc hu with⟨i,t,rfl,rfl⟩|⟨x,t,rfl,rfl⟩
  ·rcases fc hv with⟨j,u,rfl,rfl⟩|⟨y,u,rfl,rfl⟩
   ·rw[Ob]at h;exact wpAny_eqBool_int h
   ·rw[Oa]at h;exact SeqAt.EqAt.int_str i t y u _ _ _ _ h
  ·rcases fc hv with⟨j,u,rfl,rfl⟩|⟨y,u,rfl,rfl⟩
   ·rw[O9]at h;exact SeqAt.EqAt.str_int x t j u _ _ _ _ h
   ·rw[O8]at h;exact wpAny_eqBool_str h
 «strs»:=fun k x t v h=>by
  rcases fc h with⟨i,u,rfl,e⟩|⟨y,u,rfl,e⟩
  ·exact nomatch e
  ·injection e with e1 _;subst e1;cases v<;>rfl
open PySem PySem.Spec PyProof.Rows
inductive V where
 |bR|bl (b:Bool)|int (i:Int)|str (x:Str)|nr (b:Array UInt8)|OV (b:UInt64)|ref (a:Addr)|ty (n:String)
 deriving DecidableEq
def RelV:V->Value->Prop
 | .bR,u=>u=Value.none
 | .bl b,u=>u=Value.bool b
 | .int i,u=>∃t,u=Value.int i t
 | .str x,u=>∃t,u=Value.str x t
 | .nr b,u=>∃t,u=Value.bytes b t
 | .OV b,u=>∃t,u=Value.float b t
 | .ref a,u=>u=Value.ref a
 | .ty n,u=>u=Value.type n
abbrev Vals:List V->List Value->Prop:=Paired RelV
variable {xs:List V} {us:List Value}
theorem Vals.length(r:Vals xs us):xs.length=us.length:=Paired.length r
theorem Vals.get:∀{xs:List V} {us:List Value} {i:Nat} {x:V},Vals xs us->xs[i]?=some x->∃u,us[i]?=some u/\RelV x u
 |_,_,_,_,.nil,e=>by simp at e
 |_,_,0,_,.cons r _,e=>by simp at e;subst e;exact⟨_,rfl,r⟩
 |_,_,i+1,x,.cons _ t,e=>by
  obtain⟨u,h1,h2⟩:=Vals.get (i:=i) (x:=x) t (by simpa using e);exact⟨u,by simpa using h1,h2⟩
theorem Vals.set{x:V}{u:Value}(r:RelV x u):∀{xs:List V} {us:List Value} (i:Nat),Vals xs us->Vals (xs.set i x) (us.set i u)
 |_,_,_,.nil=>.nil
 |_,_,0,.cons _ t=>.cons r t
 |_,_,i+1,.cons q t=>.cons q (Vals.set r i t)
theorem Vals.append:∀{xs ys:List V} {us ws:List Value},Vals xs us->Vals ys ws->Vals (xs++ys) (us++ws)
 |_,_,_,_,.nil,s=>s
 |_,_,_,_,.cons r t,s=>.cons r (Vals.append t s)
theorem Vals.take:∀{xs:List V} {us:List Value} (n:Nat),Vals xs us->Vals (xs.take n) (us.take n)
 |_,_,0,_=>.nil
 |_,_,_+1,.nil=>.nil
 |_,_,n+1,.cons r t=>.cons r (Vals.take n t)
theorem Vals.drop:∀{xs:List V} {us:List Value} (n:Nat),Vals xs us->Vals (xs.drop n) (us.drop n)
 |_,_,0,r=>r
 |_,_,_+1,.nil=>.nil
 |_,_,n+1,.cons _ t=>Vals.drop n t
def PD:Option V->Option Value->Prop
 |some v,some u=>RelV v u
 |none,none=>True
 |_,_=>False
def KV {κ:Type}:List (κ×V)->List (κ×Value)->Prop:=Paired fun(p:κ×V) (q:κ×Value)=>p.1=q.1/\RelV p.2 q.2
def kV:Key->V
 | .inl i=>.int i
 | .inr x=>.str x
inductive HO where
 /-- a list -/
 |lst (xs:List V)
 /-- a tuple (never changes) -/
 |tup (xs:List V)
 /-- a dict Qa keys are ints and texts;one Qa keys are tuples of ints and texts (AS empty one is both) -/
 |dK (g9:List (Key×V))|dT (g9:List (List Key×V))
 /-- a set of ints: ak members,ak size -/
 |set (S:Int->Bool) (n:Nat)
 /-- an instance of AS class at C,ak dict at dx,ak attributes -/
 |ins (C dx:Addr) (fs:List (Str×V))
 /-- AS dict of AS instance at x -/
 |own (x:Addr)
 /-- AS dict of an exception -/
 |xd (fs:List (Str×V))
 /-- a bound method,f of x -/
 |met (f x:Addr)
 /-- a range object lo,lo+1,.. below hi -/
 |Na (lo hi:Int)
 /-- a Qd that is known to AS object (AS script;a dict Qb a loop walks it): read,never written Qb it is so -/
 |sN (o:Obj) (u:HO)
 /-- a code object's table -/
 |yA (ps:Array Value)
 /-- any other Qd,by what is true of ak one object (a def of one's own: SetO a S n:=HO.ext fun h=>..) -/
 |ext (φ:Heap->Prop)
abbrev Hp:=Addr->Option HO
def upd (H:Hp) (a:Addr) (o:HO):Hp:=fun b=>if b=a then some o else H b
variable {H:Hp} {a:Addr} {o:HO}
theorem dD:upd H a o a=some o:=by unfold upd;rw[if_pos rfl]
variable {b:Addr}
theorem bA(h:b≠a):upd H a o b=H b:=by unfold upd;rw[if_neg h]
theorem bz(h:H a=some o)(h':H b=none):a≠b:=by
 intro e;subst e;rw[h]at h';cases h'
section
variable (P:Program) (w:World)
def gG (H:Hp) (h:Heap) (a:Addr):HO->Prop
 | .lst xs=>xs.length<=sizeLine/\∃(ak:List Value) (n:Nat),Vals xs ak/\h.get? a=some {cls:=.type "list",data:=.seq ak.toArray n}
 | .tup xs=>xs.length<=sizeLine/\∃ak:List Value,Vals xs ak/\IsTup h a ak.toArray
 | .dK g9=>g9.length<=sizeLine/\(a==sysModules)=false/\∃vs,KV g9 vs/\h.DictOf (vY P w) a vs
 | .dT g9=>g9.length<=sizeLine/\(a==sysModules)=false/\∃xs:List (List Key×Addr×Value),
   Paired (fun(p:List Key×V) (q:List Key×Addr×Value)=>p.1=q.1/\H q.2.1=some (.tup (p.1.map kV))/\RelV p.2 q.2.2) g9 xs/\
   ∃o es ep,h.get? a=some o/\o.ExactDict/\o.data=.dict es ep/\es.toList=xs.map (entryOfKey (tupleKind (vY P w)))/\(xs.map (·.1)).Nodup
 | .set S n=>h.SetOf (intKind P w) a S n
 | .ins C dx fs=>H dx=some (.own a)/\fs.length<=1000/\dx≠a/\h.get? a=some (PySem.W.instObj C dx)/\
   ∃mA,h.Ns1 dx mA/\(∀f,PD (fs.lookup f) (mA f))/\PySem.Within mA (fs.map (·.1))
 | .own _=>∃o,h.get? a=some o
 | .xd fs=>∃mA,h.Ns1 a mA/\∀f,PD (fs.lookup f) (mA f)
 | .Na lo hi=>∃t u v,h.get? a=some {cls:=.type "range",data:=.fields #[.int lo t,.int hi u,.int 1 v]}
 | .sN o u=>h.get? a=some o/\gG H h a u
 | .yA ps=>h.get? a=some {cls:=.none,data:=.fields ps}
 | .met f x=>h.get? a=some (methodObj (.ref f) (.ref x))
 | .ext φ=>φ h/\(∃o,h.get? a=some o)/\∀h1 h2:Heap,φ h1->(∀o,h1.get? a=some o->h2.get? a=some o)->φ h2
def iJ (H:Hp) (h:Heap):Prop:=∀a o,H a=some o->gG P w H h a o
end
variable {h:Heap} {w:World} {P:Program}
theorem gG.lt(x:gG P w H h a o):a<h.objs.size:=by
 cases o with
 |lst xs=>obtain⟨_,_,_,_,e⟩:=x;exact lt_size e
 |tup xs=>obtain⟨_,_,_,p⟩:=x;exact p.lt
 |dK g9=>obtain⟨_,_,_,_,o,_,_,e,_⟩:=x;exact lt_size e
 |dT g9=>obtain⟨_,_,_,_,o,_,_,e,_⟩:=x;exact lt_size e
 |set S n=>obtain⟨o,_,_,_,e,_⟩:=x;exact lt_size e
 |ins C dx fs=>obtain⟨_,_,_,e,_⟩:=x;exact lt_size e
 |own y=>obtain⟨_,e⟩:=x;exact lt_size e
 |xd fs=>obtain⟨_,⟨_,_,_,e,_⟩,_⟩:=x;exact lt_size e
 |Na lo hi=>obtain⟨_,_,_,e⟩:=x;exact lt_size e
 |sN ob u=>obtain⟨e,_⟩:=x;exact lt_size e
 |yA ps=>exact lt_size (show h.get? a=some _ from x)
 |met f y=>exact lt_size (show h.get? a=some _ from x)
 |ext φ=>obtain⟨_,⟨_,e⟩,_⟩:=x;exact lt_size e
theorem Paired.NR{α β:Type}{F G:α->β->Prop}:∀{l₁:List α} {l₂:List β},Paired F l₁ l₂->(∀a b,F a b->G a b)->Paired G l₁ l₂
 |_,_,.nil,_=>.nil
 |_,_,.cons r t,f=>.cons (f _ _ r) (Paired.NR t f)
variable {h':Heap} {H':Hp}
theorem gG.om(x:gG P w H h a o)(k:∀b u,(b=a\/H b=some (.own a))->h.get? b=some u->h'.get? b=some u)(ho:∀b,H b=some (.own a)->H' b=some (.own a))(ht:∀b xs,H b=some (.tup xs)->H' b=some (.tup xs)):gG P w H' h' a o:=by
 induction o with
 |lst xs=>obtain⟨z,ak,n,r,e⟩:=x;exact⟨z,ak,n,r,k _ _ (.inl rfl) e⟩
 |tup xs=>obtain⟨z,ak,r,ob,e,c⟩:=x;exact⟨z,ak,r,ob,k _ _ (.inl rfl) e,c⟩
 |dK g9=>obtain⟨z,y,vs,r,ob,es,ep,e,c⟩:=x;exact⟨z,y,vs,r,ob,es,ep,k _ _ (.inl rfl) e,c⟩
 |dT g9=>
  obtain⟨z,y,xs,r,ob,es,ep,e,c⟩:=x;exact⟨z,y,xs,Paired.NR r fun p q z=>⟨z.1,ht _ _ z.2.1,z.2.2⟩,ob,es,ep,k _ _ (.inl rfl) e,c⟩
 |set S n=>obtain⟨ob,es,ep,t,e,c⟩:=x;exact⟨ob,es,ep,t,k _ _ (.inl rfl) e,c⟩
 |ins C dx fs=>
  obtain⟨d,z,ne,e,mA,⟨od,es,ep,e2,c⟩,r⟩:=x;exact⟨ho _ d,z,ne,k _ _ (.inl rfl) e,mA,⟨od,es,ep,k _ _ (.inr d) e2,c⟩,r⟩
 |own y=>obtain⟨ob,e⟩:=x;exact⟨ob,k _ _ (.inl rfl) e⟩
 |xd fs=>obtain⟨mA,⟨od,es,ep,e,c⟩,r⟩:=x;exact⟨mA,⟨od,es,ep,k _ _ (.inl rfl) e,c⟩,r⟩
 |Na lo hi=>obtain⟨t,u,v,e⟩:=x;exact⟨t,u,v,k _ _ (.inl rfl) e⟩
 |sN ob u ih=>obtain⟨e,q⟩:=x;exact⟨k _ _ (.inl rfl) e,ih q⟩
 |yA ps=>
  have e:h.get? a=some {cls:=.none,data:=.fields ps}:=x;show h'.get? a=some {cls:=.none,data:=.fields ps};exact k a _ (.inl rfl) e
 |met f y=>
  have e:h.get? a=some (methodObj (.ref f) (.ref y)):=x;show h'.get? a=some (methodObj (.ref f) (.ref y));exact k a _ (.inl rfl) e
 |ext φ=>obtain⟨p,⟨o,e⟩,st⟩:=x;exact⟨st _ _ p fun o q=>k _ _ (.inl rfl) q,⟨o,k _ _ (.inl rfl) e⟩,st⟩
theorem iJ.lt(x:iJ P w H h)(e:H a=some o):a<h.objs.size:=(x a o e).lt
theorem iJ.fresh(x:iJ P w H h)(e:h.objs.size<=a):H a=none:=by
 cases q:H a with
 |none=>rfl
 |some u=>exact absurd (lt_of_lt_of_le (x.lt q) e) (lt_irrefl _)
theorem iJ.kept(x:iJ P w H h)(k:∀b u,h.get? b=some u->h'.get? b=some u):iJ P w H h':=fun a o e=>
 (x a o e).om (fun b u _ q=>k b u q) (fun _ q=>q) fun _ _ q=>q
theorem iJ.laid(x:iJ P w H h)(k:∀b u,h.get? b=some u->h'.get? b=some u)(hp:h.objs.size<=a)(new:gG P w (upd H a o) h' a o):iJ P w (upd H a o) h':=fun b u e=>by
 have hn:=x.fresh hp;by_cases hb:b=a
 ·subst hb;rw[dD]at e;cases e;exact new
 ·rw[bA hb]at e;exact(x b u e).om (fun c v _ q=>k c v q) (fun c q=>by rw[bA (bz q hn)];exact q) fun c xs q=>by rw[bA (bz q hn)];exact q
def Rd (H:Hp) (a:Addr) (u:HO):Prop:=H a=some u\/∃o,H a=some (.sN o u)
theorem Rd.ok{u:HO}(r:Rd H a u)(x:iJ P w H h):gG P w H h a u:=by
 rcases r with r|⟨o,r⟩
 ·exact x a u r
 ·obtain⟨_,q⟩:=x a _ r;exact q
def KJ:Option HO->Prop
 |some (.lst _)=>True
 |some (.dK _)=>True
 |some (.dT _)=>True
 |some (.set _ _)=>True
 |some (.ins _ _ _)=>True
 |some (.ext _)=>True
 |_=>False
variable {o':HO} {e x:Addr}
theorem iJ.write(ok:iJ P w H h)(mu:KJ (H x))(he:e=x\/H e=some (.own x))(k:∀b u,b≠e->h.get? b=some u->h'.get? b=some u)(BS:∃u,h'.get? e=some u)(new:gG P w (upd H x o') h' x o'):iJ P w (upd H x o') h':=fun b u q=>by
 have NN:∀c y,H c=some (.own y)->c≠x:=fun c y r z=>by subst z;rw[r]at mu;exact mu
 have Uk:∀c xs,H c=some (.tup xs)->c≠x:=fun c xs r z=>by subst z;rw[r]at mu;exact mu
 by_cases hb:b=x
 ·subst hb;rw[dD]at q;cases q;exact new
 ·rw[bA hb]at q;by_cases zU:b=e
  ·have q':H b=some (.own x):=by
    rcases he with z|z
    ·exact absurd (zU.trans z) hb
    ·rw[zU];exact z
   rw[q]at q';cases q';obtain⟨v,hv⟩:=BS;exact⟨v,by rw[zU];exact hv⟩
  ·refine(ok b u q).om (fun c v hc r=>k c v ?_ r) (fun c r=>by rw[bA (NN c b r)];exact r) fun c xs r=>by rw[bA (Uk c xs r)];exact r
   rcases hc with rfl|hc
   ·exact zU
   ·rintro rfl;rcases he with z|z
    ·exact NN c b hc z
    ·rw[hc]at z;cases z;exact hb rfl
structure Un (fs ex:List Addr) (H H':Hp) (h h':Heap):Prop where
 keep:∀b o,h.get? b=some o->H b=none->b∉fs->b∉ex->h'.get? b=some o
 slot:∀b o,h.get? b=some o->H b=none->b∈fs->b∉ex->∃sl,h'.get? b=some {o with slots:=sl}
 free:∀b o,h.get? b=some o->H b=none->b∉ex->H' b=none
 there:∀b o,h.get? b=some o->b∉ex->∃o',h'.get? b=some o'
 o9:∀b xs,H b=some (.tup xs)->H' b=some (.tup xs)
 nc:∀b o u,H b=some (.sN o u)->H' b=some (.sN o u)
 oh:∀b ps,H b=some (.yA ps)->∃more,H' b=some (.yA (ps++more))
variable {H1:Hp} {ex:List Addr} {h1:Heap}
variable {fs:List Addr} in
theorem Un.any(u:Un fs ex H H1 h h1){ob:Obj}(q:h.get? b=some ob)(n:H b=none)(hx:b∉ex):∃sl,h1.get? b=some {ob with slots:=sl}:=by
 by_cases hb:b∈fs
 ·exact u.slot b ob q n hb hx
 ·exact⟨ob.slots,u.keep b ob q n hb hx⟩
variable {fs:List Addr} in
theorem Un.kept(k:∀b u,h.get? b=some u->h'.get? b=some u):Un fs ex H H h h':=
 ⟨fun b ob q _ _ _=>k b ob q,fun b ob q _ _ _=>⟨ob.slots,k b ob q⟩,fun _ _ _ n _=>n,fun b ob q _=>⟨ob,k b ob q⟩,fun _ _ q=>q,fun _ _ _ q=>q,fun _ ps q=>⟨#[],by rw[q];simp⟩⟩
variable {fs:List Addr} in
theorem Un.refl:Un fs ex H H h h:=Un.kept fun _ _ q=>q
variable {fs:List Addr} in
theorem Un.laid(k:∀b u,h.get? b=some u->h'.get? b=some u)(hp:h.objs.size<=a)(hn:H a=none):Un fs ex H (upd H a o) h h' where
 keep:=fun b u q _ _ _=>k b u q
 slot:=fun b u q _ _ _=>⟨u.slots,k b u q⟩
 free:=fun b u q n _=>by rw[bA (ne_of_lt (lt_of_lt_of_le (lt_size q) hp))];exact n
 there:=fun b u q _=>⟨u,k b u q⟩
 o9:=fun b xs q=>by rw[bA (bz q hn)];exact q
 nc:=fun b u xs q=>by rw[bA (bz q hn)];exact q
 oh:=fun b ps q=>⟨#[],by rw[bA (bz q hn),q];simp⟩
variable {fs:List Addr} in
theorem Un.write(mu:KJ (H x))(he:e=x\/H e=some (.own x))(k:∀b u,b≠e->h.get? b=some u->h'.get? b=some u)(BS:∃u,h'.get? e=some u):Un fs ex H (upd H x o) h h':=by
 have hx:∀b,H b=none->b≠x:=fun b n z=>by subst z;rw[n]at mu;exact mu
 have hb:∀b,H b=none->b≠e:=fun b n z=>by
  subst z;rcases he with r|r
  ·exact hx b n r
  ·rw[n]at r;cases r
 have hm:∀b u,H b=some u->¬KJ (some u)->b≠x:=fun b u q nm z=>by subst z;rw[q]at mu;exact nm mu
 refine⟨fun b u q n _ _=>k b u (hb b n) q,fun b u q n _ _=>⟨u.slots,k b u (hb b n) q⟩,fun b u q n _=>by rw[bA (hx b n)];exact n,fun b u q _=>?_,
  fun b xs q=>by rw[bA (hm b _ q fun z=>z)];exact q,fun b u xs q=>by rw[bA (hm b _ q fun z=>z)];exact q,fun b ps q=>⟨#[],by rw[bA (hm b _ q fun z=>z),q];simp⟩⟩
 by_cases zU:b=e
 ·subst zU;exact BS
 ·exact⟨u,k b u zU q⟩
def Jv (h:Heap) (H:Hp):List Addr:=(List.range h.objs.size).filter fun a=>(H a).isSome
def pN (h:Heap) (H:Hp):Heap:=PySem.W.hideAll h (Jv h H)
theorem FZ(h:Heap)(H:Hp):(pN h H).objs.size=h.objs.size:=PySem.W.hideAll_size _ _
variable {o:Obj}
theorem IB(e:h.get? b=some o)(n:H b=none):(pN h H).get? b=some o:=
 PySem.W.hideAll_get _ e fun hm=>by
  have q:(H b).isSome=true:=(mem_filter.mp hm).2;rw[n]at q;simp at q
theorem LL(e:(pN h H).get? b=some o):h.get? b=some o/\H b=none:=by
 have e':h.get? b=some o:=PySem.W.of_hideAll (Jv h H) e;refine⟨e',?_⟩;cases q:H b with
 |none=>rfl
 |some x=>
  have hm:b∈Jv h H:=mem_filter.mpr ⟨List.mem_range.mpr (lt_size e'),by simp[q]⟩;have z:(pN h H).get? b=none:=PySem.W.hideAll_none (Jv h H) hm;rw[z]at e;cases e
def Mw (g h:Heap) (L:Addr):List (Addr×Obj):=(List.range h.objs.size).filterMap fun a=>if a=L\/(g.get? a).isSome=true then none else(h.get? a).map fun o=>(a,o)
def rest (g h:Heap) (L d:Addr):List (Addr×Obj):=(Mw g h L).filter fun p=>decide (p.1≠d)
open PySem PySem.Spec PyProof.Rows
structure Mod (K:Frag) (mg:Str->Option Value) (base:Heap):Prop where
 O7:K.In base
 glob:base.Ns mainGlobals mg
 blt:∃mb,base.Ns builtinsNs mb/\∀x:Str,x≠"__name__"->mb x=bootBuiltins x
 nolimit:base.NoLimit
structure Cx where
 prog:Program
 w:World
 K:Frag
 mg:Str->Option Value
 base:Heap
 A:Around
 N:List Str
 aR:Shared
 aj:Hp
 env:Env
 outer:List Env
 stack:List Env
 ex:List Addr
 fn:Str->Bool
 calm:Bool
 pn:List (Addr×Obj)
 xe:Value->Shared->Prop
def lL (l:List Env):List Addr:=l.filterMap (·.frame)
abbrev Cx.fs (X:Cx):List Addr:=lL X.outer
def nA (sc:Scope) (x:Str):Prop:=sc.names.lookup x=some .local\/sc.names.lookup x=some .cell\/sc.names.lookup x=some .free
def Loc (sc:Scope) (x:Str):Prop:=sc.names.lookup x=some .local\/sc.names.lookup x=some .cell
def Look (env:Env) (h:Heap) (m:Str->Option Value) (x:Str) (u:Value):Prop:=
 (env.kindOf x=some .local/\m x=some u)\/((env.kindOf x=some .cell\/env.kindOf x=some .free)/\∃c,env.cells.lookup x=some c/\h.IsCell c (some u))
structure Cx.Ok (X:Cx):Prop where
 mod:Mod X.K X.mg X.base
 kind:X.env.scope.kind=.function
 glob:X.env.globals=mainGlobals
 blt:X.env.builtins=builtinsNs
 above:X.aR.heap.objs.size<=X.env.locals
 inj:∀x y c,X.env.cells.lookup x=some c->X.env.cells.lookup y=some c->x=y
 has:∀x,(X.env.kindOf x=some .cell\/X.env.kindOf x=some .free)->∃c,X.env.cells.lookup x=some c
 GZ:∀x c,X.fn x=true->X.env.cells.lookup x=some c->X.aR.heap.objs.size<=c
 hd:X.calm=true->X.A.handled=none
 frames:X.A.frames=some X.stack
 JE:X.stack=X.outer\/(X.stack=X.env::X.outer/\X.env.frame=some X.env.locals)
 Cc:∀b∈X.ex,b≠X.env.locals/\∀x c,X.env.cells.lookup x=some c->c≠b
 bs:∀b o,X.base.get? b=some o->X.aR.heap.get? b=some o/\X.aj b=none
 xS:X.base.objs.size<=X.aR.heap.objs.size
 vW:∀b o,X.base.get? b=some o->b∉X.ex
 wm:∀b∈X.ex,b∉X.fs
 n9:X.aR.heap.FunFrames X.base X.outer
 C5:∀b∈X.fs,X.aj b=none
structure Inv (X:Cx) (pins:List (Addr×Obj)) (σ:List (Option V)) (H:Hp) (s:Shared):Prop where
 ok:X.Ok
 os:s.os=X.aR.os
 bare:AllBare s.gens
 base:Un X.fs X.ex X.aj H X.aR.heap s.heap
 loc:∃m,s.heap.Ns X.env.locals m/\∀(i:Nat) (x:Str) (v:V),X.N[i]?=some x->σ[i]?=some (some v)->nA X.env.scope x->∃u,RelV v u/\Look X.env s.heap m x u
 cell:∀x c,X.env.cells.lookup x=some c->∃v,s.heap.IsCell c v
 free:H X.env.locals=none
 jU:∀x c,X.env.cells.lookup x=some c->H c=none
 pin:∀p∈X.pn++pins,s.heap.get? p.1=some p.2/\H p.1=none/\p.1≠X.env.locals/\p.1∉X.fs/\∀v,p.2.data≠.cell v
 bw:iJ X.prog X.w H s.heap
 len:σ.length=X.N.length
variable {X:Cx}
theorem Cx.Ok.Um(ok:X.Ok)(e:X.base.get? b=some o):b∉X.fs:=fun hb=>by
 have:=(ok.n9.mem hb).1;rw[e]at this;cases this
variable {pins:List (Addr×Obj)} {σ:List (Option V)}
variable {s:Shared} in
theorem Inv.bs(I:Inv X pins σ H s):∀b o,X.base.get? b=some o->s.heap.get? b=some o/\H b=none:=fun b o e=>
 ⟨I.base.keep b o (I.ok.bs b o e).1 (I.ok.bs b o e).2 (I.ok.Um e) (I.ok.vW b o e),I.base.free b o (I.ok.bs b o e).1 (I.ok.bs b o e).2 (I.ok.vW b o e)⟩
variable {s:Shared} in
theorem Inv.bk(I:Inv X pins σ H s):∀b o,X.base.get? b=some o->s.heap.get? b=some o:=fun b o e=>(I.bs b o e).1
variable {s:Shared} in
theorem Inv.mod(I:Inv X pins σ H s):Mod X.K X.mg X.base:=I.ok.mod
variable {s:Shared} in
theorem Inv.q9(I:Inv X pins σ H s):X.K.In s.heap:=I.ok.mod.O7.keeps I.bk
variable {s:Shared} in
theorem Inv.lt(I:Inv X pins σ H s):X.env.locals<s.heap.objs.size:=let ⟨_,hn,_⟩:=I.loc;hn.lt
variable {s:Shared} in
theorem Inv.sz(I:Inv X pins σ H s):X.aR.heap.objs.size<=s.heap.objs.size:=le_trans I.ok.above (Nat.le_of_lt I.lt)
variable {s:Shared} in
theorem Inv.Ul(I:Inv X pins σ H s)(h:s.heap.objs.size<=a):a∉X.fs:=fun hb=>by
 obtain⟨_,o,ho,_⟩:=I.ok.n9.mem hb;exact absurd (lt_of_lt_of_le (lt_size ho) (le_trans I.sz h)) (lt_irrefl _)
variable {s:Shared} in
theorem Inv.Al(I:Inv X pins σ H s):∀x c,X.env.cells.lookup x=some c->c≠X.env.locals:=fun x c e z=>by
 obtain⟨v,o,ho,hd⟩:=I.cell x c e;obtain⟨m,⟨o',es,ep,qb,ey,_⟩,_⟩:=I.loc;rw[z,qb]at ho;cases ho;rw[ey]at hd;cases hd
variable {s:Shared} in
theorem Inv.n9(I:Inv X pins σ H s):s.heap.FunFrames X.base X.outer:=by
 have all:∀(l:List Env),(∀b∈lL l,b∈X.fs)->X.aR.heap.FunFrames X.base l->s.heap.FunFrames X.base l:=by
  intro l;induction l with
  |nil=>intro _ _;trivial
  |cons env r ih=>
   intro hs hl;obtain⟨hk,⟨L,o,hf,hn,ho,hd⟩,hr⟩:=hl;have hL:L∈X.fs:=hs L (by unfold lL;rw[List.filterMap_cons,hf];exact mem_cons_self);obtain⟨sl,e⟩:=I.base.slot L o ho (I.ok.C5 L hL) hL fun z=>I.ok.wm L z hL;exact⟨hk,⟨L,_,hf,hn,e,hd⟩,ih (fun b hb=>hs b (by unfold lL;rw[List.filterMap_cons,hf];exact mem_cons_of_mem _ hb)) hr⟩
 exact all X.outer (fun _ hb=>hb) I.ok.n9
variable {s:Shared} in
theorem Inv.stack(I:Inv X pins σ H s):s.heap.FunFrames X.base X.stack:=by
 rcases I.ok.JE with e|⟨e,hf⟩
 ·rw[e];exact I.n9
 ·rw[e];obtain⟨m,hn,_⟩:=I.loc;refine .cons (by rw[I.ok.kind];decide) hf hn ?_ I.n9;exact Heap.get?_none_of_le (le_trans I.ok.xS I.ok.above)
variable {s:Shared} in
theorem Inv.ud(I:Inv X pins σ H s):∀b∈lL X.stack,b∈X.env.locals::X.fs:=fun b hb=>by
 rcases I.ok.JE with e|⟨e,hf⟩
 ·rw[e]at hb;exact mem_cons_of_mem _ hb
 ·rw[e]at hb;unfold lL at hb;rw[List.filterMap_cons,hf]at hb;exact hb
variable {s:Shared} in
theorem Inv.vK(I:Inv X pins σ H s):∀b∈lL X.stack,H b=none:=fun b hb=>by
 rcases mem_cons.mp (I.ud b hb)with e|hb
 ·rw[e];exact I.free
 ·obtain⟨_,o,ho,_⟩:=I.ok.n9.mem hb;exact I.base.free b o ho (I.ok.C5 b hb) fun z=>I.ok.wm b z hb
variable {t':Nat} {ch:List Addr}
variable {s:Shared} in
theorem Inv.step{g':Array GenState}{d':Drawn}(I:Inv X pins σ H s)(qd:∀b∈ch,(b∈X.ex\/X.aR.heap.objs.size<=b)/\b≠X.env.locals/\(∀x c,X.env.cells.lookup x=some c->c≠b)/\∀p∈X.pn++pins,p.1≠b)(keep:∀b o,b≠X.env.locals->b∉X.fs->b∉ch->s.heap.get? b=some o->H b=none->h'.get? b=some o)(slot:∀b o,b≠X.env.locals->b∈X.fs->b∉ch->s.heap.get? b=some o->H b=none->∃sl,h'.get? b=some {o with slots:=sl})(free:∀b o,b∉ch->s.heap.get? b=some o->H b=none->H' b=none)(there:∀b o,b∉ch->s.heap.get? b=some o->∃o',h'.get? b=some o')(o9:∀b xs,H b=some (.tup xs)->H' b=some (.tup xs))(nc:∀b o u,H b=some (.sN o u)->H' b=some (.sN o u))(oh:∀b ps,H b=some (.yA ps)->∃more,H' b=some (.yA (ps++more)))(ns:∀m,s.heap.Ns X.env.locals m->h'.Ns X.env.locals m)(bw:iJ X.prog X.w H' h')(hg:AllBare g'):
  Inv X pins σ H' {s with heap:=h',gens:=g',drawn:=d',toks:=t'}:=by
 have RD:∀b o,X.aR.heap.get? b=some o->b≠X.env.locals:=fun b o e=>ne_of_lt (lt_of_lt_of_le (lt_size e) I.ok.above);have xm:∀b o,X.aR.heap.get? b=some o->b∉X.ex->b∉ch:=fun b o e hx hb=>by
  rcases(qd b hb).1 with z|z
  ·exact hx z
  ·exact absurd (lt_of_lt_of_le (lt_size e) z) (lt_irrefl _)
 have cellK:∀x c,X.env.cells.lookup x=some c->∀v,s.heap.IsCell c v->h'.IsCell c v:=fun x c e v aQ=>by
  obtain⟨o,ho,hd⟩:=aQ;have F9:c∉ch:=fun z=>(qd c z).2.2.1 x c e rfl;by_cases hc:c∈X.fs
  ·obtain⟨sl,q⟩:=slot c o (I.Al x c e) hc F9 ho (I.jU x c e);exact⟨_,q,hd⟩
  ·exact⟨o,keep c o (I.Al x c e) hc F9 ho (I.jU x c e),hd⟩
 refine⟨I.ok,I.os,hg,⟨fun b o e n hb hx=>?_,fun b o e n hb hx=>?_,fun b o e n hx=>?_,fun b o e hx=>?_,fun b xs e=>o9 b xs (I.base.o9 b xs e),fun b o xs e=>nc b o xs (I.base.nc b o xs e),fun b ps e=>?_⟩,?_,fun x c e=>?_,?_,fun x c e=>?_,fun p hp=>?_,bw,I.len⟩
 ·exact keep b o (RD b o e) hb (xm b o e hx) (I.base.keep b o e n hb hx) (I.base.free b o e n hx)
 ·obtain⟨sl,e1⟩:=I.base.slot b o e n hb hx;obtain⟨Vu,e2⟩:=slot b _ (RD b o e) hb (xm b o e hx) e1 (I.base.free b o e n hx);exact⟨Vu,e2⟩
 ·obtain⟨o',e1⟩:=I.base.there b o e hx;exact free b o' (xm b o e hx) e1 (I.base.free b o e n hx)
 ·obtain⟨o',e1⟩:=I.base.there b o e hx;exact there b o' (xm b o e hx) e1
 ·obtain⟨m1,e1⟩:=I.base.oh b ps e;obtain⟨m2,e2⟩:=oh b _ e1;exact⟨m1++m2,by rw[e2,Array.append_assoc]⟩
 ·obtain⟨m,hn,hl⟩:=I.loc;refine⟨m,ns m hn,fun i x v e1 e2 e3=>?_⟩;obtain⟨u,r,l⟩:=hl i x v e1 e2 e3;refine⟨u,r,?_⟩;rcases l with l|⟨k,c,e,z⟩
  ·exact .inl l
  ·exact .inr ⟨k,c,e,cellK x c e _ z⟩
 ·obtain⟨v,z⟩:=I.cell x c e;exact⟨v,cellK x c e v z⟩
 ·obtain⟨m,⟨o,_,_,ho,_⟩,_⟩:=I.loc;exact free _ o (fun z=>(qd _ z).2.1 rfl) ho I.free
 ·obtain⟨v,o,ho,hd⟩:=I.cell x c e;exact free c o (fun z=>(qd c z).2.2.1 x c e rfl) ho (I.jU x c e)
 ·obtain⟨e,n,ne,nf,d⟩:=I.pin p hp;have F9:p.1∉ch:=fun z=>(qd p.1 z).2.2.2 p hp rfl;exact⟨keep p.1 p.2 ne nf F9 e n,free p.1 p.2 F9 e n,ne,nf,d⟩
variable {s:Shared} in
theorem Inv.un(I:Inv X pins σ H s)(u:Un X.fs [] H H' s.heap h')(bw:iJ X.prog X.w H' h'):Inv X pins σ H' {s with heap:=h',toks:=t'}:=by
 obtain⟨m,⟨o,es,ep,ho,r⟩,_⟩:=id I.loc;obtain⟨sl,hL⟩:=u.any ho I.free (by simp);exact I.step (g':=s.gens) (d':=s.drawn) (ch:=[]) (fun _ z=>nomatch z) (fun b o _ hb _ e n=>u.keep b o e n hb (by simp)) (fun b o _ hb _ e n=>u.slot b o e n hb (by simp)) (fun b o _ e n=>u.free b o e n (by simp)) (fun b o _ e=>u.there b o e (by simp)) u.o9 u.nc u.oh (fun m' hm=>by
  obtain⟨o',Gq,Gs,qb,r'⟩:=hm;rw[ho]at qb;cases qb;exact⟨_,Gq,Gs,hL,r'⟩) bw I.bare
variable {s:Shared} in
theorem Inv.call{g':Array GenState}{d':Drawn}(I:Inv X pins σ H s)(u:Un (lL X.stack) ch H H' s.heap h')(bw:iJ X.prog X.w H' h')(hg:AllBare g')(qd:∀b∈ch,(b∈X.ex\/X.aR.heap.objs.size<=b)/\b≠X.env.locals/\(∀x c,X.env.cells.lookup x=some c->c≠b)/\∀p∈X.pn++pins,p.1≠b):
  Inv X pins σ H' {s with heap:=h',gens:=g',drawn:=d',toks:=t'}:=by
 obtain⟨m,⟨o,es,ep,ho,r⟩,_⟩:=id I.loc;obtain⟨sl,hL⟩:=u.any ho I.free fun z=>(qd _ z).2.1 rfl;exact I.step (ch:=ch) qd (fun b o hL hb hc e n=>u.keep b o e n (fun z=>(mem_cons.mp (I.ud b z)).elim hL hb) hc) (fun b o _ _ hc e n=>u.any e n hc) (fun b o hc e n=>u.free b o e n hc) (fun b o hc e=>u.there b o e hc) u.o9 u.nc u.oh (fun m' hm=>by
  obtain⟨o',Gq,Gs,qb,r'⟩:=hm;rw[ho]at qb;cases qb;exact⟨_,Gq,Gs,hL,r'⟩) bw hg
variable {s:Shared} in
theorem Inv.turned{it:Addr}(I:Inv X pins σ H s)(k:∀b o,b≠it->s.heap.get? b=some o->h'.get? b=some o)(hn:H it=none)(hL:it≠X.env.locals)(h1:it∈X.ex\/X.aR.heap.objs.size<=it)(h2:∀x c,X.env.cells.lookup x=some c->c≠it)(h3:∀p∈X.pn++pins,p.1≠it):Inv X pins σ H {s with heap:=h',toks:=t'}:=by
 have RC:∀b u,H b=some u->b≠it:=fun b u e z=>by rw[z,hn]at e;cases e
 refine I.step (g':=s.gens) (d':=s.drawn) (ch:=[it]) (fun b hb=>?_) (fun b o _ _ hc e _=>k b o (fun z=>hc (by simp[z])) e) (fun b o _ _ hc e _=>⟨o.slots,k b o (fun z=>hc (by simp[z])) e⟩) (fun _ _ _ _ n=>n)
  (fun b o hc e=>⟨o,k b o (fun z=>hc (by simp[z])) e⟩) (fun _ _ e=>e) (fun _ _ _ e=>e) (fun b ps e=>⟨#[],by rw[e];simp⟩) (fun m hm=>?_) (fun b u e=>?_) I.bare
 ·have e:b=it:=by simpa using hb
  subst e;exact⟨h1,hL,h2,h3⟩
 ·obtain⟨o,es,ep,ho,r⟩:=hm;exact⟨o,es,ep,k _ o (Ne.symm hL) ho,r⟩
 ·refine(I.bw b u e).om (fun c v hc q=>k c v ?_ q) (fun _ q=>q) fun _ _ q=>q;rcases hc with z|z
  ·rw[z];exact RC b u e
  ·exact RC c _ z
variable {s:Shared} in
theorem Inv.tok(I:Inv X pins σ H s)(t:Nat):Inv X pins σ H {s with toks:=t}:=I.un (h':=s.heap) (t':=t) Un.refl I.bw
variable {s:Shared} in
theorem Inv.kept(I:Inv X pins σ H s)(k:∀b u,s.heap.get? b=some u->h'.get? b=some u):Inv X pins σ H {s with heap:=h',toks:=t'}:=I.un (Un.kept k) (I.bw.kept k)
variable {s:Shared} in
theorem Inv.laid{o:HO}(I:Inv X pins σ H s)(k:∀b u,s.heap.get? b=some u->h'.get? b=some u)(hp:s.heap.objs.size<=a)(new:gG X.prog X.w (upd H a o) h' a o):
  Inv X pins σ (upd H a o) {s with heap:=h',toks:=t'}:=I.un (Un.laid k hp (I.bw.fresh hp)) (I.bw.laid k hp new)
variable {s:Shared} in
theorem Inv.write{o:HO}(I:Inv X pins σ H s)(mu:KJ (H x))(he:e=x\/H e=some (.own x))(k:∀b u,b≠e->s.heap.get? b=some u->h'.get? b=some u)(BS:∃u,h'.get? e=some u)(new:gG X.prog X.w (upd H x o) h' x o):Inv X pins σ (upd H x o) {s with heap:=h',toks:=t'}:=I.un (Un.write mu he k BS) (I.bw.write mu he k BS new)
variable {s:Shared} in
theorem Inv.weak{bI:List (Option V)}(I:Inv X pins σ H s)(hl:bI.length=σ.length)(w:∀(i:Nat) v,bI[i]?=some (some v)->σ[i]?=some (some v)):Inv X pins bI H s:=
 ⟨I.ok,I.os,I.bare,I.base,let ⟨m,hn,iG⟩:=I.loc;⟨m,hn,fun i x v e1 e2 e3=>iG i x v e1 (w i v e2) e3⟩,I.cell,I.free,I.jU,I.pin,I.bw,hl.trans I.len⟩
variable {s:Shared} in
theorem Inv.kh{pins':List (Addr×Obj)}(I:Inv X pins σ H s)(h:∀p∈pins',s.heap.get? p.1=some p.2/\H p.1=none/\p.1≠X.env.locals/\p.1∉X.fs/\∀v,p.2.data≠.cell v):Inv X pins' σ H s:=
 ⟨I.ok,I.os,I.bare,I.base,I.loc,I.cell,I.free,I.jU,fun p hp=>(mem_append.mp hp).elim (fun z=>I.pin p (mem_append_left _ z)) (h p),I.bw,I.len⟩
variable {N:List Str} {i:Nat} {x:Str}
theorem zo(hN:N.Nodup){j:Nat}(a:N[i]?=some x)(b:N[j]?=some x):i=j:=by
 obtain⟨h1,e1⟩:=List.getElem?_eq_some_iff.mp a;obtain⟨h2,e2⟩:=List.getElem?_eq_some_iff.mp b;exact(List.getElem_inj hN).mp (e1.trans e2.symm)
variable {M:Model} {A:Around} {E:Value->Shared->Prop} {v:V} {u:Value}
variable {s:Shared} in
theorem wW{Q:Unit->Shared->Prop}(I:Inv X pins σ H s)(hN:X.N.Nodup)(hi:X.N[i]?=some x)(hx:Loc X.env.scope x)(r:RelV v u)(h:∀s',Inv X pins (σ.set i (some v)) H s'->(∃a,SameBut a s.heap s'.heap/\(a=X.env.locals\/X.env.cells.lookup x=some a))->Q () s')(hf:X.fn x=true\/X.env.scope.names.lookup x=some .local:=by first|exact .inl rfl|exact .inr rfl|assumption):wpAny M A (storeName X.env x u) Q E s:=by
 obtain⟨m,hn,hl⟩:=id I.loc;have UJ:(X.env.scope.kind == .class || (X.env.scope.kind == .module&&X.env.locals !=X.env.globals))=false:=by rw[I.ok.kind];rfl
 have OE:i<σ.length:=by rw[I.len];exact(List.getElem?_eq_some_iff.mp hi).1
 have Al:=I.Al;have tracked:∀{a:Addr} {h':Heap},(∃o,s.heap.get? a=some o/\H a=none)->SameBut a s.heap h'->iJ X.prog X.w H h':=fun{a h'} ha hs b ob e=>by
  obtain⟨_,_,Kf⟩:=ha;refine(I.bw b ob e).om (fun c w' hc q=>(hs.2 c ?_).trans q) (fun _ q=>q) fun _ _ q=>q;rintro rfl;rcases hc with rfl|hc
  ·rw[Kf]at e;cases e
  ·rw[Kf]at hc;cases hc
 rcases hx with hk|hk
 ·refine wpAny_storeName_local hk hn (fun h' kZ hs=>?_) UJ;obtain⟨oL,_,_,VZ,_⟩:=id hn;refine h _ ⟨I.ok,I.os,I.bare,⟨fun b o e n hb hx=>?_,fun b o e n hb hx=>?_,I.base.free,fun b o e hx=>?_,I.base.o9,I.base.nc,I.base.oh⟩,⟨_,kZ,fun j y v' e1 e2 e3=>?_⟩,fun y c e=>?_,I.free,I.jU,fun p hp=>?_,tracked ⟨oL,VZ,I.free⟩ hs,by simpa using I.len⟩ ⟨_,hs,.inl rfl⟩
  ·exact(hs.2 b (ne_of_lt (lt_of_lt_of_le (lt_size e) I.ok.above))).trans (I.base.keep b o e n hb hx)
  ·obtain⟨sl,e1⟩:=I.base.slot b o e n hb hx;exact⟨sl,(hs.2 b (ne_of_lt (lt_of_lt_of_le (lt_size e) I.ok.above))).trans e1⟩
  ·obtain⟨o',e1⟩:=I.base.there b o e hx;exact⟨o',(hs.2 b (ne_of_lt (lt_of_lt_of_le (lt_size e) I.ok.above))).trans e1⟩
  ·by_cases hj:j=i
   ·subst hj;rw[hi]at e1;cases e1;rw[getElem?_set_self OE]at e2;cases e2;exact⟨u,r,.inl ⟨hk,by simp⟩⟩
   ·rw[getElem?_set_ne (Ne.symm hj)]at e2;obtain⟨u',r',q⟩:=hl j y v' e1 e2 e3;refine⟨u',r',?_⟩;rcases q with⟨k,e⟩|⟨k,c,e,z⟩
    ·refine .inl ⟨k,?_⟩;have:y≠x:=fun e=>hj (zo hN e1 (e▸hi));simp[this,e]
    ·exact .inr ⟨k,c,e,z.sameBut hs (Al y c e)⟩
  ·obtain⟨w',z⟩:=I.cell y c e;exact⟨w',z.sameBut hs (Al y c e)⟩
  ·obtain⟨e,n,ne,nf,d⟩:=I.pin p hp;exact⟨(hs.2 p.1 ne).trans e,n,ne,nf,d⟩
 ·have v7:X.fn x=true:=by
   rcases hf with z|z
   ·exact z
   ·rw[z]at hk;cases hk
  obtain⟨c,hc⟩:=I.ok.has x (.inl hk);obtain⟨w',z⟩:=I.cell x c hc;refine wpAny_storeName_cell I.ok.kind hk hc z (fun h' iZ hs=>?_);obtain⟨oc,RS,UA⟩:=id z;refine h {s with heap:=h'} ⟨I.ok,I.os,I.bare,⟨fun b o e n hb hx=>?_,fun b o e n hb hx=>?_,I.base.free,fun b o e hx=>?_,I.base.o9,I.base.nc,I.base.oh⟩,⟨m,hn.sameBut hs (Ne.symm (Al x c hc)),fun j y v' e1 e2 e3=>?_⟩,fun y c' e=>?_,I.free,I.jU,fun p hp=>?_,tracked ⟨oc,RS,I.jU x c hc⟩ hs,by simpa using I.len⟩ ⟨c,hs,.inr hc⟩
  ·exact(hs.2 b (ne_of_lt (lt_of_lt_of_le (lt_size e) (I.ok.GZ x c v7 hc)))).trans (I.base.keep b o e n hb hx)
  ·obtain⟨sl,e1⟩:=I.base.slot b o e n hb hx;exact⟨sl,(hs.2 b (ne_of_lt (lt_of_lt_of_le (lt_size e) (I.ok.GZ x c v7 hc)))).trans e1⟩
  ·obtain⟨o',e1⟩:=I.base.there b o e hx;exact⟨o',(hs.2 b (ne_of_lt (lt_of_lt_of_le (lt_size e) (I.ok.GZ x c v7 hc)))).trans e1⟩
  ·by_cases hj:j=i
   ·subst hj;rw[hi]at e1;cases e1;rw[getElem?_set_self OE]at e2;cases e2;exact⟨u,r,.inr ⟨.inl hk,c,hc,iZ⟩⟩
   ·rw[getElem?_set_ne (Ne.symm hj)]at e2;obtain⟨u',r',q⟩:=hl j y v' e1 e2 e3;refine⟨u',r',?_⟩;rcases q with q|⟨k,c',e,z'⟩
    ·exact .inl q
    ·refine .inr ⟨k,c',e,z'.sameBut hs ?_⟩;rintro rfl;exact hj (zo hN e1 (I.ok.inj _ _ _ e hc▸hi))
  ·by_cases G6:c'=c
   ·subst G6;exact⟨_,iZ⟩
   ·obtain⟨w2,z2⟩:=I.cell y c' e;exact⟨w2,z2.sameBut hs G6⟩
  ·obtain⟨e,n,ne,nf,d⟩:=I.pin p hp;refine⟨(hs.2 p.1 ?_).trans e,n,ne,nf,d⟩;intro q;rw[q,RS]at e;have q':oc=p.2:=Option.some.inj e;exact d w' (by rw[<- q'];exact UA)
variable {s:Shared} in
theorem p9{Q:Unit->Shared->Prop}(I:Inv X pins σ H s)(hN:X.N.Nodup)(hi:X.N[i]?=some x)(hx:Loc X.env.scope x)(r:RelV v u)(h:∀s',Inv X pins (σ.set i (some v)) H s'->Q () s')(hf:X.fn x=true\/X.env.scope.names.lookup x=some .local:=by first|exact .inl rfl|exact .inr rfl|assumption):wpAny M A (storeName X.env x u) Q E s:=
 wW I hN hi hx r (fun s' I' _=>h s' I') hf
variable {s':Shared}
variable {s:Shared} in
theorem Inv.KC(I:Inv X pins σ H s)(ho:s'.os=s.os)(u:Un (lL X.stack) ch H H' s.heap s'.heap)(bw:iJ X.prog X.w H' s'.heap)(hg:AllBare s'.gens)(qd:∀b∈ch,(b∈X.ex\/X.aR.heap.objs.size<=b)/\b≠X.env.locals/\(∀x c,X.env.cells.lookup x=some c->c≠b)/\∀p∈X.pn++pins,p.1≠b):Inv X pins σ H' s':=by
 obtain⟨h',g',d',t',o'⟩:=s';have e:o'=s.os:=ho;subst e;exact I.call (g':=g') (t':=t') (d':=d') u bw hg qd
abbrev XK:=Value->Option Addr->Hp->Prop
abbrev St:=List (Option V)
abbrev VK:=V->Hp->Prop
abbrev TE:=St->Hp->VK->Prop
abbrev TT:=St->Hp->(Bool->Hp->Prop)->Prop
abbrev TA:=St->Hp->(List V->Hp->Prop)->Prop
structure Ends where
 nx:St->Hp->Prop
 rt:VK
 bk:St->Hp->Prop:=fun _ _=>False
 ct:St->Hp->Prop:=fun _ _=>False
abbrev TS:=Ends->St->Hp->Prop
def EP (X:Cx) (pins:List (Addr×Obj)) (σ:St) (Q:VK) (u:Value) (s':Shared):Prop:=∃v H',Inv X pins σ H' s'/\RelV v u/\Q v H'
def TP (X:Cx) (pins:List (Addr×Obj)) (σ:St) (Q:Bool->Hp->Prop) (b:Bool) (s':Shared):Prop:=∃H',Inv X pins σ H' s'/\Q b H'
def AP (X:Cx) (pins:List (Addr×Obj)) (σ:St) (Q:List V->Hp->Prop) (us:List Value) (s':Shared):Prop:=∃vs H',Inv X pins σ H' s'/\Vals vs us/\Q vs H'
def SP (X:Cx) (pins:List (Addr×Obj)) (D:Ends) (f:Flow) (s':Shared):Prop:=
 match f with
 | .next=>∃bI H',Inv X pins bI H' s'/\D.nx bI H'
 | .brk=>∃bI H',Inv X pins bI H' s'/\D.bk bI H'
 | .cont=>∃bI H',Inv X pins bI H' s'/\D.ct bI H'
 | .ret u=>∃v bI H',Inv X pins bI H' s'/\RelV v u/\D.rt v H'
def PE (X:Cx) (e:Expr) (t:TE):Prop:=
 ∀(pins:List (Addr×Obj)) (s:Shared) (σ:St) (H:Hp) (Q:VK),Inv X pins σ H s->t σ H Q->wpAny (model X.prog X.w) X.A (eval e X.env) (EP X pins σ Q) X.xe s
def PT (X:Cx) (e:Expr) (t:TT):Prop:=
 ∀(pins:List (Addr×Obj)) (s:Shared) (σ:St) (H:Hp) (Q:Bool->Hp->Prop),Inv X pins σ H s->t σ H Q->wpAny (model X.prog X.w) X.A (isTrue e X.env (eval e X.env)) (TP X pins σ Q) X.xe s
def PW (X:Cx) (e:Expr) (t:TT):Prop:=
 ∀(whole:Sem Value) (pins:List (Addr×Obj)) (s:Shared) (σ:St) (H:Hp) (Q:Bool->Hp->Prop),Inv X pins σ H s->t σ H Q->wpAny (model X.prog X.w) X.A (isTrue e X.env whole) (TP X pins σ Q) X.xe s
variable {e:Expr}
theorem PW.pt{t:TT}(h:PW X e t):PT X e t:=h _
def PA (X:Cx) (es:List Expr) (t:TA):Prop:=
 ∀(pos:Pos) (pins:List (Addr×Obj)) (s:Shared) (σ:St) (H:Hp) (Q:List V->Hp->Prop),Inv X pins σ H s->t σ H Q->wpAny (model X.prog X.w) X.A (spliced (backTo pos (starEach es X.env))) (AP X pins σ Q) X.xe s
def PS (X:Cx) (st:Stmt) (t:TS):Prop:=
 ∀(pins:List (Addr×Obj)) (s:Shared) (σ:St) (H:Hp) (D:Ends),Inv X pins σ H s->t D σ H->wpAny (model X.prog X.w) X.A (exec st X.env) (SP X pins D) X.xe s
def lR (X:Cx) (st:List Stmt) (t:TS):Prop:=
 ∀(pins:List (Addr×Obj)) (s:Shared) (σ:St) (H:Hp) (D:Ends),Inv X pins σ H s->t D σ H->wpAny (model X.prog X.w) X.A (execs st X.env) (SP X pins D) X.xe s
variable {α:Type}
theorem cg{t:Sem α}{Q Q':α->Shared->Prop}{s:Shared}(h:wpAny M A t Q E s)(hQ:∀a s,Q a s->Q' a s):wpAny M A t Q' E s:=wpAny_mono h hQ fun _ _ x=>x
open PySem PySem.Spec PyProof.Rows
def TM (i:Nat):TE:=fun σ H Q=>∃v,σ[i]?=some (some v)/\Q v H
def tC (v:V):TE:=fun _ H Q=>Q v H
variable {pos:Pos}
theorem mS(hN:X.N[i]?=some x)(hv:nA X.env.scope x)(hd:(x==("__debug__" : Str))=false:=by decide)(gB:(x==("__classdict__" : Str))=false:=by decide):PE X (.Name x pos) (TM i):=by
 intro pins s σ H Q I h;obtain⟨v,e,h⟩:=h;obtain⟨m,hn,hl⟩:=I.loc;obtain⟨u,r,l⟩:=hl i x v hN e hv;have fin:EP X pins σ Q u s:=⟨v,H,I,r,h⟩;rcases l with⟨hk,hm⟩|⟨hk,c,hc,Ki⟩
 ·exact wpAny_Name (wpAny_loadName_local I.ok.kind hk hn hm fin) hd
 ·rcases hk with hk|hk
  ·exact wpAny_Name (wpAny_loadName_cell I.ok.kind hk hc Ki fin) hd
  ·exact wpAny_Name (wpAny_loadName_free I.ok.kind hk hc Ki fin gB) hd
theorem ES{i j pos}:PE X (.Constant (.int i) j pos) (tC (.int i)):=fun _ _ _ H _ I h=>wpAny_Constant_int ⟨.int i,H,I.tok _,⟨_,rfl⟩,h⟩
theorem Qz{b j pos}:PE X (.Constant (.bool b) j pos) (tC (.bl b)):=fun _ _ _ H _ I h=>Constant_bool ⟨.bl b,H,I,rfl,h⟩
theorem NA{j pos}:PE X (.Constant .none j pos) (tC .bR):=fun _ _ _ H _ I h=>Constant_none ⟨.bR,H,I,rfl,h⟩
theorem Nw{x j pos}:PE X (.Constant (.str x) j pos) (tC (.str x)):=fun _ _ _ H _ I h=>Calls.Constant_str ⟨.str x,H,I.tok _,⟨_,rfl⟩,h⟩
def Gl (X:Cx) (x:Str):Prop:=X.env.kindOf x=some .globalImplicit
theorem BL{s:Shared}{σ:St}{Q:Value->Shared->Prop}(I:Inv X pins σ H s)(hg:Gl X x)(hm:X.mg x=some u)(h:Q u s)(hd:(x==("__debug__" : Str))=false:=by decide):wpAny (model X.prog X.w) X.A (eval (.Name x pos) X.env) Q E s:=
 Calls.Name_function_global I.ok.kind hg (Calls.loadGlobal_global (by rw[I.ok.glob];exact I.mod.glob.keeps I.bk) hm h) hd
theorem mW{s:Shared}{σ:St}{Q:Value->Shared->Prop}(I:Inv X pins σ H s)(hg:Gl X x)(hm:X.mg x=none)(hv:bootBuiltins x=some u)(h:Q u s)(hn:x≠"__name__":=by decide)(hd:(x==("__debug__" : Str))=false:=by decide):wpAny (model X.prog X.w) X.A (eval (.Name x pos) X.env) Q E s:=by
 obtain⟨mb,h1,h2⟩:=I.mod.blt;exact Calls.Name_function_global I.ok.kind hg (Calls.loadGlobal_builtin (by rw[I.ok.glob];exact I.mod.glob.keeps I.bk) hm (by rw[I.ok.blt];exact h1.keeps I.bk) ((h2 x hn).trans hv) h) hd
theorem LC(hg:Gl X x)(hm:X.mg x=some u)(r:RelV v u)(hd:(x==("__debug__" : Str))=false:=by decide):PE X (.Name x pos) (tC v):=
 fun _ _ _ H _ I h=>BL I hg hm ⟨v,H,I,r,h⟩ hd
theorem LD(hg:Gl X x)(hm:X.mg x=none)(hv:bootBuiltins x=some u)(r:RelV v u)(hn:x≠"__name__":=by decide)(hd:(x==("__debug__" : Str))=false:=by decide):PE X (.Name x pos) (tC v):=
 fun _ _ _ H _ I h=>mW I hg hm hv ⟨v,H,I,r,h⟩ hn hd
def Uc (t u:TT):TT:=fun σ H Q=>t σ H fun c H1=>if c=true then u σ H1 Q else Q false H1
def Vo (t u:TT):TT:=fun σ H Q=>t σ H fun c H1=>if c=true then Q true H1 else u σ H1 Q
def TY (t:TT):TT:=fun σ H Q=>t σ H fun c H1=>Q (!c) H1
variable {tA:TT} {a:Expr}
theorem Ll(ha:PT X a tA):PW X (.BoolOp .And [a] pos) tA:=by
 intro wh pins s σ H Q I h;refine isTrue_and (cg (ha pins s σ H Q I h) fun c s1 e=>?_);cases c with
 |true=>exact isTrue_and_nil e
 |false=>exact e
theorem Nk(ha:PT X a tA):PW X (.BoolOp .Or [a] pos) tA:=by
 intro wh pins s σ H Q I h;refine isTrue_or (cg (ha pins s σ H Q I h) fun c s1 e=>?_);cases c with
 |false=>exact isTrue_or_nil e
 |true=>exact e
variable {JC:TT} {b:Expr}
variable {rest:List Expr} in
theorem Nl(ha:PT X a tA)(hb:PW X (.BoolOp .And (b::rest) pos) JC):PW X (.BoolOp .And (a::b::rest) pos) (Uc tA JC):=by
 intro wh pins s σ H Q I h;refine isTrue_and (cg (ha pins s σ H _ I h) fun c s1 ⟨H1,I1,q1⟩=>?_);cases c with
 |true=>exact hb wh pins s1 σ H1 Q I1 q1
 |false=>exact⟨H1,I1,q1⟩
variable {rest:List Expr} in
theorem Qs(ha:PT X a tA)(hb:PW X (.BoolOp .Or (b::rest) pos) JC):PW X (.BoolOp .Or (a::b::rest) pos) (Vo tA JC):=by
 intro wh pins s σ H Q I h;refine isTrue_or (cg (ha pins s σ H _ I h) fun c s1 ⟨H1,I1,q1⟩=>?_);cases c with
 |true=>exact⟨H1,I1,q1⟩
 |false=>exact hb wh pins s1 σ H1 Q I1 q1
theorem Nn(ha:PT X a tA):PT X (.UnaryOp .Not a pos) (TY tA):=by
 intro pins s σ H Q I h;exact isTrue_not (ha pins s σ H (fun c H1=>Q (!c) H1) I h)
variable {tb ta:TE}
def Ql (ta tb:TE):TE:=fun σ H Q=>ta σ H fun x H1=>∃c,x=.bl c/\if c=true then tb σ H1 Q else Q (.bl false) H1
def TV (ta tb:TE):TE:=fun σ H Q=>ta σ H fun x H1=>∃c,x=.bl c/\if c=true then Q (.bl true) H1 else tb σ H1 Q
def Qf (ta:TE):TE:=fun σ H Q=>ta σ H fun x H1=>∃c,x=.bl c/\Q (.bl (!c)) H1
theorem Ny{op}{t:TE}(h:PE X a t):PE X (.BoolOp op [a] pos) t:=fun pins s σ H Q I hw=>BoolOp_one (h pins s σ H Q I hw)
variable {rest:List Expr} in
theorem NB(ha:PE X a ta)(hb:PE X (.BoolOp .And (b::rest) pos) tb):PE X (.BoolOp .And (a::b::rest) pos) (Ql ta tb):=by
 intro pins s σ H Q I h;refine BoolOp_and (cg (ha pins s σ H _ I h) fun v s1 ⟨x,H1,I1,r1,q1⟩=>?_);obtain⟨c,rfl,q1⟩:=q1;cases r1;refine wpAny_truthy_bool ?_;cases c with
 |true=>exact hb pins s1 σ H1 Q I1 q1
 |false=>exact⟨.bl false,H1,I1,rfl,q1⟩
variable {rest:List Expr} in
theorem Qx(ha:PE X a ta)(hb:PE X (.BoolOp .Or (b::rest) pos) tb):PE X (.BoolOp .Or (a::b::rest) pos) (TV ta tb):=by
 intro pins s σ H Q I h;refine BoolOp_or (cg (ha pins s σ H _ I h) fun v s1 ⟨x,H1,I1,r1,q1⟩=>?_);obtain⟨c,rfl,q1⟩:=q1;cases r1;refine wpAny_truthy_bool ?_;cases c with
 |false=>exact hb pins s1 σ H1 Q I1 q1
 |true=>exact⟨.bl true,H1,I1,rfl,q1⟩
theorem Nz(ha:PE X a ta):PE X (.UnaryOp .Not a pos) (Qf ta):=by
 intro pins s σ H Q I h;refine UnaryOp_ (cg (ha pins s σ H _ I h) fun v s1 ⟨x,H1,I1,r1,q1⟩=>?_);obtain⟨c,rfl,q1⟩:=q1;cases r1;exact not_of (wpAny_truthy_bool ⟨.bl (!c),H1,I1,rfl,q1⟩)
def Vp (t:TT) (ta tb:TE):TE:=fun σ H Q=>t σ H fun c H1=>if c=true then ta σ H1 Q else tb σ H1 Q
variable {c:Expr}
theorem HS(hc:PT X c tA)(ha:PE X a ta)(hb:PE X b tb):PE X (.IfExp c a b pos) (Vp tA ta tb):=by
 intro pins s σ H Q I h;refine wpAny_IfExp (cg (hc pins s σ H _ I h) fun d s1 ⟨H1,I1,q1⟩=>?_);cases d with
 |true=>exact ha pins s1 σ H1 Q I1 q1
 |false=>exact hb pins s1 σ H1 Q I1 q1
open PySem PySem.Spec PyProof.Rows
def fR (K:Frag) (H:Hp) (a:Addr) (xs:List V):Prop:=
 Rd H a (.lst xs)\/
  ∃(o:Obj) (ak:Array Value) (n:Nat),K.lookup a=some o/\o.cls=.type "list"/\o.dict=none/\o.data=.seq ak n/\ak.size<=sizeLine/\Vals xs ak.toList
def jv (K:Frag) (H:Hp) (a:Addr) (xs:List V):Prop:=
 Rd H a (.tup xs)\/
  ∃(o:Obj) (ak:Array Value) (n:Nat),K.lookup a=some o/\o.cls=.type "tuple"/\o.data=.seq ak n/\ak.size<=sizeLine/\Vals xs ak.toList
def V8:Value->Option V
 | .none=>some .bR
 | .bool b=>some (.bl b)
 | .int i _=>some (.int i)
 | .str x _=>some (.str x)
 | .bytes b _=>some (.nr b)
 | .float b _=>some (.OV b)
 | .ref a=>some (.ref a)
 | .type n=>some (.ty n)
 |_=>none
theorem RelV.abs{x:V}(r:RelV x u):V8 u=some x:=by
 cases x with
 |bR=>cases r;rfl
 |bl _=>cases r;rfl
 |int _=>obtain⟨t,rfl⟩:=r;rfl
 |str _=>obtain⟨t,rfl⟩:=r;rfl
 |nr _=>obtain⟨t,rfl⟩:=r;rfl
 |OV _=>obtain⟨t,rfl⟩:=r;rfl
 |ref _=>cases r;rfl
 |ty _=>cases r;rfl
theorem RelV.inj{x y:V}(r:RelV x u)(q:RelV y u):x=y:=Option.some.inj (r.abs.symm.trans q.abs)
theorem Vals.inj:∀{xs ys:List V} {us:List Value},Vals xs us->Vals ys us->xs=ys
 |_,_,_,.nil,.nil=>rfl
 |_,_,_,.cons r t,.cons r' t'=>by rw[r.inj r',Vals.inj t t']
variable {a:Addr} {K:Frag}
theorem fR.of(h:H a=some (.lst xs)):fR K H a xs:=.inl (.inl h)
variable {σ:St}
variable {s:Shared} in
theorem Inv.list(I:Inv X pins σ H s)(h:fR X.K H a xs):∃ak:List Value,Vals xs ak/\PlainL s.heap a ak.toArray/\xs.length<=sizeLine:=by
 rcases h with h|⟨o,ak,n,hk,hc,hd,hs,hz,r⟩
 ·obtain⟨z,ak,n,r,e⟩:=h.ok I.bw;exact⟨ak,r,⟨_,n,e,rfl,rfl,rfl⟩,z⟩
 ·refine⟨ak.toList,r,⟨o,n,I.q9 a o hk,hc,hd,by simpa using hs⟩,?_⟩;have e:=r.length;simp only[length_toList]at e;omega
variable {s:Shared} in
theorem Inv.tuple(I:Inv X pins σ H s)(h:jv X.K H a xs):∃ak:List Value,Vals xs ak/\IsTup s.heap a ak.toArray/\xs.length<=sizeLine:=by
 rcases h with h|⟨o,ak,n,hk,hc,hs,hz,r⟩
 ·obtain⟨z,ak,r,p⟩:=h.ok I.bw;exact⟨ak,r,p,z⟩
 ·refine⟨ak.toList,r,⟨o,I.q9 a o hk,hc,n,by simpa using hs⟩,?_⟩;have e:=r.length;simp only[length_toList]at e;omega
variable {ys:List V}
variable {s:Shared} in
theorem Inv.tE(I:Inv X pins σ H s)(h:fR X.K H a xs)(h':fR X.K H a ys):xs=ys:=by
 obtain⟨ak,r,⟨o,n,e,_,_,d⟩,_⟩:=I.list h;obtain⟨its',r',⟨o',n',e',_,_,d'⟩,_⟩:=I.list h';rw[e]at e';cases e';rw[d]at d';injection d' with d1 _;have:ak=its':=by simpa using congrArg toList d1
 subst this;exact r.inj r'
variable {s:Shared} in
theorem Inv.wU(I:Inv X pins σ H s)(h:jv X.K H a xs)(h':jv X.K H a ys):xs=ys:=by
 obtain⟨ak,r,⟨o,e,_,n,d⟩,_⟩:=I.tuple h;obtain⟨its',r',⟨o',e',_,n',d'⟩,_⟩:=I.tuple h';rw[e]at e';cases e';rw[d]at d';injection d' with d1 _;have:ak=its':=by simpa using congrArg toList d1
 subst this;exact r.inj r'
abbrev Cx.o8 (X:Cx) (E:Value->Shared->Prop):Cx:={X with xe:=E}
abbrev Cx.oK (X:Cx):Cx:=X.o8 fun _ _=>False
theorem Cx.Ok.o8(ok:X.Ok)(E:Value->Shared->Prop):(X.o8 E).Ok:=
 ⟨ok.mod,ok.kind,ok.glob,ok.blt,ok.above,ok.inj,ok.has,ok.GZ,ok.hd,ok.frames,ok.JE,ok.Cc,ok.bs,ok.xS,ok.vW,ok.wm,ok.n9,ok.C5⟩
theorem Cx.Ok.lI(ok:(X.o8 E).Ok):X.Ok:=
 ⟨ok.mod,ok.kind,ok.glob,ok.blt,ok.above,ok.inj,ok.has,ok.GZ,ok.hd,ok.frames,ok.JE,ok.Cc,ok.bs,ok.xS,ok.vW,ok.wm,ok.n9,ok.C5⟩
variable {s:Shared} in
theorem Inv.o8(I:Inv X pins σ H s)(E:Value->Shared->Prop):Inv (X.o8 E) pins σ H s:=⟨I.ok.o8 E,I.os,I.bare,I.base,I.loc,I.cell,I.free,I.jU,I.pin,I.bw,I.len⟩
variable {s:Shared} in
theorem Inv.lI(I:Inv (X.o8 E) pins σ H s):Inv X pins σ H s:=⟨I.ok.lI,I.os,I.bare,I.base,I.loc,I.cell,I.free,I.jU,I.pin,I.bw,I.len⟩
variable {D:Ends}
theorem SP.lI{f:Flow}(h:SP (X.o8 E) pins D f s'):SP X pins D f s':=by
 cases f with
 |next=>obtain⟨bI,H',I,q⟩:=h;exact⟨bI,H',I.lI,q⟩
 |brk=>obtain⟨bI,H',I,q⟩:=h;exact⟨bI,H',I.lI,q⟩
 |cont=>obtain⟨bI,H',I,q⟩:=h;exact⟨bI,H',I.lI,q⟩
 |ret u=>obtain⟨v,bI,H',I,r,q⟩:=h;exact⟨v,bI,H',I.lI,r,q⟩
variable {t:TS}
theorem lR.oK{st:List Stmt}(h:lR X.oK st t):lR X st t:=fun pins s σ H D I hw=>
 wpAny_mono (h pins s σ H D (I.o8 _) hw) (fun _ _ q=>q.lI) fun _ _ z=>False.elim z
def Qg:TS:=fun D σ H=>D.nx σ H
variable {u:TS}
def TQ (t u:TS):TS:=fun D σ H=>t {D with nx:=u D} σ H
theorem Lo:lR X [] Qg:=fun _ _ σ H _ I h=>wpAny_execs_nil ⟨σ,H,I,h⟩
variable {st:Stmt}
variable {rest:List Stmt} in
theorem HJ(h1:PS X st t)(h2:lR X rest u):lR X (st::rest) (TQ t u):=by
 intro pins s σ H D I h;refine wpAny_execs_cons (cg (h1 pins s σ H {D with nx:=u D} I h) fun f s1 q=>?_);cases f with
 |next=>
  obtain⟨bI,H',I',q⟩:=q;exact h2 pins s1 bI H' D I' q
 |ret v=>exact q
 |brk=>exact q
 |cont=>exact q
theorem Bo(h1:PS X st t):lR X [st] t:=by
 intro pins s σ H D I h;refine wpAny_execs_cons (cg (h1 pins s σ H D I h) fun f s1 q=>?_);cases f with
 |next=>exact wpAny_execs_nil q
 |ret v=>exact q
 |brk=>exact q
 |cont=>exact q
theorem Inv.quiet{σ:St}{s:Shared}(I:Inv X pins σ H s):interactive X.env=false:=by simp[interactive,I.ok.kind]
variable {te:TE}
def Qj (te:TE):TS:=fun D σ H=>te σ H fun _ H1=>D.nx σ H1
theorem Lp(he:PE X e te)(hs:swapsWith e none pos.line X.env=pure false:=by rfl):PS X (.Expr e pos) (Qj te):=by
 intro pins s σ H D I h;exact wpAny_Expr_any (cg (he pins s σ H _ I h) fun v s1 ⟨x,H1,I1,r1,q1⟩=>⟨σ,H1,I1,q1⟩) I.quiet hs
def TR (te:TE):TS:=fun D σ H=>te σ H D.rt
theorem uF(he:PE X e te):PS X (.Return (some e) pos) (TR te):=by
 intro pins s σ H D I h;exact wpAny_Return_some (cg (he pins s σ H _ I h) fun v s1 ⟨x,H1,I1,r1,q1⟩=>⟨x,σ,H1,I1,r1,q1⟩)
def Ua (c:TT) (t u:TS):TS:=fun D σ H=>c σ H fun b H1=>if b=true then t D σ H1 else u D σ H1
theorem JM{a b:List Stmt}{tc:TT}(hc:PT X c tc)(ha:lR X a t)(hb:lR X b u):PS X (.If c a b pos) (Ua tc t u):=by
 intro pins s σ H D I h;refine wpAny_If (cg (hc pins s σ H _ I h) fun d s1 ⟨H1,I1,q1⟩=>?_);cases d with
 |true=>exact ha pins s1 σ H1 D I1 q1
 |false=>exact hb pins s1 σ H1 D I1 q1
abbrev TG:=V->St->Hp->(St->Hp->Prop)->Prop
abbrev sS:=List V->St->Hp->(St->Hp->Prop)->Prop
def PG (X:Cx) (target:Expr) (t:TG):Prop:=
 ∀(pins:List (Addr×Obj)) (s:Shared) (σ:St) (H:Hp) (v:V) (u:Value) (Q:St->Hp->Prop),Inv X pins σ H s->RelV v u->t v σ H Q->
  wpAny (model X.prog X.w) X.A (assign target X.env u) (fun _ s'=>∃bI H',Inv X pins bI H' s'/\Q bI H') X.xe s
def Ax (X:Cx) (ts:List Expr) (t:sS):Prop:=
 ∀(pins:List (Addr×Obj)) (s:Shared) (σ:St) (H:Hp) (vs:List V) (us:List Value) (Q:St->Hp->Prop),Inv X pins σ H s->Vals vs us->t vs σ H Q->
  wpAny (model X.prog X.w) X.A (assignInOrder ((assignEach ts X.env).map (·.2)) us) (fun _ s'=>∃bI H',Inv X pins bI H' s'/\Q bI H') X.xe s
abbrev DP:=V->V->V->Hp->(Hp->Prop)->Prop
def Je (X:Cx) (t:DP):Prop:=
 ∀(pins:List (Addr×Obj)) (s:Shared) (σ:St) (H:Hp) (o i v:V) (ov iv u:Value) (Q:Hp->Prop),Inv X pins σ H s->RelV o ov->RelV i iv->RelV v u->t o i v H Q->
  wpAny (model X.prog X.w) X.A (setItem ov iv u) (fun _ s'=>∃H',Inv X pins σ H' s'/\Q H') X.xe s
def Dy (i:Nat):TG:=fun v σ H Q=>Q (σ.set i (some v)) H
theorem Ly(hN:X.N.Nodup)(hi:X.N[i]?=some x)(hx:Loc X.env.scope x)(hf:X.fn x=true\/X.env.scope.names.lookup x=some .local:=by first|exact .inl rfl|exact .inr rfl|assumption):PG X (.Name x pos) (Dy i):=by
 intro pins s σ H v u Q I r h;exact wpAny_assign_Name (p9 I hN hi hx r (fun s' I'=>⟨_,H,I',h⟩) hf)
def UU:sS:=fun vs σ H Q=>vs=[]/\Q σ H
def QZ (t:TG) (u:sS):sS:=fun vs σ H Q=>∃v r,vs=v::r/\t v σ H fun bI H'=>u r bI H' Q
theorem Lx:Ax X [] UU:=by
 intro pins s σ H vs us Q I r h;obtain⟨e,h⟩:=h;subst e;cases r;exact assignInOrder_nil ⟨σ,H,I,h⟩
variable {es:List Expr}
theorem HR{t:TG}{u:sS}(h1:PG X e t)(h2:Ax X es u)(hs:(assignEach (e::es) X.env).map (·.2)=assign e X.env::(assignEach es X.env).map (·.2):=by rfl):Ax X (e::es) (QZ t u):=by
 intro pins s σ H vs us Q I r h;obtain⟨v,vr,e1,h⟩:=h;subst e1;cases r with
 |cons r rr=>
  rw[hs];refine assignInOrder_cons (cg (h1 pins s σ H _ _ _ I r h) fun _ s1 ⟨AM,H1,I1,q1⟩=>?_);exact h2 pins s1 AM H1 _ _ Q I1 rr q1
def US (K:Frag) (n:Nat) (t:sS):TG:=fun v σ H Q=>∃a xs,v=.ref a/\jv K H a xs/\xs.length=n/\t xs σ H Q
theorem Nv{k:Nat}{t:sS}{n:Nat}(hc:X.calm=true)(h:Ax X es t)(hn:(assignEach es X.env).length=n:=by rfl)(fm:(assignEach es X.env).findIdx? (·.1)=none:=by rfl):PG X (.Tuple es k pos) (US X.K n t):=by
 intro pins s σ H v u Q I r hw;obtain⟨a,xs,e1,hq,hl,hw⟩:=hw;subst e1;cases r;obtain⟨ak,rv,ht,hz⟩:=I.tuple hq;refine assign_Tuple_tuple (I.ok.hd hc) ht (by simp[hn,<- hl,rv.length]) fm fun h' hx=>?_;have I1:Inv X pins σ H {s with heap:=h'}:=I.kept (t':=s.toks) fun b o e=>hx b o (ne_of_lt (lt_size e)) e;exact h pins _ σ H xs _ Q I1 (by simpa using rv) hw
def UT (to ti:TE) (t:DP):TG:=fun v σ H Q=>to σ H fun o H1=>ti σ H1 fun i H2=>t o i v H2 fun H3=>Q σ H3
theorem yX{o i:Expr}{to ti:TE}{t:DP}(ho:PE X o to)(hi:PE X i ti)(hs:Je X t)(ha:∀v,assign (.Subscript o i pos) X.env v=(do
   let ov <- holding [v] (eval o X.env);let iv <- holding [v,ov] (eval i X.env);standAt pos
   holding [v,ov,iv] (setItem ov iv v)
   release [v,ov,iv] []):=by intro _;rfl):PG X (.Subscript o i pos) (UT to ti t):=by
 intro pins s σ H v u Q I r h;rw[ha];refine wpAny_bind (wpAny_holding (cg (ho pins s σ H _ I h) fun ov s1 ⟨x,H1,I1,r1,q1⟩=>?_));refine wpAny_bind (wpAny_holding (cg (hi pins s1 σ H1 _ I1 q1) fun iv s2 ⟨y,H2,I2,r2,q2⟩=>?_));refine wpAny_bind (wpAny_standAt (wpAny_bind (wpAny_holding (cg (hs pins s2 σ H2 x y v ov iv u _ I2 r1 r2 r q2) fun _ s3 ⟨H3,I3,q3⟩=>?_))));exact wpAny_release ⟨σ,H3,I3,q3⟩
def Hr (te:TE) (g:TG):TS:=fun D σ H=>te σ H fun x H1=>g x σ H1 D.nx
variable {tg:Expr}
theorem qP{g:TG}(he:PE X e te)(hg:PG X tg g)(hs:swapsWithSole [tg] e pos.line X.env=pure false:=by rfl)(hw:swappedStores [tg] e X.env=pure none:=by rfl)(h1:(assignEach [tg] X.env).map (·.2)=[assign tg X.env]:=by rfl):PS X (.Assign [tg] e pos) (Hr te g):=by
 intro pins s σ H D I h;refine wpAny_Assign_stores (cg (he pins s σ H _ I h) fun v s1 ⟨x,H1,I1,r1,q1⟩=>?_) hs hw;rw[h1];exact cg (hg pins s1 σ H1 x v _ I1 r1 q1) fun _ s2 q=>q
variable {pos':Pos}
theorem qO(hN:X.N.Nodup)(hi:X.N[i]?=some x)(hx:Loc X.env.scope x)(he:PE X e te)(hs:swapsWith e (some (.Name x pos')) pos.line X.env=pure false:=by rfl)(hf:X.fn x=true\/X.env.scope.names.lookup x=some .local:=by first|exact .inl rfl|exact .inr rfl|assumption):
  PS X (.Assign [.Name x pos'] e pos) (Hr te (Dy i)):=by
 intro pins s σ H D I h;refine wpAny_Assign_Name (cg (he pins s σ H _ I h) fun v s1 ⟨y,H1,I1,r1,q1⟩=>?_) hs;exact p9 I1 hN hi hx r1 (fun s2 I2=>⟨_,H1,I2,q1⟩) hf
def TU (i j:Nat) (ta:TA):TS:=fun D σ H=>ta σ H fun vs H1=>∃v w,vs=[v,w]/\D.nx ((σ.set i (some v)).set j (some w)) H1
variable {a:Expr} {px:Pos}
theorem Np{j:Nat}{y:Str}{ta:TA}{py pt:Pos}{kt k2 yS}(hc:X.calm=true)(hN:X.N.Nodup)(hi:X.N[i]?=some x)(hj:X.N[j]?=some y)(OF:i≠j)(hx:X.env.scope.names.lookup x=some .local)(hy:X.env.scope.names.lookup y=some .local)(ha:PA X [a,b] ta)(hw:swappedStores [.Tuple [.Name x px,.Name y py] kt pt] (.Tuple [a,b] k2 yS) X.env=pure (some [x,y]))(hs:swapsWithSole [.Tuple [.Name x px,.Name y py] kt pt] (.Tuple [a,b] k2 yS) pos.line X.env=pure false:=by rfl):
  PS X (.Assign [.Tuple [.Name x px,.Name y py] kt pt] (.Tuple [a,b] k2 yS) pos) (TU i j ta):=by
 intro pins s σ H D I h;rw[exec_Assign_arm];refine wpAny_bind (wpAny_standAt ?_);rw[hs];refine wpAny_bind (wpAny_pure ?_);rw[if_neg (by decide)];refine wpAny_bind (Tuple_ (cg (ha _ pins s σ H _ I h) fun us s1 ⟨vs,H1,I1,r1,q1⟩=>?_));obtain⟨v,w,e1,q1⟩:=q1;subst e1;obtain⟨u1,u2,rfl,rv,qG⟩:∃u1 u2,us=[u1,u2]/\RelV v u1/\RelV w u2:=by
  cases r1 with
  |cons p q=>
   cases q with
   |cons p' q'=>
    cases q';exact⟨_,_,rfl,p,p'⟩
 refine wpAny_newObj_type ?_ (by show 2<=sizeLine;decide);have I2:Inv X pins σ H1 {s1 with heap:=s1.heap.push {cls:=.type "tuple",data:=.seq [u1,u2].toArray}}:=I1.kept (t':=s1.toks) fun b o e=>get?_push_of_some _ e;rw[hw];refine wpAny_bind (wpAny_pure ?_);show wpAny (model X.prog X.w) X.A (do rule "assign.swapped-stores";let items <- unpackItems (.ref s1.heap.objs.size) 2 none;assignInOrder [fun v=>bindName X.env y v,fun v=>bindName X.env x v] items.reverse;pure Flow.next) _ _ _
 refine wpAny_bind (wpAny_rule (wpAny_bind (unpackItems_tuple (items:=#[u1,u2]) (I.ok.hd hc) (IsTup.new s1.heap _) fun h' xw=>?_)));have I3:=I2.kept (h':=h') (t':=s1.toks) fun b o e=>xw b o (ne_of_lt (lt_size e)) e;show wpAny _ _ (assignInOrder [fun v=>bindName X.env y v,fun v=>bindName X.env x v] [u2,u1] >>= fun _=>pure Flow.next) _ _ _
 refine wpAny_bind (assignInOrder_cons (wpAny_bindName (p9 I3 hN hj (.inl hy) qG (fun s2 I4=>?_) (.inr hy))));refine assignInOrder_cons (wpAny_bindName (p9 I4 hN hi (.inl hx) rv (fun s3 I5=>assignInOrder_nil (wpAny_pure ?_)) (.inr hx)));rw[List.set_comm _ _ (Ne.symm OF)]at I5;exact⟨_,H1,I5,q1⟩
def MP (c:TT) (tb:TS):TS:=fun D σ H=>∃W:Nat->St->Hp->Prop,(∃m,W m σ H)/\∀m σ H,W m σ H->
 c σ H fun b H1=>if b=true then ∃N:St->Hp->Prop,(∀bI H',N bI H'->∃m',m'<m/\W m' bI H')/\tb {D with nx:=N,ct:=N,bk:=D.nx} σ H1 else D.nx σ H1
variable {body:List Stmt}
theorem HL{tc:TT}{tb:TS}(hp:PassesOwn (model X.prog X.w) X.A X.env X.xe)(hc:PT X c tc)(hb:lR X body tb):PS X (.While c body [] pos) (MP tc tb):=by
 intro pins s σ H D I h;obtain⟨W,⟨m0,w0⟩,turn⟩:=h;refine wpAny_While (codeAny_whileLoop (fun n s'=>∃bI H',Inv X pins bI H' s'/\W n bI H') ?_ m0 ⟨σ,H,I,w0⟩);rintro n s1 ⟨AM,H1,I1,w1⟩;refine wpAny_passesOwn hp (cg (hc pins s1 AM H1 _ I1 (turn n AM H1 w1)) fun b s2 ⟨H2,I2,q2⟩=>?_);cases b with
 |true=>
  obtain⟨N,hN,q2⟩:=q2;rw[if_pos rfl];refine wpAny_passesOwn hp (cg (hb pins s2 AM H2 _ I2 q2) fun f s3 q3=>?_);cases f with
  |next=>
   obtain⟨qq,H3,I3,n3⟩:=q3;obtain⟨m',hm,w3⟩:=hN qq H3 n3;exact⟨m',hm,qq,H3,I3,w3⟩
  |cont=>
   obtain⟨qq,H3,I3,n3⟩:=q3;obtain⟨m',hm,w3⟩:=hN qq H3 n3;exact⟨m',hm,qq,H3,I3,w3⟩
  |brk=>exact q3
  |ret v=>exact q3
 |false=>
  rw[if_neg Bool.false_ne_true];exact wpAny_execs_nil ⟨AM,H2,I2,q2⟩
structure It where
 go:Nat->Hp->Prop
 wQ:Nat->Hp->V->Hp->Prop
 stop:Nat->Hp->Prop
def pZ (X:Cx) (pins:List (Addr×Obj)) (H:Hp) (b:Addr):Prop:=
 H b=none/\b≠X.env.locals/\b∉X.fs/\(b∈X.ex\/X.aR.heap.objs.size<=b)/\(∀x c,X.env.cells.lookup x=some c->c≠b)/\∀p∈X.pn++pins,p.1≠b
theorem Inv.wj{σ:St}{s:Shared}{b:Addr}(I:Inv X pins σ H s)(hb:s.heap.objs.size<=b)(hn:H' b=none):pZ X pins H' b:=by
 refine⟨hn,Nat.ne_of_gt (lt_of_lt_of_le I.lt hb),I.Ul hb,.inr (le_trans I.sz hb),fun x c e z=>?_,fun p hp z=>?_⟩
 ·obtain⟨v,q⟩:=I.cell x c e;exact absurd (lt_of_lt_of_le q.lt (by rw[z];exact hb)) (lt_irrefl _)
 ·exact absurd (lt_of_lt_of_le (lt_size (I.pin p hp).1) (by rw[z];exact hb)) (lt_irrefl _)
structure Turn (P:Program) (w:World) (K:Frag) (tg:Expr) (J:It) (fp:List Addr) (it:Addr) (tn:Nat->Heap->Prop):Prop where
 mem:it∈fp
 obj:∀i h,tn i h->∀b∈fp,∃o,h.get? b=some o/\∀v,o.data≠.cell v
 keep:∀i h h',tn i h->(∀b∈fp,∀o,h.get? b=some o->h'.get? b=some o)->tn i h'
 item:∀(X:Cx),X.prog=P->X.w=w->X.K=K->X.calm=true->∀(i:Nat) (pins:List (Addr×Obj)) (s:Shared) (σ:St) (H:Hp) (E:Value->Shared->Prop),Inv X pins σ H s->(∀b∈fp,pZ X pins H b)->tn i s.heap->J.go i H->
  wpAny (model P w) X.A (pyNext (.ref it)) (fun r s1=>∃u,r=some u/\
   wpAny (model P w) X.A (letOwnedTupleGo tg (.ref it) u) (fun _ s2=>∃x H',Inv X pins σ H' s2/\RelV x u/\J.wQ i H x H'/\tn (i+1) s2.heap/\∀b∈fp,H' b=none) E s1) E s
 done:∀(X:Cx),X.prog=P->X.w=w->X.K=K->X.calm=true->∀(i:Nat) (pins:List (Addr×Obj)) (s:Shared) (σ:St) (H:Hp) (E:Value->Shared->Prop),Inv X pins σ H s->(∀b∈fp,pZ X pins H b)->tn i s.heap->J.stop i H->
  wpAny (model P w) X.A (pyNext (.ref it)) (fun r s1=>r=none/\Inv X pins σ H s1) E s
 self:∀(A:Around) (i:Nat) (s:Shared) (Q:Value->Shared->Prop) (E:Value->Shared->Prop),tn i s.heap->Q (.ref it) s->wpAny (model P w) A (pyIter (.ref it)) Q E s
abbrev TI:=St->Hp->(It->Hp->Prop)->Prop
def PL (X:Cx) (pins:List (Addr×Obj)) (σ:St) (tg:Expr) (R:It->Hp->Prop) (K5:Value) (s2:Shared):Prop:=
 ∃(it:Addr) (fp:List Addr) (tn:Nat->Heap->Prop) (J:It) (H':Hp),K5=.ref it/\Inv X pins σ H' s2/\Turn X.prog X.w X.K tg J fp it tn/\tn 0 s2.heap/\(∀b∈fp,pZ X pins H' b)/\R J H'
def PI (X:Cx) (tg iter:Expr) (wi:TI):Prop:=
 ∀(pins:List (Addr×Obj)) (s:Shared) (σ:St) (H:Hp) (R:It->Hp->Prop),Inv X pins σ H s->wi σ H R->
  wpAny (model X.prog X.w) X.A (eval iter X.env) (fun v s1=>wpAny (model X.prog X.w) X.A (pyIter v) (PL X pins σ tg R) X.xe s1) X.xe s
theorem ym{s:Shared}{it:Addr}{u:Value}{n:String}{vs:Array Value}{Q:Unit->Shared->Prop}(ho:s.heap.get? it=some o)(hc:o.cls=.type n)(hd:o.data=.fields vs)(hn:["enumerate","zip","dict_itemiterator","dict_reverseitemiterator","odict_iterator","itertools.zip_longest","itertools.pairwise"].contains n=false)(hQ:Q () s):wpAny M A (letOwnedTupleGo tg (.ref it) u) Q E s:=by
 unfold letOwnedTupleGo;cases tg<;>first
  |exact wpAny_pure hQ
  |(cases u<;>first
    |exact wpAny_pure hQ
    |(refine wpAny_bind (wpAny_load ho ?_)
      rw[hc,hd];show wpAny M A (if(["enumerate","zip","dict_itemiterator","dict_reverseitemiterator","odict_iterator","itertools.zip_longest","itertools.pairwise"].contains n&&vs[0]? == some (rawInt _))=true then _ else _) Q E s;rw[if_neg (by intro h;rw[hn,Bool.false_and]at h;cases h)];exact wpAny_pure hQ))
def PR (K:Frag) (a:Addr):It:=
 ⟨fun i H=>∃xs x,fR K H a xs/\xs[i]?=some x,fun i H x H'=>H'=H/\∀xs,fR K H a xs->xs[i]?=some x,fun i H=>∃xs,fR K H a xs/\xs.length<=i⟩
def PQ (K:Frag) (a:Addr):It:=
 ⟨fun i H=>∃xs x,jv K H a xs/\xs[i]?=some x,fun i H x H'=>H'=H/\∀xs,jv K H a xs->xs[i]?=some x,fun i H=>∃xs,jv K H a xs/\xs.length<=i⟩
def KL (lo:Int) (n:Nat):It:=⟨fun i _=>i<n,fun i H x H'=>H'=H/\x=.int (lo+i),fun i _=>n<=i⟩
theorem E9(a it:Addr):Turn P w K tg (PR K a) [it] it (fun i h=>h.IsListIter it a i) where
 mem:=by simp
 obj:=fun i h st b hb=>by
  have e:b=it:=by simpa using hb
  subst e;obtain⟨o,e,c,d⟩:=st;exact⟨o,e,fun v z=>by rw[d]at z;cases z⟩
 keep:=fun i h h' st k=>st.at fun o e=>k it (by simp) o e
 item:=by
  intro X hP hw hK hc i pins s σ H E I hf st hg;subst hP hw hK;obtain⟨xs,x,hq,hx⟩:=hg;obtain⟨ak,rv,p,hz⟩:=I.list hq;obtain⟨u,hu,ru⟩:=rv.get hx;obtain⟨f0,f1,f2,f3,f4,f5⟩:=hf it (by simp);refine wpAny_pyNext_list_item st p.isList (x:=u) (by simpa using hu) fun h' wX sb=>?_;have I1:Inv X pins σ H {s with heap:=h'}:=I.turned (t':=s.toks) (fun b o hb e=>(sb.2 b hb).trans e) f0 f1 f3 f4 f5;obtain⟨o,e,c,d⟩:=id wX;exact⟨u,rfl,ym (s:={s with heap:=h'}) e c d (by decide) ⟨x,H,I1,ru,⟨rfl,fun ys hy=>by rw[I.tE hy hq];exact hx⟩,wX,fun b hb=>(hf b hb).1⟩⟩
 done:=by
  intro X hP hw hK hc i pins s σ H E I hf st hg;subst hP hw hK;obtain⟨xs,hq,hx⟩:=hg;obtain⟨ak,rv,p,hz⟩:=I.list hq;obtain⟨f0,f1,f2,f3,f4,f5⟩:=hf it (by simp);have hl:=rv.length;exact wpAny_pyNext_list_end (I.ok.hd hc) st p.isList (by simp;omega) fun h' eb=>⟨rfl,I.turned (t':=s.toks) (fun b o hb e=>eb b o hb e) f0 f1 f3 f4 f5⟩
 self:=fun _ _ _ _ _ st h=>wpAny_pyIter_listiter st h
theorem CC(a it:Addr):Turn P w K tg (PQ K a) [it] it (fun i h=>h.IsTupleIter it a i) where
 mem:=by simp
 obj:=fun i h st b hb=>by
  have e:b=it:=by simpa using hb
  subst e;obtain⟨o,e,c,d⟩:=st;exact⟨o,e,fun v z=>by rw[d]at z;cases z⟩
 keep:=fun i h h' st k=>st.at fun o e=>k it (by simp) o e
 item:=by
  intro X hP hw hK hc i pins s σ H E I hf st hg;subst hP hw hK;obtain⟨xs,x,hq,hx⟩:=hg;obtain⟨ak,rv,p,hz⟩:=I.tuple hq;obtain⟨u,hu,ru⟩:=rv.get hx;obtain⟨f0,f1,f2,f3,f4,f5⟩:=hf it (by simp);refine wpAny_pyNext_tuple_item st (show s.heap.IsTuple a ak.toArray from p) (x:=u) (by simpa using hu) fun h' wX sb=>?_;have I1:Inv X pins σ H {s with heap:=h'}:=I.turned (t':=s.toks) (fun b o hb e=>(sb.2 b hb).trans e) f0 f1 f3 f4 f5;obtain⟨o,e,c,d⟩:=id wX;exact⟨u,rfl,ym (s:={s with heap:=h'}) e c d (by decide) ⟨x,H,I1,ru,⟨rfl,fun ys hy=>by rw[I.wU hy hq];exact hx⟩,wX,fun b hb=>(hf b hb).1⟩⟩
 done:=by
  intro X hP hw hK hc i pins s σ H E I hf st hg;subst hP hw hK;obtain⟨xs,hq,hx⟩:=hg;obtain⟨ak,rv,p,hz⟩:=I.tuple hq;obtain⟨f0,f1,f2,f3,f4,f5⟩:=hf it (by simp);have hl:=rv.length;exact wpAny_pyNext_tuple_end (I.ok.hd hc) st (show s.heap.IsTuple a ak.toArray from p) (by simp;omega) fun h' eb=>⟨rfl,I.turned (t':=s.toks) (fun b o hb e=>eb b o hb e) f0 f1 f3 f4 f5⟩
 self:=fun _ _ _ _ _ st h=>wpAny_pyIter_tupleiter st h
theorem CD(it:Addr)(lo:Int)(n:Nat):Turn P w K tg (KL lo n) [it] it (fun i h=>IsRangeIter h it (lo+(i:Nat)*1) ((n:Int)-(i:Nat)) 1) where
 mem:=by simp
 obj:=fun i h st b hb=>by
  have e:b=it:=by simpa using hb
  subst e;exact⟨_,st,fun v z=>by
   have z':Data.fields _=Data.cell v:=z;cases z'⟩
 keep:=fun i h h' st k=>k it (by simp) _ st
 item:=by
  intro X hP hw hK hc i pins s σ H E I hf st hg;subst hP hw hK;obtain⟨f0,f1,f2,f3,f4,f5⟩:=hf it (by simp);have W:=Walks.range (prog:=X.prog) (w:=X.w) (I.ok.hd hc) it lo 1 n;refine W.item i s _ _ hg st fun v h' tk hv wX kk=>?_;obtain⟨t,rfl⟩:=hv;have I1:Inv X pins σ H {s with heap:=h',toks:=tk}:=I.turned (fun b o hb e=>kk b o (by simpa using hb) e) f0 f1 f3 f4 f5;refine⟨_,rfl,ym (s:={s with heap:=h',toks:=tk}) (n:="range_iterator") wX rfl rfl (by decide) ⟨.int (lo+i),H,I1,⟨t,?_⟩,⟨rfl,rfl⟩,wX,fun b hb=>(hf b hb).1⟩⟩;rw[Int.mul_one]
 done:=by
  intro X hP hw hK hc i pins s σ H E I hf st hg;subst hP hw hK;obtain⟨f0,f1,f2,f3,f4,f5⟩:=hf it (by simp);exact wpAny_pyNext_range_end (I.ok.hd hc) st (by have:n<=i:=hg;omega) fun h' eb=>⟨rfl,I.turned (t':=s.toks) (fun b o hb e=>eb b o hb e) f0 f1 f3 f4 f5⟩
 self:=fun _ _ _ _ _ st h=>wpAny_pyIter_rangeiter st h
open PySem PySem.Spec PyProof.Rows
theorem Hy{σ:St}{s:Shared}{R:It->Hp->Prop}{lo hi:Int}{t u v:Tok}{tk:Nat}(I:Inv X pins σ H s)(h1: -(2^62)<=lo)(h2:lo<2^62)(h3: -(2^62)<=hi)(h4:hi<2^62)(q:R (KL lo (hi-lo).toNat) H):wpAny (model X.prog X.w) X.A (pyIter (.ref s.heap.objs.size)) (PL X pins σ tg R) E {s with heap:=s.heap.push {cls:=.type "range",data:=.fields #[.int lo t,.int hi u,.int 1 v]},toks:=tk}:=by
 refine wpAny_pyIter_range (IsRange.new ..) (small_one h1 h2 h3 h4) ?_;have I1:Inv X pins σ H {s with heap:=s.heap.push {cls:=.type "range",data:=.fields #[.int lo t,.int hi u,.int 1 v]},toks:=tk}:=I.kept fun b o e=>get?_push_of_some _ e;refine⟨(s.heap.push {cls:=.type "range",data:=.fields #[.int lo t,.int hi u,.int 1 v]}).objs.size,[(s.heap.push {cls:=.type "range",data:=.fields #[.int lo t,.int hi u,.int 1 v]}).objs.size],_,_,H,rfl,
  I1.kept (t':=tk) fun b o e=>get?_push_of_some _ e,CD _ lo (hi-lo).toNat,?_,fun b hb=>?_,q⟩
 ·have e1:lo+((0:Nat):Int)*1=lo:=by simp
  have e2:(((hi-lo).toNat:Nat):Int)-((0:Nat):Int)=Builtin.Range.rangeSize lo hi 1:=by rw[rangeSize_one];split<;>omega
  show IsRangeIter _ _ (lo+((0:Nat):Int)*1) ((((hi-lo).toNat:Nat):Int)-((0:Nat):Int)) 1;rw[e1,e2];exact get?_push_size _ rfl
 ·have e:b=(s.heap.push {cls:=.type "range",data:=.fields #[.int lo t,.int hi u,.int 1 v]}).objs.size:=by simpa using hb
  subst e;exact I1.wj (le_refl _) (I1.bw.fresh (le_refl _))
def QL (ta:TA):TI:=fun σ H R=>ta σ H fun vs H1=>∃j:Int,vs=[.int j]/\-(2^62)<=j/\j<2^62/\R (KL 0 j.toNat) H1
theorem xk{ta:TA}{p:Pos}(hg:Gl X "range")(hm:X.mg "range"=none)(ha:PA X [a] ta)(hs:starEach [a] X.env=[(false,eval a X.env)]:=by rfl):PI X tg (.Call (.Name "range" p) [a] [] pos) (QL ta):=by
 intro pins s σ H R I h;refine Call_ (mW I hg hm boot_range (PyProof.Rows.callWith_type1 (cg (ha pos pins s σ H _ I h) fun us s1 ⟨vs,H1,I1,r1,q1⟩=>?_) hs rfl));obtain⟨j,e,q1,q2,q⟩:=q1;subst e;cases r1 with
 |cons r rr=>
  cases rr;obtain⟨t,rfl⟩:=r;exact call_range_1 (Hy I1 (by omega) (by omega) q1 q2 (by simpa using q))
def Ub (wi:TI) (g:TG) (tb:TS):TS:=fun D σ H=>wi σ H fun J H1=>∃W:Nat->Nat->St->Hp->Prop,(∃m,W 0 m σ H1)/\∀i m σ H,W i m σ H->
 (J.stop i H/\D.nx σ H)\/(J.go i H/\∃N:St->Hp->Prop,(∀bI H',N bI H'->∃m',m'<m/\W (i+1) m' bI H')/\∀x H',J.wQ i H x H'->g x σ H' fun gn H2=>tb {D with nx:=N,ct:=N,bk:=D.nx} gn H2)
def oH (fp:List Addr) (h:Heap):List (Addr×Obj):=fp.filterMap fun b=>(h.get? b).map fun o=>(b,o)
variable {fp:List Addr}
theorem jo{b:Addr}(hb:b∈fp)(e:h.get? b=some o):(b,o)∈oH fp h:=List.mem_filterMap.mpr ⟨b,hb,by rw[e];rfl⟩
theorem F4{p:Addr×Obj}(hp:p∈oH fp h):p.1∈fp/\h.get? p.1=some p.2:=by
 obtain⟨b,hb,e⟩:=List.mem_filterMap.mp hp;cases q:h.get? b with
 |none=>rw[q]at e;cases e
 |some o=>
  rw[q]at e;have e':(b,o)=p:=Option.some.inj e;subst e';exact⟨hb,q⟩
theorem Inv.pinned{σ:St}{s:Shared}(I:Inv X pins σ H s)(hf:∀b∈fp,pZ X pins H b)(ho:∀b∈fp,∃o,s.heap.get? b=some o/\∀v,o.data≠.cell v):Inv X (pins++oH fp s.heap) σ H s:=
 I.kh fun p hp=>(mem_append.mp hp).elim (fun z=>I.pin p (mem_append_right _ z)) fun z=>by
  obtain⟨hb,e⟩:=F4 z;obtain⟨f0,f1,f2,_⟩:=hf p.1 hb;obtain⟨o,e',d⟩:=ho p.1 hb;rw[e]at e';cases e';exact⟨e,f0,f1,f2,d⟩
theorem Inv.sW{pl:List (Addr×Obj)}{σ:St}{s:Shared}(I:Inv X (pins++pl) σ H s):Inv X pins σ H s:=I.kh fun p hp=>I.pin p (mem_append_right _ (mem_append_left _ hp))
variable {iter:Expr} {wi:TI}
theorem yU{g:TG}{tb:TS}(hp:PassesOwn (model X.prog X.w) X.A X.env X.xe)(hc:X.calm=true)(hi:PI X tg iter wi)(hg:PG X tg g)(hb:lR X body tb)(hs:∀x,foldedSetIterable iter X.env x=pure x:=by intro _;rfl):PS X (.For tg iter body [] pos) (Ub wi g tb):=by
 intro pins s σ H D I h;refine wpAny_For (cg (hi pins s σ H _ I h) fun v s1 h1=>cg h1 fun K5 s2 h2=>?_) hs;obtain⟨it,fp,tn,J,H2,e,I2,T,kC,f2,W,⟨m0,w0⟩,turn⟩:=h2;subst e

 have mM:∀{H':Hp},(∀b∈fp,H' b=none)->∀b∈fp,pZ X pins H' b:=fun hn b hb=>⟨hn b hb,(f2 b hb).2⟩;refine codeAny_forLoop_any (fun n s'=>∃i bI H',Inv X pins bI H' s'/\tn i s'.heap/\(∀b∈fp,H' b=none)/\W i n bI H') ?_ m0 ⟨0,σ,H2,I2,kC,fun b hb=>(f2 b hb).1,w0⟩;rintro n s3 ⟨i,qq,H3,I3,Rm,Ss,w3⟩;rcases turn i n qq H3 w3 with⟨stop,qn⟩|⟨go,N,hN,step⟩
 ·refine wpAny_passesOwn hp (cg (T.done X rfl rfl rfl hc i pins s3 qq H3 X.xe I3 (mM Ss) Rm stop) fun r s4 ⟨hr,I4⟩=>?_);subst hr;exact wpAny_execs_nil ⟨qq,H3,I4,qn⟩
 ·refine wpAny_passesOwn hp (cg (T.item X rfl rfl rfl hc i pins s3 qq H3 X.xe I3 (mM Ss) Rm go) fun r s4 ⟨u,hr,h4⟩=>?_);subst hr;refine wpAny_passesOwn hp (cg h4 fun _ s5 ⟨x,H5,I5,r5,y5,qB,Gi⟩=>?_);have Hc:=I5.pinned (mM Gi) (T.obj _ _ qB);refine wpAny_passesOwn hp (cg (hg _ s5 qq H5 x u _ Hc r5 (step x H5 y5)) fun _ s6 ⟨tW,H6,I6,q6⟩=>?_);refine wpAny_passesOwn hp (cg (hb _ s6 tW H6 _ I6 q6) fun f s7 q7=>?_);have again:∀{qp:St} {H7:Hp},Inv X (pins++oH fp s5.heap) qp H7 s7->N qp H7->∃m,m<n/\∃i bI H',Inv X pins bI H' s7/\tn i s7.heap/\(∀b∈fp,H' b=none)/\W i m bI H':=fun{qp H7} I7 n7=>by
   obtain⟨m',hm,w7⟩:=hN qp H7 n7;refine⟨m',hm,i+1,qp,H7,I7.sW,T.keep _ _ _ qB fun b hb o e=>(I7.pin (b,o) (mem_append_right _ (mem_append_right _ (jo hb e)))).1,fun b hb=>?_,w7⟩;obtain⟨o,e,d⟩:=T.obj _ _ qB b hb;exact(I7.pin (b,o) (mem_append_right _ (mem_append_right _ (jo hb e)))).2.1
  cases f with
  |next=>obtain⟨qp,H7,I7,n7⟩:=q7;exact again I7 n7
  |cont=>obtain⟨qp,H7,I7,n7⟩:=q7;exact again I7 n7
  |brk=>obtain⟨qp,H7,I7,q7⟩:=q7;exact⟨qp,H7,I7.sW,q7⟩
  |ret v=>obtain⟨x7,qp,H7,I7,r7,q7⟩:=q7;exact⟨x7,qp,H7,I7.sW,r7,q7⟩
open PySem PySem.Spec PyProof.Rows
abbrev R2:=V->V->Hp->VK->Prop
def dO (X:Cx) (f:Value->Value->Sem Value) (r:R2):Prop:=
 ∀(pins:List (Addr×Obj)) (s:Shared) (σ:St) (H:Hp) (x y:V) (v u:Value) (Q:VK),Inv X pins σ H s->RelV x v->RelV y u->r x y H Q->
  wpAny (model X.prog X.w) X.A (f v u) (EP X pins σ Q) X.xe s
def KG (X:Cx) (f:Value->Sem Value) (r:V->Hp->VK->Prop):Prop:=
 ∀(pins:List (Addr×Obj)) (s:Shared) (σ:St) (H:Hp) (x:V) (v:Value) (Q:VK),Inv X pins σ H s->RelV x v->r x H Q->
  wpAny (model X.prog X.w) X.A (f v) (EP X pins σ Q) X.xe s
def jt (X:Cx) (f:Value) (r:List V->Hp->VK->Prop):Prop:=
 ∀(pins:List (Addr×Obj)) (s:Shared) (σ:St) (H:Hp) (xs:List V) (us:List Value) (Q:VK),Inv X pins σ H s->Vals xs us->r xs H Q->
  wpAny (model X.prog X.w) X.A (call f us) (EP X pins σ Q) X.xe s
def V9 (X:Cx) (r:V->Hp->(Bool->Hp->Prop)->Prop):Prop:=
 ∀(pins:List (Addr×Obj)) (s:Shared) (σ:St) (H:Hp) (x:V) (v:Value) (Q:Bool->Hp->Prop),Inv X pins σ H s->RelV x v->r x H Q->
  wpAny (model X.prog X.w) X.A (truthy v) (TP X pins σ Q) X.xe s
def AX (r:R2) (ta tb:TE):TE:=fun σ H Q=>ta σ H fun x H1=>tb σ H1 fun y H2=>r x y H2 Q
def Vm (r:V->Hp->VK->Prop) (ta:TE):TE:=fun σ H Q=>ta σ H fun x H1=>r x H1 Q
def rI (C:Int->Int->Prop) (g:Int->Int->V):R2:=fun x y H Q=>∃i j,x=.int i/\y=.int j/\C i j/\Q (g i j) H
def xc (g:Int->Int->V):R2:=fun x y H Q=>∃i j,x=.int i/\y=.int j/\Q (g i j) H
def rU (g:Int->V):V->Hp->VK->Prop:=fun x H Q=>∃i,x=.int i/\Q (g i) H
variable {f:Value->Value->Sem Value}
theorem Jb(ha:PE X a ta)(hb:PE X b tb){s:Shared}{σ:St}{R:V->V->Hp->Prop}(I:Inv X pins σ H s)(h:ta σ H fun x H1=>tb σ H1 fun y H2=>R x y H2){Q:Value->Shared->Prop}(hf:∀v u s2 x y H2,Inv X pins σ H2 s2->RelV x v->RelV y u->R x y H2->wpAny (model X.prog X.w) X.A (f v u) Q X.xe s2):
  wpAny (model X.prog X.w) X.A (eval a X.env) (fun v bY=>wpAny (model X.prog X.w) X.A (eval b X.env) (fun u bD=>wpAny (model X.prog X.w) X.A (f v u) Q X.xe bD) X.xe bY) X.xe s:=by
 refine cg (ha pins s σ H _ I h) fun v s1 ⟨x,H1,I1,r1,q1⟩=>?_;refine cg (hb pins s1 σ H1 _ I1 q1) fun u s2 ⟨y,H2,I2,r2,q2⟩=>?_;exact hf v u s2 x y H2 I2 r1 r2 q2
theorem yf{op:Operator}{r:R2}(ho:dO X (binaryOp op) r)(ha:PE X a ta)(hb:PE X b tb):PE X (.BinOp a op b pos) (AX r ta tb):=by
 intro pins s σ H Q I h;exact wpAny_BinOp (Jb ha hb I h fun v u s2 x y H2 I2 rx ry q=>ho pins s2 σ H2 x y v u Q I2 rx ry q)
theorem Qw{op:UnaryOp}{r:V->Hp->VK->Prop}(ho:KG X (unaryOp op) r)(ha:PE X a ta):PE X (.UnaryOp op a pos) (Vm r ta):=by
 intro pins s σ H Q I h;exact UnaryOp_ (cg (ha pins s σ H _ I h) fun v s1 ⟨x,H1,I1,r1,q1⟩=>ho pins s1 σ H1 x v Q I1 r1 q1)
variable {C:Int->Int->Prop}
theorem F0{g:Int->Int->Int}(rule:∀(i j:Int) (t u:Tok) (s:Shared) (Q:Value->Shared->Prop) (E:Value->Shared->Prop),C i j->Q (.int (g i j) s.toks) {s with toks:=s.toks+1}->wpAny (model X.prog X.w) X.A (f (.int i t) (.int j u)) Q E s):
  dO X f (rI C fun i j=>.int (g i j)):=by
 intro pins s σ H x y v u Q I rx ry h;obtain⟨i,j,rfl,rfl,hc,q⟩:=h;obtain⟨t,rfl⟩:=rx;obtain⟨t',rfl⟩:=ry;exact rule i j t t' s _ _ hc ⟨.int (g i j),H,I.tok _,⟨_,rfl⟩,q⟩
theorem Uj{g:Int->Int->Int}(rule:∀(i j:Int) (t u:Tok) (s:Shared) (Q:Value->Shared->Prop) (E:Value->Shared->Prop),Q (.int (g i j) s.toks) {s with toks:=s.toks+1}->wpAny (model X.prog X.w) X.A (f (.int i t) (.int j u)) Q E s):
  dO X f (xc fun i j=>.int (g i j)):=by
 intro pins s σ H x y v u Q I rx ry h;obtain⟨i,j,rfl,rfl,q⟩:=h;obtain⟨t,rfl⟩:=rx;obtain⟨t',rfl⟩:=ry;exact rule i j t t' s _ _ ⟨.int (g i j),H,I.tok _,⟨_,rfl⟩,q⟩
theorem Df{g:Int->Int->Bool}(rule:∀(i j:Int) (t u:Tok) (s:Shared) (Q:Value->Shared->Prop) (E:Value->Shared->Prop),Q (.bool (g i j)) s->wpAny (model X.prog X.w) X.A (f (.int i t) (.int j u)) Q E s):
  dO X f (xc fun i j=>.bl (g i j)):=by
 intro pins s σ H x y v u Q I rx ry h;obtain⟨i,j,rfl,rfl,q⟩:=h;obtain⟨t,rfl⟩:=rx;obtain⟨t',rfl⟩:=ry;exact rule i j t t' s _ _ ⟨.bl (g i j),H,I,rfl,q⟩
def wO (i j:Int):Prop:=0<=j/\j<=1000000/\i.natAbs<2^64
theorem zg:dO X (binaryOp .Add) (xc fun i j=>.int (i+j)):=Uj fun _ _ _ _ _ _ _ q=>add_int q
theorem NF:dO X (binaryOp .Pow) (rI wO fun i j=>.int (i^j.toNat)):=F0 fun _ _ _ _ _ _ _ hc q=>pow_int_small hc.1 hc.2.1 hc.2.2 q
theorem Vl{f:Value->Sem Value}{g:Int->Int}(rule:∀(i:Int) (t:Tok) (s:Shared) (Q:Value->Shared->Prop) (E:Value->Shared->Prop),Q (.int (g i) s.toks) {s with toks:=s.toks+1}->wpAny (model X.prog X.w) X.A (f (.int i t)) Q E s):
  KG X f (rU fun i=>.int (g i)):=by
 intro pins s σ H x v Q I rx h;obtain⟨i,rfl,q⟩:=h;obtain⟨t,rfl⟩:=rx;exact rule i t s _ _ ⟨.int (g i),H,I.tok _,⟨_,rfl⟩,q⟩
theorem MK:KG X (unaryOp .USub) (rU fun i=>.int (-i)):=Vl fun _ _ _ _ _ q=>neg_int q
def N3:V->V->Bool
 | .bR,.bR=>true| .bR,.int _=>true| .int _,.bR=>true| .bR,.bl _=>true| .bl _,.bR=>true| .bR,.str _=>true| .str _,.bR=>true
 | .int _,.int _=>true| .bl _,.bl _=>true| .str _,.str _=>true| .nr _,.nr _=>true
 | .int _,.str _=>true| .str _,.int _=>true| .bl _,.str _=>true| .str _,.bl _=>true
 |_,_=>false
def Rv:R2:=fun x y H Q=>N3 x y=true/\Q (.bl (decide (x=y))) H
def Rt:R2:=fun x y H Q=>N3 x y=true/\Q (.bl (!decide (x=y))) H
theorem Cp{i j:Int}:decide (V.int i=V.int j)=(i==j):=by
 rw[Bool.eq_iff_iff];simp
theorem vi{i j:Bool}:decide (V.bl i=V.bl j)=(i==j):=by
 rw[Bool.eq_iff_iff];simp
theorem Co{i j:Str}:decide (V.str i=V.str j)=(i==j):=by
 rw[Bool.eq_iff_iff];simp
theorem Cq{i j:Array UInt8}:decide (V.nr i=V.nr j)=(i.toList==j.toList):=by
 rw[Bool.eq_iff_iff];cases i;cases j;simp
variable {Q:VK}
theorem bM{σ:St}{s:Shared}{k k':Bool}(I:Inv X pins σ H s)(q:Q (.bl k) H)(e:k=k'):EP X pins σ Q (.bool k') s:=by
 subst e;exact⟨.bl k,H,I,rfl,q⟩
theorem yg:dO X (compareOp .Eq) Rv:=by
 intro pins s σ H x y v u Q I rx ry h;obtain⟨hs,q⟩:=h;cases x with
 |bR=>
  cases rx;cases y with
  |bR=>cases ry;exact PySem.EqNone.eq_none_none (bM I q (by simp))
  |bl j=>cases ry;exact PySem.EqNone.eq_none_bool (bM I q (by simp))
  |int j=>obtain⟨t',rfl⟩:=ry;exact PySem.EqNone.eq_none_int (bM I q (by simp))
  |str j=>obtain⟨t',rfl⟩:=ry;exact PySem.EqNone.eq_none_str (bM I q (by simp))
  |_=>exact absurd (show false=true from hs) Bool.false_ne_true
 |bl i=>
  cases rx;cases y with
  |bR=>cases ry;exact PySem.EqNone.eq_bool_none (bM I q (by simp))
  |bl j=>cases ry;exact eq_bool (bM I q vi)
  |str j=>obtain⟨t',rfl⟩:=ry;exact PySem.EqMixed.eq_bool_str (bM I q (by simp))
  |_=>exact absurd (show false=true from hs) Bool.false_ne_true
 |int i=>
  obtain⟨t,rfl⟩:=rx;cases y with
  |bR=>cases ry;exact PySem.EqNone.eq_int_none (bM I q (by simp))
  |int j=>obtain⟨t',rfl⟩:=ry;exact eq_int (bM I q Cp)
  |str j=>obtain⟨t',rfl⟩:=ry;exact PySem.EqMixed.eq_int_str (bM I q (by simp))
  |_=>exact absurd (show false=true from hs) Bool.false_ne_true
 |str i=>
  obtain⟨t,rfl⟩:=rx;cases y with
  |bR=>cases ry;exact PySem.EqNone.eq_str_none (bM I q (by simp))
  |bl j=>cases ry;exact PySem.EqMixed.eq_str_bool (bM I q (by simp))
  |int j=>obtain⟨t',rfl⟩:=ry;exact PySem.EqMixed.eq_str_int (bM I q (by simp))
  |str j=>obtain⟨t',rfl⟩:=ry;exact eq_str (bM I q Co)
  |_=>exact absurd (show false=true from hs) Bool.false_ne_true
 |nr i=>
  obtain⟨t,rfl⟩:=rx;cases y with
  |nr j=>obtain⟨t',rfl⟩:=ry;exact PySem.W.eq_bytes (bM I q Cq)
  |_=>exact absurd (show false=true from hs) Bool.false_ne_true
 |_=>cases y<;>exact absurd (show false=true from hs) Bool.false_ne_true
theorem JR:dO X (compareOp .NotEq) Rt:=by
 intro pins s σ H x y v u Q I rx ry h;obtain⟨hs,q⟩:=h;cases x with
 |bR=>
  cases rx;cases y with
  |bR=>cases ry;exact PySem.EqNone.ne_none_none (bM I q (by simp))
  |bl j=>cases ry;exact PySem.EqNone.ne_none_bool (bM I q (by simp))
  |int j=>obtain⟨t',rfl⟩:=ry;exact PySem.EqNone.ne_none_int (bM I q (by simp))
  |str j=>obtain⟨t',rfl⟩:=ry;exact PySem.EqNone.ne_none_str (bM I q (by simp))
  |_=>exact absurd (show false=true from hs) Bool.false_ne_true
 |bl i=>
  cases rx;cases y with
  |bR=>cases ry;exact PySem.EqNone.ne_bool_none (bM I q (by simp))
  |bl j=>cases ry;exact ne_bool (bM I q (congrArg not vi))
  |str j=>obtain⟨t',rfl⟩:=ry;exact PySem.EqMixed.ne_bool_str (bM I q (by simp))
  |_=>exact absurd (show false=true from hs) Bool.false_ne_true
 |int i=>
  obtain⟨t,rfl⟩:=rx;cases y with
  |bR=>cases ry;exact PySem.EqNone.ne_int_none (bM I q (by simp))
  |int j=>obtain⟨t',rfl⟩:=ry;exact ne_int (bM I q (congrArg not Cp))
  |str j=>obtain⟨t',rfl⟩:=ry;exact PySem.EqMixed.ne_int_str (bM I q (by simp))
  |_=>exact absurd (show false=true from hs) Bool.false_ne_true
 |str i=>
  obtain⟨t,rfl⟩:=rx;cases y with
  |bR=>cases ry;exact PySem.EqNone.ne_str_none (bM I q (by simp))
  |bl j=>cases ry;exact PySem.EqMixed.ne_str_bool (bM I q (by simp))
  |int j=>obtain⟨t',rfl⟩:=ry;exact PySem.EqMixed.ne_str_int (bM I q (by simp))
  |str j=>obtain⟨t',rfl⟩:=ry;exact ne_str (bM I q (congrArg not Co))
  |_=>exact absurd (show false=true from hs) Bool.false_ne_true
 |nr i=>
  obtain⟨t,rfl⟩:=rx;cases y with
  |nr j=>obtain⟨t',rfl⟩:=ry;exact PySem.W.ne_bytes (bM I q (congrArg not Cq))
  |_=>exact absurd (show false=true from hs) Bool.false_ne_true
 |_=>cases y<;>exact absurd (show false=true from hs) Bool.false_ne_true
theorem JS:dO X (compareOp .Lt) (xc fun i j=>.bl (decide (i<j))):=Df fun _ _ _ _ _ _ _ q=>lt_int q
theorem QB:dO X (compareOp .LtE) (xc fun i j=>.bl (decide (i<=j))):=Df fun _ _ _ _ _ _ _ q=>le_int q
theorem JT:dO X (compareOp .Gt) (xc fun i j=>.bl (decide (j<i))):=Df fun _ _ _ _ _ _ _ q=>gt_int q
theorem QC:dO X (compareOp .GtE) (xc fun i j=>.bl (decide (j<=i))):=Df fun _ _ _ _ _ _ _ q=>ge_int q
theorem EY:dO X (compareOp .In) (fun x y H Q=>∃i j,x=.str i/\y=.str j/\Q (.bl (!(Builtin.Str.occurrences j i 0 j.length 1).isEmpty)) H):=by
 intro pins s σ H x y v u Q I rx ry h;obtain⟨i,j,rfl,rfl,q⟩:=h;obtain⟨t,rfl⟩:=rx;obtain⟨t',rfl⟩:=ry;exact in_str (bM I q rfl)
theorem NH:dO X (compareOp .Is) (fun x y H Q=>y=.bR/\Q (.bl (decide (x=.bR))) H):=by
 intro pins s σ H x y v u Q I rx ry h;obtain⟨rfl,q⟩:=h;cases ry;refine is_none_gen (bM I q ?_);cases x<;>first
  |(cases rx;rfl)
  |(obtain⟨t,rfl⟩:=rx;rfl)
theorem Bw:dO X (compareOp .IsNot) (fun x y H Q=>y=.bR/\Q (.bl (!decide (x=.bR))) H):=by
 intro pins s σ H x y v u Q I rx ry h;obtain⟨rfl,q⟩:=h;cases ry;refine isnot_none_gen (bM I q ?_);cases x<;>first
  |(cases rx;rfl)
  |(obtain⟨t,rfl⟩:=rx;rfl)
variable {r:R2}
theorem dO.or{r':R2}(h:dO X f r)(h':dO X f r'):dO X f (fun x y H Q=>r x y H Q\/r' x y H Q):=by
 intro pins s σ H x y v u Q I rx ry q;rcases q with q|q
 ·exact h pins s σ H x y v u Q I rx ry q
 ·exact h' pins s σ H x y v u Q I rx ry q
variable {op:CmpOp}
theorem fj(b:Expr)(h:op≠.In:=by decide)(h2:op≠.NotIn:=by decide):behindInMarks op b=false:=by
 have e1:(op==CmpOp.In)=false:=by cases op<;>first|rfl|exact absurd rfl h
 have e2:(op==CmpOp.NotIn)=false:=by cases op<;>first|rfl|exact absurd rfl h2
 cases b<;>simp[behindInMarks,e1,e2]
theorem Bs(ho:dO X (compareOp op) r)(ha:PE X a ta)(hb:PE X b tb)(hm:behindInMarks op b=false):PE X (.Compare a [op] [b] pos) (AX r ta tb):=by
 intro pins s σ H Q I h;exact wpAny_Compare1 (Jb ha hb I h fun v u s2 x y H2 I2 rx ry q=>ho pins s2 σ H2 x y v u Q I2 rx ry q) hm
def Jx (t:TE):TT:=fun σ H Q=>t σ H fun x H'=>∃k,x=.bl k/\Q k H'
theorem Bm(ho:dO X (compareOp op) r)(ha:PE X a ta)(hb:PE X b tb)(hm:behindInMarks op b=false):PT X (.Compare a [op] [b] pos) (Jx (AX r ta tb)):=by
 intro pins s σ H Q I h;refine wpAny_isTrue_Compare1 (cg (ha pins s σ H _ I h) fun v s1 ⟨x,H1,I1,r1,q1⟩=>cg (hb pins s1 σ H1 _ I1 q1) fun u s2 ⟨y,H2,I2,r2,q2⟩=>
  cg (ho pins s2 σ H2 x y v u _ I2 r1 r2 q2) fun c s3 ⟨z,H3,I3,r3,k,e,q3⟩=>?_) hm
 subst e;cases r3;exact wpAny_truthy_bool ⟨H3,I3,q3⟩
def Jc (K:Frag) (x:V) (H:Hp) (k:Bool):Prop:=
 match x with
 | .bR=>k=false
 | .bl b=>k=b
 | .int i=>k=(i !=0)
 | .str y=>y.length<=sizeLine/\k=((y.length:Int) !=0)
 | .nr y=>y.size<=sizeLine/\k=((y.size:Int) !=0)
 | .ref p=>(∃xs,fR K H p xs/\k=!xs.isEmpty)\/(∃xs,jv K H p xs/\k=!xs.isEmpty)\/∃g9,H p=some (.dK g9)/\k=!g9.isEmpty
 |_=>False
theorem Dk{κ:Type}{g9:List (κ×V)}{vs:List (κ×Value)}(r:KV g9 vs):(!vs.isEmpty)=!g9.isEmpty:=by
 cases r<;>rfl
variable {ak:List Value}
theorem uT(r:Vals xs ak):(!ak.toArray.isEmpty)=!xs.isEmpty:=by
 cases r<;>simp
theorem qY:(sizeLine:Nat)<2^63:=by rw[sizeLine_eq];decide
theorem MN:V9 X (fun x H Q=>∃k,Jc X.K x H k/\Q k H):=by
 intro pins s σ H x v Q I rx h;obtain⟨k,e,q⟩:=h;have hl:=qY;have hs:sizeLine=16777216:=sizeLine_eq;cases x with
 |bR=>
  cases rx;have e':k=false:=e;subst e';exact truthy_none ⟨H,I,q⟩
 |bl b=>
  cases rx;have e':k=b:=e;subst e';exact wpAny_truthy_bool ⟨H,I,q⟩
 |int i=>
  obtain⟨t,rfl⟩:=rx;have e':k=(i !=0):=e;subst e';exact PySem.P.truthy_int ⟨H,I,q⟩
 |str y=>
  obtain⟨t,rfl⟩:=rx;obtain⟨hy,e'⟩:y.length<=sizeLine/\k=((y.length:Int) !=0):=e;subst e';exact PySem.P.truthy_str (by omega) ⟨H,I.tok _,q⟩
 |nr y=>
  obtain⟨t,rfl⟩:=rx;obtain⟨hy,e'⟩:y.size<=sizeLine/\k=((y.size:Int) !=0):=e;subst e';exact PySem.W.truthy_bytes (by omega) ⟨H,I.tok _,q⟩
 |ref p=>
  cases rx;have e':(∃xs,fR X.K H p xs/\k=!xs.isEmpty)\/(∃xs,jv X.K H p xs/\k=!xs.isEmpty)\/∃g9,H p=some (.dK g9)/\k=!g9.isEmpty:=e;rcases e' with⟨xs,hx,e'⟩|⟨xs,hx,e'⟩|⟨g9,hx,e'⟩
  ·subst e';obtain⟨ak,r,pl,hz⟩:=I.list hx;have hlen:=r.length;exact wpAny_truthy_list pl.isList (by simp only[size_toArray];omega) ⟨H,I.tok _,by rw[uT r];exact q⟩
  ·subst e';obtain⟨ak,r,pl,hz⟩:=I.tuple hx;have hlen:=r.length;exact truthy_tuple pl (by simp only[size_toArray];omega) ⟨H,I.tok _,by rw[uT r];exact q⟩
  ·subst e';obtain⟨hz,hS,vs,r,m⟩:g9.length<=sizeLine/\(p==sysModules)=false/\∃vs,KV g9 vs/\s.heap.DictOf (vY X.prog X.w) p vs:=I.bw p _ hx;have hlen:g9.length=vs.length:=Paired.length r;exact wpAny_truthy_dict hS m (by omega) ⟨H,I.tok _,by rw[Dk r];exact q⟩
 |_=>exact(show False from e).elim
theorem HI(ha:PE X a ta)(he:∀whole,isTrue a X.env whole=(do let v <- whole;standAt a.pos;holding [v] (truthy v))):
  PT X a (fun σ H Q=>ta σ H fun x H'=>∃k,Jc X.K x H' k/\Q k H'):=by
 intro pins s σ H Q I h;exact isTrue_plain (cg (ha pins s σ H _ I h) fun v s1 ⟨x,H1,I1,r1,q1⟩=>MN pins s1 σ H1 x v Q I1 r1 q1) (he _)
theorem pv:dO X (binaryOp .Add) (fun x y H Q=>∃i j,x=.str i/\y=.str j/\i.length+j.length<=sizeLine/\Q (.str (i++j)) H):=by
 intro pins s σ H x y v u Q I rx ry h;obtain⟨i,j,rfl,rfl,hz,q⟩:=h;obtain⟨t,rfl⟩:=rx;obtain⟨t',rfl⟩:=ry;exact add_str (fun t' tk=>⟨.str (i++j),H,I.tok _,⟨_,rfl⟩,q⟩) hz
theorem vals1{x:V}(r:Vals [x] us):∃u,us=[u]/\RelV x u:=by
 cases r with
 |cons r1 r2=>cases r2;exact⟨_,rfl,r1⟩
variable {y:V}
theorem vals2{x:V}(r:Vals [x,y] us):∃u w',us=[u,w']/\RelV x u/\RelV y w':=by
 cases r with
 |cons r1 r2=>
  cases r2 with
  |cons r3 r4=>cases r4;exact⟨_,_,rfl,r1,r3⟩
theorem J9:jt X (.builtin "abs") (fun xs H Q=>∃i,xs=[.int i]/\Q (.int (if i<0 then -i else i)) H):=by
 intro pins s σ H xs us Q I r h;obtain⟨i,rfl,q⟩:=h;obtain⟨u,rfl,t,rfl⟩:=vals1 r;exact call_abs_int fun u tk=>⟨.int (if i<0 then -i else i),H,I.tok _,⟨_,rfl⟩,q⟩
theorem GR(hc:X.calm=true):jt X (.builtin "max") (fun xs H Q=>∃i j,xs=[.int i,.int j]/\Q (.int (if j>i then j else i)) H):=by
 intro pins s σ H xs us Q I r h;obtain⟨i,j,rfl,q⟩:=h;obtain⟨u,w',rfl,⟨t,rfl⟩,⟨t',rfl⟩⟩:=vals2 r;refine max_two_ints (I.ok.hd hc) fun h' tk k=>⟨_,H,I.kept k,?_,q⟩;by_cases hj:j>i
 ·rw[if_pos hj,if_pos hj];exact⟨_,rfl⟩
 ·rw[if_neg hj,if_neg hj];exact⟨_,rfl⟩
theorem GU:jt X (.type "int") (fun xs H Q=>(∃i,xs=[.int i]/\Q (.int i) H)\/∃k,xs=[.bl k]/\Q (.int (if k then 1 else 0)) H):=by
 intro pins s σ H xs us Q I r h;rcases h with⟨i,rfl,q⟩|⟨k,rfl,q⟩
 ·obtain⟨u,rfl,t,rfl⟩:=vals1 r;exact call_int_int ⟨.int i,H,I,⟨_,rfl⟩,q⟩
 ·obtain⟨u,rfl,r1⟩:=vals1 r;cases r1;exact call_int_bool ⟨.int (if k then 1 else 0),H,I.tok _,⟨_,rfl⟩,q⟩
def PN (K:Frag) (x:V) (H:Hp) (n:Nat):Prop:=
 match x with
 | .str y=>y.length<=sizeLine/\n=y.length
 | .nr y=>y.size<=sizeLine/\n=y.size
 | .ref p=>(∃xs,fR K H p xs/\n=xs.length)\/∃xs,jv K H p xs/\n=xs.length
 |_=>False
theorem J8:jt X (.builtin "len") (fun xs H Q=>∃x n,xs=[x]/\PN X.K x H n/\Q (.int n) H):=by
 intro pins s σ H xs us Q I r h;obtain⟨x,n,rfl,e,q⟩:=h;obtain⟨u,rfl,rx⟩:=vals1 r;have hl:=qY;have hs:sizeLine=16777216:=sizeLine_eq;cases x with
 |str y=>
  obtain⟨t,rfl⟩:=rx;obtain⟨hy,e'⟩:y.length<=sizeLine/\n=y.length:=e;subst e';exact len_str (by omega) ⟨.int _,H,I.tok _,⟨_,rfl⟩,q⟩
 |nr y=>
  obtain⟨t,rfl⟩:=rx;obtain⟨hy,e'⟩:y.size<=sizeLine/\n=y.size:=e;subst e';exact PySem.W.len_bytes (by omega) ⟨.int _,H,I.tok _,⟨_,rfl⟩,q⟩
 |ref p=>
  cases rx;have e':(∃xs,fR X.K H p xs/\n=xs.length)\/∃xs,jv X.K H p xs/\n=xs.length:=e;rcases e' with⟨xs,hx,e'⟩|⟨xs,hx,e'⟩
  ·subst e';obtain⟨ak,r',pl,hz⟩:=I.list hx;have hlen:=r'.length;exact Calls.call_len_list pl.isList (by simp only[size_toArray];omega) ⟨.int xs.length,H,I.tok _,⟨_,by simp only[size_toArray];rw[hlen]⟩,q⟩
  ·subst e';obtain⟨ak,r',pl,hz⟩:=I.tuple hx;have hlen:=r'.length;exact len_tuple pl (by simp only[size_toArray];omega) ⟨.int xs.length,H,I.tok _,⟨_,by simp only[size_toArray];rw[hlen]⟩,q⟩
 |_=>exact(show False from e).elim
open PySem PySem.Spec PyProof.Rows
structure cA (k:Nat) (A:Around):Prop where
 hd:A.handled=none
 dp:A.depth+3*k+5<recursionLimit
 un:A.units+16*k+200<cLine
variable {j k:Nat}
theorem cA.mono(r:cA k A)(h:j<=k):cA j A:=⟨r.hd,by have:=r.dp;omega,by have:=r.un;omega⟩
theorem cA.deeper(r:cA (k+1) A)(env:Env):cA k (A.deeper env):=
 ⟨r.hd,by have:=r.dp;show A.depth+1+3*k+5<_;omega,by have:=r.un;show A.units+3+16*k+200<_;omega⟩
theorem cA.depth(r:cA k A):A.depth<recursionLimit:=by have:=r.dp;omega
theorem cA.units(r:cA k A):A.units+64<cLine:=by have:=r.un;omega
def TZ:TA:=fun _ H Q=>Q [] H
def Qk (ta:TE) (tr:TA):TA:=fun σ H Q=>ta σ H fun x H1=>tr σ H1 fun xs H2=>Q (x::xs) H2
theorem qS:PA X [] TZ:=fun _ _ _ _ H Q I h=>Calls.spliced_nil ⟨[],H,I,.nil,h⟩
variable {t:TA}
theorem kj(ha:PE X e te)(hr:PA X es t)(hs:starEach (e::es) X.env=(false,eval e X.env)::starEach es X.env:=by rfl):PA X (e::es) (Qk te t):=by
 intro pos pins s σ H Q I h;rw[hs];show wpAny _ _ (spliced ((false,eval e X.env)::backTo pos (starEach es X.env))) _ _ s;refine Calls.spliced_cons (cg (ha pins s σ H _ I h) fun u s1 ⟨x,H1,I1,r1,q1⟩=>?_);exact cg (hr pos pins s1 σ H1 _ I1 q1) fun us s2 ⟨xs,H2,I2,r2,q2⟩=>⟨x::xs,H2,I2,.cons r1 r2,q2⟩
def TN (t:TA):TE:=fun σ H Q=>t σ H fun xs H1=>xs.length<=sizeLine/\∀p,H1 p=none->Q (.ref p) (upd H1 p (.tup xs))
def U0 (t:TA):TE:=fun σ H Q=>t σ H fun xs H1=>xs.length<=sizeLine/\∀p,H1 p=none->Q (.ref p) (upd H1 p (.lst xs))
theorem EO{x1}(h:PA X es t):PE X (.Tuple es x1 pos) (TN t):=by
 intro pins s σ H Q I hq;refine wpAny_Tuple_spliced (cg (h pos pins s σ H _ I hq) fun us s1 ⟨xs,H1,I1,r,z,q⟩=>⟨by rw[<- r.length];exact z,?_⟩);have hf:H1 s1.heap.objs.size=none:=I1.bw.fresh (le_refl _);refine⟨.ref s1.heap.objs.size,upd H1 s1.heap.objs.size (.tup xs),I1.laid (t':=s1.toks) (fun b u e=>get?_push_of_some _ e) (le_refl _) ?_,rfl,q _ hf⟩;exact⟨z,us,r,⟨_,get?_push_size _ rfl,rfl,_,rfl⟩⟩
theorem ER(h:PA X es t):PE X (.List es pos) (U0 t):=by
 intro pins s σ H Q I hq;refine wpAny_List_spliced (cg (h pos pins s σ H _ I hq) fun us s1 ⟨xs,H1,I1,r,z,q⟩=>⟨by rw[<- r.length];exact z,?_⟩);have hf:H1 s1.heap.objs.size=none:=I1.bw.fresh (le_refl _);refine⟨.ref s1.heap.objs.size,upd H1 s1.heap.objs.size (.lst xs),I1.laid (t':=s1.toks) (fun b u e=>get?_push_of_some _ e) (le_refl _) ?_,rfl,q _ hf⟩;exact⟨z,us,0,r,get?_push_size _ rfl⟩
abbrev Sp:=List V->Hp->VK->XK->Prop
abbrev y6:=List Env->Hp->Shared->XK->Value->Shared->Prop
structure DW (P:Program) (w:World) (K:Frag) (mg:Str->Option Value) (base:Heap) (A:Around) (outer:List Env) (s:Shared) (H:Hp):Prop where
 frames:A.frames=some outer
 mod:Mod K mg base
 bs:∀b o,base.get? b=some o->s.heap.get? b=some o/\H b=none
 xS:base.objs.size<=s.heap.objs.size
 n9:s.heap.FunFrames base outer
 C5:∀b∈lL outer,H b=none
 bw:iJ P w H s.heap
 bare:AllBare s.gens
def CE (outer:List Env) (P:Program) (w:World) (H:Hp) (s:Shared) (Q:VK) (u:Value) (s':Shared):Prop:=
 ∃v H',s'.os=s.os/\AllBare s'.gens/\Un (lL outer) [] H H' s.heap s'.heap/\iJ P w H' s'.heap/\RelV v u/\Q v H'
def CR (CX:y6) (outer:List Env) (P:Program) (w:World) (H:Hp) (s:Shared) (Q:VK) (E:XK) (r:Result) (s':Shared):Prop:=
 match r with
 | .ok (.ret u)=>CE outer P w H s Q u s'
 | .ok _=>False
 | .error e=>CX outer H s E e s'
structure gJ (P:Program) (w:World) (K:Frag) (mg:Str->Option Value) (base:Heap) (CX:y6) (k:Nat) (f:Addr) (fd:FuncData) (ps:List Str) (sp:Sp):Prop where
 len:∀vs H Q E,sp vs H Q E->vs.length=ps.length
 run:∀(A:Around) (outer:List Env) (s:Shared) (H:Hp) (args:Args) (us:List Value) (vs:List V) (Q:VK) (E:XK),cA k A->DW P w K mg base A outer s H->BindsTo s fd args (ps.zip us)->Vals vs us->sp vs H Q E->
  codeAny (model P w) A (.call (.ref f) args) (CR CX outer P w H s Q E) s
variable {mg:Str->Option Value} {base:Heap} {CX:y6} {f:Addr} {fd:FuncData} {ps:List Str} {sp:Sp}
theorem gJ.mono(F:gJ P w K mg base CX j f fd ps sp)(h:j<=k):
  gJ P w K mg base CX k f fd ps sp:=⟨F.len,fun A outer s H args us vs Q E hr=>F.run A outer s H args us vs Q E (hr.mono h)⟩
theorem gJ.imp{Rp:Sp}(F:gJ P w K mg base CX k f fd ps sp)(h:∀vs H Q E,Rp vs H Q E->sp vs H Q E):gJ P w K mg base CX k f fd ps Rp:=
 ⟨fun vs H Q E q=>F.len vs H Q E (h _ _ _ _ q),fun A outer s H args us vs Q E hr he hb hv hs=>F.run A outer s H args us vs Q E hr he hb hv (h _ _ _ _ hs)⟩
variable {s:Shared} in
theorem Inv.UZ(I:Inv X pins σ H s):DW X.prog X.w X.K X.mg X.base X.A X.stack s H:=
 ⟨I.ok.frames,I.ok.mod,I.bs,le_trans I.ok.xS I.sz,I.stack,I.vK,I.bw,I.bare⟩
variable {u:Value}
variable {s:Shared} in
theorem Inv.after(I:Inv X pins σ H s)(h:CE X.stack X.prog X.w H s Q u s'):EP X pins σ Q u s':=by
 obtain⟨v,H',os,bare,un,bw,r,q⟩:=h;obtain⟨hh,g,d,t,VC⟩:=s';obtain rfl:VC=s.os:=os;exact⟨v,H',I.call (h':=hh) (g':=g) (d':=d) (t':=t) (ch:=[]) un bw bare (fun b z=>absurd z (by simp)),r,q⟩
def JA (sp:Sp) (xO:List V) (E:XK) (t:TA):TE:=fun σ H Q=>t σ H fun vs H1=>sp (vs++xO) H1 Q E
def Binds (K:Frag) (fd:FuncData) (ps:List Str) (ds:List Value):Prop:=
 ∀(s:Shared) (us:List Value),K.In s.heap->(us++ds).length=ps.length->BindsTo s fd ⟨us,[]⟩ (ps.zip (us++ds))
theorem Binds.all(h:∀us:List Value,us.length=ps.length->bindArgs fd ⟨us,[]⟩=pure (ps.zip us)):Binds K fd ps []:=fun s us _ hl=>by
 rw[append_nil]at hl ⊢;exact .of_eq (h us hl)
def Passes (CX:y6) (X:Cx) (E:XK):Prop:=∀(pins:List (Addr×Obj)) (σ:St) (H:Hp) (s:Shared) (e:Value) (s':Shared),Inv X pins σ H s->CX X.stack H s E e s'->X.xe e s'
variable {xO:List V} {E:XK} {ds:List Value}
theorem N7{σ:St}{s:Shared}{vs:List V}(F:gJ X.prog X.w X.K X.mg X.base CX k f fd ps sp)(hr:cA k X.A)(hb:Binds X.K fd ps ds)(hd:Vals xO ds)(hx:Passes CX X E)(I:Inv X pins σ H s)(r:Vals vs us)(h:sp (vs++xO) H Q E):wpAny (model X.prog X.w) X.A (call (.ref f) us) (EP X pins σ Q) X.xe s:=by
 have r2:Vals (vs++xO) (us++ds):=r.append hd;have hl:(us++ds).length=ps.length:=by rw[<- r2.length];exact F.len _ _ _ _ h
 refine wpAny_call (codeAny_mono (F.run X.A X.stack s H ⟨us,[]⟩ (us++ds) (vs++xO) Q E hr I.UZ (hb s us I.q9 hl) r2 h) fun r s' hq=>?_);cases r with
 |error e=>exact hx pins σ H s e s' I hq
 |ok fl=>
  cases fl with
  |ret u=>exact I.after hq
  |next=>exact False.elim hq
  |brk=>exact False.elim hq
  |cont=>exact False.elim hq
variable {p:Pos}
theorem oJ(F:gJ X.prog X.w X.K X.mg X.base CX k f fd ps sp)(hr:cA k X.A)(hg:Gl X x)(hm:X.mg x=some (.ref f))(hk:keepIn X.K (.ref f)=true)(hb:Binds X.K fd ps ds)(hd:Vals xO ds)(hx:Passes CX X E)(ha:PA X (e::es) t)(iI:(x==("__debug__" : Str))=false:=by decide)(he:starEach (e::es) X.env=(false,eval e X.env)::starEach es X.env:=by rfl)(dB:(backTo pos (starEach es X.env)).any (·.1)=false:=by rfl):
  PE X (.Call (.Name x p) (e::es) [] pos) (JA sp xO E t):=by
 intro pins s σ H Q I h;refine wpAny_Call_Name_kw (BL I hg hm ?_ iI);refine PySem.W.callWith_K (h₀:=X.base) I.ok.mod.O7 hk (cg (ha pos pins s σ H _ I h) fun us s1 ⟨vs,H1,I1,r,q⟩=>⟨I1.q9,?_⟩) he dB;exact N7 F hr hb hd hx I1 r q
structure gk (N P:List Str) (sc:Scope):Prop where
 kind:sc.kind=.function
 co:sc.isCoroutine=false
 gen:sc.isGenerator=false
 nd:N.Nodup
 pre:N.take P.length=P
 par:∀x∈P,sc.names.lookup x=some .local\/sc.names.lookup x=some .cell
 NP:∀y∈sc.names,y.2≠.free
theorem xT{kindOf:Str->Option NameKind}{x:Str}:∀{binds:List (Str×Value)} {m:Str->Option Value},(∀v,(x,v)∉binds)->bindL kindOf binds m x=m x
 |[],_,_=>rfl
 |(n,v)::r,m,h=>by
  unfold bindL;rw[xT fun w hw=>h w (mem_cons_of_mem _ hw)];split
  ·have:x≠n:=by rintro rfl;exact h v mem_cons_self
   simp[this]
  ·rfl
theorem xV{kindOf:Str->Option NameKind}{x:Str}:∀{binds:List (Str×Value)} {m:Str->Option Value},(∀v,(x,v)∉binds)->bindC kindOf binds m x=m x
 |[],_,_=>rfl
 |(n,v)::r,m,h=>by
  unfold bindC;rw[xV fun w hw=>h w (mem_cons_of_mem _ hw)];split
  ·rfl
  ·have:x≠n:=by rintro rfl;exact h v mem_cons_self
   simp[this]
theorem xU{kindOf:Str->Option NameKind}{x:Str}{v:Value}:∀{P:List Str} {vs:List Value} {i:Nat} {m:Str->Option Value},P.Nodup->P[i]?=some x->vs[i]?=some v->kindOf x=some .local->
  bindL kindOf (P.zip vs) m x=some v
 |[],_,_,_,_,h,_,_=>by simp at h
 |_::_,[],_,_,_,_,h,_=>by simp at h
 |p::P,w::vs,0,m,nd,h1,h2,hk=>by
  simp at h1 h2;subst h1;subst h2;show bindL kindOf ((p,w)::P.zip vs) m p=_;unfold bindL;rw[xT fun v hv=>(nodup_cons.mp nd).1 (of_mem_zip hv).1,if_pos hk];simp
 |p::P,w::vs,i+1,m,nd,h1,h2,hk=>by
  show bindL kindOf ((p,w)::P.zip vs) m x=_;unfold bindL;exact xU (i:=i) (nodup_cons.mp nd).2 (by simpa using h1) (by simpa using h2) hk
theorem xW{kindOf:Str->Option NameKind}{x:Str}{v:Value}:∀{P:List Str} {vs:List Value} {i:Nat} {m:Str->Option Value},P.Nodup->P[i]?=some x->vs[i]?=some v->kindOf x≠some .local->
  bindC kindOf (P.zip vs) m x=some v
 |[],_,_,_,_,h,_,_=>by simp at h
 |_::_,[],_,_,_,_,h,_=>by simp at h
 |p::P,w::vs,0,m,nd,h1,h2,hk=>by
  simp at h1 h2;subst h1;subst h2;show bindC kindOf ((p,w)::P.zip vs) m p=_;unfold bindC;rw[xV fun v hv=>(nodup_cons.mp nd).1 (of_mem_zip hv).1,if_neg hk];simp
 |p::P,w::vs,i+1,m,nd,h1,h2,hk=>by
  show bindC kindOf ((p,w)::P.zip vs) m x=_;unfold bindC;exact xW (i:=i) (nodup_cons.mp nd).2 (by simpa using h1) (by simpa using h2) hk
def start (N:List Str) (vs:List V):St:=vs.map some++List.replicate (N.length-vs.length) none
def k6 (CX:y6) (P:Program) (w:World) (K:Frag) (mg:Str->Option Value) (base:Heap) (N:List Str) (qual:Str) (scope:Scope) (f:Addr) (cd:Value) (A:Around) (outer:List Env) (s:Shared) (H:Hp) (E:XK):Cx where
 prog:=P
 w:=w
 K:=K
 mg:=mg
 base:=base
 A:=A.deeper (envOfC qual scope s.heap.objs.size f cd)
 N:=N
 aR:=s
 aj:=H
 env:=envOfC qual scope s.heap.objs.size f cd
 outer:=outer
 stack:=envOfC qual scope s.heap.objs.size f cd::outer
 ex:=[]
 calm:=true
 fn:=fun _=>true
 pn:=[]
 xe:=fun e s'=>wpAny (model P w) (A.deeper (envOfC qual scope s.heap.objs.size f cd)) (leaving (envOfC qual scope s.heap.objs.size f cd) e) (fun _ oD=>CX outer H s E e oD) (fun e' oD=>CX outer H s E e' oD) s'
variable {n:Nat}
theorem An{sc:Scope}(h:sc.names.lookup x=some .cell):∃c,(cellsFrom n sc.names []).lookup x=some c:=by
 have q:=PySem.W.cellsFrom_some sc.names n [] (.inl h);exact Option.isSome_iff_exists.mp q
variable {qual:Str} {scope:Scope}
theorem FI{cd:Value}{outer:List Env}{s s1:Shared}{vs:List V}(S:gk N ps scope)(hd:A.handled=none)(e0:DW P w K mg base A outer s H)(hl:vs.length=ps.length)(r:Vals vs us)(x:InCallC s s.heap.objs.size (bindL (envOfC qual scope s.heap.objs.size f cd).kindOf (ps.zip us) fun _=>none) (cellsFrom (s.heap.objs.size+1) scope.names []) (bindC (envOfC qual scope s.heap.objs.size f cd).kindOf (ps.zip us) fun _=>none) s1):
  Inv (k6 CX P w K mg base N qual scope f cd A outer s H E) [] (start N vs) H s1:=by
 have dB:ps.length<=N.length:=by have:=congrArg List.length S.pre;rw[length_take]at this;omega
 obtain⟨h1,tk,rfl,hk⟩:=x.done;have F7:∀b:Addr,b∉(k6 CX P w K mg base N qual scope f cd A outer s H E).ex:=fun b z=>absurd (show b∈([]:List Addr)from z) (by simp);refine⟨⟨e0.mod,S.kind,rfl,rfl,le_refl _,fun y z c h1 h2=>?_,fun y hy=>?_,fun y c _ h=>?_,fun _=>hd,Around.frames_deeper e0.frames,.inr ⟨rfl,rfl⟩,fun b z=>absurd z (F7 b),e0.bs,e0.xS,fun b _ _=>F7 b,fun b z=>absurd z (F7 b),e0.n9,e0.C5⟩,
  rfl,e0.bare,Un.kept hk,⟨_,x.toInCall.ns,fun i y v h1 h2 h3=>?_⟩,fun y c h=>⟨_,x.cell y c h⟩,e0.bw.fresh (le_refl _),fun y c h=>?_,fun p hp=>absurd (show p∈([]:List (Addr×Obj))from hp) (by simp),e0.bw.kept hk,?_⟩
 ·exact name_of_addr x.apart (PySem.mem_of_lookup h1) (PySem.mem_of_lookup h2)
 ·have hy:scope.names.lookup y=some .cell\/scope.names.lookup y=some .free:=hy;rcases hy with hy|hy
  ·exact An hy
  ·exact absurd rfl (S.NP _ (PySem.mem_of_lookup hy))
 ·exact Nat.le_of_lt (x.above y c (PySem.mem_of_lookup h))
 ·have hi:i<vs.length:=by
   unfold start at h2;by_cases hi:i<vs.length
   ·exact hi
   ·rw[getElem?_append_right (by simpa using hi)]at h2;rw[getElem?_replicate]at h2;split at h2<;>cases h2
  have ha:vs[i]?=some v:=by
   unfold start at h2;rw[getElem?_append_left (by simpa using hi),getElem?_map]at h2;cases e:vs[i]? with
   |none=>rw[e]at h2;cases h2
   |some a=>rw[e]at h2;cases h2;rfl
  obtain⟨u,hu,rv⟩:=r.get ha;have hp:ps[i]?=some y:=by
   rw[<- S.pre,List.getElem?_take_of_lt (by omega)];exact h1
  have RE:ps.Nodup:=by rw[<- S.pre];exact S.nd.sublist (List.take_sublist _ _)
  refine⟨u,rv,?_⟩;rcases S.par y (mem_of_getElem? hp)with k|k
  ·exact .inl ⟨k,xU RE hp hu k⟩
  ·obtain⟨c,e⟩:=An (n:=s.heap.objs.size+1) k;refine .inr ⟨.inl k,c,e,?_⟩;have q:=x.cell y c e;rw[xW RE hp hu (by show scope.names.lookup y≠_;rw[k];decide)]at q;exact q
 ·exact e0.bw.fresh (Nat.le_of_lt (x.above y c (PySem.mem_of_lookup h)))
 ·unfold start;show _=N.length;rw[length_append,length_map,length_replicate];omega
variable {doc pm bG ct oc:Value} {an od:Option Addr} {sD:Array (Option Value)}
theorem R3{name:Str}{params:Arguments}{dV kV:Value}(lk:K.lookup f=some ⟨oc,od,.func (fnOf name qual params body scope dV kV doc pm an bG ct),sD⟩)(gB:codeIn K bG qual=true)(S:gk N ps scope)(len:∀vs H Q E,sp vs H Q E->vs.length=ps.length)(hbody:∀(A:Around) (outer:List Env) (s:Shared) (H:Hp) (vs:List V) (Q:VK) (E:XK),cA k (A.deeper (envOfC qual scope s.heap.objs.size f bG))->sp vs H Q E->
   ∃t,lR (k6 CX P w K mg base N qual scope f bG A outer s H E) body t/\t {nx:=fun _ H'=>Q .bR H',rt:=Q} (start N vs) H):
  gJ P w K mg base CX (k+1) f (fnOf name qual params body scope dV kV doc pm an bG ct) ps sp:=by
 refine⟨len,fun A outer s H args us vs Q E hr e0 hb r lZ=>?_⟩;have hl:=len _ _ _ _ lZ;have KX:K.In s.heap:=e0.mod.O7.keeps fun b o e=>(e0.bs b o e).1;have lim:s.heap.NoLimit:=e0.mod.nolimit.keeps fun b o e=>(e0.bs b o e).1;have QR:∀y∈ps.zip us,scope.names.lookup y.1=some .local\/(scope.names.lookup y.1=some .cell/\((cellsFrom (s.heap.objs.size+1) scope.names []).lookup y.1).isSome=true):=fun⟨n,v⟩ hy=>by
  rcases S.par n (of_mem_zip hy).1 with q|q
  ·exact .inl q
  ·exact .inr ⟨q,PySem.W.cellsFrom_some _ _ _ (.inl q)⟩
 refine codeAny_call_function hr.depth (KX _ _ lk) rfl S.co S.gen rfl (PySem.W.codeRec_of KX gB) (hb _ _ _ _ ?_);refine wpAny_newFunctionEnv_cells S.kind QR fun env he s1 x=>?_;subst he;refine⟨lim.keeps x.toInCall.keep,codeAny_func ?_⟩;obtain⟨t,ht,hq⟩:=hbody A outer s H vs Q E (hr.deeper _) lZ;have I:Inv (k6 CX P w K mg base N qual scope f bG A outer s H E) [] (start N vs) H s1:=FI S hr.hd e0 hl r x;refine wpAny_mono (ht [] s1 (start N vs) H _ I hq) (fun fl s' hs=>?_) fun e s' hs=>hs;have fin:∀{bI:St} {H':Hp} {v:V} {u:Value},Inv (k6 CX P w K mg base N qual scope f bG A outer s H E) [] bI H' s'->RelV v u->Q v H'->CE outer P w H s Q u s':=
  fun{bI H' v u} J rv q=>⟨v,H',J.os,J.bare,J.base,J.bw,rv,q⟩
 cases fl with
 |ret u=>
  obtain⟨v,bI,H',J,rv,q⟩:=hs;exact fin J rv q
 |next=>
  obtain⟨bI,H',J,q⟩:=hs;exact fin (v:=V.bR) (u:=Value.none) J rfl q
 |brk=>
  obtain⟨_,_,_,q⟩:=hs;exact False.elim q
 |cont=>
  obtain⟨_,_,_,q⟩:=hs;exact False.elim q
open PySem PySem.Spec PyProof.Rows
variable {r:List V->Hp->VK->Prop}
def JB (r:List V->Hp->VK->Prop) (t:TA):TE:=fun σ H Q=>t σ H fun vs H1=>r vs H1 Q
variable {id:String}
theorem yZ(hc:jt X (.builtin id) r)(hg:Gl X x)(hm:X.mg x=none)(hv:bootBuiltins x=some (.builtin id))(ha:PA X (e::es) t)(hn:x≠"__name__":=by decide)(iI:(x==("__debug__" : Str))=false:=by decide)(he:starEach (e::es) X.env=(false,eval e X.env)::starEach es X.env:=by rfl)(dB:(backTo pos (starEach es X.env)).any (·.1)=false:=by rfl):PE X (.Call (.Name x p) (e::es) [] pos) (JB r t):=by
 intro pins s σ H Q I h;refine wpAny_Call_Name_kw (mW I hg hm hv ?_ hn iI);exact PyProof.Rows.callWith_builtin1 (cg (ha pos pins s σ H _ I h) fun us s1 ⟨vs,H1,I1,r1,q1⟩=>hc pins s1 σ H1 vs us Q I1 r1 q1) he dB
variable {T:String}
theorem nM(hc:jt X (.type T) r)(hg:Gl X x)(hm:X.mg x=none)(hv:bootBuiltins x=some (.type T))(ha:PA X (e::es) t)(hn:x≠"__name__":=by decide)(iI:(x==("__debug__" : Str))=false:=by decide)(he:starEach (e::es) X.env=(false,eval e X.env)::starEach es X.env:=by rfl)(dB:(backTo pos (starEach es X.env)).any (·.1)=false:=by rfl):PE X (.Call (.Name x p) (e::es) [] pos) (JB r t):=by
 intro pins s σ H Q I h;refine wpAny_Call_Name_kw (mW I hg hm hv ?_ hn iI);exact PyProof.Rows.callWith_type1 (cg (ha pos pins s σ H _ I h) fun us s1 ⟨vs,H1,I1,r1,q1⟩=>hc pins s1 σ H1 vs us Q I1 r1 q1) he dB
end
end L2
namespace HT
noncomputable section
open PySem PyProof.Rows
def c7 (n d:Nat):Option Int->Nat
 |none=>d
 |some v=>if v<0 then(v+(n:Int)).toNat else min v.toNat n
theorem t7(n d:Nat):c7 n d none=d:=rfl
theorem mB(n d k:Nat):c7 n d (some (k:Int))=min k n:=by
 show(if(k:Int)<0 then((k:Int)+(n:Int)).toNat else min (k:Int).toNat n)=min k n;rw[if_neg (by omega),toNat_natCast]
theorem N5(n d:Nat)(hd:d<=n)(o:Option Int):c7 n d o<=n:=by
 cases o with
 |none=>exact hd
 |some v=>
  show(if v<0 then(v+(n:Int)).toNat else min v.toNat n)<=n;by_cases hv:v<0
  ·rw[if_pos hv];omega
  ·rw[if_neg hv];exact Nat.min_le_right _ _
theorem Cr(v:Int)(n d:Nat):(if v<0 then max (v+(n:Int)) 0 else min v (n:Int))=((c7 n d (some v):Nat):Int):=by
 show(if v<0 then max (v+(n:Int)) 0 else min v (n:Int))=(((if v<0 then(v+(n:Int)).toNat else min v.toNat n):Nat):Int);by_cases hv:v<0
 ·simp only[if_pos hv];omega
 ·simp only[if_neg hv];omega
theorem DN(lo hi:Option Int)(n:Nat):Builtin.Slice.sliceAdjust lo hi 1 (n:Int)=(((c7 n 0 lo:Nat):Int),((c7 n n hi:Nat):Int)):=by
 have h1:¬((1:Int)<0):=by omega
 unfold Builtin.Slice.sliceAdjust;simp only[h1,if_false];refine Prod.ext ?_ ?_
 ·cases lo with
  |none=>rfl
  |some v=>exact Cr v n 0
 ·cases hi with
  |none=>rfl
  |some v=>exact Cr v n n
theorem Dc(i j:Nat):Builtin.Slice.slicePlaces (i:Int) (j:Int) 1=j-i:=by
 unfold Builtin.Slice.slicePlaces;have h1:(1:Int)>0:=by omega
 simp only[h1,if_true,Int.ediv_one];split<;>omega
variable {A:Around} {E:Value->Shared->Prop} {w:World} {prog:Program} {v:Value}
variable {s:Shared} in
theorem uj{o:Option Int}{Q:Option Int->Shared->Prop}(p:IsPart v o)(h:Q o s):wpAny (model prog w) A (Builtin.Slice.slicePartIndex v) Q E s:=by
 cases p with
 |none=>exact slicePart_none h
 |int i t=>exact slicePart_int h
variable {n:Nat}
variable {s:Shared} in
theorem t5{sl:Addr}{vl vu:Value}{lo hi:Option Int}{Q:Int×Int×Nat->Shared->Prop}(hs:s.heap.IsSliceOf sl vl vu .none)(pl:IsPart vl lo)(pu:IsPart vu hi)(h:Q (((c7 n 0 lo:Nat):Int),1,c7 n n hi-c7 n 0 lo) s):wpAny (model prog w) A (Builtin.Slice.sliceApplied (.ref sl) (pure (n:Int))) Q E s:=by
 obtain⟨os,gY,zS,Kh⟩:=id hs;unfold Builtin.Slice.sliceApplied Builtin.Slice.sliceFields;refine wpAny_bind (wpAny_bind (wpAny_field gY Kh (x:=vl) rfl (wpAny_bind (wpAny_field gY Kh (x:=vu) rfl (wpAny_bind (wpAny_field gY Kh (x:=.none) rfl (wpAny_pure ?_)))))));refine wpAny_bind (slicePart_none ?_);show wpAny _ _ (if((1:Int)==0)=true then _ else _) _ _ s;rw[if_neg (by decide)];refine wpAny_bind (uj pl (wpAny_bind (uj pu (wpAny_bind (wpAny_pure ?_)))));show wpAny _ _ (match Builtin.Slice.sliceAdjust lo hi 1 (n:Int)with|(lo,hi)=>pure (lo,(1:Int),Builtin.Slice.slicePlaces lo hi 1)) _ _ s
 rw[DN lo hi n];show wpAny _ _ (pure (((c7 n 0 lo:Nat):Int),(1:Int),Builtin.Slice.slicePlaces ((c7 n 0 lo:Nat):Int) ((c7 n n hi:Nat):Int) 1)) _ _ s;rw[Dc];exact wpAny_pure h
theorem HQ(xs:Array Value)(i k:Nat):((List.range k).filterMap fun(m:Nat)=>xs[((i:Int)+(m:Int)*1).toNat]?).toArray=((xs.toList.drop i).take k).toArray:=by
 have e:(fun(m:Nat)=>xs[((i:Int)+(m:Int)*1).toNat]?)=fun m=>xs[i+m]?:=by
  funext m
  have:((i:Int)+(m:Int)*1).toNat=i+m:=by omega
  rw[this]
 rw[e];have:=pick_run xs i k;rw[List.filterMap_map]at this;have e2:((fun x=>xs[x]?) ∘ fun x=>i+x)=fun m=>xs[i+m]?:=rfl;rw[e2]at this;rw[this]
variable {Q:Value->Shared->Prop}
variable {s:Shared} in
theorem sA{t sl:Addr}{items:Array Value}{vl vu:Value}{lo hi:Option Int}(ht:IsTup s.heap t items)(hs:s.heap.IsSliceOf sl vl vu .none)(pl:IsPart vl lo)(pu:IsPart vu hi)(hw:¬(c7 items.size 0 lo=0/\c7 items.size items.size hi=items.size))(h:Q (.ref s.heap.objs.size) {s with heap:=s.heap.push {cls:=.type "tuple",data:=.seq ((items.toList.drop (c7 items.size 0 lo)).take (c7 items.size items.size hi-c7 items.size 0 lo)).toArray}})(hsz:items.size<=sizeLine):wpAny (model prog w) A (getItem (.ref t) (.ref sl)) Q E s:=by
 have yj:sizeOk (.seq ((items.toList.drop (c7 items.size 0 lo)).take (c7 items.size items.size hi-c7 items.size 0 lo)).toArray):=by
  show((items.toList.drop (c7 items.size 0 lo)).take (c7 items.size items.size hi-c7 items.size 0 lo)).toArray.size<=sizeLine;rw[size_toArray,length_take,length_drop,length_toList];omega
 have hj:c7 items.size items.size hi<=items.size:=N5 _ _ (le_refl _) hi;obtain⟨os,gY,zS,Kh⟩:=id hs;have Ww:s.TypeIs (.ref sl) "slice":=⟨os,gY,zS⟩;unfold getItem;try with_reducible refine wpAny_holding ?_
 first|refine wpAny_bind (wpAny_pure ?_)|skip
 refine wpAny_bind (wpAny_sequenceKey ht.typeIs (by decide) ?_);refine wpAny_bind (wpAny_callSpecial?_slot (name:=Str.ofString "__getitem__") ht.typeIs PyProof.Rows.slot_tuple_getitem
  (wpAny_call_entry PyProof.Rows.slot_tuple_getitem ht.typeIs entry_tuple_getitem ?_ (args_tuple_getitem _ _)))
 show wpAny _ _ (Builtin.Tuple.tupleItemsOf (.ref t) >>= _) _ _ s;refine wpAny_bind (tupleItemsOf_ ht ?_);refine wpAny_bind (wpAny_typeOf Ww ?_);rw[if_pos (by decide)];refine wpAny_bind (t5 hs pl pu ?_);have zN:¬((((c7 items.size 0 lo:Nat):Int)==0&&(1:Int)==1&&(c7 items.size items.size hi-c7 items.size 0 lo)==items.size)=true):=by
  intro q;rw[and_eq_true,and_eq_true]at q;have q1:((c7 items.size 0 lo:Nat):Int)=0:=eq_of_beq q.1.1;have q2:c7 items.size items.size hi-c7 items.size 0 lo=items.size:=eq_of_beq q.2;exact hw ⟨by omega,by omega⟩
 show wpAny _ _ (if(((c7 items.size 0 lo:Nat):Int)==0&&(1:Int)==1&&(c7 items.size items.size hi-c7 items.size 0 lo)==items.size)=true then _ else _) _ _ s;rw[if_neg zN,HQ];first
  |exact wpAny_bind (m:=Builtin.Tuple.tupleExact _) (wpAny_newObj_type (wpAny_pure ⟨_,rfl,wpAny_pure h⟩) yj)
  |exact wpAny_bind (m:=Builtin.Tuple.tupleExact _) (wpAny_newObj_type (wpAny_bind (wpAny_pure (wpAny_pure ⟨_,rfl,wpAny_pure h⟩))) yj)
  |exact wpAny_bind (wpAny_bind (m:=Builtin.Tuple.tupleExact _) (wpAny_newObj_type (wpAny_pure (wpAny_pure ⟨_,rfl,wpAny_pure h⟩)) yj))
  |exact wpAny_bind (wpAny_bind (m:=Builtin.Tuple.tupleExact _) (wpAny_newObj_type (wpAny_pure ⟨_,rfl,wpAny_pure h⟩) yj))
end
end HT
namespace L2
noncomputable section
open PySem PySem.Spec PyProof.Rows
abbrev TO:=St->Hp->(Option Int->Hp->Prop)->Prop
def PO (X:Cx) (e:Option Expr) (t:TO):Prop:=
 ∀(pins:List (Addr×Obj)) (s:Shared) (σ:St) (H:Hp) (Q:Option Int->Hp->Prop),Inv X pins σ H s->t σ H Q->
  wpAny (model X.prog X.w) X.A (evalPart e X.env) (fun u s'=>∃o H',Inv X pins σ H' s'/\IsPart u o/\Q o H') X.xe s
def L6:TO:=fun _ H Q=>Q none H
def Qe (t:TE):TO:=fun σ H Q=>t σ H fun x H1=>∃i,x=.int i/\Q (some i) H1
variable {X:Cx}
theorem Lr:PO X none L6:=by
 intro pins s σ H Q I h;rw[evalPart_none];exact wpAny_pure ⟨none,H,I,.none,h⟩
variable {e:Expr} {te:TE}
theorem vT(h:PE X e te):PO X (some e) (Qe te):=by
 intro pins s σ H Q I hw;rw[evalPart_some];refine cg (h pins s σ H _ I hw) fun u s1 ⟨x,H1,I1,r1,q1⟩=>?_;obtain⟨i,rfl,q⟩:=q1;obtain⟨t,rfl⟩:=r1;exact⟨some i,H1,I1,.int i t,q⟩
variable {lo hi:Option Expr}
def As (X:Cx) (r:V->Option Int->Option Int->Hp->VK->Prop):Prop:=
 ∀(pins:List (Addr×Obj)) (s:Shared) (σ:St) (H:Hp) (x:V) (v vl vu:Value) (lo hi:Option Int) (sl:Addr) (Q:VK),Inv X pins σ H s->RelV x v->s.heap.IsSliceOf sl vl vu .none->IsPart vl lo->IsPart vu hi->r x lo hi H Q->
  ∃T id,typeLookup (.type T) "__getitem__"=pure (some (.builtin id))/\s.TypeIs v T/\wpAny (model X.prog X.w) X.A (getItem v (.ref sl)) (EP X pins σ Q) X.xe s
theorem As.or{r r':V->Option Int->Option Int->Hp->VK->Prop}(h:As X r)(h':As X r'):As X (fun x lo hi H Q=>r x lo hi H Q\/r' x lo hi H Q):=by
 intro pins s σ H x v vl vu lo hi sl Q I rx hs pl pu q;rcases q with q|q
 ·exact h pins s σ H x v vl vu lo hi sl Q I rx hs pl pu q
 ·exact h' pins s σ H x v vl vu lo hi sl Q I rx hs pl pu q
variable {tl th:TO}
def Vn (r:V->Option Int->Option Int->Hp->VK->Prop) (te:TE) (tl th:TO):TE:=fun σ H Q=>te σ H fun x H1=>tl σ H1 fun l H2=>th σ H2 fun u H3=>r x l u H3 Q
variable {p2 pos:Pos}
theorem yY{r:V->Option Int->Option Int->Hp->VK->Prop}(hr:As X r)(he:PE X e te)(hl:PO X lo tl)(hu:PO X hi th):PE X (.Subscript e (.Slice lo hi none p2) pos) (Vn r te tl th):=by
 intro pins s σ H Q I h;refine Subscript_ (cg (he pins s σ H _ I h) fun v s1 ⟨x,H1,I1,r1,q1⟩=>?_);refine wpAny_Slice (cg (hl pins s1 σ H1 _ I1 q1) fun vl s2 ⟨l,H2,I2,pl,q2⟩=>cg (hu pins s2 σ H2 _ I2 q2) fun vu s3 ⟨u,H3,I3,pu,q3⟩=>?_);rw[evalPart_none];refine wpAny_pure ?_;have I4:Inv X pins σ H3 {s3 with heap:=s3.heap.push {cls:=.type "slice",data:=.fields #[vl,vu,.none]}}:=I3.kept (t':=s3.toks) fun b ob q=>get?_push_of_some _ q;obtain⟨T,id,hT,ht,hg⟩:=hr pins {s3 with heap:=s3.heap.push {cls:=.type "slice",data:=.fields #[vl,vu,.none]}} σ H3 x v vl vu l u s3.heap.objs.size Q I4 r1 (Heap.IsSliceOf.new ..) pl pu q3;show wpAny (model X.prog X.w) X.A (subscriptTail e (.Slice lo hi none p2) v (.ref s3.heap.objs.size)) (EP X pins σ Q) X.xe {s3 with heap:=s3.heap.push {cls:=.type "slice",data:=.fields #[vl,vu,.none]}};exact tail_any (ops:=[.ref s3.heap.objs.size,v]) ht hT hg (by with_unfolding_all rfl)
def pV (xs:List V) (lo hi:Option Int):List V:=(xs.drop (HT.c7 xs.length 0 lo)).take (HT.c7 xs.length xs.length hi-HT.c7 xs.length 0 lo)
theorem sQ(xs:List V)(lo hi:Option Int):(pV xs lo hi).length<=xs.length:=by
 unfold pV;rw[length_take,length_drop];omega
def Ug (K:Frag):V->Option Int->Option Int->Hp->VK->Prop:=fun x lo hi H Q=>∃a xs,x=.ref a/\jv K H a xs/\
 ¬(HT.c7 xs.length 0 lo=0/\HT.c7 xs.length xs.length hi=xs.length)/\∀p,H p=none->Q (.ref p) (upd H p (.tup (pV xs lo hi)))
theorem MZ:As X (Ug X.K):=by
 intro pins s σ H x v vl vu lo hi sl Q I rx hs pl pu h;obtain⟨a,xs,rfl,hx,hw,q⟩:=h;cases rx;obtain⟨ak,r,ht,hz⟩:=I.tuple hx;have hlen:ak.toArray.size=xs.length:=by rw[size_toArray];exact r.length.symm
 refine⟨"tuple",_,PyProof.Rows.slot_tuple_getitem.lookup,ht.typeIs,?_⟩;refine HT.sA ht hs pl pu (by rw[hlen];exact hw) ?_ (by rw[hlen];exact hz);rw[hlen];refine⟨.ref s.heap.objs.size,_,I.laid (t':=s.toks) (o:=.tup (pV xs lo hi)) (fun b ob q=>get?_push_of_some _ q) (le_refl _) ?_,rfl,q _ (I.bw.fresh (le_refl _))⟩;exact⟨le_trans (sQ xs lo hi) hz,_,(r.drop (HT.c7 xs.length 0 lo)).take (HT.c7 xs.length xs.length hi-HT.c7 xs.length 0 lo),IsTup.new _ _⟩
variable {xs:List V}
theorem Vals.sd{us:List Value}(r:Vals xs us):us=[]↔xs=[]:=by
 cases r with
 |nil=>simp
 |cons _ _=>simp
open PySem PySem.Spec PyProof.Rows
def mX (n:Nat) (i:Int):Option Nat:=if 0<=i then(if i<n then some i.toNat else none)else if -(n:Int)<=i then some (i+n).toNat else none
def gF {α:Type} (xs:List α) (i:Int):Option α:=(mX xs.length i).bind fun j=>xs[j]?
variable {n j:Nat}
theorem BN{i:Int}(h:mX n i=some j):seqIndex? i n=some j/\j<n/\-(n:Int)<=i/\i<n:=by
 unfold mX at h;by_cases h0:0<=i
 ·rw[if_pos h0]at h;by_cases h1:i<n
  ·rw[if_pos h1]at h;have e:i.toNat=j:=Option.some.inj h;exact⟨by rw[seqIndex_of h0 h1,e],by omega,by omega,h1⟩
  ·rw[if_neg h1]at h;cases h
 ·rw[if_neg h0]at h;by_cases h1: -(n:Int)<=i
  ·rw[if_pos h1]at h;have e:(i+n).toNat=j:=Option.some.inj h;exact⟨by rw[seqIndex_neg (by omega) h1,e],by omega,h1,by omega⟩
  ·rw[if_neg h1]at h;cases h
variable {α:Type}
theorem Cw{xs:List α}{i:Int}{v:α}(h:gF xs i=some v):∃j,seqIndex? i xs.length=some j/\xs[j]?=some v/\j<xs.length/\-(xs.length:Int)<=i/\i<xs.length:=by
 unfold gF at h;cases e:mX xs.length i with
 |none=>rw[e]at h;cases h
 |some j=>
  rw[e]at h;obtain⟨h1,h2,h3,h4⟩:=BN e;exact⟨j,h1,h,h2,h3,h4⟩
def wF (b:Expr):Prop:=∀o i,subscripted b false o i=operate [o,i] (getItem o i)
def Ay (X:Cx) (r:R2):Prop:=
 ∀(value slice:Expr) (pins:List (Addr×Obj)) (s:Shared) (σ:St) (H:Hp) (x y:V) (v u:Value) (Q:VK),Inv X pins σ H s->RelV x v->RelV y u->r x y H Q->
  subscripted slice false v u=operate [v,u] (getItem v u)->wpAny (model X.prog X.w) X.A (subscriptTail value slice v u) (EP X pins σ Q) X.xe s
def Yw (X:Cx) (id:String) (r:V->List V->Hp->VK->Prop):Prop:=
 ∀(pins:List (Addr×Obj)) (s:Shared) (σ:St) (H:Hp) (x:V) (xs:List V) (v:Value) (us:List Value) (Q:VK),Inv X pins σ H s->RelV x v->Vals xs us->r x xs H Q->
  wpAny (model X.prog X.w) X.A (call (.builtin id) (v::us)) (EP X pins σ Q) X.xe s
theorem Ay.or{r r':R2}(h:Ay X r)(h':Ay X r'):Ay X (fun x y H Q=>r x y H Q\/r' x y H Q):=by
 intro value slice pins s σ H x y v u Q I rx ry q hs;rcases q with q|q
 ·exact h value slice pins s σ H x y v u Q I rx ry q hs
 ·exact h' value slice pins s σ H x y v u Q I rx ry q hs
variable {tb ta:TE} {b a:Expr}
theorem JP{r:R2}(hr:Ay X r)(ha:PE X a ta)(hb:PE X b tb)(hs:wF b):PE X (.Subscript a b pos) (AX r ta tb):=by
 intro pins s σ H Q I h;exact Subscript_ (Jb ha hb I h fun v u s2 x y H2 I2 rx ry q=>hr a b pins s2 σ H2 x y v u Q I2 rx ry q (hs _ _))
def Ng (K:Frag):R2:=fun x y H Q=>∃p xs i v,x=.ref p/\y=.int i/\fR K H p xs/\gF xs i=some v/\Q v H
def Nf (K:Frag):R2:=fun x y H Q=>∃p xs i v,x=.ref p/\y=.int i/\jv K H p xs/\gF xs i=some v/\Q v H
theorem BM:Ay X (Ng X.K):=by
 intro value slice pins s σ H x y v u Q I rx ry h hs;obtain⟨p,xs,i,z,rfl,rfl,hq,he,q⟩:=h;cases rx;obtain⟨t,rfl⟩:=ry;obtain⟨ak,r,pl,hz⟩:=I.list hq;obtain⟨j,h1,h2,h3,h4,h5⟩:=Cw he;obtain⟨w,ew,qG⟩:=r.get h2;have hl:=r.length;have hn:=qY;have fin:EP X pins σ Q w s:=⟨z,H,I,qG,q⟩;by_cases h0:0<=i
 ·have hj:i.toNat=j:=by
   rw[seqIndex_of h0 h5]at h1;exact Option.some.inj h1
  exact item_listR pl.isList h0 (by omega) (by rw[hj];simpa using ew) fin hs
 ·have hj:(i+(ak.toArray.size:Int)).toNat=j:=by
   rw[seqIndex_neg (by omega) h4]at h1;rw[size_toArray,<- hl];exact Option.some.inj h1
  exact subscriptTail_builtinR (x:=w) pl.isList.typeIs slot_list_getitem.lookup
   (wpAny_getItem_list_neg (Q:=fun r s'=>r=w/\EP X pins σ Q r s') pl.isList (by omega) (by rw[size_toArray]<;>omega) (by omega) (by rw[hj];simpa using ew) ⟨rfl,fin⟩) hs
theorem FH:Ay X (Nf X.K):=by
 intro value slice pins s σ H x y v u Q I rx ry h hs;obtain⟨p,xs,i,z,rfl,rfl,hq,he,q⟩:=h;cases rx;obtain⟨t,rfl⟩:=ry;obtain⟨ak,r,pl,hz⟩:=I.tuple hq;obtain⟨j,h1,h2,h3,h4,h5⟩:=Cw he;obtain⟨w,ew,qG⟩:=r.get h2;have hl:=r.length;have hn:=qY;have fin:EP X pins σ Q w s:=⟨z,H,I,qG,q⟩;exact subscriptTail_builtinR (x:=w) pl.typeIs slot_tuple_getitem.lookup
  (getItem_tuple (j:=j) (Q:=fun r s'=>r=w/\EP X pins σ Q r s') pl (by omega) (by omega) (by rw[size_toArray,<- hl];exact h1) (by simpa using ew) ⟨rfl,fin⟩) hs
theorem Dh(ak:List Value)(n j:Nat)(u:Value):Obj.mapSeq (·.setIfInBounds j u) {cls:=.type "list",data:=.seq ak.toArray n}={cls:=.type "list",data:=.seq (ak.set j u).toArray n}:=by
 simp[Obj.mapSeq]
theorem Inv.lst{pins:List (Addr×Obj)}{σ:St}{H:Hp}{s:Shared}{p:Addr}{xs:List V}(I:Inv X pins σ H s)(h:H p=some (.lst xs)):
  ∃(ak:List Value) (n:Nat),Vals xs ak/\s.heap.get? p=some {cls:=.type "list",data:=.seq ak.toArray n}/\xs.length<=sizeLine:=by
 obtain⟨z,ak,n,r,e⟩:=I.bw p _ h;exact⟨ak,n,r,e,z⟩
variable {pins:List (Addr×Obj)} {H:Hp} {p:Addr} {ys:List V} {ak:List Value}
theorem Inv.NW{σ:St}{s:Shared}{its':List Value}{n':Nat}{f:Obj->Obj}(I:Inv X pins σ H s)(h:H p=some (.lst xs))(ho:s.heap.get? p=some {cls:=.type "list",data:=.seq ak.toArray n})(hf:f {cls:=.type "list",data:=.seq ak.toArray n}={cls:=.type "list",data:=.seq its'.toArray n'})(r:Vals ys its')(hz:ys.length<=sizeLine)(t:Nat):
  Inv X pins σ (upd H p (.lst ys)) {s with heap:=s.heap.update p f,toks:=t}:=by
 have e:(s.heap.update p f).get? p=some {cls:=.type "list",data:=.seq its'.toArray n'}:=by
  rw[Heap.get?_update_self f ho (by rw[hf]<;>rfl),hf]
 refine I.write (x:=p) (e:=p) (by rw[h];trivial) (.inl rfl) (fun b u hb q=>(Heap.get?_update_other _ _ (Ne.symm hb)).trans q) ⟨_,e⟩ ?_;exact⟨hz,its',n',r,e⟩
def Qp:V->V->V->Hp->(Hp->Prop)->Prop:=fun o i v H Q=>∃p xs k j,o=.ref p/\i=.int k/\H p=some (.lst xs)/\mX xs.length k=some j/\Q (upd H p (.lst (xs.set j v)))
theorem set_list:Je X Qp:=by
 intro pins s σ H o i v ov iv u Q I ro ri rv h;obtain⟨p,xs,k,j,rfl,rfl,hp,hj,q⟩:=h;cases ro;obtain⟨t,rfl⟩:=ri;obtain⟨ak,n,r,ho,hz⟩:=I.lst hp;obtain⟨h1,h2,h3,h4⟩:=BN hj;have hl:=r.length;have hn:=qY;have I':Inv X pins σ (upd H p (.lst (xs.set j v))) {s with heap:=s.heap.update p (Obj.mapSeq (·.setIfInBounds j u))}:=
  I.NW hp ho (Dh ak n j u) (r.set rv j) (by rw[length_set];exact hz) s.toks
 by_cases h0:0<=k
 ·have hk:k.toNat=j:=by
   rw[seqIndex_of h0 h4]at h1;exact Option.some.inj h1
  exact PySem.W.ki_setAt ho h0 (by omega) (by rw[size_toArray,<- hl];exact h4) (by rw[hk];exact⟨_,I',q⟩)
 ·have hk:(k+(ak.toArray.size:Int)).toNat=j:=by
   rw[seqIndex_neg (by omega) h3]at h1;rw[size_toArray,<- hl];exact Option.some.inj h1
  exact PySem.W.ki_setBack ho (by omega) (by rw[size_toArray,<- hl];exact h3) (by omega) (by rw[hk];exact⟨_,I',q⟩)
theorem yE(lo hi:Option Int)(n:Nat):(sliceBounds lo hi none n).1=((HT.c7 n 0 lo:Nat):Int)/\(sliceBounds lo hi none n).2.1=((HT.c7 n n hi:Nat):Int)/\(sliceBounds lo hi none n).2.2=1:=by
 refine⟨?_,?_,rfl⟩
 ·cases lo with
  |none=>simp[sliceBounds,HT.c7]
  |some i=>
   simp only[sliceBounds,HT.c7,Option.getD_none,show(1:Int)>0 by decide,if_true];by_cases h:i<0
   ·simp only[h,if_true]<;>omega
   ·simp only[h,if_false]<;>omega
 ·cases hi with
  |none=>simp[sliceBounds,HT.c7]
  |some i=>
   simp only[sliceBounds,HT.c7,Option.getD_none,show(1:Int)>0 by decide,if_true];by_cases h:i<0
   ·simp only[h,if_true]<;>omega
   ·simp only[h,if_false]<;>omega
theorem y7(ak:List Value)(lo hi:Option Int):slicePick ak.toArray lo hi none=((ak.drop (HT.c7 ak.length 0 lo)).take (HT.c7 ak.length ak.length hi-HT.c7 ak.length 0 lo)).toArray:=by
 obtain⟨h1,h2,h3⟩:=yE lo hi ak.toArray.size;unfold slicePick;rw[h1,h2,h3];simp only[sliceRange_one,pick_run,size_toArray]<;>rfl
def Uh (K:Frag):V->Option Int->Option Int->Hp->VK->Prop:=fun x lo hi H Q=>∃a xs,x=.ref a/\fR K H a xs/\∀p,H p=none->Q (.ref p) (upd H p (.lst (pV xs lo hi)))
theorem B4:As X (Uh X.K):=by
 intro pins s σ H x v vl vu lo hi sl Q I rx hs pl pu h;obtain⟨a,xs,rfl,hx,q⟩:=h;cases rx;obtain⟨ak,r,ht,hz⟩:=I.list hx;have hlen:=r.length;refine⟨"list",_,slot_list_getitem.lookup,ht.isList.typeIs,?_⟩;refine wpAny_getItem_list_slice ht.isList hs pl pu .none (by simp) ?_ (by rw[size_toArray]<;>omega);rw[y7,<- hlen];refine⟨.ref s.heap.objs.size,_,I.laid (t':=s.toks) (o:=.lst (pV xs lo hi)) (fun b ob q=>get?_push_of_some _ q) (le_refl _) ?_,rfl,q _ (I.bw.fresh (le_refl _))⟩;exact⟨le_trans (sQ xs lo hi) hz,_,0,(r.drop (HT.c7 xs.length 0 lo)).take (HT.c7 xs.length xs.length hi-HT.c7 xs.length 0 lo),get?_push_size _ rfl⟩
def lD:V->Bool
 | .bR=>true
 | .bl _=>true
 | .int _=>true
 | .str _=>true
 |_=>false
def ve:V->V->Bool
 | .bR,.bR=>true
 | .bl a,.bl b=>a==b
 | .bl a,.int b=>(if a then 1 else 0)==b
 | .int a,.bl b=>a==(if b then 1 else 0)
 | .int a,.int b=>a==b
 | .str a,.str b=>a==b
 |_,_=>false
variable {A:Around} {x:V}
theorem OY{s:Shared}{y:V}{u v:Value}(ry:RelV y u)(rx:RelV x v)(fy:lD y=true)(fx:lD x=true):SeqAt.EqAt A s u v (ve y x):=by
 cases y with
 |bR=>
  cases ry;cases x with
  |bR=>cases rx;exact SeqAt.EqAt.same _
  |bl b=>cases rx;exact SeqAt.EqAt.none_bool b
  |int b=>obtain⟨t,rfl⟩:=rx;exact SeqAt.EqAt.none_int b t
  |str b=>obtain⟨t,rfl⟩:=rx;exact SeqAt.EqAt.none_str b t
  |_=>exact absurd (show false=true from fx) Bool.false_ne_true
 |bl a=>
  cases ry;cases x with
  |bR=>cases rx;exact SeqAt.EqAt.bool_none a
  |bl b=>cases rx;exact SeqAt.EqAt.bool_bool a b
  |int b=>obtain⟨t,rfl⟩:=rx;exact SeqAt.EqAt.bool_int a b t
  |str b=>obtain⟨t,rfl⟩:=rx;exact SeqAt.EqAt.bool_str a b t
  |_=>exact absurd (show false=true from fx) Bool.false_ne_true
 |int a=>
  obtain⟨t',rfl⟩:=ry;cases x with
  |bR=>cases rx;exact SeqAt.EqAt.int_none a t'
  |bl b=>cases rx;exact SeqAt.EqAt.int_bool a t' b
  |int b=>obtain⟨t,rfl⟩:=rx;exact SeqAt.EqAt.int_int a t' b t
  |str b=>obtain⟨t,rfl⟩:=rx;exact SeqAt.EqAt.int_str a t' b t
  |_=>exact absurd (show false=true from fx) Bool.false_ne_true
 |str a=>
  obtain⟨t',rfl⟩:=ry;cases x with
  |bR=>cases rx;exact SeqAt.EqAt.str_none a t'
  |bl b=>cases rx;exact SeqAt.EqAt.str_bool a t' b
  |int b=>obtain⟨t,rfl⟩:=rx;exact SeqAt.EqAt.str_int a t' b t
  |str b=>obtain⟨t,rfl⟩:=rx;exact SeqAt.EqAt.str_str a t' b t
  |_=>exact absurd (show false=true from fx) Bool.false_ne_true
 |_=>exact absurd (show false=true from fy) Bool.false_ne_true
def vf (x:V) (u:Value):Bool:=match u with
 | .none=>ve .bR x
 | .bool b=>ve (.bl b) x
 | .int i _=>ve (.int i) x
 | .str z _=>ve (.str z) x
 |_=>false
theorem Gr{y:V}{u:Value}(r:RelV y u)(f:lD y=true):vf x u=ve y x:=by
 cases y with
 |bR=>cases r;rfl
 |bl b=>cases r;rfl
 |int i=>obtain⟨t,rfl⟩:=r;rfl
 |str z=>obtain⟨t,rfl⟩:=r;rfl
 |_=>exact absurd (show false=true from f) Bool.false_ne_true
theorem wD{x:V}:∀{xs:List V} {us:List Value},Vals xs us->xs.all lD=true->us.any (vf x)=xs.any fun y=>ve y x
 |_,_,.nil,_=>rfl
 |y::xs,u::us,.cons r t,f=>by
  rw[all_cons,and_eq_true]at f;rw[any_cons,any_cons,Gr r f.1,wD t f.2]
theorem tB{A:Around}{s:Shared}{x:V}{v:Value}(rx:RelV x v)(fx:lD x=true):∀{xs:List V} {us:List Value},Vals xs us->xs.all lD=true->∀u∈us,SeqAt.EqAt A s u v (vf x u)
 |_,_,.nil,_=>fun u hu=>by cases hu
 |y::xs,u::us,.cons r t,f=>fun u' hu=>by
  rw[all_cons,and_eq_true]at f;rcases mem_cons.mp hu with rfl|hu
  ·rw[Gr r f.1];exact OY r rx f.1 fx
  ·exact tB rx fx t f.2 u' hu
def zD (x:V) (xs:List V):Bool:=xs.any fun y=>ve y x
def Ru (K:Frag) (neg:Bool):R2:=fun x y H Q=>∃p xs,y=.ref p/\(fR K H p xs\/jv K H p xs)/\lD x=true/\xs.all lD=true/\Q (.bl (if neg then !zD x xs else zD x xs)) H
theorem EZ:dO X (compareOp .In) (Ru X.K false):=by
 intro pins s σ H x y v u Q I rx ry h;obtain⟨p,xs,rfl,hq,fx,fs,q⟩:=h;cases ry;rcases hq with hq|hq
 ·obtain⟨ak,r,pl,hz⟩:=I.list hq;refine SeqAt.in_listAt (vf x) pl.isList (fun w hw=>tB rx fx r fs w (by simpa using hw)) ⟨.bl _,H,I,rfl,?_⟩;rw[show ak.toArray.any (vf x)=ak.any (vf x) by simp,wD r fs];exact q
 ·obtain⟨ak,r,pl,hz⟩:=I.tuple hq;refine SeqAt.in_tupleAt (vf x) pl (fun w hw=>tB rx fx r fs w (by simpa using hw)) ⟨.bl _,H,I,rfl,?_⟩;rw[show ak.toArray.any (vf x)=ak.any (vf x) by simp,wD r fs];exact q
theorem Ao:jt X (.type "list") (fun xs H Q=>∃p ys,xs=[.ref p]/\(fR X.K H p ys\/jv X.K H p ys)/\∀l,H l=none->Q (.ref l) (upd H l (.lst ys))):=by
 intro pins s σ H xs us Q I r h;obtain⟨p,ys,rfl,hq,q⟩:=h;obtain⟨u,rfl,rx⟩:=vals1 r;cases rx;have fin:∀(ak:List Value),Vals ys ak->ys.length<=sizeLine->∀(h':Heap) (c':Nat),(∀b o',s.heap.get? b=some o'->h'.get? b=some o')->
   h'.get? s.heap.objs.size=some {cls:=.type "list",dict:=none,data:=.seq ak.toArray c',slots:=#[]}->EP X pins σ Q (.ref s.heap.objs.size) {s with heap:=h'}:=fun ak r' hz h' c' kp e=>
  ⟨.ref s.heap.objs.size,_,I.laid (t':=s.toks) kp (le_refl _) (show gG X.prog X.w _ h' _ (.lst ys)from⟨hz,ak,c',r',e⟩),rfl,q _ (I.bw.fresh (le_refl _))⟩
 rcases hq with hq|hq
 ·obtain⟨ak,r',pl,hz⟩:=I.list hq;have hlen:=r'.length;obtain⟨o,ho,hc,n,hd⟩:=pl.isList;exact call_list_seq p (.inl rfl) ho hc hd (fun h' c' kp e=>fin ak r' hz h' c' kp e) (by simp only[size_toArray]<;>omega)
 ·obtain⟨ak,r',pl,hz⟩:=I.tuple hq;have hlen:=r'.length;obtain⟨o,ho,hc,n,hd⟩:=pl;exact call_list_seq p (.inr rfl) ho hc hd (fun h' c' kp e=>fin ak r' hz h' c' kp e) (by simp only[size_toArray]<;>omega)
theorem qj:jt X (.type "tuple") (fun xs H Q=>∃p ys,xs=[.ref p]/\((fR X.K H p ys/\∀l,H l=none->Q (.ref l) (upd H l (.tup ys)))\/(jv X.K H p ys/\Q (.ref p) H))):=by
 intro pins s σ H xs us Q I r h;obtain⟨p,ys,rfl,h⟩:=h;obtain⟨u,rfl,rx⟩:=vals1 r;cases rx;rcases h with⟨hq,q⟩|⟨hq,q⟩
 ·obtain⟨ak,r',pl,hz⟩:=I.list hq;have hlen:=r'.length;refine call_tuple_list pl.isList (fun h' kp=>?_) (by simp only[size_toArray]<;>omega);have I1:Inv X pins σ H {s with heap:=h'}:=I.kept (t':=s.toks) kp;have I2:Inv X pins σ (upd H h'.objs.size (.tup ys)) {s with heap:=h'.push {cls:=.type "tuple",data:=.seq ak.toArray}}:=
   I1.laid (t':=s.toks) (fun b o e=>get?_push_of_some _ e) (le_refl _) (show gG X.prog X.w _ _ _ (.tup ys)from⟨hz,ak,r',IsTup.new _ _⟩)
  exact⟨.ref h'.objs.size,_,I2,rfl,q _ (I1.bw.fresh (le_refl _))⟩
 ·obtain⟨ak,r',pl,hz⟩:=I.tuple hq;exact call_tuple_same pl ⟨.ref p,H,I,rfl,q⟩
def Rh (K:Frag) (T:String) (x:V) (H:Hp):Prop:=match x with
 | .str _=>T="str"
 | .int _=>T="int"
 | .ref p=>(T="list"/\∃xs,fR K H p xs)\/(T="tuple"/\∃o,K.lookup p=some o/\o.cls=.type "tuple"/\o.dict=none)\/
   (T="dict"/\((∃g9,H p=some (.dK g9))\/∃g9,H p=some (.dT g9)))\/(T="set"/\∃S n,H p=some (.set S n))
 |_=>False
variable {T:String}
theorem ML{σ:St}{s:Shared}{v:Value}(I:Inv X pins σ H s)(r:RelV x v)(ty:Rh X.K T x H):
  s.TypeIs v T/\∀a,v=.ref a->∃ob,s.heap.get? a=some ob/\ob.dict=none:=by
 cases x with
 |str z=>
  obtain⟨t,rfl⟩:=r;cases(show T="str" from ty);exact⟨typeIs_str s z t,fun _ e=>nomatch e⟩
 |int i=>
  obtain⟨t,rfl⟩:=r;cases(show T="int" from ty);exact⟨typeIs_int s i t,fun _ e=>nomatch e⟩
 |ref p=>
  cases r;rcases ty with⟨rfl,xs,hq⟩|⟨rfl,o,hk,hc,hd⟩|⟨rfl,hk⟩|⟨rfl,S,n,hk⟩
  ·obtain⟨ak,_,pl,_⟩:=I.list hq;refine⟨pl.isList.typeIs,fun a e=>?_⟩;cases e;obtain⟨o,n,e,c,hd,_⟩:=pl;exact⟨o,e,hd⟩
  ·refine⟨⟨o,I.q9 p o hk,hc⟩,fun a e=>?_⟩;cases e;exact⟨o,I.q9 _ o hk,hd⟩
  ·have z:∃o,s.heap.get? p=some o/\o.ExactDict:=by
    rcases hk with⟨g9,hk⟩|⟨g9,hk⟩
    ·obtain⟨_,_,_,_,o,_,_,e,ex,_⟩:=I.bw p _ hk;exact⟨o,e,ex⟩
    ·obtain⟨_,_,_,_,o,_,_,e,ex,_⟩:=I.bw p _ hk;exact⟨o,e,ex⟩
   obtain⟨o,e,ex⟩:=z;refine⟨⟨o,e,ex.1⟩,fun a e2=>?_⟩;cases e2;exact⟨o,e,ex.2.1⟩
  ·obtain⟨o,_,_,_,e,ex,_⟩:=I.bw p _ hk;refine⟨⟨o,e,ex.1⟩,fun a e2=>?_⟩;cases e2;exact⟨o,e,ex.2.1⟩
 |_=>exact False.elim ty
def Vq (K:Frag) (T:String) (r:V->List V->Hp->VK->Prop) (to:TE) (t:TA):TE:=fun σ H Q=>to σ H fun x H1=>Rh K T x H1/\t σ H1 fun xs H2=>r x xs H2 Q
variable {es:List Expr} {tQ apos:Pos} {r:V->List V->Hp->VK->Prop} {id:String} {t:TA} {to:TE} {name:Str} {o:Expr}
theorem Qy(pa:PlainAttrs T)(slot:Slot T name id)(VT:typeOf (.builtin id)=pure (.type "method_descriptor"))(hm:Yw X id r)(ho:PE X o to)(ha:PA X (e::es) t)(Dv:attributeBase o name X.env (eval o X.env)=eval o X.env:=by rfl)(IC:((backTo tQ (starEach (e::es) X.env)).all (fun x=>!x.1)&&(backToKw tQ (keywordEach [] X.env)).all (fun x=>x.1.isSome)
   &&decide ((e::es).length+([]:List Keyword).length+(if([]:List Keyword).isEmpty then 0 else 1)<30))=true:=by rfl)(Ds:(apos.endLine==tQ.line)=true:=by rfl)(hs:starEach (e::es) X.env=(false,eval e X.env)::starEach es X.env:=by rfl)(zM:(backTo tQ (starEach es X.env)).any (·.1)=false:=by rfl):
  PE X (.Call (.Attribute o name apos) (e::es) [] tQ) (Vq X.K T r to t):=by
 intro pins s σ H Q I h;refine wpAny_Call_method_late Dv IC Ds rfl (cg (ho pins s σ H _ I h) fun v s1 ⟨x,H1,I1,r1,ty,q1⟩=>?_);obtain⟨h1,h2⟩:=ML I1 r1 ty;refine⟨T,id,pa,slot,VT,h1,h2,?_⟩;have hA:=ha tQ pins s1 σ H1 _ I1 q1;rw[hs]at hA ⊢;refine Calls.callWith_builtin (by show(false || (backTo tQ (starEach es X.env)).any (·.1))=false;rw[zM]<;>rfl) (Calls.evalArgs_plain ?_);exact cg hA fun us s2 ⟨vs,H2,I2,r2,q2⟩=>hm pins s2 σ H2 x vs v us Q I2 r1 r2 q2
open PySem PySem.Spec PyProof.Rows
def Yx (X:Cx) (id:String) (r:V->List V->Hp->VK->Prop):Prop:=
 ∀(pins:List (Addr×Obj)) (s:Shared) (σ:St) (H:Hp) (x:V) (xs:List V) (v:Value) (us:List Value) (Q:VK),Inv X pins σ H s->RelV x v->Vals xs us->r x xs H Q->
  wpAny (model X.prog X.w) X.A (call (.builtin id) (v::us)) (EP X pins σ Q) X.xe s
theorem Vals.one:∀{x:V} {us:List Value},Vals [x] us->∃u,us=[u]/\RelV x u
 |_,_,.cons r .nil=>⟨_,rfl,r⟩
theorem Vals.rep{xs:List V}{us:List Value}(h:Vals xs us):∀k:Nat,Vals (List.replicate k xs).flatten (List.replicate k us).flatten
 |0=>.nil
 |k+1=>by
  rw[replicate_succ,replicate_succ,flatten_cons,flatten_cons];exact Vals.append h (Vals.rep h k)
theorem foldl_rep(ak:List Value):∀(k:Nat) (acc:List Value),
  foldl (fun x1 x2=>x1++x2) acc.toArray (List.replicate k ak.toArray)=(acc++(List.replicate k ak).flatten).toArray
 |0,acc=>by simp
 |k+1,acc=>by
  have e:acc.toArray++ak.toArray=(acc++ak).toArray:=by simp
  have e2:(acc++ak)++(List.replicate k ak).flatten=acc++(List.replicate (k+1) ak).flatten:=by
   rw[replicate_succ,flatten_cons,append_assoc]
  rw[<- e2,<- foldl_rep ak k (acc++ak),<- e,replicate_succ,foldl_cons]
variable {σ:St} {l:Addr}
variable {s:Shared} in
theorem Inv.Up{its':List Value}{f:Array Value->Array Value}{t':Nat}(I:Inv X pins σ H s)(hH:H l=some (.lst xs))(e:s.heap.get? l=some {cls:=.type "list",data:=.seq ak.toArray n})(hf:f ak.toArray=its'.toArray)(hv:Vals ys its')(hz:ys.length<=sizeLine):
  Inv X pins σ (upd H l (.lst ys)) {s with heap:=s.heap.update l (Obj.mapSeq f),toks:=t'}:=by
 have q:=PySem.IsL.update e f;rw[hf]at q;refine I.write (x:=l) (e:=l) (by rw[hH];exact trivial) (.inl rfl) (fun b' u hb hu=>(Heap.get?_update_other s.heap (Obj.mapSeq f) (Ne.symm hb)).trans hu) ⟨_,q⟩ ?_;exact⟨hz,its',_,hv,q⟩
variable {s:Shared} in
theorem Inv.O0{t':Nat}(I:Inv X pins σ H s)(hv:Vals ys ak)(hz:ys.length<=sizeLine):
  Inv X pins σ (upd H s.heap.objs.size (.lst ys)) {s with heap:=s.heap.push {cls:=.type "list",data:=.seq ak.toArray},toks:=t'}:=
 I.laid (fun _ _ q=>get?_push_of_some _ q) (le_refl _) ⟨hz,ak,0,hv,get?_push_size _ rfl⟩
variable {s:Shared} in
theorem Inv.fresh(I:Inv X pins σ H s):H s.heap.objs.size=none:=I.bw.fresh (le_refl _)
variable {s:Shared} in
theorem Inv.NX(I:Inv X pins σ H s)(hH:H l=some (.lst xs)):xs.length<=sizeLine/\∃(ak:List Value) (n:Nat),Vals xs ak/\xs.length=ak.length/\s.heap.get? l=some {cls:=.type "list",data:=.seq ak.toArray n}:=by
 obtain⟨z,ak,n,r,e⟩:=I.bw l _ hH;exact⟨z,ak,n,r,r.length,e⟩
theorem HZ(h:n<=sizeLine):Builtin.List.listTooLong n=false:=by
 unfold Builtin.List.listTooLong;exact decide_eq_false (by omega)
def Le:V->List V->Hp->VK->Prop:=fun x vs H Q=>∃l xs y,x=.ref l/\vs=[y]/\H l=some (.lst xs)/\xs.length<sizeLine/\Q .bR (upd H l (.lst (xs++[y])))
theorem Fy:Yx X "list.append" Le:=by
 intro pins s σ H x vs v us Q I rx rv h;obtain⟨l,xs,y,rfl,rfl,hH,hz,q⟩:=h;cases rx;obtain⟨u,rfl,ru⟩:=rv.one;obtain⟨z,ak,n,r,hl,e⟩:=I.NX hH;refine call_meets F.slot_list_append ⟨_,e,rfl⟩ F.entry_list_append (F.args_list_append_2 _ _) (PySem.list_append l ak.toArray n u (by rw[size_toArray];omega)) ⟨e,?_⟩;refine⟨.bR,_,I.Up (its':=ak++[u]) hH e (by simp) (r.append (.cons ru .nil)) ?_,rfl,q⟩;rw[length_append,length_singleton];omega
def Ui:R2:=fun x y H Q=>∃l k xs,x=.ref l/\y=.int k/\H l=some (.lst xs)/\-(2^63)<=k/\k<2^63/\xs.length*k.toNat<=sizeLine/\
 ∀p,H p=none->Q (.ref p) (upd H p (.lst (List.replicate k.toNat xs).flatten))
theorem len_rep(xs:List α)(k:Nat):(List.replicate k xs).flatten.length=k*xs.length:=by
 induction k with
 |zero=>simp
 |succ k ih=>rw[replicate_succ,flatten_cons,length_append,ih,succ_mul,add_comm]
theorem ND:dO X (binaryOp .Mult) Ui:=by
 intro pins s σ H x y v u Q I rx ry h;obtain⟨l,k,xs,rfl,rfl,hH,h1,h2,hz,q⟩:=h;cases rx;obtain⟨t,rfl⟩:=ry;obtain⟨z,ak,n,r,hl,e⟩:=I.NX hH;have hlen:ak.toArray.size*k.toNat<=sizeLine:=by rw[size_toArray,<- hl];exact hz
 have pO:¬ak.toArray.size*k.toNat>(2^63-1)/8:=by
  have:(sizeLine:Nat)<=(2^63-1)/8:=by decide
  omega
 have UH:¬(!Builtin.List.listFitsIndex k)=true:=by
  rw[fitsIndex_both h1 h2];exact Bool.false_ne_true
 have QQ:¬Builtin.List.listTooLong (ak.toArray.size*k.toNat)=true:=by
  rw[HZ hlen];exact Bool.false_ne_true
 have UC:foldl (fun x1 x2=>x1++x2) #[] (List.replicate (if ak.toArray.isEmpty=true then 0 else k.toNat) ak.toArray)=(List.replicate k.toNat ak).flatten.toArray:=by
  have f0:∀m:Nat,foldl (fun x1 x2=>x1++x2) #[] (List.replicate m ak.toArray)=(List.replicate m ak).flatten.toArray:=fun m=>by
   have:=foldl_rep ak m [];rw[nil_append]at this;exact this
  rw[f0];cases ak with
  |nil=>simp
  |cons a r'=>rw[if_neg (by simp)]
 refine wpAny_binaryOp_repeat_ref (T:="list") (U:="int") (by decide) ⟨_,e,rfl⟩ (fun s'=>typeIs_int s' k t) noFill_list_mul F.fills_int_mul F.slot_int_rmul repeat_list F.slot_int_index.lookup
  (call_meets F.slot_int_rmul (typeIs_int s k t) F.entry_int_rmul (F.args_int_rmul_2 _ _) (int___rmul___int_list k t l ak.toArray n)
   ⟨e,rfl,⟨_,e,rfl⟩,call_meets F.slot_list_mul ⟨_,e,rfl⟩ F.entry_list_mul (F.args_list_mul_2 _ _) (AutoListH.list___mul___list_int_3 l ak.toArray n k t UH pO QQ) ⟨e,?_⟩⟩)
 rw[UC];exact⟨.ref _,_,I.O0 (t':=s.toks) (r.rep k.toNat) (by rw[len_rep,Nat.mul_comm];exact hz),rfl,q _ I.fresh⟩
end
end L2
namespace TK
noncomputable section
open PySem PySem.W PySem.Calls PyProof.Rows
variable {h:Heap}
theorem uV{P:Params}:∀(ns:List Int) (vs:List Value),WellAll P h vs (ns.map WData.int)->IntsAre vs ns:=by
 intro ns;induction ns with
 |nil=>
  intro vs w;rw[map_nil]at w;cases w;exact .nil
 |cons n ns ih=>
  intro vs w;rw[map_cons]at w;cases w with
  |cons a b=>
   cases a;exact .cons _ _ (ih _ b)
variable {n:Nat}
theorem Em{l:OpenLaw}(hn:l.most=some n){P:Params}{args:List WData}{vals:List Value}(Dm:l.row.toRowW.claim.pre args=true)(FO:WellAll P h vals args):
  ∃a vs ns,vals=[Value.ref a]/\args=[WData.list (ns.map WData.int)]/\h.get? a=some {cls:=.type "list",data:=.seq vs.toArray}/\IntsAre vs ns/\ns.length<=n:=by
 have VV:WShape.hasAll [] args [.list .int]=true:=(pre_splitW Dm).1;have hc:l.pre.holds [] {args:=args}=true:=(pre_splitW Dm).2;obtain⟨d,r,rfl,h1,h2⟩:=hasAllW_cons VV;obtain rfl:=hasAllW_nil h2;obtain⟨xs,rfl,h3⟩:=hasW_list h1;obtain⟨ns,rfl⟩:=items_int h3;have hlen:ns.length<=n:=by
  unfold OpenLaw.pre at hc;have h4:(WTm.not (.lt (.lit (.int (n:Int))) (.len (.arg 0)))).holds [] {args:=[.list (ns.map .int)]}=true:=by
   have h4:=(holds_andW hc).1;rw[hn]at h4;exact h4
  have h5:=condW_of h4 (w_not (w_lt w_lit (w_len_list (w_arg rfl))));rw[length_map]at h5;refine Nat.le_of_not_lt fun q=>?_;have q':(n:Int)<((ns.length:Nat):Int):=by omega
  first
   |(rw[decide_eq_true q']at h5;exact absurd h5 (by decide))
   |(simp at h5;omega)
 cases FO with
 |cons w1 w2=>
  cases w2;cases w1 with
  |list ho pP=>exact⟨_,_,ns,rfl,rfl,ho,uV ns _ pP,hlen⟩
theorem EK(l:OpenLaw)(args:List WData):l.row.toRowW.claim.post args (.bool true) args=true:=
 postW_of (r:=l.row.toRowW) (X:=(true==true))
  (show WShape.has [] (.bool true) .bool=true by first|rfl|decide|simp[WShape.has,WShape.arms,WShape.armsAll])
  (show(WTm.eq .res (.lit (.bool true))).value [] {args:=args,res:=some (.bool true),after:=args}=some (.bool (true==true))from w_eq_bool (w_res rfl) w_lit) rfl
variable {q:Program} {loose:List Str} {XP:(Str->Option Value)->Heap->Prop} {YP:World->Heap->Prop}
theorem AJ{l:OpenLaw}{d:DefRec}(hn:l.most=some n)(zQ:d.params.defaults=[])(call:∀(w:World) (aR bY:Shared) (mg mb:Str->Option Value) (fa:Addr) (o:Obj) (pm cd doc:Value) (a:Addr) (vs:List Value) (ns:List Int),
   Ground q loose [] XP w aR mg mb bY.heap->YP w bY.heap->
   bY.heap.get? fa=some o->o.data=.func (docDef d.name d.params d.body d.scope pm cd doc)->bY.heap.CodeRec cd d.name->mg d.name=some (.ref fa)->
   bY.heap.get? a=some {cls:=.type "list",data:=.seq vs.toArray}->IntsAre vs ns->ns.length<=n->bY.gens=#[]->
   codeAny (model l.prog w) callerA (.call (.ref fa) ⟨[.ref a],[]⟩) (fun r s'=>r=.ok (.ret (.bool true))/\OldK bY.heap s'.heap/\s'.os=bY.os/\AllBare s'.gens) bY):
  WalkO q loose XP YP l.row.toRowW d [] (fun f vs=>PySem.call f vs):=by
 intro w aR bY mg mb G Y fa o pm cd doc dV kV ho hd gB hD FX hg args vals as Dm hlay hrd FO gZ;obtain rfl:dV=.none:=Dflts.none hD zQ;obtain rfl:kV=.none:=Dflts.noKw hD;obtain⟨a,vs,ns,rfl,rfl,Iw,hints,hlen⟩:=Em hn Dm FO;refine enter_call (codeAny_mono (call w aR bY mg mb fa o pm cd doc a vs ns G Y ho (fd_plain hd) gB FX Iw hints hlen hg) fun r s' hq=>?_);obtain⟨rfl,h2,h3,h4⟩:=hq;exact⟨.inl ⟨.bool true,.bool true,[],rfl,fun _=>rfl,.bool true,EK l _,fun _=>⟨List.Pairwise.nil,fun _ hm=>(nomatch hm)⟩⟩,h2,h3,h4⟩
end
end TK
namespace L2
noncomputable section
open PySem PySem.Spec PyProof.Rows
theorem wR:∀{vs:List Value} {ns:List Int},IntsAre vs ns->Vals (ns.map V.int) vs
 |_,_,.nil=>.nil
 |_,_,.cons n t h=>.cons ⟨t,rfl⟩ (wR h)
def Jf (H:Hp):Prop:=∀b,H b=none\/∃o xs,H b=some (.sN o (.lst xs))
variable {P:Program} {w:World} {mg:Str->Option Value} {k:Nat} {a:Addr} {fd:FuncData} {x:Str}
theorem Io{K:Frag}{mb:Str->Option Value}{CX:y6}{fa:Addr}{sp:Sp}{bY:Shared}{vs:List Value}{ns:List Int}(KX:K.In bY.heap)(RU:bY.heap.Ns mainGlobals mg)(hb:bY.heap.Ns builtinsNs mb)(xB:∀x:Str,x≠"__name__"->mb x=bootBuiltins x)(UE:bY.heap.NoLimit)(hg:bY.gens=#[])(ha:bY.heap.get? a=some {cls:=.type "list",data:=.seq vs.toArray})(hi:IntsAre vs ns)(hl:ns.length<=sizeLine)(hr:cA k callerA)(F:∀base:Heap,K.In base->base.Ns mainGlobals mg->gJ P w K mg base CX k fa fd [x] sp)(QX:∀(s:Shared) (u:Value),BindsTo s fd ⟨[u],[]⟩ [(x,u)])(lZ:∀H:Hp,Jf H->fR K H a (ns.map V.int)->sp [.ref a] H (fun v _=>v=.bl true) fun _ _ _=>False)(OS:∀H e s',CX [] H bY (fun _ _ _=>False) e s'->False):
  codeAny (model P w) callerA (.call (.ref fa) ⟨[.ref a],[]⟩) (fun r s'=>r=.ok (.ret (.bool true))/\OldK bY.heap s'.heap/\s'.os=bY.os/\AllBare s'.gens) bY:=by
 have rv:=wR hi;have Uq:=hi.length

 have core:∀H:Hp,Jf H->fR K H a (ns.map V.int)->iJ P w H bY.heap->(∀b,H b≠none->b=a)->(H a≠none->K.lookup a=none)->
   codeAny (model P w) callerA (.call (.ref fa) ⟨[.ref a],[]⟩) (fun r s'=>r=.ok (.ret (.bool true))/\OldK bY.heap s'.heap/\s'.os=bY.os/\AllBare s'.gens) bY:=by
  intro H hO hS bw hA hK;have Cu:∀{b:Addr} {o:Obj},bY.heap.get? b=some o->H b=none->(pN bY.heap H).get? b=some o:=fun e n=>IB e n;have F7:∀{b:Addr} {o:Obj} {es:Array DictEntry} {ep:Nat},bY.heap.get? b=some o->o.data=.dict es ep->H b=none:=fun{b o es ep} e d=>by
   cases q:H b with
   |none=>rfl
   |some u=>
    have e':b=a:=hA b (by rw[q];simp);subst e';rw[ha]at e;cases e;have d':Data.seq vs.toArray _=Data.dict es ep:=d;cases d'
  have JU:∀{b:Addr} {m:Str->Option Value},bY.heap.Ns b m->(pN bY.heap H).Ns b m:=fun{b m} ⟨o,es,ep,e,d,r⟩=>⟨o,es,ep,Cu e (F7 e d),d,r⟩;have Sf:K.In (pN bY.heap H):=fun b o e=>Cu (KX b o e) (by
   cases q:H b with
   |none=>rfl
   |some u=>
    have e':b=a:=hA b (by rw[q];simp);subst e';rw[hK (by rw[q];simp)]at e;cases e)
  have hM:Mod K mg (pN bY.heap H):=⟨Sf,JU RU,⟨mb,JU hb,xB⟩,let ⟨mc,h1,h2⟩:=UE;⟨mc,JU h1,h2⟩⟩;have e0:DW P w K mg (pN bY.heap H) callerA [] bY H:=⟨rfl,hM,fun b o e=>LL e,le_of_eq (FZ _ _),trivial,fun b hb=>absurd (show b∈([]:List Addr)from hb) (by simp),bw,.of_eq hg⟩;refine codeAny_mono ((F _ Sf (JU RU)).run callerA [] bY H ⟨[.ref a],[]⟩ [.ref a] [.ref a] _ _ hr e0 (QX bY (.ref a)) (.cons rfl .nil) (lZ H hO hS)) fun r s' h=>?_;cases r with
  |error e=>exact(OS H e s' h).elim
  |ok fl=>
   cases fl with
   |next=>exact False.elim h
   |brk=>exact False.elim h
   |cont=>exact False.elim h
   |ret u=>
    obtain⟨v,H',os,bare,un,Uz,r',q⟩:=h;have q':v=.bl true:=q;subst q';obtain rfl:u=Value.bool true:=r';refine⟨rfl,OldK.of_keep fun b o e=>?_,os,bare⟩;cases q:H b with
    |none=>exact un.keep b o e q (by intro z;exact absurd (show b∈([]:List Addr)from z) (by simp)) (by simp)
    |some u=>
     rcases hO b with z|⟨ob,xs,z⟩
     ·rw[q]at z;cases z
     ·have z2:=un.nc b ob _ z;obtain⟨e1,_⟩:=bw b _ z;obtain⟨e2,_⟩:=Uz b _ z2;rw[e]at e1;cases e1;exact e2
 cases hk:K.lookup a with
 |some o=>

  have e:=KX a o hk;rw[ha]at e;cases e;refine core (fun _=>none) (fun _=>.inl rfl) (.inr ⟨_,vs.toArray,_,hk,rfl,rfl,rfl,by rw[size_toArray,Uq];exact hl,by simpa using rv⟩) (fun b u z=>by have z':(none:Option HO)=some u:=z;cases z') (fun b z=>absurd rfl z) fun z=>absurd rfl z
 |none=>
  refine core (fun b=>if b=a then some (.sN {cls:=.type "list",data:=.seq vs.toArray} (.lst (ns.map V.int)))else none) (fun b=>?_) (.inl (.inr ⟨{cls:=.type "list",data:=.seq vs.toArray},if_pos rfl⟩)) (fun b u z=>?_) (fun b z=>?_) fun _=>hk
  ·by_cases hb:b=a
   ·exact .inr ⟨_,_,if_pos hb⟩
   ·exact .inl (if_neg hb)
  ·by_cases hb:b=a
   ·have z':=(if_pos hb).symm.trans z;cases z';subst hb;exact⟨ha,by rw[length_map];exact hl,vs,_,rv,ha⟩
   ·have z':=(if_neg hb).symm.trans z;cases z'
  ·by_cases hb:b=a
   ·exact hb
   ·exact absurd (if_neg hb) z
open PySem PySem.Spec PyProof.Rows
variable {n:Nat}
theorem KU{l:PySem.W.OpenLaw}{q:Program}{loose:List Str}{XP:(Str->Option Value)->Heap->Prop}{YP:World->Heap->Prop}{d:DefRec}{K:Params->Frag}{CX:World->y6}{sp:World->Sp}(hn:l.most=some n)(RX:n<=sizeLine)(zQ:d.params.defaults=[])(hr:cA k callerA)(hY:∀(w:World) (h:Heap),YP w h->(K w.params).In h)(F:∀(w:World) (mg:Str->Option Value) (fa:Addr) (h:Heap),(K w.params).In h->h.Ns mainGlobals mg->mg d.name=some (.ref fa)->
   ∃fd:FuncData,(∀(s:Shared) (u:Value),BindsTo s fd ⟨[u],[]⟩ [(x,u)])/\
    ∀base:Heap,(K w.params).In base->base.Ns mainGlobals mg->gJ l.prog w (K w.params) mg base (CX w) k fa fd [x] (sp w))(lZ:∀(w:World) (H:Hp) (a:Addr) (ns:List Int),ns.length<=n->Jf H->fR (K w.params) H a (ns.map V.int)->sp w [.ref a] H (fun v _=>v=.bl true) fun _ _ _=>False)(OS:∀(w:World) (H:Hp) (s:Shared) (e:Value) (s':Shared),CX w [] H s (fun _ _ _=>False) e s'->False):
  PySem.W.WalkO q loose XP YP l.row.toRowW d [] (fun f vs=>PySem.call f vs):=by
 refine TK.AJ hn zQ fun w aR bY mg mb fa o pm cd doc a vs ns G Y ho hd gB FX Iw hints hlen hg=>?_;have KX:=hY w _ Y;obtain⟨fd,hb,hF⟩:=F w mg fa _ KX G.T.g FX;exact Io KX G.T.g G.T.b G.T.builtins G.T.nolimit hg Iw hints (le_trans hlen RX) hr hF hb (fun H hO hS=>lZ w H a ns hlen hO hS) fun H e s'=>OS w H bY e s'
open PySem PySem.Spec PyProof.Rows
def kv (s:Stmt):Arguments:=match s with
 | .FunctionDef _ a _ _ _ _ _ _ _ _=>a
 |_=>{posonlyargs:=[],args:=[],vararg:=none,kwonlyargs:=[],kw_defaults:=[],kwarg:=none,defaults:=[]}
def dw (s:Stmt):List Stmt:=match s with
 | .FunctionDef _ _ b _ _ _ _ _ _ _=>b
 |_=>[]
def ba (s:Stmt):Scope:=match s with
 | .FunctionDef _ _ _ _ _ _ sc _ _ _=>sc
 |_=>{kind:=.function,names:=[],isGenerator:=false,isCoroutine:=false}
abbrev jy:y6:=fun _ _ _ _ _ _=>False
abbrev E0:XK:=fun _ _ _=>False
variable {X:Cx}
theorem uI:Passes jy X E0:=fun _ _ _ _ _ _ _ h=>h.elim
structure nZ (K:Frag) (x qual:Str) (st:Stmt) (f:Addr) (fd:FuncData):Prop where
 ex:∃(oc:Value) (od:Option Addr) (kV doc pm:Value) (an:Option Addr) (bG ct:Value) (sD:Array (Option Value)),
  fd=fnOf x qual (kv st) (dw st) (ba st) .none kV doc pm an bG ct/\K.lookup f=some ⟨oc,od,.func fd,sD⟩/\codeIn K bG qual=true
 kp:keepIn K (.ref f)=true
variable {base:Heap} {K:Frag} {qual:Str} {st:Stmt} {f:Addr} {N ps:List Str}
theorem nZ.ok{sp:Sp}(F:nZ K x qual st f fd)(S:gk N ps (ba st))(len:∀vs H Q E,sp vs H Q E->vs.length=ps.length)(hbody:∀(bG:Value) (A:Around) (outer:List Env) (s:Shared) (H:Hp) (vs:List V) (Q:VK) (E:XK),cA k (A.deeper (envOfC qual (ba st) s.heap.objs.size f bG))->sp vs H Q E->
   ∃t,lR (k6 jy P w K mg base N qual (ba st) f bG A outer s H E).oK (dw st) t/\t {nx:=fun _ H'=>Q .bR H',rt:=Q} (start N vs) H):gJ P w K mg base jy (k+1) f fd ps sp:=by
 obtain⟨oc,od,kV,doc,pm,an,bG,ct,sD,rfl,lk,gB⟩:=F.ex;refine R3 lk gB S len fun A outer s H vs Q E hr lZ=>?_;obtain⟨t,h,q⟩:=hbody bG A outer s H vs Q E hr lZ;exact⟨t,h.oK,q⟩
theorem nZ.binds(F:nZ K x qual st f fd)(h:∀(kV doc pm:Value) (an:Option Addr) (bG ct:Value) (us:List Value),us.length=ps.length->bindArgs (fnOf x qual (kv st) (dw st) (ba st) .none kV doc pm an bG ct) ⟨us,[]⟩=pure (ps.zip us)):Binds K fd ps []:=by
 obtain⟨oc,od,kV,doc,pm,an,bG,ct,sD,rfl,lk,gB⟩:=F.ex;exact .all (h kV doc pm an bG ct)
variable {oc pm ct:Value} {od an:Option Addr}
theorem A1{sD:Array (Option Value)}{kV doc bG:Value}(l:K.lookup f=some ⟨oc,od,.func (fnOf x qual (kv st) (dw st) (ba st) .none kV doc pm an bG ct),sD⟩)(c:codeIn K bG qual=true)(k:keepIn K (.ref f)=true):nZ K x qual st f (fnOf x qual (kv st) (dw st) (ba st) .none kV doc pm an bG ct):=⟨⟨oc,od,kV,doc,pm,an,bG,ct,sD,rfl,l,c⟩,k⟩
theorem wZ(h:n<=1000):n<sizeLine:=lt_of_le_of_lt h (by decide)
def aV (H H':Hp):Prop:=∀b o,H b=some o->H' b=some o
theorem aV.refl(H:Hp):aV H H:=fun _ _ h=>h
variable {H H1:Hp}
theorem aV.trans{H2:Hp}(a:aV H H1)(b:aV H1 H2):aV H H2:=fun c o h=>b c o (a c o h)
open PySem PySem.Spec PyProof.Rows
variable {pins:List (Addr×Obj)} {σ:St}
variable {s:Shared} in
theorem Inv.big(I:Inv X pins σ H s):sysModules<s.heap.objs.size:=by
 have h:mainGlobals<s.heap.objs.size:=(I.mod.glob.keeps I.bk).lt;exact lt_trans (by decide) h
open PySem PySem.Spec PyProof.Rows
variable {prog:Program} {A:Around} {elt iter:Expr} {ifs:List Expr} {scope:Scope} {pos:Pos} {env:Env}
theorem rJ{R:Result->Shared->Prop}{s:Shared}{target:Expr}{it acc:Value}(I:Nat->Shared->Prop)(turn:∀n s,I n s->wpAny (model prog w) A (pyNext it) (fun r bY=>match r with
   |none=>R (.ok .next) bY
   |some v=>wpAny (model prog w) A (letOwnedTupleGo target it v) (fun _ JD=>wpAny (model prog w) A (assign target env v) (fun _ bD=>
     wpAny (model prog w) A (forIn ifs true fun c r=>if r=true then do let ok <- isTrue c env (eval c env);pure (ForInStep.yield ok)else pure (ForInStep.yield r)) (fun ok mK=>
      if ok=true then wpAny (model prog w) A (eval elt env) (fun x MV=>
       wpAny (model prog w) A (call (.builtin "list.append") [acc,x]) (fun _ MU=>∃m,m<n/\I m MU) (notedBy (model prog w) A env fun e s'=>R (.error e) s') MV) (notedBy (model prog w) A env fun e s'=>R (.error e) s') mK
      else ∃m,m<n/\I m mK) (notedBy (model prog w) A env fun e s'=>R (.error e) s') bD) (notedBy (model prog w) A env fun e s'=>R (.error e) s') JD) (notedBy (model prog w) A env fun e s'=>R (.error e) s') bY) (notedBy (model prog w) A env fun e s'=>R (.error e) s') s)(n:Nat)(h:I n s):
  codeAny (model prog w) A (.compLoop (.ListComp elt [⟨target,iter,ifs,0⟩] scope pos) 0 it acc env) R s:=by
 refine codeAny_loop rfl I (fun n s hI=>?_) n h;show wpAny _ A ((compTurn (.ListComp elt [⟨target,iter,ifs,0⟩] scope pos) 0 it acc env).onRaise (fun x=>do noteFrame x env;theTreesLotGoes x)) _ _ s
 refine wpAny_noted ?_;rw[compTurn_list];refine wpAny_bind (wpAny_standAt (wpAny_bind (wpAny_mono (turn n s hI) (fun r bY jC=>?_) fun _ _ h'=>h')));cases r with
 |none=>exact wpAny_pure jC
 |some v=>
  refine wpAny_bind (wpAny_mono jC (fun _ JD QP=>?_) fun _ _ h'=>h');refine wpAny_bind (wpAny_mono QP (fun _ bD zG=>wpAny_bind (wpAny_mono zG (fun ok mK Og=>?_) fun _ _ h'=>h')) fun _ _ h'=>h');cases ok with
  |false=>exact wpAny_pure ⟨rfl,Og⟩
  |true=>
   exact wpAny_bind (wpAny_bind (wpAny_mono Og (fun x MV Uu=>wpAny_bind (wpAny_mono Uu (fun _ MU Ut=>wpAny_pure (wpAny_pure ⟨rfl,Ut⟩)) fun _ _ h'=>h')) fun _ _ h'=>h'))
abbrev eC (X:Cx) (scope:Scope) (cl:List (Str×Addr)) (N':List Str) (C:Addr) (aR:Shared) (aj:Hp) (ex:List Addr):Cx:=
 {prog:=X.prog,w:=X.w,K:=X.K,mg:=X.mg,base:=X.base,A:=X.A,N:=N',aR:=aR,aj:=aj,env:=compEnvC scope cl C X.env,outer:=X.stack,stack:=X.stack,ex:=ex,fn:=fun _=>false,calm:=X.calm,pn:=[],xe:=fun _ _=>False}
def Ha (X:Cx) (ifs:List Expr) (t:TT):Prop:=
 ∀(pins:List (Addr×Obj)) (s:Shared) (σ:St) (H:Hp) (Q:Bool->Hp->Prop),Inv X pins σ H s->t σ H Q->
  wpAny (model X.prog X.w) X.A (forIn ifs true fun c r=>if r=true then do let ok <- isTrue c X.env (eval c X.env);pure (ForInStep.yield ok)else pure (ForInStep.yield r)) (TP X pins σ Q) X.xe s
def Hq:TT:=fun _ H Q=>Q true H
theorem Bk:Ha X [] Hq:=fun _ _ _ H _ I h=>wpAny_tests_nil ⟨H,I,h⟩
variable {c:Expr}
theorem Ln{t:TT}(h:PT X c t):Ha X [c] t:=fun pins s σ H Q I hw=>wpAny_tests_one (h pins s σ H Q I hw)
def cJ (bg:List (Option Nat)) (σ:St):St:=bg.map fun o=>o.bind fun j=>(σ[j]?).join
structure sV (X:Cx) (scope:Scope) (cl:List (Str×Addr)) (N':List Str) (bg:List (Option Nat)):Prop where
 J7:closureFor scope X.env=pure cl
 cells:∀y∈scope.names,y.2≠.cell
 kind:scope.kind=.function
 names:∀y∈scope.names,y.2=.local->scope.names.lookup y.1=some .local
 nd:N'.Nodup
 len:bg.length=N'.length
 sub:∀x c,cl.lookup x=some c->X.env.cells.lookup x=some c
 has:∀x,((relabel scope X.env).names.lookup x=some .cell\/(relabel scope X.env).names.lookup x=some .free)->∃c,cl.lookup x=some c
 bg:∀(i:Nat) (x:Str) (j:Nat),N'[i]?=some x->bg[i]?=some (some j)->X.N[j]?=some x/\nA X.env.scope x/\((relabel scope X.env).names.lookup x=some .cell\/(relabel scope X.env).names.lookup x=some .free)/\X.env.scope.names.lookup x≠some .local
def fD:St->St->Prop
 |[],[]=>True
 |none::a,_::b=>fD a b
 |some v::a,u::b=>u=some v/\fD a b
 |_,_=>False
theorem fD.len:∀{a b:St},fD a b->a.length=b.length
 |[],[],_=>rfl
 |none::a,_::b,h=>congrArg (· + 1) (fD.len (a:=a) (b:=b) h)
 |some v::a,u::b,h=>congrArg (· + 1) (fD.len (a:=a) (b:=b) h.2)
 |[],_::_,h=>h.elim
 |none::_,[],h=>h.elim
 |some _::_,[],h=>h.elim
theorem fD.get:∀{a b:St},fD a b->∀(i:Nat) (v:V),a[i]?=some (some v)->b[i]?=some (some v)
 |[],[],_,i,v,e=>by simp at e
 |none::a,_::b,h,0,v,e=>by simp at e
 |none::a,_::b,h,i+1,v,e=>by
  rw[getElem?_cons_succ]at e ⊢;exact fD.get (a:=a) (b:=b) h i v e
 |some x::a,u::b,h,0,v,e=>by
  rw[getElem?_cons_zero]at e ⊢;rw[h.1];exact e
 |some x::a,u::b,h,i+1,v,e=>by
  rw[getElem?_cons_succ]at e ⊢;exact fD.get (a:=a) (b:=b) h.2 i v e
 |[],_::_,h,_,_,_=>h.elim
 |none::_,[],h,_,_,_=>h.elim
 |some _::_,[],h,_,_,_=>h.elim
def uc (bg:List (Option Nat)) (wi:TI) (g:TG) (ua:TT) (te:TE):TE:=fun σ H Q=>wi σ H fun J H1=>∃W:Nat->Nat->List V->Hp->Prop,(∃m,W 0 m [] H1)/\∀i m ys H,W i m ys H->ys.length<sizeLine/\
 ((J.stop i H/\∀D,H D=none->Q (.ref D) (upd H D (.lst ys)))\/
  (J.go i H/\∀x H',J.wQ i H x H'->g x (cJ bg σ) H' fun gn H2=>fD (cJ bg σ) gn/\ua gn H2 fun b H3=>if b=true then te gn H3 fun v H4=>∃m',m'<m/\W (i+1) m' (ys++[v]) H4 else ∃m',m'<m/\W (i+1) m' ys H3))
variable {tg:Expr} {cl:List (Str×Addr)} {N':List Str}
theorem vU{bg:List (Option Nat)}{wi:TI}{g:TG}{ua:TT}{te:TE}(hc:X.calm=true)(B:sV X scope cl N' bg)(hi:PI X tg iter wi)(hg:∀C aR aj ex,PG (eC X scope cl N' C aR aj ex) tg g)(ht:∀C aR aj ex,Ha (eC X scope cl N' C aR aj ex) ifs ua)(he:∀C aR aj ex,PE (eC X scope cl N' C aR aj ex) elt te)(hs:∀x,foldedSetIterable iter X.env x=pure x:=by intro _;rfl):
  PE X (.ListComp elt [⟨tg,iter,ifs,0⟩] scope pos) (uc bg wi g ua te):=by
 intro pins s σ H Q I h;rw[eval_ListComp];refine wpAny_comprehension_free (use:=none) rfl hs B.J7 B.kind B.names (cg (hi pins s σ H _ I h) fun xv bY jC=>cg jC fun K5 bD zG=>?_);obtain⟨it,fp,tn,J,H2,e,I2,T,kC,f2,W,⟨m0,w0⟩,turn⟩:=zG;subst e;refine wpAny_newObj_type (wpAny_newFunctionEnv B.cells (by intro y hy;simp at hy) (fun jC mZ kJ=>?_) B.kind);dsimp only at mZ kJ ⊢;generalize zW:bD.heap.push {cls:=.type "list",dict:=none,data:=.seq ([]:List Value).toArray}=HH at mZ kJ ⊢;have hC:HH.objs.size=bD.heap.objs.size+1:=by rw[<- zW,size_push]
 have Ga:bD.heap.objs.size≠HH.objs.size:=by rw[hC];exact ne_of_lt (Nat.lt_succ_self _)
 have below:∀b,b<bD.heap.objs.size->b≠HH.objs.size/\b≠bD.heap.objs.size:=fun b hb=>⟨by rw[hC];exact ne_of_lt (Nat.lt_succ_of_lt hb),ne_of_lt hb⟩;have old:∀b o,bD.heap.get? b=some o->jC.get? b=some o:=fun b o e=>kJ.extBut b o (below b (lt_size e)).1 (get?_push_of_some _ (zW▸get?_push_of_some _ e));have we:jC.get? bD.heap.objs.size=some {cls:=.type "list",data:=.seq ([]:List Value).toArray}:=kJ.extBut _ _ Ga (get?_push_of_some _ (zW▸get?_push_size _ rfl));have qg:bD.heap.objs.size<=HH.objs.size:=by rw[hC];exact Nat.le_succ _
 generalize hD:bD.heap.objs.size=D at *;generalize X5:HH.objs.size=C at *

 have A3:∀b∈fp,b<D:=fun b hb=>by
  obtain⟨o,e,_⟩:=T.obj _ _ kC b hb;rw[<- hD];exact lt_size e
 have DJ:∀x c,cl.lookup x=some c->c<D:=fun x c e=>by
  obtain⟨v,q⟩:=I2.cell x c (B.sub x c e);rw[<- hD];exact q.lt
 have OT:∀b∈lL X.stack,b∈X.env.locals::X.fs:=fun b hb=>I2.ud b hb;have ok:(eC X scope cl N' C bD H2 fp).Ok:=by
  refine⟨I2.mod,B.kind,I2.ok.glob,I2.ok.blt,?_,fun x y c h1 h2=>I2.ok.inj x y c (B.sub x c h1) (B.sub y c h2),fun x hx=>B.has x hx,fun x c hf=>absurd hf (by simp),I2.ok.hd,I2.ok.frames,.inl rfl,fun b hb=>⟨?_,fun x c e z=>?_⟩,I2.bs,le_trans I2.ok.xS I2.sz,fun b o e hb=>?_,fun b hb hf=>?_,I2.stack,I2.vK⟩
  ·show bD.heap.objs.size<=C;rw[hD];exact qg
  ·exact ne_of_lt (lt_of_lt_of_le (A3 b hb) qg)
  ·exact(f2 b hb).2.2.2.2.1 x c (B.sub x c e) z
  ·have h1:=f2 b hb;rcases h1.2.2.2.1 with z|z
   ·exact I2.ok.vW b o e z
   ·have h2:=(I2.ok.bs b o e).1;exact absurd (lt_of_lt_of_le (lt_size h2) z) (lt_irrefl _)
  ·rcases mem_cons.mp (OT b hf)with z|z
   ·exact(f2 b hb).2.1 z
   ·exact(f2 b hb).2.2.1 z
 have rB:∀a,D<=a->H2 a=none:=fun a ha=>I2.bw.fresh (by rw[hD];exact ha);have I4:Inv (eC X scope cl N' C bD H2 fp) [] (cJ bg σ) H2 {bD with heap:=jC,toks:=bD.toks+([]:List (Str×Value)).length}:=by
  refine⟨ok,rfl,I2.bare,Un.kept old,⟨_,mZ,fun i x v e1 e2 e3=>?_⟩,fun x c e=>?_,rB C qg,fun x c e=>I2.jU x c (B.sub x c e),fun p hp=>absurd (show p∈([]:List (Addr×Obj))from hp) (by simp),I2.bw.kept old,?_⟩
  ·have Cm:N'[i]?=some x:=e1;unfold cJ at e2;rw[getElem?_map]at e2;cases pO:bg[i]? with
   |none=>rw[pO]at e2;cases e2
   |some o=>
    rw[pO]at e2;cases o with
    |none=>cases e2
    |some j=>
     obtain⟨hN,hv,hk,FW⟩:=B.bg i x j Cm pO;have e4:σ[j]?=some (some v):=by
      have e5:some ((σ[j]?).join)=some (some v):=e2;cases hq:σ[j]? with
      |none=>rw[hq]at e5;cases e5
      |some q=>rw[hq]at e5;exact e5
     obtain⟨m,hn,hl⟩:=I2.loc;obtain⟨u,r,l⟩:=hl j x v hN e4 hv;refine⟨u,r,.inr ⟨hk,?_⟩⟩;rcases l with⟨k,_⟩|⟨k,c,sM,o,ho,hd⟩
     ·exact absurd k FW
     ·obtain⟨c',iZ⟩:=B.has x hk;have e6:=B.sub x c' iZ;rw[sM]at e6;cases e6;exact⟨c,iZ,o,old c o ho,hd⟩
  ·obtain⟨v,o,ho,hd⟩:=I2.cell x c (B.sub x c e);exact⟨v,o,old c o ho,hd⟩
  ·show(cJ bg σ).length=N'.length;unfold cJ;rw[length_map];exact B.len
 have tx:D≠C:=Ga;have P9:D∉lL X.stack:=fun hb=>by
  obtain⟨_,o,ho,_⟩:=I2.stack.mem hb;have:=lt_size ho;rw[hD]at this;exact absurd this (lt_irrefl _)
 have mM:∀{P:List (Addr×Obj)} {H':Hp},(∀p∈P,p.1=D)->(∀b∈fp,H' b=none)->∀b∈fp,pZ (eC X scope cl N' C bD H2 fp) P H' b:=fun hP hn b hb=>
  ⟨hn b hb,(ok.Cc b hb).1,ok.wm b hb,.inl hb,(ok.Cc b hb).2,fun p hp z=>by
   have fQ:p∈_:=hp;rw[hP p (by simpa using fQ)]at z;exact Nat.ne_of_gt (A3 b hb) z⟩
 have loop:∀mK:Shared,mK={bD with heap:=jC,toks:=bD.toks+([]:List (Str×Value)).length}->
   codeAny (model X.prog X.w) X.A (.compLoop (.ListComp elt [⟨tg,iter,ifs,0⟩] scope pos) 0 (.ref it) (.ref D) (compEnvC scope cl C X.env))
    (compPost (model X.prog X.w) X.A X.xe none (EP X pins σ Q) (.ref D) C) mK:=by
  rintro mK rfl;refine rJ (fun n s'=>∃i ys ak H' k,Inv (eC X scope cl N' C bD H2 fp) [] (cJ bg σ) H' s'/\tn i s'.heap/\(∀b∈fp,H' b=none)/\H' D=none/\s'.heap.get? D=some {cls:=.type "list",data:=.seq (ak:List Value).toArray k}/\Vals ys ak/\W i n ys H') ?_ m0
   ⟨0,[],[],H2,0,I4,T.keep _ _ _ kC fun b _ o e=>old b o e,fun b hb=>(f2 b hb).1,rB D (le_refl _),we,.nil,w0⟩
  rintro n s' ⟨i,ys,ak,H',k,Ia,Ef,Gh,n8,OR,rv,wa⟩;obtain⟨hsz,tu⟩:=turn i n ys H' wa;have Ib:Inv (eC X scope cl N' C bD H2 fp) [(D,{cls:=.type "list",data:=.seq ak.toArray k})] (cJ bg σ) H' s':=Ia.kh fun p hp=>by
   have fQ:p=(D,{cls:=.type "list",data:=.seq ak.toArray k}):=by simpa using hp
   subst fQ;exact⟨OR,n8,tx,P9,fun v z=>nomatch z⟩
  have zV:∀p∈[((D,{cls:=.type "list",data:=.seq ak.toArray k}):Addr×Obj)],p.1=D:=fun p hp=>by
   have fQ:p=(D,{cls:=.type "list",data:=.seq ak.toArray k}):=by simpa using hp
   rw[fQ]
  rcases tu with⟨stop,qn⟩|⟨go,step⟩
  ·refine wpAny_mono (T.done (eC X scope cl N' C bD H2 fp) rfl rfl rfl hc i _ s' (cJ bg σ) H' (fun _ _=>False) Ib (mM zV Gh) Ef stop) (fun r s4 zL=>?_) fun _ _ z=>z.elim;obtain⟨hr,Ic⟩:=zL;subst hr;obtain⟨m,hn,_⟩:=Ic.loc;refine⟨m,hn,fun h' qa=>?_⟩;have IF:s4.heap.get? D=some {cls:=.type "list",data:=.seq ak.toArray k}:=(Ic.pin (D,_) (by simp)).1;have Ko:H' C=none:=Ic.free;have un:Un (lL X.stack) fp H2 (upd H' D (.lst ys)) bD.heap h':=by
    have bs:=Ic.base;have xm:∀b o,bD.heap.get? b=some o->h'.get? b=s4.heap.get? b:=fun b o e=>by
     have:b<D:=by rw[<- hD];exact lt_size e
     exact qa.2 b (ne_of_lt (lt_of_lt_of_le this qg))
    refine⟨fun b o e n h1 h2=>(xm b o e).trans (bs.keep b o e n h1 h2),fun b o e n h1 h2=>?_,fun b o e n h2=>?_,fun b o e h2=>?_,fun b xs e=>?_,fun b o u e=>?_,fun b ps e=>?_⟩
    ·obtain⟨sl,q⟩:=bs.slot b o e n h1 h2;exact⟨sl,(xm b o e).trans q⟩
    ·have:b<D:=by rw[<- hD];exact lt_size e
     rw[bA (ne_of_lt this)];exact bs.free b o e n h2
    ·obtain⟨o',q⟩:=bs.there b o e h2;exact⟨o',(xm b o e).trans q⟩
    ·have q:=bs.o9 b xs e;rw[bA (bz q n8)];exact q
    ·have q:=bs.nc b o u e;rw[bA (bz q n8)];exact q
    ·obtain⟨more,q⟩:=bs.oh b ps e;exact⟨more,by rw[bA (bz q n8)];exact q⟩
   have bw:iJ X.prog X.w (upd H' D (.lst ys)) h':=fun b u e=>by
    by_cases hb:b=D
    ·subst hb;rw[dD]at e;cases e;exact⟨Nat.le_of_lt hsz,ak,k,rv,(qa.2 _ (by show _≠C;exact tx)).trans IF⟩
    ·rw[bA hb]at e;refine(Ic.bw b u e).om (fun c v G6 q=>(qa.2 c ?_).trans q) (fun c q=>by rw[bA (bz q n8)];exact q) fun c xs q=>by rw[bA (bz q n8)];exact q
     rcases G6 with z|z
     ·rw[z];exact bz e Ko
     ·exact bz z Ko
   have If:=I2.KC (s':={s4 with heap:=h'}) (H':=upd H' D (.lst ys)) (ch:=fp) Ic.os un bw Ic.bare fun b hb=>⟨(f2 b hb).2.2.2.1,(f2 b hb).2.1,(f2 b hb).2.2.2.2.1,(f2 b hb).2.2.2.2.2⟩;exact⟨.ref D,_,If,rfl,qn D n8⟩
  ·refine wpAny_mono (T.item (eC X scope cl N' C bD H2 fp) rfl rfl rfl hc i _ s' (cJ bg σ) H' (fun _ _=>False) Ib (mM zV Gh) Ef go) (fun r s4 zL=>?_) fun _ _ z=>z.elim;obtain⟨u,hr,h4⟩:=zL;subst hr;refine wpAny_mono h4 (fun _ s5 h5=>?_) fun _ _ z=>z.elim;obtain⟨x,H5,I5,r5,y5,qB,Gi⟩:=h5;have Hc:=I5.pinned (mM zV Gi) (T.obj _ _ qB);refine wpAny_mono (hg C bD H2 fp _ s5 (cJ bg σ) H5 x u _ Hc r5 (step x H5 y5)) (fun _ s6 h6=>?_) fun _ _ z=>z.elim;obtain⟨tW,H6,I6,uQ,q6⟩:=h6;refine wpAny_mono (ht C bD H2 fp _ s6 tW H6 _ I6 q6) (fun b s7 h7=>?_) fun _ _ z=>z.elim;obtain⟨H7,I7,q7⟩:=h7

   have back:∀{bI:St} {vB:Hp} {oD:Shared},Inv (eC X scope cl N' C bD H2 fp) ([((D,{cls:=.type "list",data:=.seq ak.toArray k}):Addr×Obj)]++oH fp s5.heap) bI vB oD->
     oD.heap.get? D=some {cls:=.type "list",data:=.seq ak.toArray k}/\vB D=none/\(∀b∈fp,vB b=none)/\tn (i+1) oD.heap:=fun{bI vB oD} Iz=>by
    have pz:=fun p hp=>Iz.pin p (mem_append_right _ hp);have pD:=pz (D,{cls:=.type "list",data:=.seq ak.toArray k}) (mem_append_left _ mem_cons_self);refine⟨pD.1,pD.2.1,fun b hb=>?_,T.keep _ _ _ qB fun b hb o e=>(pz (b,o) (mem_append_right _ (jo hb e))).1⟩;obtain⟨o,e,_⟩:=T.obj _ _ qB b hb;exact(pz (b,o) (mem_append_right _ (jo hb e))).2.1
   have hits:ak.length=ys.length:=rv.length.symm;cases b with
   |false=>
    rw[if_neg Bool.false_ne_true]at q7 ⊢;obtain⟨m',hm,w7⟩:=q7;obtain⟨b1,b2,b3,b4⟩:=back I7;exact⟨m',hm,i+1,ys,ak,H7,k,(I7.kh (pins':=[]) fun p hp=>absurd hp (by simp)).weak uQ.len uQ.get,b4,b3,b2,b1,rv,w7⟩
   |true=>
    rw[if_pos rfl]at q7 ⊢;refine wpAny_mono (he C bD H2 fp _ s7 tW H7 _ I7 q7) (fun y s8 h8=>?_) fun _ _ z=>z.elim;obtain⟨v,H8,I8,r8,m',hm,w8⟩:=h8;obtain⟨b1,b2,b3,b4⟩:=back I8;refine wpAny_list_append_plain (l:=D) (items:=ak.toArray) (hsz:=by rw[size_toArray];omega) ⟨k,b1⟩ fun h' iG qa=>?_;obtain⟨k',e'⟩:=iG;have I9:Inv (eC X scope cl N' C bD H2 fp) [] tW H8 {s8 with heap:=h',toks:=s8.toks}:=(I8.kh (pins':=[]) fun p hp=>absurd hp (by simp)).turned (it:=D) (fun b o hb e=>(qa.2 b hb).trans e) b2 tx (.inr (le_of_eq hD))
     (fun x c e=>ne_of_lt (DJ x c e)) (fun p hp=>absurd (show p∈([]:List (Addr×Obj))from hp) (by simp))
    refine⟨m',hm,i+1,ys++[v],ak++[y],H8,k',I9.weak uQ.len uQ.get,T.keep _ _ _ b4 fun b hb o e=>(qa.2 b (ne_of_lt (A3 b hb))).trans e,b3,b2,?_,rv.append (.cons r8 .nil),w8⟩;have Gz:h'.get? D=_:=e';rw[List.push_toArray]at Gz;exact Gz
 exact codeAny_compStart_list (loop _ rfl) (T.self X.A 0 _ _ _ (T.keep _ _ _ kC fun b _ o e=>old b o e) (loop _ rfl))
open PySem PySem.Spec PyProof.Rows
def MT (i:Nat) (bg:List (Option Nat)) (wi:TI) (g:TG) (ua:TT) (te:TE):TS:=fun D σ H=>uc bg wi g ua te σ H fun v H'=>D.nx (σ.set i (some v)) H'
variable {qC pos':Pos}
theorem Bp{bg:List (Option Nat)}{wi:TI}{g:TG}{ua:TT}{te:TE}{iz:Nat}(hc:X.calm=true)(B:sV X scope cl N' bg)(hi:PI X tg iter wi)(hg:∀C aR aj ex,PG (eC X scope cl N' C aR aj ex) tg g)(ht:∀C aR aj ex,Ha (eC X scope cl N' C aR aj ex) ifs ua)(he:∀C aR aj ex,PE (eC X scope cl N' C aR aj ex) elt te)(hN:X.N.Nodup)(FN:X.N[iz]?=some x)(hx:Loc X.env.scope x)(FR:swapsWith (.ListComp elt [⟨tg,iter,ifs,0⟩] scope pos) (some (.Name x pos')) qC.line X.env=pure true)(G0:X.fn x=true\/X.env.scope.names.lookup x=some .local)(hs:∀x,foldedSetIterable iter X.env x=pure x:=by intro _;rfl):
  PS X (.Assign [.Name x pos'] (.ListComp elt [⟨tg,iter,ifs,0⟩] scope pos) qC) (MT iz bg wi g ua te):=by
 intro pins s σ H DD I h;rw[exec_Assign_Name_used _ _ _ _ FR];refine wpAny_bind (wpAny_standAt (wpAny_bind ?_));show wpAny _ X.A (do let _ <- comprehension (.ListComp elt [⟨tg,iter,ifs,0⟩] scope pos) scope X.env _ (newList []) false (eval iter X.env) (some (assign (.Name x pos') X.env))) _ _ s
 refine wpAny_bind (wpAny_mono (wpAny_comprehension_free (use:=some (assign (.Name x pos') X.env)) (Q:=fun _ s'=>SP X pins DD .next s') rfl hs B.J7 B.kind B.names (cg (hi pins s σ H _ I h) fun xv bY jC=>cg jC fun K5 bD zG=>?_)) (fun _ s' hq=>wpAny_pure (wpAny_pure hq)) fun _ _ e=>e)
 obtain⟨it,fp,tn,J,H2,e,I2,T,kC,f2,W,⟨m0,w0⟩,turn⟩:=zG;subst e;refine wpAny_newObj_type (wpAny_newFunctionEnv B.cells (by intro y hy;simp at hy) (fun jC mZ kJ=>?_) B.kind);dsimp only at mZ kJ ⊢;generalize zW:bD.heap.push {cls:=.type "list",dict:=none,data:=.seq ([]:List Value).toArray}=HH at mZ kJ ⊢;have hC:HH.objs.size=bD.heap.objs.size+1:=by rw[<- zW,size_push]
 have Ga:bD.heap.objs.size≠HH.objs.size:=by rw[hC];exact ne_of_lt (Nat.lt_succ_self _)
 have below:∀b,b<bD.heap.objs.size->b≠HH.objs.size/\b≠bD.heap.objs.size:=fun b hb=>⟨by rw[hC];exact ne_of_lt (Nat.lt_succ_of_lt hb),ne_of_lt hb⟩;have old:∀b o,bD.heap.get? b=some o->jC.get? b=some o:=fun b o e=>kJ.extBut b o (below b (lt_size e)).1 (get?_push_of_some _ (zW▸get?_push_of_some _ e));have we:jC.get? bD.heap.objs.size=some {cls:=.type "list",data:=.seq ([]:List Value).toArray}:=kJ.extBut _ _ Ga (get?_push_of_some _ (zW▸get?_push_size _ rfl));have qg:bD.heap.objs.size<=HH.objs.size:=by rw[hC];exact Nat.le_succ _
 generalize hD:bD.heap.objs.size=D at *;generalize X5:HH.objs.size=C at *

 have A3:∀b∈fp,b<D:=fun b hb=>by
  obtain⟨o,e,_⟩:=T.obj _ _ kC b hb;rw[<- hD];exact lt_size e
 have DJ:∀x c,cl.lookup x=some c->c<D:=fun x c e=>by
  obtain⟨v,q⟩:=I2.cell x c (B.sub x c e);rw[<- hD];exact q.lt
 have OT:∀b∈lL X.stack,b∈X.env.locals::X.fs:=fun b hb=>I2.ud b hb;have ok:(eC X scope cl N' C bD H2 fp).Ok:=by
  refine⟨I2.mod,B.kind,I2.ok.glob,I2.ok.blt,?_,fun x y c h1 h2=>I2.ok.inj x y c (B.sub x c h1) (B.sub y c h2),fun x hx=>B.has x hx,fun x c hf=>absurd hf (by simp),I2.ok.hd,I2.ok.frames,.inl rfl,fun b hb=>⟨?_,fun x c e z=>?_⟩,I2.bs,le_trans I2.ok.xS I2.sz,fun b o e hb=>?_,fun b hb hf=>?_,I2.stack,I2.vK⟩
  ·show bD.heap.objs.size<=C;rw[hD];exact qg
  ·exact ne_of_lt (lt_of_lt_of_le (A3 b hb) qg)
  ·exact(f2 b hb).2.2.2.2.1 x c (B.sub x c e) z
  ·have h1:=f2 b hb;rcases h1.2.2.2.1 with z|z
   ·exact I2.ok.vW b o e z
   ·have h2:=(I2.ok.bs b o e).1;exact absurd (lt_of_lt_of_le (lt_size h2) z) (lt_irrefl _)
  ·rcases mem_cons.mp (OT b hf)with z|z
   ·exact(f2 b hb).2.1 z
   ·exact(f2 b hb).2.2.1 z
 have rB:∀a,D<=a->H2 a=none:=fun a ha=>I2.bw.fresh (by rw[hD];exact ha);have I4:Inv (eC X scope cl N' C bD H2 fp) [] (cJ bg σ) H2 {bD with heap:=jC,toks:=bD.toks+([]:List (Str×Value)).length}:=by
  refine⟨ok,rfl,I2.bare,Un.kept old,⟨_,mZ,fun i x v e1 e2 e3=>?_⟩,fun x c e=>?_,rB C qg,fun x c e=>I2.jU x c (B.sub x c e),fun p hp=>absurd (show p∈([]:List (Addr×Obj))from hp) (by simp),I2.bw.kept old,?_⟩
  ·have Cm:N'[i]?=some x:=e1;unfold cJ at e2;rw[getElem?_map]at e2;cases pO:bg[i]? with
   |none=>rw[pO]at e2;cases e2
   |some o=>
    rw[pO]at e2;cases o with
    |none=>cases e2
    |some j=>
     obtain⟨hN,hv,hk,FW⟩:=B.bg i x j Cm pO;have e4:σ[j]?=some (some v):=by
      have e5:some ((σ[j]?).join)=some (some v):=e2;cases hq:σ[j]? with
      |none=>rw[hq]at e5;cases e5
      |some q=>rw[hq]at e5;exact e5
     obtain⟨m,hn,hl⟩:=I2.loc;obtain⟨u,r,l⟩:=hl j x v hN e4 hv;refine⟨u,r,.inr ⟨hk,?_⟩⟩;rcases l with⟨k,_⟩|⟨k,c,sM,o,ho,hd⟩
     ·exact absurd k FW
     ·obtain⟨c',iZ⟩:=B.has x hk;have e6:=B.sub x c' iZ;rw[sM]at e6;cases e6;exact⟨c,iZ,o,old c o ho,hd⟩
  ·obtain⟨v,o,ho,hd⟩:=I2.cell x c (B.sub x c e);exact⟨v,o,old c o ho,hd⟩
  ·show(cJ bg σ).length=N'.length;unfold cJ;rw[length_map];exact B.len
 have tx:D≠C:=Ga;have P9:D∉lL X.stack:=fun hb=>by
  obtain⟨_,o,ho,_⟩:=I2.stack.mem hb;have:=lt_size ho;rw[hD]at this;exact absurd this (lt_irrefl _)
 have mM:∀{P:List (Addr×Obj)} {H':Hp},(∀p∈P,p.1=D)->(∀b∈fp,H' b=none)->∀b∈fp,pZ (eC X scope cl N' C bD H2 fp) P H' b:=fun hP hn b hb=>
  ⟨hn b hb,(ok.Cc b hb).1,ok.wm b hb,.inl hb,(ok.Cc b hb).2,fun p hp z=>by
   have fQ:p∈_:=hp;rw[hP p (by simpa using fQ)]at z;exact Nat.ne_of_gt (A3 b hb) z⟩
 have loop:∀mK:Shared,mK={bD with heap:=jC,toks:=bD.toks+([]:List (Str×Value)).length}->
   codeAny (model X.prog X.w) X.A (.compLoop (.ListComp elt [⟨tg,iter,ifs,0⟩] scope pos) 0 (.ref it) (.ref D) (compEnvC scope cl C X.env))
    (compPost (model X.prog X.w) X.A X.xe (some (assign (.Name x pos') X.env)) (fun _ s'=>SP X pins DD .next s') (.ref D) C) mK:=by
  rintro mK rfl;refine rJ (fun n s'=>∃i ys ak H' k,Inv (eC X scope cl N' C bD H2 fp) [] (cJ bg σ) H' s'/\tn i s'.heap/\(∀b∈fp,H' b=none)/\H' D=none/\s'.heap.get? D=some {cls:=.type "list",data:=.seq (ak:List Value).toArray k}/\Vals ys ak/\W i n ys H') ?_ m0
   ⟨0,[],[],H2,0,I4,T.keep _ _ _ kC fun b _ o e=>old b o e,fun b hb=>(f2 b hb).1,rB D (le_refl _),we,.nil,w0⟩
  rintro n s' ⟨i,ys,ak,H',k,Ia,Ef,Gh,n8,OR,rv,wa⟩;obtain⟨hsz,tu⟩:=turn i n ys H' wa;have Ib:Inv (eC X scope cl N' C bD H2 fp) [(D,{cls:=.type "list",data:=.seq ak.toArray k})] (cJ bg σ) H' s':=Ia.kh fun p hp=>by
   have fQ:p=(D,{cls:=.type "list",data:=.seq ak.toArray k}):=by simpa using hp
   subst fQ;exact⟨OR,n8,tx,P9,fun v z=>nomatch z⟩
  have zV:∀p∈[((D,{cls:=.type "list",data:=.seq ak.toArray k}):Addr×Obj)],p.1=D:=fun p hp=>by
   have fQ:p=(D,{cls:=.type "list",data:=.seq ak.toArray k}):=by simpa using hp
   rw[fQ]
  rcases tu with⟨stop,qn⟩|⟨go,step⟩
  ·refine wpAny_mono (T.done (eC X scope cl N' C bD H2 fp) rfl rfl rfl hc i _ s' (cJ bg σ) H' (fun _ _=>False) Ib (mM zV Gh) Ef stop) (fun r s4 zL=>?_) fun _ _ z=>z.elim;obtain⟨hr,Ic⟩:=zL;subst hr;obtain⟨m,hn,_⟩:=Ic.loc;have IF:s4.heap.get? D=some {cls:=.type "list",data:=.seq ak.toArray k}:=(Ic.pin (D,_) (by simp)).1;have Ko:H' C=none:=Ic.free;have un:Un (lL X.stack) fp H2 (upd H' D (.lst ys)) bD.heap s4.heap:=by
    have bs:=Ic.base;refine⟨fun b o e n h1 h2=>bs.keep b o e n h1 h2,fun b o e n h1 h2=>bs.slot b o e n h1 h2,fun b o e n h2=>?_,fun b o e h2=>bs.there b o e h2,fun b xs e=>?_,fun b o u e=>?_,fun b ps e=>?_⟩
    ·have:b<D:=by rw[<- hD];exact lt_size e
     rw[bA (ne_of_lt this)];exact bs.free b o e n h2
    ·have q:=bs.o9 b xs e;rw[bA (bz q n8)];exact q
    ·have q:=bs.nc b o u e;rw[bA (bz q n8)];exact q
    ·obtain⟨more,q⟩:=bs.oh b ps e;exact⟨more,by rw[bA (bz q n8)];exact q⟩
   have bw:iJ X.prog X.w (upd H' D (.lst ys)) s4.heap:=fun b u e=>by
    by_cases hb:b=D
    ·subst hb;rw[dD]at e;cases e;exact⟨Nat.le_of_lt hsz,ak,k,rv,IF⟩
    ·rw[bA hb]at e;exact(Ic.bw b u e).om (fun c v G6 q=>q) (fun c q=>by rw[bA (bz q n8)];exact q) fun c xs q=>by rw[bA (bz q n8)];exact q
   have If:=I2.KC (s':=s4) (H':=upd H' D (.lst ys)) (ch:=fp) Ic.os un bw Ic.bare fun b hb=>⟨(f2 b hb).2.2.2.1,(f2 b hb).2.1,(f2 b hb).2.2.2.2.1,(f2 b hb).2.2.2.2.2⟩;have Sk:C≠X.env.locals:=Nat.ne_of_gt (lt_of_lt_of_le (by rw[<- hD];exact I2.lt) qg);have Sl:∀y c,X.env.cells.lookup y=some c->c≠C:=fun y c e=>by
    obtain⟨v,q⟩:=I2.cell y c e;exact ne_of_lt (lt_of_lt_of_le (by rw[<- hD];exact q.lt) qg)
   refine wpAny_assign_Name (wW If hN FN hx (v:=.ref D) rfl (fun s5 I5 qd=>?_) G0);obtain⟨aa,Uy,Ws⟩:=qd;have X3:C≠aa:=by
    rcases Ws with z|z
    ·rw[z];exact Sk
    ·exact Ne.symm (Sl x aa z)
   refine⟨m,hn.sameBut Uy X3,fun h' qa=>?_⟩;have X4:upd H' D (.lst ys) C=none:=by rw[bA (Ne.symm tx)];exact Ko
   have I6:Inv X pins (σ.set iz (some (.ref D))) (upd H' D (.lst ys)) {s5 with heap:=h',toks:=s5.toks}:=I5.turned (it:=C) (fun b o hb e=>(qa.2 b hb).trans e) X4 Sk (.inr (le_trans I2.sz (by rw[hD];exact qg))) Sl (fun p hp z=>by
    have h1:=(I2.pin p hp).1;have h2:p.1<D:=by rw[<- hD];exact lt_size h1
    exact absurd z (ne_of_lt (lt_of_lt_of_le h2 qg)))
   exact⟨_,_,I6,qn D n8⟩
  ·refine wpAny_mono (T.item (eC X scope cl N' C bD H2 fp) rfl rfl rfl hc i _ s' (cJ bg σ) H' (fun _ _=>False) Ib (mM zV Gh) Ef go) (fun r s4 zL=>?_) fun _ _ z=>z.elim;obtain⟨u,hr,h4⟩:=zL;subst hr;refine wpAny_mono h4 (fun _ s5 h5=>?_) fun _ _ z=>z.elim;obtain⟨x,H5,I5,r5,y5,qB,Gi⟩:=h5;have Hc:=I5.pinned (mM zV Gi) (T.obj _ _ qB);refine wpAny_mono (hg C bD H2 fp _ s5 (cJ bg σ) H5 x u _ Hc r5 (step x H5 y5)) (fun _ s6 h6=>?_) fun _ _ z=>z.elim;obtain⟨tW,H6,I6,uQ,q6⟩:=h6;refine wpAny_mono (ht C bD H2 fp _ s6 tW H6 _ I6 q6) (fun b s7 h7=>?_) fun _ _ z=>z.elim;obtain⟨H7,I7,q7⟩:=h7

   have back:∀{bI:St} {vB:Hp} {oD:Shared},Inv (eC X scope cl N' C bD H2 fp) ([((D,{cls:=.type "list",data:=.seq ak.toArray k}):Addr×Obj)]++oH fp s5.heap) bI vB oD->
     oD.heap.get? D=some {cls:=.type "list",data:=.seq ak.toArray k}/\vB D=none/\(∀b∈fp,vB b=none)/\tn (i+1) oD.heap:=fun{bI vB oD} Iz=>by
    have pz:=fun p hp=>Iz.pin p (mem_append_right _ hp);have pD:=pz (D,{cls:=.type "list",data:=.seq ak.toArray k}) (mem_append_left _ mem_cons_self);refine⟨pD.1,pD.2.1,fun b hb=>?_,T.keep _ _ _ qB fun b hb o e=>(pz (b,o) (mem_append_right _ (jo hb e))).1⟩;obtain⟨o,e,_⟩:=T.obj _ _ qB b hb;exact(pz (b,o) (mem_append_right _ (jo hb e))).2.1
   have hits:ak.length=ys.length:=rv.length.symm;cases b with
   |false=>
    rw[if_neg Bool.false_ne_true]at q7 ⊢;obtain⟨m',hm,w7⟩:=q7;obtain⟨b1,b2,b3,b4⟩:=back I7;exact⟨m',hm,i+1,ys,ak,H7,k,(I7.kh (pins':=[]) fun p hp=>absurd hp (by simp)).weak uQ.len uQ.get,b4,b3,b2,b1,rv,w7⟩
   |true=>
    rw[if_pos rfl]at q7 ⊢;refine wpAny_mono (he C bD H2 fp _ s7 tW H7 _ I7 q7) (fun y s8 h8=>?_) fun _ _ z=>z.elim;obtain⟨v,H8,I8,r8,m',hm,w8⟩:=h8;obtain⟨b1,b2,b3,b4⟩:=back I8;refine wpAny_list_append_plain (l:=D) (items:=ak.toArray) (hsz:=by rw[size_toArray];omega) ⟨k,b1⟩ fun h' iG qa=>?_;obtain⟨k',e'⟩:=iG;have I9:Inv (eC X scope cl N' C bD H2 fp) [] tW H8 {s8 with heap:=h',toks:=s8.toks}:=(I8.kh (pins':=[]) fun p hp=>absurd hp (by simp)).turned (it:=D) (fun b o hb e=>(qa.2 b hb).trans e) b2 tx (.inr (le_of_eq hD))
     (fun x c e=>ne_of_lt (DJ x c e)) (fun p hp=>absurd (show p∈([]:List (Addr×Obj))from hp) (by simp))
    refine⟨m',hm,i+1,ys++[v],ak++[y],H8,k',I9.weak uQ.len uQ.get,T.keep _ _ _ b4 fun b hb o e=>(qa.2 b (ne_of_lt (A3 b hb))).trans e,b3,b2,?_,rv.append (.cons r8 .nil),w8⟩;have Gz:h'.get? D=_:=e';rw[List.push_toArray]at Gz;exact Gz
 exact codeAny_compStart_list (loop _ rfl) (T.self X.A 0 _ _ _ (T.keep _ _ _ kC fun b _ o e=>old b o e) (loop _ rfl))
end
end L2
namespace L3
noncomputable section
open PySem PySem.Spec PyProof.Rows L2
open PySem.W (Dat kqdOk kqdP kqdPs kqd_lay kqd_eqv)
abbrev Fg:=Frag
abbrev gg:=Addr->Prop
abbrev ax:=List (Option Dat)
def DR (K:Fg) (H:Hp) (Av:gg) (a:Addr) (xs:List V):Prop:=
 (Rd H a (.tup xs)/\¬Av a)\/∃(o:Obj) (ak:Array Value) (n:Nat),K.lookup a=some o/\o.cls=.type "tuple"/\o.data=.seq ak n/\ak.size<=sizeLine/\Vals xs ak.toList
def DS (K:Fg) (H:Hp) (Av:gg) (a:Addr) (xs:List V):Prop:=
 (Rd H a (.lst xs)/\¬Av a)\/∃(o:Obj) (ak:Array Value) (n:Nat),K.lookup a=some o/\o.cls=.type "list"/\o.dict=none/\o.data=.seq ak n/\ak.size<=sizeLine/\Vals xs ak.toList
variable {K:Fg} {H:Hp} {Av:gg} {a:Addr} {xs:List V}
theorem DR.sq(h:DR K H Av a xs):jv K H a xs:=h.elim (fun z=>.inl z.1) .inr
theorem DS.sq(h:DS K H Av a xs):fR K H a xs:=h.elim (fun z=>.inl z.1) .inr
mutual
inductive aP (K:Fg) (H:Hp) (Av:gg):V->Dat->Prop
 |bR:aP K H Av .bR .none
 |bl (b:Bool):aP K H Av (.bl b) (.bool b)
 |int (i:Int):aP K H Av (.int i) (.int i)
 |str (x:Str):aP K H Av (.str x) (.str x)
 |tup {a:Addr} {xs:List V} {ds:List Dat}:DR K H Av a xs->aC K H Av xs ds->aP K H Av (.ref a) (.tuple ds)
 |lst {a:Addr} {xs:List V} {ds:List Dat}:DS K H Av a xs->aC K H Av xs ds->aP K H Av (.ref a) (.list ds)
inductive aC (K:Fg) (H:Hp) (Av:gg):List V->List Dat->Prop
 |nil:aC K H Av [] []
 |cons {v:V} {vs:List V} {d:Dat} {ds:List Dat}:aP K H Av v d->aC K H Av vs ds->aC K H Av (v::vs) (d::ds)
end
variable {j3:gg} {H':Hp}
def lW (H:Hp) (Av:gg) (H':Hp) (j3:gg):Prop:=∀b o,H b=some o->¬Av b->H' b=some o/\¬j3 b
theorem B9(k:lW H Av H' j3){u:HO}(h:Rd H a u/\¬Av a):Rd H' a u/\¬j3 a:=by
 obtain⟨h,n⟩:=h;rcases h with h|⟨o,h⟩
 ·exact⟨.inl (k _ _ h n).1,(k _ _ h n).2⟩
 ·exact⟨.inr ⟨o,(k _ _ h n).1⟩,(k _ _ h n).2⟩
mutual
theorem aP.mono(k:lW H Av H' j3):∀{v:V} {d:Dat},aP K H Av v d->aP K H' j3 v d
 |_,_,.bR=>.bR
 |_,_,.bl b=>.bl b
 |_,_,.int i=>.int i
 |_,_,.str x=>.str x
 |_,_,.tup h r=>.tup (h.elim (fun z=>.inl (B9 k z)) .inr) (aC.mono k r)
 |_,_,.lst h r=>.lst (h.elim (fun z=>.inl (B9 k z)) .inr) (aC.mono k r)
theorem aC.mono (k:lW H Av H' j3):∀{vs:List V} {ds:List Dat},aC K H Av vs ds->aC K H' j3 vs ds
 |_,_,.nil=>.nil
 |_,_,.cons h r=>.cons (aP.mono k h) (aC.mono k r)
end
theorem xt(e:aV H H'):lW H Av H' Av:=fun b o h n=>⟨e b o h,n⟩
theorem xr(w:∀a,j3 a->Av a):lW H Av H j3:=fun b o h n=>⟨h,fun z=>n (w _ z)⟩
theorem aP.same(e:aV H H'){v:V}{d:Dat}(r:aP K H Av v d):aP K H' Av v d:=r.mono (xt e)
theorem aC.same(e:aV H H'){v:List V}{d:List Dat}(r:aC K H Av v d):aC K H' Av v d:=r.mono (xt e)
theorem aP.weak(w:∀a,j3 a->Av a){v:V}{d:Dat}(r:aP K H Av v d):aP K H j3 v d:=r.mono (xr w)
theorem aC.weak(w:∀a,j3 a->Av a){v:List V}{d:List Dat}(r:aC K H Av v d):aC K H j3 v d:=r.mono (xr w)
theorem aC.length:∀{vs:List V} {ds:List Dat},aC K H Av vs ds->vs.length=ds.length
 |_,_,.nil=>rfl
 |_,_,.cons _ r=>congrArg (· + 1) (aC.length r)
theorem aC.get:∀{vs:List V} {ds:List Dat} {i:Nat} {d:Dat},aC K H Av vs ds->ds[i]?=some d->∃v,vs[i]?=some v/\aP K H Av v d
 |_,_,_,_,.nil,e=>by simp at e
 |_,_,0,_,.cons h _,e=>by simp at e;subst e;exact⟨_,rfl,h⟩
 |_,_,i+1,d,.cons _ r,e=>by
  obtain⟨v,h1,h2⟩:=aC.get (i:=i) (d:=d) r (by simpa using e);exact⟨v,by simpa using h1,h2⟩
theorem aC.append:∀{vs ws:List V} {ds es:List Dat},aC K H Av vs ds->aC K H Av ws es->aC K H Av (vs++ws) (ds++es)
 |_,_,_,_,.nil,s=>s
 |_,_,_,_,.cons h r,s=>.cons h (aC.append r s)
theorem aC.take:∀{vs:List V} {ds:List Dat} (n:Nat),aC K H Av vs ds->aC K H Av (vs.take n) (ds.take n)
 |_,_,0,_=>.nil
 |_,_,_+1,.nil=>.nil
 |_,_,n+1,.cons r t=>.cons r (aC.take n t)
theorem aC.drop:∀{vs:List V} {ds:List Dat} (n:Nat),aC K H Av vs ds->aC K H Av (vs.drop n) (ds.drop n)
 |_,_,0,r=>r
 |_,_,_+1,.nil=>.nil
 |_,_,n+1,.cons _ t=>aC.drop n t
theorem aC.ints(ns:List Int):aC K H Av (ns.map V.int) (ns.map Dat.int):=by
 induction ns with
 |nil=>exact .nil
 |cons n ns ih=>exact .cons (.int n) ih
variable {p:Addr}
theorem bZ(h:H p=none)(o:HO):aV H (upd H p o):=fun b u q=>by rw[bA (bz q h)];exact q
def gO (H:Hp) (Av:gg):Prop:=∀a,Av a->∃o,H a=some o
theorem gO.same(e:aV H H')(h:gO H Av):gO H' Av:=fun a z=>let ⟨o,q⟩:=h a z;⟨o,e a o q⟩
theorem gO.new(h:gO H Av)(e:H p=none):¬Av p:=fun z=>by
 obtain⟨o,q⟩:=h p z;rw[e]at q;cases q
variable {ds:List Dat}
theorem aP.tw(h:gO H Av)(e:H p=none)(r:aC K H Av xs ds):aP K (upd H p (.tup xs)) Av (.ref p) (.tuple ds):=
 .tup (.inl ⟨.inl dD,h.new e⟩) (r.same (bZ e _))
theorem aP.pG(h:gO H Av)(e:H p=none)(r:aC K H Av xs ds):aP K (upd H p (.lst xs)) Av (.ref p) (.list ds):=
 .lst (.inl ⟨.inl dD,h.new e⟩) (r.same (bZ e _))
def fG (K:Fg) (H:Hp) (Av:gg) (σ:L2.St) (ρ:ax):Prop:=∀(i:Nat) (d:Dat),ρ[i]?=some (some d)->∃v,σ[i]?=some (some v)/\aP K H Av v d
variable {ρ:ax}
theorem fG.same{σ:L2.St}(e:aV H H')(h:fG K H Av σ ρ):fG K H' Av σ ρ:=fun i d q=>let ⟨v,a,r⟩:=h i d q;⟨v,a,r.same e⟩
def tF (K:Fg) (f:ax->Option Dat):TE:=fun σ H Q=>∃Av ρ d,gO H Av/\fG K H Av σ ρ/\f ρ=some d/\∀v H',aV H H'->aP K H' Av v d->Q v H'
def nH (K:Fg) (f:ax->Option Bool):TT:=fun σ H Q=>∃Av ρ b,gO H Av/\fG K H Av σ ρ/\f ρ=some b/\∀H',aV H H'->Q b H'
def Jz (K:Fg) (f:ax->Option (List Dat)):TA:=fun σ H Q=>∃Av ρ ds,gO H Av/\fG K H Av σ ρ/\f ρ=some ds/\∀vs H',aV H H'->aC K H' Av vs ds->Q vs H'
abbrev PF (X:Cx) (e:Expr) (f:ax->Option Dat):Prop:=PE X e (tF X.K f)
abbrev Yv (X:Cx) (e:Expr) (f:ax->Option Bool):Prop:=PT X e (nH X.K f)
abbrev Hb (X:Cx) (e:List Expr) (f:ax->Option (List Dat)):Prop:=PA X e (Jz X.K f)
variable {e:Expr} {X:Cx}
theorem bh{t t':TE}(h:PE X e t)(m:∀σ H Q,t' σ H Q->t σ H Q):PE X e t':=fun pins s σ H Q I q=>h pins s σ H Q I (m σ H Q q)
theorem rW{t t':TT}(h:PT X e t)(m:∀σ H Q,t' σ H Q->t σ H Q):PT X e t':=fun pins s σ H Q I q=>h pins s σ H Q I (m σ H Q q)
theorem Bj{t t':TT}(h:PW X e t)(m:∀σ H Q,t' σ H Q->t σ H Q):PW X e t':=fun w pins s σ H Q I q=>h w pins s σ H Q I (m σ H Q q)
variable {es:List Expr}
theorem rY{t t':TA}(h:PA X es t)(m:∀σ H Q,t' σ H Q->t σ H Q):PA X es t':=fun p pins s σ H Q I q=>h p pins s σ H Q I (m σ H Q q)
def aA (i:Nat):ax->Option Dat:=fun ρ=>(ρ[i]?).join
def fC (d:Dat):ax->Option Dat:=fun _=>some d
variable {d:Dat}
theorem join_some{o:Option (Option Dat)}(h:o.join=some d):o=some (some d):=by
 cases o with
 |none=>cases h
 |some q=>exact congrArg some h
variable {fb fa:ax->Option Dat} {b a:Expr}
def f2 (g:Dat->Dat->Option Dat) (fa fb:ax->Option Dat):ax->Option Dat:=fun ρ=>(fa ρ).bind fun a=>(fb ρ).bind fun b=>g a b
def kR (K:Fg) (r:R2) (g:Dat->Dat->Option Dat):Prop:=∀(H:Hp) (Av:gg) (x y:V) (dx dy d:Dat) (Q:VK),gO H Av->aP K H Av x dx->aP K H Av y dy->g dx dy=some d->(∀v H',aV H H'->aP K H' Av v d->Q v H')->r x y H Q
variable {α:Type}
theorem bind_some{β:Type}{o:Option α}{g:α->Option β}{b:β}(h:o.bind g=some b):∃a,o=some a/\g a=some b:=by
 cases o with
 |none=>cases h
 |some a=>exact⟨a,rfl,h⟩
variable {r:R2} {g:Dat->Dat->Option Dat}
theorem yb(hr:kR K r g):∀σ H Q,tF K (f2 g fa fb) σ H Q->AX r (tF K fa) (tF K fb) σ H Q:=by
 rintro σ H Q ⟨Av,ρ,d,hA,hE,hf,q⟩;obtain⟨dx,e1,hf⟩:=bind_some hf;obtain⟨dy,e2,hf⟩:=bind_some hf;refine⟨Av,ρ,dx,hA,hE,e1,fun x H1 s1 r1=>⟨Av,ρ,dy,hA.same s1,hE.same s1,e2,fun y H2 s2 r2=>?_⟩⟩;exact hr H2 Av x y dx dy d Q (hA.same (s1.trans s2)) (r1.same s2) r2 hf fun v H' s3 r3=>q v H' (s1.trans (s2.trans s3)) r3
variable {pos:Pos}
theorem mR{op:Operator}(ho:dO X (binaryOp op) r)(hd:kR X.K r g)(ha:PF X a fa)(hb:PF X b fb):PF X (.BinOp a op b pos) (f2 g fa fb):=bh (yf ho ha hb) (yb hd)
theorem qQ{op:CmpOp}(ho:dO X (compareOp op) r)(hd:kR X.K r g)(ha:PF X a fa)(hb:PF X b fb)(hm:behindInMarks op b=false):PF X (.Compare a [op] [b] pos) (f2 g fa fb):=bh (Bs ho ha hb hm) (yb hd)
def lQ:Dat->Option Bool
 | .bool b=>some b
 |_=>none
variable {f:ax->Option Dat}
def bc (f:ax->Option Dat):ax->Option Bool:=fun ρ=>(f ρ).bind lQ
theorem nv{b:Bool}(h:lQ d=some b):d=.bool b:=by
 cases d<;>first|(cases h;done)|(simp only[lQ,Option.some.injEq]at h;rw[h])
variable {v:V}
theorem aP.gD{b:Bool}(h:aP K H Av v (.bool b)):v=.bl b:=by cases h;rfl
theorem aP.cN{b:Int}(h:aP K H Av v (.int b)):v=.int b:=by cases h;rfl
theorem aP.iS{b:Str}(h:aP K H Av v (.str b)):v=.str b:=by cases h;rfl
theorem aP.JX(h:aP K H Av v .none):v=.bR:=by cases h;rfl
theorem aP.fz(h:aP K H Av v (.tuple ds)):∃a xs,v=.ref a/\DR K H Av a xs/\aC K H Av xs ds:=by cases h with|tup h r=>exact⟨_,_,rfl,h,r⟩
theorem aP.fY(h:aP K H Av v (.list ds)):∃a xs,v=.ref a/\DS K H Av a xs/\aC K H Av xs ds:=by cases h with|lst h r=>exact⟨_,_,rfl,h,r⟩
theorem L5{t:TE}(m:∀σ H Q,tF K f σ H Q->t σ H Q):∀σ H Q,nH K (bc f) σ H Q->Jx t σ H Q:=by
 rintro σ H Q ⟨Av,ρ,b,hA,hE,hf,q⟩;obtain⟨d,e1,hf⟩:=bind_some hf;have e2:=nv hf;subst e2;exact m σ H _ ⟨Av,ρ,.bool b,hA,hE,e1,fun v H' s r=>⟨b,r.gD,q H' s⟩⟩
theorem gW{op:CmpOp}(ho:dO X (compareOp op) r)(hd:kR X.K r g)(ha:PF X a fa)(hb:PF X b fb)(hm:behindInMarks op b=false):Yv X (.Compare a [op] [b] pos) (bc (f2 g fa fb)):=rW (Bm ho ha hb hm) (L5 (yb hd))
def og:Dat->Option Bool
 | .none=>some false
 | .bool b=>some b
 | .int i=>some (i !=0)
 | .str y=>if y.length<=sizeLine then some ((y.length:Int) !=0)else none
 | .list ds=>some (!ds.isEmpty)
 | .tuple ds=>some (!ds.isEmpty)
 |_=>none
def gh (f:ax->Option Dat):ax->Option Bool:=fun ρ=>(f ρ).bind og
variable {vs:List V}
theorem aC.emp(h:aC K H Av vs ds):ds.isEmpty=vs.isEmpty:=by cases h<;>rfl
theorem MO{k:Bool}(r:aP K H Av v d)(h:og d=some k):Jc K v H k:=by
 cases r with
 |bR=>cases h;exact rfl
 |bl b=>cases h;exact rfl
 |int i=>cases h;exact rfl
 |str x=>
  simp only[og]at h;split at h
  ·rename_i hz;cases h;exact⟨hz,rfl⟩
  ·cases h
 |tup hq rs=>cases h;exact .inr (.inl ⟨_,hq.sq,by rw[rs.emp]⟩)
 |lst hq rs=>cases h;exact .inl ⟨_,hq.sq,by rw[rs.emp]⟩
variable {c:Expr}
def cU (f g:ax->Option Bool):ax->Option Bool:=fun ρ=>(f ρ).bind fun c=>if c=true then g ρ else some false
def fu (f g:ax->Option Bool):ax->Option Bool:=fun ρ=>(f ρ).bind fun c=>if c=true then some true else g ρ
def ir (f:ax->Option Bool):ax->Option Bool:=fun ρ=>(f ρ).map (!·)
abbrev Zc (X:Cx) (e:Expr) (f:ax->Option Bool):Prop:=PW X e (nH X.K f)
def ox (f g:ax->Option Dat):ax->Option Dat:=fun ρ=>(f ρ).bind fun d=>(lQ d).bind fun c=>if c=true then g ρ else some (.bool false)
def sP (f g:ax->Option Dat):ax->Option Dat:=fun ρ=>(f ρ).bind fun d=>(lQ d).bind fun c=>if c=true then some (.bool true)else g ρ
def rF (f:ax->Option Dat):ax->Option Dat:=fun ρ=>(f ρ).bind fun d=>(lQ d).map fun c=>.bool (!c)
variable {ft:ax->Option Bool}
def vd (ft:ax->Option Bool) (f g:ax->Option Dat):ax->Option Dat:=fun ρ=>(ft ρ).bind fun c=>if c=true then f ρ else g ρ
def f1 (g:Dat->Option Dat) (fa:ax->Option Dat):ax->Option Dat:=fun ρ=>(fa ρ).bind g
def Xw (K:Fg) (r:V->Hp->VK->Prop) (g:Dat->Option Dat):Prop:=∀(H:Hp) (Av:gg) (x:V) (dx d:Dat) (Q:VK),gO H Av->aP K H Av x dx->g dx=some d->(∀v H',aV H H'->aP K H' Av v d->Q v H')->r x H Q
theorem Qv{op:UnaryOp}{r:V->Hp->VK->Prop}{g:Dat->Option Dat}(ho:KG X (unaryOp op) r)(hd:Xw X.K r g)(ha:PF X a fa):PF X (.UnaryOp op a pos) (f1 g fa):=bh (Qw ho ha) fun σ H Q aQ=>by
 obtain⟨Av,ρ,d,hA,hE,hf,q⟩:=aQ;obtain⟨dx,e1,hf⟩:=bind_some hf;exact⟨Av,ρ,dx,hA,hE,e1,fun x H1 s1 r1=>hd H1 Av x dx d Q (hA.same s1) r1 hf fun v H2 s2 r2=>q v H2 (s1.trans s2) r2⟩
def bp:ax->Option (List Dat):=fun _=>some []
def ay (f:ax->Option Dat) (g:ax->Option (List Dat)):ax->Option (List Dat):=fun ρ=>(f ρ).bind fun d=>(g ρ).map (d::·)
theorem bj{β:Type}{o:Option α}{g:α->β}{b:β}(h:o.map g=some b):∃a,o=some a/\g a=b:=by
 cases o with
 |none=>cases h
 |some a=>exact⟨a,rfl,Option.some.inj h⟩
def dH (g:ax->Option (List Dat)):ax->Option Dat:=fun ρ=>(g ρ).bind fun ds=>if ds.length<=sizeLine then some (.tuple ds)else none
def lr (g:ax->Option (List Dat)):ax->Option Dat:=fun ρ=>(g ρ).bind fun ds=>if ds.length<=sizeLine then some (.list ds)else none
variable {fs:ax->Option (List Dat)} in
def fZ (g:List Dat->Option Dat) (fs:ax->Option (List Dat)):ax->Option Dat:=fun ρ=>(fs ρ).bind g
def lH (K:Fg) (r:List V->Hp->VK->Prop) (g:List Dat->Option Dat):Prop:=∀(H:Hp) (Av:gg) (xs:List V) (ds:List Dat) (d:Dat) (Q:VK),gO H Av->aC K H Av xs ds->g ds=some d->(∀v H',aV H H'->aP K H' Av v d->Q v H')->r xs H Q
variable {r:List V->Hp->VK->Prop} {g:List Dat->Option Dat}
variable {fs:ax->Option (List Dat)} in
theorem AY(hr:lH K r g):∀σ H Q,tF K (fZ g fs) σ H Q->JB r (Jz K fs) σ H Q:=by
 rintro σ H Q ⟨Av,ρ,d,hA,hE,hf,q⟩;obtain⟨ds,e1,hf⟩:=bind_some hf;exact⟨Av,ρ,ds,hA,hE,e1,fun xs H1 s1 r1=>hr H1 Av xs ds d Q (hA.same s1) r1 hf fun v H2 s2 r2=>q v H2 (s1.trans s2) r2⟩
variable {x:Str}
variable {fs:ax->Option (List Dat)} in
theorem tp{p:Pos}{id:String}(hc:jt X (.builtin id) r)(hd:lH X.K r g)(hm:X.mg x=none)(ha:Hb X (e::es) fs)(hg:Gl X x:=by rfl)(hv:bootBuiltins x=some (.builtin id):=by rfl)(hn:x≠"__name__":=by decide)(iI:(x==("__debug__" : Str))=false:=by decide)(he:starEach (e::es) X.env=(false,eval e X.env)::starEach es X.env:=by rfl)(dB:(backTo pos (starEach es X.env)).any (·.1)=false:=by rfl):PF X (.Call (.Name x p) (e::es) [] pos) (fZ g fs):=bh (yZ hc hg hm hv ha hn iI he dB) (AY hd)
variable {T:String}
variable {fs:ax->Option (List Dat)} in
theorem xl{p:Pos}(hc:jt X (.type T) r)(hd:lH X.K r g)(hm:X.mg x=none)(ha:Hb X (e::es) fs)(hg:Gl X x:=by rfl)(hv:bootBuiltins x=some (.type T):=by rfl)(hn:x≠"__name__":=by decide)(iI:(x==("__debug__" : Str))=false:=by decide)(he:starEach (e::es) X.env=(false,eval e X.env)::starEach es X.env:=by rfl)(dB:(backTo pos (starEach es X.env)).any (·.1)=false:=by rfl):PF X (.Call (.Name x p) (e::es) [] pos) (fZ g fs):=bh (nM hc hg hm hv ha hn iI he dB) (AY hd)
def Eh (K:Fg) (n:Nat) (F:List Dat->Option Dat):Sp:=fun vs H Q _=>∃Av ds d,gO H Av/\aC K H Av vs ds/\ds.length=n/\F ds=some d/\∀v H',aV H H'->aP K H' Av v d->Q v H'
variable {fs:ax->Option (List Dat)} in
def ia (n:Nat) (F:List Dat->Option Dat) (fs:ax->Option (List Dat)):ax->Option Dat:=fun ρ=>(fs ρ).bind fun ds=>if ds.length=n then F ds else none
variable {n:Nat} {F:List Dat->Option Dat}
variable {fs:ax->Option (List Dat)} in
theorem Qi{E:XK}:∀σ H Q,tF K (ia n F fs) σ H Q->JA (Eh K n F) [] E (Jz K fs) σ H Q:=by
 rintro σ H Q ⟨Av,ρ,d,hA,hE,hf,q⟩;obtain⟨ds,e1,hf⟩:=bind_some hf;split at hf
 ·rename_i hl;exact⟨Av,ρ,ds,hA,hE,e1,fun xs H1 s1 r1=>⟨Av,ds,d,hA.same s1,by rw[append_nil];exact r1,hl,hf,fun v H2 s2 r2=>q v H2 (s1.trans s2) r2⟩⟩
 ·cases hf
structure Dn (P:Program) (w:World) (K:Fg) (mg:Str->Option Value) (base:Heap) (k:Nat) (x:Str) (ps:List Str) (n:Nat) (F:List Dat->Option Dat):Prop where
 ex:∃(f:Addr) (fd:FuncData),gJ P w K mg base jy k f fd ps (Eh K n F)/\mg x=some (.ref f)/\keepIn K (.ref f)=true/\Binds K fd ps []
variable {P:Program} {w:World} {mg:Str->Option Value} {base:Heap} {ps:List Str}
theorem Dn.up{j k:Nat}(D:Dn P w K mg base j x ps n F)(h:j<=k):Dn P w K mg base k x ps n F:=by
 obtain⟨f,fd,h1,h2⟩:=D.ex;exact⟨f,fd,h1.mono h,h2⟩
open PySem PySem.Spec PyProof.Rows L2
open PySem.W (Dat)
inductive Slot where
 |a7 (d:Dat)
 |own (ds:List Dat)
 |obj (O:Addr->List V->Heap->Prop) (ds:List Dat)
def Slot.mt:Slot->Bool
 | .a7 _=>false
 |_=>true
abbrev aG:=List (Option Slot)
def bx (Γ:aG):ax:=Γ.map fun o=>match o with|some (.a7 d)=>some d|_=>none
def bX (Γ:aG):ax:=Γ.map fun o=>match o with|some (.a7 d)=>some d|some (.own ds)=>some (.list ds)|_=>none
def aX (Av:gg) (Γ:aG) (ad:Nat->Addr):gg:=fun a=>Av a\/∃(i:Nat) (s:Slot),Γ[i]?=some (some s)/\s.mt=true/\ad i=a
abbrev Hid:=List (V×Dat)
structure GA (K:Fg) (aj:Hp) (Av:gg) (pn:Option Addr) (aK:Hid) (H:Hp) (σ:L2.St) (Γ:aG) (ad:Nat->Addr):Prop where
 same:aV aj H
 jP:gO aj Av
 len:σ.length=Γ.length
 a7:∀(i:Nat) (d:Dat),Γ[i]?=some (some (.a7 d))->∃v,σ[i]?=some (some v)/\aP K H (aX Av Γ ad) v d
 own:∀(i:Nat) (ds:List Dat),Γ[i]?=some (some (.own ds))->∃xs,σ[i]?=some (some (.ref (ad i)))/\H (ad i)=some (.lst xs)/\aC K H (aX Av Γ ad) xs ds/\aj (ad i)=none
 inj:∀(i j:Nat) (s t:Slot),Γ[i]?=some (some s)->Γ[j]?=some (some t)->s.mt=true->t.mt=true->ad i=ad j->i=j
 aK:∀p∈aK,aP K H (aX Av Γ ad) p.1 p.2
 pin:∀a ds,pn=some a->Γ[0]?=some (some (.own ds))->ad 0=a
 obj:∀(i:Nat) (O:Addr->List V->Heap->Prop) (ds:List Dat),Γ[i]?=some (some (.obj O ds))->∃xs,σ[i]?=some (some (.ref (ad i)))/\H (ad i)=some (.ext (O (ad i) xs))/\aC K H (aX Av Γ ad) xs ds/\aj (ad i)=none
def lX (K:Fg) (aj:Hp) (Av:gg) (pn:Option Addr) (aK:Hid) (H:Hp) (σ:L2.St) (Γ:aG):Prop:=∃ad,GA K aj Av pn aK H σ Γ ad
variable {σ:L2.St} {ad:Nat->Addr} {pn:Option Addr} {Γ:aG} {aK:Hid} {aj:Hp} {i:Nat}
theorem GA.mt(G:GA K aj Av pn aK H σ Γ ad){s:Slot}(h:Γ[i]?=some (some s))(m:s.mt=true):(∃o,H (ad i)=some o)/\aj (ad i)=none:=by
 cases s with
 |a7 d=>cases m
 |own ds=>obtain⟨xs,_,a,_,b⟩:=G.own i ds h;exact⟨⟨_,a⟩,b⟩
 |obj O ds=>obtain⟨xs,_,a,_,b⟩:=G.obj i O ds h;exact⟨⟨_,a⟩,b⟩
theorem GA.Oc(G:GA K aj Av pn aK H σ Γ ad)(i j:Nat)(ds es:List Dat)(h1:Γ[i]?=some (some (.own ds)))(h2:Γ[j]?=some (some (.own es)))(e:ad i=ad j):i=j:=G.inj i j _ _ h1 h2 rfl rfl e
theorem GA.gE(G:GA K aj Av pn aK H σ Γ ad):gO H (aX Av Γ ad):=by
 rintro a (z|⟨i,s,e,m,rfl⟩)
 ·exact(G.jP.same G.same) a z
 ·exact(G.mt e m).1
theorem GA.iR(G:GA K aj Av pn aK H σ Γ ad):fG K H (aX Av Γ ad) σ (bx Γ):=fun i d e=>by
 unfold bx at e;rw[getElem?_map]at e;cases h:Γ[i]? with
 |none=>rw[h]at e;cases e
 |some o=>
  rw[h]at e;cases o with
  |none=>cases e
  |some s=>
   cases s with
   |a7 d'=>cases e;exact G.a7 i d h
   |own ds=>cases e
   |obj O ds=>cases e
theorem GA.rG(G:GA K aj Av pn aK H σ Γ ad):fG K H Av σ (bX Γ):=fun i d e=>by
 unfold bX at e;rw[getElem?_map]at e;cases h:Γ[i]? with
 |none=>rw[h]at e;cases e
 |some o=>
  rw[h]at e;cases o with
  |none=>cases e
  |some s=>
   cases s with
   |a7 d'=>
    cases e;obtain⟨v,h1,h2⟩:=G.a7 i d h;exact⟨v,h1,h2.weak fun _ z=>.inl z⟩
   |own ds=>
    cases e;obtain⟨xs,h1,h2,h3,h4⟩:=G.own i ds h;refine⟨_,h1,.lst (.inl ⟨.inl h2,fun z=>?_⟩) (h3.weak fun _ z=>.inl z)⟩;obtain⟨o,q⟩:=G.jP _ z;rw[h4]at q;cases q
   |obj O ds=>cases e
theorem GA.grow(G:GA K aj Av pn aK H σ Γ ad)(e:aV H H'):GA K aj Av pn aK H' σ Γ ad:=
 ⟨G.same.trans e,G.jP,G.len,fun i d h=>let ⟨v,a,r⟩:=G.a7 i d h;⟨v,a,r.same e⟩,fun i ds h=>let ⟨xs,a,b,r,c⟩:=G.own i ds h;⟨xs,a,e _ _ b,r.same e,c⟩,G.inj,fun p hp=>(G.aK p hp).same e,G.pin,fun i O ds h=>let ⟨xs,a,b,r,c⟩:=G.obj i O ds h;⟨xs,a,e _ _ b,r.same e,c⟩⟩
theorem aU{l:List α}{j:Nat}{a b:α}(h:(l.set i a)[j]?=some b):(j=i/\b=a)\/(j≠i/\l[j]?=some b):=by
 by_cases e:j=i
 ·subst e;left
  refine⟨rfl,?_⟩;by_cases hl:j<l.length
  ·rw[getElem?_set_self hl]at h;exact(Option.some.inj h).symm
  ·rw[List.getElem?_eq_none (by rw[length_set];omega)]at h;cases h
 ·right
  rw[getElem?_set_ne (Ne.symm e)]at h;exact⟨e,h⟩
theorem fW{l:List α}{a:α}(h:l[i]?=some a):i<l.length:=(List.getElem?_eq_some_iff.mp h).1
theorem aX.k9:∀a,aX Av (Γ.set i (some (.a7 d))) ad a->aX Av Γ ad a:=by
 rintro a (z|⟨j,s,e,m,r⟩)
 ·exact .inl z
 ·rcases aU e with⟨_,q⟩|⟨_,q⟩
  ·cases q;cases m
  ·exact .inr ⟨j,s,q,m,r⟩
theorem GA.set(G:GA K aj Av pn aK H σ Γ ad)(i:Nat)(r:aP K H (aX Av Γ ad) v d):GA K aj Av pn aK H (σ.set i (some v)) (Γ.set i (some (.a7 d))) ad:=by
 refine⟨G.same,G.jP,by rw[length_set,length_set];exact G.len,fun j d' h=>?_,fun j ds h=>?_,fun j k s t h1 h2 m1 m2 e=>?_,fun p hp=>(G.aK p hp).weak aX.k9,fun a ds e h=>?_,fun j O ds h=>?_⟩
 ·have fq:=fW h;rw[length_set]at fq;rcases aU h with⟨e,q⟩|⟨e,q⟩
  ·subst e;cases q;exact⟨v,getElem?_set_self (by rw[G.len];exact fq),r.weak aX.k9⟩
  ·obtain⟨u,a,b⟩:=G.a7 j d' q;exact⟨u,by rw[getElem?_set_ne (Ne.symm e)];exact a,b.weak aX.k9⟩
 ·rcases aU h with⟨e,q⟩|⟨e,q⟩
  ·cases q
  ·obtain⟨xs,a,b,c,e'⟩:=G.own j ds q;exact⟨xs,by rw[getElem?_set_ne (Ne.symm e)];exact a,b,c.weak aX.k9,e'⟩
 ·rcases aU h1 with⟨_,q⟩|⟨_,q1⟩
  ·cases q;cases m1
  rcases aU h2 with⟨_,q⟩|⟨_,q2⟩
  ·cases q;cases m2
  exact G.inj j k s t q1 q2 m1 m2 e
 ·rcases aU h with⟨_,q⟩|⟨_,q⟩
  ·cases q
  ·exact G.pin a ds e q
 ·rcases aU h with⟨e,q⟩|⟨e,q⟩
  ·cases q
  ·obtain⟨xs,a,b,c,e'⟩:=G.obj j O ds q;exact⟨xs,by rw[getElem?_set_ne (Ne.symm e)];exact a,b,c.weak aX.k9,e'⟩
theorem GA.N1(G:GA K aj Av pn aK H σ Γ ad)(i:Nat)(oQ:i≠0)(hp:H p=none)(r:aC K H (aX Av Γ ad) xs ds):
  GA K aj Av pn aK (upd H p (.lst xs)) (σ.set i (some (.ref p))) (Γ.set i (some (.own ds))) (fun j=>if j=i then p else ad j):=by
 have sm:aV H (upd H p (.lst xs)):=bZ hp _;have F5:∀j s,Γ[j]?=some (some s)->Slot.mt s=true->ad j≠p:=fun j s h m=>by
  obtain⟨⟨o,b⟩,_⟩:=G.mt h m;exact bz b hp
 have kp:lW H (aX Av Γ ad) (upd H p (.lst xs)) (aX Av (Γ.set i (some (.own ds))) (fun j=>if j=i then p else ad j)):=by
  intro b o h n;refine⟨sm b o h,?_⟩;rintro(z|⟨j,es,e,m,r⟩)
  ·exact n (.inl z)
  ·rcases aU e with⟨e1,_⟩|⟨e1,q⟩
   ·have r':p=b:=by simpa [e1]using r
    exact bz h hp r'.symm
   ·have r':ad j=b:=by simpa [e1]using r
    exact n (.inr ⟨j,es,q,m,r'⟩)
 have HY:∀{vs:List V} {d:List Dat},aC K H (aX Av Γ ad) vs d->aC K (upd H p (.lst xs)) (aX Av (Γ.set i (some (.own ds))) (fun j=>if j=i then p else ad j)) vs d:=fun h=>h.mono kp
 ·refine⟨G.same.trans sm,G.jP,by rw[length_set,length_set];exact G.len,fun j d' h=>?_,fun j es h=>?_,fun j l es fs h1 h2 m1 m2 e=>?_,fun q hq=>(G.aK q hq).mono kp,fun a es e h=>?_,fun j O es h=>?_⟩
  ·rcases aU h with⟨e,q⟩|⟨e,q⟩
   ·cases q
   ·obtain⟨u,a,b⟩:=G.a7 j d' q;exact⟨u,by rw[getElem?_set_ne (Ne.symm e)];exact a,b.mono kp⟩
  ·have fq:=fW h;rw[length_set]at fq;rcases aU h with⟨e,q⟩|⟨e,q⟩
   ·subst e;cases q;refine⟨xs,?_,?_,HY r,?_⟩
    ·rw[if_pos rfl];exact getElem?_set_self (by rw[G.len];exact fq)
    ·rw[if_pos rfl];exact dD
    ·rw[if_pos rfl];cases e0:aj p with
     |none=>rfl
     |some o=>have:=G.same p o e0;rw[hp]at this;cases this
   ·obtain⟨ys,a,b,c,e'⟩:=G.own j es q;refine⟨ys,?_,?_,HY c,?_⟩
    ·rw[if_neg e,getElem?_set_ne (Ne.symm e)];exact a
    ·rw[if_neg e];exact sm _ _ b
    ·rw[if_neg e];exact e'
  ·rcases aU h1 with⟨e1,q1⟩|⟨e1,q1⟩
   ·rcases aU h2 with⟨e2,q2⟩|⟨e2,q2⟩
    ·rw[e1,e2]
    ·rw[if_pos e1,if_neg e2]at e;exact absurd e.symm (F5 l fs q2 m2)
   ·rcases aU h2 with⟨e2,q2⟩|⟨e2,q2⟩
    ·rw[if_neg e1,if_pos e2]at e;exact absurd e (F5 j es q1 m1)
    ·rw[if_neg e1,if_neg e2]at e;exact G.inj j l es fs q1 q2 m1 m2 e
  ·rcases aU h with⟨z,_⟩|⟨_,q⟩
   ·exact absurd z.symm oQ
   ·show(if 0=i then p else ad 0)=a;rw[if_neg (Ne.symm oQ)];exact G.pin a es e q
  ·rcases aU h with⟨e,q⟩|⟨e,q⟩
   ·cases q
   ·obtain⟨ys,a,b,c,e'⟩:=G.obj j O es q;refine⟨ys,?_,?_,HY c,?_⟩
    ·rw[if_neg e,getElem?_set_ne (Ne.symm e)];exact a
    ·rw[if_neg e];exact sm _ _ b
    ·rw[if_neg e];exact e'
variable {es:List Dat}
theorem GA.change(G:GA K aj Av pn aK H σ Γ ad){ys:List V}(hi:Γ[i]?=some (some (.own ds)))(r:aC K H (aX Av Γ ad) ys es):
  GA K aj Av pn aK (upd H (ad i) (.lst ys)) σ (Γ.set i (some (.own es))) ad:=by
 have fq:i<Γ.length:=fW hi;have av:∀a,aX Av (Γ.set i (some (.own es))) ad a->aX Av Γ ad a:=by
  rintro a (z|⟨j,fs,e,m,q⟩)
  ·exact .inl z
  ·rcases aU e with⟨e1,_⟩|⟨e1,q1⟩
   ·subst e1;exact .inr ⟨j,_,hi,rfl,q⟩
   ·exact .inr ⟨j,fs,q1,m,q⟩
 have kp:lW H (aX Av Γ ad) (upd H (ad i) (.lst ys)) (aX Av (Γ.set i (some (.own es))) ad):=by
  intro b o h n;refine⟨?_,fun z=>n (av b z)⟩;rw[bA fun z=>n (.inr ⟨i,_,hi,rfl,z.symm⟩)];exact h
 obtain⟨MH,g1,g2,g3,g4⟩:=G.own i ds hi;refine⟨fun b o h=>?_,G.jP,by rw[length_set];exact G.len,fun j d' h=>?_,fun j fs h=>?_,fun j l fs gs h1 h2 m1 m2 e=>?_,fun p hp=>(G.aK p hp).mono kp,fun a fs e h=>?_,fun j O fs h=>?_⟩
 ·rw[bA (bz h g4)];exact G.same b o h
 ·rcases aU h with⟨e,q⟩|⟨e,q⟩
  ·cases q
  ·obtain⟨u,a,b⟩:=G.a7 j d' q;exact⟨u,a,b.mono kp⟩
 ·rcases aU h with⟨e,q⟩|⟨e,q⟩
  ·subst e;cases q;exact⟨ys,g1,dD,r.mono kp,g4⟩
  ·obtain⟨zs,a,b,c,e'⟩:=G.own j fs q;refine⟨zs,a,?_,c.mono kp,e'⟩;rw[bA fun z=>e (G.Oc j i fs ds q hi z)];exact b
 ·rcases aU h1 with⟨e1,q1⟩|⟨e1,q1⟩
  ·rcases aU h2 with⟨e2,q2⟩|⟨e2,q2⟩
   ·rw[e1,e2]
   ·subst e1;exact G.inj j l _ gs hi q2 rfl m2 e
  ·rcases aU h2 with⟨e2,q2⟩|⟨e2,q2⟩
   ·subst e2;exact G.inj j l fs _ q1 hi m1 rfl e
   ·exact G.inj j l fs gs q1 q2 m1 m2 e
 ·rcases aU h with⟨z,_⟩|⟨_,q⟩
  ·subst z;exact G.pin a ds e hi
  ·exact G.pin a fs e q
 ·rcases aU h with⟨e,q⟩|⟨e,q⟩
  ·cases q
  ·obtain⟨zs,a,b,c,e'⟩:=G.obj j O fs q;refine⟨zs,a,?_,c.mono kp,e'⟩;rw[bA fun z=>e (G.inj j i _ _ q hi rfl rfl z)];exact b
theorem GA.hide(G:GA K aj Av pn aK H σ Γ ad)(r:aP K H (aX Av Γ ad) v d):GA K aj Av pn ((v,d)::aK) H σ Γ ad:=
 ⟨G.same,G.jP,G.len,G.a7,G.own,G.inj,fun p hp=>by
  rcases mem_cons.mp hp with e|h
  ·subst e;exact r
  ·exact G.aK p h,G.pin,G.obj⟩
theorem GA.oC(G:GA K aj Av pn ((v,d)::aK) H σ Γ ad):GA K aj Av pn aK H σ Γ ad:=
 ⟨G.same,G.jP,G.len,G.a7,G.own,G.inj,fun p hp=>G.aK p (mem_cons_of_mem _ hp),G.pin,G.obj⟩
inductive Fl where
 |nx (Γ:aG)|rt (d:Dat)|bk (Γ:aG)|ct (Γ:aG)|rm (d:Dat) (Γ:aG)
def IQ (K:Fg) (aj:Hp) (Av:gg) (pn:Option Addr) (aK:Hid) (D:Ends):Fl->Prop
 | .nx Γ=>∀σ H,lX K aj Av pn aK H σ Γ->D.nx σ H
 | .rt d=>∀v H,aV aj H->aP K H Av v d->D.rt v H
 | .bk Γ=>∀σ H,lX K aj Av pn aK H σ Γ->D.bk σ H
 | .ct Γ=>∀σ H,lX K aj Av pn aK H σ Γ->D.ct σ H
 | .rm d Γ=>∀σ v H ad,GA K aj Av pn aK H σ Γ ad->aP K H (aX Av Γ ad) v d->D.rt v H
def yB (K:Fg) (g:aG->Option Fl):TS:=fun D σ H=>∃aj Av pn aK Γ fl,lX K aj Av pn aK H σ Γ/\g Γ=some fl/\IQ K aj Av pn aK D fl
abbrev T1 (X:Cx) (st:Stmt) (g:aG->Option Fl):Prop:=PS X st (yB X.K g)
abbrev PK (X:Cx) (st:List Stmt) (g:aG->Option Fl):Prop:=lR X st (yB X.K g)
variable {st:Stmt}
theorem cD{t t':TS}(h:PS X st t)(m:∀D σ H,t' D σ H->t D σ H):PS X st t':=fun pins s σ H D I q=>h pins s σ H D I (m D σ H q)
variable {rest:List Stmt} in
theorem yT{t t':TS}(h:lR X rest t)(m:∀D σ H,t' D σ H->t D σ H):lR X rest t':=fun pins s σ H D I q=>h pins s σ H D I (m D σ H q)
def ic:aG->Option Fl:=fun Γ=>some (.nx Γ)
variable {g2 g1:aG->Option Fl}
def dE (g1 g2:aG->Option Fl):aG->Option Fl:=fun Γ=>(g1 Γ).bind fun fl=>match fl with
 | .nx ah=>g2 ah
 | .rt d=>some (.rt d)
 | .bk ah=>some (.bk ah)
 | .ct ah=>some (.ct ah)
 | .rm d ah=>some (.rm d ah)
def mO (f:ax->Option Dat):aG->Option Fl:=fun Γ=>(f (bX Γ)).map .rt
def kW (ft:ax->Option Bool) (g1 g2:aG->Option Fl):aG->Option Fl:=fun Γ=>(ft (bX Γ)).bind fun c=>if c=true then g1 Γ else g2 Γ
def En:Dat->Bool
 | .none=>true| .bool _=>true| .int _=>true| .str _=>true
 |_=>false
theorem aP.sc(h:aP K H Av v d)(s:En d=true):aP K H j3 v d:=by
 cases h with
 |bR=>exact .bR
 |bl b=>exact .bl b
 |int i=>exact .int i
 |str x=>exact .str x
 |tup _ _=>cases s
 |lst _ _=>cases s
def gU (i:Nat) (f:ax->Option Dat):aG->Option Fl:=fun Γ=>match f (bx Γ)with
 |some d=>some (.nx (Γ.set i (some (.a7 d))))
 |none=>(f (bX Γ)).bind fun d=>if En d=true then some (.nx (Γ.set i (some (.a7 d))))else none
theorem MQ:∀D σ H,yB K (gU i f) D σ H->Hr (tF K f) (Dy i) D σ H:=by
 rintro D σ H ⟨aj,Av,pn,aK,Γ,fl,⟨ad,G⟩,hf,q⟩;unfold gU at hf;split at hf
 ·rename_i d e1;cases hf;exact⟨aX Av Γ ad,bx Γ,d,G.gE,G.iR,e1,fun v H' s r=>q _ _ ⟨ad,(G.grow s).set i r⟩⟩
 ·obtain⟨d,e1,hf⟩:=bind_some hf;split at hf
  ·rename_i hs;cases hf;exact⟨Av,bX Γ,d,G.jP.same G.same,G.rG,e1,fun v H' s r=>q _ _ ⟨ad,(G.grow s).set i (r.sc hs)⟩⟩
  ·cases hf
abbrev dk:=List (Nat×Dat)
inductive kQ (K:Fg) (H:Hp) (Av:gg):List (Nat×V)->dk->Prop
 |nil:kQ K H Av [] []
 |cons {i:Nat} {v:V} {d:Dat} {vs:List (Nat×V)} {ds:dk}:aP K H Av v d->kQ K H Av vs ds->kQ K H Av ((i,v)::vs) ((i,d)::ds)
def pd (σ:L2.St) (ws:List (Nat×V)):L2.St:=ws.foldl (fun σ p=>σ.set p.1 (some p.2)) σ
def setG (Γ:aG) (ws:dk):aG:=ws.foldl (fun Γ p=>Γ.set p.1 (some (.a7 p.2))) Γ
def l7 (ρ:ax) (ws:dk):ax:=ws.foldl (fun ρ p=>ρ.set p.1 (some p.2)) ρ
theorem kQ.append{K:Fg}{H:Hp}{Av:gg}:∀{a b:List (Nat×V)} {c d:dk},kQ K H Av a c->kQ K H Av b d->kQ K H Av (a++b) (c++d)
 |_,_,_,_,.nil,s=>s
 |_,_,_,_,.cons h r,s=>.cons h (kQ.append r s)
def kA (K:Fg) (gt:Dat->Option dk):TG:=fun v σ H Q=>∃Av d as,aP K H Av v d/\gt d=some as/\∀ws,kQ K H Av ws as->Q (pd σ ws) H
def CF (K:Fg) (gt:List Dat->Option dk):sS:=fun vs σ H Q=>∃Av ds as,aC K H Av vs ds/\gt ds=some as/\∀ws,kQ K H Av ws as->Q (pd σ ws) H
theorem Br{t t':TG}{tg:Expr}(h:PG X tg t)(m:∀v σ H Q,t' v σ H Q->t v σ H Q):PG X tg t':=fun pins s σ H v u Q I r q=>h pins s σ H v u Q I r (m v σ H Q q)
theorem yW{t t':sS}{tg:List Expr}(h:Ax X tg t)(m:∀v σ H Q,t' v σ H Q->t v σ H Q):Ax X tg t':=fun pins s σ H v u Q I r q=>h pins s σ H v u Q I r (m v σ H Q q)
def aName (i:Nat):Dat->Option dk:=fun d=>some [(i,d)]
def ny:List Dat->Option dk:=fun ds=>match ds with|[]=>some []|_=>none
variable {g:aG->Option Fl}
def gS (g:Dat->Option dk) (gs:List Dat->Option dk):List Dat->Option dk:=fun ds=>match ds with
 |[]=>none
 |d::r=>(g d).bind fun a=>(gs r).map (a++·)
def lz (n:Nat) (gs:List Dat->Option dk):Dat->Option dk:=fun d=>match d with
 | .tuple ds=>if ds.length=n then gs ds else none
 |_=>none
variable {ws:List (Nat×V)} {as:dk}
theorem GA.j4{Rb:aG}{σ:L2.St}(h:kQ K H (aX Av Rb ad) ws as)(hw:∀a,aX Av Γ ad a->aX Av Rb ad a)(G:GA K aj Av pn aK H σ Γ ad):
  GA K aj Av pn aK H (pd σ ws) (setG Γ as) ad:=by
 induction h generalizing σ Γ with
 |nil=>exact G
 | @cons i v d vs ds h r ih=>exact ih (σ:=σ.set i (some v)) (Γ:=Γ.set i (some (.a7 d))) (fun a z=>hw a (aX.k9 a z)) (G.set i (h.weak hw))
def qF (gt:Dat->Option dk) (f:ax->Option Dat):aG->Option Fl:=fun Γ=>(f (bx Γ)).bind fun d=>(gt d).map fun as=>.nx (setG Γ as)
open PySem PySem.Spec PyProof.Rows L2
open PySem.W (Dat)
def Of (K:Fg) (tl:TE):TI:=fun σ H R=>tl σ H fun x H1=>∃a,x=.ref a/\(((∃xs,fR K H1 a xs)/\R (PR K a) H1)\/((∃xs,jv K H1 a xs)/\R (PQ K a) H1))
variable {tg:Expr}
theorem uG{l:Expr}{tl:TE}(hl:PE X l tl):PI X tg l (Of X.K tl):=by
 intro pins s σ H R I h;refine cg (hl pins s σ H _ I h) fun v s1 ⟨x,H1,I1,r1,q1⟩=>?_;obtain⟨a,e,q⟩:=q1;subst e;cases r1;rcases q with⟨⟨xs,hq⟩,q⟩|⟨⟨xs,hq⟩,q⟩
 ·obtain⟨ak,rv,p,hz⟩:=I1.list hq;refine wpAny_pyIter_list p.isList ?_;refine⟨s1.heap.objs.size,[s1.heap.objs.size],_,_,H1,rfl,I1.kept (t':=s1.toks) fun b o e=>get?_push_of_some _ e,E9 a _,⟨_,get?_push_size _ rfl,rfl,rfl⟩,fun b hb=>?_,q⟩;have e:b=s1.heap.objs.size:=by simpa using hb
  subst e;exact I1.wj (le_refl _) (I1.bw.fresh (le_refl _))
 ·obtain⟨ak,rv,p,hz⟩:=I1.tuple hq;refine wpAny_pyIter_tuple (show s1.heap.IsTuple a ak.toArray from p) ?_;refine⟨s1.heap.objs.size,[s1.heap.objs.size],_,_,H1,rfl,I1.kept (t':=s1.toks) fun b o e=>get?_push_of_some _ e,CC a _,⟨_,get?_push_size _ rfl,rfl,rfl⟩,fun b hb=>?_,q⟩;have e:b=s1.heap.objs.size:=by simpa using hb
  subst e;exact I1.wj (le_refl _) (I1.bw.fresh (le_refl _))
def cM:Dat->Option (List Dat)
 | .list ds=>some ds
 | .tuple ds=>some ds
 |_=>none
def Over (K:Fg) (J:It) (x:V) (d:Dat) (ds:List Dat):Prop:=∀(i:Nat) (H:Hp) (Av:gg),aP K H Av x d->(ds.length<=i->J.stop i H)/\(∀di,ds[i]?=some di->J.go i H/\∀y H',J.wQ i H y H'->H'=H/\aP K H Av y di)
theorem qT{a:Addr}:Over K (PR K a) (.ref a) (.list ds) ds:=by
 intro i H Av r;obtain⟨b,xs,e,hq,rs⟩:=r.fY;cases e;refine⟨fun h=>⟨xs,hq.sq,by rw[rs.length];exact h⟩,fun di hd=>?_⟩;obtain⟨v,hv,rv⟩:=rs.get hd;refine⟨⟨xs,v,hq.sq,hv⟩,fun y H' hy=>?_⟩;obtain⟨e,hy⟩:=hy;have:=hy xs hq.sq;rw[hv]at this;cases this;exact⟨e,rv⟩
theorem tq{a:Addr}:Over K (PQ K a) (.ref a) (.tuple ds) ds:=by
 intro i H Av r;obtain⟨b,xs,e,hq,rs⟩:=r.fz;cases e;refine⟨fun h=>⟨xs,hq.sq,by rw[rs.length];exact h⟩,fun di hd=>?_⟩;obtain⟨v,hv,rv⟩:=rs.get hd;refine⟨⟨xs,v,hq.sq,hv⟩,fun y H' hy=>?_⟩;obtain⟨e,hy⟩:=hy;have:=hy xs hq.sq;rw[hv]at this;cases this;exact⟨e,rv⟩
theorem drop_cons{l:List α}{a:α}(h:l[i]?=some a):l.drop i=a::l.drop (i+1):=by
 obtain⟨hl,e⟩:=List.getElem?_eq_some_iff.mp h;rw[List.drop_eq_getElem_cons hl,e]
def forL (gt:Dat->Option dk) (gb:aG->Option Fl):List Dat->aG->Option Fl
 |[],Γ=>some (.nx Γ)
 |d::r,Γ=>(gt d).bind fun as=>(gb (setG Γ as)).bind fun fl=>match fl with
  | .nx ah=>forL gt gb r ah
  | .ct ah=>forL gt gb r ah
  | .bk ah=>some (.nx ah)
  | .rt v=>some (.rt v)
  | .rm v ah=>some (.rm v ah)
def kG (gt:Dat->Option dk) (gb:aG->Option Fl) (f:ax->Option Dat):aG->Option Fl:=fun Γ=>(f (bx Γ)).bind fun d=>(cM d).bind fun ds=>forL gt gb ds Γ
variable {gt:Dat->Option dk} {gb:aG->Option Fl} {J:It}
theorem rC{D:Ends}{x:V}{σ:L2.St}{H1:Hp}{fl:Fl}(ov:Over K J x d ds)(G:lX K aj Av pn ((x,d)::aK) H1 σ Γ)(hf:forL gt gb ds Γ=some fl)(q:IQ K aj Av pn aK D fl):
  ∃W:Nat->Nat->L2.St->Hp->Prop,(∃m,W 0 m σ H1)/\∀i m σ H,W i m σ H->
   (J.stop i H/\D.nx σ H)\/(J.go i H/\∃N:L2.St->Hp->Prop,(∀bI H',N bI H'->∃m',m'<m/\W (i+1) m' bI H')/\∀x H',J.wQ i H x H'->kA K gt x σ H' fun gn H2=>yB K gb {D with nx:=N,ct:=N,bk:=D.nx} gn H2):=by
 refine⟨fun i m σ H=>m=ds.length-i/\i<=ds.length/\∃Γ,lX K aj Av pn ((x,d)::aK) H σ Γ/\forL gt gb (ds.drop i) Γ=some fl,⟨_,rfl,zero_le _,Γ,G,by rw[drop_zero];exact hf⟩,?_⟩;rintro i m σ H ⟨rfl,hi,Γ,⟨ad,G⟩,hf⟩;have rx:=G.aK (x,d) mem_cons_self;cases iY:ds[i]? with
 |none=>
  have hl:ds.length<=i:=List.getElem?_eq_none_iff.mp iY;rw[drop_eq_nil_of_le hl]at hf;cases hf;exact .inl ⟨(ov i H _ rx).1 hl,q σ H ⟨ad,G.oC⟩⟩
 |some di=>
  have fq:=fW iY;rw[drop_cons iY]at hf;obtain⟨as,e1,hf⟩:=bind_some (show(gt di).bind _=some fl from hf);obtain⟨rE,e2,hf⟩:=bind_some hf;obtain⟨go,yl⟩:=(ov i H _ rx).2 di iY;refine .inr ⟨go,fun bI H'=>∃ah,lX K aj Av pn ((x,d)::aK) H' bI ah/\forL gt gb (ds.drop (i+1)) ah=some fl,fun bI H' ⟨ah,G',h'⟩=>⟨ds.length-(i+1),by omega,rfl,by omega,ah,G',h'⟩,fun y H' hy=>?_⟩;obtain⟨eH,ry⟩:=yl y H' hy;subst eH;refine⟨aX Av Γ ad,di,as,ry,e1,fun ws hw=>⟨aj,Av,pn,(x,d)::aK,setG Γ as,rE,⟨ad,GA.j4 hw (fun _ z=>z) G⟩,e2,?_⟩⟩;cases rE with
  |nx ah=>exact fun gn H2 G2=>⟨ah,G2,hf⟩
  |ct ah=>exact fun gn H2 G2=>⟨ah,G2,hf⟩
  |bk ah=>cases hf;exact fun gn H2 ⟨qk,G2⟩=>q gn H2 ⟨qk,G2.oC⟩
  |rt v=>cases hf;exact q
  |rm v ah=>cases hf;exact fun gn v2 H2 qk G2 r2=>q gn v2 H2 qk G2.oC r2
def iO (lo:Int) (n:Nat):List Dat:=(List.range n).map fun(i:Nat)=>Dat.int (lo+(i:Int))
theorem td{lo:Int}{di:Dat}(h:(iO lo n)[i]?=some di):i<n/\di=.int (lo+(i:Int)):=by
 unfold iO at h;rw[getElem?_map]at h;cases e:(List.range n)[i]? with
 |none=>rw[e]at h;cases h
 |some k=>
  rw[e]at h;cases h;obtain⟨hl,e2⟩:=List.getElem?_eq_some_iff.mp e;rw[length_range]at hl;rw[List.getElem_range]at e2;subst e2;exact⟨hl,rfl⟩
theorem uJ{lo:Int}:Over K (KL lo n) .bR .none (iO lo n):=by
 intro i H Av _;refine⟨fun h=>?_,fun di hd=>?_⟩
 ·have:(iO lo n).length=n:=by unfold iO;rw[length_map,length_range]
  show n<=i;omega
 ·obtain⟨hl,e⟩:=td hd;refine⟨hl,fun y H' hy=>?_⟩;obtain⟨e1,e2⟩:=hy;subst e2;rw[e];exact⟨e1,.int _⟩
def oo:List Dat->Option (List Dat)
 |[.int j]=>if -(2^62)<=j/\j<2^62 then some (iO 0 j.toNat)else none
 |_=>none
variable {fs:ax->Option (List Dat)} in
def CK (rg:List Dat->Option (List Dat)) (gt:Dat->Option dk) (gb:aG->Option Fl) (fs:ax->Option (List Dat)):aG->Option Fl:=fun Γ=>(fs (bX Γ)).bind fun as=>(rg as).bind fun ds=>forL gt gb ds Γ
theorem aC.dZ(h:aC K H Av vs [d]):∃v,vs=[v]/\aP K H Av v d:=by
 cases h with|cons a r=>cases r;exact⟨_,rfl,a⟩
variable {e:Dat}
theorem aC.fw(h:aC K H Av vs [d,e]):∃v u,vs=[v,u]/\aP K H Av v d/\aP K H Av u e:=by
 cases h with|cons a r=>obtain⟨u,rfl,b⟩:=r.dZ;exact⟨_,u,rfl,a,b⟩
def fT (ft:ax->Option Bool) (gb:aG->Option Fl):Nat->aG->Option Fl
 |0,_=>none
 |n+1,Γ=>(ft (bX Γ)).bind fun c=>if c=true then(gb Γ).bind fun fl=>match fl with
   | .nx ah=>fT ft gb n ah
   | .ct ah=>fT ft gb n ah
   | .bk ah=>some (.nx ah)
   | .rt v=>some (.rt v)
   | .rm v ah=>some (.rm v ah)
  else some (.nx Γ)
def mN (fuel:aG->Nat) (ft:ax->Option Bool) (gb:aG->Option Fl):aG->Option Fl:=fun Γ=>fT ft gb (fuel Γ) Γ
def jG (K:Fg) (f:ax->Option (List Dat)):TE:=fun σ H Q=>∃Av ρ ds,gO H Av/\fG K H Av σ ρ/\f ρ=some ds/\∀H1 p xs,aV H H1->H1 p=none->aC K H1 Av xs ds->Q (.ref p) (upd H1 p (.lst xs))
def gd {α:Type} (c:Prop) [Decidable c] (o:Option α):Option α:=if c then o else none
theorem C4{c:Prop}[Decidable c]{o:Option α}{a:α}(h:gd c o=some a):c/\o=some a:=by
 unfold gd at h;split at h
 ·rename_i hc;exact⟨hc,h⟩
 ·cases h
variable {fs:ax->Option (List Dat)} in
def nU (fs:ax->Option (List Dat)):ax->Option (List Dat):=fun ρ=>(fs ρ).bind fun ds=>gd (ds.length<=sizeLine) (some ds)
def vO (i:Nat) (f:ax->Option (List Dat)):aG->Option Fl:=fun Γ=>(f (bx Γ)).map fun ds=>.nx (Γ.set i (some (.own ds)))
def t9 (i:Nat) (f:ax->Option Dat):aG->Option Fl:=fun Γ=>match Γ[i]? with
 |some (some (.own ds))=>(f (bx Γ)).bind fun d=>gd (ds.length<sizeLine) (some (.nx (Γ.set i (some (.own (ds++[d]))))))
 |_=>none
def d6 (N:List Str) (ds:List Dat):aG:=ds.map (fun d=>some (.a7 d))++List.replicate (N.length-ds.length) none
def jX (N:List Str) (g:aG->Option Fl):List Dat->Option Dat:=fun ds=>match g (d6 N ds)with
 |some (.rt d)=>some d
 |some (.nx _)=>some .none
 |_=>none
variable {N:List Str}
theorem tM(hA:gO H Av)(r:aC K H Av vs ds)(hl:ds.length<=N.length):lX K H Av none [] H (start N vs) (d6 N ds):=by
 have pE:∀(i:Nat) (s:Slot),(d6 N ds)[i]?=some (some s)->s.mt=false:=fun i s h=>by
  unfold d6 at h;by_cases hi:i<ds.length
  ·rw[getElem?_append_left (by rw[length_map];exact hi),getElem?_map,getElem?_eq_getElem hi]at h;cases h;rfl
  ·rw[getElem?_append_right (by rw[length_map];omega),getElem?_replicate]at h;split at h<;>cases h
 refine⟨fun _=>0,aV.refl H,hA,?_,fun i d h=>?_,fun i es h=>absurd (pE i _ h) (by simp[Slot.mt]),fun i j s _ h _ m=>absurd (pE i s h) (by rw[m];decide),fun p hp=>absurd hp (by simp),fun a es e=>(by cases e),fun i O es h=>absurd (pE i _ h) (by simp[Slot.mt])⟩
 ·unfold L2.start d6;rw[length_append,length_append,length_map,length_map,length_replicate,length_replicate,r.length]
 ·unfold d6 at h;by_cases hi:i<ds.length
  ·rw[getElem?_append_left (by rw[length_map];exact hi),getElem?_map,getElem?_eq_getElem hi]at h;cases h;obtain⟨v,hv,rv⟩:=r.get (getElem?_eq_getElem hi);refine⟨v,?_,rv.weak ?_⟩
   ·unfold L2.start;rw[getElem?_append_left (by rw[length_map,r.length];exact hi),getElem?_map,hv];rfl
   ·rintro a (z|⟨j,s,e,m,_⟩)
    ·exact z
    ·exact absurd (pE j s e) (by rw[m];decide)
  ·rw[getElem?_append_right (by rw[length_map];omega),getElem?_replicate]at h;split at h<;>cases h
variable {qual:Str} {fa:Addr} {fd:FuncData}
theorem R5{k:Nat}(U:nZ K x qual st fa fd)(hm:mg x=some (.ref fa))(hB:Binds K fd ps [])(S:gk N ps (ba st))(hn:ps.length=n)(hbody:∀(bG:Value) (A:Around) (outer:List Env) (s:Shared) (H:Hp) (E:XK),cA k (A.deeper (envOfC qual (ba st) s.heap.objs.size fa bG))->PK (k6 jy P w K mg base N qual (ba st) fa bG A outer s H E).oK (dw st) g)(hF:∀ds d,ds.length=n->F ds=some d->jX N g ds=some d):Dn P w K mg base (k+1) x ps n F:=by
 have dB:ps.length<=N.length:=by have:=congrArg List.length S.pre;rw[length_take]at this;omega
 refine⟨fa,fd,U.ok S (fun vs H Q E h=>?_) (fun bG A outer s H vs Q E hr h=>?_),hm,U.kp,hB⟩
 ·obtain⟨Av,ds,d,_,r,hl,_⟩:=h;rw[r.length,hl,hn]
 ·obtain⟨Av,ds,d,hA,r,hl,hd,q⟩:=h;have ey:=hF ds d hl hd;unfold jX at ey;refine⟨_,hbody bG A outer s H E hr,?_⟩;cases hg:g (d6 N ds)with
  |none=>rw[hg]at ey;cases ey
  |some fl=>
   refine⟨H,Av,none,[],d6 N ds,fl,tM hA r (by omega),hg,?_⟩;rw[hg]at ey;cases fl with
   |nx Γ=>cases ey;exact fun bI H' ⟨ad,G⟩=>q _ H' G.same .bR
   |rt d'=>cases ey;exact fun v H' s r=>q v H' s r
   |bk Γ=>cases ey
   |ct Γ=>cases ey
   |rm d' Γ=>cases ey
open PySem PySem.Spec PyProof.Rows L2
open PySem.W (Dat kqdOk kqdP kqdPs kqd_lay kqd_eqv)
def lT (d e:Dat):Bool:=@decide (d=e) (Classical.propDecidable _)
theorem Ag:lT d e=true↔d=e:=@decide_eq_true_iff _ (Classical.propDecidable _)
theorem nj(h:d=e):lT d e=true:=Ag.mpr h
theorem nk(h:d≠e):lT d e=false:=eq_false_iff.mpr fun z=>h (Ag.mp z)
def iD (C:Int->Int->Prop) (g:Int->Int->Dat):Dat->Dat->Option Dat:=open Classical in fun x y=>match x,y with
 | .int i,.int j=>if C i j then some (g i j)else none
 |_,_=>none
variable {C:Int->Int->Prop}
theorem iW{g:Int->Int->Dat}{i j:Int}(h:C i j):iD C g (.int i) (.int j)=some (g i j):=by
 unfold iD;exact if_pos h
theorem FL{g:Int->Int->Dat}{x y:Dat}(h:iD C g x y=some d):∃i j,x=.int i/\y=.int j/\C i j/\d=g i j:=by
 unfold iD at h;split at h
 ·split at h
  ·rename_i i j hc;cases h;exact⟨i,j,rfl,rfl,hc,rfl⟩
  ·cases h
 ·cases h
theorem pA{g:Int->Int->Int}:kR K (rI C fun i j=>.int (g i j)) (iD C fun i j=>.int (g i j)):=by
 intro H Av x y dx dy d Q hA rx ry h q;obtain⟨i,j,rfl,rfl,hc,rfl⟩:=FL h;exact⟨i,j,rx.cN,ry.cN,hc,q _ H (aV.refl H) (.int _)⟩
theorem rZ{g:Int->Int->Bool}:kR K (xc fun i j=>.bl (g i j)) (iD (fun _ _=>True) fun i j=>.bool (g i j)):=by
 intro H Av x y dx dy d Q hA rx ry h q;obtain⟨i,j,rfl,rfl,hc,rfl⟩:=FL h;exact⟨i,j,rx.cN,ry.cN,q _ H (aV.refl H) (.bl _)⟩
def lV:Dat->Dat->Option Dat
 | .int i,.int j=>some (.int (i+j))
 | .str x,.str y=>if x.length+y.length<=sizeLine then some (.str (x++y))else none
 |_,_=>none
def Q5 (_ _:Int):Prop:=True
def Q4 (i j:Int):Prop:=j≠0/\j.natAbs.log2<9000
def TF (_ j:Int):Prop:=j≠0
theorem Bv:dO X (binaryOp .Sub) (rI Q5 fun i j=>.int (i-j)):=F0 fun _ _ _ _ _ _ _ _ q=>sub_int q
theorem Bx:dO X (binaryOp .Mult) (rI IntMulOk fun i j=>.int (i*j)):=F0 fun _ _ _ _ _ _ _ hc q=>mul_int q hc
theorem HV:dO X (binaryOp .FloorDiv) (rI Q4 fun i j=>.int (i.fdiv j)):=F0 fun _ _ _ _ _ _ _ hc q=>floordiv_int hc.1 q (.inl (PyProof.noPylong_of_log2 hc.2))
theorem HU:dO X (binaryOp .Mod) (rI TF fun i j=>.int (i.fmod j)):=F0 fun _ _ _ _ _ _ _ hc q=>mod_int' hc q
abbrev oj:Dat->Dat->Option Dat:=iD Q5 fun i j=>.int (i-j)
abbrev jA:Dat->Dat->Option Dat:=iD IntMulOk fun i j=>.int (i*j)
abbrev si:Dat->Dat->Option Dat:=iD Q4 fun i j=>.int (i.fdiv j)
abbrev vX:Dat->Dat->Option Dat:=iD TF fun i j=>.int (i.fmod j)
abbrev ph:Dat->Dat->Option Dat:=iD wO fun i j=>.int (i^j.toNat)
abbrev zw:Dat->Dat->Option Dat:=iD (fun _ _=>True) fun i j=>.bool (decide (i<j))
abbrev RI:Dat->Dat->Option Dat:=iD (fun _ _=>True) fun i j=>.bool (decide (i<=j))
abbrev rA:Dat->Dat->Option Dat:=iD (fun _ _=>True) fun i j=>.bool (decide (j<i))
abbrev Sr:Dat->Dat->Option Dat:=iD (fun _ _=>True) fun i j=>.bool (decide (j<=i))
def lb:Dat->Option Dat
 | .int i=>some (.int (-i))
 |_=>none
mutual
theorem aP.reads{pins:List (Addr×Obj)}{σ:L2.St}{H:Hp}{s:Shared}{Av:gg}(I:Inv X pins σ H s):∀{v:V} {d:Dat} (n:Nat),aP X.K H Av v d->kqdOk n d=true->∀u,RelV v u->∃as,Reads s.heap u (kqdP d) as
 |_,_,n,.bR,_,u,r=>by cases(show u=Value.none from r);rw[kqdP];exact⟨_,.none⟩
 |_,_,n,.bl b,_,u,r=>by cases(show u=Value.bool b from r);rw[kqdP];exact⟨_,.bool b⟩
 |_,_,n,.int i,_,u,r=>by obtain⟨t,q⟩:=(show ∃t,u=Value.int i t from r);subst q;rw[kqdP];exact⟨_,.int i t⟩
 |_,_,n,.str x,_,u,r=>by obtain⟨t,q⟩:=(show ∃t,u=Value.str x t from r);subst q;rw[kqdP];exact⟨_,.str x t⟩
 |_,_,0,.tup _ _,hk,_,_=>by simp[kqdOk]at hk
 |_,_,0,.lst _ _,hk,_,_=>by simp[kqdOk]at hk
 |_,_,n+1,.tup (a:=a) hq rs,hk,u,r=>by
  cases(show u=Value.ref a from r);obtain⟨ak,rv,⟨o,h1,h2,m,h3⟩,_⟩:=I.tuple hq.sq;obtain⟨as,q⟩:=aC.reads I n rs (by simpa [kqdOk]using hk) ak rv;rw[kqdP];exact⟨as,.tuple h1 h2 h3 (by simpa using q)⟩
 |_,_,n+1,.lst (a:=a) hq rs,hk,u,r=>by
  cases(show u=Value.ref a from r);obtain⟨ak,rv,⟨o,m,h1,h2,_,h3⟩,_⟩:=I.list hq.sq;obtain⟨as,q⟩:=aC.reads I n rs (by simpa [kqdOk]using hk) ak rv;rw[kqdP];exact⟨_,.list h1 h2 h3 (by simpa using q)⟩
theorem aC.reads {pins:List (Addr×Obj)} {σ:L2.St} {H:Hp} {s:Shared} {Av:gg} (I:Inv X pins σ H s):∀{vs:List V} {ds:List Dat} (n:Nat),aC X.K H Av vs ds->(∀d∈ds,kqdOk n d=true)->∀us,Vals vs us->∃as,ReadsAll s.heap us (kqdPs ds) as
 |_,_,n,.nil,_,us,r=>by cases r;rw[kqdPs];exact⟨_,.nil⟩
 |_,_,n,.cons h t,hk,us,r=>by
  cases r with
  |cons r1 r2=>
   obtain⟨as,q⟩:=aP.reads I n h (hk _ (.head _)) _ r1;obtain⟨bs,p⟩:=aC.reads I n t (fun d hm=>hk d (.tail _ hm)) _ r2;rw[kqdPs];exact⟨_,.cons q p⟩
end
theorem wq(d e:Dat)(h1:kqdOk 9 d=true)(h2:kqdOk 9 e=true):PyData.eqv (kqdP d) (kqdP e)=(lT d e):=by
 have q:=kqd_eqv 9 d e 9 h1 h2;by_cases hq:d=e
 ·rw[nj hq];exact q.mpr hq
 ·rw[nk hq];exact eq_false_iff.mpr fun x=>hq (q.mp x)
theorem nJ(d:Dat)(h:kqdOk 9 d=true):SeqAt.shaped (kqdP d)=true:=by
 have l:=kqd_lay 9 d h;unfold SeqAt.shaped;rw[l.1,Bool.true_and];exact decide_eq_true (le_trans l.2 (by decide))
variable {e:Expr}
def Nh (K:Fg):R2:=fun x y H Q=>∃Av d e,aP K H Av x d/\aP K H Av y e/\kqdOk 9 d=true/\kqdOk 9 e=true/\Q (.bl (lT d e)) H
def Nc (K:Fg):R2:=fun x y H Q=>∃Av d e,aP K H Av x d/\aP K H Av y e/\kqdOk 9 d=true/\kqdOk 9 e=true/\Q (.bl (!(lT d e))) H
theorem uM(hu:X.A.units+64<cLine):dO X (compareOp .Eq) (Nh X.K):=by
 intro pins s σ H x y v u Q I rx ry h;obtain⟨Av,d,e,r1,r2,k1,k2,q⟩:=h;obtain⟨as,ra⟩:=r1.reads I 9 k1 v rx;obtain⟨bs,rb⟩:=r2.reads I 9 k2 u ry;exact eq_dataH ra rb (nJ d k1) (nJ e k2) hu ⟨.bl _,H,I,by rw[wq d e k1 k2];rfl,q⟩
theorem EX(hu:X.A.units+64<cLine):dO X (compareOp .NotEq) (Nc X.K):=by
 intro pins s σ H x y v u Q I rx ry h;obtain⟨Av,d,e,r1,r2,k1,k2,q⟩:=h;obtain⟨as,ra⟩:=r1.reads I 9 k1 v rx;obtain⟨bs,rb⟩:=r2.reads I 9 k2 u ry;exact ne_dataH ra rb (nJ d k1) (nJ e k2) hu ⟨.bl _,H,I,by rw[wq d e k1 k2];rfl,q⟩
def eqB:Dat->Dat->Option Bool:=open Classical in fun x y=>match x,y with
 | .bool a,.bool b=>some (a==b)
 | .str a,.str b=>some (decide (a=b))
 |d,e=>if kqdOk 9 d=true/\kqdOk 9 e=true then some (lT d e)else none
def cH:Dat->Dat->Option Dat:=fun x y=>(eqB x y).map .bool
def fI:Dat->Dat->Option Dat:=fun x y=>(eqB x y).map fun k=>.bool (!k)
theorem xJ{x y:Dat}{k:Bool}(h:eqB x y=some k):(∃a b,x=.bool a/\y=.bool b/\k=(a==b))\/(∃a b,x=.str a/\y=.str b/\k=decide (a=b))\/(kqdOk 9 x=true/\kqdOk 9 y=true/\k=(lT x y)):=by
 unfold eqB at h;split at h
 ·cases h;exact .inl ⟨_,_,rfl,rfl,rfl⟩
 ·cases h;exact .inr (.inl ⟨_,_,rfl,rfl,by congr⟩)
 ·split at h
  ·rename_i hk;cases h;exact .inr (.inr ⟨hk.1,hk.2,rfl⟩)
  ·cases h
theorem uN:kR K (fun x y H Q=>Rv x y H Q\/Nh K x y H Q) cH:=by
 intro H Av x y dx dy d Q hA rx ry h q;obtain⟨k,e1,rfl⟩:=bj h;rcases xJ e1 with⟨a,b,rfl,rfl,rfl⟩|⟨a,b,rfl,rfl,rfl⟩|⟨k1,k2,rfl⟩
 ·rw[rx.gD,ry.gD];exact .inl ⟨rfl,by rw[vi];exact q _ H (aV.refl H) (.bl _)⟩
 ·rw[rx.iS,ry.iS];exact .inl ⟨rfl,by
   have:decide (V.str a=V.str b)=decide (a=b):=by simp
   rw[this];exact q _ H (aV.refl H) (.bl _)⟩
 ·exact .inr ⟨Av,dx,dy,rx,ry,k1,k2,q _ H (aV.refl H) (.bl _)⟩
theorem F1:kR K (fun x y H Q=>Rt x y H Q\/Nc K x y H Q) fI:=by
 intro H Av x y dx dy d Q hA rx ry h q;obtain⟨k,e1,rfl⟩:=bj h;rcases xJ e1 with⟨a,b,rfl,rfl,rfl⟩|⟨a,b,rfl,rfl,rfl⟩|⟨k1,k2,rfl⟩
 ·rw[rx.gD,ry.gD];exact .inl ⟨rfl,by rw[vi];exact q _ H (aV.refl H) (.bl _)⟩
 ·rw[rx.iS,ry.iS];exact .inl ⟨rfl,by
   have:decide (V.str a=V.str b)=decide (a=b):=by simp
   rw[this];exact q _ H (aV.refl H) (.bl _)⟩
 ·exact .inr ⟨Av,dx,dy,rx,ry,k1,k2,q _ H (aV.refl H) (.bl _)⟩
def DO:List Dat->Option Dat
 |[.int i]=>some (.int (if i<0 then -i else i))
 |_=>none
theorem GY:lH K (fun xs H Q=>∃i,xs=[.int i]/\Q (.int (if i<0 then -i else i)) H) DO:=by
 intro H Av xs ds d Q hA r h q;unfold DO at h;split at h
 ·cases h;obtain⟨v,rfl,rv⟩:=r.dZ;rw[rv.cN];exact⟨_,rfl,q _ H (aV.refl H) (.int _)⟩
 ·cases h
def intD:List Dat->Option Dat
 |[.int i]=>some (.int i)
 |[.bool k]=>some (.int (if k then 1 else 0))
 |_=>none
theorem GX:lH K (fun xs H Q=>(∃i,xs=[.int i]/\Q (.int i) H)\/∃k,xs=[.bl k]/\Q (.int (if k then 1 else 0)) H) intD:=by
 intro H Av xs ds d Q hA r h q;unfold intD at h;split at h
 ·cases h;obtain⟨v,rfl,rv⟩:=r.dZ;rw[rv.cN];exact .inl ⟨_,rfl,q _ H (aV.refl H) (.int _)⟩
 ·cases h;obtain⟨v,rfl,rv⟩:=r.dZ;rw[rv.gD];exact .inr ⟨_,rfl,q _ H (aV.refl H) (.int _)⟩
 ·cases h
def kI:List Dat->Option Dat
 |[.str z]=>if z.length<=sizeLine then some (.int z.length)else none
 |[.list ds]=>some (.int ds.length)
 |[.tuple ds]=>some (.int ds.length)
 |_=>none
theorem GW:lH K (fun xs H Q=>∃x n,xs=[x]/\PN K x H n/\Q (.int n) H) kI:=by
 intro H Av xs ds d Q hA r h q;unfold kI at h;split at h
 ·split at h
  ·rename_i hz;cases h;obtain⟨v,rfl,rv⟩:=r.dZ;rw[rv.iS];exact⟨_,_,rfl,⟨hz,rfl⟩,q _ H (aV.refl H) (.int _)⟩
  ·cases h
 ·cases h;obtain⟨v,rfl,rv⟩:=r.dZ;obtain⟨a,ys,rfl,hq,rs⟩:=rv.fY;exact⟨_,_,rfl,.inl ⟨ys,hq.sq,rfl⟩,by rw[rs.length];exact q _ H (aV.refl H) (.int _)⟩
 ·cases h;obtain⟨v,rfl,rv⟩:=r.dZ;obtain⟨a,ys,rfl,hq,rs⟩:=rv.fz;exact⟨_,_,rfl,.inr ⟨ys,hq.sq,rfl⟩,by rw[rs.length];exact q _ H (aV.refl H) (.int _)⟩
 ·cases h
def MM:Dat->Option String
 | .none=>some "NoneType"| .bool _=>some "bool"| .int _=>some "int"| .str _=>some "str"| .tuple _=>some "tuple"| .list _=>some "list"
 | .bytes _=>none
theorem mE(K:Fg)(t T:String)(ht:t∈["NoneType","bool","int","str","tuple","list"])(hT:T∈["bool","int","str","tuple","list"]):PySem.W.kitOne K (.type t) (.type T)=some (decide (t=T) || (decide (t="bool")&&decide (T="int"))):=by
 simp only[mem_cons,not_mem_nil,or_false]at ht hT;rcases ht with rfl|rfl|rfl|rfl|rfl|rfl<;>rcases hT with rfl|rfl|rfl|rfl|rfl<;>rfl
def oN (T:String):Dat->Option Dat:=fun d=>(MM d).bind fun t=>if T∈["bool","int","str","tuple","list"]then some (.bool (decide (t=T) || (decide (t="bool")&&decide (T="int"))))else none
theorem AI(T:String):jt X (.builtin "isinstance") (fun xs H Q=>∃Av x d dd,xs=[x,.ty T]/\aP X.K H Av x d/\oN T d=some (.bool dd)/\Q (.bl dd) H):=by
 intro pins s σ H xs us Q I r h;obtain⟨Av,x,d,dd,rfl,rd,hi,q⟩:=h;obtain⟨u,t,rfl,ru,rt⟩:=vals2 r;cases(show t=Value.type T from rt);obtain⟨ty,e1,hi⟩:=bind_some (show(MM d).bind _=some (Dat.bool dd)from hi);split at hi
 ·rename_i hT;have gc:=(Option.some.inj hi).symm;injection gc with wc;have fin:∀tk,EP X pins σ Q (.bool dd) {s with toks:=tk}:=fun tk=>⟨.bl dd,H,I.tok tk,rfl,q⟩;cases rd with
  |bR=>cases e1;cases(show u=Value.none from ru);exact kia_one PySem.W.kitx_none I.q9 True.intro (by rw[mE _ _ _ (by simp) hT,wc]) (fun z=>nomatch z) fin
  |bl y=>cases e1;cases(show u=Value.bool y from ru);exact kia_one PySem.W.kitx_bool I.q9 True.intro (by rw[mE _ _ _ (by simp) hT,wc]) (fun z=>nomatch z) fin
  |int i=>cases e1;obtain⟨t,z⟩:=(show ∃t,u=Value.int i t from ru);cases z;exact kia_one PySem.W.kitx_int I.q9 True.intro (by rw[mE _ _ _ (by simp) hT,wc]) (fun z=>nomatch z) fin
  |str y=>cases e1;obtain⟨t,z⟩:=(show ∃t,u=Value.str y t from ru);cases z;exact kia_one PySem.W.kitx_str I.q9 True.intro (by rw[mE _ _ _ (by simp) hT,wc]) (fun z=>nomatch z) fin
  | @lst a xs ds hq rs=>
   cases e1;cases(show u=Value.ref a from ru);obtain⟨ak,_,⟨o,m,h1,h2,_⟩,_⟩:=I.list hq.sq;exact kia_one PySem.W.kitx_list I.q9 ⟨o,h1,h2⟩ (by rw[mE _ _ _ (by simp) hT,wc]) (fun z=>nomatch z) fin
  | @tup a xs ds hq rs=>
   cases e1;cases(show u=Value.ref a from ru);obtain⟨ak,_,⟨o,h1,h2,_⟩,_⟩:=I.tuple hq.sq;exact kia_one PySem.W.kitx_tuple I.q9 ⟨o,h1,h2⟩ (by rw[mE _ _ _ (by simp) hT,wc]) (fun z=>nomatch z) fin
 ·cases hi
theorem Ip{r:Dat}(h:oN T d=some r):∃k,r=.bool k:=by
 obtain⟨t,e1,h⟩:=bind_some (show(MM d).bind _=some r from h);split at h
 ·cases h;exact⟨_,rfl⟩
 ·cases h
def aO:Dat->Dat->Option Dat:=fun x y=>match x,y with
 | .list ds,.int i=>gF ds i
 | .tuple ds,.int i=>gF ds i
 |_,_=>none
theorem aC.gF{i:Int}(r:aC K H Av vs ds)(h:L2.gF ds i=some d):∃v,L2.gF vs i=some v/\aP K H Av v d:=by
 unfold L2.gF at h ⊢;rw[r.length];obtain⟨j,e1,h⟩:=bind_some h;obtain⟨v,hv,rv⟩:=r.get h;exact⟨v,by rw[e1];exact hv,rv⟩
def cutD (ds:List Dat) (lo hi:Option Int):List Dat:=(ds.drop (HT.c7 ds.length 0 lo)).take (HT.c7 ds.length ds.length hi-HT.c7 ds.length 0 lo)
def Rk (K:Fg) (f:ax->Option (Option Int)):TO:=fun σ H Q=>∃Av ρ o,gO H Av/\fG K H Av σ ρ/\f ρ=some o/\∀H',aV H H'->Q o H'
abbrev T3 (X:Cx) (e:Option Expr) (f:ax->Option (Option Int)):Prop:=PO X e (Rk X.K f)
theorem Bq{o:Option Expr}{t t':TO}(h:PO X o t)(m:∀σ H Q,t' σ H Q->t σ H Q):PO X o t':=fun pins s σ H Q I q=>h pins s σ H Q I (m σ H Q q)
def nt:Dat->Option Int
 | .int i=>some i
 |_=>none
theorem pX{b:Int}(h:nt d=some b):d=.int b:=by
 cases d<;>first|(cases h;done)|(simp only[nt,Option.some.injEq]at h;rw[h])
def nN:ax->Option (Option Int):=fun _=>some none
def mf (f:ax->Option Dat):ax->Option (Option Int):=fun ρ=>(f ρ).bind fun d=>(nt d).map some
def gi (bg:List (Option Nat)) (ρ:ax):ax:=bg.map fun o=>o.bind fun j=>(ρ[j]?).join
def c8 (gt:Dat->Option dk) (ft:ax->Option Bool) (fe:ax->Option Dat) (qr:ax):List Dat->Option (List Dat)
 |[]=>some []
 |d::r=>(gt d).bind fun as=>(ft (l7 qr as)).bind fun c=>if c=true then(fe (l7 qr as)).bind fun v=>(c8 gt ft fe qr r).map (v::·)else c8 gt ft fe qr r
def nV (bg:List (Option Nat)) (gt:Dat->Option dk) (ft:ax->Option Bool) (fe:ax->Option Dat) (fi:ax->Option Dat):ax->Option (List Dat):=fun ρ=>(fi ρ).bind fun d=>(cM d).bind fun ds=>if ds.length<sizeLine then c8 gt ft fe (gi bg ρ) ds else none
theorem fG.bg{σ:L2.St}(h:fG K H Av σ ρ)(bg:List (Option Nat)):fG K H Av (cJ bg σ) (gi bg ρ):=fun i d e=>by
 unfold gi at e;rw[getElem?_map]at e;cases hc:bg[i]? with
 |none=>rw[hc]at e;cases e
 |some o=>
  rw[hc]at e;cases o with
  |none=>cases e
  |some j=>
   have e2:some ((ρ[j]?).join)=some (some d):=e;obtain⟨v,hv,r⟩:=h j d (join_some (Option.some.inj e2));refine⟨v,?_,r⟩;unfold cJ;rw[getElem?_map,hc];show some ((σ[j]?).join)=_;rw[hv];rfl
theorem fG.j4{σ:L2.St}(h:kQ K H Av ws as)(hl:σ.length=ρ.length)(E:fG K H Av σ ρ):fG K H Av (pd σ ws) (l7 ρ as):=by
 induction h generalizing σ ρ with
 |nil=>exact E
 | @cons i v d vs ds h r ih=>
  refine ih (σ:=σ.set i (some v)) (ρ:=ρ.set i (some d)) (by rw[length_set,length_set];exact hl) fun j d' e=>?_;have fq:=fW e;rw[length_set]at fq;rcases aU e with⟨e1,q⟩|⟨e1,q⟩
  ·subst e1;cases q;exact⟨v,getElem?_set_self (by rw[hl];exact fq),h⟩
  ·obtain⟨u,a,b⟩:=E j d' q;exact⟨u,by rw[getElem?_set_ne (Ne.symm e1)];exact a,b⟩
theorem fD.refl:∀(a:L2.St),fD a a
 |[]=>trivial
 |none::a=>fD.refl a
 |some v::a=>⟨rfl,fD.refl a⟩
theorem fD.set:∀{a b:L2.St} {i:Nat} {x:Option V},fD a b->a[i]?=some none->fD a (b.set i x)
 |none::a,_::b,0,x,h,_=>h
 |some v::a,_::b,0,x,h,e=>by simp at e
 |none::a,_::b,i+1,x,h,e=>fD.set (a:=a) (b:=b) (i:=i) h (by simpa using e)
 |some v::a,_::b,i+1,x,h,e=>⟨h.1,fD.set (a:=a) (b:=b) (i:=i) h.2 (by simpa using e)⟩
 |[],_,_,_,_,e=>by simp at e
 |none::_,[],_,_,h,_=>h.elim
 |some _::_,[],_,_,h,_=>h.elim
theorem fD.j4{a b:L2.St}(h:kQ K H Av ws as)(hs:∀p∈as,a[p.1]?=some none)(l:fD a b):fD a (pd b ws):=by
 induction h generalizing b with
 |nil=>exact l
 | @cons i v d vs ds h r ih=>exact ih (fun p hp=>hs p (mem_cons_of_mem _ hp)) (fD.set l (hs _ mem_cons_self))
def oz (gt:Dat->Option dk) (bg:List (Option Nat)):Prop:=∀d as,gt d=some as->∀p∈as,bg[p.1]?=some none
theorem dS{bg:List (Option Nat)}(h:bg[i]?=some none):oz (aName i) bg:=fun d as e p hp=>by
 cases e;have:p=(i,d):=by simpa using hp
 subst this;exact h
theorem B0{bg:List (Option Nat)}{fe fi:ax->Option Dat}(ht:oz gt bg):∀σ H Q,jG K (nV bg gt ft fe fi) σ H Q->uc bg (Of K (tF K fi)) (kA K gt) (nH K ft) (tF K fe) σ H Q:=by
 rintro σ H Q ⟨Av,ρ,out,hA,hE,hf,q⟩;obtain⟨d,e1,hf⟩:=bind_some hf;obtain⟨ds,e2,hf⟩:=bind_some hf;split at hf
 ·rename_i hz;refine⟨Av,ρ,d,hA,hE,e1,fun x H1 s1 r=>?_⟩;have main:∀J:It,Over K J x d ds->∃W:Nat->Nat->List V->Hp->Prop,(∃m,W 0 m [] H1)/\∀i m ys H,W i m ys H->ys.length<sizeLine/\
    ((J.stop i H/\∀D,H D=none->Q (.ref D) (upd H D (.lst ys)))\/
     (J.go i H/\∀x H',J.wQ i H x H'->kA K gt x (cJ bg σ) H' fun gn H2=>fD (cJ bg σ) gn/\nH K ft gn H2 fun b H3=>if b=true then tF K fe gn H3 fun v H4=>∃m',m'<m/\W (i+1) m' (ys++[v]) H4 else ∃m',m'<m/\W (i+1) m' ys H3)):=by
   intro J ov;refine⟨fun i m ys H2=>m=ds.length-i/\i<=ds.length/\aV H1 H2/\∃o1 o2,aC K H2 Av ys o1/\o1.length<=i/\c8 gt ft fe (gi bg ρ) (ds.drop i)=some o2/\out=o1++o2,
    ⟨_,rfl,zero_le _,aV.refl _,[],out,.nil,le_refl _,by rw[drop_zero];exact hf,rfl⟩,?_⟩
   rintro i m ys H2 ⟨rfl,hi,s2,o1,o2,ro,hl,hc,rfl⟩;refine⟨by have:=ro.length;omega,?_⟩;have rx:=r.same s2;cases iY:ds[i]? with
   |none=>
    have hle:ds.length<=i:=List.getElem?_eq_none_iff.mp iY;rw[drop_eq_nil_of_le hle]at hc;cases hc;refine .inl ⟨(ov i H2 _ rx).1 hle,fun D hD=>q H2 D ys (s1.trans s2) hD (by rw[append_nil];exact ro)⟩
   |some di=>
    have fq:=fW iY;rw[drop_cons iY]at hc;obtain⟨as,a1,hc⟩:=bind_some (show(gt di).bind _=some o2 from hc);obtain⟨k,a2,hc⟩:=bind_some hc;obtain⟨go,yl⟩:=(ov i H2 _ rx).2 di iY;refine .inr ⟨go,fun y H' hy=>?_⟩;obtain⟨eH,ry⟩:=yl y H' hy;subst eH;refine⟨Av,di,as,ry,a1,fun ws hw=>?_⟩;have cs:∀p∈as,(cJ bg σ)[p.1]?=some none:=fun p hp=>by
     unfold cJ;rw[getElem?_map,ht di as a1 p hp];rfl
    have A2:=hA.same (s1.trans s2);have E2:fG K H' Av (pd (cJ bg σ) ws) (l7 (gi bg ρ) as):=fG.j4 hw (by unfold cJ gi;rw[length_map,length_map]) ((hE.same (s1.trans s2)).bg bg);refine⟨fD.j4 hw cs (fD.refl _),Av,_,k,A2,E2,a2,fun H3 s3=>?_⟩;cases k with
    |false=>
     rw[if_neg Bool.false_ne_true]at hc ⊢;exact⟨ds.length-(i+1),by omega,rfl,by omega,s2.trans s3,o1,o2,ro.same s3,by omega,hc,rfl⟩
    |true=>
     rw[if_pos rfl]at hc ⊢;obtain⟨dv,a3,hc⟩:=bind_some hc;obtain⟨o3,a4,hc⟩:=bj hc;subst hc;refine⟨Av,_,dv,A2.same s3,E2.same s3,a3,fun v H4 s4 rv=>⟨ds.length-(i+1),by omega,rfl,by omega,s2.trans (s3.trans s4),o1++[dv],o3,(ro.same (s3.trans s4)).append (.cons rv .nil),?_,a4,?_⟩⟩
     ·rw[length_append,length_singleton];omega
     ·rw[append_assoc];rfl
  cases d with
  |list f9=>
   cases e2;obtain⟨a,xs,rfl,hq,rs⟩:=r.fY;exact⟨a,rfl,.inl ⟨⟨xs,hq.sq⟩,main _ qT⟩⟩
  |tuple f9=>
   cases e2;obtain⟨a,xs,rfl,hq,rs⟩:=r.fz;exact⟨a,rfl,.inr ⟨⟨xs,hq.sq⟩,main _ tq⟩⟩
  |_=>cases e2
 ·cases hf
def fL (f:ax->Option (List Dat)):ax->Option Dat:=fun ρ=>(f ρ).map .list
def gu:ax->Option Bool:=fun _=>some true
open PySem PySem.Spec PyProof.Rows L2
open PySem.W (Dat kqdOk)
variable {fs:ax->Option (List Dat)} in
def Hu (i j:Nat) (fs:ax->Option (List Dat)):aG->Option Fl:=fun Γ=>(fs (bx Γ)).bind fun ds=>match ds with
 |[d,d']=>some (.nx ((Γ.set i (some (.a7 d))).set j (some (.a7 d'))))
 |_=>none
variable {scope:Scope} {N':List Str}
theorem ky(hf:∀y∈scope.names,y.2≠.free:=by decide +kernel)(hc:∀y∈scope.names,y.2≠.cell:=by decide +kernel)(hk:scope.kind=.function:=by rfl)(hn:∀y∈scope.names,y.2=.local->scope.names.lookup y.1=some .local:=by decide +kernel)(nd:N'.Nodup:=by decide +kernel):sV X scope [] N' (N'.map fun _=>none):=by
 have rl:(relabel scope X.env).names=scope.names:=by
  unfold relabel;exact map_eq_self (l:=scope.names) fun x hx=>by
   obtain⟨n,k⟩:=x;have:(k==NameKind.free)=false:=by simpa using hf _ hx
   simp[this]
 refine⟨closureFor_none hf,hc,hk,hn,nd,by rw[length_map],fun x c h=>(by cases h),fun x h=>?_,fun i x j e1 e2=>?_⟩
 ·rw[rl]at h;rcases h with h|h
  ·exact absurd rfl (hc _ (PySem.mem_of_lookup h))
  ·exact absurd rfl (hf _ (PySem.mem_of_lookup h))
 ·rw[getElem?_map]at e2;cases h:N'[i]? with
  |none=>rw[h]at e2;cases e2
  |some y=>rw[h]at e2;cases e2
def yc (K:Fg):Sp:=fun vs H Q _=>∃(a:Addr) (ns:List Int),vs=[.ref a]/\fR K H a (ns.map V.int)/\ns.length<=63/\∀H',Q (.bl true) H'
variable {k:Nat}
theorem O6{f:Addr}(h:gJ P w K mg base jy k f fd ps (Eh K 1 F))(hF:∀ns:List Int,ns.length<=63->F [.list (ns.map .int)]=some (.bool true)):gJ P w K mg base jy k f fd ps (yc K):=
 h.imp fun vs H Q E aQ=>by
  obtain⟨a,ns,e,hS,hl,q⟩:=aQ;subst e;refine⟨fun _=>False,[.list (ns.map .int)],.bool true,fun _ z=>z.elim,.cons (.lst ?_ (aC.ints ns)) .nil,rfl,hF ns hl,fun v H' _ r=>by rw[r.gD];exact q H'⟩;rcases hS with h|h
  ·exact .inl ⟨h,fun z=>z⟩
  ·exact .inr h
theorem Qc{l:PySem.W.OpenLaw}{q:Program}{loose:List Str}{XP:(Str->Option Value)->Heap->Prop}{YP:World->Heap->Prop}{d:DefRec}{K:Params->Fg}(hk:k<=100)(hn:l.most=some 63)(zQ:d.params.defaults=[])(hY:∀(w:World) (h:Heap),YP w h->(K w.params).In h)(F:∀(w:World) (mg:Str->Option Value) (fa:Addr) (h:Heap),(K w.params).In h->h.Ns mainGlobals mg->mg d.name=some (.ref fa)->
   ∃fd:FuncData,(∀(s:Shared) (u:Value),BindsTo s fd ⟨[u],[]⟩ [("script",u)])/\∀base:Heap,(K w.params).In base->base.Ns mainGlobals mg->gJ l.prog w (K w.params) mg base jy 100 fa fd ["script"] (yc (K w.params))):
  PySem.W.WalkO q loose XP YP l.row.toRowW d [] (fun f vs=>PySem.call f vs):=
 L2.KU (n:=63) (k:=100) (x:="script") (CX:=fun _=>jy) (sp:=fun w=>yc (K w.params)) hn (by decide) zQ ⟨rfl,by decide,by decide⟩ hY F (fun _ _ a ns hl _ hS=>⟨a,ns,rfl,hS,hl,fun _=>rfl⟩) fun _ _ _ _ _ z=>z
open PySem PySem.Spec PyProof.Rows L2
open PySem.W (Dat kqdOk)
def JK (K:Fg):R2:=fun x y H Q=>∃l b xs zs,x=.ref l/\y=.ref b/\fR K H l xs/\fR K H b zs/\xs.length+zs.length<=sizeLine/\∀p,H p=none->Q (.ref p) (upd H p (.lst (xs++zs)))
theorem By:dO X (binaryOp .Add) (JK X.K):=by
 intro pins s σ H x y v u Q I rx ry h;obtain⟨l,b,xs,zs,rfl,rfl,hH,hB,hz,q⟩:=h;cases rx;cases ry;obtain⟨ak,r,⟨⟨cls,dd,data,sl⟩,n,ho,hc,S4,hd⟩,_⟩:=I.list hH;obtain⟨jB,r2,⟨⟨V4,GC,data2,El⟩,n2,rn,zT,hd02,hd2⟩,_⟩:=I.list hB;simp only at hc hd zT hd2;subst hc hd zT hd2;have h1:=r.length;have h2:=r2.length;have e:ak.toArray++jB.toArray=(ak++jB).toArray:=by simp
 refine PySem.concat_meets ⟨_,ho,rfl⟩ ⟨_,rn,rfl⟩ PySem.noFill_list_add PySem.seq_list_add PySem.F.slot_list_add PySem.F.entry_list_add (PySem.F.args_list_add_2 _ _) (list_addW l b ak.toArray jB.toArray n n2 dd GC sl El (by rw[size_toArray,size_toArray];omega)) ⟨ho,rn,?_⟩;rw[e];exact⟨.ref _,_,I.O0 (t':=s.toks) (r.append r2) (by rw[length_append];omega),rfl,q _ I.fresh⟩
open PySem PySem.Spec PyProof.Rows L2
open PySem.W (Dat kqdOk)
def nK (i:Nat) (f:ax->Option (List Dat)):aG->Option Fl:=fun Γ=>(f (bx Γ)).map fun ds=>.nx (Γ.set i (some (.a7 (.list ds))))
theorem xo{f:Str->Addr}:∀{fv:List Str} {y:Str},y∈fv->(fv.map fun x=>(x,f x)).lookup y=some (f y)
 |x::r,y,h=>by
  rw[map_cons,List.lookup_cons];by_cases e:y=x
  ·subst e;simp
  ·have:(y==x)=false:=by simpa using e
   rw[this];exact xo (by simpa [e]using h)
theorem qU{f:Str->Addr}:∀{fv:List Str} {y:Str} {c:Addr},(fv.map fun x=>(x,f x)).lookup y=some c->y∈fv/\c=f y
 |[],y,c,h=>by simp at h
 |x::r,y,c,h=>by
  rw[map_cons,List.lookup_cons]at h;by_cases e:y=x
  ·subst e;simp at h;exact⟨mem_cons_self,h.symm⟩
  ·have:(y==x)=false:=by simpa using e
   rw[this]at h;obtain⟨h1,h2⟩:=qU h;exact⟨mem_cons_of_mem _ h1,h2⟩
theorem fB{tn fv:List Str}{js:List Nat}(sM:closureFor scope X.env=pure (fv.map fun x=>(x,(X.env.cells.lookup x).getD 0)))(hf:∀y∈scope.names,y.2=.free->y.1∈fv)(hc:∀y∈scope.names,y.2≠.cell)(hk:scope.kind=.function)(hn:∀y∈scope.names,y.2=.local->scope.names.lookup y.1=some .local)(nd:(tn++fv).Nodup)(hl:fv.length=js.length)(hs:∀x∈fv,∃c,X.env.cells.lookup x=some c)(hj:∀p∈fv.zip js,X.N[p.2]?=some p.1/\nA X.env.scope p.1/\((relabel scope X.env).names.lookup p.1=some .cell\/(relabel scope X.env).names.lookup p.1=some .free)/\X.env.scope.names.lookup p.1≠some .local):
  sV X scope (fv.map fun x=>(x,(X.env.cells.lookup x).getD 0)) (tn++fv) ((tn.map fun _=>none)++js.map some):=by
 refine⟨sM,hc,hk,hn,nd,by rw[length_append,length_append,length_map,length_map,hl],fun y c h=>?_,fun y h=>?_,fun i x j e1 e2=>?_⟩
 ·obtain⟨h1,h2⟩:=qU h;obtain⟨c',e⟩:=hs y h1;rw[h2,e];rfl
 ·have hm:(y,NameKind.cell)∈(relabel scope X.env).names\/(y,NameKind.free)∈(relabel scope X.env).names:=h.elim (fun z=>.inl (PySem.mem_of_lookup z)) fun z=>.inr (PySem.mem_of_lookup z);have:y∈fv:=by
   rcases hm with hm|hm;all_goals
    obtain⟨⟨n,k⟩,hp,e⟩:=mem_map.mp hm;dsimp only at e;split at e
    ·rename_i QV;have hk:k=.free:=by
      cases k<;>first|rfl|(simp at QV)
     first
      |(cases e;done)
      |(cases e;exact hf _ hp hk)
    ·first
      |(cases e;done)
      |(cases e;exact absurd rfl (hc _ hp))
      |(cases e;exact hf _ hp rfl)
  exact⟨_,xo this⟩
 ·by_cases hi:i<tn.length
  ·rw[getElem?_append_left (by rw[length_map];exact hi),getElem?_map,getElem?_eq_getElem hi]at e2;cases e2
  ·rw[getElem?_append_right (by omega)]at e1;rw[getElem?_append_right (by rw[length_map];omega),length_map,getElem?_map]at e2;cases ej:js[i-tn.length]? with
   |none=>rw[ej]at e2;cases e2
   |some j'=>
    rw[ej]at e2;cases e2;refine hj (x,j) ?_;have h1:=(List.getElem?_eq_some_iff.mp e1);have h2:=(List.getElem?_eq_some_iff.mp ej);have h3:(fv.zip js)[i-tn.length]?=some (x,j):=by rw[List.getElem?_zip_eq_some];exact⟨e1,ej⟩
    exact mem_of_getElem? h3
open PySem PySem.Spec PyProof.Rows L2
open PySem.W (Dat kqdOk)
def lE:Dat->Bool
 | .none=>true| .bool _=>true| .int _=>true| .str _=>true
 |_=>false
def Cd:Dat->Dat->Bool
 | .none,.none=>true
 | .bool a,.bool b=>a==b
 | .bool a,.int b=>(if a then 1 else 0)==b
 | .int a,.bool b=>a==(if b then 1 else 0)
 | .int a,.int b=>a==b
 | .str a,.str b=>a==b
 |_,_=>false
theorem aP.flat(r:aP K H Av v d)(h:lE d=true):lD v=true:=by
 cases r<;>first|rfl|cases h
theorem aP.Cd{u:V}{e:Dat}(r:aP K H Av v d)(q:aP K H Av u e)(h:lE d=true)(k:lE e=true):ve v u=L3.Cd d e:=by
 cases r<;>cases q<;>first|rfl|cases h|cases k
theorem aC.flat{K:Fg}{H:Hp}{Av:gg}:∀{vs:List V} {ds:List Dat},aC K H Av vs ds->ds.all lE=true->vs.all lD=true
 |_,_,.nil,_=>rfl
 |_,_,.cons r t,h=>by
  simp only[all_cons,and_eq_true]at h ⊢;exact⟨r.flat h.1,t.flat h.2⟩
theorem aC.Od{K:Fg}{H:Hp}{Av:gg}{x:V}{dx:Dat}(rx:aP K H Av x dx)(hx:lE dx=true):∀{vs:List V} {ds:List Dat},aC K H Av vs ds->ds.all lE=true->zD x vs=ds.any fun y=>Cd y dx
 |_,_,.nil,_=>rfl
 |_,_,.cons r t,h=>by
  simp only[all_cons,and_eq_true]at h;unfold zD;rw[any_cons,any_cons,r.Cd rx h.1 hx];have:=aC.Od rx hx t h.2;unfold zD at this;rw[this]
def RO:Dat->Dat->Option Bool:=fun x y=>match y with
 | .list ds=>if lE x=true/\ds.all lE=true then some (ds.any fun z=>Cd z x)else none
 | .tuple ds=>if lE x=true/\ds.all lE=true then some (ds.any fun z=>Cd z x)else none
 | .str j=>match x with
  | .str i=>some (!(Builtin.Str.occurrences j i 0 j.length 1).isEmpty)
  |_=>none
 |_=>none
def inD:Dat->Dat->Option Dat:=fun x y=>(RO x y).map .bool
theorem NJ:kR K (fun x y H Q=>Ru K false x y H Q\/(∃i j,x=.str i/\y=.str j/\Q (.bl (!(Builtin.Str.occurrences j i 0 j.length 1).isEmpty)) H)) inD:=by
 intro H Av x y dx dy d Q hA rx ry h q;obtain⟨k,e1,rfl⟩:=bj h;unfold RO at e1;split at e1
 ·split at e1
  ·rename_i ds hc;cases e1;obtain⟨p,xs,rfl,hq,rs⟩:=ry.fY;refine .inl ⟨p,xs,rfl,.inl hq.sq,rx.flat hc.1,rs.flat hc.2,?_⟩;show Q (.bl (zD x xs)) H;rw[aC.Od rx hc.1 rs hc.2];exact q _ H (aV.refl H) (.bl _)
  ·cases e1
 ·split at e1
  ·rename_i ds hc;cases e1;obtain⟨p,xs,rfl,hq,rs⟩:=ry.fz;refine .inl ⟨p,xs,rfl,.inr hq.sq,rx.flat hc.1,rs.flat hc.2,?_⟩;show Q (.bl (zD x xs)) H;rw[aC.Od rx hc.1 rs hc.2];exact q _ H (aV.refl H) (.bl _)
  ·cases e1
 ·split at e1
  ·cases e1;exact .inr ⟨_,_,rx.iS,ry.iS,q _ H (aV.refl H) (.bl _)⟩
  ·cases e1
 ·cases e1
def pI:Dat->Bool
 | .none=>true
 |_=>false
theorem aP.NO(r:aP K H Av v d):decide (v=.bR)=pI d:=by cases r<;>rfl
theorem LJ:kR K (fun x y H Q=>y=.bR/\Q (.bl (decide (x=.bR))) H) (fun x y=>if pI y=true then some (.bool (pI x))else none):=by
 intro H Av x y dx dy d Q hA rx ry h q;dsimp only at h;split at h
 ·rename_i hy;cases h;have e:dy=.none:=by cases dy<;>first|rfl|cases hy
  subst e;exact⟨ry.JX,by rw[rx.NO];exact q _ H (aV.refl H) (.bl _)⟩
 ·cases h
theorem zh:kR K (fun x y H Q=>y=.bR/\Q (.bl (!decide (x=.bR))) H) (fun x y=>if pI y=true then some (.bool (!pI x))else none):=by
 intro H Av x y dx dy d Q hA rx ry h q;dsimp only at h;split at h
 ·rename_i hy;cases h;have e:dy=.none:=by cases dy<;>first|rfl|cases hy
  subst e;exact⟨ry.JX,by rw[rx.NO];exact q _ H (aV.refl H) (.bl _)⟩
 ·cases h
def lS:Dat->Dat->Option Dat:=fun x y=>if pI y=true then some (.bool (pI x))else none
def mj:Dat->Dat->Option Dat:=fun x y=>if pI y=true then some (.bool (!pI x))else none
def uO:List Dat->Option (List Dat)
 |[.list ds]=>some ds
 |[.tuple ds]=>some ds
 |_=>none
def iB:List Dat->Option Dat
 |[.list ds]=>some (.tuple ds)
 |[.tuple ds]=>some (.tuple ds)
 |_=>none
theorem sR:lH K (fun xs H Q=>∃p ys,xs=[.ref p]/\((fR K H p ys/\∀l,H l=none->Q (.ref l) (upd H l (.tup ys)))\/(jv K H p ys/\Q (.ref p) H))) iB:=by
 intro H Av xs ds d Q hA r h q;unfold iB at h;split at h
 ·cases h;obtain⟨v,rfl,rv⟩:=r.dZ;obtain⟨p,xs,rfl,hq,rs⟩:=rv.fY;exact⟨p,xs,rfl,.inl ⟨hq.sq,fun l hl=>q _ _ (bZ hl _) (.tw hA hl rs)⟩⟩
 ·cases h;obtain⟨v,rfl,rv⟩:=r.dZ;have Eo:=rv;obtain⟨p,xs,rfl,hq,rs⟩:=rv.fz;exact⟨p,xs,rfl,.inr ⟨hq.sq,q _ H (aV.refl H) Eo⟩⟩
 ·cases h
open PySem PySem.Spec PyProof.Rows L2
open PySem.W (Dat kqdOk)
def ModT (K:Fg) (a:Addr) (ds:List Dat):Prop:=∃(xs:List V) (o:Obj) (ak:Array Value) (n:Nat),K.lookup a=some o/\o.cls=.type "tuple"/\o.data=.seq ak n/\ak.size<=sizeLine/\Vals xs ak.toList/\∀H Av,aC K H Av xs ds
open PySem PySem.Spec PyProof.Rows L2
open PySem.W (Dat kqdOk)
theorem aX.set_own(hi:Γ[i]?=some (some (.own ds))):∀a,aX Av (Γ.set i (some (.own es))) ad a->aX Av Γ ad a:=by
 rintro a (z|⟨j,fs,e,m,q⟩)
 ·exact .inl z
 ·rcases aU e with⟨e1,_⟩|⟨e1,q1⟩
  ·subst e1;exact .inr ⟨j,_,hi,rfl,q⟩
  ·exact .inr ⟨j,fs,q1,m,q⟩
theorem aX.me(hi:Γ[i]?=some (some (.own ds))):∀a,aX Av Γ ad a->aX Av (Γ.set i (some (.own es))) ad a:=by
 rintro a (z|⟨j,fs,e,m,q⟩)
 ·exact .inl z
 ·by_cases e1:j=i
  ·subst e1;exact .inr ⟨j,.own es,getElem?_set_self (fW hi),rfl,q⟩
  ·exact .inr ⟨j,fs,by rw[getElem?_set_ne (Ne.symm e1)];exact e,m,q⟩
theorem Im(hi:Γ[i]?=some (some (.own ds)))(k:∀b o,H b=some o->b≠ad i->H' b=some o):lW H (aX Av Γ ad) H' (aX Av (Γ.set i (some (.own es))) ad):=
 fun b o h n=>⟨k b o h fun z=>n (.inr ⟨i,_,hi,rfl,z.symm⟩),fun z=>n (aX.set_own hi b z)⟩
variable {ys:List V}
theorem GA.lend(G:GA K aj Av pn aK H σ Γ ad)(hi:Γ[i]?=some (some (.own ds)))(k:∀b o,H b=some o->b≠ad i->H' b=some o)(hn:H' (ad i)=some (.lst ys))(r:aC K H' (aX Av Γ ad) ys es):
  GA K aj Av pn aK H' σ (Γ.set i (some (.own es))) ad:=by
 have fq:i<Γ.length:=fW hi;have kp:=Im (Av:=Av) (es:=es) hi k;obtain⟨MH,g1,g2,g3,g4⟩:=G.own i ds hi;refine⟨fun b o h=>k b o (G.same b o h) (bz h g4),G.jP,by rw[length_set];exact G.len,fun j d' h=>?_,fun j fs h=>?_,fun j l fs gs h1 h2 m1 m2 e=>?_,fun p hp=>(G.aK p hp).mono kp,fun a fs e h=>?_,fun j O fs h=>?_⟩
 ·rcases aU h with⟨_,q⟩|⟨_,q⟩
  ·cases q
  ·obtain⟨u,a,b⟩:=G.a7 j d' q;exact⟨u,a,b.mono kp⟩
 ·rcases aU h with⟨e,q⟩|⟨e,q⟩
  ·subst e;cases q;exact⟨ys,g1,hn,r.weak (aX.set_own hi),g4⟩
  ·obtain⟨zs,a,b,c,e'⟩:=G.own j fs q;exact⟨zs,a,k _ _ b fun z=>e (G.Oc j i fs ds q hi z),c.mono kp,e'⟩
 ·rcases aU h1 with⟨e1,q1⟩|⟨e1,q1⟩
  ·rcases aU h2 with⟨e2,q2⟩|⟨e2,q2⟩
   ·rw[e1,e2]
   ·subst e1;exact G.inj j l _ gs hi q2 rfl m2 e
  ·rcases aU h2 with⟨e2,q2⟩|⟨e2,q2⟩
   ·subst e2;exact G.inj j l fs _ q1 hi m1 rfl e
   ·exact G.inj j l fs gs q1 q2 m1 m2 e
 ·rcases aU h with⟨z,_⟩|⟨_,q⟩
  ·subst z;exact G.pin a ds e hi
  ·exact G.pin a fs e q
 ·rcases aU h with⟨e,q⟩|⟨e,q⟩
  ·cases q
  ·obtain⟨zs,a,b,c,e'⟩:=G.obj j O fs q;exact⟨zs,a,k _ _ b fun z=>e (G.inj j i _ _ q hi rfl rfl z),c.mono kp,e'⟩
abbrev HF:=aG->Option (Dat×aG)
def tH (K:Fg) (f:HF):TE:=fun σ H Q=>∃aj Av pn aK Γ ad d ah,GA K aj Av pn aK H σ Γ ad/\f Γ=some (d,ah)/\∀v H' j1,GA K aj Av pn aK H' σ ah j1->aP K H' (aX Av ah j1) v d->Q v H'
def Rj (K:Fg) (f:aG->Option (Bool×aG)):TT:=fun σ H Q=>∃aj Av pn aK Γ ad d ah,GA K aj Av pn aK H σ Γ ad/\f Γ=some (d,ah)/\∀H' j1,GA K aj Av pn aK H' σ ah j1->Q d H'
def MS (K:Fg) (f:aG->Option (List Dat×aG)):TA:=fun σ H Q=>∃aj Av pn aK Γ ad d ah,GA K aj Av pn aK H σ Γ ad/\f Γ=some (d,ah)/\∀vs H' j1,GA K aj Av pn aK H' σ ah j1->aC K H' (aX Av ah j1) vs d->Q vs H'
abbrev PH (X:Cx) (e:Expr) (f:HF):Prop:=PE X e (tH X.K f)
abbrev Yt (X:Cx) (e:Expr) (f:aG->Option (Bool×aG)):Prop:=PT X e (Rj X.K f)
abbrev Yu (X:Cx) (es:List Expr) (f:aG->Option (List Dat×aG)):Prop:=PA X es (MS X.K f)
def kK (f:ax->Option Dat):HF:=fun Γ=>match f (bx Γ)with
 |some d=>some (d,Γ)
 |none=>(f (bX Γ)).bind fun d=>if En d=true then some (d,Γ)else none
def h2 (g:Dat->Dat->Option Dat) (fa fb:HF):HF:=fun Γ=>(fa Γ).bind fun p=>(fb p.2).bind fun r=>(g p.1 r.1).map fun d=>(d,r.2)
variable {hb ha:HF} {r:R2} {g:Dat->Dat->Option Dat}
theorem ya(hr:kR K r g):∀σ H Q,tH K (h2 g ha hb) σ H Q->AX r (tH K ha) (tH K hb) σ H Q:=by
 rintro σ H Q ⟨aj,Av,pn,aK,Γ,ad,d,ah,G,hf,q⟩;obtain⟨⟨dx,Γ1⟩,e1,hf⟩:=bind_some hf;obtain⟨⟨dy,tX⟩,e2,hf⟩:=bind_some hf;obtain⟨d',e3,hf⟩:=bj hf;cases hf;refine⟨aj,Av,pn,aK,Γ,ad,dx,Γ1,G,e1,fun x H1 kN G1 r1=>⟨aj,Av,pn,(x,dx)::aK,Γ1,kN,dy,tX,G1.hide r1,e2,fun y H2 qk G2 r2=>?_⟩⟩;exact hr H2 (aX Av tX qk) x y dx dy _ Q G2.gE (G2.aK (x,dx) mem_cons_self) r2 e3 fun v H3 s3 r3=>q v H3 qk (G2.oC.grow s3) r3
theorem yV{op:Operator}(ho:dO X (binaryOp op) r)(hd:kR X.K r g)(pa:PH X a ha)(pb:PH X b hb):PH X (.BinOp a op b pos) (h2 g ha hb):=bh (yf ho pa pb) (ya hd)
theorem Nu{op:CmpOp}(ho:dO X (compareOp op) r)(hd:kR X.K r g)(pa:PH X a ha)(pb:PH X b hb)(hm:behindInMarks op b=false):PH X (.Compare a [op] [b] pos) (h2 g ha hb):=bh (Bs ho pa pb hm) (ya hd)
def v8 (f:HF):aG->Option (Bool×aG):=fun Γ=>(f Γ).bind fun p=>(lQ p.1).map fun k=>(k,p.2)
theorem Lw{op:CmpOp}(ho:dO X (compareOp op) r)(hd:kR X.K r g)(pa:PH X a ha)(pb:PH X b hb)(hm:behindInMarks op b=false):Yt X (.Compare a [op] [b] pos) (v8 (h2 g ha hb)):=rW (Bm ho pa pb hm) fun σ H Q aQ=>by
 obtain⟨aj,Av,pn,aK,Γ,ad,d,ah,G,hf,q⟩:=aQ;obtain⟨⟨dv,Γ1⟩,e1,hf⟩:=bind_some hf;obtain⟨k,e2,hf⟩:=bj hf;cases hf;have e3:=nv e2;subst e3;exact ya hd σ H _ ⟨aj,Av,pn,aK,Γ,ad,_,Γ1,G,e1,fun v H' j1 G' r=>⟨_,r.gD,q H' j1 G'⟩⟩
theorem NI:kR K (fun x y H Q=>Ng K x y H Q\/Nf K x y H Q) aO:=by
 intro H Av x y dx dy d Q hA rx ry h q;unfold aO at h;split at h
 ·obtain⟨p,xs,rfl,hq,rs⟩:=rx.fY;obtain⟨v,hv,rv⟩:=rs.gF h;exact .inl ⟨p,xs,_,v,rfl,ry.cN,hq.sq,hv,q v H (aV.refl H) rv⟩
 ·obtain⟨p,xs,rfl,hq,rs⟩:=rx.fz;obtain⟨v,hv,rv⟩:=rs.gF h;exact .inr ⟨p,xs,_,v,rfl,ry.cN,hq.sq,hv,q v H (aV.refl H) rv⟩
 ·cases h
def tL:aG->Option (List Dat×aG):=fun Γ=>some ([],Γ)
def pR (f:HF) (g:aG->Option (List Dat×aG)):aG->Option (List Dat×aG):=fun Γ=>(f Γ).bind fun p=>(g p.2).map fun r=>(p.1::r.1,r.2)
def IE (g:aG->Option (List Dat×aG)):HF:=fun Γ=>(g Γ).bind fun p=>if p.1.length<=sizeLine then some (.tuple p.1,p.2)else none
def v9 (g:List Dat->Option Dat) (fs:aG->Option (List Dat×aG)):HF:=fun Γ=>(fs Γ).bind fun p=>(g p.1).map fun d=>(d,p.2)
variable {hs:aG->Option (List Dat×aG)}
theorem L7{r:List V->Hp->VK->Prop}{g:List Dat->Option Dat}(hr:lH K r g):∀σ H Q,tH K (v9 g hs) σ H Q->JB r (MS K hs) σ H Q:=by
 rintro σ H Q ⟨aj,Av,pn,aK,Γ,ad,d,ah,G,hf,q⟩;obtain⟨⟨ds,Γ1⟩,e1,hf⟩:=bind_some hf;obtain⟨d',e2,hf⟩:=bj hf;cases hf;exact⟨aj,Av,pn,aK,Γ,ad,ds,Γ1,G,e1,fun xs H1 kN G1 r1=>hr H1 _ xs ds _ Q G1.gE r1 e2 fun v H2 s2 r2=>q v H2 kN (G1.grow s2) r2⟩
variable {es:List Expr} {p:Pos}
theorem EM{r:List V->Hp->VK->Prop}{g:List Dat->Option Dat}(hc:jt X (.type T) r)(hd:lH X.K r g)(hm:X.mg x=none)(pa:Yu X (e::es) hs)(hg:Gl X x:=by rfl)(hv:bootBuiltins x=some (.type T):=by rfl)(hn:x≠"__name__":=by decide)(iI:(x==("__debug__" : Str))=false:=by decide)(he:starEach (e::es) X.env=(false,eval e X.env)::starEach es X.env:=by rfl)(dB:(backTo pos (starEach es X.env)).any (·.1)=false:=by rfl):PH X (.Call (.Name x p) (e::es) [] pos) (v9 g hs):=bh (nM hc hg hm hv pa hn iI he dB) (L7 hd)
def OQ (n:Nat) (F:List Dat->Option Dat) (fs:aG->Option (List Dat×aG)):HF:=fun Γ=>(fs Γ).bind fun p=>if p.1.length=n then(F p.1).map fun d=>(d,p.2)else none
def Vs (K:Fg) (n:Nat) (F:List Dat->List Dat->Option (Dat×List Dat)):Sp:=fun vs H Q _=>∃Av a ws xs ds es d f9,vs=.ref a::ws/\gO H Av/\Av a/\H a=some (.lst xs)/\aC K H Av xs ds/\aC K H Av ws es/\es.length+1=n/\F ds es=some (d,f9)/\
 ∀v H' ys,(∀b o,H b=some o->b≠a->H' b=some o)->H' a=some (.lst ys)->aC K H' Av ys f9->aP K H' Av v d->Q v H'
structure jS (P:Program) (w:World) (K:Fg) (mg:Str->Option Value) (base:Heap) (k:Nat) (x:Str) (ps:List Str) (n:Nat) (F:List Dat->List Dat->Option (Dat×List Dat)):Prop where
 ex:∃(f:Addr) (fd:FuncData),gJ P w K mg base jy k f fd ps (Vs K n F)/\mg x=some (.ref f)/\keepIn K (.ref f)=true/\Binds K fd ps []
variable {j:Nat}
theorem jS.up{F:List Dat->List Dat->Option (Dat×List Dat)}(D:jS P w K mg base j x ps n F)(h:j<=k):jS P w K mg base k x ps n F:=by
 obtain⟨f,fd,h1,h2⟩:=D.ex;exact⟨f,fd,h1.mono h,h2⟩
def rz (i n:Nat) (F:List Dat->List Dat->Option (Dat×List Dat)) (fs:aG->Option (List Dat×aG)):HF:=fun Γ=>match Γ[i]? with
 |some (some (.own _))=>(fs Γ).bind fun p=>match p.2[i]? with
  |some (some (.own ds))=>if p.1.length+1=n then(F ds p.1).map fun r=>(r.1,p.2.set i (some (.own r.2)))else none
  |_=>none
 |_=>none
def startM (N:List Str) (ds es:List Dat):aG:=some (.own ds)::(es.map (fun d=>some (.a7 d))++List.replicate (N.length-(es.length+1)) none)
theorem Gg{a:Addr}{ws:List V}{es:List Dat}(hA:gO H Av)(ha:Av a)(hx:H a=some (.lst xs))(rx:aC K H Av xs ds)(qG:aC K H Av ws es):
  GA K (fun b=>if b=a then none else H b) (fun b=>Av b/\b≠a) (some a) [] H (start N (.ref a::ws)) (startM N ds es) (fun _=>a):=by
 have pE:∀(i:Nat) (s:Slot),(startM N ds es)[i+1]?=some (some s)->s.mt=false:=fun i s h=>by
  unfold startM at h;rw[getElem?_cons_succ]at h;by_cases hi:i<es.length
  ·rw[getElem?_append_left (by rw[length_map];exact hi),getElem?_map,getElem?_eq_getElem hi]at h;cases h;rfl
  ·rw[getElem?_append_right (by rw[length_map];omega),getElem?_replicate]at h;split at h<;>cases h
 have wk:∀b,aX (fun b=>Av b/\b≠a) (startM N ds es) (fun _=>a) b->Av b:=by
  rintro b (z|⟨i,fs,_,_,rfl⟩)
  ·exact z.1
  ·exact ha
 refine⟨fun b o h=>?_,fun b z=>?_,?_,fun i d h=>?_,fun i fs h=>?_,fun i j fs gs h1 h2 m1 m2 _=>?_,fun p hp=>absurd hp (by simp),(fun a' fs e _=>by cases e;rfl),fun i O fs h=>?_⟩
 ·split at h
  ·cases h
  ·exact h
 ·obtain⟨o,e⟩:=hA b z.1;exact⟨o,by rw[if_neg z.2];exact e⟩
 ·unfold L2.start startM;simp only[map_cons,cons_append,length_cons,length_append,length_map,length_replicate,qG.length]
 ·cases i with
  |zero=>cases h
  |succ i=>
   unfold startM at h;rw[getElem?_cons_succ]at h;by_cases hi:i<es.length
   ·rw[getElem?_append_left (by rw[length_map];exact hi),getElem?_map,getElem?_eq_getElem hi]at h;cases h;obtain⟨v,hv,rv⟩:=qG.get (getElem?_eq_getElem hi);refine⟨v,?_,rv.weak wk⟩;unfold L2.start;rw[map_cons,cons_append,getElem?_cons_succ,getElem?_append_left (by rw[length_map,qG.length];exact hi),getElem?_map,hv];rfl
   ·rw[getElem?_append_right (by rw[length_map];omega),getElem?_replicate]at h;split at h<;>cases h
 ·cases i with
  |zero=>cases h;exact⟨xs,rfl,hx,rx.weak wk,by rw[if_pos rfl]⟩
  |succ i=>exact absurd (pE i _ h) (by simp[Slot.mt])
 ·cases i with
  |succ i=>exact absurd (pE i _ h1) (by rw[m1];decide)
  |zero=>
   cases j with
   |succ j=>exact absurd (pE j _ h2) (by rw[m2];decide)
   |zero=>rfl
 ·cases i with
  |zero=>cases h
  |succ i=>exact absurd (pE i _ h) (by simp[Slot.mt])
def runM (N:List Str) (g:aG->Option Fl) (ds es:List Dat):Option (Dat×List Dat):=match g (startM N ds es)with
 |some (.rm d ah)=>match (ah[0]? : Option (Option Slot))with
  |some (some (.own f9))=>some (d,f9)
  |_=>none
 |_=>none
variable {g:aG->Option Fl}
theorem P8{F:List Dat->List Dat->Option (Dat×List Dat)}(U:nZ K x qual st fa fd)(hm:mg x=some (.ref fa))(hB:Binds K fd ps [])(S:gk N ps (ba st))(hn:ps.length=n)(hbody:∀(bG:Value) (A:Around) (outer:List Env) (s:Shared) (H:Hp) (E:XK),cA k (A.deeper (envOfC qual (ba st) s.heap.objs.size fa bG))->PK (k6 jy P w K mg base N qual (ba st) fa bG A outer s H E).oK (dw st) g)(hF:∀ds es d f9,es.length+1=n->F ds es=some (d,f9)->runM N g ds es=some (d,f9)):jS P w K mg base (k+1) x ps n F:=by
 refine⟨fa,fd,U.ok S (fun vs H Q E h=>?_) (fun bG A outer s H vs Q E hr h=>?_),hm,U.kp,hB⟩
 ·obtain⟨Av,a,ws,xs,ds,es,d,f9,rfl,_,_,_,_,r,hl,_⟩:=h;rw[length_cons,r.length,hl,hn]
 ·obtain⟨Av,a,ws,xs,ds,es,d,f9,rfl,hA,ha,hx,rx,qG,hl,hd,q⟩:=h;have ey:=hF ds es d f9 hl hd;unfold runM at ey;refine⟨_,hbody bG A outer s H E hr,?_⟩;split at ey
  ·rename_i d1 Γ1 hg;split at ey
   ·rename_i ds1 h0;cases ey;refine⟨_,_,some a,[],startM N ds es,_,⟨_,Gg hA ha hx rx qG⟩,hg,fun bI v H' j1 G' rv=>?_⟩;obtain⟨ys,y1,y2,y3,y4⟩:=G'.own 0 _ h0;have ea:j1 0=a:=G'.pin a _ rfl h0;have wk:∀b,Av b->aX (fun b=>Av b/\b≠a) Γ1 j1 b:=fun b z=>by
     by_cases eb:b=a
     ·exact .inr ⟨0,_,h0,rfl,ea.trans eb.symm⟩
     ·exact .inl ⟨z,eb⟩
    exact q v H' ys (fun b o h ne=>G'.same b o (by rw[if_neg ne];exact h)) (by rw[<- ea];exact y2) (y3.weak wk) (rv.weak wk)
   ·cases ey
  ·cases ey
def uk (i:Nat) (f:HF):aG->Option Fl:=fun Γ=>(f Γ).map fun p=>.nx (p.2.set i (some (.a7 p.1)))
def CL (gt:Dat->Option dk) (f:HF):aG->Option Fl:=fun Γ=>(f Γ).bind fun p=>(gt p.1).map fun as=>.nx (setG p.2 as)
def CI (f:HF):aG->Option Fl:=fun Γ=>(f Γ).map fun p=>.rm p.1 p.2
def CJ (ft:aG->Option (Bool×aG)) (g1 g2:aG->Option Fl):aG->Option Fl:=fun Γ=>(ft Γ).bind fun p=>if p.1=true then g1 p.2 else g2 p.2
theorem aC.set{K:Fg}{H:Hp}{Av:gg}:∀{vs:List V} {ds:List Dat} {j:Nat} {v:V} {d:Dat},aC K H Av vs ds->aP K H Av v d->aC K H Av (vs.set j v) (ds.set j d)
 |_,_,_,_,_,.nil,_=>.nil
 |_,_,0,_,_,.cons _ r,h=>.cons h r
 |_,_,j+1,_,_,.cons a r,h=>.cons a (aC.set (j:=j) r h)
def yG (i:Nat) (k:Int) (f:HF):aG->Option Fl:=fun Γ=>(f Γ).bind fun p=>match p.2[i]? with
 |some (some (.own ds))=>(mX ds.length k).map fun j=>.nx (p.2.set i (some (.own (ds.set j p.1))))
 |_=>none
def Vr (K:Fg) (n:Nat) (F:List Dat->Option (List Dat)):Sp:=fun vs H Q _=>∃Av ds out,gO H Av/\aC K H Av vs ds/\ds.length=n/\F ds=some out/\∀H1 p xs,aV H H1->H1 p=none->aC K H1 Av xs out->Q (.ref p) (upd H1 p (.lst xs))
structure y0 (P:Program) (w:World) (K:Fg) (mg:Str->Option Value) (base:Heap) (k:Nat) (x:Str) (ps:List Str) (n:Nat) (F:List Dat->Option (List Dat)):Prop where
 ex:∃(f:Addr) (fd:FuncData),gJ P w K mg base jy k f fd ps (Vr K n F)/\mg x=some (.ref f)/\keepIn K (.ref f)=true/\Binds K fd ps []
theorem y0.up{F:List Dat->Option (List Dat)}(D:y0 P w K mg base j x ps n F)(h:j<=k):y0 P w K mg base k x ps n F:=by
 obtain⟨f,fd,h1,h2⟩:=D.ex;exact⟨f,fd,h1.mono h,h2⟩
def DB (n:Nat) (F:List Dat->Option (List Dat)) (fs:ax->Option (List Dat)):ax->Option (List Dat):=fun ρ=>(fs ρ).bind fun ds=>if ds.length=n then F ds else none
variable {px:Pos}
theorem P7{fs:ax->Option (List Dat)}{F:List Dat->Option (List Dat)}(U:nZ K x qual st fa fd)(hm:mg x=some (.ref fa))(hB:Binds K fd ps [])(S:gk N ps (ba st))(hn:ps.length=n){ex:Expr}(hb:dw st=[.Return (some ex) px])(hbody:∀(bG:Value) (A:Around) (outer:List Env) (s:Shared) (H:Hp) (E:XK),cA k (A.deeper (envOfC qual (ba st) s.heap.objs.size fa bG))->PE (k6 jy P w K mg base N qual (ba st) fa bG A outer s H E).oK ex (jG K fs))(hF:∀ds out,ds.length=n->F ds=some out->fs (bX (d6 N ds))=some out):y0 P w K mg base (k+1) x ps n F:=by
 have dB:ps.length<=N.length:=by have:=congrArg List.length S.pre;rw[length_take]at this;omega
 refine⟨fa,fd,U.ok S (fun vs H Q E h=>?_) (fun bG A outer s H vs Q E hr h=>?_),hm,U.kp,hB⟩
 ·obtain⟨Av,ds,d,_,r,hl,_⟩:=h;rw[r.length,hl,hn]
 ·obtain⟨Av,ds,out,hA,r,hl,hd,q⟩:=h;obtain⟨ad,G⟩:=tM (K:=K) (N:=N) hA r (by omega);rw[hb];exact⟨_,Bo (uF (hbody bG A outer s H E hr)),Av,bX (d6 N ds),out,hA,G.rG,hF ds out hl hd,fun H1 p xs s1 hp r1=>q H1 p xs s1 hp r1⟩
open PySem PySem.Spec PyProof.Rows L2
open PySem.W (Dat kqdOk)
def DT (K:Fg) (J:It) (xs:List V) (nW:List Dat) (ds:List Dat):Prop:=∀(i:Nat) (H:Hp) (Av:gg),aC K H Av xs nW->(ds.length<=i->J.stop i H)/\(∀di,ds[i]?=some di->J.go i H/\∀y H',gO H Av->J.wQ i H y H'->aV H H'/\aP K H' Av y di)
theorem Over.s{x:V}(o:Over K J x d ds):DT K J [x] [d] ds:=fun i H Av r=>by
 obtain⟨v,e,rv⟩:=r.dZ;cases e;obtain⟨h1,h2⟩:=o i H Av rv;refine⟨h1,fun di hd=>?_⟩;obtain⟨g,y⟩:=h2 di hd;refine⟨g,fun z H' _ hz=>?_⟩;obtain⟨e,r'⟩:=y z H' hz;subst e;exact⟨aV.refl _,r'⟩
def Jy (K:Fg) (fi:ax->Option (List Dat)):TI:=fun σ H R=>∃Av ρ ds,gO H Av/\fG K H Av σ ρ/\fi ρ=some ds/\∀J xs nW H1,aV H H1->aC K H1 Av xs nW->DT K J xs nW ds->R J H1
abbrev T2 (X:Cx) (tg iter:Expr) (fi:ax->Option (List Dat)):Prop:=PI X tg iter (Jy X.K fi)
variable {iter:Expr}
theorem oI{t t':TI}(h:PI X tg iter t)(m:∀σ H R,t' σ H R->t σ H R):PI X tg iter t':=fun pins s σ H R I q=>h pins s σ H R I (m σ H R q)
def Oe (f:ax->Option Dat):ax->Option (List Dat):=fun ρ=>(f ρ).bind cM
variable {fs:ax->Option (List Dat)} in
def rf (rg:List Dat->Option (List Dat)) (fs:ax->Option (List Dat)):ax->Option (List Dat):=fun ρ=>(fs ρ).bind rg
variable {fi:ax->Option (List Dat)}
def ma (gt:Dat->Option dk) (gb:aG->Option Fl) (fi:ax->Option (List Dat)):aG->Option Fl:=fun Γ=>(fi (bx Γ)).bind fun ds=>forL gt gb ds Γ
theorem Dz{D:Ends}{nW:List Dat}{σ:L2.St}{H1:Hp}{fl:Fl}(ov:DT K J xs nW ds)(G:GA K aj Av pn aK H1 σ Γ ad)(rx:aC K H1 (aX Av Γ ad) xs nW)(hf:forL gt gb ds Γ=some fl)(q:IQ K aj Av pn aK D fl):
  ∃W:Nat->Nat->L2.St->Hp->Prop,(∃m,W 0 m σ H1)/\∀i m σ H,W i m σ H->
   (J.stop i H/\D.nx σ H)\/(J.go i H/\∃N:L2.St->Hp->Prop,(∀bI H',N bI H'->∃m',m'<m/\W (i+1) m' bI H')/\∀x H',J.wQ i H x H'->kA K gt x σ H' fun gn H2=>yB K gb {D with nx:=N,ct:=N,bk:=D.nx} gn H2):=by
 have QU:∀{vs:List V} {us:List Dat} {aK:Hid} {H:Hp} {σ:L2.St} {Γ:aG} {ad:Nat->Addr},GA K aj Av pn aK H σ Γ ad->aC K H (aX Av Γ ad) vs us->GA K aj Av pn (vs.zip us++aK) H σ Γ ad:=by
  intro vs us aK H σ Γ ad G r;refine⟨G.same,G.jP,G.len,G.a7,G.own,G.inj,fun p hp=>?_,G.pin,G.obj⟩;rcases mem_append.mp hp with h|h
  ·clear G hp;induction vs generalizing us with
   |nil=>simp at h
   |cons v vs ih=>
    cases r with
    |cons r1 r2=>
     rw[zip_cons_cons]at h;rcases mem_cons.mp h with e|h
     ·subst e;exact r1
     ·exact ih r2 h
  ·exact G.aK p h
 have vI:∀{vs:List V} {us:List Dat} {aK:Hid} {H:Hp} {σ:L2.St} {Γ:aG} {ad:Nat->Addr},GA K aj Av pn (vs.zip us++aK) H σ Γ ad->GA K aj Av pn aK H σ Γ ad:=fun G=>⟨G.same,G.jP,G.len,G.a7,G.own,G.inj,fun p hp=>G.aK p (mem_append_right _ hp),G.pin,G.obj⟩;have back:∀{vs:List V} {us:List Dat} {aK:Hid} {H:Hp} {σ:L2.St} {Γ:aG} {ad:Nat->Addr},vs.length=us.length->GA K aj Av pn (vs.zip us++aK) H σ Γ ad->aC K H (aX Av Γ ad) vs us:=by
  intro vs us aK H σ Γ ad hl G;have hp:∀p∈vs.zip us,aP K H (aX Av Γ ad) p.1 p.2:=fun p hp=>G.aK p (mem_append_left _ hp);clear G;induction vs generalizing us with
  |nil=>cases us with|nil=>exact .nil|cons _ _=>simp at hl
  |cons v vs ih=>
   cases us with
   |nil=>simp at hl
   |cons u us=>
    rw[zip_cons_cons]at hp;exact .cons (hp (v,u) mem_cons_self) (ih (by simpa using hl) fun p h=>hp p (mem_cons_of_mem _ h))
 have W9:=rx.length;refine⟨fun i m σ H=>m=ds.length-i/\i<=ds.length/\∃Γ,lX K aj Av pn (xs.zip nW++aK) H σ Γ/\forL gt gb (ds.drop i) Γ=some fl,⟨_,rfl,zero_le _,Γ,⟨ad,QU G rx⟩,by rw[drop_zero];exact hf⟩,?_⟩;rintro i m σ H ⟨rfl,hi,Γ,⟨ad,G⟩,hf⟩;have rx:=back W9 G;cases iY:ds[i]? with
 |none=>
  have hl:ds.length<=i:=List.getElem?_eq_none_iff.mp iY;rw[drop_eq_nil_of_le hl]at hf;cases hf;exact .inl ⟨(ov i H _ rx).1 hl,q σ H ⟨ad,vI G⟩⟩
 |some di=>
  have fq:=fW iY;rw[drop_cons iY]at hf;obtain⟨as,e1,hf⟩:=bind_some (show(gt di).bind _=some fl from hf);obtain⟨rE,e2,hf⟩:=bind_some hf;obtain⟨go,yl⟩:=(ov i H _ rx).2 di iY;refine .inr ⟨go,fun bI H'=>∃ah,lX K aj Av pn (xs.zip nW++aK) H' bI ah/\forL gt gb (ds.drop (i+1)) ah=some fl,fun bI H' ⟨ah,G',h'⟩=>⟨ds.length-(i+1),by omega,rfl,by omega,ah,G',h'⟩,fun y H' hy=>?_⟩;obtain⟨sH,ry⟩:=yl y H' G.gE hy;refine⟨aX Av Γ ad,di,as,ry,e1,fun ws hw=>⟨aj,Av,pn,xs.zip nW++aK,setG Γ as,rE,⟨ad,GA.j4 hw (fun _ z=>z) (G.grow sH)⟩,e2,?_⟩⟩;cases rE with
  |nx ah=>exact fun gn H2 G2=>⟨ah,G2,hf⟩
  |ct ah=>exact fun gn H2 G2=>⟨ah,G2,hf⟩
  |bk ah=>cases hf;exact fun gn H2 ⟨qk,G2⟩=>q gn H2 ⟨qk,vI G2⟩
  |rt v=>cases hf;exact q
  |rm v ah=>cases hf;exact fun gn v2 H2 qk G2 r2=>q gn v2 H2 qk (vI G2) r2
def hG (bg:List (Option Nat)) (gt:Dat->Option dk) (ft:ax->Option Bool) (fe:ax->Option Dat) (fi:ax->Option (List Dat)):ax->Option (List Dat):=fun ρ=>(fi ρ).bind fun ds=>if ds.length<sizeLine then c8 gt ft fe (gi bg ρ) ds else none
theorem AZ{bg:List (Option Nat)}{fe:ax->Option Dat}(ht:oz gt bg):∀σ H Q,jG K (hG bg gt ft fe fi) σ H Q->uc bg (Jy K fi) (kA K gt) (nH K ft) (tF K fe) σ H Q:=by
 rintro σ H Q ⟨Av,ρ,out,hA,hE,hf,q⟩;obtain⟨ds,e1,hf⟩:=bind_some hf;split at hf
 ·rename_i hz;refine⟨Av,ρ,ds,hA,hE,e1,fun J xs nW H1 s1 r ov=>?_⟩;refine⟨fun i m ys H2=>m=ds.length-i/\i<=ds.length/\aV H1 H2/\∃o1 o2,aC K H2 Av ys o1/\o1.length<=i/\c8 gt ft fe (gi bg ρ) (ds.drop i)=some o2/\out=o1++o2,
   ⟨_,rfl,zero_le _,aV.refl _,[],out,.nil,le_refl _,by rw[drop_zero];exact hf,rfl⟩,?_⟩
  rintro i m ys H2 ⟨rfl,hi,s2,o1,o2,ro,hl,hc,rfl⟩;refine⟨by have:=ro.length;omega,?_⟩;have rx:=r.same s2;cases iY:ds[i]? with
  |none=>
   have hle:ds.length<=i:=List.getElem?_eq_none_iff.mp iY;rw[drop_eq_nil_of_le hle]at hc;cases hc;refine .inl ⟨(ov i H2 _ rx).1 hle,fun D hD=>q H2 D ys (s1.trans s2) hD (by rw[append_nil];exact ro)⟩
  |some di=>
   have fq:=fW iY;rw[drop_cons iY]at hc;obtain⟨as,a1,hc⟩:=bind_some (show(gt di).bind _=some o2 from hc);obtain⟨k,a2,hc⟩:=bind_some hc;obtain⟨go,yl⟩:=(ov i H2 _ rx).2 di iY;refine .inr ⟨go,fun y H' hy=>?_⟩;obtain⟨sH,ry⟩:=yl y H' (hA.same (s1.trans s2)) hy;refine⟨Av,di,as,ry,a1,fun ws hw=>?_⟩;have cs:∀p∈as,(cJ bg σ)[p.1]?=some none:=fun p hp=>by
    unfold cJ;rw[getElem?_map,ht di as a1 p hp];rfl
   have A2:=hA.same (s1.trans (s2.trans sH));have E2:fG K H' Av (pd (cJ bg σ) ws) (l7 (gi bg ρ) as):=fG.j4 hw (by unfold cJ gi;rw[length_map,length_map]) ((hE.same (s1.trans (s2.trans sH))).bg bg);refine⟨fD.j4 hw cs (fD.refl _),Av,_,k,A2,E2,a2,fun H3 s3=>?_⟩;cases k with
   |false=>
    rw[if_neg Bool.false_ne_true]at hc ⊢;exact⟨ds.length-(i+1),by omega,rfl,by omega,s2.trans (sH.trans s3),o1,o2,ro.same (sH.trans s3),by omega,hc,rfl⟩
   |true=>
    rw[if_pos rfl]at hc ⊢;obtain⟨dv,a3,hc⟩:=bind_some hc;obtain⟨o3,a4,hc⟩:=bj hc;subst hc;refine⟨Av,_,dv,A2.same s3,E2.same s3,a3,fun v H4 s4 rv=>⟨ds.length-(i+1),by omega,rfl,by omega,s2.trans (sH.trans (s3.trans s4)),o1++[dv],o3,(ro.same (sH.trans (s3.trans s4))).append (.cons rv .nil),?_,a4,?_⟩⟩
    ·rw[length_append,length_singleton];omega
    ·rw[append_assoc];rfl
 ·cases hf
def MR (K:Fg) (f:aG->Option (List Dat×aG)):TE:=fun σ H Q=>∃aj Av pn aK Γ ad d ah,GA K aj Av pn aK H σ Γ ad/\f Γ=some (d,ah)/\∀H1 p xs kN,GA K aj Av pn aK H1 σ ah kN->H1 p=none->aC K H1 (aX Av ah kN) xs d->Q (.ref p) (upd H1 p (.lst xs))
def hL (f:aG->Option (List Dat×aG)):HF:=fun Γ=>(f Γ).map fun p=>(.list p.1,p.2)
def pK:ax->aG:=fun ρ=>ρ.map fun o=>o.map Slot.a7
def vj (gt:Dat->Option dk) (fe:HF) (tl:aG):List Dat->List Dat->Option (List Dat×List Dat)
 |[],ds=>some ([],ds)
 |x::r,ds=>(gt x).bind fun as=>(fe (setG (some (.own ds)::tl) as)).bind fun p=>match (p.2[0]? : Option (Option Slot))with
  |some (some (.own f9))=>(vj gt fe tl r f9).map fun q=>(p.1::q.1,q.2)
  |_=>none
def yk (i:Nat) (jf:List (Option Nat)) (gt:Dat->Option dk) (fe:HF) (fi:ax->Option (List Dat)):aG->Option (List Dat×aG):=fun Γ=>match Γ[i]? with
 |some (some (.own ds))=>(fi (bx Γ)).bind fun ak=>if ak.length<sizeLine then(vj gt fe (pK (gi jf (bx Γ))) ak ds).map fun q=>(q.1,Γ.set i (some (.own q.2)))else none
 |_=>none
theorem Iq{es:List Dat}(hi:Γ[i]?=some (some (.own ds))):bx (Γ.set i (some (.own es)))=bx Γ:=by
 unfold bx;apply List.ext_getElem?
 intro j;rw[getElem?_map,getElem?_map];by_cases e:j=i
 ·subst e;rw[getElem?_set_self (fW hi),hi];rfl
 ·rw[getElem?_set_ne (Ne.symm e)]
theorem mY{s:Slot}(h:(pK ρ)[j]?=some (some s)):∃d,s=.a7 d/\ρ[j]?=some (some d):=by
 unfold pK at h;rw[getElem?_map]at h;cases e:ρ[j]? with
 |none=>rw[e]at h;cases h
 |some o=>
  rw[e]at h;cases o with
  |none=>cases h
  |some d=>cases h;exact⟨d,rfl,rfl⟩
theorem IH{a:Addr}{MD:L2.St}{Jn:ax}(hA:gO H Av)(ha:Av a)(hx:H a=some (.lst xs))(rx:aC K H Av xs ds)(E:fG K H Av MD Jn)(hl:MD.length=Jn.length):
  GA K (fun b=>if b=a then none else H b) (fun b=>Av b/\b≠a) (some a) [] H (some (.ref a)::MD) (some (.own ds)::pK Jn) (fun _=>a):=by
 have wk:∀b,aX (fun b=>Av b/\b≠a) (some (.own ds)::pK Jn) (fun _=>a) b->Av b:=by
  rintro b (z|⟨i,fs,_,_,rfl⟩)
  ·exact z.1
  ·exact ha
 refine⟨fun b o h=>?_,fun b z=>?_,?_,fun i d h=>?_,fun i fs h=>?_,fun i j fs gs h1 h2 m1 m2 _=>?_,fun p hp=>absurd hp (by simp),(fun a' fs e _=>by cases e;rfl),fun i O fs h=>?_⟩
 ·split at h
  ·cases h
  ·exact h
 ·obtain⟨o,e⟩:=hA b z.1;exact⟨o,by rw[if_neg z.2];exact e⟩
 ·unfold pK;rw[length_cons,length_cons,length_map,hl]
 ·cases i with
  |zero=>cases h
  |succ i=>
   rw[getElem?_cons_succ]at h;obtain⟨d',e,h⟩:=mY h;cases e;obtain⟨v,hv,rv⟩:=E i d h;exact⟨v,by rw[getElem?_cons_succ];exact hv,rv.weak wk⟩
 ·cases i with
  |zero=>cases h;exact⟨xs,rfl,hx,rx.weak wk,by rw[if_pos rfl]⟩
  |succ i=>
   rw[getElem?_cons_succ]at h;obtain⟨_,e,_⟩:=mY h;cases e
 ·cases i with
  |succ i=>
   rw[getElem?_cons_succ]at h1;obtain⟨_,e,_⟩:=mY h1;rw[e]at m1;cases m1
  |zero=>
   cases j with
   |succ j=>
    rw[getElem?_cons_succ]at h2;obtain⟨_,e,_⟩:=mY h2;rw[e]at m2;cases m2
   |zero=>rfl
 ·cases i with
  |zero=>cases h
  |succ i=>
   rw[getElem?_cons_succ]at h;obtain⟨_,e,_⟩:=mY h;cases e
theorem GA.Lb{TJ:gg}{σ:L2.St}(h:kQ K H TJ ws as)(hw:∀a,aX Av Γ ad a->TJ a)(G:GA K aj Av pn aK H σ Γ ad):
  GA K aj Av pn aK H (pd σ ws) (setG Γ as) ad:=by
 induction h generalizing σ Γ with
 |nil=>exact G
 | @cons i v d vs ds h r ih=>exact ih (σ:=σ.set i (some v)) (Γ:=Γ.set i (some (.a7 d))) (fun a z=>hw a (aX.k9 a z)) (G.set i (h.weak hw))
theorem L8{jf:List (Option Nat)}{fe:HF}(ht:oz gt (some i::jf)):∀σ H Q,MR K (yk i jf gt fe fi) σ H Q->uc (some i::jf) (Jy K fi) (kA K gt) Hq (tH K fe) σ H Q:=by
 rintro σ H Q ⟨aj,Av,pn,aK,Γ,ad,out,ah,G,hf,q⟩;unfold yk at hf;split at hf
 ·rename_i Kz hi;obtain⟨ak,e1,hf⟩:=bind_some hf;split at hf
  ·rename_i hz;obtain⟨⟨NC,P4⟩,e2,hf⟩:=bj hf;obtain⟨h1,h2⟩:=Prod.mk.inj hf;subst h1 h2;clear hf;dsimp only at q;refine⟨aX Av Γ ad,bx Γ,ak,G.gE,G.iR,e1,fun J xs nW H1 s1 rx ov=>?_⟩;refine⟨fun k m ys H2=>m=ak.length-k/\k<=ak.length/\∃xP o1 o2 df,GA K aj Av pn aK H2 σ (Γ.set i (some (.own xP))) ad/\aC K H2 (aX Av Γ ad) xs nW/\aC K H2 (aX Av Γ ad) ys o1/\o1.length<=k/\vj gt fe (pK (gi jf (bx Γ))) (ak.drop k) xP=some (o2,df)/\NC=o1++o2/\P4=df,
    ⟨_,rfl,zero_le _,Kz,[],NC,P4,?_,rx,.nil,le_refl _,by rw[drop_zero];exact e2,rfl,rfl⟩,?_⟩
   ·have:Γ.set i (some (.own Kz))=Γ:=by
     apply List.ext_getElem?
     intro j;by_cases e:j=i
     ·subst e;rw[getElem?_set_self (fW hi),hi]
     ·rw[getElem?_set_ne (Ne.symm e)]
    rw[this];exact G.grow s1
   rintro k m ys H2 ⟨rfl,hk,xP,o1,o2,df,G2,rx,ro,hl,hc,rfl,rfl⟩;have S1:(Γ.set i (some (Slot.own xP)))[i]?=some (some (.own xP)):=getElem?_set_self (fW hi);refine⟨by have:=ro.length;omega,?_⟩;have Xu:gO H2 (aX Av Γ ad):=fun b z=>G2.gE b (aX.me hi b z);cases iY:ak[k]? with
   |none=>
    have hle:ak.length<=k:=List.getElem?_eq_none_iff.mp iY;rw[drop_eq_nil_of_le hle]at hc;cases hc;refine .inl ⟨(ov k H2 _ rx).1 hle,fun D hD=>q H2 D ys ad G2 hD ?_⟩;rw[append_nil];exact ro.weak (aX.set_own hi)
   |some di=>
    have fq:=fW iY;rw[drop_cons iY]at hc;obtain⟨as,a1,hc⟩:=bind_some (show(gt di).bind _=some (o2,P4)from hc);obtain⟨⟨dv,Ra⟩,a2,hc⟩:=bind_some hc;dsimp only at hc;split at hc
    ·rename_i P5 h0;obtain⟨⟨o3,Xo⟩,a3,hc⟩:=bj hc;cases hc;obtain⟨go,yl⟩:=(ov k H2 _ rx).2 di iY;refine .inr ⟨go,fun y H' hy=>?_⟩;obtain⟨sH,ry⟩:=yl y H' Xu hy;refine⟨aX Av Γ ad,di,as,ry,a1,fun ws hw=>?_⟩;have cs:∀p∈as,(cJ (some i::jf) σ)[p.1]?=some none:=fun p hp=>by
      unfold cJ;rw[getElem?_map,ht di as a1 p hp];rfl
     have G3:=G2.grow sH;obtain⟨zs,g1,g2,g3,g4⟩:=G3.own i xP S1;have S5:cJ (some i::jf) σ=some (.ref (ad i))::cJ jf σ:=by
      unfold cJ;rw[map_cons];show((σ[i]?).join)::_=_;rw[g1];rfl
     have E3:fG K H' (aX Av Γ ad) (cJ jf σ) (gi jf (bx Γ)):=by
      have:=G3.iR;rw[Iq hi]at this;exact fG.bg (fun j d h=>let ⟨v,e,r⟩:=this j d h;⟨v,e,r.weak (aX.me hi)⟩) jf
     have Xt:gO H' (aX Av Γ ad):=fun b z=>G3.gE b (aX.me hi b z);have Gb:=IH (K:=K) (a:=ad i) Xt (.inr ⟨i,_,hi,rfl,rfl⟩) g2 (g3.weak (aX.me hi)) E3 (by unfold cJ gi;rw[length_map,length_map]);have Vf:∀b,aX (fun b=>aX Av Γ ad b/\b≠ad i) (some (.own xP)::pK (gi jf (bx Γ))) (fun _=>ad i) b->aX Av Γ ad b:=by
      rintro b (z|⟨_,_,_,_,rfl⟩)
      ·exact z.1
      ·exact .inr ⟨i,_,hi,rfl,rfl⟩
     rw[S5];rw[S5]at cs;refine⟨fD.j4 hw cs (fD.refl _),?_⟩;simp only[Hq,if_true];refine⟨_,_,some (ad i),[],_,_,dv,Ra,GA.Lb hw Vf Gb,a2,fun v H4 SE G4 r4=>?_⟩;obtain⟨us,u1,u2,u3,u4⟩:=G4.own 0 P5 h0;have ea:SE 0=ad i:=G4.pin _ _ rfl h0;have Rg:∀b,aX Av Γ ad b->aX (fun b=>aX Av Γ ad b/\b≠ad i) Ra SE b:=fun b z=>by
      by_cases eb:b=ad i
      ·exact .inr ⟨0,_,h0,rfl,ea.trans eb.symm⟩
      ·exact .inl ⟨z,eb⟩
     have kk:∀b o,H' b=some o->b≠ad i->H4 b=some o:=fun b o h ne=>G4.same b o (by rw[if_neg ne];exact h);have kp:lW H' (aX Av Γ ad) H4 (aX Av Γ ad):=fun b o h n=>⟨kk b o h fun z=>n (.inr ⟨i,_,hi,rfl,z.symm⟩),n⟩;have G5:=G3.lend (es:=P5) S1 kk (by rw[<- ea];exact u2) (u3.weak fun b z=>Rg b (aX.set_own (es:=xP) hi b z));rw[List.set_set]at G5;refine⟨ak.length-(k+1),by omega,rfl,by omega,P5,o1++[dv],o3,Xo,G5,(rx.same sH).mono kp,((ro.same sH).mono kp).append (.cons (r4.weak Rg) .nil),?_,a3,?_,rfl⟩
     ·rw[length_append,length_singleton];omega
     ·rw[append_assoc];rfl
    ·cases hc
  ·cases hf
 ·cases hf
theorem Ja{tn fv:List Str}{js:List Nat}(sM:closureFor scope X.env=pure (fv.map fun x=>(x,(X.env.cells.lookup x).getD 0)))(hf:∀y∈scope.names,y.2=.free->y.1∈fv)(hc:∀y∈scope.names,y.2≠.cell)(hk:scope.kind=.function)(hn:∀y∈scope.names,y.2=.local->scope.names.lookup y.1=some .local)(nd:(tn++fv).Nodup)(hl:fv.length=js.length)(hs:∀x∈fv,∃c,X.env.cells.lookup x=some c)(hj:∀p∈fv.zip js,X.N[p.2]?=some p.1/\nA X.env.scope p.1/\((relabel scope X.env).names.lookup p.1=some .cell\/(relabel scope X.env).names.lookup p.1=some .free)/\X.env.scope.names.lookup p.1≠some .local):
  sV X scope (fv.map fun x=>(x,(X.env.cells.lookup x).getD 0)) (fv++tn) (js.map some++(tn.map fun _=>none)):=by
 have B:=fB (X:=X) (tn:=tn) (js:=js) sM hf hc hk hn nd hl hs hj;refine⟨B.J7,B.cells,B.kind,B.names,?_,by rw[length_append,length_append,length_map,length_map,hl],B.sub,B.has,fun i x j e1 e2=>?_⟩
 ·exact(List.perm_append_comm (l₁:=tn) (l₂:=fv)).nodup_iff.mp nd
 ·by_cases hi:i<fv.length
  ·rw[getElem?_append_left hi]at e1;rw[getElem?_append_left (by rw[length_map,<- hl];exact hi),getElem?_map]at e2;cases ej:js[i]? with
   |none=>rw[ej]at e2;cases e2
   |some j'=>
    rw[ej]at e2;cases e2;refine hj (x,j) (mem_of_getElem? (i:=i) ?_);rw[List.getElem?_zip_eq_some];exact⟨e1,ej⟩
  ·rw[getElem?_append_right (by rw[length_map,<- hl];omega),getElem?_map]at e2;cases ej:tn[i-(js.map some).length]? with
   |none=>rw[ej]at e2;cases e2
   |some j'=>rw[ej]at e2;cases e2
set_option maxHeartbeats 4000000
open PySem PySem.Spec PyProof.Rows L2
open PySem.W (Dat kqdOk)
def m9:Bool->Heap->Addr->Array Value->Prop
 |true,h,a,ak=>h.IsList a ak
 |false,h,a,ak=>h.IsTuple a ak
def jx:Bool->Heap->Addr->Addr->Nat->Prop
 |true,h,it,a,i=>h.IsListIter it a i
 |false,h,it,a,i=>h.IsTupleIter it a i
variable {k:Bool} {h h':Heap} {a:Addr} {ak:Array Value}
theorem m9.on(x:m9 k h a ak)(e:∀o,h.get? a=some o->h'.get? a=some o):m9 k h' a ak:=by
 cases k<;>exact let ⟨o,ho,r⟩:=x;⟨o,e o ho,r⟩
variable {it:Addr}
theorem jx.on(x:jx k h it a i)(e:∀o,h.get? it=some o->h'.get? it=some o):jx k h' it a i:=by
 cases k<;>exact let ⟨o,ho,r⟩:=x;⟨o,e o ho,r⟩
theorem jx.obj(x:jx k h it a i):∃o,h.get? it=some o/\∀v,o.data≠.cell v:=by
 cases k<;>exact let ⟨o,ho,_,hd⟩:=x;⟨o,ho,fun v z=>by rw[hd]at z;cases z⟩
theorem m9.obj(x:m9 k h a ak):∃o,h.get? a=some o:=by
 cases k<;>exact let ⟨o,ho,_⟩:=x;⟨o,ho⟩
variable {A:Around} {E Q:Value->Shared->Prop} {prog:Program}
variable {s:Shared} in
theorem DG{ii la:Addr}{x:Value}(hit:jx k s.heap ii la i)(hq:m9 k s.heap la ak)(hx:ak[i]?=some x)(hQ:∀h',jx k h' ii la (i+1)->SameBut ii s.heap h'->Q x {s with heap:=h'}):wpAny (model prog w) A (Builtin.SmallTypes.nextOf (.ref ii)) Q E s:=by
 cases k with
 |true=>exact wpAny_nextOf_list_item hit hq hx hQ
 |false=>
  have tI:s.heap.IsTupleIter ii la i:=hit;obtain⟨oi,pi,ci,di⟩:=id tI;obtain⟨oa,pa,_,na,da⟩:=(show s.heap.IsTuple la ak from hq);unfold Builtin.SmallTypes.nextOf;refine wpAny_bind (wpAny_callSpecial?_slot (name:=Str.ofString "__next__") tI.typeIs F.slot_tuple_iterator_next (wpAny_call_entry F.slot_tuple_iterator_next tI.typeIs F.entry_tuple_iterator_next ?_ (F.args_tuple_iterator_next_1 _)));show wpAny _ _ (field (.ref ii) 0 >>= _) _ _ s;refine wpAny_bind (wpAny_field pi di (x:=.ref la) rfl ?_);show wpAny _ _ (if(Value.ref la==Value.none)=true then _ else _) _ _ s;rw[if_neg (show ¬((Value.ref la==Value.none)=true)from Bool.false_ne_true)];show wpAny _ _ (field (.ref ii) 1 >>= _) _ _ s;refine wpAny_bind (wpAny_field pi di (x:=.int i 0) rfl ?_);show wpAny _ _ (seqItems? (.ref la) >>= _) _ _ s;refine wpAny_bind (wpAny_seqItems pa da ?_);simp only[hx,toNat_natCast];exact wpAny_bind (wpAny_setField pi di (by simp) (wpAny_pure ⟨x,rfl,wpAny_pure (hQ _ ⟨_,Heap.get?_update_self _ pi (Obj.isFreed_of_fields (Obj.data_mapFields di _)),(Obj.cls_mapFields ..).trans ci,by rw[Obj.data_mapFields di];simp[rawInt]⟩ (SameBut.update ..))⟩))
variable {s:Shared} in
theorem xQ{ii la:Addr}(hh:A.handled=none)(hit:jx k s.heap ii la i)(hq:m9 k s.heap la ak)(hx:ak[i]?=none)(hE:∀h' e,Heap.ExtBut ii s.heap h'->(∃o,h'.get? e=some o/\o.cls=.type "StopIteration")->E (.ref e) {s with heap:=h'}):wpAny (model prog w) A (Builtin.SmallTypes.nextOf (.ref ii)) Q E s:=by
 cases k with
 |true=>exact wpAny_nextOf_list_end hh hit hq hx hE
 |false=>
  have tI:s.heap.IsTupleIter ii la i:=hit;obtain⟨oi,pi,ci,di⟩:=id tI;obtain⟨oa,pa,_,na,da⟩:=(show s.heap.IsTuple la ak from hq);unfold Builtin.SmallTypes.nextOf;refine wpAny_bind (wpAny_callSpecial?_slot (name:=Str.ofString "__next__") tI.typeIs F.slot_tuple_iterator_next (wpAny_call_entry F.slot_tuple_iterator_next tI.typeIs F.entry_tuple_iterator_next ?_ (F.args_tuple_iterator_next_1 _)));show wpAny _ _ (field (.ref ii) 0 >>= _) _ _ s;refine wpAny_bind (wpAny_field pi di (x:=.ref la) rfl ?_);show wpAny _ _ (if(Value.ref la==Value.none)=true then _ else _) _ _ s;rw[if_neg (show ¬((Value.ref la==Value.none)=true)from Bool.false_ne_true)];show wpAny _ _ (field (.ref ii) 1 >>= _) _ _ s;refine wpAny_bind (wpAny_field pi di (x:=.int i 0) rfl ?_);show wpAny _ _ (seqItems? (.ref la) >>= _) _ _ s;refine wpAny_bind (wpAny_seqItems pa da ?_);simp only[hx,toNat_natCast];refine wpAny_bind (wpAny_rule (wpAny_bind (wpAny_setField pi di (by simp) (?_:wpAny _ _ (newExc (.type "StopIteration") [] >>= _) _ _ _))));refine wpAny_bind (by
   simp only[newExc,newTuple];exact wpAny_bind (wpAny_newObj_type (wpAny_bind (m:=firstArgMember _ _) (wpAny_of_eq (a:=Value.none) (by first|rfl|(simp only[firstArgMember];rfl)) (wpAny_newObj_type (by
    simp only[raiseNew];exact wpAny_bind (wpAny_handled (by
     (first|rw[show A.in1.handled=none from hh]|rw[hh])
     exact wpAny_bind (wpAny_pure (wpAny_throw (hE _ _ (((SameBut.update ..).extBut.push _).push _) ⟨_,get?_push_size _ rfl,rfl⟩)))))) (by size_fits)))) (by size_fits)))
abbrev KD (h:Heap) (z TI TO i1 i2:Addr) (f0:Value) (x y:Value):Prop:=IsZip h z TI TO f0/\IsPair h TI (.ref i1) (.ref i2)/\IsPair h TO x y
variable {k1 k2:Bool} {z i1 i2 l1 l2:Addr} {xs ys:Array Value}
variable {s:Shared} in
theorem E7{TI TO:Addr}{n1 n2:Nat}{x y a b:Value}(D:ZipApart z TI TO i1 i2 l1 l2)(Z:KD s.heap z TI TO i1 i2 .none a b)(w1:jx k1 s.heap i1 l1 n1)(w2:jx k2 s.heap i2 l2 n2)(q1:m9 k1 s.heap l1 xs)(q2:m9 k2 s.heap l2 ys)(hx:xs[n1]?=some x)(hy:ys[n2]?=some y)(hQ:∀h',IsZip h' z TI TO (rawInt s.heap.objs.size)->IsPair h' TO x y->jx k1 h' i1 l1 (n1+1)->jx k2 h' i2 l2 (n2+1)->IsPair h' s.heap.objs.size x y->
   (∀c o,c≠z->c≠TO->c≠i1->c≠i2->s.heap.get? c=some o->h'.get? c=some o)->Q (.ref s.heap.objs.size) {s with heap:=h'}):
  wpAny (model prog w) A (Builtin.«zip.__next__» ⟨[.ref z],[]⟩) (fun fin s'=>∃v,fin=.done (.ret v)/\Q v s') E s:=by
 obtain⟨Zz,ZI,ZO⟩:=Z;refine(?_:wpAny _ _ (field (.ref z) 2 >>= _) _ _ _);refine wpAny_bind (wpAny_field Zz rfl (x:=.bool false) rfl (?_:wpAny _ _ (field (.ref z) 3 >>= _) _ _ _));refine wpAny_bind (wpAny_field Zz rfl (x:=.ref TI) rfl (wpAny_bind (wpAny_seqItems ZI rfl ?_)));refine(?_:wpAny _ _ (Builtin.SmallTypes.ownedTupleIsFree (.ref z) >>= _) _ _ _);refine wpAny_bind (by
  unfold Builtin.SmallTypes.ownedTupleIsFree;exact wpAny_bind (wpAny_field Zz rfl (x:=.none) rfl (wpAny_pure (by
   simp only[if_true];refine wpAny_bind (wpAny_rule (wpAny_bind (wpAny_field Zz rfl (x:=.ref TO) rfl (wpAny_bind (wpAny_setField_rec Zz (by simp) fun g1 z1 m1=>?_)))));have Jo:IsZip g1 z TI TO .ellipsis:=z1;refine wpAny_bind ?_;simp only[List.forIn_cons,List.forIn_nil,List.zipIdx_cons,List.zipIdx_nil];refine wpAny_bind (wpAny_bind (wpAny_onRaise (?_:wpAny _ _ (Builtin.SmallTypes.nextOf (.ref i1) >>= _) _ _ _)));refine wpAny_bind (DG (w1.on fun o e=>m1.extBut _ _ D.i1z e) (q1.on fun o e=>m1.extBut _ _ D.l1z e) hx fun g2 v2 m2=>wpAny_pure ?_);have o2:IsPair g2 TO a b:=m2.extBut _ _ D.TOi1 (m1.extBut _ _ D.TOz ZO);refine wpAny_bind (wpAny_seqItems o2 rfl (wpAny_bind (wpAny_updateSeq_pair o2 fun g3 p3 m3=>wpAny_bind (wpAny_letGo (wpAny_pure ?_)))));have o3:IsPair g3 TO x b:=p3;refine wpAny_bind (wpAny_bind (wpAny_onRaise (?_:wpAny _ _ (Builtin.SmallTypes.nextOf (.ref i2) >>= _) _ _ _)));refine wpAny_bind (DG (w2.on fun o e=>m3.extBut _ _ D.TOi2.symm (m2.extBut _ _ D.i12.symm (m1.extBut _ _ D.i2z e))) (q2.on fun o e=>m3.extBut _ _ D.l2TO (m2.extBut _ _ D.l2i1 (m1.extBut _ _ D.l2z e))) hy fun g4 v4 m4=>wpAny_pure ?_);have o4:IsPair g4 TO x b:=m4.extBut _ _ D.TOi2 o3;refine wpAny_bind (wpAny_seqItems o4 rfl (wpAny_bind (wpAny_updateSeq_pair o4 fun g5 p5 m5=>wpAny_bind (wpAny_letGo (wpAny_pure (wpAny_pure ?_))))));have o5:IsPair g5 TO x y:=p5;refine wpAny_bind (wpAny_seqItems o5 rfl (wpAny_bind (wpAny_newTuple ?_)));have sz:g5.objs.size=s.heap.objs.size:=by rw[m5.1,m4.1,m3.1,m2.1,m1.1]
   have z5:IsZip g5 z TI TO .ellipsis:=m5.extBut _ _ D.TOz.symm (m4.extBut _ _ D.i2z.symm (m3.extBut _ _ D.TOz.symm (m2.extBut _ _ D.i1z.symm Jo)));have k5:∀c o,c≠z->c≠TO->c≠i1->c≠i2->s.heap.get? c=some o->g5.get? c=some o:=fun c o a1 a2 a3 a4 e=>m5.extBut _ _ a2 (m4.extBut _ _ a4 (m3.extBut _ _ a2 (m2.extBut _ _ a3 (m1.extBut _ _ a1 e))));have v5:jx k1 g5 i1 l1 (n1+1):=v2.on fun o e=>m5.extBut _ _ D.TOi1.symm (m4.extBut _ _ D.i12 (m3.extBut _ _ D.TOi1.symm e));have v6:jx k2 g5 i2 l2 (n2+1):=v4.on fun o e=>m5.extBut _ _ D.TOi2.symm e;have zl:z<g5.objs.size:=lt_size z5;refine(?_:wpAny _ _ (Builtin.SmallTypes.ownedTupleHandOut (.ref z) (.ref g5.objs.size) >>= _) _ _ _);refine wpAny_bind (by
    unfold Builtin.SmallTypes.ownedTupleHandOut;have z6:IsZip (g5.push {cls:=.type "tuple",data:=.seq #[x,y]}) z TI TO .ellipsis:=get?_push_of_some _ z5;refine wpAny_bind (wpAny_setField_rec z6 (by simp) fun g7 z7 m7=>?_);have Vb:IsZip g7 z TI TO (rawInt g5.objs.size):=z7;refine wpAny_setField_rec Vb (by simp) fun g8 z8 m8=>?_;have Rc:IsZip g8 z TI TO (rawInt g5.objs.size):=z8;have up:∀c o,c≠z->g5.get? c=some o->g8.get? c=some o:=fun c o c1 e=>m8.extBut _ _ c1 (m7.extBut _ _ c1 (get?_push_of_some _ e));have t8:IsPair g8 g5.objs.size x y:=m8.extBut _ _ (Nat.ne_of_gt zl) (m7.extBut _ _ (Nat.ne_of_gt zl) (get?_push_size _ rfl));rw[sz]at Rc t8;refine wpAny_pure ⟨_,rfl,(?_:Q (.ref g5.objs.size) _)⟩;rw[sz];exact hQ g8 Rc (up _ _ D.TOz o5) (v5.on fun o e=>up _ o D.i1z e) (v6.on fun o e=>up _ o D.i2z e) t8 fun c o c1 c2 c3 c4 e=>up c o c1 (k5 c o c1 c2 c3 c4 e)))))
  )
variable {s:Shared} in
theorem E6{TI TO:Addr}{n1 n2:Nat}{a b:Value}{Q:Fin->Shared->Prop}(hh:A.handled=none)(D:ZipApart z TI TO i1 i2 l1 l2)(Z:KD s.heap z TI TO i1 i2 .none a b)(w1:jx k1 s.heap i1 l1 n1)(w2:jx k2 s.heap i2 l2 n2)(q1:m9 k1 s.heap l1 xs)(q2:m9 k2 s.heap l2 ys)(ID:xs[n1]?=none\/ys[n2]?=none)(hE:∀h' e,(∀c o,c≠z->c≠TO->c≠i1->c≠i2->s.heap.get? c=some o->h'.get? c=some o)->(∃o,h'.get? e=some o/\o.cls=.type "StopIteration")->E (.ref e) {s with heap:=h'}):
  wpAny (model prog w) A (Builtin.«zip.__next__» ⟨[.ref z],[]⟩) Q E s:=by
 obtain⟨Zz,ZI,ZO⟩:=Z;refine(?_:wpAny _ _ (field (.ref z) 2 >>= _) _ _ _);refine wpAny_bind (wpAny_field Zz rfl (x:=.bool false) rfl (?_:wpAny _ _ (field (.ref z) 3 >>= _) _ _ _));refine wpAny_bind (wpAny_field Zz rfl (x:=.ref TI) rfl (wpAny_bind (wpAny_seqItems ZI rfl ?_)));refine(?_:wpAny _ _ (Builtin.SmallTypes.ownedTupleIsFree (.ref z) >>= _) _ _ _);refine wpAny_bind (by
  unfold Builtin.SmallTypes.ownedTupleIsFree;exact wpAny_bind (wpAny_field Zz rfl (x:=.none) rfl (wpAny_pure (by
   simp only[if_true];refine wpAny_bind (wpAny_rule (wpAny_bind (wpAny_field Zz rfl (x:=.ref TO) rfl (wpAny_bind (wpAny_setField_rec Zz (by simp) fun g1 z1 m1=>?_)))));have Jo:IsZip g1 z TI TO .ellipsis:=z1;refine wpAny_bind ?_;simp only[List.forIn_cons,List.forIn_nil,List.zipIdx_cons,List.zipIdx_nil];refine wpAny_bind (wpAny_bind (wpAny_onRaise (?_:wpAny _ _ (Builtin.SmallTypes.nextOf (.ref i1) >>= _) _ _ _)));cases hx:xs[n1]? with
   |none=>
    refine wpAny_bind (xQ hh (w1.on fun o e=>m1.extBut _ _ D.i1z e) (q1.on fun o e=>m1.extBut _ _ D.l1z e) hx fun g2 e m2 he=>?_);obtain⟨oe,pe,ce⟩:=he;have z2:IsZip g2 z TI TO .ellipsis:=m2 _ _ D.i1z.symm Jo;have ez:e≠z:=fun x=>by subst x;rw[z2]at pe;cases pe;simp at ce
    exact wpAny_setField_rec z2 (by simp) fun g3 _ m3=>hE g3 e (fun c o c1 _ c3 _ x=>m3.extBut _ _ c1 (m2 _ _ c3 (m1.extBut _ _ c1 x))) ⟨oe,m3.extBut _ _ ez pe,ce⟩
   |some x=>
    have hy:ys[n2]?=none:=ID.elim (fun h=>by rw[hx]at h;cases h) id;refine wpAny_bind (DG (w1.on fun o e=>m1.extBut _ _ D.i1z e) (q1.on fun o e=>m1.extBut _ _ D.l1z e) hx fun g2 v2 m2=>wpAny_pure ?_);have o2:IsPair g2 TO a b:=m2.extBut _ _ D.TOi1 (m1.extBut _ _ D.TOz ZO);refine wpAny_bind (wpAny_seqItems o2 rfl (wpAny_bind (wpAny_updateSeq_pair o2 fun g3 p3 m3=>wpAny_bind (wpAny_letGo (wpAny_pure ?_)))));refine wpAny_bind (wpAny_bind (wpAny_onRaise (?_:wpAny _ _ (Builtin.SmallTypes.nextOf (.ref i2) >>= _) _ _ _)));refine wpAny_bind (xQ hh (w2.on fun o e=>m3.extBut _ _ D.TOi2.symm (m2.extBut _ _ D.i12.symm (m1.extBut _ _ D.i2z e))) (q2.on fun o e=>m3.extBut _ _ D.l2TO (m2.extBut _ _ D.l2i1 (m1.extBut _ _ D.l2z e))) hy fun g4 e m4 he=>?_);obtain⟨oe,pe,ce⟩:=he;have z4:IsZip g4 z TI TO .ellipsis:=m4 _ _ D.i2z.symm (m3.extBut _ _ D.TOz.symm (m2.extBut _ _ D.i1z.symm Jo));have ez:e≠z:=fun x=>by subst x;rw[z4]at pe;cases pe;simp at ce
    exact wpAny_setField_rec z4 (by simp) fun g5 _ m5=>hE g5 e (fun c o c1 c2 c3 c4 x=>m5.extBut _ _ c1 (m4 _ _ c4 (m3.extBut _ _ c2 (m2.extBut _ _ c3 (m1.extBut _ _ c1 x))))) ⟨oe,m5.extBut _ _ ez pe,ce⟩))))
def lC (k:Bool) (l:Addr):Obj:={cls:=.type (if k then "list_iterator" else "tuple_iterator"),data:=.fields #[.ref l,.int 0 0]}
def tY (k1 k2:Bool) (h:Heap) (l1 l2:Addr):Heap:=(h.push (lC k1 l1)).push (lC k2 l2)
def AN (k1 k2:Bool) (h:Heap) (l1 l2:Addr):Heap:=((tY k1 k2 h l1 l2).push {cls:=.type "tuple",data:=.seq #[.ref h.objs.size,.ref (h.push (lC k1 l1)).objs.size]}).push {cls:=.type "tuple",data:=.seq #[.none,.none]}
def sC (k1 k2:Bool) (h:Heap) (l1 l2:Addr):Heap:=(AN k1 k2 h l1 l2).push {cls:=.type "zip",data:=.fields #[.none,.bool false,.bool false,.ref (tY k1 k2 h l1 l2).objs.size,.ref ((tY k1 k2 h l1 l2).push {cls:=.type "tuple",data:=.seq #[.ref h.objs.size,.ref (h.push (lC k1 l1)).objs.size]}).objs.size]}
variable {s:Shared} in
theorem Hm(k1 k2:Bool)(l1 l2:Addr)(xs ys:Array Value):
  Meets (Builtin.«zip.__new__» ⟨[.type "zip",.ref l1,.ref l2],[]⟩) (fun _ R s=>m9 k1 s.heap l1 xs/\m9 k2 s.heap l2 ys/\R (.ok (.ret (.ref (AN k1 k2 s.heap l1 l2).objs.size))) {s with heap:=sC k1 k2 s.heap l1 l2}):=
 .of_wp fun prog w A R s h=>by
  obtain⟨hp,g,d,tk,os⟩:=s;obtain⟨c1,c2,h⟩:=h;have Ux:=sub_zip;cases k1<;>cases k2
  ·have e1:IsTuple (Shared.heap ⟨hp,g,d,tk,os⟩) l1 xs:=c1;have e2:IsTuple (Shared.heap ⟨hp.push {cls:=.type "tuple_iterator",data:=.fields #[.ref l1,.int 0 0]},g,d,tk,os⟩) l2 ys:=IsTuple.push c2 _;wp_walk using wpAny_pyIter_tuple e1,wpAny_pyIter_tuple e2
   exact⟨_,rfl,h⟩
  ·have e1:IsTuple (Shared.heap ⟨hp,g,d,tk,os⟩) l1 xs:=c1;have e2:IsList (Shared.heap ⟨hp.push {cls:=.type "tuple_iterator",data:=.fields #[.ref l1,.int 0 0]},g,d,tk,os⟩) l2 ys:=IsList.push c2 _;wp_walk using wpAny_pyIter_tuple e1,wpAny_pyIter_list e2
   exact⟨_,rfl,h⟩
  ·have e1:IsList (Shared.heap ⟨hp,g,d,tk,os⟩) l1 xs:=c1;have e2:IsTuple (Shared.heap ⟨hp.push {cls:=.type "list_iterator",data:=.fields #[.ref l1,.int 0 0]},g,d,tk,os⟩) l2 ys:=IsTuple.push c2 _;wp_walk using wpAny_pyIter_list e1,wpAny_pyIter_tuple e2
   exact⟨_,rfl,h⟩
  ·have e1:IsList (Shared.heap ⟨hp,g,d,tk,os⟩) l1 xs:=c1;have e2:IsList (Shared.heap ⟨hp.push {cls:=.type "list_iterator",data:=.fields #[.ref l1,.int 0 0]},g,d,tk,os⟩) l2 ys:=IsList.push c2 _;wp_walk using wpAny_pyIter_list e1,wpAny_pyIter_list e2
   exact⟨_,rfl,h⟩
variable {s:Shared} in
theorem GQ(c1:m9 k1 s.heap l1 xs)(c2:m9 k2 s.heap l2 ys)(h:∀h' z TI TO i1 i2,ZipApart z TI TO i1 i2 l1 l2->KD h' z TI TO i1 i2 .none .none .none->jx k1 h' i1 l1 0->jx k2 h' i2 l2 0->(∀c o,s.heap.get? c=some o->h'.get? c=some o)->(∀b∈[z,TI,TO,i1,i2],s.heap.objs.size<=b)->Q (.ref z) {s with heap:=h'}):
  wpAny (model prog w) A (call (.type "zip") [.ref l1,.ref l2]) Q E s:=by
 obtain⟨o1,p1⟩:=c1.obj;obtain⟨o2,p2⟩:=c2.obj;refine callType_new F.called_zip (by decide) (F.typeCall_zip_2 _ _) (F.newCall_zip_2 _ _) (fun obj=>F.args_object_init_3 obj _ _) F.entry_zip_new (Hm k1 k2 l1 l2 xs ys) ⟨c1,c2,?_⟩;generalize hn:s.heap.objs.size=n;have VE:l1<n:=hn▸lt_size p1;have NV:l2<n:=hn▸lt_size p2;have y1:(s.heap.push (lC k1 l1)).objs.size=n+1:=by rw[size_push,hn]
 have y2:(tY k1 k2 s.heap l1 l2).objs.size=n+2:=by unfold tY;rw[size_push,y1]
 have y3:((tY k1 k2 s.heap l1 l2).push {cls:=.type "tuple",data:=.seq #[.ref s.heap.objs.size,.ref (s.heap.push (lC k1 l1)).objs.size]}).objs.size=n+3:=by rw[size_push,y2]
 have y4:(AN k1 k2 s.heap l1 l2).objs.size=n+4:=by unfold AN;rw[size_push,y3]
 have MI:∀c o,(AN k1 k2 s.heap l1 l2).get? c=some o->(sC k1 k2 s.heap l1 l2).get? c=some o:=fun c o e=>get?_push_of_some _ e;have MJ:∀c o,(tY k1 k2 s.heap l1 l2).get? c=some o->(sC k1 k2 s.heap l1 l2).get? c=some o:=fun c o e=>MI c o (get?_push_of_some _ (get?_push_of_some _ e));have f5:(sC k1 k2 s.heap l1 l2).get? (AN k1 k2 s.heap l1 l2).objs.size=some _:=get?_push_size _ rfl;have f4:(sC k1 k2 s.heap l1 l2).get? ((tY k1 k2 s.heap l1 l2).push {cls:=.type "tuple",data:=.seq #[.ref s.heap.objs.size,.ref (s.heap.push (lC k1 l1)).objs.size]}).objs.size=some _:=MI _ _ (get?_push_size _ rfl);have f3:(sC k1 k2 s.heap l1 l2).get? (tY k1 k2 s.heap l1 l2).objs.size=some _:=MI _ _ (get?_push_of_some _ (get?_push_size _ rfl));have f2:(sC k1 k2 s.heap l1 l2).get? (s.heap.push (lC k1 l1)).objs.size=some (lC k2 l2):=MJ _ _ (get?_push_size _ (by cases k2<;>rfl));have f1:(sC k1 k2 s.heap l1 l2).get? s.heap.objs.size=some (lC k1 l1):=MJ _ _ (get?_push_of_some _ (get?_push_size _ (by cases k1<;>rfl)));rw[y2,y3,y4]at f5;rw[y3]at f4;rw[y2,y1,hn]at f3;rw[y1]at f2;rw[hn]at f1;have r1:jx k1 (sC k1 k2 s.heap l1 l2) n l1 0:=by cases k1<;>exact⟨_,f1,rfl,rfl⟩
 have r2:jx k2 (sC k1 k2 s.heap l1 l2) (n+1) l2 0:=by cases k2<;>exact⟨_,f2,rfl,rfl⟩
 refine(?_:_/\_);rw[y4];refine⟨⟨_,f5,rfl⟩,h _ (n+4) (n+2) (n+3) n (n+1) (zipApart_new VE NV) ⟨f5,f3,f4⟩ r1 r2 (fun c o e=>MJ _ _ (get?_push_of_some _ (get?_push_of_some _ e))) fun b hb=>?_⟩;rw[hn];simp only[mem_cons,not_mem_nil,or_false]at hb;rcases hb with e|e|e|e|e<;>(rw[e];first|exact le_refl _|exact le_add_right _ _)
open PySem PySem.Spec PyProof.Rows L2
open PySem.W (Dat kqdOk)
variable {pins:List (Addr×Obj)}
variable {s:Shared} in
theorem rR{t':Nat}{ch:List Addr}(I:Inv X pins σ H s)(k:∀b o,b∉ch->s.heap.get? b=some o->h'.get? b=some o)(hf:∀b∈ch,pZ X pins H b):Inv X pins σ H {s with heap:=h',toks:=t'}:=by
 have out:∀b u,H b=some u->b∉ch:=fun b u e z=>by rw[(hf b z).1]at e;cases e
 refine I.step (g':=s.gens) (d':=s.drawn) (ch:=ch) (fun b hb=>?_) (fun b o _ _ hc e _=>k b o hc e) (fun b o _ _ hc e _=>⟨o.slots,k b o hc e⟩) (fun _ _ _ _ n=>n)
  (fun b o hc e=>⟨o,k b o hc e⟩) (fun _ _ e=>e) (fun _ _ _ e=>e) (fun b ps e=>⟨#[],by rw[e];simp⟩) (fun m hm=>?_) (fun b u e=>?_) I.bare
 ·obtain⟨_,f1,_,f3,f4,f5⟩:=hf b hb;exact⟨f3,f1,f4,f5⟩
 ·obtain⟨o,es,ep,ho,r⟩:=hm;exact⟨o,es,ep,k _ o (fun z=>(hf _ z).2.1 rfl) ho,r⟩
 ·refine(I.bw b u e).om (fun c v hc q=>k c v (hc.elim (fun z=>by rw[z];exact out b u e) fun z=>out c _ z) q) (fun _ q=>q) fun _ _ q=>q
def qm (K:Fg):Bool->Hp->Addr->List V->Prop
 |true,H,a,xs=>fR K H a xs
 |false,H,a,xs=>jv K H a xs
variable {xs:List V}
theorem vM{σ:L2.St}{s:Shared}(I:Inv X pins σ H s)(h:qm X.K k H a xs):∃ak:List Value,Vals xs ak/\m9 k s.heap a ak.toArray:=by
 cases k with
 |true=>obtain⟨ak,r,p,_⟩:=I.list h;exact⟨ak,r,p.isList⟩
 |false=>obtain⟨ak,r,p,_⟩:=I.tuple h;exact⟨ak,r,show s.heap.IsTuple a ak.toArray from p⟩
theorem yF{σ:L2.St}{s:Shared}{ys:List V}(I:Inv X pins σ H s)(h:qm X.K k H a xs)(h':qm X.K k H a ys):xs=ys:=by
 cases k with
 |true=>exact I.tE h h'
 |false=>exact I.wU h h'
def Tb (K:Fg) (k1 k2:Bool) (a1 a2:Addr):It:=
 ⟨fun i H=>∃xs ys x y,qm K k1 H a1 xs/\qm K k2 H a2 ys/\xs[i]?=some x/\ys[i]?=some y,
  fun i H v H'=>∃T x y,v=.ref T/\H T=none/\H'=upd H T (.tup [x,y])/\∀xs ys,qm K k1 H a1 xs->qm K k2 H a2 ys->xs[i]?=some x/\ys[i]?=some y,
  fun i H=>∃xs ys,qm K k1 H a1 xs/\qm K k2 H a2 ys/\(xs.length<=i\/ys.length<=i)⟩
variable {kt:Nat} {a1 a2:Addr}
theorem Ho{eM:List Expr}{pt:Pos}{TI TO:Addr}(D:ZipApart z TI TO i1 i2 a1 a2):
  Turn P w K (.Tuple eM kt pt) (Tb K k1 k2 a1 a2) [z,TI,TO,i1,i2] z (fun i h=>(∃a b,KD h z TI TO i1 i2 .none a b)/\jx k1 h i1 a1 i/\jx k2 h i2 a2 i) where
 mem:=mem_cons_self
 obj:=fun i h st b hb=>by
  obtain⟨⟨u,v,Z1,Z2,Z3⟩,w1,w2⟩:=st;simp only[mem_cons,not_mem_nil,or_false]at hb;rcases hb with e|e|e|e|e
  ·rw[e];exact⟨_,Z1,fun v z=>nomatch z⟩
  ·rw[e];exact⟨_,Z2,fun v z=>nomatch z⟩
  ·rw[e];exact⟨_,Z3,fun v z=>nomatch z⟩
  ·rw[e];exact w1.obj
  ·rw[e];exact w2.obj
 keep:=fun i h h' st k=>by
  obtain⟨⟨u,v,Z1,Z2,Z3⟩,w1,w2⟩:=st;exact⟨⟨u,v,k z (by simp) _ Z1,k TI (by simp) _ Z2,k TO (by simp) _ Z3⟩,w1.on (k i1 (by simp)),w2.on (k i2 (by simp))⟩
 item:=by
  intro X hP hw hK hc i pins s σ H E I hf st hg;subst hP hw hK;obtain⟨⟨u,v,Z⟩,w1,w2⟩:=st;obtain⟨xs,ys,x,y,c1,c2,hx,hy⟩:=hg;obtain⟨Dj,r1,p1⟩:=vM I c1;obtain⟨jB,r2,p2⟩:=vM I c2;obtain⟨ux,Ot,rx⟩:=r1.get hx;obtain⟨uy,VR,ry⟩:=r2.get hy;have hT:s.TypeIs (.ref z) "zip":=⟨_,Z.1,rfl⟩;have lt:∀b∈[z,TI,TO,i1,i2],b<s.heap.objs.size:=fun b hb=>by
   simp only[mem_cons,not_mem_nil,or_false]at hb;rcases hb with e|e|e|e|e
   ·rw[e];exact lt_size Z.1
   ·rw[e];exact lt_size Z.2.1
   ·rw[e];exact lt_size Z.2.2
   ·rw[e];obtain⟨o,q,_⟩:=w1.obj;exact lt_size q
   ·rw[e];obtain⟨o,q,_⟩:=w2.obj;exact lt_size q
  unfold pyNext;refine wpAny_bind (wpAny_attempt (wpAny_callSpecial?_slot (name:=Str.ofString "__next__") hT F.slot_zip_next (wpAny_call_entry F.slot_zip_next hT F.entry_zip_next (E7 D Z w1 w2 p1 p2 (x:=ux) (y:=uy) (by simpa using Ot) (by simpa using VR) fun g b1 b2 b3 b4 b5 b6=>wpAny_pure ?_) (F.args_zip_next_1 _))));refine⟨_,rfl,wpAny_letOwnedTupleGo_zip (s:={s with heap:=g}) b1 fun g' b7 b8=>?_⟩;have In:Inv X pins σ (upd H s.heap.objs.size (.tup [x,y])) {s with heap:=s.heap.push {cls:=.type "tuple",data:=.seq #[ux,uy]},toks:=s.toks}:=
   I.laid (t':=s.toks) (fun b u e=>get?_push_of_some _ e) (le_refl _) ⟨by show 2<=sizeLine;decide,[ux,uy],.cons rx (.cons ry .nil),⟨_,get?_push_size _ rfl,rfl,_,rfl⟩⟩
  have v7:∀b∈[z,TI,TO,i1,i2],(upd H s.heap.objs.size (.tup [x,y])) b=none:=fun b hb=>by
   rw[bA (ne_of_lt (lt b hb))];exact(hf b hb).1
  have cn:∀b,b∉[z,TI,TO,i1,i2]->b≠z/\b≠TO/\b≠i1/\b≠i2:=fun b h=>by
   simp only[mem_cons,not_mem_nil,or_false,not_or]at h;exact⟨h.1,h.2.2.1,h.2.2.2.1,h.2.2.2.2⟩
  have nT:s.heap.objs.size≠z:=Nat.ne_of_gt (lt z (by simp));have I3:Inv X pins σ (upd H s.heap.objs.size (.tup [x,y])) {s with heap:=g',toks:=s.toks}:=rR (s:={s with heap:=s.heap.push {cls:=.type "tuple",data:=.seq #[ux,uy]},toks:=s.toks}) (h':=g') (t':=s.toks) (ch:=[z,TI,TO,i1,i2]) In (fun b o hb e=>by
   obtain⟨n1,n2,n3,n4⟩:=cn b hb;refine b8.extBut _ _ n1 ?_;rcases Heap.get?_push_cases (show(s.heap.push {cls:=.type "tuple",data:=.seq #[ux,uy]}).get? b=some o from e)with⟨e1,e2⟩|e1
   ·rw[e1,e2];exact b5
   ·exact b6 b o n1 n2 n3 n4 e1) fun b hb=>⟨v7 b hb,(hf b hb).2⟩
  refine⟨.ref s.heap.objs.size,upd H s.heap.objs.size (.tup [x,y]),I3,rfl,⟨_,x,y,rfl,I.bw.fresh (le_refl _),rfl,fun xs' ys' d1 d2=>?_⟩,⟨⟨_,_,b7,b8.extBut _ _ D.TIz (b6 _ _ D.TIz D.TITO D.TIi1 D.TIi2 Z.2.1),b8.extBut _ _ D.TOz b2⟩,b3.on fun o e=>b8.extBut _ _ D.i1z e,b4.on fun o e=>b8.extBut _ _ D.i2z e⟩,v7⟩;rw[yF I d1 c1,yF I d2 c2];exact⟨hx,hy⟩
 done:=by
  intro X hP hw hK hc i pins s σ H E I hf st hg;subst hP hw hK;obtain⟨⟨u,v,Z⟩,w1,w2⟩:=st;obtain⟨xs,ys,c1,c2,hl⟩:=hg;obtain⟨Dj,r1,p1⟩:=vM I c1;obtain⟨jB,r2,p2⟩:=vM I c2;have l1:=r1.length;have l2:=r2.length;have hT:s.TypeIs (.ref z) "zip":=⟨_,Z.1,rfl⟩;have ID:Dj.toArray[i]?=none\/jB.toArray[i]?=none:=hl.elim (fun h=>.inl (by simp;omega)) fun h=>.inr (by simp;omega);unfold pyNext;refine wpAny_bind (wpAny_attempt (wpAny_callSpecial?_slot (name:=Str.ofString "__next__") hT F.slot_zip_next (wpAny_call_entry F.slot_zip_next hT F.entry_zip_next (E6 (I.ok.hd hc) D Z w1 w2 p1 p2 ID fun g e k he=>?_) (F.args_zip_next_1 _))));obtain⟨o,ho,sM⟩:=he;refine wpAny_bind (wpAny_isInstance (T:="StopIteration") (b:=true) ⟨o,ho,sM⟩ isSubtype_stop (wpAny_pure ⟨rfl,?_⟩));exact rR (h':=g) (t':=s.toks) (ch:=[z,TI,TO,i1,i2]) I (fun b o hb e=>by
   simp only[mem_cons,not_mem_nil,or_false,not_or]at hb;exact k b o hb.1 hb.2.2.1 hb.2.2.2.1 hb.2.2.2.2 e) hf
 self:=fun A i s Q E st h=>wpAny_pyIter_zip st.1.choose_spec.choose_spec.1 h
def Us (K:Fg) (ta:TA):TI:=fun σ H R=>ta σ H fun vs H1=>∃k1 k2 a1 a2,vs=[.ref a1,.ref a2]/\(∃xs,qm K k1 H1 a1 xs)/\(∃ys,qm K k2 H1 a2 ys)/\R (Tb K k1 k2 a1 a2) H1
variable {a:Expr} {ta:TA}
theorem Nt{eM:List Expr}{pt:Pos}(hg:Gl X "zip")(hm:X.mg "zip"=none)(ha:PA X [a,b] ta)(hs:starEach [a,b] X.env=[(false,eval a X.env),(false,eval b X.env)]:=by rfl)(rj:starEach [b] X.env=[(false,eval b X.env)]:=by rfl):
  PI X (.Tuple eM kt pt) (.Call (.Name "zip" p) [a,b] [] pos) (Us X.K ta):=by
 intro pins s σ H R I h;refine Call_ (mW I hg hm boot_zip (PyProof.Rows.callWith_type1 (cg (ha pos pins s σ H _ I h) fun us s1 ⟨vs,H1,I1,r1,q1⟩=>?_) (by rw[hs,rj]) (by rw[rj];rfl)));obtain⟨k1,k2,a1,a2,e,⟨xs,c1⟩,⟨ys,c2⟩,q⟩:=q1;subst e;cases r1 with
 |cons r rr=>
  cases rr with
  |cons r' rr=>
   cases rr;cases r;cases r';obtain⟨Dj,_,p1⟩:=vM I1 c1;obtain⟨jB,_,p2⟩:=vM I1 c2;exact GQ p1 p2 fun h' z TI TO i1 i2 D Z w1 w2 kk new=>wpAny_pyIter_zip Z.1 ⟨z,[z,TI,TO,i1,i2],_,_,H1,rfl,I1.kept (t':=s1.toks) kk,Ho D,⟨⟨_,_,Z⟩,w1,w2⟩,fun b hb=>I1.wj (new b hb) (I1.bw.fresh (new b hb)),q⟩
def dN:List Dat->List Dat->List Dat
 |x::xs,y::ys=>.tuple [x,y]::dN xs ys
 |_,_=>[]
variable {fs:ax->Option (List Dat)} in
def Dl (fs:ax->Option (List Dat)):ax->Option (List Dat):=fun ρ=>(fs ρ).bind fun ds=>match ds with
 |[d1,d2]=>(cM d1).bind fun x=>(cM d2).map fun y=>dN x y
 |_=>none
theorem mJ:∀{xs ys:List Dat} {i:Nat},(dN xs ys).length=min xs.length ys.length/\∀d,(dN xs ys)[i]?=some d->∃x y,xs[i]?=some x/\ys[i]?=some y/\d=.tuple [x,y]
 |[],ys,i=>⟨by simp[dN],fun d h=>by simp[dN]at h⟩
 |x::xs,[],i=>⟨by simp[dN],fun d h=>by simp[dN]at h⟩
 |x::xs,y::ys,0=>⟨by
   have:=(mJ (xs:=xs) (ys:=ys) (i:=0)).1;simp only[dN,length_cons,this];omega,fun d h=>by simp[dN]at h;exact⟨x,y,rfl,rfl,h.symm⟩⟩
 |x::xs,y::ys,i+1=>⟨by
   have:=(mJ (xs:=xs) (ys:=ys) (i:=i)).1;simp only[dN,length_cons,this];omega,fun d h=>by
   obtain⟨a,b,h1,h2,h3⟩:=(mJ (xs:=xs) (ys:=ys) (i:=i)).2 d (by simpa [dN]using h);exact⟨a,b,by simpa using h1,by simpa using h2,h3⟩⟩
theorem zB(r:aP K H Av v d)(h:cM d=some ds):∃k a,v=.ref a/\∀H' j3,aP K H' j3 (.ref a) d->∃xs,qm K k H' a xs/\aC K H' j3 xs ds:=by
 cases d with
 |list f9=>
  cases h;obtain⟨a,xs,rfl,_,_⟩:=r.fY;refine⟨true,a,rfl,fun H' j3 r'=>?_⟩;obtain⟨_,xs,e,hq,rs⟩:=r'.fY;cases e;exact⟨xs,hq.sq,rs⟩
 |tuple f9=>
  cases h;obtain⟨a,xs,rfl,_,_⟩:=r.fz;refine⟨false,a,rfl,fun H' j3 r'=>?_⟩;obtain⟨_,xs,e,hq,rs⟩:=r'.fz;cases e;exact⟨xs,hq.sq,rs⟩
 |_=>cases h
open PySem PySem.Spec PyProof.Rows L2
open PySem.W (Dat kqdOk)
theorem ub{bg:List (Option Nat)}(hi:bg[i]?=some none)(hj:bg[j]?=some none):oz (lz 2 (gS (aName i) (gS (aName j) ny))) bg:=fun d as e p hp=>by
 unfold lz at e;split at e
 ·split at e
  ·rename_i ds hl;match ds,hl with
   |[a,b],_=>
    cases e;rcases mem_cons.mp hp with e|hp
    ·rw[e];exact hi
    ·rcases mem_cons.mp hp with e|hp
     ·rw[e];exact hj
     ·simp at hp
  ·cases e
 ·cases e
open PySem PySem.Spec PyProof.Rows L2
open PySem.W (Dat kqdOk)
theorem aC.rep{K:Fg}{H:Hp}{Av:gg}{vs:List V}{ds:List Dat}(h:aC K H Av vs ds):∀k:Nat,aC K H Av (List.replicate k vs).flatten (List.replicate k ds).flatten
 |0=>.nil
 |k+1=>by
  rw[replicate_succ,replicate_succ,flatten_cons,flatten_cons];exact h.append (aC.rep h k)
variable {fs:ax->Option (List Dat)} in
def pT (fs:ax->Option (List Dat)) (fb:ax->Option Dat):ax->Option (List Dat):=fun ρ=>(fs ρ).bind fun ds=>(fb ρ).bind fun d=>match d with
 | .int k=>if(-(2^63)<=k/\k<2^63)/\ds.length*k.toNat<=sizeLine then some (List.replicate k.toNat ds).flatten else none
 |_=>none
open PySem PySem.Spec PyProof.Rows L2
open PySem.W (Dat kqdOk)
variable {ts:List Expr} {env:Env}
theorem bS{k}:starEach (.Tuple ts k p::es) env=(false,eval (.Tuple ts k p) env)::starEach es env:=by rw[starEach];intro _ _ h;cases h
theorem d9{op}:starEach (.BinOp a op b p::es) env=(false,eval (.BinOp a op b p) env)::starEach es env:=by rw[starEach];intro _ _ h;cases h
theorem gj{op}:starEach (.UnaryOp op a p::es) env=(false,eval (.UnaryOp op a p) env)::starEach es env:=by rw[starEach];intro _ _ h;cases h
theorem aD:starEach (.Subscript a b p::es) env=(false,eval (.Subscript a b p) env)::starEach es env:=by rw[starEach];intro _ _ h;cases h
theorem aW{ks}:starEach (.Call a ts ks p::es) env=(false,eval (.Call a ts ks p) env)::starEach es env:=by rw[starEach];intro _ _ h;cases h
theorem Hs{os}:starEach (.Compare a os ts p::es) env=(false,eval (.Compare a os ts p) env)::starEach es env:=by rw[starEach];intro _ _ h;cases h
open PySem PySem.Spec PyProof.Rows L2
open PySem.W (Dat kqdOk)
structure QE (X:Cx) (e:Expr) (t:TE):Prop where
 o:PE X e t
structure QT (X:Cx) (e:Expr) (t:TT):Prop where
 o:PT X e t
structure QW (X:Cx) (e:Expr) (t:TT):Prop where
 o:PW X e t
structure QA (X:Cx) (e:List Expr) (t:TA):Prop where
 o:PA X e t
structure QS (X:Cx) (e:Stmt) (t:TS):Prop where
 o:PS X e t
structure Ys (X:Cx) (e:List Stmt) (t:TS):Prop where
 o:lR X e t
structure QG (X:Cx) (e:Expr) (t:TG):Prop where
 o:PG X e t
structure KH (X:Cx) (e:List Expr) (t:sS):Prop where
 o:Ax X e t
structure QI (X:Cx) (tg e:Expr) (t:TI):Prop where
 o:PI X tg e t
structure QO (X:Cx) (e:Option Expr) (t:TO):Prop where
 o:PO X e t
structure Cy (X:Cx) (e:List Expr) (t:TT):Prop where
 o:Ha X e t
abbrev QF (X:Cx) (e:Expr) (f:ax->Option Dat):Prop:=QE X e (tF X.K f)
abbrev jh (X:Cx) (e:Expr) (f:ax->Option Bool):Prop:=QT X e (nH X.K f)
abbrev Aw (X:Cx) (e:Expr) (f:ax->Option Bool):Prop:=QW X e (nH X.K f)
abbrev jQ (X:Cx) (e:List Expr) (f:ax->Option (List Dat)):Prop:=QA X e (Jz X.K f)
abbrev gM (X:Cx) (e:Stmt) (f:aG->Option Fl):Prop:=QS X e (yB X.K f)
abbrev jg (X:Cx) (e:List Stmt) (f:aG->Option Fl):Prop:=Ys X e (yB X.K f)
abbrev QH (X:Cx) (e:Expr) (f:HF):Prop:=QE X e (tH X.K f)
abbrev SS (X:Cx) (e:Expr) (f:aG->Option (Bool×aG)):Prop:=QT X e (Rj X.K f)
abbrev Au (X:Cx) (e:List Expr) (f:aG->Option (List Dat×aG)):Prop:=QA X e (MS X.K f)
abbrev vz (X:Cx) (tg e:Expr) (f:ax->Option (List Dat)):Prop:=QI X tg e (Jy X.K f)
abbrev KI (X:Cx) (e:Option Expr) (f:ax->Option (Option Int)):Prop:=QO X e (Rk X.K f)
theorem a5(i:Nat)(hN:X.N[i]?=some x:=by rfl)(hv:nA X.env.scope x:=by first|exact Or.inl rfl|exact Or.inr (Or.inl rfl)|exact Or.inr (Or.inr rfl))(hd:(x==("__debug__" : Str))=false:=by decide)(gB:(x==("__classdict__" : Str))=false:=by decide):
  QF X (.Name x pos) (aA i):=⟨bh (mS hN hv hd gB) fun σ H Q aQ=>by
 obtain⟨Av,ρ,d,hA,hE,hf,q⟩:=aQ;obtain⟨v,e1,r⟩:=hE i d (join_some hf);exact⟨v,e1,q v H (aV.refl H) r⟩⟩
theorem a8{i j pos}:
  QF X (.Constant (.int i) j pos) (fC (.int i)):=⟨bh ES fun σ H Q ⟨Av,ρ,d,hA,hE,hf,q⟩=>by cases hf;exact q _ H (aV.refl H) (.int i)⟩
theorem cG{i j pos}:
  QF X (.Constant (.bool i) j pos) (fC (.bool i)):=⟨bh Qz fun σ H Q ⟨Av,ρ,d,hA,hE,hf,q⟩=>by cases hf;exact q _ H (aV.refl H) (.bl i)⟩
theorem bK{j pos}:
  QF X (.Constant .none j pos) (fC .none):=⟨bh NA fun σ H Q ⟨Av,ρ,d,hA,hE,hf,q⟩=>by cases hf;exact q _ H (aV.refl H) .bR⟩
theorem aT{i j pos}:
  QF X (.Constant (.str i) j pos) (fC (.str i)):=⟨bh Nw fun σ H Q ⟨Av,ρ,d,hA,hE,hf,q⟩=>by cases hf;exact q _ H (aV.refl H) (.str i)⟩
variable {fa:ax->Option Dat}
theorem bb(ha:QF X a fa)(he:∀whole,isTrue a X.env whole=(do let v <- whole;standAt a.pos;holding [v] (truthy v)):=by intro _;rfl):
  jh X a (gh fa):=⟨rW (HI ha.o he) fun σ H Q aQ=>by
 obtain⟨Av,ρ,b,hA,hE,hf,q⟩:=aQ;obtain⟨d,e1,hf⟩:=bind_some hf;exact⟨Av,ρ,d,hA,hE,e1,fun v H' s r=>⟨b,MO r hf,q H' s⟩⟩⟩
theorem cP(ha:jh X a ft):
  Aw X (.BoolOp .And [a] pos) ft:=⟨Ll ha.o⟩
theorem cC(ha:jh X a ft):
  Aw X (.BoolOp .Or [a] pos) ft:=⟨Nk ha.o⟩
variable {gt:ax->Option Bool}
variable {rest:List Expr} in
theorem cQ(ha:jh X a ft)(hb:Aw X (.BoolOp .And (b::rest) pos) gt):
  Aw X (.BoolOp .And (a::b::rest) pos) (cU ft gt):=⟨Bj (Nl ha.o hb.o) fun σ H Q aQ=>by
 obtain⟨Av,ρ,k,hA,hE,hf,q⟩:=aQ;obtain⟨c,e1,hf⟩:=bind_some hf;refine⟨Av,ρ,c,hA,hE,e1,fun H1 s1=>?_⟩;cases c with
 |true=>rw[if_pos rfl]at hf ⊢;exact⟨Av,ρ,k,hA.same s1,hE.same s1,hf,fun H2 s2=>q H2 (s1.trans s2)⟩
 |false=>rw[if_neg Bool.false_ne_true]at hf ⊢;cases hf;exact q H1 s1⟩
variable {rest:List Expr} in
theorem c9(ha:jh X a ft)(hb:Aw X (.BoolOp .Or (b::rest) pos) gt):
  Aw X (.BoolOp .Or (a::b::rest) pos) (fu ft gt):=⟨Bj (Qs ha.o hb.o) fun σ H Q aQ=>by
 obtain⟨Av,ρ,k,hA,hE,hf,q⟩:=aQ;obtain⟨c,e1,hf⟩:=bind_some hf;refine⟨Av,ρ,c,hA,hE,e1,fun H1 s1=>?_⟩;cases c with
 |false=>rw[if_neg Bool.false_ne_true]at hf ⊢;exact⟨Av,ρ,k,hA.same s1,hE.same s1,hf,fun H2 s2=>q H2 (s1.trans s2)⟩
 |true=>rw[if_pos rfl]at hf ⊢;cases hf;exact q H1 s1⟩
theorem bO(h:Aw X e ft):
  jh X e ft:=⟨h.o.pt⟩
theorem cW(ha:jh X a ft):
  jh X (.UnaryOp .Not a pos) (ir ft):=⟨rW (Nn ha.o) fun σ H Q aQ=>by
 obtain⟨Av,ρ,k,hA,hE,hf,q⟩:=aQ;unfold ir at hf;cases e:ft ρ with
 |none=>rw[e]at hf;cases hf
 |some c=>rw[e]at hf;cases hf;exact⟨Av,ρ,c,hA,hE,e,q⟩⟩
theorem dW{op}(h:QF X a fa):
  QF X (.BoolOp op [a] pos) fa:=⟨Ny h.o⟩
variable {rest:List Expr} in
theorem fS(ha:QF X a fa)(hb:QF X (.BoolOp .And (b::rest) pos) fb):
  QF X (.BoolOp .And (a::b::rest) pos) (ox fa fb):=⟨bh (NB ha.o hb.o) fun σ H Q aQ=>by
 obtain⟨Av,ρ,k,hA,hE,hf,q⟩:=aQ;obtain⟨d,e1,zO⟩:=bind_some hf;clear hf;obtain⟨c,e2,hf⟩:=bind_some zO;clear zO;have e3:=nv e2;subst e3;refine⟨Av,ρ,_,hA,hE,e1,fun x H1 s1 r=>⟨c,r.gD,?_⟩⟩;cases c with
 |true=>rw[if_pos rfl]at hf ⊢;exact⟨Av,ρ,k,hA.same s1,hE.same s1,hf,fun v H2 s2 r2=>q v H2 (s1.trans s2) r2⟩
 |false=>rw[if_neg Bool.false_ne_true]at hf ⊢;cases hf;exact q _ H1 s1 (.bl false)⟩
variable {rest:List Expr} in
theorem oF(ha:QF X a fa)(hb:QF X (.BoolOp .Or (b::rest) pos) fb):
  QF X (.BoolOp .Or (a::b::rest) pos) (sP fa fb):=⟨bh (Qx ha.o hb.o) fun σ H Q aQ=>by
 obtain⟨Av,ρ,k,hA,hE,hf,q⟩:=aQ;obtain⟨d,e1,zO⟩:=bind_some hf;clear hf;obtain⟨c,e2,hf⟩:=bind_some zO;clear zO;have e3:=nv e2;subst e3;refine⟨Av,ρ,_,hA,hE,e1,fun x H1 s1 r=>⟨c,r.gD,?_⟩⟩;cases c with
 |false=>rw[if_neg Bool.false_ne_true]at hf ⊢;exact⟨Av,ρ,k,hA.same s1,hE.same s1,hf,fun v H2 s2 r2=>q v H2 (s1.trans s2) r2⟩
 |true=>rw[if_pos rfl]at hf ⊢;cases hf;exact q _ H1 s1 (.bl true)⟩
theorem Bi(ha:QF X a fa):
  QF X (.UnaryOp .Not a pos) (rF fa):=⟨bh (Nz ha.o) fun σ H Q aQ=>by
 obtain⟨Av,ρ,k,hA,hE,hf,q⟩:=aQ;obtain⟨d,e1,hf⟩:=bind_some hf;cases e2:lQ d with
 |none=>rw[e2]at hf;cases hf
 |some c=>
  rw[e2]at hf;cases hf;have e3:=nv e2;subst e3;exact⟨Av,ρ,_,hA,hE,e1,fun x H1 s1 r=>⟨c,r.gD,q _ H1 s1 (.bl _)⟩⟩⟩
theorem gy(hc:jh X c ft)(ha:QF X a fa)(hb:QF X b fb):
  QF X (.IfExp c a b pos) (vd ft fa fb):=⟨bh (HS hc.o ha.o hb.o) fun σ H Q aQ=>by
 obtain⟨Av,ρ,k,hA,hE,hf,q⟩:=aQ;obtain⟨c',e1,hf⟩:=bind_some hf;refine⟨Av,ρ,c',hA,hE,e1,fun H1 s1=>?_⟩;cases c' with
 |true=>rw[if_pos rfl]at hf ⊢;exact⟨Av,ρ,k,hA.same s1,hE.same s1,hf,fun v H2 s2 r2=>q v H2 (s1.trans s2) r2⟩
 |false=>rw[if_neg Bool.false_ne_true]at hf ⊢;exact⟨Av,ρ,k,hA.same s1,hE.same s1,hf,fun v H2 s2 r2=>q v H2 (s1.trans s2) r2⟩⟩
theorem a9:
  jQ X [] bp:=⟨rY qS fun σ H Q ⟨Av,ρ,d,hA,hE,hf,q⟩=>by cases hf;exact q _ H (aV.refl H) .nil⟩
variable {fs:ax->Option (List Dat)} in
theorem a6(ha:QF X e fa)(hr:jQ X es fs)(hs:starEach (e::es) X.env=(false,eval e X.env)::starEach es X.env:=by rfl):
  jQ X (e::es) (ay fa fs):=⟨rY (kj ha.o hr.o hs) fun σ H Q aQ=>by
 obtain⟨Av,ρ,d,hA,hE,hf,q⟩:=aQ;obtain⟨dx,e1,hf⟩:=bind_some hf;obtain⟨ds,e2,hf⟩:=bj hf;subst hf;exact⟨Av,ρ,dx,hA,hE,e1,fun x H1 s1 r1=>⟨Av,ρ,ds,hA.same s1,hE.same s1,e2,fun xs H2 s2 r2=>q _ H2 (s1.trans s2) (.cons (r1.same s2) r2)⟩⟩⟩
variable {fs:ax->Option (List Dat)} in
theorem aS{k:Nat}(h:jQ X es fs){x1}:
  QF X (.Tuple es x1 pos) (dH fs):=⟨bh (EO h.o) fun σ H Q aQ=>by
 obtain⟨Av,ρ,d,hA,hE,hf,q⟩:=aQ;obtain⟨ds,e1,hf⟩:=bind_some hf;split at hf
 ·rename_i hz;cases hf;exact⟨Av,ρ,ds,hA,hE,e1,fun xs H1 s1 r1=>⟨by rw[r1.length];exact hz,fun p hp=>q _ _ (s1.trans (bZ hp _)) (.tw (hA.same s1) hp r1)⟩⟩
 ·cases hf⟩
variable {fs:ax->Option (List Dat)} in
theorem gV(h:jQ X es fs):
  QF X (.List es pos) (lr fs):=⟨bh (ER h.o) fun σ H Q aQ=>by
 obtain⟨Av,ρ,d,hA,hE,hf,q⟩:=aQ;obtain⟨ds,e1,hf⟩:=bind_some hf;split at hf
 ·rename_i hz;cases hf;exact⟨Av,ρ,ds,hA,hE,e1,fun xs H1 s1 r1=>⟨by rw[r1.length];exact hz,fun p hp=>q _ _ (s1.trans (bZ hp _)) (.pG (hA.same s1) hp r1)⟩⟩
 ·cases hf⟩
variable {k:Nat}
variable {fs:ax->Option (List Dat)} in
theorem aw(D:Dn X.prog X.w X.K X.mg X.base k x ps n F)(hr:cA k X.A)(ha:jQ X (e::es) fs)(hg:Gl X x:=by rfl)(iI:(x==("__debug__" : Str))=false:=by decide)(he:starEach (e::es) X.env=(false,eval e X.env)::starEach es X.env:=by rfl)(dB:(backTo pos (starEach es X.env)).any (·.1)=false:=by rfl):
  QF X (.Call (.Name x p) (e::es) [] pos) (ia n F fs):=⟨by
 obtain⟨f,fd,h1,h2,h3,h4⟩:=D.ex;exact bh (oJ h1 hr hg h2 h3 h4 .nil uI ha.o iI he dB) Qi⟩
theorem aH:
  jg X [] ic:=⟨yT Lo fun D σ H ⟨aj,Av,pn,aK,Γ,fl,G,hf,q⟩=>by cases hf;exact q σ H G⟩
theorem ag(h:gM X st g):
  jg X [st] g:=⟨Bo h.o⟩
variable {rest:List Stmt} in
theorem ae(h1:gM X st g1)(h2:jg X rest g2):
  jg X (st::rest) (dE g1 g2):=⟨yT (HJ h1.o h2.o) fun D σ H aQ=>by
 obtain⟨aj,Av,pn,aK,Γ,fl,G,hf,q⟩:=aQ;obtain⟨rE,e1,hf⟩:=bind_some hf;refine⟨aj,Av,pn,aK,Γ,rE,G,e1,?_⟩;cases rE with
 |nx ah=>exact fun bI H' G'=>⟨aj,Av,pn,aK,ah,fl,G',hf,q⟩
 |rt d=>cases hf;exact q
 |bk ah=>cases hf;exact q
 |ct ah=>cases hf;exact q
 |rm d ah=>cases hf;exact q⟩
theorem ar(h:QF X e f):
  gM X (.Return (some e) pos) (mO f):=⟨cD (uF h.o) fun D σ H aQ=>by
 obtain⟨aj,Av,pn,aK,Γ,fl,⟨ad,G⟩,hf,q⟩:=aQ;obtain⟨d,e1,hf⟩:=bj hf;subst hf;exact⟨Av,bX Γ,d,G.jP.same G.same,G.rG,e1,fun v H' s r=>q v H' (G.same.trans s) r⟩⟩
theorem aM{a b:List Stmt}(hc:jh X c ft)(ha:jg X a g1)(hb:jg X b g2):
  gM X (.If c a b pos) (kW ft g1 g2):=⟨cD (JM hc.o ha.o hb.o) fun D σ H aQ=>by
 obtain⟨aj,Av,pn,aK,Γ,fl,⟨ad,G⟩,hf,q⟩:=aQ;obtain⟨k,e1,hf⟩:=bind_some hf;refine⟨Av,bX Γ,k,G.jP.same G.same,G.rG,e1,fun H' s=>?_⟩;cases k with
 |true=>rw[if_pos rfl]at hf ⊢;exact⟨aj,Av,pn,aK,Γ,fl,⟨ad,G.grow s⟩,hf,q⟩
 |false=>rw[if_neg Bool.false_ne_true]at hf ⊢;exact⟨aj,Av,pn,aK,Γ,fl,⟨ad,G.grow s⟩,hf,q⟩⟩
variable {pos':Pos}
theorem az(i:Nat)(hN:X.N.Nodup)(h:QF X e f)(hi:X.N[i]?=some x:=by rfl)(hx:Loc X.env.scope x:=by first|exact .inl rfl|exact .inr rfl)(hs:swapsWith e (some (.Name x pos')) pos.line X.env=pure false:=by rfl)(hf:X.fn x=true\/X.env.scope.names.lookup x=some .local:=by first|exact .inl rfl|exact .inr rfl):
  gM X (.Assign [.Name x pos'] e pos) (gU i f):=⟨cD (qO hN hi hx h.o hs hf) MQ⟩
theorem aB(i:Nat)(hN:X.N.Nodup)(hi:X.N[i]?=some x:=by rfl)(hx:Loc X.env.scope x:=by first|exact .inl rfl|exact .inr rfl)(hf:X.fn x=true\/X.env.scope.names.lookup x=some .local:=by first|exact .inl rfl|exact .inr rfl):
  QG X (.Name x pos) (kA X.K (aName i)):=⟨Br (Ly hN hi hx hf) fun v σ H Q ⟨Av,d,as,r,e,q⟩=>by cases e;exact q [(i,v)] (.cons r .nil)⟩
theorem cV:
  KH X [] (CF X.K ny):=⟨yW Lx fun vs σ H Q aQ=>by
 obtain⟨Av,ds,as,r,e,q⟩:=aQ;cases r with
 |nil=>cases e;exact⟨rfl,q [] .nil⟩
 |cons _ _=>cases e⟩
variable {gt:Dat->Option dk}
theorem aY{eM:List Expr}{Ge:List Dat->Option dk}(h1:QG X tg (kA X.K gt))(h2:KH X eM (CF X.K Ge))(hs:(assignEach (tg::eM) X.env).map (·.2)=assign tg X.env::(assignEach eM X.env).map (·.2):=by rfl):
  KH X (tg::eM) (CF X.K (gS gt Ge)):=⟨yW (HR h1.o h2.o hs) fun vs σ H Q aQ=>by
 obtain⟨Av,ds,as,r,e,q⟩:=aQ;cases r with
 |nil=>cases e
 | @cons v Vh d f9 rd rr=>
  obtain⟨a,e1,e⟩:=bind_some (show(gt d).bind _=some as from e);obtain⟨b,e2,e⟩:=bj e;subst e;refine⟨v,Vh,rfl,Av,d,a,rd,e1,fun ws hw=>⟨Av,f9,b,rr,e2,fun us hu=>?_⟩⟩;have:=q (ws++us) (hw.append hu);unfold pd at this ⊢;rw[List.foldl_append]at this;exact this⟩
theorem dG{eM:List Expr}{Ge:List Dat->Option dk}(hc:X.calm=true)(h:KH X eM (CF X.K Ge))(hn:(assignEach eM X.env).length=n:=by rfl)(fm:(assignEach eM X.env).findIdx? (·.1)=none:=by rfl):
  QG X (.Tuple eM k pos) (kA X.K (lz n Ge)):=⟨Br (Nv hc h.o hn fm) fun v σ H Q aQ=>by
 obtain⟨Av,d,as,r,e,q⟩:=aQ;unfold lz at e;split at e
 ·split at e
  ·rename_i ds hl;obtain⟨a,xs,rfl,hq,rs⟩:=r.fz;exact⟨a,xs,rfl,hq.sq,by rw[rs.length];exact hl,Av,ds,as,rs,e,q⟩
  ·cases e
 ·cases e⟩
theorem pg(h:QF X e f)(hg:QG X tg (kA X.K gt))(hs:swapsWithSole [tg] e pos.line X.env=pure false:=by rfl)(hw:swappedStores [tg] e X.env=pure none:=by rfl)(h1:(assignEach [tg] X.env).map (·.2)=[assign tg X.env]:=by rfl):
  gM X (.Assign [tg] e pos) (qF gt f):=⟨cD (qP h.o hg.o hs hw h1) fun D σ H aQ=>by
 obtain⟨aj,Av,pn,aK,Γ,fl,⟨ad,G⟩,hf,q⟩:=aQ;obtain⟨d,e1,hf⟩:=bind_some hf;obtain⟨as,e2,hf⟩:=bj hf;subst hf;exact⟨aX Av Γ ad,bx Γ,d,G.gE,G.iR,e1,fun v H' s r=>⟨aX Av Γ ad,d,as,r,e2,fun ws hw=>q _ _ ⟨ad,GA.j4 hw (fun _ z=>z) (G.grow s)⟩⟩⟩⟩
variable {body:List Stmt}
theorem dF(hp:PassesOwn (model X.prog X.w) X.A X.env X.xe)(hc:X.calm=true)(hi:QF X iter f)(hg:QG X tg (kA X.K gt))(hb:jg X body gb)(hs:∀x,foldedSetIterable iter X.env x=pure x:=by intro _;rfl):
  gM X (.For tg iter body [] pos) (kG gt gb f):=⟨cD (yU hp hc (uG hi.o) hg.o hb.o hs) fun D σ H aQ=>by
 obtain⟨aj,Av,pn,aK,Γ,fl,⟨ad,G⟩,hf,q⟩:=aQ;obtain⟨d,e1,hf⟩:=bind_some hf;obtain⟨ds,e2,hf⟩:=bind_some hf;refine⟨aX Av Γ ad,bx Γ,d,G.gE,G.iR,e1,fun x H1 s1 r=>?_⟩;cases d with
 |list f9=>
  cases e2;obtain⟨a,xs,rfl,hq,rs⟩:=r.fY;exact⟨a,rfl,.inl ⟨⟨xs,hq.sq⟩,rC qT ⟨ad,(G.grow s1).hide r⟩ hf q⟩⟩
 |tuple f9=>
  cases e2;obtain⟨a,xs,rfl,hq,rs⟩:=r.fz;exact⟨a,rfl,.inr ⟨⟨xs,hq.sq⟩,rC tq ⟨ad,(G.grow s1).hide r⟩ hf q⟩⟩
 |_=>cases e2⟩
variable {fs:ax->Option (List Dat)} in
theorem CP(hp:PassesOwn (model X.prog X.w) X.A X.env X.xe)(hc:X.calm=true)(hm:X.mg "range"=none)(ha:jQ X [a] fs)(hg:QG X tg (kA X.K gt))(hb:jg X body gb)(OG:Gl X "range":=by rfl)(fm:starEach [a] X.env=[(false,eval a X.env)]:=by rfl)(hs:∀x,foldedSetIterable (.Call (.Name "range" p) [a] [] pos') X.env x=pure x:=by intro _;rfl):
  gM X (.For tg (.Call (.Name "range" p) [a] [] pos') body [] pos) (CK oo gt gb fs):=⟨cD (yU hp hc (xk OG hm ha.o fm) hg.o hb.o hs) fun D σ H aQ=>by
 obtain⟨aj,Av,pn,aK,Γ,fl,⟨ad,G⟩,hf,q⟩:=aQ;obtain⟨as,e1,hf⟩:=bind_some hf;obtain⟨ds,e2,hf⟩:=bind_some hf;refine⟨Av,bX Γ,as,G.jP.same G.same,G.rG,e1,fun vs H1 s1 r=>?_⟩;unfold oo at e2;split at e2
 ·rename_i j;split at e2
  ·rename_i hj;cases e2;obtain⟨v,rfl,rv⟩:=r.dZ;rw[rv.cN];exact⟨j,rfl,hj.1,hj.2,rC uJ ⟨ad,(G.grow s1).hide .bR⟩ hf q⟩
  ·cases e2
 ·cases e2⟩
theorem uB(fuel:aG->Nat)(hp:PassesOwn (model X.prog X.w) X.A X.env X.xe)(hc:jh X c ft)(hb:jg X body gb):
  gM X (.While c body [] pos) (mN fuel ft gb):=⟨cD (HL hp hc.o hb.o) fun D σ H aQ=>by
 obtain⟨aj,Av,pn,aK,Γ,fl,G,hf,q⟩:=aQ;refine⟨fun m σ H=>∃Γ,lX X.K aj Av pn aK H σ Γ/\fT ft gb m Γ=some fl,⟨_,Γ,G,hf⟩,?_⟩;rintro m σ H ⟨Γ,⟨ad,G⟩,hf⟩;cases m with
 |zero=>cases hf
 |succ m=>
  obtain⟨k,e1,hf⟩:=bind_some (show(ft (bX Γ)).bind _=some fl from hf);refine⟨Av,bX Γ,k,G.jP.same G.same,G.rG,e1,fun H1 s1=>?_⟩;cases k with
  |false=>
   rw[if_neg Bool.false_ne_true]at hf ⊢;cases hf;exact q σ H1 ⟨ad,G.grow s1⟩
  |true=>
   rw[if_pos rfl]at hf ⊢;obtain⟨rE,e2,hf⟩:=bind_some hf;refine⟨fun bI H'=>∃ah,lX X.K aj Av pn aK H' bI ah/\fT ft gb m ah=some fl,fun bI H' ⟨ah,G',h'⟩=>⟨m,Nat.lt_succ_self m,ah,G',h'⟩,aj,Av,pn,aK,Γ,rE,⟨ad,G.grow s1⟩,e2,?_⟩;cases rE with
   |nx ah=>exact fun gn H2 G2=>⟨ah,G2,hf⟩
   |ct ah=>exact fun gn H2 G2=>⟨ah,G2,hf⟩
   |bk ah=>cases hf;exact fun gn H2 G2=>q gn H2 G2
   |rt v=>cases hf;exact q
   |rm v ah=>cases hf;exact q⟩
variable {fs:ax->Option (List Dat)} in
theorem j6(h:jQ X es fs):
  QE X (.List es pos) (jG X.K (nU fs)):=⟨bh (ER h.o) fun σ H Q aQ=>by
 obtain⟨Av,ρ,d,hA,hE,hf,q⟩:=aQ;obtain⟨ds,e1,hf⟩:=bind_some hf;obtain⟨hz,e2⟩:=C4 hf;cases e2;exact⟨Av,ρ,d,hA,hE,e1,fun xs H1 s1 r1=>⟨by rw[r1.length];exact hz,fun p hp=>q H1 p xs s1 hp r1⟩⟩⟩
variable {fs:ax->Option (List Dat)} in
theorem mP(i:Nat)(hN:X.N.Nodup)(h:QE X e (jG X.K fs))(oQ:i≠0:=by decide)(hi:X.N[i]?=some x:=by rfl)(hx:Loc X.env.scope x:=by first|exact .inl rfl|exact .inr rfl)(hs:swapsWith e (some (.Name x pos')) pos.line X.env=pure false:=by rfl)(hf:X.fn x=true\/X.env.scope.names.lookup x=some .local:=by first|exact .inl rfl|exact .inr rfl):
  gM X (.Assign [.Name x pos'] e pos) (vO i fs):=⟨cD (qO hN hi hx h.o hs hf) fun D σ H aQ=>by
 obtain⟨aj,Av,pn,aK,Γ,fl,⟨ad,G⟩,hf,q⟩:=aQ;obtain⟨ds,e1,hf⟩:=bj hf;subst hf;exact⟨aX Av Γ ad,bx Γ,ds,G.gE,G.iR,e1,fun H1 p xs s hp r=>q _ _ ⟨_,(G.grow s).N1 i oQ hp r⟩⟩⟩
variable {p1 p2 p3:Pos}
theorem jJ(i:Nat)(h:QF X e f)(hN:X.N[i]?=some x:=by rfl)(hv:nA X.env.scope x:=by first|exact Or.inl rfl|exact Or.inr (Or.inl rfl)|exact Or.inr (Or.inr rfl))(hd:(x==("__debug__" : Str))=false:=by decide)(gB:(x==("__classdict__" : Str))=false:=by decide)(Dv:attributeBase (.Name x p1) "append" X.env (eval (.Name x p1) X.env)=eval (.Name x p1) X.env:=by rfl)(IC:((backTo p3 (starEach [e] X.env)).all (fun x=>!x.1)&&(backToKw p3 (keywordEach [] X.env)).all (fun x=>x.1.isSome)&&decide (([e]:List Expr).length+([]:List Keyword).length+(if([]:List Keyword).isEmpty then 0 else 1)<30))=true:=by rfl)(Ds:(p2.endLine==p3.line)=true:=by rfl)(RR:starEach [e] X.env=(false,eval e X.env)::starEach [] X.env:=by rfl)(zM:(backTo p3 (starEach [] X.env)).any (·.1)=false:=by rfl)(hs:swapsWith (.Call (.Attribute (.Name x p1) "append" p2) [e] [] p3) none pos.line X.env=pure false:=by rfl):
  gM X (.Expr (.Call (.Attribute (.Name x p1) "append" p2) [e] [] p3) pos) (t9 i f):=⟨cD (Lp (Qy PySem.F.plainAttrs_list PySem.F.slot_list_append PySem.F.type_list_append Fy (mS hN hv hd gB) (kj h.o qS RR) Dv IC Ds RR zM) hs) fun D σ H aQ=>by
 obtain⟨aj,Av,pn,aK,Γ,fl,⟨ad,G⟩,hf,q⟩:=aQ;unfold t9 at hf;split at hf
 ·rename_i ds hi;obtain⟨d,e1,hf⟩:=bind_some hf;obtain⟨hz,hf⟩:=C4 hf;cases hf;obtain⟨xs,g1,g2,g3,g4⟩:=G.own i ds hi;refine⟨_,g1,.inl ⟨rfl,xs,.of g2⟩,aX Av Γ ad,bx Γ,d,G.gE,G.iR,e1,fun v H1 s1 r=>?_⟩;have G1:=G.grow s1;obtain⟨MG,k1,k2,k3,k4⟩:=G1.own i ds hi;exact⟨_,MG,v,rfl,rfl,k2,by rw[k3.length];exact hz,q _ _ ⟨ad,G1.change hi (k3.append (.cons r .nil))⟩⟩
 ·cases hf⟩
theorem iC{fa:Addr}(U:nZ K x qual st fa fd)(hm:mg x=some (.ref fa))(hB:Binds K fd ps [])(S:gk N ps (ba st))(hn:ps.length=n)(hbody:∀(bG:Value) (A:Around) (outer:List Env) (s:Shared) (H:Hp) (E:XK),cA k (A.deeper (envOfC qual (ba st) s.heap.objs.size fa bG))->jg (k6 jy P w K mg base N qual (ba st) fa bG A outer s H E).oK (dw st) g)(hF:∀ds d,ds.length=n->F ds=some d->jX N g ds=some d):
  Dn P w K mg base (k+1) x ps n F:=
 R5 (U:=U) (hm:=hm) (hB:=hB) (S:=S) (hn:=hn) (hbody:=(fun a b c d e f g=>(hbody a b c d e f g).o)) (hF:=hF)
theorem dX(ha:QF X a fa)(hb:QF X b fb):
  QF X (.BinOp a .Add b pos) (f2 lV fa fb):=⟨mR (zg.or pv) (by
 intro H Av x y dx dy d Q hA rx ry h q;unfold lV at h;split at h
 ·cases h;exact .inl ⟨_,_,rx.cN,ry.cN,q _ H (aV.refl H) (.int _)⟩
 ·split at h
  ·rename_i hz;cases h;exact .inr ⟨_,_,rx.iS,ry.iS,hz,q _ H (aV.refl H) (.str _)⟩
  ·cases h
 ·cases h) ha.o hb.o⟩
theorem kf(ha:QF X a fa)(hb:QF X b fb):
  QF X (.BinOp a .Sub b pos) (f2 oj fa fb):=⟨mR Bv pA ha.o hb.o⟩
theorem bQ(ha:QF X a fa)(hb:QF X b fb):
  QF X (.BinOp a .Mult b pos) (f2 jA fa fb):=⟨mR Bx pA ha.o hb.o⟩
theorem ie(ha:QF X a fa)(hb:QF X b fb):
  QF X (.BinOp a .FloorDiv b pos) (f2 si fa fb):=⟨mR HV pA ha.o hb.o⟩
theorem jm(ha:QF X a fa)(hb:QF X b fb):
  QF X (.BinOp a .Mod b pos) (f2 vX fa fb):=⟨mR HU pA ha.o hb.o⟩
theorem mD(ha:QF X a fa)(hb:QF X b fb):
  QF X (.BinOp a .Pow b pos) (f2 ph fa fb):=⟨mR NF pA ha.o hb.o⟩
theorem uE(ha:QF X a fa)(hb:QF X b fb):
  QF X (.Compare a [.Lt] [b] pos) (f2 zw fa fb):=⟨qQ JS rZ ha.o hb.o (fj _)⟩
theorem EI(ha:QF X a fa)(hb:QF X b fb):
  QF X (.Compare a [.Gt] [b] pos) (f2 rA fa fb):=⟨qQ JT rZ ha.o hb.o (fj _)⟩
theorem kc(ha:QF X a fa)(hb:QF X b fb):
  jh X (.Compare a [.Lt] [b] pos) (bc (f2 zw fa fb)):=⟨gW JS rZ ha.o hb.o (fj _)⟩
theorem Lh(ha:QF X a fa)(hb:QF X b fb):
  jh X (.Compare a [.LtE] [b] pos) (bc (f2 RI fa fb)):=⟨gW QB rZ ha.o hb.o (fj _)⟩
theorem l8(ha:QF X a fa)(hb:QF X b fb):
  jh X (.Compare a [.Gt] [b] pos) (bc (f2 rA fa fb)):=⟨gW JT rZ ha.o hb.o (fj _)⟩
theorem Li(ha:QF X a fa)(hb:QF X b fb):
  jh X (.Compare a [.GtE] [b] pos) (bc (f2 Sr fa fb)):=⟨gW QC rZ ha.o hb.o (fj _)⟩
theorem dr(ha:QF X a fa):
  QF X (.UnaryOp .USub a pos) (f1 lb fa):=⟨Qv MK (by
 intro H Av x dx d Q hA rx h q;unfold lb at h;split at h
 ·cases h;exact⟨_,rx.cN,q _ H (aV.refl H) (.int _)⟩
 ·cases h) ha.o⟩
theorem fH(hr:cA k X.A)(ha:QF X a fa)(hb:QF X b fb):
  QF X (.Compare a [.Eq] [b] pos) (f2 cH fa fb):=⟨qQ (yg.or (uM hr.units)) uN ha.o hb.o (fj _)⟩
theorem EH(hr:cA k X.A)(ha:QF X a fa)(hb:QF X b fb):
  QF X (.Compare a [.NotEq] [b] pos) (f2 fI fa fb):=⟨qQ (JR.or (EX hr.units)) F1 ha.o hb.o (fj _)⟩
theorem bV(hr:cA k X.A)(ha:QF X a fa)(hb:QF X b fb):
  jh X (.Compare a [.Eq] [b] pos) (bc (f2 cH fa fb)):=⟨gW (yg.or (uM hr.units)) uN ha.o hb.o (fj _)⟩
theorem dm(hr:cA k X.A)(ha:QF X a fa)(hb:QF X b fb):
  jh X (.Compare a [.NotEq] [b] pos) (bc (f2 fI fa fb)):=⟨gW (JR.or (EX hr.units)) F1 ha.o hb.o (fj _)⟩
variable {fs:ax->Option (List Dat)} in
theorem kg(hm:X.mg "abs"=none)(ha:jQ X (e::es) fs)(hg:Gl X "abs":=by rfl)(he:starEach (e::es) X.env=(false,eval e X.env)::starEach es X.env:=by rfl)(dB:(backTo pos (starEach es X.env)).any (·.1)=false:=by rfl):
  QF X (.Call (.Name "abs" p) (e::es) [] pos) (fZ DO fs):=⟨tp J9 GY hm ha.o hg (by decide +kernel) (by decide) (by decide) he dB⟩
variable {fs:ax->Option (List Dat)} in
theorem cI(hm:X.mg "len"=none)(ha:jQ X (e::es) fs)(hg:Gl X "len":=by rfl)(he:starEach (e::es) X.env=(false,eval e X.env)::starEach es X.env:=by rfl)(dB:(backTo pos (starEach es X.env)).any (·.1)=false:=by rfl):
  QF X (.Call (.Name "len" p) (e::es) [] pos) (fZ kI fs):=⟨tp J8 GW hm ha.o hg (by decide +kernel) (by decide) (by decide) he dB⟩
variable {fs:ax->Option (List Dat)} in
theorem HG(hm:X.mg "int"=none)(ha:jQ X (e::es) fs)(hg:Gl X "int":=by rfl)(he:starEach (e::es) X.env=(false,eval e X.env)::starEach es X.env:=by rfl)(dB:(backTo pos (starEach es X.env)).any (·.1)=false:=by rfl):
  QF X (.Call (.Name "int" p) (e::es) [] pos) (fZ intD fs):=⟨xl GU GX hm ha.o hg (by decide +kernel) (by decide) (by decide) he dB⟩
theorem fJ(T:String){TS:Str}(hm:X.mg "isinstance"=none)(W8:X.mg TS=none)(ha:QF X a fa)(hv:bootBuiltins TS=some (.type T):=by decide +kernel)(hg:Gl X "isinstance":=by rfl)(Wi:Gl X TS:=by rfl)(hn:TS≠"__name__":=by decide)(iI:(TS==("__debug__" : Str))=false:=by decide)(he:starEach [a,.Name TS p2] X.env=(false,eval a X.env)::starEach [.Name TS p2] X.env:=by rfl)(Wm:starEach [.Name TS p2] X.env=(false,eval (.Name TS p2) X.env)::starEach [] X.env:=by rfl)(dB:(backTo pos (starEach [.Name TS p2] X.env)).any (·.1)=false:=by rfl):
  QF X (.Call (.Name "isinstance" p) [a,.Name TS p2] [] pos) (f1 (oN T) fa):=⟨bh (yZ (AI T) hg hm (by decide +kernel) (kj ha.o (kj (LD (v:=.ty T) Wi W8 hv rfl hn iI) qS Wm) he) (by decide) (by decide) he dB) fun σ H Q aQ=>by
  obtain⟨Av,ρ,d,hA,hE,hf,q⟩:=aQ;obtain⟨dx,e1,hf⟩:=bind_some hf;obtain⟨k,rfl⟩:=Ip hf;exact⟨Av,ρ,dx,hA,hE,e1,fun x H1 s1 r1=>⟨Av,x,dx,k,rfl,r1,hf,q _ H1 s1 (.bl k)⟩⟩⟩
theorem af(ha:QF X a fa)(hb:QF X b fb)(hs:wF b:=by exact fun _ _=>rfl):
  QF X (.Subscript a b pos) (f2 aO fa fb):=⟨bh (JP (BM.or FH) ha.o hb.o hs) (yb (by
 intro H Av x y dx dy d Q hA rx ry h q;unfold aO at h;split at h
 ·obtain⟨p,xs,rfl,hq,rs⟩:=rx.fY;obtain⟨v,hv,rv⟩:=rs.gF h;exact .inl ⟨p,xs,_,v,rfl,ry.cN,hq.sq,hv,q v H (aV.refl H) rv⟩
 ·obtain⟨p,xs,rfl,hq,rs⟩:=rx.fz;obtain⟨v,hv,rv⟩:=rs.gF h;exact .inr ⟨p,xs,_,v,rfl,ry.cN,hq.sq,hv,q v H (aV.refl H) rv⟩
 ·cases h))⟩
theorem lK:
  KI X none nN:=⟨Bq Lr fun σ H Q ⟨Av,ρ,o,hA,hE,hf,q⟩=>by cases hf;exact q H (aV.refl H)⟩
theorem j5(h:QF X e f):
  KI X (some e) (mf f):=⟨Bq (vT h.o) fun σ H Q aQ=>by
 obtain⟨Av,ρ,o,hA,hE,hf,q⟩:=aQ;obtain⟨d,e1,hf⟩:=bind_some hf;obtain⟨i,e2,OH⟩:=bj hf;subst OH;have e3:=pX e2;rw[e3]at e1;exact⟨Av,ρ,_,hA,hE,e1,fun x H' s r=>⟨i,r.cN,q H' s⟩⟩⟩
variable {elt:Expr} {ifs:List Expr} {cl:List (Str×Addr)} {fe:ax->Option Dat}
theorem i7{bg:List (Option Nat)}{fi:ax->Option Dat}(hc:X.calm=true)(B:sV X scope cl N' bg)(hi:QF X iter fi)(hg:∀C aR aj ex,QG (eC X scope cl N' C aR aj ex) tg (kA X.K gt))(ht:∀C aR aj ex,Cy (eC X scope cl N' C aR aj ex) ifs (nH X.K ft))(he:∀C aR aj ex,QF (eC X scope cl N' C aR aj ex) elt fe)(hT:oz gt bg)(hs:∀x,foldedSetIterable iter X.env x=pure x:=by intro _;rfl):
  QE X (.ListComp elt [⟨tg,iter,ifs,0⟩] scope pos) (jG X.K (nV bg gt ft fe fi)):=⟨bh (vU hc B (uG hi.o) ((fun C aR aj ex=>(hg C aR aj ex).o)) ((fun C aR aj ex=>(ht C aR aj ex).o)) ((fun C aR aj ex=>(he C aR aj ex).o)) hs) (B0 hT)⟩
variable {fs:ax->Option (List Dat)} in
theorem cS(h:QE X e (jG X.K fs)):
  QF X e (fL fs):=⟨bh h.o fun σ H Q aQ=>by
 obtain⟨Av,ρ,d,hA,hE,hf,q⟩:=aQ;obtain⟨ds,e1,hf⟩:=bj hf;subst hf;exact⟨Av,ρ,ds,hA,hE,e1,fun H1 p xs s hp r=>q _ _ (s.trans (bZ hp _)) (.pG (hA.same s) hp r)⟩⟩
theorem dh:
  Cy X [] (nH X.K gu):=⟨fun pins s σ H Q I ⟨Av,ρ,b,hA,hE,hf,q⟩=>by cases hf;exact Bk pins s σ H Q I (q H (aV.refl H))⟩
theorem lJ(h:jh X c ft):
  Cy X [c] (nH X.K ft):=⟨Ln h.o⟩
variable {fs:ax->Option (List Dat)} in
theorem Hz(i j:Nat){y:Str}{py pt:Pos}{kt k2 yS}(hc:X.calm=true)(hN:X.N.Nodup)(OF:i≠j)(ha:jQ X [a,b] fs)(hi:X.N[i]?=some x:=by rfl)(hj:X.N[j]?=some y:=by rfl)(hx:X.env.scope.names.lookup x=some .local:=by rfl)(hy:X.env.scope.names.lookup y=some .local:=by rfl)(hw:swappedStores [.Tuple [.Name x px,.Name y py] kt pt] (.Tuple [a,b] k2 yS) X.env=pure (some [x,y]):=by rfl)(hs:swapsWithSole [.Tuple [.Name x px,.Name y py] kt pt] (.Tuple [a,b] k2 yS) pos.line X.env=pure false:=by rfl):
  gM X (.Assign [.Tuple [.Name x px,.Name y py] kt pt] (.Tuple [a,b] k2 yS) pos) (Hu i j fs):=⟨cD (Np hc hN hi hj OF hx hy ha.o hw hs) fun D σ H aQ=>by
 obtain⟨aj,Av,pn,aK,Γ,fl,⟨ad,G⟩,hf,q⟩:=aQ;obtain⟨ds,e1,hf⟩:=bind_some hf;refine⟨aX Av Γ ad,bx Γ,ds,G.gE,G.iR,e1,fun vs H1 s1 r=>?_⟩;match ds,hf with
 |[d,d'],hf=>
  cases hf;obtain⟨v,u,rfl,rv,ru⟩:=r.fw;exact⟨v,u,rfl,q _ _ ⟨ad,((G.grow s1).set i rv).set j (ru.weak aX.k9)⟩⟩⟩
theorem nL(i:Nat){qC:Pos}{bg:List (Option Nat)}{fi:ax->Option Dat}(hN:X.N.Nodup)(hc:X.calm=true)(B:sV X scope cl N' bg)(hi:QF X iter fi)(hg:∀C aR aj ex,QG (eC X scope cl N' C aR aj ex) tg (kA X.K gt))(ht:∀C aR aj ex,Cy (eC X scope cl N' C aR aj ex) ifs (nH X.K ft))(he:∀C aR aj ex,QF (eC X scope cl N' C aR aj ex) elt fe)(hT:oz gt bg)(FN:X.N[i]?=some x:=by rfl)(hx:Loc X.env.scope x:=by first|exact .inl rfl|exact .inr rfl)(FR:swapsWith (.ListComp elt [⟨tg,iter,ifs,0⟩] scope pos) (some (.Name x pos')) qC.line X.env=pure true:=by rfl)(G0:X.fn x=true\/X.env.scope.names.lookup x=some .local:=by first|exact .inl rfl|exact .inr rfl)(hs:∀x,foldedSetIterable iter X.env x=pure x:=by intro _;rfl):
  gM X (.Assign [.Name x pos'] (.ListComp elt [⟨tg,iter,ifs,0⟩] scope pos) qC) (nK i (nV bg gt ft fe fi)):=⟨cD (Bp hc B (uG hi.o) ((fun C aR aj ex=>(hg C aR aj ex).o)) ((fun C aR aj ex=>(ht C aR aj ex).o)) ((fun C aR aj ex=>(he C aR aj ex).o)) hN FN hx FR G0 hs) fun D σ H aQ=>by
 obtain⟨aj,Av,pn,aK,Γ,fl,⟨ad,G⟩,hf,q⟩:=aQ;obtain⟨ds,e1,hf⟩:=bj hf;subst hf;exact B0 hT σ H _ ⟨aX Av Γ ad,bx Γ,ds,G.gE,G.iR,e1,fun H1 p xs s hp r=>q _ _ ⟨ad,((G.grow s).grow (bZ hp _)).set i (.pG (G.grow s).gE hp r)⟩⟩⟩
theorem Bh(ha:QF X a fa)(hb:QF X b fb)(hm:behindInMarks .In b=false:=by with_unfolding_all rfl):
  jh X (.Compare a [.In] [b] pos) (bc (f2 inD fa fb)):=⟨gW (EZ.or EY) NJ ha.o hb.o hm⟩
theorem cR(ha:QF X a fa)(hb:QF X b fb):
  jh X (.Compare a [.Is] [b] pos) (bc (f2 lS fa fb)):=⟨gW NH LJ ha.o hb.o (fj _)⟩
theorem qK(ha:QF X a fa)(hb:QF X b fb):
  jh X (.Compare a [.IsNot] [b] pos) (bc (f2 mj fa fb)):=⟨gW Bw zh ha.o hb.o (fj _)⟩
variable {fs:ax->Option (List Dat)} in
theorem qL(hm:X.mg "list"=none)(ha:jQ X (e::es) fs)(hg:Gl X "list":=by rfl)(he:starEach (e::es) X.env=(false,eval e X.env)::starEach es X.env:=by rfl)(dB:(backTo pos (starEach es X.env)).any (·.1)=false:=by rfl):
  QE X (.Call (.Name "list" p) (e::es) [] pos) (jG X.K fun ρ=>(fs ρ).bind uO):=⟨bh (nM Ao hg hm (by decide +kernel) ha.o (by decide) (by decide) he dB) fun σ H Q aQ=>by
 obtain⟨Av,ρ,ds,hA,hE,hf,q⟩:=aQ;obtain⟨as,e1,hf⟩:=bind_some hf;refine⟨Av,ρ,as,hA,hE,e1,fun vs H1 s1 r=>?_⟩;unfold uO at hf;split at hf
 ·cases hf;obtain⟨v,rfl,rv⟩:=r.dZ;obtain⟨p,xs,rfl,hq,rs⟩:=rv.fY;exact⟨p,xs,rfl,.inl hq.sq,fun l hl=>q H1 l xs s1 hl rs⟩
 ·cases hf;obtain⟨v,rfl,rv⟩:=r.dZ;obtain⟨p,xs,rfl,hq,rs⟩:=rv.fz;exact⟨p,xs,rfl,.inr hq.sq,fun l hl=>q H1 l xs s1 hl rs⟩
 ·cases hf⟩
variable {fs:ax->Option (List Dat)} in
theorem i8(hm:X.mg "tuple"=none)(ha:jQ X (e::es) fs)(hg:Gl X "tuple":=by rfl)(he:starEach (e::es) X.env=(false,eval e X.env)::starEach es X.env:=by rfl)(dB:(backTo pos (starEach es X.env)).any (·.1)=false:=by rfl):
  QF X (.Call (.Name "tuple" p) (e::es) [] pos) (fZ iB fs):=⟨xl qj sR hm ha.o hg (by decide +kernel) (by decide) (by decide) he dB⟩
theorem cq{a:Addr}(hm:X.mg x=some (.ref a))(ht:ModT X.K a ds)(hg:Gl X x:=by rfl)(hd:(x==("__debug__" : Str))=false:=by decide):
  QF X (.Name x p) (fC (.tuple ds)):=⟨by
 obtain⟨xs,o,ak,n,h1,h2,h3,h4,h5,h6⟩:=ht;exact bh (LC (v:=.ref a) hg hm rfl hd) fun σ H Q ⟨Av,ρ,d,hA,hE,hf,q⟩=>by cases hf;exact q _ H (aV.refl H) (.tup (.inr ⟨o,ak,n,h1,h2,h3,h4,h5⟩) (h6 H Av))⟩
theorem bf(hP:QF X e f):
  QH X e (kK f):=⟨bh hP.o fun σ H Q aQ=>by
 obtain⟨aj,Av,pn,aK,Γ,ad,d,ah,G,hf,q⟩:=aQ;unfold kK at hf;split at hf
 ·rename_i d' e1;cases hf;exact⟨aX Av Γ ad,bx Γ,_,G.gE,G.iR,e1,fun v H' s r=>q v H' ad (G.grow s) r⟩
 ·obtain⟨d',e1,hf⟩:=bind_some hf;split at hf
  ·rename_i hs;cases hf;exact⟨Av,bX Γ,_,G.jP.same G.same,G.rG,e1,fun v H' s r=>q v H' ad (G.grow s) (r.sc hs)⟩
  ·cases hf⟩
theorem vR(pa:QH X a ha)(pb:QH X b hb):
  QH X (.BinOp a .Add b pos) (h2 lV ha hb):=⟨yV (zg.or pv) (by
 intro H Av x y dx dy d Q hA rx ry h q;unfold lV at h;split at h
 ·cases h;exact .inl ⟨_,_,rx.cN,ry.cN,q _ H (aV.refl H) (.int _)⟩
 ·split at h
  ·rename_i hz;cases h;exact .inr ⟨_,_,rx.iS,ry.iS,hz,q _ H (aV.refl H) (.str _)⟩
  ·cases h
 ·cases h) pa.o pb.o⟩
theorem Bg(pa:QH X a ha)(pb:QH X b hb):
  QH X (.BinOp a .Sub b pos) (h2 oj ha hb):=⟨yV Bv pA pa.o pb.o⟩
theorem Lg(pa:QH X a ha)(pb:QH X b hb):
  QH X (.BinOp a .Mult b pos) (h2 jA ha hb):=⟨yV Bx pA pa.o pb.o⟩
theorem Ni(hr:cA k X.A)(pa:QH X a ha)(pb:QH X b hb):
  QH X (.Compare a [.Eq] [b] pos) (h2 cH ha hb):=⟨Nu (yg.or (uM hr.units)) uN pa.o pb.o (fj _)⟩
theorem Lf(hr:cA k X.A)(pa:QH X a ha)(pb:QH X b hb):
  SS X (.Compare a [.Eq] [b] pos) (v8 (h2 cH ha hb)):=⟨Lw (yg.or (uM hr.units)) uN pa.o pb.o (fj _)⟩
theorem yN(pa:QH X a ha)(pb:QH X b hb)(hs:wF b:=by exact fun _ _=>rfl):
  QH X (.Subscript a b pos) (h2 aO ha hb):=⟨bh (JP (BM.or FH) pa.o pb.o hs) (ya NI)⟩
theorem cv:
  Au X [] tL:=⟨rY qS fun σ H Q ⟨aj,Av,pn,aK,Γ,ad,d,ah,G,hf,q⟩=>by cases hf;exact q _ H ad G .nil⟩
variable {h:HF}
theorem bB(pa:QH X e h)(pr:Au X es hs)(fm:starEach (e::es) X.env=(false,eval e X.env)::starEach es X.env:=by rfl):
  Au X (e::es) (pR h hs):=⟨rY (kj pa.o pr.o fm) fun σ H Q aQ=>by
 obtain⟨aj,Av,pn,aK,Γ,ad,d,ah,G,hf,q⟩:=aQ;obtain⟨⟨dx,Γ1⟩,e1,hf⟩:=bind_some hf;obtain⟨⟨ds,tX⟩,e2,hf⟩:=bj hf;cases hf;exact⟨aj,Av,pn,aK,Γ,ad,dx,Γ1,G,e1,fun x H1 kN G1 r1=>⟨aj,Av,pn,(x,dx)::aK,Γ1,kN,ds,tX,G1.hide r1,e2,fun vs H2 qk G2 r2=>q (x::vs) H2 qk G2.oC (.cons (G2.aK (x,dx) mem_cons_self) r2)⟩⟩⟩
theorem Bf(pa:Au X es hs){x1}:
  QH X (.Tuple es x1 pos) (IE hs):=⟨bh (EO pa.o) fun σ H Q aQ=>by
 obtain⟨aj,Av,pn,aK,Γ,ad,d,ah,G,hf,q⟩:=aQ;obtain⟨⟨ds,Γ1⟩,e1,hf⟩:=bind_some hf;split at hf
 ·rename_i hz;cases hf;exact⟨aj,Av,pn,aK,Γ,ad,ds,Γ1,G,e1,fun xs H1 kN G1 r1=>⟨by rw[r1.length];exact hz,fun p hp=>q _ _ kN (G1.grow (bZ hp _)) (.tw G1.gE hp r1)⟩⟩
 ·cases hf⟩
theorem EF(D:Dn X.prog X.w X.K X.mg X.base k x ps n F)(hr:cA k X.A)(pa:Au X (e::es) hs)(hg:Gl X x:=by rfl)(iI:(x==("__debug__" : Str))=false:=by decide)(he:starEach (e::es) X.env=(false,eval e X.env)::starEach es X.env:=by rfl)(dB:(backTo pos (starEach es X.env)).any (·.1)=false:=by rfl):
  QH X (.Call (.Name x p) (e::es) [] pos) (OQ n F hs):=⟨by
 obtain⟨f,fd,h1,h2,h3,h4⟩:=D.ex;refine bh (oJ h1 hr hg h2 h3 h4 .nil uI pa.o iI he dB) fun σ H Q ⟨aj,Av,pn,aK,Γ,ad,d,ah,G,hf,q⟩=>?_;obtain⟨⟨ds,Γ1⟩,e1,hf⟩:=bind_some hf;split at hf
 ·rename_i hl;obtain⟨d',e2,hf⟩:=bj hf;cases hf;exact⟨aj,Av,pn,aK,Γ,ad,ds,Γ1,G,e1,fun xs H1 kN G1 r1=>⟨_,ds,_,G1.gE,by rw[append_nil];exact r1,hl,e2,fun v H2 s2 r2=>q v H2 kN (G1.grow s2) r2⟩⟩
 ·cases hf⟩
theorem dU(i:Nat){y:Str}{F:List Dat->List Dat->Option (Dat×List Dat)}(D:jS X.prog X.w X.K X.mg X.base k x ps n F)(hr:cA k X.A)(pa:Au X es hs)(hN:X.N[i]?=some y:=by rfl)(hv:nA X.env.scope y:=by first|exact Or.inl rfl|exact Or.inr (Or.inl rfl)|exact Or.inr (Or.inr rfl))(hd:(y==("__debug__" : Str))=false:=by decide)(gB:(y==("__classdict__" : Str))=false:=by decide)(hg:Gl X x:=by rfl)(iI:(x==("__debug__" : Str))=false:=by decide)(he:starEach (.Name y p1::es) X.env=(false,eval (.Name y p1) X.env)::starEach es X.env:=by rfl)(dB:(backTo pos (starEach es X.env)).any (·.1)=false:=by rfl):
  QH X (.Call (.Name x p) (.Name y p1::es) [] pos) (rz i n F hs):=⟨by
 obtain⟨f,fd,h1,h2,h3,h4⟩:=D.ex;refine bh (oJ h1 hr hg h2 h3 h4 .nil uI (kj (mS hN hv hd gB) pa.o he) iI he dB) fun σ H Q ⟨aj,Av,pn,aK,Γ,ad,d,ah,G,hf,q⟩=>?_;unfold rz at hf;split at hf
 ·rename_i Kz oQ;obtain⟨⟨us,Γ1⟩,e1,hf⟩:=bind_some hf;dsimp only at hf;split at hf
  ·rename_i ds Ke;split at hf
   ·rename_i hl;obtain⟨⟨d',f9⟩,e2,hf⟩:=bj hf;cases hf;obtain⟨MH,g1,g2,g3,g4⟩:=G.own i Kz oQ;refine⟨.ref (ad i),g1,aj,Av,pn,aK,Γ,ad,us,Γ1,G,e1,fun ws H1 kN G1 r1=>?_⟩;obtain⟨MG,k1,k2,k3,k4⟩:=G1.own i ds Ke;have ea:ad i=kN i:=by rw[g1]at k1;injection k1 with k1;injection k1 with k1;injection k1
    exact⟨aX Av Γ1 kN,kN i,ws,MG,ds,us,_,_,by rw[append_nil,ea],G1.gE,.inr ⟨i,_,Ke,rfl,rfl⟩,k2,k3,r1,hl,e2,fun v H' ys k hn rl rv=>q v H' kN (G1.lend Ke k hn rl) (rv.weak (aX.set_own Ke))⟩
   ·cases hf
  ·cases hf
 ·cases hf⟩
variable {fa:Addr}
theorem rV{F:List Dat->List Dat->Option (Dat×List Dat)}(U:nZ K x qual st fa fd)(hm:mg x=some (.ref fa))(hB:Binds K fd ps [])(S:gk N ps (ba st))(hn:ps.length=n)(hbody:∀(bG:Value) (A:Around) (outer:List Env) (s:Shared) (H:Hp) (E:XK),cA k (A.deeper (envOfC qual (ba st) s.heap.objs.size fa bG))->jg (k6 jy P w K mg base N qual (ba st) fa bG A outer s H E).oK (dw st) g)(hF:∀ds es d f9,es.length+1=n->F ds es=some (d,f9)->runM N g ds es=some (d,f9)):
  jS P w K mg base (k+1) x ps n F:=
 P8 (U:=U) (hm:=hm) (hB:=hB) (S:=S) (hn:=hn) (hbody:=(fun a b c d e f g=>(hbody a b c d e f g).o)) (hF:=hF)
theorem i5(i:Nat)(hN:X.N.Nodup)(pe:QH X e h)(hi:X.N[i]?=some x:=by rfl)(hx:Loc X.env.scope x:=by first|exact .inl rfl|exact .inr rfl)(hs:swapsWith e (some (.Name x pos')) pos.line X.env=pure false:=by rfl)(hf:X.fn x=true\/X.env.scope.names.lookup x=some .local:=by first|exact .inl rfl|exact .inr rfl):
  gM X (.Assign [.Name x pos'] e pos) (uk i h):=⟨cD (qO hN hi hx pe.o hs hf) fun D σ H aQ=>by
 obtain⟨aj,Av,pn,aK,Γ,fl,⟨ad,G⟩,hf,q⟩:=aQ;obtain⟨⟨d,Γ1⟩,e1,hf⟩:=bj hf;subst hf;exact⟨aj,Av,pn,aK,Γ,ad,d,Γ1,G,e1,fun v H' j1 G' r=>q _ _ ⟨j1,G'.set i r⟩⟩⟩
theorem EB(pe:QH X e h)(hg:QG X tg (kA X.K gt))(hs:swapsWithSole [tg] e pos.line X.env=pure false:=by rfl)(hw:swappedStores [tg] e X.env=pure none:=by rfl)(h1:(assignEach [tg] X.env).map (·.2)=[assign tg X.env]:=by rfl):
  gM X (.Assign [tg] e pos) (CL gt h):=⟨cD (qP pe.o hg.o hs hw h1) fun D σ H aQ=>by
 obtain⟨aj,Av,pn,aK,Γ,fl,⟨ad,G⟩,hf,q⟩:=aQ;obtain⟨⟨d,Γ1⟩,e1,hf⟩:=bind_some hf;obtain⟨as,e2,hf⟩:=bj hf;subst hf;exact⟨aj,Av,pn,aK,Γ,ad,d,Γ1,G,e1,fun v H' j1 G' r=>⟨aX Av Γ1 j1,d,as,r,e2,fun ws hw=>q _ _ ⟨j1,GA.j4 hw (fun _ z=>z) G'⟩⟩⟩⟩
theorem i6(pe:QH X e h):
  gM X (.Return (some e) pos) (CI h):=⟨cD (uF pe.o) fun D σ H aQ=>by
 obtain⟨aj,Av,pn,aK,Γ,fl,⟨ad,G⟩,hf,q⟩:=aQ;obtain⟨⟨d,Γ1⟩,e1,hf⟩:=bj hf;subst hf;exact⟨aj,Av,pn,aK,Γ,ad,d,Γ1,G,e1,fun v H' j1 G' r=>q σ v H' j1 G' r⟩⟩
variable {ht:aG->Option (Bool×aG)}
theorem HA{a b:List Stmt}(hc:SS X c ht)(pa:jg X a g1)(pb:jg X b g2):
  gM X (.If c a b pos) (CJ ht g1 g2):=⟨cD (JM hc.o pa.o pb.o) fun D σ H aQ=>by
 obtain⟨aj,Av,pn,aK,Γ,fl,⟨ad,G⟩,hf,q⟩:=aQ;obtain⟨⟨k,Γ1⟩,e1,hf⟩:=bind_some hf;refine⟨aj,Av,pn,aK,Γ,ad,k,Γ1,G,e1,fun H' j1 G'=>?_⟩;cases k with
 |true=>rw[if_pos rfl]at hf ⊢;exact⟨aj,Av,pn,aK,Γ1,fl,⟨j1,G'⟩,hf,q⟩
 |false=>rw[if_neg Bool.false_ne_true]at hf ⊢;exact⟨aj,Av,pn,aK,Γ1,fl,⟨j1,G'⟩,hf,q⟩⟩
theorem uC(i:Nat){k:Int}{j2:Nat}(pe:QH X e h)(hN:X.N[i]?=some x:=by rfl)(hv:nA X.env.scope x:=by first|exact Or.inl rfl|exact Or.inr (Or.inl rfl)|exact Or.inr (Or.inr rfl))(hd:(x==("__debug__" : Str))=false:=by decide)(gB:(x==("__classdict__" : Str))=false:=by decide)(ha:∀v,assign (.Subscript (.Name x p1) (.Constant (.int k) j2 p2) p3) X.env v=(do
   let ov <- holding [v] (eval (.Name x p1) X.env);let iv <- holding [v,ov] (eval (.Constant (.int k) j2 p2) X.env);standAt p3
   holding [v,ov,iv] (setItem ov iv v)
   release [v,ov,iv] []):=by intro _;rfl)(hs:swapsWithSole [.Subscript (.Name x p1) (.Constant (.int k) j2 p2) p3] e pos.line X.env=pure false:=by rfl)(hw:swappedStores [.Subscript (.Name x p1) (.Constant (.int k) j2 p2) p3] e X.env=pure none:=by rfl)(h1:(assignEach [.Subscript (.Name x p1) (.Constant (.int k) j2 p2) p3] X.env).map (·.2)=[assign (.Subscript (.Name x p1) (.Constant (.int k) j2 p2) p3) X.env]:=by rfl):
  gM X (.Assign [.Subscript (.Name x p1) (.Constant (.int k) j2 p2) p3] e pos) (yG i k h):=⟨cD (qP pe.o (yX (mS hN hv hd gB) ES set_list ha) hs hw h1) fun D σ H aQ=>by
 obtain⟨aj,Av,pn,aK,Γ,fl,⟨ad,G⟩,hf,q⟩:=aQ;obtain⟨⟨d,Γ1⟩,e1,hf⟩:=bind_some hf;dsimp only at hf;split at hf
 ·rename_i ds hi;obtain⟨j,e2,hf⟩:=bj hf;subst hf;refine⟨aj,Av,pn,aK,Γ,ad,d,Γ1,G,e1,fun v H' j1 G' r=>?_⟩;obtain⟨xs,g1,g2,g3,g4⟩:=G'.own i ds hi;exact⟨_,g1,_,xs,k,j,rfl,rfl,g2,by rw[g3.length];exact e2,q _ _ ⟨j1,G'.change hi (g3.set r)⟩⟩
 ·cases hf⟩
theorem tj{F:List Dat->Option (List Dat)}{fs:ax->Option (List Dat)}(D:y0 X.prog X.w X.K X.mg X.base k x ps n F)(hr:cA k X.A)(pa:jQ X (e::es) fs)(hg:Gl X x:=by rfl)(iI:(x==("__debug__" : Str))=false:=by decide)(he:starEach (e::es) X.env=(false,eval e X.env)::starEach es X.env:=by rfl)(dB:(backTo pos (starEach es X.env)).any (·.1)=false:=by rfl):
  QE X (.Call (.Name x p) (e::es) [] pos) (jG X.K (DB n F fs)):=⟨by
 obtain⟨f,fd,h1,h2,h3,h4⟩:=D.ex;refine bh (oJ h1 hr hg h2 h3 h4 .nil uI pa.o iI he dB) fun σ H Q ⟨Av,ρ,out,hA,hE,hf,q⟩=>?_;obtain⟨ds,e1,hf⟩:=bind_some hf;split at hf
 ·rename_i hl;exact⟨Av,ρ,ds,hA,hE,e1,fun xs H1 s1 r1=>⟨Av,ds,out,hA.same s1,by rw[append_nil];exact r1,hl,hf,fun H2 p xs s2 hp r2=>q H2 p xs (s1.trans s2) hp r2⟩⟩
 ·cases hf⟩
theorem Lk{fs:ax->Option (List Dat)}{F:List Dat->Option (List Dat)}(U:nZ K x qual st fa fd)(hm:mg x=some (.ref fa))(hB:Binds K fd ps [])(S:gk N ps (ba st))(hn:ps.length=n){ex:Expr}(hb:dw st=[.Return (some ex) px])(hbody:∀(bG:Value) (A:Around) (outer:List Env) (s:Shared) (H:Hp) (E:XK),cA k (A.deeper (envOfC qual (ba st) s.heap.objs.size fa bG))->QE (k6 jy P w K mg base N qual (ba st) fa bG A outer s H E).oK ex (jG K fs))(hF:∀ds out,ds.length=n->F ds=some out->fs (bX (d6 N ds))=some out):
  y0 P w K mg base (k+1) x ps n F:=
 P7 (U:=U) (hm:=hm) (hB:=hB) (S:=S) (hn:=hn) (hb:=hb) (hbody:=(fun a b c d e f g=>(hbody a b c d e f g).o)) (hF:=hF)
theorem HB(h:QF X iter f):
  vz X tg iter (Oe f):=⟨oI (uG h.o) fun σ H R aQ=>by
 obtain⟨Av,ρ,ds,hA,hE,hf,q⟩:=aQ;obtain⟨d,e1,hf⟩:=bind_some hf;refine⟨Av,ρ,d,hA,hE,e1,fun x H1 s1 r=>?_⟩;cases d with
 |list f9=>
  cases hf;obtain⟨a,xs,rfl,hq,rs⟩:=r.fY;exact⟨a,rfl,.inl ⟨⟨xs,hq.sq⟩,q _ [_] [_] H1 s1 (.cons r .nil) qT.s⟩⟩
 |tuple f9=>
  cases hf;obtain⟨a,xs,rfl,hq,rs⟩:=r.fz;exact⟨a,rfl,.inr ⟨⟨xs,hq.sq⟩,q _ [_] [_] H1 s1 (.cons r .nil) tq.s⟩⟩
 |_=>cases hf⟩
variable {fs:ax->Option (List Dat)} in
theorem lB(hm:X.mg "range"=none)(ha:jQ X [a] fs)(OG:Gl X "range":=by rfl)(fm:starEach [a] X.env=[(false,eval a X.env)]:=by rfl):
  vz X tg (.Call (.Name "range" p) [a] [] pos') (rf oo fs):=⟨oI (xk OG hm ha.o fm) fun σ H R aQ=>by
 obtain⟨Av,ρ,ds,hA,hE,hf,q⟩:=aQ;obtain⟨as,e1,e2⟩:=bind_some hf;refine⟨Av,ρ,as,hA,hE,e1,fun vs H1 s1 r=>?_⟩;unfold oo at e2;split at e2
 ·rename_i j;split at e2
  ·rename_i hj;cases e2;obtain⟨v,rfl,rv⟩:=r.dZ;rw[rv.cN];exact⟨j,rfl,hj.1,hj.2,q _ [.bR] [.none] H1 s1 (.cons .bR .nil) uJ.s⟩
  ·cases e2
 ·cases e2⟩
theorem kb(hp:PassesOwn (model X.prog X.w) X.A X.env X.xe)(hc:X.calm=true)(hi:vz X tg iter fi)(hg:QG X tg (kA X.K gt))(hb:jg X body gb)(hs:∀x,foldedSetIterable iter X.env x=pure x:=by intro _;rfl):
  gM X (.For tg iter body [] pos) (ma gt gb fi):=⟨cD (yU hp hc hi.o hg.o hb.o hs) fun D σ H aQ=>by
 obtain⟨aj,Av,pn,aK,Γ,fl,⟨ad,G⟩,hf,q⟩:=aQ;obtain⟨ds,e1,hf⟩:=bind_some hf;exact⟨aX Av Γ ad,bx Γ,ds,G.gE,G.iR,e1,fun J xs nW H1 s1 rx ov=>Dz ov (G.grow s1) rx hf q⟩⟩
theorem kH{bg:List (Option Nat)}(hc:X.calm=true)(B:sV X scope cl N' bg)(hi:vz X tg iter fi)(hg:∀C aR aj ex,QG (eC X scope cl N' C aR aj ex) tg (kA X.K gt))(ht:∀C aR aj ex,Cy (eC X scope cl N' C aR aj ex) ifs (nH X.K ft))(he:∀C aR aj ex,QF (eC X scope cl N' C aR aj ex) elt fe)(hT:oz gt bg)(hs:∀x,foldedSetIterable iter X.env x=pure x:=by intro _;rfl):
  QE X (.ListComp elt [⟨tg,iter,ifs,0⟩] scope pos) (jG X.K (hG bg gt ft fe fi)):=⟨bh (vU hc B hi.o ((fun C aR aj ex=>(hg C aR aj ex).o)) ((fun C aR aj ex=>(ht C aR aj ex).o)) ((fun C aR aj ex=>(he C aR aj ex).o)) hs) (AZ hT)⟩
theorem HC{hf:aG->Option (List Dat×aG)}(h:QE X e (MR X.K hf)):
  QH X e (hL hf):=⟨bh h.o fun σ H Q aQ=>by
 obtain⟨aj,Av,pn,aK,Γ,ad,d,ah,G,hf,q⟩:=aQ;obtain⟨⟨ds,Γ1⟩,e1,hf⟩:=bj hf;cases hf;exact⟨aj,Av,pn,aK,Γ,ad,ds,Γ1,G,e1,fun H1 p xs kN G1 hp r=>q _ _ kN (G1.grow (bZ hp _)) (.pG G1.gE hp r)⟩⟩
theorem ED(i:Nat){jf:List (Option Nat)}{fe:HF}(hc:X.calm=true)(B:sV X scope cl N' (some i::jf))(hi:vz X tg iter fi)(hg:∀C aR aj ex,QG (eC X scope cl N' C aR aj ex) tg (kA X.K gt))(he:∀C aR aj ex,QH (eC X scope cl N' C aR aj ex) elt fe)(hT:oz gt (some i::jf))(hs:∀x,foldedSetIterable iter X.env x=pure x:=by intro _;rfl):
  QE X (.ListComp elt [⟨tg,iter,[],0⟩] scope pos) (MR X.K (yk i jf gt fe fi)):=⟨bh (vU hc B hi.o ((fun C aR aj ex=>(hg C aR aj ex).o)) (fun _ _ _ _=>Bk) ((fun C aR aj ex=>(he C aR aj ex).o)) hs) (L8 hT)⟩
variable {fs:ax->Option (List Dat)} in
theorem mQ{eM:List Expr}{pt:Pos}(hm:X.mg "zip"=none)(ha:jQ X [a,b] fs)(hg:Gl X "zip":=by rfl)(hs:starEach [a,b] X.env=[(false,eval a X.env),(false,eval b X.env)]:=by rfl)(rj:starEach [b] X.env=[(false,eval b X.env)]:=by rfl):
  vz X (.Tuple eM kt pt) (.Call (.Name "zip" p) [a,b] [] pos) (Dl fs):=⟨oI (Nt hg hm ha.o hs rj) fun σ H R aQ=>by
 obtain⟨Av,ρ,ds,hA,hE,hf,q⟩:=aQ;obtain⟨as,e1,hf⟩:=bind_some hf;refine⟨Av,ρ,as,hA,hE,e1,fun vs H1 s1 r=>?_⟩;match as,hf,r with
 |[d1,d2],hf,r=>
  obtain⟨x,f1,hf⟩:=bind_some hf;obtain⟨y,f2,hf⟩:=bj hf;subst hf;obtain⟨v,u,rfl,rv,ru⟩:=r.fw;obtain⟨k1,a1,rfl,g1⟩:=zB rv f1;obtain⟨k2,a2,rfl,g2⟩:=zB ru f2;obtain⟨xs,c1,_⟩:=g1 H1 Av rv;obtain⟨ys,c2,_⟩:=g2 H1 Av ru;refine⟨k1,k2,a1,a2,rfl,⟨xs,c1⟩,⟨ys,c2⟩,q _ [.ref a1,.ref a2] [d1,d2] H1 s1 r fun i H j3 rr=>?_⟩;obtain⟨v',u',e,Eo,Vx⟩:=rr.fw;cases e;obtain⟨xs,c1,rx⟩:=g1 H j3 Eo;obtain⟨ys,c2,ry⟩:=g2 H j3 Vx;refine⟨fun hl=>⟨xs,ys,c1,c2,?_⟩,fun di hd=>?_⟩
  ·rw[(mJ (i:=0)).1]at hl;rw[rx.length,ry.length];omega
  ·obtain⟨dx,dy,h1,h2,rfl⟩:=(mJ (xs:=x) (ys:=y) (i:=i)).2 di hd;obtain⟨vx,hx,N6⟩:=rx.get h1;obtain⟨vy,hy,Vw⟩:=ry.get h2;refine⟨⟨xs,ys,vx,vy,c1,c2,hx,hy⟩,fun z H' OK hz=>?_⟩;obtain⟨T,x',y',rfl,hT,rfl,hh⟩:=hz;obtain⟨h3,h4⟩:=hh xs ys c1 c2;rw[hx]at h3;rw[hy]at h4;cases h3;cases h4;exact⟨bZ hT _,.tw OK hT (.cons N6 (.cons Vw .nil))⟩⟩
theorem EE(hm:X.mg "tuple"=none)(pa:Au X (e::es) hs)(hg:Gl X "tuple":=by rfl)(he:starEach (e::es) X.env=(false,eval e X.env)::starEach es X.env:=by rfl)(dB:(backTo pos (starEach es X.env)).any (·.1)=false:=by rfl):
  QH X (.Call (.Name "tuple" p) (e::es) [] pos) (v9 iB hs):=⟨EM qj sR hm pa.o hg (by decide +kernel) (by decide) (by decide) he dB⟩
variable {fs:ax->Option (List Dat)} in
theorem tf(ha:QE X a (jG X.K fs))(hb:QF X b fb):
  QE X (.BinOp a .Mult b pos) (jG X.K (pT fs fb)):=⟨bh (yf ND ha.o hb.o) fun σ H Q aQ=>by
 obtain⟨Av,ρ,out,hA,hE,hf,q⟩:=aQ;obtain⟨ds,e1,hf⟩:=bind_some hf;obtain⟨d,e2,hf⟩:=bind_some hf;split at hf
 ·rename_i k;split at hf
  ·rename_i hk;cases hf;refine⟨Av,ρ,ds,hA,hE,e1,fun H1 p xs s1 hp r=>?_⟩;have s2:=bZ hp (.lst xs);refine⟨Av,ρ,.int k,hA.same (s1.trans s2),hE.same (s1.trans s2),e2,fun y H2 s3 ry=>?_⟩;exact⟨p,k,xs,rfl,ry.cN,s3 p _ dD,hk.1.1,hk.1.2,by rw[r.length];exact hk.2,fun q' hq=>q H2 q' _ (s1.trans (s2.trans s3)) hq ((r.same (s2.trans s3)).rep _)⟩
  ·cases hf
 ·cases hf⟩
theorem uD(i:Nat){qC:Pos}{bg:List (Option Nat)}(hN:X.N.Nodup)(hc:X.calm=true)(B:sV X scope cl N' bg)(hi:vz X tg iter fi)(hg:∀C aR aj ex,QG (eC X scope cl N' C aR aj ex) tg (kA X.K gt))(ht:∀C aR aj ex,Cy (eC X scope cl N' C aR aj ex) ifs (nH X.K ft))(he:∀C aR aj ex,QF (eC X scope cl N' C aR aj ex) elt fe)(hT:oz gt bg)(FN:X.N[i]?=some x:=by rfl)(hx:Loc X.env.scope x:=by first|exact .inl rfl|exact .inr rfl)(FR:swapsWith (.ListComp elt [⟨tg,iter,ifs,0⟩] scope pos) (some (.Name x pos')) qC.line X.env=pure true:=by rfl)(G0:X.fn x=true\/X.env.scope.names.lookup x=some .local:=by first|exact .inl rfl|exact .inr rfl)(hs:∀x,foldedSetIterable iter X.env x=pure x:=by intro _;rfl):
  gM X (.Assign [.Name x pos'] (.ListComp elt [⟨tg,iter,ifs,0⟩] scope pos) qC) (nK i (hG bg gt ft fe fi)):=⟨cD (Bp hc B hi.o ((fun C aR aj ex=>(hg C aR aj ex).o)) ((fun C aR aj ex=>(ht C aR aj ex).o)) ((fun C aR aj ex=>(he C aR aj ex).o)) hN FN hx FR G0 hs) fun D σ H aQ=>by
 obtain⟨aj,Av,pn,aK,Γ,fl,⟨ad,G⟩,hf,q⟩:=aQ;obtain⟨ds,e1,hf⟩:=bj hf;subst hf;exact AZ hT σ H _ ⟨aX Av Γ ad,bx Γ,ds,G.gE,G.iR,e1,fun H1 p xs s hp r=>q _ _ ⟨ad,((G.grow s).grow (bZ hp _)).set i (.pG (G.grow s).gE hp r)⟩⟩⟩
theorem Nj(U:nZ K x qual st fa fd)(S:gk N ps (ba st))(hn:ps.length=n)(hbody:∀(bG:Value) (A:Around) (outer:List Env) (s:Shared) (H:Hp) (E:XK),cA k (A.deeper (envOfC qual (ba st) s.heap.objs.size fa bG))->jg (k6 jy P w K mg base N qual (ba st) fa bG A outer s H E).oK (dw st) g)(hF:∀ds d,ds.length=n->F ds=some d->jX N g ds=some d):gJ P w K mg base jy (k+1) fa fd ps (Eh K n F):=by
 have dB:ps.length<=N.length:=by have:=congrArg List.length S.pre;rw[length_take]at this;omega
 refine U.ok S (fun vs H Q E h=>?_) (fun bG A outer s H vs Q E hr h=>?_)
 ·obtain⟨Av,ds,d,_,r,hl,_⟩:=h;rw[r.length,hl,hn]
 ·obtain⟨Av,ds,d,hA,r,hl,hd,q⟩:=h;have ey:=hF ds d hl hd;unfold jX at ey;refine⟨_,(hbody bG A outer s H E hr).o,?_⟩;cases hg:g (d6 N ds)with
  |none=>rw[hg]at ey;cases ey
  |some fl=>
   refine⟨H,Av,none,[],d6 N ds,fl,tM hA r (by omega),hg,?_⟩;rw[hg]at ey;cases fl with
   |nx Γ=>cases ey;exact fun bI H' ⟨ad,G⟩=>q _ H' G.same .bR
   |rt d'=>cases ey;exact fun v H' s r=>q v H' s r
   |bk Γ=>cases ey
   |ct Γ=>cases ey
   |rm d' Γ=>cases ey
open PySem PySem.Spec PyProof.Rows L2
open PySem.W (Dat kqdOk)
def xa:Dat->Option Int->Option Int->Option Dat
 | .list ds,lo,hi=>some (.list (cutD ds lo hi))
 | .tuple ds,lo,hi=>if ¬(HT.c7 ds.length 0 lo=0/\HT.c7 ds.length ds.length hi=ds.length)then some (.tuple (cutD ds lo hi))else none
 |_,_,_=>none
def ou (f:ax->Option Dat) (fl fh:ax->Option (Option Int)):ax->Option Dat:=fun ρ=>(f ρ).bind fun d=>(fl ρ).bind fun l=>(fh ρ).bind fun h=>xa d l h
theorem EN{lo hi:Option Expr}{fl fh:ax->Option (Option Int)}(h:PF X e f)(hl:T3 X lo fl)(hh:T3 X hi fh):PF X (.Subscript e (.Slice lo hi none p2) pos) (ou f fl fh):=bh (yY (B4.or MZ) h hl hh) fun σ H Q aQ=>by
 obtain⟨Av,ρ,d,hA,hE,hf,q⟩:=aQ;obtain⟨dx,e1,hf⟩:=bind_some hf;obtain⟨l,e2,hf⟩:=bind_some hf;obtain⟨u,e3,hf⟩:=bind_some hf;refine⟨Av,ρ,_,hA,hE,e1,fun x H1 s1 r1=>⟨Av,ρ,l,hA.same s1,hE.same s1,e2,fun H2 s2=>⟨Av,ρ,u,hA.same (s1.trans s2),hE.same (s1.trans s2),e3,fun H3 s3=>?_⟩⟩⟩;have sa:=s1.trans (s2.trans s3);unfold xa at hf;split at hf
 ·cases hf;obtain⟨a,xs,rfl,hq,rs⟩:=(r1.same (s2.trans s3)).fY;refine .inl ⟨a,xs,rfl,hq.sq,fun p hp=>q _ _ (sa.trans (bZ hp _)) (.pG (hA.same sa) hp ?_)⟩;unfold pV cutD;rw[rs.length];exact(rs.drop _).take _
 ·split at hf
  ·rename_i hw;cases hf;obtain⟨a,xs,rfl,hq,rs⟩:=(r1.same (s2.trans s3)).fz;refine .inr ⟨a,xs,rfl,hq.sq,by rw[rs.length];exact hw,fun p hp=>q _ _ (sa.trans (bZ hp _)) (.tw (hA.same sa) hp ?_)⟩;unfold pV cutD;rw[rs.length];exact(rs.drop _).take _
  ·cases hf
 ·cases hf
theorem jl{lo hi:Option Expr}{fl fh:ax->Option (Option Int)}(h:QF X e f)(hl:KI X lo fl)(hh:KI X hi fh):QF X (.Subscript e (.Slice lo hi none p2) pos) (ou f fl fh):=⟨EN h.o hl.o hh.o⟩
def JJ (K:Fg):R2:=fun x y H Q=>∃l b xs zs,x=.ref l/\y=.ref b/\jv K H l xs/\jv K H b zs/\xs.length+zs.length<=sizeLine/\(xs=[]->Q (.ref b) H)/\(xs≠[]->zs=[]->Q (.ref l) H)/\(xs≠[]->zs≠[]->∀p,H p=none->Q (.ref p) (upd H p (.tup (xs++zs))))
theorem LH:dO X (binaryOp .Add) (JJ X.K):=by
 intro pins s σ H x y v u Q I rx ry h;obtain⟨l,b,xs,zs,rfl,rfl,hH,hB,hz,q0,q1,q2⟩:=h;cases rx;cases ry;obtain⟨ak,r,p1,_⟩:=I.tuple hH;obtain⟨jB,r2,p2,_⟩:=I.tuple hB;obtain⟨⟨cls,dd,data,sl⟩,ho,hc,n,hd⟩:=p1;obtain⟨⟨V4,GC,data2,El⟩,rn,zT,n2,hd2⟩:=p2;simp only at hc hd zT hd2;subst hc hd zT hd2;have h1:=r.length;have h2:=r2.length;have e:ak.toArray++jB.toArray=(ak++jB).toArray:=by simp
 have nf:=PySem.noFill_tuple_add;have sa:=PySem.seq_tuple_add;by_cases hv:ak=[]
 ·have hx:xs=[]:=r.sd.mp hv;exact concat_meets ⟨_,ho,rfl⟩ ⟨_,rn,rfl⟩ nf sa F.slot_tuple_add F.entry_tuple_add (F.args_tuple_add_2 _ _) (tuple_addW0 l b ak.toArray jB.toArray n n2 dd GC sl El (by simp[hv])) ⟨ho,rn,⟨.ref b,H,I,rfl,q0 hx⟩⟩
 ·have hx:xs≠[]:=fun z=>hv (r.sd.mpr z);by_cases hw:jB=[]
  ·have hy:zs=[]:=r2.sd.mp hw;exact concat_meets ⟨_,ho,rfl⟩ ⟨_,rn,rfl⟩ nf sa F.slot_tuple_add F.entry_tuple_add (F.args_tuple_add_2 _ _) (tuple_addW1 l b ak.toArray jB.toArray n n2 dd GC sl El (by simpa using hv) (by simp[hw])) ⟨ho,rn,⟨.ref l,H,I,rfl,q1 hx hy⟩⟩
  ·have hy:zs≠[]:=fun z=>hw (r2.sd.mpr z);refine concat_meets ⟨_,ho,rfl⟩ ⟨_,rn,rfl⟩ nf sa F.slot_tuple_add F.entry_tuple_add (F.args_tuple_add_2 _ _) (tuple_addW2 l b ak.toArray jB.toArray n n2 dd GC sl El (by simpa using hv) (by simpa using hw) (by rw[size_toArray,size_toArray];omega)) ⟨ho,rn,?_⟩;rw[e];refine⟨.ref s.heap.objs.size,upd H s.heap.objs.size (.tup (xs++zs)),I.laid (t':=s.toks) (fun b u e=>get?_push_of_some _ e) (le_refl _) ?_,rfl,q2 hx hy _ I.fresh⟩;exact⟨by rw[length_append];exact hz,_,r.append r2,⟨_,get?_push_size _ rfl,rfl,_,rfl⟩⟩
def pY:Dat->Dat->Option Dat
 | .list xs,.list ys=>if xs.length+ys.length<=sizeLine then some (.list (xs++ys))else none
 | .tuple xs,.tuple ys=>if xs.length+ys.length<=sizeLine then some (.tuple (xs++ys))else none
 |x,y=>lV x y
theorem HX:kR X.K (fun x y H Q=>(JK X.K x y H Q\/JJ X.K x y H Q)\/((∃i j,x=.int i/\y=.int j/\Q (.int (i+j)) H)\/∃i j,x=.str i/\y=.str j/\i.length+j.length<=sizeLine/\Q (.str (i++j)) H)) pY:=by
 intro H Av x y dx dy d Q hA rx ry h q;unfold pY at h;split at h
 ·split at h
  ·rename_i hz;cases h;obtain⟨l,xs,rfl,hq,rs⟩:=rx.fY;obtain⟨m,ys,rfl,BP,uu⟩:=ry.fY;exact .inl (.inl ⟨l,m,xs,ys,rfl,rfl,hq.sq,BP.sq,by rw[rs.length,uu.length];exact hz,fun p hp=>q _ _ (bZ hp _) (.pG hA hp (rs.append uu))⟩)
  ·cases h
 ·split at h
  ·rename_i hz;cases h;obtain⟨l,xs,rfl,hq,rs⟩:=rx.fz;obtain⟨m,ys,rfl,BP,uu⟩:=ry.fz;refine .inl (.inr ⟨l,m,xs,ys,rfl,rfl,hq.sq,BP.sq,by rw[rs.length,uu.length];exact hz,fun e=>?_,fun _ e=>?_,fun _ _ p hp=>q _ _ (bZ hp _) (.tw hA hp (rs.append uu))⟩)
   ·subst e;cases rs;exact q _ H (aV.refl H) (.tup BP uu)
   ·subst e;cases uu;rw[append_nil]at q;exact q _ H (aV.refl H) (.tup hq rs)
  ·cases h
 ·unfold lV at h;split at h
  ·cases h;exact .inr (.inl ⟨_,_,rx.cN,ry.cN,q _ H (aV.refl H) (.int _)⟩)
  ·split at h
   ·rename_i hz;cases h;exact .inr (.inr ⟨_,_,rx.iS,ry.iS,hz,q _ H (aV.refl H) (.str _)⟩)
   ·cases h
  ·cases h
variable {fa:ax->Option Dat}
theorem l9(pa:QF X a fa)(pb:QF X b fb):QF X (.BinOp a .Add b pos) (f2 pY fa fb):=⟨mR ((By.or LH).or (zg.or pv)) HX pa.o pb.o⟩
theorem yO(pa:QF X a fa)(pb:QF X b fb):QF X (.Compare a [.IsNot] [b] pos) (f2 mj fa fb):=⟨qQ Bw zh pa.o pb.o (fj _)⟩
open PySem PySem.Spec PyProof.Rows L2
open PySem.W (Dat kqdOk)
def Ab (h:Heap) (l:Addr):Heap:=h.push {cls:=.type "list_iterator",data:=.fields #[.ref l,.int 0 0]}
theorem Gu(l:Addr)(ak:Array Value):Meets (Builtin.«enumerate.__new__» ⟨[.type "enumerate",.ref l],[]⟩) (fun _ R s=>s.heap.IsList l ak/\R (.ok (.ret (.ref (Ab s.heap l).objs.size))) {s with heap:=(Ab s.heap l).push {cls:=.type "enumerate",data:=.fields #[.none,.bool false,.ref s.heap.objs.size,rawInt 0,.none,.none]}}):=
 .of_wp fun prog w A R s h=>by
  obtain⟨hp,g,d,tk,os⟩:=s;obtain⟨c1,h⟩:=h;have Ux:=sub_enumerate;have e1:IsList (Shared.heap ⟨hp,g,d,tk,os⟩) l ak:=c1;wp_walk using wpAny_pyIter_list e1
  refine wpAny_stack_any fun st=>wpAny_pure ?_;split
  ·rename_i c _ _ _ _ _;cases(c==Value.type "enumerate")<;>(wp_walk using wpAny_pyIter_list e1;exact⟨_,rfl,h⟩)
  ·wp_walk using wpAny_pyIter_list e1
   exact⟨_,rfl,h⟩
theorem DK{s:Shared}{l:Addr}(c1:s.heap.IsList l ak)(h:∀h' e it,e≠it->IsEnum h' e it 0 .none->h'.IsListIter it l 0->(∀b o,s.heap.get? b=some o->h'.get? b=some o)->(∀b∈[e,it],s.heap.objs.size<=b)->Q (.ref e) {s with heap:=h'}):
  wpAny (model prog w) A (call (.type "enumerate") [.ref l]) Q E s:=by
 refine callType_new F.called_enumerate (by decide) (F.typeCall_enumerate_1 _) (F.newCall_enumerate_1 _) (fun obj=>F.args_object_init_2 obj _) F.entry_enumerate_new (Gu l ak) ⟨c1,?_⟩;have y1:(Ab s.heap l).objs.size=s.heap.objs.size+1:=by unfold Ab;rw[size_push]
 have f2:((Ab s.heap l).push {cls:=.type "enumerate",data:=.fields #[.none,.bool false,.ref s.heap.objs.size,rawInt 0,.none,.none]}).get? (Ab s.heap l).objs.size=some _:=get?_push_size _ rfl;have f1:((Ab s.heap l).push {cls:=.type "enumerate",data:=.fields #[.none,.bool false,.ref s.heap.objs.size,rawInt 0,.none,.none]}).get? s.heap.objs.size=some _:=get?_push_of_some _ (get?_push_size _ rfl);refine(?_:_/\_);refine⟨⟨_,f2,rfl⟩,h _ _ s.heap.objs.size (by rw[y1];exact Nat.succ_ne_self _) f2 ⟨_,f1,rfl,rfl⟩ (fun b o e=>get?_push_of_some _ (get?_push_of_some _ e)) fun b hb=>?_⟩;simp only[mem_cons,not_mem_nil,or_false]at hb;rcases hb with e|e
 ·rw[e,y1];exact Nat.le_succ _
 ·rw[e];exact le_refl _
def Tc (K:Fg) (a:Addr):It:=
 ⟨fun i H=>∃xs x,fR K H a xs/\xs[i]?=some x,
  fun i H v H'=>∃T x,v=.ref T/\H T=none/\H'=upd H T (.tup [.int i,x])/\∀xs,fR K H a xs->xs[i]?=some x,
  fun i H=>∃xs,fR K H a xs/\xs.length<=i⟩
theorem Ea{eM:List Expr}{pt:Pos}{a e:Addr}(ne:e≠it):
  Turn P w K (.Tuple eM kt pt) (Tc K a) [e,it] e (fun i h=>(∃old,IsEnum h e it (i:Int) old)/\h.IsListIter it a i) where
 mem:=mem_cons_self
 obj:=fun i h st b hb=>by
  obtain⟨⟨old,Z⟩,o,ho,_,hd⟩:=st;simp only[mem_cons,not_mem_nil,or_false]at hb;rcases hb with q|q
  ·rw[q];exact⟨_,Z,fun v z=>nomatch z⟩
  ·rw[q];exact⟨o,ho,fun v z=>by rw[hd]at z;cases z⟩
 keep:=fun i h h' st k=>by
  obtain⟨⟨old,Z⟩,o,ho,r⟩:=st;exact⟨⟨old,k e (by simp) _ Z⟩,o,k it (by simp) _ ho,r⟩
 item:=by
  intro X hP hw hK hc i pins s σ H E I hf st hg;subst hP hw hK;obtain⟨⟨old,Z⟩,w1⟩:=st;obtain⟨xs,x,c1,hx⟩:=hg;obtain⟨ak,r1,p1,_⟩:=I.list c1;obtain⟨ux,Ot,rx⟩:=r1.get hx;have lt:∀b∈[e,it],b<s.heap.objs.size:=fun b hb=>by
   simp only[mem_cons,not_mem_nil,or_false]at hb;rcases hb with q|q
   ·rw[q];exact lt_size Z
   ·rw[q];obtain⟨o,ho,_⟩:=w1;exact lt_size ho
  refine wpAny_pyNext_enum_item Z w1 p1.isList (x:=ux) (by simpa using Ot) ne fun g b1 b2 b3 b4 b5=>⟨_,rfl,?_⟩;refine wpAny_letOwnedTupleGo_enum (s:={s with heap:=g,toks:=s.toks+1}) b1 fun g' b6 b7=>?_;have In:Inv X pins σ (upd H s.heap.objs.size (.tup [.int i,x])) {s with heap:=s.heap.push {cls:=.type "tuple",data:=.seq #[.int i s.toks,ux]},toks:=s.toks+1}:=
   I.laid (t':=s.toks+1) (fun b u e=>get?_push_of_some _ e) (le_refl _) ⟨by show 2<=sizeLine;decide,[.int i s.toks,ux],.cons ⟨_,rfl⟩ (.cons rx .nil),⟨_,get?_push_size _ rfl,rfl,_,rfl⟩⟩
  have v7:∀b∈[e,it],(upd H s.heap.objs.size (.tup [.int i,x])) b=none:=fun b hb=>by
   rw[bA (ne_of_lt (lt b hb))];exact(hf b hb).1
  have I3:Inv X pins σ (upd H s.heap.objs.size (.tup [.int i,x])) {s with heap:=g',toks:=s.toks+1}:=rR (s:={s with heap:=s.heap.push {cls:=.type "tuple",data:=.seq #[.int i s.toks,ux]},toks:=s.toks+1}) (h':=g') (t':=s.toks+1) (ch:=[e,it]) In (fun b o hb q=>by
   simp only[mem_cons,not_mem_nil,or_false,not_or]at hb;refine b7.extBut _ _ hb.1 ?_;rcases Heap.get?_push_cases (show(s.heap.push {cls:=.type "tuple",data:=.seq #[.int i s.toks,ux]}).get? b=some o from q)with⟨e1,e2⟩|e1
   ·rw[e1,e2];exact b3
   ·exact b5 b o hb.1 hb.2 e1) fun b hb=>⟨v7 b hb,(hf b hb).2⟩
  refine⟨.ref s.heap.objs.size,upd H s.heap.objs.size (.tup [.int i,x]),I3,rfl,⟨_,x,rfl,I.bw.fresh (le_refl _),rfl,fun ys d1=>?_⟩,⟨⟨_,b6⟩,?_⟩,v7⟩
  ·rw[I.tE d1 c1];exact hx
  ·obtain⟨o,ho,r⟩:=b2;exact⟨o,b7.extBut _ _ ne.symm ho,r⟩
 done:=by
  intro X hP hw hK hc i pins s σ H E I hf st hg;subst hP hw hK;obtain⟨⟨old,Z⟩,w1⟩:=st;obtain⟨xs,c1,hl⟩:=hg;obtain⟨ak,r1,p1,_⟩:=I.list c1;have l1:=r1.length;refine wpAny_pyNext_enum_end (I.ok.hd hc) Z w1 p1.isList (by simp;omega) fun g k=>⟨rfl,?_⟩;exact rR (h':=g) (t':=s.toks) (ch:=[e,it]) I (fun b o hb q=>by
   simp only[mem_cons,not_mem_nil,or_false,not_or]at hb;exact k b o hb.2 q) hf
 self:=fun A i s Q E st h=>wpAny_pyIter_enum st.1.choose_spec h
def QM (K:Fg) (ta:TA):TI:=fun σ H R=>ta σ H fun vs H1=>∃a1,vs=[.ref a1]/\(∃xs,fR K H1 a1 xs)/\R (Tc K a1) H1
theorem Lu{eM:List Expr}{pt:Pos}(hg:Gl X "enumerate")(hm:X.mg "enumerate"=none)(ha:PA X [a] ta)(hs:starEach [a] X.env=[(false,eval a X.env)]:=by rfl):
  PI X (.Tuple eM kt pt) (.Call (.Name "enumerate" p) [a] [] pos) (QM X.K ta):=by
 intro pins s σ H R I h;refine Call_ (mW I hg hm boot_enumerate (PyProof.Rows.callWith_type1 (cg (ha pos pins s σ H _ I h) fun us s1 ⟨vs,H1,I1,r1,q1⟩=>?_) (by rw[hs];rfl) (by rfl)));obtain⟨a1,e,⟨xs,c1⟩,q⟩:=q1;subst e;cases r1 with
 |cons r rr=>
  cases rr;cases r;obtain⟨Dj,_,p1,_⟩:=I1.list c1;exact DK p1.isList fun h' e it ne Z w1 kk new=>wpAny_pyIter_enum Z ⟨e,[e,it],_,_,H1,rfl,I1.kept (t':=s1.toks) kk,Ea ne,⟨⟨_,Z⟩,w1⟩,fun b hb=>I1.wj (new b hb) (I1.bw.fresh (new b hb)),q⟩
def kL:Nat->List Dat->List Dat
 |_,[]=>[]
 |i,x::xs=>.tuple [.int i,x]::kL (i+1) xs
variable {fs:ax->Option (List Dat)} in
def rh (fs:ax->Option (List Dat)):ax->Option (List Dat):=fun ρ=>(fs ρ).bind fun ds=>match ds with
 |[.list xs]=>some (kL 0 xs)
 |_=>none
theorem xK:∀(xs:List Dat) (i:Nat),(kL i xs).length=xs.length
 |[],_=>rfl
 |x::xs,i=>congrArg (· + 1) (xK xs (i+1))
theorem xM:∀{xs:List Dat} {k i:Nat} {d:Dat},(kL k xs)[i]?=some d->∃x,xs[i]?=some x/\d=.tuple [.int ((k+i:Nat):Int),x]
 |[],k,i,d,h=>by simp[kL]at h
 |x::xs,k,0,d,h=>by simp[kL]at h;exact⟨x,rfl,h.symm⟩
 |x::xs,k,i+1,d,h=>by
  obtain⟨y,h1,h2⟩:=xM (xs:=xs) (k:=k+1) (i:=i) (by simpa [kL]using h);exact⟨y,by simpa using h1,by rw[h2,show k+1+i=k+(i+1) by omega]⟩
variable {fs:ax->Option (List Dat)} in
theorem HN{eM:List Expr}{pt:Pos}(hm:X.mg "enumerate"=none)(ha:Hb X [a] fs)(hg:Gl X "enumerate":=by rfl)(hs:starEach [a] X.env=[(false,eval a X.env)]:=by rfl):
  T2 X (.Tuple eM kt pt) (.Call (.Name "enumerate" p) [a] [] pos) (rh fs):=oI (Lu hg hm ha hs) fun σ H R aQ=>by
 obtain⟨Av,ρ,ds,hA,hE,hf,q⟩:=aQ;obtain⟨as,e1,hf⟩:=bind_some hf;refine⟨Av,ρ,as,hA,hE,e1,fun vs H1 s1 r=>?_⟩;match as,hf,r with
 |[.list x],hf,r=>
  cases hf;obtain⟨v,rfl,rv⟩:=r.dZ;obtain⟨a1,xs,rfl,c1,_⟩:=rv.fY;refine⟨a1,rfl,⟨xs,c1.sq⟩,q _ [.ref a1] [.list x] H1 s1 r fun i H j3 rr=>?_⟩;obtain⟨v',e,Eo⟩:=rr.dZ;cases e;obtain⟨_,xs,e,c1,rx⟩:=Eo.fY;cases e;refine⟨fun hl=>⟨xs,c1.sq,?_⟩,fun di hd=>?_⟩
  ·rw[xK]at hl;rw[rx.length];exact hl
  ·obtain⟨dx,h1,rfl⟩:=xM hd;obtain⟨vx,hx,N6⟩:=rx.get h1;refine⟨⟨xs,vx,c1.sq,hx⟩,fun z H' OK hz=>?_⟩;obtain⟨T,x',rfl,hT,rfl,hh⟩:=hz;have h3:=hh xs c1.sq;rw[hx]at h3;cases h3;rw[zero_add];exact⟨bZ hT _,.tw OK hT (.cons (.int _) (.cons N6 .nil))⟩
variable {fs:ax->Option (List Dat)} in
theorem qJ{eM:List Expr}{pt:Pos}(hm:X.mg "enumerate"=none)(ha:jQ X [a] fs)(hg:Gl X "enumerate":=by rfl)(hs:starEach [a] X.env=[(false,eval a X.env)]:=by rfl):
  vz X (.Tuple eM kt pt) (.Call (.Name "enumerate" p) [a] [] pos) (rh fs):=⟨HN hm ha.o hg hs⟩
open PySem PySem.Spec PyProof.Rows L2
open PySem.W (Dat kqdOk)
def KN (hi:Int) (n:Nat):It:=⟨fun i _=>i<n,fun i H x H'=>H'=H/\x=.int (hi-i),fun i _=>n<=i⟩
theorem Eb(it:Addr)(hi:Int)(n:Nat):Turn P w K tg (KN hi n) [it] it (fun i h=>IsRangeIter h it (hi+(i:Nat)*(-1)) ((n:Int)-(i:Nat)) (-1)) where
 mem:=by simp
 obj:=fun i h st b hb=>by
  have q:b=it:=by simpa using hb
  rw[q];exact⟨_,st,fun v z=>by
   have z2:Data.fields _=Data.cell v:=z;cases z2⟩
 keep:=fun i h h' st k=>k it (by simp) _ st
 item:=by
  intro X hP hw hK hc i pins s σ H E I hf st hg;subst hP hw hK;obtain⟨f0,f1,f2,f3,f4,f5⟩:=hf it (by simp);refine wpAny_pyNext_range_item st (by have:i<n:=hg;omega) fun g b1 b2=>?_;have I1:Inv X pins σ H {s with heap:=g,toks:=s.toks+1}:=I.turned (fun b o hb e=>b2.extBut b o hb e) f0 f1 f3 f4 f5;have b3:IsRangeIter g it (hi+((i+1:Nat):Int)*(-1)) ((n:Int)-((i+1:Nat):Int)) (-1):=by
   have e1:hi+((i+1:Nat):Int)*(-1)=hi+(i:Int)*(-1)+(-1):=by omega
   have e2:(n:Int)-((i+1:Nat):Int)=(n:Int)-(i:Int)-1:=by omega
   rw[e1,e2];exact b1
  refine⟨_,rfl,ym (s:={s with heap:=g,toks:=s.toks+1}) (n:="range_iterator") b1 rfl rfl (by decide) ⟨.int (hi-i),H,I1,⟨s.toks,?_⟩,⟨rfl,rfl⟩,b3,fun b hb=>(hf b hb).1⟩⟩;rw[show hi+(i:Int)*(-1)=hi-i by omega]
 done:=by
  intro X hP hw hK hc i pins s σ H E I hf st hg;subst hP hw hK;obtain⟨f0,f1,f2,f3,f4,f5⟩:=hf it (by simp);exact wpAny_pyNext_range_end (I.ok.hd hc) st (by have:n<=i:=hg;omega) fun g eb=>⟨rfl,I.turned (t':=s.toks) (fun b o hb e=>eb b o hb e) f0 f1 f3 f4 f5⟩
 self:=fun _ _ _ _ _ st h=>wpAny_pyIter_rangeiter st h
theorem xb(a b:Int):Builtin.Range.rangeSize a b (-1)=((a-b).toNat:Int):=by
 unfold Builtin.Range.rangeSize;rw[if_neg (by decide)];split
 ·rw[show(- (-1:Int))=1 by decide,Int.ediv_one];omega
 ·omega
variable {hi:Int}
theorem small_down{lo:Int}(h1: -(2^62)<=hi)(h2:hi<2^62)(h3: -(2^62)<=lo)(h4:lo<2^62):Builtin.Range.small hi lo (-1)=true:=by
 unfold Builtin.Range.small;rw[xb];simp only[Builtin.Range.rangeFitsLong,and_eq_true,or_eq_true,decide_eq_true_eq,beq_iff_eq,show ¬(-1:Int)>0 by decide,if_false];omega
theorem Ex{σ:L2.St}{s:Shared}{R:It->Hp->Prop}{lo:Int}{t u v:Tok}{tk:Nat}(I:Inv X pins σ H s)(h1: -(2^62)<=hi)(h2:hi<2^62)(h3: -(2^62)<=lo)(h4:lo<2^62)(q:R (KN hi (hi-lo).toNat) H):wpAny (model X.prog X.w) X.A (pyIter (.ref s.heap.objs.size)) (PL X pins σ tg R) E {s with heap:=s.heap.push {cls:=.type "range",data:=.fields #[.int hi t,.int lo u,.int (-1) v]},toks:=tk}:=by
 refine wpAny_pyIter_range (IsRange.new ..) (small_down h1 h2 h3 h4) ?_;generalize ho:({cls:=.type "range",data:=.fields #[.int hi t,.int lo u,.int (-1) v]}:Obj)=o;have I1:Inv X pins σ H {s with heap:=s.heap.push o,toks:=tk}:=I.kept fun b o e=>get?_push_of_some _ e;refine⟨(s.heap.push o).objs.size,[(s.heap.push o).objs.size],_,_,H,rfl,I1.kept (t':=tk) fun b o e=>get?_push_of_some _ e,Eb _ hi (hi-lo).toNat,?_,fun b hb=>?_,q⟩
 ·have e1:hi+((0:Nat):Int)*(-1)=hi:=by simp
  have e2:(((hi-lo).toNat:Nat):Int)-((0:Nat):Int)=Builtin.Range.rangeSize hi lo (-1):=by rw[xb];omega
  show IsRangeIter _ _ (hi+((0:Nat):Int)*(-1)) ((((hi-lo).toNat:Nat):Int)-((0:Nat):Int)) (-1);rw[e1,e2];exact get?_push_size _ rfl
 ·have e:b=(s.heap.push o).objs.size:=by simpa using hb
  rw[e];exact I1.wj (le_refl _) (I1.bw.fresh (le_refl _))
def QN (ta:TA):TI:=fun σ H R=>ta σ H fun vs H1=>∃i j:Int,vs=[.int i,.int j,.int (-1)]/\(-(2^62)<=i/\i<2^62/\-(2^62)<=j/\j<2^62)/\R (KN i (i-j).toNat) H1
theorem Lv(hg:Gl X "range")(hm:X.mg "range"=none)(ha:PA X [a,b,c] ta)(hs:starEach [a,b,c] X.env=[(false,eval a X.env),(false,eval b X.env),(false,eval c X.env)]:=by rfl)(rj:starEach [b,c] X.env=[(false,eval b X.env),(false,eval c X.env)]:=by rfl):
  PI X tg (.Call (.Name "range" p) [a,b,c] [] pos) (QN ta):=by
 intro pins s σ H R I h;refine Call_ (mW I hg hm boot_range (PyProof.Rows.callWith_type1 (cg (ha pos pins s σ H _ I h) fun us s1 ⟨vs,H1,I1,r1,q1⟩=>?_) (by rw[hs,rj]) (by rw[rj];rfl)));obtain⟨i,j,e,⟨q1,q2,q3,q4⟩,q⟩:=q1;subst e;cases r1 with
 |cons r rr=>
  cases rr with
  |cons r' rr=>
   cases rr with
   |cons VA rr=>
    cases rr;obtain⟨t,rfl⟩:=r;obtain⟨t',rfl⟩:=r';obtain⟨t'',rfl⟩:=VA;exact call_range_3 (by decide) (Ex I1 q1 q2 q3 q4 q) (.inl (PyProof.noPylong_of_log2 (by decide +kernel)))
def jk (hi:Int) (n:Nat):List Dat:=(List.range n).map fun(i:Nat)=>Dat.int (hi-(i:Int))
def CM:List Dat->Option (List Dat)
 |[.int i,.int j,.int k]=>if k=-1/\(-(2^62)<=i/\i<2^62)/\(-(2^62)<=j/\j<2^62)then some (jk i (i-j).toNat)else none
 |_=>none
theorem EW:Over K (KN hi n) .bR .none (jk hi n):=by
 intro i H Av _;refine⟨fun h=>?_,fun di hd=>?_⟩
 ·have:(jk hi n).length=n:=by unfold jk;rw[length_map,length_range]
  show n<=i;omega
 ·unfold jk at hd;rw[getElem?_map]at hd;cases e:(List.range n)[i]? with
  |none=>rw[e]at hd;cases hd
  |some k=>
   rw[e]at hd;cases hd;obtain⟨hl,e2⟩:=List.getElem?_eq_some_iff.mp e;rw[length_range]at hl;rw[List.getElem_range]at e2;subst e2;refine⟨hl,fun y H' hy=>?_⟩;obtain⟨e1,e3⟩:=hy;subst e3;exact⟨e1,.int _⟩
theorem aC.Ec{e g:Dat}(h:aC K H Av vs [d,e,g]):∃v u t,vs=[v,u,t]/\aP K H Av v d/\aP K H Av u e/\aP K H Av t g:=by
 cases h with|cons a r=>obtain⟨u,t,rfl,b,c⟩:=r.fw;exact⟨_,u,t,rfl,a,b,c⟩
variable {fs:ax->Option (List Dat)} in
theorem HP(hm:X.mg "range"=none)(ha:Hb X [a,b,c] fs)(hg:Gl X "range":=by rfl)(hs:starEach [a,b,c] X.env=[(false,eval a X.env),(false,eval b X.env),(false,eval c X.env)]:=by rfl)(rj:starEach [b,c] X.env=[(false,eval b X.env),(false,eval c X.env)]:=by rfl):
  T2 X tg (.Call (.Name "range" p) [a,b,c] [] pos) (rf CM fs):=oI (Lv hg hm ha hs rj) fun σ H R aQ=>by
 obtain⟨Av,ρ,ds,hA,hE,hf,q⟩:=aQ;obtain⟨as,e1,e2⟩:=bind_some hf;refine⟨Av,ρ,as,hA,hE,e1,fun vs H1 s1 r=>?_⟩;unfold CM at e2;split at e2
 ·rename_i i j k;split at e2
  ·rename_i hj;obtain⟨rfl,⟨g1,g2⟩,g3,g4⟩:=hj;cases e2;obtain⟨v,u,t,rfl,rv,ru,rt⟩:=r.Ec;rw[rv.cN,ru.cN,rt.cN];exact⟨i,j,rfl,⟨g1,g2,g3,g4⟩,q _ [.bR] [.none] H1 s1 (.cons .bR .nil) EW.s⟩
  ·cases e2
 ·cases e2
variable {fs:ax->Option (List Dat)} in
theorem EC(hm:X.mg "range"=none)(ha:jQ X [a,b,c] fs)(hg:Gl X "range":=by rfl)(hs:starEach [a,b,c] X.env=[(false,eval a X.env),(false,eval b X.env),(false,eval c X.env)]:=by rfl)(rj:starEach [b,c] X.env=[(false,eval b X.env),(false,eval c X.env)]:=by rfl):
  vz X tg (.Call (.Name "range" p) [a,b,c] [] pos) (rf CM fs):=⟨HP hm ha.o hg hs rj⟩
def DC (fa fb:ax->Option (List Dat)):ax->Option (List Dat):=fun ρ=>(fa ρ).bind fun x=>(fb ρ).bind fun y=>if x.length+y.length<=sizeLine then some (x++y)else none
variable {gs:ax->Option (List Dat)}
variable {fs:ax->Option (List Dat)} in
theorem Lz(ha:PE X a (jG X.K fs))(hb:PE X b (jG X.K gs)):PE X (.BinOp a .Add b pos) (jG X.K (DC fs gs)):=bh (yf By ha hb) fun σ H Q aQ=>by
 obtain⟨Av,ρ,out,hA,hE,hf,q⟩:=aQ;obtain⟨x,e1,hf⟩:=bind_some hf;obtain⟨y,e2,hf⟩:=bind_some hf;split at hf
 ·rename_i hz;cases hf;refine⟨Av,ρ,x,hA,hE,e1,fun H1 p xs s1 hp r=>?_⟩;have s2:=bZ hp (.lst xs);refine⟨Av,ρ,y,hA.same (s1.trans s2),hE.same (s1.trans s2),e2,fun H2 p2 ys s3 gA r2=>?_⟩;have s4:=bZ gA (.lst ys);refine⟨p,p2,xs,ys,rfl,rfl,.of (s4 p _ (s3 p _ dD)),.of dD,by rw[r.length,r2.length];exact hz,fun p3 VX=>?_⟩;exact q _ p3 _ (s1.trans (s2.trans (s3.trans s4))) VX ((r.same (s2.trans (s3.trans s4))).append (r2.same s4))
 ·cases hf
variable {fs:ax->Option (List Dat)} in
theorem HE(ha:QE X a (jG X.K fs))(hb:QE X b (jG X.K gs)):QE X (.BinOp a .Add b pos) (jG X.K (DC fs gs)):=⟨Lz ha.o hb.o⟩
def F6:Nat->Dat->Bool
 |0,_=>false
 |n+1,d=>match d with
  | .list _=>false
  | .tuple ds=>ds.all (F6 n)
  | .none=>true
  | .bool _=>true
  | .int _=>true
  | .str _=>true
  |_=>false
theorem aP.apart{K:Fg}{aj H H':Hp}{Av:gg}{pn:Option Addr}{aK:Hid}{σ:L2.St}{Γ:aG}{ad:Nat->Addr}(G:GA K aj Av pn aK H σ Γ ad)(s:aV H H'):∀(n:Nat) {v:V} {d:Dat},F6 n d=true->aP K H' Av v d->aP K H' (aX Av Γ ad) v d
 |0,v,d,h,_=>by cases h
 |n+1,v,d,h,r=>by
  cases r with
  |bR=>exact .bR
  |bl b=>exact .bl b
  |int i=>exact .int i
  |str x=>exact .str x
  | @tup a xs ds hq rs=>
   have pP:ds.all (F6 n)=true:=h;have Vy:aC K H' (aX Av Γ ad) xs ds:=by
    clear hq h;induction xs generalizing ds with
    |nil=>cases rs;exact .nil
    |cons x xs ih=>
     cases rs with
     |cons r1 r2=>
      rw[all_cons,and_eq_true]at pP;exact .cons (aP.apart G s n pP.1 r1) (ih r2 pP.2)
   refine .tup ?_ Vy;rcases hq with⟨h1,h2⟩|h1
   ·refine .inl ⟨h1,?_⟩;rintro(z|⟨i,sl,ei,mi,z⟩)
    ·exact h2 z
    ·cases sl with
     |a7 d=>cases mi
     |own es=>
      obtain⟨ys,_,hl,_⟩:=G.own i es ei;have iG:=s _ _ hl;rw[z]at iG;rcases h1 with h1|⟨o,h1⟩
      ·rw[h1]at iG;cases iG
      ·rw[h1]at iG;cases iG
     |obj O es=>
      obtain⟨ys,_,hl,_⟩:=G.obj i O es ei;have iG:=s _ _ hl;rw[z]at iG;rcases h1 with h1|⟨o,h1⟩
      ·rw[h1]at iG;cases iG
      ·rw[h1]at iG;cases iG
   ·exact .inr h1
  |lst _ _=>cases h
def yd (i:Nat) (f:ax->Option Dat):aG->Option Fl:=fun Γ=>(f (bX Γ)).bind fun d=>if F6 9 d=true then some (.nx (Γ.set i (some (.a7 d))))else none
theorem HK(i:Nat)(hN:X.N.Nodup)(h:PF X e f)(hi:X.N[i]?=some x:=by rfl)(hx:Loc X.env.scope x:=by first|exact .inl rfl|exact .inr rfl)(hs:swapsWith e (some (.Name x pos')) pos.line X.env=pure false:=by rfl)(hf:X.fn x=true\/X.env.scope.names.lookup x=some .local:=by first|exact .inl rfl|exact .inr rfl):
  T1 X (.Assign [.Name x pos'] e pos) (yd i f):=cD (qO hN hi hx h hs hf) fun D σ H aQ=>by
 obtain⟨aj,Av,pn,aK,Γ,fl,⟨ad,G⟩,hf,q⟩:=aQ;obtain⟨d,e1,hf⟩:=bind_some hf;split at hf
 ·rename_i hn;cases hf;exact⟨Av,bX Γ,d,G.jP.same G.same,G.rG,e1,fun v H' s r=>q _ _ ⟨ad,(G.grow s).set i (aP.apart G s 9 hn r)⟩⟩
 ·cases hf
theorem xg(i:Nat)(hN:X.N.Nodup)(h:QF X e f)(hi:X.N[i]?=some x:=by rfl)(hx:Loc X.env.scope x:=by first|exact .inl rfl|exact .inr rfl)(hs:swapsWith e (some (.Name x pos')) pos.line X.env=pure false:=by rfl)(hf:X.fn x=true\/X.env.scope.names.lookup x=some .local:=by first|exact .inl rfl|exact .inr rfl):
  gM X (.Assign [.Name x pos'] e pos) (yd i f):=⟨HK i hN h.o hi hx hs hf⟩
open PySem PySem.Spec PyProof.Rows L2
open PySem.W (Dat kqdOk)
def vN (i:Nat) (f fb:ax->Option Dat):aG->Option Fl:=fun Γ=>(f (bx Γ)).bind fun d=>(fb (bx Γ)).bind fun k=>(nt k).bind fun k=>match Γ[i]? with
 |some (some (.own ds))=>(mX ds.length k).map fun j=>.nx (Γ.set i (some (.own (ds.set j d))))
 |_=>none
theorem CV(i:Nat)(pe:PF X e f)(pb:PF X b fb)(hN:X.N[i]?=some x:=by rfl)(hv:nA X.env.scope x:=by first|exact Or.inl rfl|exact Or.inr (Or.inl rfl)|exact Or.inr (Or.inr rfl))(hd:(x==("__debug__" : Str))=false:=by decide)(gB:(x==("__classdict__" : Str))=false:=by decide)(ha:∀v,assign (.Subscript (.Name x p1) b p3) X.env v=(do
   let ov <- holding [v] (eval (.Name x p1) X.env);let iv <- holding [v,ov] (eval b X.env);standAt p3
   holding [v,ov,iv] (setItem ov iv v)
   release [v,ov,iv] []):=by intro _;rfl)(hs:swapsWithSole [.Subscript (.Name x p1) b p3] e pos.line X.env=pure false:=by rfl)(hw:swappedStores [.Subscript (.Name x p1) b p3] e X.env=pure none:=by rfl)(h1:(assignEach [.Subscript (.Name x p1) b p3] X.env).map (·.2)=[assign (.Subscript (.Name x p1) b p3) X.env]:=by rfl):
  T1 X (.Assign [.Subscript (.Name x p1) b p3] e pos) (vN i f fb):=cD (qP pe (yX (mS hN hv hd gB) pb set_list ha) hs hw h1) fun D σ H aQ=>by
 obtain⟨aj,Av,pn,aK,Γ,fl,⟨ad,G⟩,hf,q⟩:=aQ;obtain⟨d,e1,Wl⟩:=bind_some hf;obtain⟨kd,e2,OH⟩:=bind_some Wl;obtain⟨k,e3,iH⟩:=bind_some OH;have e4:=pX e3;subst e4;cases hi:Γ[i]? with
 |none=>rw[hi]at iH;cases iH
 |some o=>
  cases o with
  |none=>rw[hi]at iH;cases iH
  |some sl=>
   cases sl with
   |a7 _=>rw[hi]at iH;cases iH
   |obj _ _=>rw[hi]at iH;cases iH
   |own ds=>
    rw[hi]at iH;obtain⟨j,e5,Wk⟩:=bj (show(mX ds.length k).map _=some fl from iH);subst Wk;refine⟨aX Av Γ ad,bx Γ,d,G.gE,G.iR,e1,fun v H' s r=>?_⟩;have G1:=G.grow s;obtain⟨xs,g1,g2,g3,g4⟩:=G1.own i ds hi;refine⟨_,g1,aX Av Γ ad,bx Γ,.int k,G1.gE,G1.iR,e2,fun y H2 s2 ry=>?_⟩;have G2:=G1.grow s2;obtain⟨ys,g5,g6,g7,g8⟩:=G2.own i ds hi;refine⟨_,ys,k,j,rfl,ry.cN,g6,by rw[g7.length];exact e5,q _ _ ⟨ad,G2.change hi (g7.set (r.same s2))⟩⟩
theorem AD(i:Nat)(pe:QF X e f)(pb:QF X b fb)(hN:X.N[i]?=some x:=by rfl)(hv:nA X.env.scope x:=by first|exact Or.inl rfl|exact Or.inr (Or.inl rfl)|exact Or.inr (Or.inr rfl))(hd:(x==("__debug__" : Str))=false:=by decide)(gB:(x==("__classdict__" : Str))=false:=by decide)(ha:∀v,assign (.Subscript (.Name x p1) b p3) X.env v=(do
   let ov <- holding [v] (eval (.Name x p1) X.env);let iv <- holding [v,ov] (eval b X.env);standAt p3
   holding [v,ov,iv] (setItem ov iv v)
   release [v,ov,iv] []):=by intro _;rfl)(hs:swapsWithSole [.Subscript (.Name x p1) b p3] e pos.line X.env=pure false:=by rfl)(hw:swappedStores [.Subscript (.Name x p1) b p3] e X.env=pure none:=by rfl)(h1:(assignEach [.Subscript (.Name x p1) b p3] X.env).map (·.2)=[assign (.Subscript (.Name x p1) b p3) X.env]:=by rfl):
  gM X (.Assign [.Subscript (.Name x p1) b p3] e pos) (vN i f fb):=⟨CV i pe.o pb.o hN hv hd gB ha hs hw h1⟩
open PySem PySem.Spec PyProof.Rows L2
open PySem.W (Dat kqdOk kqdP kqdPs kqd_lay)
abbrev RK:=Str×List Int
def eI (k:RK):Dat:=.tuple [.str k.1,.tuple (k.2.map .int)]
def rT (w:World) (k:RK):Int:=reduceHash (Builtin.Tuple.tupleHashOf [hashStr w k.1,reduceHash (Builtin.Tuple.tupleHashOf (k.2.map hashInt))])
def eJ (P:Program) (w:World) (h:Heap) (k:RK) (a:Addr):Prop:=∃o n t b,h.get? a=some o/\o.cls=.type "tuple"/\o.data=.seq #[.str k.1 t,.ref b] n/\IsTupleKey (intKind P w) h k.2 b/\PyData.strOk k.1=true
variable {k:RK} {a:Addr}
variable {s:Shared} in
theorem eJ.ty(x:eJ P w s.heap k a):s.TypeIs (.ref a) "tuple":=by
 obtain⟨o,n,t,b,h1,h2,_⟩:=x;exact⟨o,h1,h2⟩
variable {h:Heap} {x y:RK}
theorem eJ.same(p:eJ P w h x a)(q:eJ P w h y a):x=y:=by
 obtain⟨o,n,t,b,h1,h2,h3,h4,_⟩:=p;obtain⟨o',n',t',b',g1,g2,g3,g4,_⟩:=q;have e:o=o':=Option.some.inj (h1.symm.trans g1);subst e;rw[h3]at g3;injection g3 with g3 _;injection g3 with g3;injection g3 with e1 e2;injection e2 with e2 _;injection e1 with e1 _;injection e2 with e2;subst e2;exact Prod.ext e1 (h4.inj g4)
variable {d:Addr}
theorem eJ.om{o:Obj}{es ep}(x:eJ P w h k a)(ho:h.get? d=some o)(hd:o.data=.dict es ep)(hs:SameBut d h h'):eJ P w h' k a:=by
 obtain⟨o',n,t,b,h1,h2,h3,h4,h5⟩:=x;refine⟨o',n,t,b,(hs.2 a ?_).trans h1,h2,h3,h4.keeps ho hd hs,h5⟩;intro z;subst z;rw[h1]at ho;cases ho;rw[hd]at h3;cases h3
variable {s:Shared} in
theorem eJ.hash{Q:Int->Shared->Prop}(hu:A.units+8<cLine)(hk:eJ P w s.heap k a)(h:Q (rT w k) {s with toks:=s.toks+(k.2.length+3)}):wpAny (model P w) A (pyHash (.ref a)) Q E s:=by
 have ty:=hk.ty;obtain⟨o,n,t,b,ho,_,hd,hb,_⟩:=hk;unfold pyHash pyHashByItsType;refine wpAny_bind (wpAny_cRoomFor_or (.inr (by omega)) (wpAny_bind (wpAny_specialOf ty F.slot_tuple_hash.lookup ?_)));have nb:¬((some (Value.builtin "tuple.__hash__")==some Value.none)=true):=by rw[beq_builtin_none];exact Bool.false_ne_true
 refine(?_:wpAny _ _ (if(some (Value.builtin "tuple.__hash__")==some Value.none)=true then _ else _) Q E s);rw[if_neg nb];refine wpAny_bind (wpAny_specialOf ty F.slot_tuple_hash.lookup (?_:wpAny _ _ (callSpecialIfBoundUnlessNone? (.ref a) "__hash__" _ >>= _) Q E s));refine wpAny_bind (wpAny_callSpecialIfBoundUnlessNone?_slot ty F.slot_tuple_hash (wpAny_call_entry F.slot_tuple_hash ty F.entry_tuple_hash ?_ (F.args_tuple_hash_1 _)));refine(?_:wpAny _ _ (Builtin.Tuple.tupleItemsOf (.ref a) >>= _) _ _ s);refine wpAny_bind (wpAny_tupleItemsOf ho hd (wpAny_bind ?_));rw[<- forIn_toList];refine wpAny_forIn_list _ (fun rest (arr:Array Int) s'=>(rest=[.str k.1 t,.ref b]/\arr.toList=[]/\s'=s)\/(rest=[.ref b]/\arr.toList=[hashStr w k.1]/\s'={s with toks:=s.toks+1})\/
  (rest=[]/\arr.toList=[hashStr w k.1,tupleKeyHash (intKind P w) k.2]/\s'={s with toks:=s.toks+1+(k.2.length+1)})) _ ?_ ?_ _ _ (.inl ⟨rfl,rfl,rfl⟩)
 ·rintro x rest arr s' (⟨h1,h2,rfl⟩|⟨h1,h2,rfl⟩|⟨h1,_⟩)
  ·cases h1;refine wpAny_bind (wpAny_pyHash_str ?_);first
    |exact wpAny_pure (.inr (.inl ⟨rfl,by simp[h2],rfl⟩))
    |exact wpAny_bind (wpAny_pure (wpAny_pure (.inr (.inl ⟨rfl,by simp[h2],rfl⟩))))
  ·cases h1;refine wpAny_bind (wpAny_pyHash_tuple (by first|omega|(show A.units+1<cLine;omega)|(show A.units+2<cLine;omega)) hb ?_)
   first
    |exact wpAny_pure (.inr (.inr ⟨rfl,by simp[h2],rfl⟩))
    |exact wpAny_bind (wpAny_pure (wpAny_pure (.inr (.inr ⟨rfl,by simp[h2],rfl⟩))))
  ·cases h1
 ·rintro arr s' (⟨h1,_⟩|⟨h1,_⟩|⟨_,h2,rfl⟩)
  ·cases h1
  ·cases h1
  ·refine(?_:wpAny _ _ (retInt (Builtin.Tuple.tupleHashOf arr.toList)) _ _ _);rw[h2];refine wpAny_ret_mkInt ?_;have e1:tupleKeyHash (intKind P w) k.2=reduceHash (Builtin.Tuple.tupleHashOf (k.2.map hashInt)):=rfl;rw[e1];unfold rT at h;generalize hz:Builtin.Tuple.tupleHashOf [hashStr w k.1,reduceHash (Builtin.Tuple.tupleHashOf (k.2.map hashInt))]=z at h;refine(?_:wpAny _ _ (if(decide (-(2:Int)^63<=z)&&decide (z<2^63))=true then _ else _) Q E _);have et:s.toks+1+(k.2.length+1)+1=s.toks+(k.2.length+3):=by omega
   unfold reduceHash at h;by_cases hr:(decide (-(2:Int)^63<=z)&&decide (z<2^63))=true
   ·rw[if_pos hr]at h ⊢;exact wpAny_pure (by rw[<- et]at h;exact h)
   ·rw[if_neg hr]at h ⊢;exact wpAny_bind (wpAny_rule (wpAny_pure (by rw[<- et]at h;exact h)))
theorem uU{h:Heap}:∀{ns:List Int} {vs:List Value},ItemsAre (intKind P w) ns vs->ReadsAll h vs (kqdPs (ns.map Dat.int)) []
 |[],_,.nil=>by rw[map_nil,kqdPs];exact .nil
 |n::ns,_,.cons h1 hr=>by
  obtain⟨t,rfl⟩:=Value.isInt_shape (k:=n) h1;rw[map_cons,kqdPs,kqdP];have:=ReadsAll.cons (Reads.int n t) (uU (h:=h) hr);exact this
theorem eJ.reads(x:eJ P w h k a):Reads h (.ref a) (kqdP (eI k)) []:=by
 obtain⟨o,n,t,b,h1,h2,h3,⟨o',ak,n',g1,g2,g3,g4⟩,_⟩:=x;unfold eI;rw[kqdP,kqdPs,kqdPs,kqdPs,kqdP,kqdP];refine .tuple h1 h2 h3 ?_;have:=ReadsAll.cons (Reads.str (h:=h) k.1 t) (ReadsAll.cons (Reads.tuple g1 g2 g3 (uU (h:=h) g4)) .nil);exact this
theorem eJ.Ei(x:eJ P w h k a):PyData.strOk k.1=true:=let ⟨_,_,_,_,_,_,_,_,q⟩:=x;q
theorem mC(hk:PyData.strOk k.1=true):kqdOk 9 (eI k)=true:=by
 have e:(k.2.map Dat.int).all (kqdOk 7)=true:=by rw[all_map,all_eq_true];exact fun _ _=>rfl
 unfold eI;simp only[kqdOk,all_cons,List.all_nil,e,hk,Bool.and_true,Bool.true_and]
theorem pf(h:eI x=eI y):x=y:=by
 unfold eI at h;simp only[PySem.W.Dat.tuple.injEq,List.cons.injEq,PySem.W.Dat.str.injEq,and_true]at h;exact Prod.ext h.1 ((List.map_inj_right fun a b e=>by simpa using e).mp h.2)
variable {Q:Bool->Shared->Prop}
variable {s:Shared} in
theorem eJ.eqv{b:Addr}(hu:A.units+8<cLine)(hx:eJ P w s.heap x a)(hy:eJ P w s.heap y b)(h:Q (decide (x=y)) s):wpAny (model P w) A (eqBool (.ref a) (.ref b)) Q E s:=by
 have l1:=kqd_lay 9 _ (mC hx.Ei);have l2:=kqd_lay 9 _ (mC hy.Ei);have d3:(kqdP (eI x)).depth<=3:=by
  have e:kqdOk 3 (eI x)=true:=by
   have e:(x.2.map Dat.int).all (kqdOk 1)=true:=by rw[all_map,all_eq_true];exact fun _ _=>rfl
   unfold eI;simp only[kqdOk,all_cons,List.all_nil,e,hx.Ei,Bool.and_true,Bool.true_and]
  exact(kqd_lay 3 _ e).2
 refine PySem.SeqAt.eqBoolOverData P w A E s _ _ _ _ _ _ Q hx.reads hy.reads l1.1 l2.1 (by omega) ?_;rw[wq _ _ (mC hx.Ei) (mC hy.Ei)];by_cases e:x=y
 ·subst e;rw[nj rfl];rw[decide_eq_true rfl]at h;exact h
 ·rw[nk fun z=>e (pf z)];rw[decide_eq_false e]at h;exact h
variable {m:Nat}
variable {s:Shared} in
theorem CN{ks:List Int}(hk:IsTupleKey (intKind P w) s.heap ks a)(h:Q true s):wpAny (model P w) A (eqIsQuiet (m+1) (.ref a)) Q E s:=by
 have hT:=hk.typeIs;obtain⟨o,ak,n,ho,_,hd,hi⟩:=hk;unfold eqIsQuiet;refine wpAny_bind (wpAny_specialOf hT F.slot_tuple_eq.lookup (?_:wpAny _ _ (isInstance (.ref a) (.type "tuple") >>= _) _ _ s));refine wpAny_bind (wpAny_isInstance hT isSubtype_tuple_tuple ?_);simp only[Bool.not_true,false_eq_true,if_false];refine wpAny_bind (wpAny_seqItems ho hd (wpAny_bind (?_:wpAny _ _ (forIn ak _ _) _ _ s)));rw[<- forIn_toList];refine wpAny_forIn_list _ (fun tl acc s2=>(∀x∈tl,carriedByValue x=true)/\s2=s/\acc.1=none) _ ?_ ?_ _ _ ⟨hi.byValue,rfl,rfl⟩
 ·rintro x tl acc s2 ⟨hv,rfl,ha⟩;rw[eqIsQuiet_byValue _ (hv x mem_cons_self)];refine wpAny_bind (wpAny_pure ?_);simp only[Bool.not_true,false_eq_true,if_false];exact wpAny_pure ⟨fun u q=>hv u (mem_cons_of_mem _ q),rfl,rfl⟩
 ·rintro⟨c1,c2⟩ s2 ⟨_,rfl,ha⟩;simp only at ha;subst ha;exact wpAny_pure h
variable {s:Shared} in
theorem eJ.quiet(hk:eJ P w s.heap k a)(h:Q true s):wpAny (model P w) A (eqIsQuiet 8 (.ref a)) Q E s:=by
 have hT:=hk.ty;obtain⟨o,n,t,b,ho,_,hd,hb,_⟩:=hk;unfold eqIsQuiet;refine wpAny_bind (wpAny_specialOf hT F.slot_tuple_eq.lookup (?_:wpAny _ _ (isInstance (.ref a) (.type "tuple") >>= _) _ _ s));refine wpAny_bind (wpAny_isInstance hT isSubtype_tuple_tuple ?_);simp only[Bool.not_true,false_eq_true,if_false];refine wpAny_bind (wpAny_seqItems ho hd (wpAny_bind (?_:wpAny _ _ (forIn #[Value.str k.1 t,.ref b] _ _) _ _ s)));rw[<- forIn_toList];refine wpAny_forIn_list _ (fun rest r s'=>r.1=none/\s'=s/\(∀v∈rest,carriedByValue v=true\/v=.ref b)) _ ?_ ?_ _ _ ⟨rfl,rfl,fun v hv=>by
  simp only[mem_cons,not_mem_nil,or_false]at hv;rcases hv with e|e
  ·rw[e];exact .inl rfl
  ·exact .inr e⟩
 ·rintro v rest acc s2 ⟨ha,rfl,pP⟩;rcases pP v mem_cons_self with e|e
  ·rw[eqIsQuiet_byValue _ e];refine wpAny_bind (wpAny_pure ?_);simp only[Bool.not_true,false_eq_true,if_false];exact wpAny_pure ⟨rfl,rfl,fun u q=>pP u (mem_cons_of_mem _ q)⟩
  ·rw[e];refine wpAny_bind (CN hb ?_);simp only[Bool.not_true,false_eq_true,if_false];exact wpAny_pure ⟨rfl,rfl,fun u q=>pP u (mem_cons_of_mem _ q)⟩
 ·rintro⟨c1,c2⟩ s2 ⟨ha,rfl,_⟩;simp only at ha;subst ha;exact wpAny_pure h
def vQ (P:Program) (w:World):HeapKind P w RK where
 is:=eJ P w
 hash:=rT w
 draws:=fun k=>k.2.length+3
 room:=fun A=>A.units+8<cLine
 inj:=fun p q=>p.same q
 keeps:=fun x ho hd hs=>x.om ho hd hs
 pyHash:=fun hu hk h=>hk.hash hu h
 eqBool:=fun hu hx hy h=>hx.eqv hu hy h
 quiet:=fun hk h=>hk.quiet h
open PySem PySem.Spec PyProof.Rows L2
open PySem.W (Dat kqdOk)
def sT (h:Heap) (d:Addr) (es:Array DictEntry) (ep:Nat):Prop:=∃o,h.get? d=some o/\o.ExactDict/\o.data=.dict es ep
variable {es:Array DictEntry} {ep:Nat}
variable {s:Shared} in
theorem sT.ty(m:sT s.heap d es ep):s.TypeIs (.ref d) "dict":=let ⟨o,e,c,_⟩:=m;⟨o,e,c.1⟩
variable {s:Shared} in
theorem M5{Q:Value->Shared->Prop}(nd:(d==sysModules)=false)(m:sT s.heap d es ep)(q:Q (.ref s.heap.objs.size) {s with heap:=s.heap.push {cls:=.type "dict_keyiterator",data:=.fields #[.ref d,.int 0 0,.int es.size 0,.int ep 0]}}):wpAny (model P w) A (pyIter (.ref d)) Q E s:=by
 have ty:=m.ty;obtain⟨o,e,c,da⟩:=m;refine wpAny_pyIter_slot ty F.slot_dict_iter (wpAny_call_entry F.slot_dict_iter ty F.entry_dict_iter ?_ (F.args_dict_iter_1 _));unfold Builtin.«dict.__iter__» Builtin.Dict.dictSlotNone;refine wpAny_bind (wpAny_bind (wpAny_notOrdered_dict ty (wpAny_pure ?_)));refine(?_:wpAny _ _ (Builtin.Dict.showsAll d >>= _) _ _ s);unfold Builtin.Dict.showsAll;rw[if_neg (fun z=>Bool.false_ne_true (nd.symm.trans z))];refine wpAny_bind (wpAny_pure (wpAny_bind (wpAny_dictEntries e da (wpAny_bind (wpAny_dictEpoch e da (wpAny_bind (wpAny_newObj_type (wpAny_pure ⟨_,rfl,"dict_keyiterator",_,⟨_,get?_push_size _ rfl,rfl⟩,F.slot_dict_keyiterator_next.lookup,?_⟩))))))));simpa [rawInt]using q
variable {s:Shared} in
theorem M4{Q:Option Value->Shared->Prop}{x:DictEntry}(ki:s.heap.IsKeyIter it d i es.size ep)(m:sT s.heap d es ep)(hx:es[i]?=some x)(q:∀h',h'.IsKeyIter it d (i+1) es.size ep->SameBut it s.heap h'->Q (some x.key) {s with heap:=h'}):wpAny (model P w) A (pyNext (.ref it)) Q E s:=by
 have ty:=ki.typeIs;obtain⟨o,e,c,da⟩:=id ki;obtain⟨o2,e2,c2,GD⟩:=id m;have lt:i<es.size:=by
  by_cases z:i<es.size
  ·exact z
  ·rw[Array.getElem?_eq_none (by omega)]at hx;cases hx
 unfold pyNext;refine wpAny_bind (wpAny_attempt (wpAny_callSpecial?_slot (name:=Str.ofString "__next__") ty F.slot_dict_keyiterator_next (wpAny_call_entry F.slot_dict_keyiterator_next ty F.entry_dict_keyiterator_next (wpAny_bind (wpAny_pure (wpAny_bind (wpAny_bind ?_)))) (F.args_dict_keyiterator_next_1 _))));first|refine wpAny_bind (wpAny_typeNameOfWhole_keyiter ty (wpAny_pure (wpAny_bind (wpAny_fieldsOf e da ?_))))|refine wpAny_bind (wpAny_typeNameOf_keyiter ty (wpAny_pure (wpAny_bind (wpAny_fieldsOf e da ?_))))
 have ow:Builtin.Dict_items.ownsTuple "dict_keyiterator"=false:=by decide
 simp only[ow,false_eq_true,if_false];refine(?_:wpAny _ _ (if(Value.ref d==Value.none)=true then _ else _) _ _ s);have nn:¬((Value.ref d==Value.none)=true):=Bool.false_ne_true;rw[if_neg nn];refine wpAny_bind (wpAny_pure (wpAny_bind (wpAny_dictEntries e2 GD ?_)));rw[if_neg (by simp)];refine wpAny_bind (wpAny_pure (wpAny_bind (wpAny_dictEpoch e2 GD ?_)));rw[if_neg (by simp)];refine wpAny_pure ?_;simp only[show ¬((i:Int)<0) by omega,if_false,toNat_natCast,hx];refine wpAny_bind ?_;first|refine wpAny_bind (wpAny_typeNameOfWhole_keyiter ty (wpAny_pure (wpAny_bind (wpAny_isOneOf_keyiter ty ?_))))|refine wpAny_bind (wpAny_typeNameOf_keyiter ty (wpAny_pure (wpAny_bind (wpAny_isOneOf_keyiter ty ?_))))
 refine(?_:wpAny _ _ (setField (.ref it) 1 (rawInt ((i:Int)+1)) >>= _) _ _ s);refine wpAny_bind (wpAny_setField e da (by simp) ?_);have RL:(s.heap.update it (Obj.mapFields (·.setIfInBounds 1 (rawInt ((i:Int)+1))))).IsKeyIter it d (i+1) es.size ep:=⟨_,Heap.get?_update_self _ e (Obj.isFreed_of_fields (Obj.data_mapFields da _)),(Obj.cls_mapFields ..).trans c,by rw[Obj.data_mapFields da];simp[rawInt]⟩;refine wpAny_bind (wpAny_holding (wpAny_bind (wpAny_isOneOf_keyiter (s:={s with heap:=s.heap.update it (Obj.mapFields (·.setIfInBounds 1 (rawInt ((i:Int)+1))))}) RL.typeIs ?_)));refine(?_:wpAny _ _ (pure x.key) _ _ _);exact wpAny_pure (wpAny_pure ⟨_,rfl,wpAny_pure (q _ RL (SameBut.update ..))⟩)
variable {s:Shared} in
theorem P0{Q:Option Value->Shared->Prop}(hh:A.handled=none)(ki:s.heap.IsKeyIter it d es.size es.size ep)(m:sT s.heap d es ep)(q:∀h',Heap.ExtBut it s.heap h'->Q none {s with heap:=h'}):wpAny (model P w) A (pyNext (.ref it)) Q E s:=by
 have ty:=ki.typeIs;obtain⟨o,e,c,da⟩:=id ki;obtain⟨o2,e2,c2,GD⟩:=id m;unfold pyNext;refine wpAny_bind (wpAny_attempt (wpAny_callSpecial?_slot (name:=Str.ofString "__next__") ty F.slot_dict_keyiterator_next (wpAny_call_entry F.slot_dict_keyiterator_next ty F.entry_dict_keyiterator_next (wpAny_bind (wpAny_pure (wpAny_bind (wpAny_bind ?_)))) (F.args_dict_keyiterator_next_1 _))));first|refine wpAny_bind (wpAny_typeNameOfWhole_keyiter ty (wpAny_pure (wpAny_bind (wpAny_fieldsOf e da ?_))))|refine wpAny_bind (wpAny_typeNameOf_keyiter ty (wpAny_pure (wpAny_bind (wpAny_fieldsOf e da ?_))))
 have ow:Builtin.Dict_items.ownsTuple "dict_keyiterator"=false:=by decide
 simp only[ow,false_eq_true,if_false];refine(?_:wpAny _ _ (if(Value.ref d==Value.none)=true then _ else _) _ _ s);have nn:¬((Value.ref d==Value.none)=true):=Bool.false_ne_true;rw[if_neg nn];refine wpAny_bind (wpAny_pure (wpAny_bind (wpAny_dictEntries e2 GD ?_)));rw[if_neg (by simp)];refine wpAny_bind (wpAny_pure (wpAny_bind (wpAny_dictEpoch e2 GD ?_)));rw[if_neg (by simp)];refine wpAny_pure ?_;simp only[show ¬((es.size:Int)<0) by omega,if_false,toNat_natCast,Array.getElem?_eq_none (le_refl es.size)];refine wpAny_bind ?_;first|refine wpAny_bind (wpAny_typeNameOfWhole_keyiter ty (wpAny_pure ?_))|refine wpAny_bind (wpAny_typeNameOf_keyiter ty (wpAny_pure ?_))
 refine(?_:wpAny _ _ (setField (.ref it) 0 .none >>= _) _ _ s);refine wpAny_bind (wpAny_setField e da (by simp) (?_:wpAny _ _ (newExc (.type "StopIteration") [] >>= _) _ _ _));refine wpAny_bind ?_;simp only[newExc,newTuple];refine wpAny_bind (wpAny_newObj_type (wpAny_bind (m:=firstArgMember _ _) (wpAny_of_eq (a:=Value.none) (by first|rfl|(simp only[firstArgMember];rfl)) (wpAny_newObj_type ?_ (by size_fits)))) (by size_fits))
 simp only[raiseNew];refine wpAny_bind (wpAny_handled ?_);have h0:A.in1.handled=none:=hh;rw[h0];refine wpAny_bind (wpAny_pure (wpAny_throw (wpAny_bind ?_)));refine wpAny_isInstance (T:="StopIteration") (b:=true) ⟨_,get?_push_size _ rfl,rfl⟩ isSubtype_stop (?_:wpAny _ _ _ _ _ _);exact wpAny_pure (q _ (((SameBut.update ..).extBut.push _).push _))
theorem sT.of(m:sT h d es ep)(k:∀o,h.get? d=some o->h'.get? d=some o):sT h' d es ep:=let ⟨o,e,r⟩:=m;⟨o,k o e,r⟩
theorem IT(hh:A.handled=none)(it d:Addr)(ne:d≠it)(es:Array DictEntry)(ep:Nat):Walks P w A it [it,d] [it] es.size (fun i v=>∃x,es[i]?=some x/\v=x.key) (fun i h=>h.IsKeyIter it d i es.size ep/\sT h d es ep) where
 sub:=fun b hb=>by simp at hb;simp[hb]
 frame:=fun _ _ _ st k=>⟨st.1.at fun o e=>k it (by simp) o e,st.2.of fun o e=>k d (by simp) o e⟩
 item:=fun i s Q E hi st q=>M4 st.1 st.2 (Array.getElem?_eq_getElem hi) fun h' k1 sb=>q _ h' s.toks ⟨_,Array.getElem?_eq_getElem hi,rfl⟩ ⟨k1,st.2.of fun o e=>sb.extBut d o ne e⟩ fun b o hb e=>sb.extBut b o (fun z=>hb (by simp[z])) e
 done:=fun s Q E st q=>P0 hh st.1 st.2 fun h' eb=>q h' s.toks fun b o hb e=>eb b o (fun z=>hb (by simp[z])) e
 self:=fun _ _ _ _ st q=>wpAny_pyIter_keyiter st.1 q
theorem OZ(nd:(d==sysModules)=false):PySem.W.KdlSrc P w "dict" d d es.size (fun i v=>∃x,es[i]?=some x/\v=x.key) (fun h=>sT h d es ep) where
 type:=fun _ m=>m.ty
 there:=fun _ ⟨_,e,_⟩=>⟨lt_size e,lt_size e⟩
 keep:=fun _ _ m k=>m.of fun o e=>k d (.inl rfl) o e
 notList:=by decide
 notTuple:=by decide
 hint:=fun _ _ _ _ m q=>PySem.W.kdl_hint_dict m.ty q
 iter:=fun _ s hh m=>⟨_,_,(fun _ _ q=>M5 nd m q),IT hh _ d (let ⟨_,e,_⟩:=m;ne_of_lt (lt_size e)) es ep,⟨⟨_,get?_push_size _ rfl,rfl,rfl⟩,m.of fun o e=>get?_push_of_some _ e⟩⟩
open PySem PySem.Spec PyProof.Rows L2
open PySem.W (Dat kqdOk)
def J6 (w:World) (p:RK×Addr):DictEntry:=⟨rT w p.1,.ref p.2,.bool true⟩
def jN (w:World) (ks:List RK) (a:Addr) (xs:List V) (h:Heap):Prop:=
 (a==sysModules)=false/\ks.length<=sizeLine/\ks.Nodup/\∃as:List Addr,as.length=ks.length/\xs=as.map V.ref/\∃o es ep,h.get? a=some o/\o.ExactDict/\o.data=.dict es ep/\es.toList=(ks.zip as).map (J6 w)
variable {ks:List RK}
theorem jN.ok(m:jN w ks a xs h):gG P w H h a (.ext (jN w ks a xs)):=by
 refine⟨m,?_,fun h1 h2 m1 k=>?_⟩
 ·obtain⟨_,_,_,_,_,_,o,_,_,e,_⟩:=m;exact⟨o,e⟩
 ·obtain⟨c1,c2,c3,as,c4,c5,o,es,ep,e,r⟩:=m1;exact⟨c1,c2,c3,as,c4,c5,o,es,ep,k o e,r⟩
def Qh (w:World):TE:=fun _ H Q=>∀p,H p=none->Q (.ref p) (upd H p (.ext (jN w [] p [])))
theorem LB:PE X (.Dict [] [] pos) (Qh X.w):=fun pins s σ H Q I h=>by
 refine wpAny_Dict_empty ⟨.ref s.heap.objs.size,_,I.laid (a:=s.heap.objs.size) (o:=.ext (jN X.w [] s.heap.objs.size [])) (t':=s.toks) (fun _ _ q=>get?_push_of_some _ q) (le_refl _) (jN.ok ⟨?_,zero_le _,List.nodup_nil,[],rfl,rfl,_,#[],0,get?_push_size _ rfl,⟨rfl,rfl,rfl⟩,rfl,rfl⟩),rfl,h _ (I.bw.fresh (le_refl _))⟩;have b:=I.big;exact beq_eq_false_iff_ne.mpr (Nat.ne_of_gt b)
theorem xu:∀{ns:List Int} {ys:List V} {us:List Value},aC K H Av ys (ns.map Dat.int)->Vals ys us->ItemsAre (intKind P w) ns us
 |[],_,_,.nil,.nil=>.nil
 |n::ns,_,_,.cons r1 r2,.cons v1 v2=>by
  rw[r1.cN]at v1;obtain⟨t,rfl⟩:=v1;exact .cons (by simp[intKind,Value.isInt]) (xu r2 v2)
theorem Et{σ:L2.St}{s:Shared}(I:Inv X pins σ H s)(hk:PyData.strOk k.1=true)(r:aP X.K H Av v (eI k)):∃b,v=.ref b/\eJ X.prog X.w s.heap k b:=by
 obtain⟨b,xs,rfl,hq,rs⟩:=r.fz;refine⟨b,rfl,?_⟩;obtain⟨ak,vs,⟨o,ho,hc,n,hd⟩,_⟩:=I.tuple hq.sq;cases rs with
 |cons r1 rs=>
  cases rs with
  |cons r2 rs=>
   cases rs;rw[r1.iS]at vs;obtain⟨c,ys,e2,BP,uu⟩:=r2.fz;subst e2;obtain⟨jB,Vg,⟨o2,rn,zT,n2,hd2⟩,_⟩:=I.tuple BP.sq;cases vs with
   |cons v1 vs=>
    cases vs with
    |cons v2 vs=>
     cases vs;obtain⟨t,rfl⟩:=v1;cases v2;exact⟨o,n,t,c,ho,hc,hd,⟨o2,jB.toArray,n2,rn,zT,hd2,by rw[List.toList_toArray];exact xu uu Vg⟩,hk⟩
theorem yJ{pins:List (Addr×Obj)}{σ:L2.St}{s:Shared}(I:Inv X pins σ H s):∀{ks:List RK} {as:List Addr},(∀k∈ks,PyData.strOk k.1=true)->aC X.K H Av (as.map V.ref) (ks.map eI)->∀p∈ks.zip as,eJ X.prog X.w s.heap p.1 p.2
 |[],_,_,_,p,hp=>by simp at hp
 |k::ks,[],_,_,p,hp=>by simp at hp
 |k::ks,a::as,hs,.cons r1 r2,p,hp=>by
  rw[zip_cons_cons]at hp;rcases mem_cons.mp hp with e|hp
  ·obtain⟨b,e1,q⟩:=Et I (hs k mem_cons_self) r1;injection e1 with e1;rw[e,e1];exact q
  ·exact yJ I (fun k hk=>hs k (mem_cons_of_mem _ hk)) r2 p hp
def ig (ks:List RK) (k:RK):List RK:=if k∈ks then ks else ks++[k]
def ye (ks:List RK) (xs:List V) (k:RK) (v:V):List V:=if k∈ks then xs else xs++[v]
def Qq (K:Fg) (w:World):DP:=fun o i v H Q=>∃p ks xs k Av,o=.ref p/\v=.bl true/\H p=some (.ext (jN w ks p xs))/\(∀k∈ks,PyData.strOk k.1=true)/\PyData.strOk k.1=true/\aC K H Av xs (ks.map eI)/\aP K H Av i (eI k)/\ks.length<sizeLine/\Q (upd H p (.ext (jN w (ig ks k) p (ye ks xs k i))))
def qi (ks:List RK) (as:List Addr):List (RK×Addr×Value):=(ks.zip as).map fun p=>(p.1,p.2,Value.bool true)
variable {as:List Addr}
theorem sk(h:as.length=ks.length):(qi ks as).map (·.1)=ks:=by
 unfold qi;rw[map_map];show(ks.zip as).map Prod.fst=ks;rw[List.map_fst_zip (by omega)]
theorem Mu(h:as.length=ks.length):(qi ks as).length=ks.length:=by
 unfold qi;rw[length_map,length_zip,h,min_self]
theorem Px(h:as.length=ks.length):(atKey (qi ks as) k).isSome=decide (k∈ks):=by
 unfold atKey;rw[Option.isSome_map];by_cases c:k∈ks
 ·rw[decide_eq_true c];rw[<- sk h]at c;obtain⟨x,hx,e⟩:=mem_map.mp c;exact List.find?_isSome.mpr ⟨x,hx,decide_eq_true e⟩
 ·rw[decide_eq_false c];refine eq_false_iff.mpr fun z=>?_;obtain⟨x,hx,e⟩:=List.find?_isSome.mp z;refine c ?_;rw[<- sk h];exact mem_map.mpr ⟨x,hx,of_decide_eq_true e⟩
theorem Ee{b:Addr}(h:as.length=ks.length):storedH (qi ks as) k b (.bool true)=qi (ig ks k) (if k∈ks then as else as++[b]):=by
 have e:=Px (k:=k) h;unfold storedH ig;by_cases c:k∈ks
 ·rw[decide_eq_true c]at e;rw[if_pos e,if_pos c,if_pos c];unfold qi;rw[map_map];refine List.map_congr_left fun p _=>?_;show putAt k (.bool true) (p.1,p.2,.bool true)=_;unfold putAt;split<;>rfl
 ·rw[decide_eq_false c]at e;rw[if_neg (by rw[e];decide),if_neg c,if_neg c];unfold qi;rw[List.zip_append h.symm,map_append];rfl
theorem Gv:(qi ks as).map (entryOfKey (vQ P w))=(ks.zip as).map (J6 w):=by
 unfold qi;rw[map_map];rfl
theorem AQ:∀{as:List Addr} {us:List Value},us.length=as.length->(∀(j:Nat) (a:Addr) (u:Value),as[j]?=some a->us[j]?=some u->u=.ref a)->Vals (as.map V.ref) us
 |[],[],_,_=>.nil
 |[],_::_,h,_=>by simp at h
 |_::_,[],h,_=>by simp at h
 |a::as,u::us,h,q=>.cons (q 0 a u rfl rfl) (AQ (by simpa using h) fun j b v h1 h2=>q (j+1) b v (by simpa using h1) (by simpa using h2))
theorem La(hu:X.A.units+20<cLine):Je X (Qq X.K X.w):=by
 intro pins s σ H o i v ov iv u Q I ro ri rv h;obtain⟨p,ks,xs,k,Av,rfl,rfl,hp,hs,hk,rs,rk,hz,q⟩:=h;cases ro;cases rv;obtain⟨b,rfl,hb⟩:=Et I hk rk;cases ri;obtain⟨m,_,_⟩:=(show gG X.prog X.w H s.heap p (.ext (jN X.w ks p xs))from I.bw p _ hp);obtain⟨c1,c2,c3,as,c4,rfl,o,es,ep,e,xd,da,he⟩:=m;have hm:s.heap.DictOfH (vQ X.prog X.w) p (qi ks as):=⟨o,es,ep,e,xd,da,by rw[Gv];exact he,fun x hx=>by
  obtain⟨y,hy,rfl⟩:=mem_map.mp hx;exact yJ I hs rs y hy,by rw[sk c4];exact c3⟩
 refine wpAny_setItem_heap (knd:=vQ X.prog X.w) (show X.A.in1.units+8<cLine by first|omega|(show X.A.units+1+8<cLine;omega)) hb hm (fun h' BQ sb=>?_) (by rw[Mu c4];omega)
 rw[Ee c4]at BQ;obtain⟨o',Gq,Gs,e',Vd,Xp,Kg,_,RF⟩:=BQ;have l2:(if k∈ks then as else as++[b]).length=(ig ks k).length:=by
  unfold ig;split
  ·exact c4
  ·rw[length_append,length_append,c4];rfl
 have n2:(ig ks k).Nodup:=by rw[sk l2]at RF;exact RF
 have z2:(ig ks k).length<=sizeLine:=by
  unfold ig;split
  ·exact c2
  ·rw[length_append];show ks.length+1<=sizeLine;omega
 have x2:ye ks (as.map V.ref) k (.ref b)=(if k∈ks then as else as++[b]).map V.ref:=by
  unfold ye;split
  ·rfl
  ·rw[map_append];rfl
 refine⟨_,I.write (x:=p) (e:=p) (by rw[hp];trivial) (.inl rfl) (fun c u ne ec=>(sb.2 c ne).trans ec) ⟨o',e'⟩ (jN.ok ⟨c1,z2,n2,_,l2,x2,o',Gq,Gs,e',Vd,Xp,by rw[Gv]at Kg;exact Kg⟩),q⟩
theorem GS(hh:X.A.handled=none):jt X (.type "list") (fun vs H Q=>∃p ks xs,vs=[.ref p]/\H p=some (.ext (jN X.w ks p xs))/\∀l,H l=none->Q (.ref l) (upd H l (.lst xs))):=by
 intro pins s σ H vs us Q I hv h;obtain⟨p,ks,xs,rfl,hp,q⟩:=h;cases hv with
 |cons v1 v2=>
  cases v2;cases v1;obtain⟨m,_,_⟩:=(show gG X.prog X.w H s.heap p (.ext (jN X.w ks p xs))from I.bw p _ hp);obtain⟨c1,c2,c3,as,c4,rfl,o,es,ep,e,xd,da,he⟩:=m;have ez:es.size=ks.length:=by rw[<- length_toList,he,length_map,length_zip,c4,min_self]
  refine PySem.W.kdl_call (OZ (es:=es) (ep:=ep) c1) hh ⟨o,e,xd,da⟩ (by rw[ez];exact c2) fun h' tk acc c' k hl hi=>?_;have hv:Vals (as.map V.ref) acc.toList:=by
   have hlen:acc.toList.length=as.length:=by rw[length_toList,hi.1,ez,c4]
   refine AQ hlen fun j a u ha hu=>?_;obtain⟨x,hx,rfl⟩:=hi.2 j u (by rw[<- Array.getElem?_toList];exact hu);have hj:j<ks.length:=by rw[<- c4];exact(List.getElem?_eq_some_iff.mp ha).1
   have xw:((ks.zip as).map (J6 X.w))[j]?=some x:=by rw[<- he,Array.getElem?_toList];exact hx
   rw[getElem?_map]at xw;cases hz:(ks.zip as)[j]? with
   |none=>rw[hz]at xw;cases xw
   |some y=>
    rw[hz]at xw;cases xw;have:=(List.getElem?_zip_eq_some.mp hz).2;rw[ha]at this;cases this;rfl
  refine⟨.ref s.heap.objs.size,_,I.laid (t':=tk) (a:=s.heap.objs.size) (o:=.lst (as.map V.ref)) k (le_refl _) ?_,rfl,q _ I.fresh⟩;exact⟨by rw[length_map,c4];exact c2,acc.toList,_,hv,by rw[Array.toArray_toList];exact hl⟩
open PySem PySem.Spec PyProof.Rows L2
open PySem.W (Dat kqdOk)
theorem GA.N2(G:GA K aj Av pn aK H σ Γ ad){O:Addr->List V->Heap->Prop}{p:Addr}(i:Nat)(oQ:i≠0)(hp:H p=none)(r:aC K H (aX Av Γ ad) xs ds):
  GA K aj Av pn aK (upd H p (.ext (O p xs))) (σ.set i (some (.ref p))) (Γ.set i (some (.obj O ds))) (fun j=>if j=i then p else ad j):=by
 have sm:aV H (upd H p (.ext (O p xs))):=bZ hp _;have F5:∀j s,Γ[j]?=some (some s)->Slot.mt s=true->ad j≠p:=fun j s h m=>by
  obtain⟨⟨o,b⟩,_⟩:=G.mt h m;exact bz b hp
 have kp:lW H (aX Av Γ ad) (upd H p (.ext (O p xs))) (aX Av (Γ.set i (some (.obj O ds))) (fun j=>if j=i then p else ad j)):=by
  intro b o h n;refine⟨sm b o h,?_⟩;rintro(z|⟨j,es,e,m,r⟩)
  ·exact n (.inl z)
  ·rcases aU e with⟨e1,_⟩|⟨e1,q⟩
   ·have r':p=b:=by simpa [e1]using r
    exact bz h hp r'.symm
   ·have r':ad j=b:=by simpa [e1]using r
    exact n (.inr ⟨j,es,q,m,r'⟩)
 have z0:aj p=none:=by
  cases e0:aj p with
  |none=>rfl
  |some o=>have:=G.same p o e0;rw[hp]at this;cases this
 refine⟨G.same.trans sm,G.jP,by rw[length_set,length_set];exact G.len,fun j d' h=>?_,fun j es h=>?_,fun j l es fs h1 h2 m1 m2 e=>?_,fun q hq=>(G.aK q hq).mono kp,fun a es e h=>?_,fun j O' es h=>?_⟩
 ·rcases aU h with⟨e,q⟩|⟨e,q⟩
  ·cases q
  ·obtain⟨u,a,b⟩:=G.a7 j d' q;exact⟨u,by rw[getElem?_set_ne (Ne.symm e)];exact a,b.mono kp⟩
 ·rcases aU h with⟨e,q⟩|⟨e,q⟩
  ·cases q
  ·obtain⟨ys,a,b,c,e'⟩:=G.own j es q;refine⟨ys,?_,?_,c.mono kp,?_⟩
   ·rw[if_neg e,getElem?_set_ne (Ne.symm e)];exact a
   ·rw[if_neg e];exact sm _ _ b
   ·rw[if_neg e];exact e'
 ·rcases aU h1 with⟨e1,q1⟩|⟨e1,q1⟩
  ·rcases aU h2 with⟨e2,q2⟩|⟨e2,q2⟩
   ·rw[e1,e2]
   ·rw[if_pos e1,if_neg e2]at e;exact absurd e.symm (F5 l fs q2 m2)
  ·rcases aU h2 with⟨e2,q2⟩|⟨e2,q2⟩
   ·rw[if_neg e1,if_pos e2]at e;exact absurd e (F5 j es q1 m1)
   ·rw[if_neg e1,if_neg e2]at e;exact G.inj j l es fs q1 q2 m1 m2 e
 ·rcases aU h with⟨z,_⟩|⟨_,q⟩
  ·exact absurd z.symm oQ
  ·show(if 0=i then p else ad 0)=a;rw[if_neg (Ne.symm oQ)];exact G.pin a es e q
 ·have fq:=fW h;rw[length_set]at fq;rcases aU h with⟨e,q⟩|⟨e,q⟩
  ·subst e;cases q;refine⟨xs,?_,?_,r.mono kp,?_⟩
   ·rw[if_pos rfl];exact getElem?_set_self (by rw[G.len];exact fq)
   ·rw[if_pos rfl];exact dD
   ·rw[if_pos rfl];exact z0
  ·obtain⟨ys,a,b,c,e'⟩:=G.obj j O' es q;refine⟨ys,?_,?_,c.mono kp,?_⟩
   ·rw[if_neg e,getElem?_set_ne (Ne.symm e)];exact a
   ·rw[if_neg e];exact sm _ _ b
   ·rw[if_neg e];exact e'
theorem GA.GO(G:GA K aj Av pn aK H σ Γ ad){O O':Addr->List V->Heap->Prop}{es:List Dat}{ys:List V}(hi:Γ[i]?=some (some (.obj O ds)))(r:aC K H (aX Av Γ ad) ys es):
  GA K aj Av pn aK (upd H (ad i) (.ext (O' (ad i) ys))) σ (Γ.set i (some (.obj O' es))) ad:=by
 have av:∀a,aX Av (Γ.set i (some (.obj O' es))) ad a->aX Av Γ ad a:=by
  rintro a (z|⟨j,fs,e,m,q⟩)
  ·exact .inl z
  ·rcases aU e with⟨e1,_⟩|⟨e1,q1⟩
   ·subst e1;exact .inr ⟨j,_,hi,rfl,q⟩
   ·exact .inr ⟨j,fs,q1,m,q⟩
 have kp:lW H (aX Av Γ ad) (upd H (ad i) (.ext (O' (ad i) ys))) (aX Av (Γ.set i (some (.obj O' es))) ad):=by
  intro b o h n;refine⟨?_,fun z=>n (av b z)⟩;rw[bA fun z=>n (.inr ⟨i,_,hi,rfl,z.symm⟩)];exact h
 obtain⟨MH,g1,g2,g3,g4⟩:=G.obj i O ds hi;refine⟨fun b o h=>?_,G.jP,by rw[length_set];exact G.len,fun j d' h=>?_,fun j fs h=>?_,fun j l fs gs h1 h2 m1 m2 e=>?_,fun p hp=>(G.aK p hp).mono kp,fun a fs e h=>?_,fun j O2 fs h=>?_⟩
 ·rw[bA (bz h g4)];exact G.same b o h
 ·rcases aU h with⟨e,q⟩|⟨e,q⟩
  ·cases q
  ·obtain⟨u,a,b⟩:=G.a7 j d' q;exact⟨u,a,b.mono kp⟩
 ·rcases aU h with⟨e,q⟩|⟨e,q⟩
  ·cases q
  ·obtain⟨zs,a,b,c,e'⟩:=G.own j fs q;refine⟨zs,a,?_,c.mono kp,e'⟩;rw[bA fun z=>e (G.inj j i _ _ q hi rfl rfl z)];exact b
 ·rcases aU h1 with⟨e1,q1⟩|⟨e1,q1⟩
  ·rcases aU h2 with⟨e2,q2⟩|⟨e2,q2⟩
   ·rw[e1,e2]
   ·subst e1;exact G.inj j l _ gs hi q2 rfl m2 e
  ·rcases aU h2 with⟨e2,q2⟩|⟨e2,q2⟩
   ·subst e2;exact G.inj j l fs _ q1 hi m1 rfl e
   ·exact G.inj j l fs gs q1 q2 m1 m2 e
 ·rcases aU h with⟨_,q⟩|⟨_,q⟩
  ·cases q
  ·exact G.pin a fs e q
 ·rcases aU h with⟨e,q⟩|⟨e,q⟩
  ·subst e;cases q;exact⟨ys,g1,dD,r.mono kp,g4⟩
  ·obtain⟨zs,a,b,c,e'⟩:=G.obj j O2 fs q;refine⟨zs,a,?_,c.mono kp,e'⟩;rw[bA fun z=>e (G.inj j i _ _ q hi rfl rfl z)];exact b
def JI (w:World) (i:Nat):aG->Option Fl:=fun Γ=>some (.nx (Γ.set i (some (.obj (jN w []) []))))
variable {x:Str}
theorem CS(i:Nat)(hN:X.N.Nodup)(hi:X.N[i]?=some x:=by rfl)(oQ:i≠0:=by decide)(hx:Loc X.env.scope x:=by first|exact .inl rfl|exact .inr rfl)(hs:swapsWith (.Dict [] [] p2) (some (.Name x pos')) pos.line X.env=pure false:=by rfl)(hf:X.fn x=true\/X.env.scope.names.lookup x=some .local:=by first|exact .inl rfl|exact .inr rfl):
  gM X (.Assign [.Name x pos'] (.Dict [] [] p2) pos) (JI X.w i):=⟨cD (qO hN hi hx LB hs hf) fun D σ H aQ=>by
 obtain⟨aj,Av,pn,aK,Γ,fl,⟨ad,G⟩,hf,q⟩:=aQ;cases hf;exact fun p hp=>q _ _ ⟨_,G.N2 i oQ hp .nil⟩⟩
def Q0 (w:World) (O:Addr->List V->Heap->Prop) (ds:List Dat) (d:Dat) (p:List RK×RK):Prop:=O=jN w p.1/\ds=p.1.map eI/\d=eI p.2/\(∀k∈p.1,PyData.strOk k.1=true)/\PyData.strOk p.2.1=true/\p.1.length<sizeLine
noncomputable def ur (w:World) (i:Nat) (f:ax->Option Dat):aG->Option Fl:=open Classical in fun Γ=>(f (bx Γ)).bind fun d=>match Γ[i]? with
 |some (some (.obj O ds))=>if h:∃p,Q0 w O ds d p then some (.nx (Γ.set i (some (.obj (jN w (ig h.choose.1 h.choose.2)) ((ig h.choose.1 h.choose.2).map eI)))))else none
 |_=>none
theorem Eu{xs ys:List RK}(h:xs.map eI=ys.map eI):xs=ys:=(List.map_inj_right fun a b e=>pf e).mp h
theorem Hv(hi:Γ[i]?=some (some (.obj (jN w ks) (ks.map eI))))(hf:f (bx Γ)=some (eI k))(h1:∀k∈ks,PyData.strOk k.1=true)(h2:PyData.strOk k.1=true)(h3:ks.length<sizeLine):
  ur w i f Γ=some (.nx (Γ.set i (some (.obj (jN w (ig ks k)) ((ig ks k).map eI))))):=by
 unfold ur;rw[hf,Option.bind_some,hi];have ex:∃p,Q0 w (jN w ks) (ks.map eI) (eI k) p:=⟨(ks,k),rfl,rfl,rfl,h1,h2,h3⟩;refine(dif_pos ex).trans ?_;obtain⟨_,g2,g3,_⟩:=ex.choose_spec;rw[<- Eu g2,<- pf g3]
variable {k:Nat}
theorem CQ(i:Nat)(hr:cA k X.A)(pe:QF X e (fC (.bool true)))(pb:QF X b f)(hN:X.N[i]?=some x:=by rfl)(hv:nA X.env.scope x:=by first|exact Or.inl rfl|exact Or.inr (Or.inl rfl)|exact Or.inr (Or.inr rfl))(hd:(x==("__debug__" : Str))=false:=by decide)(gB:(x==("__classdict__" : Str))=false:=by decide)(ha:∀v,assign (.Subscript (.Name x p1) b p3) X.env v=(do
   let ov <- holding [v] (eval (.Name x p1) X.env);let iv <- holding [v,ov] (eval b X.env);standAt p3
   holding [v,ov,iv] (setItem ov iv v)
   release [v,ov,iv] []):=by intro _;rfl)(hs:swapsWithSole [.Subscript (.Name x p1) b p3] e pos.line X.env=pure false:=by rfl)(hw:swappedStores [.Subscript (.Name x p1) b p3] e X.env=pure none:=by rfl)(h1:(assignEach [.Subscript (.Name x p1) b p3] X.env).map (·.2)=[assign (.Subscript (.Name x p1) b p3) X.env]:=by rfl):
  gM X (.Assign [.Subscript (.Name x p1) b p3] e pos) (ur X.w i f):=⟨cD (qP pe.o (yX (mS hN hv hd gB) pb.o (La (by have:=hr.un;omega)) ha) hs hw h1) fun D σ H aQ=>by
 obtain⟨aj,Av,pn,aK,Γ,fl,⟨ad,G⟩,hf,q⟩:=aQ;obtain⟨d,e2,iH⟩:=bind_some hf;cases hi:Γ[i]? with
 |none=>rw[hi]at iH;cases iH
 |some o=>
  cases o with
  |none=>rw[hi]at iH;cases iH
  |some sl=>
   cases sl with
   |a7 _=>rw[hi]at iH;cases iH
   |own _=>rw[hi]at iH;cases iH
   |obj O ds=>
    rw[hi]at iH;dsimp only at iH;by_cases hx:∃p,Q0 X.w O ds d p
    ··rw[dif_pos hx]at iH;cases iH;obtain⟨c1,c2,c3,c4,c5,c6⟩:=hx.choose_spec;generalize hx.choose=pk at c1 c2 c3 c4 c5 c6 q;obtain⟨ks,kk⟩:=pk;dsimp only at c1 c2 c3 c4 c5 c6 q;subst c1 c2 c3;refine⟨aX Av Γ ad,bx Γ,.bool true,G.gE,G.iR,rfl,fun v H' s r=>?_⟩;have G1:=G.grow s;obtain⟨xs,g1,g2,g3,g4⟩:=G1.obj i _ _ hi;refine⟨_,g1,aX Av Γ ad,bx Γ,eI kk,G1.gE,G1.iR,e2,fun y H2 s2 ry=>?_⟩;have G2:=G1.grow s2;obtain⟨ys,g5,g6,g7,g8⟩:=G2.obj i _ _ hi;have rv:v=.bl true:=by cases r;rfl
      refine⟨ad i,ks,ys,kk,aX Av Γ ad,rfl,rv,g6,c4,c5,g7,ry,c6,q _ _ ⟨ad,G2.GO hi ?_⟩⟩;unfold ig ye;split
      ·exact g7
      ·rw[map_append];exact g7.append (.cons ry .nil)
    ·rw[dif_neg hx]at iH;cases iH⟩
noncomputable def uq (w:World) (i:Nat):aG->Option Fl:=open Classical in fun Γ=>match Γ[i]? with
 |some (some (.obj O ds))=>if ∃ks,O=jN w ks then some (.rt (.list ds))else none
 |_=>none
theorem Ht(hi:Γ[i]?=some (some (.obj (jN w ks) ds))):uq w i Γ=some (.rt (.list ds)):=by
 unfold uq;rw[hi];exact if_pos ⟨ks,rfl⟩
theorem CO(i:Nat)(hr:cA k X.A)(hm:X.mg "list"=none)(hN:X.N[i]?=some x:=by rfl)(hv:nA X.env.scope x:=by first|exact Or.inl rfl|exact Or.inr (Or.inl rfl)|exact Or.inr (Or.inr rfl))(hd:(x==("__debug__" : Str))=false:=by decide)(gB:(x==("__classdict__" : Str))=false:=by decide)(hg:Gl X "list":=by rfl)(he:starEach [.Name x p1] X.env=[(false,eval (.Name x p1) X.env)]:=by rfl):
  gM X (.Return (some (.Call (.Name "list" p) [.Name x p1] [] p2)) pos) (uq X.w i):=⟨cD (uF (nM (GS hr.hd) hg hm (by decide +kernel) (kj (mS hN hv hd gB) qS he) (by decide) (by decide) he rfl)) fun D σ H aQ=>by
 obtain⟨aj,Av,pn,aK,Γ,fl,⟨ad,G⟩,hf,q⟩:=aQ;unfold uq at hf;split at hf
 ·rename_i O ds hi;split at hf
  ·rename_i hx;obtain⟨ks,rfl⟩:=hx;cases hf;obtain⟨xs,g1,g2,g3,g4⟩:=G.obj i _ _ hi;exact⟨_,g1,ad i,ks,xs,rfl,g2,fun l hl=>q _ _ (G.same.trans (bZ hl _)) (.pG (G.jP.same G.same) hl (g3.weak fun _ z=>.inl z))⟩
  ·cases hf
 ·cases hf⟩
theorem EA(w:World)(i:Nat)(hN:X.N.Nodup)(hw:X.w=w:=by rfl)(hi:X.N[i]?=some x:=by rfl)(oQ:i≠0:=by decide)(hx:Loc X.env.scope x:=by first|exact .inl rfl|exact .inr rfl)(hs:swapsWith (.Dict [] [] p2) (some (.Name x pos')) pos.line X.env=pure false:=by rfl)(hf:X.fn x=true\/X.env.scope.names.lookup x=some .local:=by first|exact .inl rfl|exact .inr rfl):
  gM X (.Assign [.Name x pos'] (.Dict [] [] p2) pos) (JI w i):=hw▸CS i hN hi oQ hx hs hf
theorem xh(w:World)(i:Nat)(hr:cA k X.A)(pe:QF X e (fC (.bool true)))(pb:QF X b f)(Oo:X.w=w:=by rfl)(hN:X.N[i]?=some x:=by rfl)(hv:nA X.env.scope x:=by first|exact Or.inl rfl|exact Or.inr (Or.inl rfl)|exact Or.inr (Or.inr rfl))(hd:(x==("__debug__" : Str))=false:=by decide)(gB:(x==("__classdict__" : Str))=false:=by decide)(ha:∀v,assign (.Subscript (.Name x p1) b p3) X.env v=(do
   let ov <- holding [v] (eval (.Name x p1) X.env);let iv <- holding [v,ov] (eval b X.env);standAt p3
   holding [v,ov,iv] (setItem ov iv v)
   release [v,ov,iv] []):=by intro _;rfl)(hs:swapsWithSole [.Subscript (.Name x p1) b p3] e pos.line X.env=pure false:=by rfl)(hw:swappedStores [.Subscript (.Name x p1) b p3] e X.env=pure none:=by rfl)(h1:(assignEach [.Subscript (.Name x p1) b p3] X.env).map (·.2)=[assign (.Subscript (.Name x p1) b p3) X.env]:=by rfl):
  gM X (.Assign [.Subscript (.Name x p1) b p3] e pos) (ur w i f):=Oo▸CQ i hr pe pb hN hv hd gB ha hs hw h1
theorem Ez(w:World)(i:Nat)(hr:cA k X.A)(hm:X.mg "list"=none)(Oo:X.w=w:=by rfl)(hN:X.N[i]?=some x:=by rfl)(hv:nA X.env.scope x:=by first|exact Or.inl rfl|exact Or.inr (Or.inl rfl)|exact Or.inr (Or.inr rfl))(hd:(x==("__debug__" : Str))=false:=by decide)(gB:(x==("__classdict__" : Str))=false:=by decide)(hg:Gl X "list":=by rfl)(he:starEach [.Name x p1] X.env=[(false,eval (.Name x p1) X.env)]:=by rfl):
  gM X (.Return (some (.Call (.Name "list" p) [.Name x p1] [] p2)) pos) (uq w i):=Oo▸CO i hr hm hN hv hd gB hg he
open PySem PySem.Spec PyProof.Rows L2
open PySem.W (Dat kqdOk)
variable {f0:ax->Option (List Dat)}
variable {fs:ax->Option (List Dat)} in
def vc (n:Nat) (F:List Dat->List Dat->Option (Dat×List Dat)) (f0 fs:ax->Option (List Dat)):ax->Option Dat:=fun ρ=>(f0 ρ).bind fun ds=>(fs ρ).bind fun us=>if us.length+1=n then(F ds us).map (·.1)else none
variable {es:List Expr} {e0:Expr}
variable {fs:ax->Option (List Dat)} in
theorem LA{F:List Dat->List Dat->Option (Dat×List Dat)}(D:jS X.prog X.w X.K X.mg X.base k x ps n F)(hr:cA k X.A)(p0:PE X e0 (jG X.K f0))(pa:Hb X es fs)(hg:Gl X x:=by rfl)(iI:(x==("__debug__" : Str))=false:=by decide)(he:starEach (e0::es) X.env=(false,eval e0 X.env)::starEach es X.env:=by rfl)(dB:(backTo pos (starEach es X.env)).any (·.1)=false:=by rfl):PF X (.Call (.Name x p) (e0::es) [] pos) (vc n F f0 fs):=by
 obtain⟨f,fd,h1,h2,h3,h4⟩:=D.ex;refine bh (oJ h1 hr hg h2 h3 h4 .nil uI (kj p0 pa he) iI he dB) fun σ H Q ⟨Av,ρ,d,hA,hE,hf,q⟩=>?_;obtain⟨ds,e1,hf⟩:=bind_some hf;obtain⟨us,e2,hf⟩:=bind_some hf;split at hf
 ·rename_i hl;obtain⟨⟨d',f9⟩,e3,hf⟩:=bj hf;cases hf;refine⟨Av,ρ,ds,hA,hE,e1,fun H1 l xs s1 qc r1=>?_⟩;have s2:aV H1 (upd H1 l (.lst xs)):=fun b o hb=>by
   have:b≠l:=fun z=>by rw[z,qc]at hb;cases hb
   rw[bA this];exact hb
  have Vv:=s1.trans s2;have kp:∀{H':Hp},H' l=none->lW H' Av H' (fun a=>Av a\/a=l):=fun hn b o hb ha=>⟨hb,fun z=>by
   rcases z with z|z
   ·exact ha z
   ·rw[z,hn]at hb;cases hb⟩
  have BY:fG X.K (upd H1 l (.lst xs)) (fun a=>Av a\/a=l) σ ρ:=fun i d hd=>by
   obtain⟨v,hv,r⟩:=hE i d hd;exact⟨v,hv,((r.same s1).mono (kp qc)).same s2⟩
  have So:gO (upd H1 l (.lst xs)) (fun a=>Av a\/a=l):=fun a z=>by
   rcases z with z|z
   ·exact hA.same Vv a z
   ·subst z;exact⟨_,dD⟩
  refine⟨_,ρ,us,So,BY,e2,fun ws H3 s3 r3=>?_⟩;refine⟨_,l,ws,xs,ds,us,d',f9,by rw[append_nil],So.same s3,.inr rfl,s3 _ _ dD,(((r1.mono (kp qc)).same s2).same s3),r3,hl,e3,fun v H' ys k hn rl rv=>q v H' (fun b o hb=>?_) (rv.weak fun a z=>.inl z)⟩;have xC:=s1 b o hb;have:b≠l:=fun z=>by rw[z,qc]at xC;cases xC
  exact k b o (s3 b o (s2 b o xC)) this
 ·cases hf
variable {a:Expr}
theorem NG:dO X (compareOp .Is) (fun x y H Q=>∃j,y=.bl j/\((∃i,x=.bl i/\Q (.bl (decide (i=j))) H)\/(∃a,x=.ref a/\Q (.bl false) H))):=by
 intro pins s σ H x y v u Q I rx ry h;obtain⟨j,rfl,h⟩:=h;cases ry;rcases h with⟨i,rfl,q⟩|⟨a,rfl,q⟩
 ·cases rx;cases i<;>cases j<;>exact wpAny_pure (bM I q rfl)
 ·cases rx;cases j<;>exact wpAny_pure (bM I q rfl)
theorem LG:dO X (compareOp .IsNot) (fun x y H Q=>∃j,y=.bl j/\((∃i,x=.bl i/\Q (.bl (!decide (i=j))) H)\/(∃a,x=.ref a/\Q (.bl true) H))):=by
 intro pins s σ H x y v u Q I rx ry h;obtain⟨j,rfl,h⟩:=h;cases ry;rcases h with⟨i,rfl,q⟩|⟨a,rfl,q⟩
 ·cases rx;cases i<;>cases j<;>exact wpAny_pure (bM I q rfl)
 ·cases rx;cases j<;>exact wpAny_pure (bM I q rfl)
def zC:Dat->Dat->Option Dat
 | .bool i,.bool j=>some (.bool (decide (i=j)))
 | .tuple _,.bool _=>some (.bool false)
 |_,_=>none
def nO:Dat->Dat->Option Dat
 | .bool i,.bool j=>some (.bool (!decide (i=j)))
 | .tuple _,.bool _=>some (.bool true)
 |_,_=>none
theorem LI:kR X.K (fun x y H Q=>∃j,y=.bl j/\((∃i,x=.bl i/\Q (.bl (decide (i=j))) H)\/(∃a,x=.ref a/\Q (.bl false) H))) zC:=by
 intro H Av x y dx dy d Q hA rx ry h q;unfold zC at h;split at h
 ·cases h;exact⟨_,ry.gD,.inl ⟨_,rx.gD,q _ H (aV.refl H) (.bl _)⟩⟩
 ·cases h;obtain⟨a,xs,rfl,_⟩:=rx.fz;exact⟨_,ry.gD,.inr ⟨a,rfl,q _ H (aV.refl H) (.bl _)⟩⟩
 ·cases h
theorem HW:kR X.K (fun x y H Q=>∃j,y=.bl j/\((∃i,x=.bl i/\Q (.bl (!decide (i=j))) H)\/(∃a,x=.ref a/\Q (.bl true) H))) nO:=by
 intro H Av x y dx dy d Q hA rx ry h q;unfold nO at h;split at h
 ·cases h;exact⟨_,ry.gD,.inl ⟨_,rx.gD,q _ H (aV.refl H) (.bl _)⟩⟩
 ·cases h;obtain⟨a,xs,rfl,_⟩:=rx.fz;exact⟨_,ry.gD,.inr ⟨a,rfl,q _ H (aV.refl H) (.bl _)⟩⟩
 ·cases h
theorem HD(pa:QF X a fa)(pb:QF X b fb):jh X (.Compare a [.Is] [b] pos) (bc (f2 zC fa fb)):=⟨gW NG LI pa.o pb.o (fj _)⟩
theorem EG(pa:QF X a fa)(pb:QF X b fb):jh X (.Compare a [.IsNot] [b] pos) (bc (f2 nO fa fb)):=⟨gW LG HW pa.o pb.o (fj _)⟩
variable {fs:ax->Option (List Dat)} in
theorem yP{F:List Dat->List Dat->Option (Dat×List Dat)}(D:jS X.prog X.w X.K X.mg X.base k x ps n F)(hr:cA k X.A)(p0:QE X e0 (jG X.K f0))(pa:jQ X es fs)(hg:Gl X x:=by rfl)(iI:(x==("__debug__" : Str))=false:=by decide)(he:starEach (e0::es) X.env=(false,eval e0 X.env)::starEach es X.env:=by rfl)(dB:(backTo pos (starEach es X.env)).any (·.1)=false:=by rfl):QF X (.Call (.Name x p) (e0::es) [] pos) (vc n F f0 fs):=⟨LA D hr p0.o pa.o hg iI he dB⟩
def maxD:List Dat->Option Dat
 |[.int i,.int j]=>some (.int (if j>i then j else i))
 |_=>none
theorem GV:lH K (fun xs H Q=>∃i j,xs=[.int i,.int j]/\Q (.int (if j>i then j else i)) H) maxD:=by
 intro H Av xs ds d Q hA r h q;unfold maxD at h;split at h
 ·cases h;obtain⟨v,u,rfl,rv,ru⟩:=r.fw;exact⟨_,_,by rw[rv.cN,ru.cN],q _ H (aV.refl H) (.int _)⟩
 ·cases h
variable {fs:ax->Option (List Dat)} in
theorem Lj(hc:X.calm=true)(hm:X.mg "max"=none)(ha:jQ X (e::es) fs)(hg:Gl X "max":=by rfl)(he:starEach (e::es) X.env=(false,eval e X.env)::starEach es X.env:=by rfl)(dB:(backTo pos (starEach es X.env)).any (·.1)=false:=by rfl):QF X (.Call (.Name "max" p) (e::es) [] pos) (fZ maxD fs):=
 ⟨tp (GR hc) GV hm ha.o hg (by decide +kernel) (by decide) (by decide) he dB⟩
def ON (f:ax->Option Dat) (fl:ax->Option Dat) (hb:HF):HF:=fun Γ=>(f (bx Γ)).bind fun d=>(fl (bx Γ)).bind fun l=>(nt l).bind fun l=>(hb Γ).bind fun p=>(nt p.1).bind fun u=>match d with
 | .list ds=>some (.list (cutD ds (some l) (some u)),p.2)
 |_=>none
theorem EL(h:PF X e f)(hl:PF X a fa)(hh:PH X b hb):PH X (.Subscript e (.Slice (some a) (some b) none p2) pos) (ON f fa hb):=bh (yY B4 h (vT hl) (vT hh)) fun σ H Q aQ=>by
 obtain⟨aj,Av,pn,aK,Γ,ad,d,ah,G,hf,q⟩:=aQ;obtain⟨dx,e1,hf⟩:=bind_some hf;obtain⟨l,e2,hf⟩:=bind_some hf;obtain⟨li,e3,hf⟩:=bind_some hf;obtain⟨⟨du,Γ1⟩,e4,hf⟩:=bind_some hf;obtain⟨ui,e5,hf⟩:=bind_some hf;have Xn:=pX e3;have Sy:=pX e5;dsimp only at Sy;subst Xn;subst Sy;have hd:∃ds,dx=.list ds:=by cases dx<;>first|exact⟨_,rfl⟩|cases hf
 obtain⟨ds,rfl⟩:=hd;cases hf;refine⟨aX Av Γ ad,bx Γ,_,G.gE,G.iR,e1,fun x H1 s1 r1=>⟨aX Av Γ ad,bx Γ,_,(G.grow s1).gE,(G.grow s1).iR,e2,fun y H2 s2 r2=>⟨li,r2.cN,?_⟩⟩⟩;have G2:=(G.grow s1).grow s2;refine⟨aj,Av,pn,(x,.list ds)::aK,Γ,ad,_,Γ1,G2.hide (r1.same s2),e4,fun z H3 Xv G3 r3=>⟨ui,r3.cN,?_⟩⟩;have rx:=G3.aK (x,.list ds) mem_cons_self;obtain⟨c,xs,hx,hq,rs⟩:=rx.fY;refine⟨c,xs,hx,hq.sq,fun p hp=>q _ _ Xv (G3.oC.grow (bZ hp _)) (.pG G3.gE hp ?_)⟩;unfold pV cutD;rw[rs.length];exact(rs.drop _).take _
theorem CT(h:QF X e f)(hl:QF X a fa)(hh:QH X b hb):QH X (.Subscript e (.Slice (some a) (some b) none p2) pos) (ON f fa hb):=⟨EL h.o hl.o hh.o⟩
open PySem PySem.Spec PyProof.Rows L2
open PySem.W (Dat kqdOk)
structure FnAt (K:Fg) (mg:Str->Option Value) (x:Str) (st:Stmt) (ps:List Str):Prop where
 ex:∃f fd,nZ K x x st f fd/\mg x=some (.ref f)/\Binds K fd ps []
theorem UX{f:Addr}{oc:Value}{od an:Option Addr}{sD:Array (Option Value)}{kV doc pm bG ct:Value}(X:K.In h)(G:h.Ns mainGlobals mg)(a:nsIn K mainGlobals x=some (some (.ref f)))(l:K.lookup f=some ⟨oc,od,.func (fnOf x x (kv st) (dw st) (ba st) .none kV doc pm an bG ct),sD⟩)(c:codeIn K bG x=true)(k:keepIn K (.ref f)=true)(b:∀(kV doc pm:Value) (an:Option Addr) (bG ct:Value) (us:List Value),us.length=ps.length->bindArgs (fnOf x x (kv st) (dw st) (ba st) .none kV doc pm an bG ct) ⟨us,[]⟩=pure (ps.zip us)):FnAt K mg x st ps:=
 ⟨⟨_,_,A1 l c k,mg_of X G a,(A1 l c k).binds b⟩⟩
theorem cz(N:List Str)(U:FnAt K mg x st ps)(hbody:N.Nodup->∀(fa:Addr) (bG:Value) (A:Around) (outer:List Env) (s:Shared) (H:Hp) (E:XK),cA k (A.deeper (envOfC x (ba st) s.heap.objs.size fa bG))->jg (k6 jy P w K mg base N x (ba st) fa bG A outer s H E).oK (dw st) g)(S:gk N ps (ba st):=by exact⟨rfl,rfl,rfl,by decide +kernel,rfl,by decide +kernel,by decide +kernel⟩)(hn:ps.length=n:=by rfl):Dn P w K mg base (k+1) x ps n (jX N g):=by
 obtain⟨f,fd,U,hm,hB⟩:=U.ex;exact iC U hm hB S hn (hbody S.nd f) fun _ _ _ h=>h
theorem Qr(N:List Str)(U:FnAt K mg x st ps)(hbody:N.Nodup->∀(fa:Addr) (bG:Value) (A:Around) (outer:List Env) (s:Shared) (H:Hp) (E:XK),cA k (A.deeper (envOfC x (ba st) s.heap.objs.size fa bG))->jg (k6 jy P w K mg base N x (ba st) fa bG A outer s H E).oK (dw st) g)(S:gk N ps (ba st):=by exact⟨rfl,rfl,rfl,by decide +kernel,rfl,by decide +kernel,by decide +kernel⟩)(hn:ps.length=n:=by rfl):jS P w K mg base (k+1) x ps n (runM N g):=by
 obtain⟨f,fd,U,hm,hB⟩:=U.ex;exact rV U hm hB S hn (hbody S.nd f) fun _ _ _ _ _ h=>h
structure TC (K:Fg) (mg:Str->Option Value) (x:Str) (ds:List Dat) (a:Addr):Prop where
 mg:mg x=some (.ref a)
 tup:ModT K a ds
theorem y9{a:Addr}{o:Option Addr}{sl:Array (Option Value)}{i j:Int}{t u:Tok}(X:K.In h)(G:h.Ns mainGlobals mg)(e:nsIn K mainGlobals x=some (some (.ref a)))(l:K.lookup a=some ⟨.type "tuple",o,.seq #[.int i t,.int j u] n,sl⟩):∃a,TC K mg x [.int i,.int j] a:=
 ⟨a,mg_of X G e,⟨[.int i,.int j],_,_,_,l,rfl,rfl,Nat.le_of_lt (wZ (by show 2<=1000;decide)),.cons ⟨_,rfl⟩ (.cons ⟨_,rfl⟩ .nil),fun H Av=>aC.ints [i,j]⟩⟩
end
end L3
namespace Fr
noncomputable section
theorem zZ(a b:Int)(hb:0<b):gcd b (a.fmod b)=gcd a b:=by
 rw[Int.fmod_eq_emod_of_nonneg a (Int.le_of_lt hb)];apply Nat.dvd_antisymm
 ·apply Int.dvd_gcd
  ·have h1:=gcd_dvd_left b (a % b);have h2:=gcd_dvd_right b (a % b);have e:a=a % b+b*(a/b):=(Int.emod_add_mul_ediv a b).symm;have h3:(↑(b.gcd (a % b)):Int)∣a % b+b*(a/b):=Int.dvd_add h2 (Int.dvd_mul_of_dvd_left h1);rw[<- e]at h3;exact h3
  ·exact gcd_dvd_left b (a % b)
 ·apply Int.dvd_gcd
  ·exact gcd_dvd_right a b
  ·have h1:=gcd_dvd_left a b;have h2:=gcd_dvd_right a b;have e:a % b=a-b*(a/b):=by have:=Int.emod_add_mul_ediv a b;omega
   rw[e];exact Int.dvd_sub h1 (Int.dvd_mul_of_dvd_left h2)
def dv (n d:Int):Int:=if d<0 then -(gcd n d:Int)else(gcd n d:Int)
def num (n d:Int):Int:=n.fdiv (dv n d)
def den (n d:Int):Int:=d.fdiv (dv n d)
variable {n d:Int}
theorem mF(h:d≠0):0<gcd n d:=Nat.pos_of_ne_zero fun e=>h (by
 have:=gcd_dvd_right n d;rw[e]at this;exact Int.zero_dvd.mp this)
theorem Ky(h:d≠0):dv n d≠0:=by
 have:=mF (n:=n) h;unfold dv;split<;>omega
theorem yo(n d:Int):dv n d∣n:=by
 unfold dv;split
 ·exact Int.neg_dvd.mpr (gcd_dvd_left n d)
 ·exact gcd_dvd_left n d
theorem yn(n d:Int):dv n d∣d:=by
 unfold dv;split
 ·exact Int.neg_dvd.mpr (gcd_dvd_right n d)
 ·exact gcd_dvd_right n d
theorem num_mul(n d:Int):num n d*dv n d=n:=by
 unfold num;rw[Int.fdiv_eq_ediv_of_dvd (yo n d)];exact Int.ediv_mul_cancel (yo n d)
theorem den_mul(n d:Int):den n d*dv n d=d:=by
 unfold den;rw[Int.fdiv_eq_ediv_of_dvd (yn n d)];exact Int.ediv_mul_cancel (yn n d)
theorem den_pos(h:d≠0):0<den n d:=by
 have e:=den_mul n d;have g:=mF (n:=n) h;by_cases hd:d<0
 ·have e2:dv n d=-(gcd n d:Int):=by unfold dv;exact if_pos hd
  have Iy:dv n d<0:=by omega
  rcases Int.lt_trichotomy (den n d) 0 with q|q|q
  ·have:=Int.mul_pos_of_neg_of_neg q Iy;omega
  ·rw[q]at e;simp at e;omega
  ·exact q
 ·have e2:dv n d=(gcd n d:Int):=by unfold dv;exact if_neg hd
  have w6:0<dv n d:=by omega
  rcases Int.lt_trichotomy (den n d) 0 with q|q|q
  ·have:=Int.mul_neg_of_neg_of_pos q w6;omega
  ·rw[q]at e;simp at e;omega
  ·exact q
theorem vh(n d:Int):(dv n d).natAbs=gcd n d:=by
 unfold dv;split<;>simp
theorem Ai(h:d≠0):gcd (num n d) (den n d)=1:=by
 unfold num den;rw[Int.fdiv_eq_ediv_of_dvd (yo n d),Int.fdiv_eq_ediv_of_dvd (yn n d),Int.gcd_ediv (yo n d) (yn n d),vh];exact Nat.div_self (mF h)
theorem DH(n d:Int):num n d*d=den n d*n:=by
 have e1:=num_mul n d;have e2:=den_mul n d;calc num n d*d=num n d*(den n d*dv n d):=by rw[e2]
  _=den n d*(num n d*dv n d):=by rw[Int.mul_left_comm]
  _=den n d*n:=by rw[e1]
theorem uniq{p q:Int}(hd:d≠0)(hq:0<q)(hc:gcd p q=1)(h:p*d=q*n):num n d=p/\den n d=q:=by
 have hx:=DH n d;have hk:=Ai (n:=n) hd;have zP:=den_pos (n:=n) hd

 have key:p*den n d=q*num n d:=by
  have a1:(p*den n d)*d=(q*num n d)*d:=by
   calc (p*den n d)*d=(p*d)*den n d:=by rw[Int.mul_right_comm]
    _=(q*n)*den n d:=by rw[h]
    _=q*(den n d*n):=by rw[Int.mul_assoc,mul_comm n]
    _=q*(num n d*d):=by rw[hx]
    _=(q*num n d)*d:=by rw[Int.mul_assoc]
  exact Int.eq_of_mul_eq_mul_right hd a1
 have n1:q.natAbs∣(den n d).natAbs:=by
  have z:q.natAbs∣p.natAbs*(den n d).natAbs:=by
   rw[<- natAbs_mul,key,natAbs_mul];exact Nat.dvd_mul_right _ _
  have c:Nat.Coprime q.natAbs p.natAbs:=by
   show Nat.gcd q.natAbs p.natAbs=1;rw[Nat.gcd_comm];exact hc
  exact c.dvd_of_dvd_mul_left z
 have n2:(den n d).natAbs∣q.natAbs:=by
  have z:(den n d).natAbs∣q.natAbs*(num n d).natAbs:=by
   rw[<- natAbs_mul,<- key,natAbs_mul];exact Nat.dvd_mul_left _ _
  have c:Nat.Coprime (den n d).natAbs (num n d).natAbs:=by
   show Nat.gcd (den n d).natAbs (num n d).natAbs=1;rw[Nat.gcd_comm];exact hk
  exact c.dvd_of_dvd_mul_right z
 have e1:den n d=q:=by
  have:=Nat.dvd_antisymm n1 n2;omega
 refine⟨?_,e1⟩;rw[e1]at key;have:q*p=q*num n d:=by rw[mul_comm q p];exact key
 exact(Int.eq_of_mul_eq_mul_left (ne_of_gt hq) this).symm
theorem self{p q:Int}(hq:0<q)(hc:gcd p q=1):num p q=p/\den p q=q:=uniq (ne_of_gt hq) hq hc (mul_comm p q)
theorem turned(h:d≠0):num (0-n) (0-d)=num n d/\den (0-n) (0-d)=den n d:=by
 refine uniq (by omega) (den_pos h) (Ai h) ?_;have:=DH n d;rw[Int.mul_sub,Int.mul_sub,this,mul_zero,mul_zero]
theorem vq(h:d≠0):(num n d).natAbs<=n.natAbs:=by
 have e:=congrArg Int.natAbs (num_mul n d);rw[natAbs_mul]at e;have:1<=(dv n d).natAbs:=by rw[vh];exact mF h
 calc (num n d).natAbs=(num n d).natAbs*1:=(mul_one _).symm
  _<=(num n d).natAbs*(dv n d).natAbs:=mul_le_mul_left _ this
  _=n.natAbs:=e
theorem vt(h:d≠0):(den n d).natAbs<=d.natAbs:=by
 have e:=congrArg Int.natAbs (den_mul n d);rw[natAbs_mul]at e;have:1<=(dv n d).natAbs:=by rw[vh];exact mF h
 calc (den n d).natAbs=(den n d).natAbs*1:=(mul_one _).symm
  _<=(den n d).natAbs*(dv n d).natAbs:=mul_le_mul_left _ this
  _=d.natAbs:=e
end
end Fr
namespace Fr
noncomputable section
def nd:List (Int×Int)->Int×Int
 |[]=>(0,1)
 |x::l=>(x.1*(nd l).2+(nd l).1*x.2,x.2*(nd l).2)
theorem congr{n d n' d':Int}(h:d≠0)(h':d'≠0)(e:n*d'=n'*d):num n d=num n' d'/\den n d=den n' d':=by
 have c:=DH n' d';refine uniq h (den_pos h') (Ai h') ?_

 have:(num n' d'*d)*d'=(den n' d'*n)*d':=by
  calc (num n' d'*d)*d'=(num n' d'*d')*d:=by grind
   _=(den n' d'*n')*d:=by rw[c]
   _=den n' d'*(n'*d):=by grind
   _=den n' d'*(n*d'):=by rw[e]
   _=(den n' d'*n)*d':=by grind
 exact Int.eq_of_mul_eq_mul_right h' this
end
end Fr
namespace Fr
noncomputable section
theorem jH(q:Rat):(q.num:Rat)=q*(q.den:Rat):=by
 have e:q=(q.num:Rat)/(q.den:Rat):=by rw[<- Rat.mkRat_eq_div,mkRat_self]
 have h:(q.den:Rat)≠0:=fun z=>q.den_nz (Rat.natCast_eq_zero_iff.mp z);generalize (q.num:Rat)=a at *;generalize (q.den:Rat)=b at *;grind
theorem zi(n:Int)(d:Nat)(h:d≠0):num n d=(mkRat n d).num/\den n d=((mkRat n d).den:Int):=by
 refine uniq (by omega) (by have:=(mkRat n d).den_pos;omega) ?_ ?_
 ·have:=(mkRat n d).reduced;show Nat.gcd _ _=1;rw[natAbs_natCast];exact this
 ·have e:=(Rat.mkRat_eq_iff (mkRat n d).den_nz h).mp (mkRat_self (mkRat n d));rw[e];exact mul_comm _ _
theorem Be(a b:Rat):num (a.num*b.den+b.num*a.den) (a.den*b.den)=(a+b).num/\den (a.num*b.den+b.num*a.den) (a.den*b.den)=((a+b).den:Int):=by
 have:=zi (a.num*b.den+b.num*a.den) (a.den*b.den) (Nat.mul_ne_zero a.den_nz b.den_nz);rw[Rat.add_def'];rw[Int.natCast_mul]at this;exact this
theorem Ba(a b:Rat):num (a.num*b.den-b.num*a.den) (a.den*b.den)=(a-b).num/\den (a.num*b.den-b.num*a.den) (a.den*b.den)=((a-b).den:Int):=by
 have:=zi (a.num*b.den-b.num*a.den) (a.den*b.den) (Nat.mul_ne_zero a.den_nz b.den_nz);rw[Rat.sub_def'];rw[Int.natCast_mul]at this;exact this
theorem Bb(a b:Rat):num (a.num*b.num) (a.den*b.den)=(a*b).num/\den (a.num*b.num) (a.den*b.den)=((a*b).den:Int):=by
 have:=zi (a.num*b.num) (a.den*b.den) (Nat.mul_ne_zero a.den_nz b.den_nz);rw[Rat.mul_def'];rw[Int.natCast_mul]at this;exact this
theorem jI(n d:Int)(h:d≠0):num n d=((n:Rat)/(d:Rat)).num/\den n d=(((n:Rat)/(d:Rat)).den:Int):=by
 have hd:(d:Rat)≠0:=fun z=>h (Rat.intCast_eq_zero_iff.mp z);generalize hq:(n:Rat)/(d:Rat)=q;refine uniq h (by have:=q.den_pos;omega) ?_ ?_
 ·have:=q.reduced;show Nat.gcd _ _=1;rw[natAbs_natCast];exact this
 ·have e1:q*(d:Rat)=(n:Rat):=by rw[<- hq];exact Rat.div_mul_cancel hd
  have e2:(q.num:Rat)=q*(q.den:Rat):=jH q;have e3:((q.num*d:Int):Rat)=((q.den*n:Int):Rat):=by
   rw[intCast_mul,intCast_mul,e2,<- e1];have:(((q.den:Int)):Rat)=(q.den:Rat):=rfl;rw[this];grind
  exact Rat.intCast_inj.mp e3
theorem Bc(a b:Rat)(h:b.num≠0):num (a.num*b.den) (a.den*b.num)=(a/b).num/\den (a.num*b.den) (a.den*b.num)=((a/b).den:Int):=by
 have hd:(a.den:Int)*b.num≠0:=mul_ne_zero (by have:=a.den_pos;omega) h;have:=jI (a.num*b.den) (a.den*b.num) hd;have e:((a.num*b.den:Int):Rat)/((a.den*b.num:Int):Rat)=a/b:=by
  have a1:=(jH a).symm;have b1:=(jH b).symm;have ad:(a.den:Rat)≠0:=fun z=>by
   have:=a.den_pos;have z':((a.den:Int):Rat)=0:=z;have:=Rat.intCast_eq_zero_iff.mp z';omega
  have bd:(b.den:Rat)≠0:=fun z=>by
   have:=b.den_pos;have z':((b.den:Int):Rat)=0:=z;have:=Rat.intCast_eq_zero_iff.mp z';omega
  rw[intCast_mul,intCast_mul,<- a1,<- b1];have c1:(((b.den:Int)):Rat)=(b.den:Rat):=rfl;have c2:(((a.den:Int)):Rat)=(a.den:Rat):=rfl;rw[c1,c2];have b0:b≠0:=fun z=>h (by rw[z];rfl);grind
 rw[e]at this;exact this
theorem yM(a b:Rat):(a<b)↔a.num*b.den<b.num*a.den:=Rat.lt_iff a b
end
end Fr
namespace FM
noncomputable section
def sm:Nat->(Nat->Rat)->Rat
 |0,_=>0
 |k+1,f=>sm k f+f k
theorem aN{f g:Nat->Rat}:∀{k:Nat},(∀i,i<k->f i=g i)->sm k f=sm k g
 |0,_=>rfl
 |k+1,h=>by
  show sm k f+f k=sm k g+g k;rw[aN (fun i hi=>h i (by omega)),h k (by omega)]
theorem gT{f:Nat->Rat}:∀{k:Nat},(∀i,i<k->f i=0)->sm k f=0
 |0,_=>rfl
 |k+1,h=>by
  show sm k f+f k=0;rw[gT (fun i hi=>h i (by omega)),h k (by omega)];grind
theorem eO{f g:Nat->Rat}:∀k:Nat,sm k (fun i=>f i+g i)=sm k f+sm k g
 |0=>by show(0:Rat)=0+0;grind
 |k+1=>by
  show sm k (fun i=>f i+g i)+(f k+g k)=(sm k f+f k)+(sm k g+g k);rw[eO k];grind
theorem bE{f:Nat->Rat}(c:Rat):∀k:Nat,sm k (fun i=>c*f i)=c*sm k f
 |0=>by show(0:Rat)=c*0;grind
 |k+1=>by
  show sm k (fun i=>c*f i)+c*f k=c*(sm k f+f k);rw[bE c k];grind
theorem CH{f g:Nat->Rat}:∀{k:Nat},(∀i,i<k->f i<=g i)->sm k f<=sm k g
 |0,_=>by show(0:Rat)<=0;grind
 |k+1,h=>by
  have:=CH (k:=k) fun i hi=>h i (by omega);have:=h k (by omega);show sm k f+f k<=sm k g+g k;grind
theorem JH{f g:Nat->Rat}:∀{k:Nat},(∀i,i<k->f i<=g i)->(∃i,i<k/\f i<g i)->sm k f<sm k g
 |0,_,⟨i,hi,_⟩=>by omega
 |k+1,h,⟨i,hi,hl⟩=>by
  have h1:=h k (by omega);show sm k f+f k<sm k g+g k;by_cases e:i=k
  ·subst e;have:=CH (k:=i) fun j hj=>h j (by omega);grind
  ·have:=JH (k:=k) (fun j hj=>h j (by omega)) ⟨i,by omega,hl⟩;grind
theorem Ek{f g:Nat->Rat}{p:Nat}{v:Rat}:∀{k:Nat},p<k->sm k (fun i=>(if i=p then v else f i)*g i)=sm k (fun i=>f i*g i)+(v-f p)*g p
 |0,h=>by omega
 |k+1,h=>by
  show sm k (fun i=>(if i=p then v else f i)*g i)+(if k=p then v else f k)*g k=(sm k (fun i=>f i*g i)+f k*g k)+(v-f p)*g p;by_cases e:k=p
  ·rw[aN (g:=fun i=>f i*g i) (fun i hi=>by rw[if_neg (by omega)]),if_pos e,<- e];grind
  ·rw[Ek (k:=k) (by omega),if_neg e];grind
theorem vL{f:Nat->Nat->Rat}(m:Nat):∀k:Nat,sm k (fun i=>sm m (fun c=>f i c))=sm m (fun c=>sm k (fun i=>f i c))
 |0=>(gT fun _ _=>rfl).symm
 |k+1=>by
  show sm k (fun i=>sm m (fun c=>f i c))+sm m (fun c=>f k c)=_;rw[vL m k,<- eO];rfl
theorem yD{f:Nat->Rat}{p:Nat}:∀{k:Nat},p<k->sm k f=sm k (fun i=>if i=p then 0 else f i)+f p
 |0,h=>by omega
 |k+1,h=>by
  show sm k f+f k=(sm k (fun i=>if i=p then 0 else f i)+(if k=p then 0 else f k))+f p;by_cases e:k=p
  ·rw[aN (f:=fun i=>if i=p then 0 else f i) (g:=f) (fun i hi=>if_neg (by omega)),if_pos e,<- e];grind
  ·rw[yD (k:=k) (p:=p) (by omega),if_neg e];grind
theorem A8{P:Nat->Prop}(f:Nat->Rat):∀{k:Nat},(∃i,i<k/\P i)->∃i,i<k/\P i/\∀j,j<k->P j->f i<=f j
 |0,⟨i,hi,_⟩=>by omega
 |k+1,⟨i,hi,hp⟩=>by
  by_cases h:∃i,i<k/\P i
  ·obtain⟨m,hm,pm,lm⟩:=A8 f h;by_cases c:P k/\f k<f m
   ·refine⟨k,by omega,c.1,fun j hj pj=>?_⟩;by_cases e:j=k
    ·subst e;grind
    ·have:=lm j (by omega) pj;grind
   ·refine⟨m,by omega,pm,fun j hj pj=>?_⟩;by_cases e:j=k
    ·subst e;have:¬f j<f m:=fun z=>c ⟨pj,z⟩;grind
    ·exact lm j (by omega) pj
  ·have e:i=k:=by
    by_cases e:i=k
    ·exact e
    ·exact absurd ⟨i,by omega,hp⟩ h
   subst e;refine⟨i,by omega,hp,fun j hj pj=>?_⟩;by_cases e:j=i
   ·subst e;grind
   ·exact absurd ⟨j,by omega,pj⟩ h
def cnt:Nat->(Nat->Rat)->Nat
 |0,_=>0
 |k+1,u=>cnt k u+(if u k=0 then 0 else 1)
theorem Ak{u v:Nat->Rat}:∀{k:Nat},(∀i,i<k->u i=0->v i=0)->cnt k v<=cnt k u
 |0,_=>le_refl _
 |k+1,h=>by
  have h1:=Ak (k:=k) fun i hi=>h i (by omega);show cnt k v+(if v k=0 then 0 else 1)<=cnt k u+(if u k=0 then 0 else 1);by_cases e:u k=0
  ·rw[if_pos e,if_pos (h k (by omega) e)];omega
  ·rw[if_neg e];split<;>omega
theorem vk{u v:Nat->Rat}:∀{k:Nat},(∀i,i<k->u i=0->v i=0)->(∃i,i<k/\v i=0/\u i≠0)->cnt k v<cnt k u
 |0,_,⟨i,hi,_⟩=>by omega
 |k+1,h,⟨i,hi,h1,h2⟩=>by
  show cnt k v+(if v k=0 then 0 else 1)<cnt k u+(if u k=0 then 0 else 1);by_cases e:i=k
  ·subst e;have:=Ak (k:=i) fun j hj=>h j (by omega);rw[if_pos h1,if_neg h2];omega
  ·have:=vk (k:=k) (fun j hj=>h j (by omega)) ⟨i,by omega,h1,h2⟩;by_cases e2:u k=0
   ·rw[if_pos e2,if_pos (h k (by omega) e2)];omega
   ·rw[if_neg e2];split<;>omega
def l5:Nat->(Nat->Rat)->List Nat
 |0,_=>[]
 |k+1,u=>if u k=0 then l5 k u else k::l5 k u
theorem sX{u:Nat->Rat}:∀k:Nat,(l5 k u).length=cnt k u
 |0=>rfl
 |k+1=>by
  show(if u k=0 then l5 k u else k::l5 k u).length=cnt k u+(if u k=0 then 0 else 1);split
  ·exact sX k
  ·rw[length_cons,sX k]
theorem mL{u:Nat->Rat}:∀{k i:Nat},i∈l5 k u->i<k/\u i≠0
 |0,i,h=>by simp[l5]at h
 |k+1,i,h=>by
  have h':i∈(if u k=0 then l5 k u else k::l5 k u):=h;split at h'
  ·have:=mL h';exact⟨by omega,this.2⟩
  ·rename_i e;rcases mem_cons.mp h' with r|r
   ·subst r;exact⟨by omega,e⟩
   ·have:=mL r;exact⟨by omega,this.2⟩
theorem p8{u:Nat->Rat}:∀k:Nat,(l5 k u).Nodup
 |0=>List.nodup_nil
 |k+1=>by
  show(if u k=0 then l5 k u else k::l5 k u).Nodup;split
  ·exact p8 k
  ·exact nodup_cons.mpr ⟨fun h=>by have:=(mL h).1;omega,p8 k⟩
theorem Af{k:Nat}:∀(E:List Nat) (B:Nat->Nat->Rat) (S:List Nat),S.Nodup->(∀i∈S,i<k)->E.length<S.length->
  ∃d:Nat->Rat,(∀i,i∉S->d i=0)/\(∃i∈S,d i≠0)/\∀c∈E,sm k (fun i=>d i*B i c)=0
 |[],B,S,hn,hk,hl=>by
  cases S with
  |nil=>simp at hl
  |cons p S=>
   refine⟨fun i=>if i=p then 1 else 0,fun i hi=>if_neg fun e=>hi (by rw[e];exact mem_cons_self),⟨p,mem_cons_self,?_⟩,fun c hc=>by simp at hc⟩;show(if p=p then(1:Rat)else 0)≠0;rw[if_pos rfl];grind
 |c::E,B,S,hn,hk,hl=>by
  rw[length_cons]at hl;by_cases h:∃p∈S,B p c≠0
  ·obtain⟨p,hp,hb⟩:=h;have Ka:p∉S.erase p:=fun z=>by
    rw[hn.mem_erase_iff]at z;exact z.1 rfl
   have sL:E.length<(S.erase p).length:=by rw[List.length_erase_of_mem hp];omega
   obtain⟨d,d1,⟨q,hq,dq⟩,d3⟩:=Af E (fun i c'=>B i c'-B i c/B p c*B p c') (S.erase p) (hn.erase p) (fun i hi=>hk i (List.mem_of_mem_erase hi)) sL;have dp:d p=0:=d1 p Ka;refine⟨fun i=>if i=p then-(sm k (fun i=>d i*B i c))/B p c else d i,fun i hi=>?_,⟨q,List.mem_of_mem_erase hq,?_⟩,fun c' hc=>?_⟩
   ·have e:i≠p:=fun e=>hi (by rw[e];exact hp);dsimp only;rw[if_neg e];exact d1 i fun z=>hi (List.mem_of_mem_erase z)
   ·have e:q≠p:=fun e=>Ka (e▸hq);dsimp only;rw[if_neg e];exact dq
   ·dsimp only;rw[Ek (hk p hp),dp];rcases mem_cons.mp hc with e|hc
    ·subst e;have:(- (sm k (fun i=>d i*B i c'))/B p c'-0)*B p c'=- sm k (fun i=>d i*B i c'):=by grind
     rw[this];grind
    ·have h3:=d3 c' hc;have e1:sm k (fun i=>d i*(B i c'-B i c/B p c*B p c'))=sm k (fun i=>d i*B i c')+(- (B p c'/B p c))*sm k (fun i=>d i*B i c):=by
      rw[<- bE,<- eO];exact aN fun i _=>by grind
     rw[e1]at h3;grind
  ·have h':∀p∈S,B p c=0:=fun p hp=>by
    by_cases e:B p c=0
    ·exact e
    ·exact absurd ⟨p,hp,e⟩ h
   obtain⟨d,d1,d2,d3⟩:=Af E B S hn hk (by omega);refine⟨d,d1,d2,fun c' hc=>?_⟩;rcases mem_cons.mp hc with e|hc
   ·subst e;refine gT fun i _=>?_;by_cases m:i∈S
    ·rw[h' i m];grind
    ·rw[d1 i m];grind
   ·exact d3 c' hc
structure k8 (k:Nat) (J:Nat->Prop) (E:List Nat) (B:Nat->Nat->Rat) (u:Nat->Rat):Prop where
 nn:∀i,i<k->0<=u i
 off:∀i,i<k->¬J i->u i=0
 oB:∀c∈E,sm k (fun i=>u i*B i c)=0
structure rN (k:Nat) (J:Nat->Prop) (E:List Nat) (B:Nat->Nat->Rat) (u:Nat->Rat):Prop where
 iw:k8 k J E B u
 ne:∃i,i<k/\u i≠0
 alone:∀v,k8 k J E B v->(∀i,i<k->u i=0->v i=0)->∃c:Rat,0<=c/\∀i,i<k->v i=c*u i
variable {a b c:Rat}
theorem FD(hc:0<c)(h:b<=a/c):b*c<=a:=by
 have:=Rat.mul_le_mul_of_nonneg_left h (le_of_lt hc);have e:c*(a/c)=a:=by grind
 rw[e]at this;grind
theorem bJ(ha:0<a)(hb:0<b):0<a*b:=Rat.mul_pos ha hb
theorem dz(ha:0<=a)(hb:0<=b):0<=a*b:=Rat.mul_nonneg ha hb
variable {u:Nat->Rat} {k:Nat}
theorem wV{d:Nat->Rat}(hu:∀i,i<k->0<=u i)(hz:∀i,i<k->u i=0->d i=0)(hp:∃i,i<k/\0<d i):
  ∃l:Rat,0<l/\(∀i,i<k->0<=u i-l*d i)/\∃i,i<k/\0<d i/\u i-l*d i=0:=by
 obtain⟨m,hm,pm,lm⟩:=A8 (P:=fun i=>0<d i) (fun i=>u i/d i) hp;have um:0<u m:=by
  have h1:=hu m hm;have h2:u m≠0:=fun e=>by have:=hz m hm e;grind
  grind
 refine⟨u m/d m,?_,fun i hi=>?_,m,hm,pm,by grind⟩
 ·have:0<(d m)⁻¹:=inv_pos.mpr pm;have:=bJ um this;grind
 ·by_cases c:0<d i
  ·have:=FD c (lm i hi c);grind
  ·have h1:0<u m/d m:=by
    have:0<(d m)⁻¹:=inv_pos.mpr pm;have:=bJ um this;grind
   have h2:=dz (le_of_lt h1) (show 0<=- d i by grind);have:=hu i hi;grind
variable {E:List Nat} {J:Nat->Prop} {B:Nat->Nat->Rat}
theorem k8.sub{l:Rat}{d:Nat->Rat}(hu:k8 k J E B u)(ho:∀i,i<k->¬J i->d i=0)(hd:∀c∈E,sm k (fun i=>d i*B i c)=0)(hn:∀i,i<k->0<=u i-l*d i):k8 k J E B (fun i=>u i-l*d i):=by
 refine⟨hn,fun i hi hj=>by rw[hu.off i hi hj,ho i hi hj];grind,fun c hc=>?_⟩;have e:sm k (fun i=>(u i-l*d i)*B i c)=sm k (fun i=>u i*B i c)+(-l)*sm k (fun i=>d i*B i c):=by
  rw[<- bE,<- eO];exact aN fun i _=>by grind
 rw[e,hu.oB c hc,hd c hc];grind
theorem rN.OW(h:rN k J E B u):cnt k u<=E.length+1:=by
 apply Nat.le_of_not_lt
 intro fq;rw[<- sX]at fq;cases hs:l5 k u with
 |nil=>rw[hs]at fq;simp at fq
 |cons p S=>
  rw[hs,length_cons]at fq;have RV:=p8 (u:=u) k;rw[hs]at RV;obtain⟨Ka,W3⟩:=nodup_cons.mp RV;have Dq:∀i∈S,i<k/\u i≠0:=fun i hi=>mL (u:=u) (by rw[hs];exact mem_cons_of_mem _ hi);have FU:p<k/\u p≠0:=mL (u:=u) (by rw[hs];exact mem_cons_self);obtain⟨d,d1,⟨q,hq,dq⟩,d3⟩:=Af E B S W3 (fun i hi=>(Dq i hi).1) (by omega)

  have main:∀d:Nat->Rat,(∀i,i∉S->d i=0)->(∀c∈E,sm k (fun i=>d i*B i c)=0)->¬ ∃i,i∈S/\0<d i:=by
   rintro d d1 d3 ⟨q,hq,dq⟩;have hz:∀i,i<k->u i=0->d i=0:=fun i _ e=>d1 i fun z=>(Dq i z).2 e;obtain⟨l,lp,h1,_⟩:=wV h.iw.nn hz ⟨q,(Dq q hq).1,dq⟩;have hc:=h.iw.sub (fun i hi hj=>hz i hi (h.iw.off i hi hj)) d3 h1;obtain⟨c,_,hv⟩:=h.alone _ hc fun i hi e=>by rw[e,hz i hi e];grind
   have e1:=hv p FU.1;rw[d1 p Ka]at e1;have c1:c=1:=by
    have:(c-1)*u p=0:=by grind
    rcases mul_eq_zero.mp this with e|e
    ·grind
    ·exact absurd e FU.2
   have e2:=hv q (Dq q hq).1;rw[c1]at e2;have:l*d q=0:=by grind
   have:=bJ lp dq;grind
  by_cases c:0<d q
  ·exact main d d1 d3 ⟨q,hq,c⟩
  ·refine main (fun i=>- d i) (fun i hi=>by rw[d1 i hi];grind) (fun c' hc=>?_) ⟨q,hq,by grind⟩;have:sm k (fun i=>- d i*B i c')=(-1)*sm k (fun i=>d i*B i c'):=by
    rw[<- bE];exact aN fun i _=>by grind
   rw[this,d3 c' hc];grind
variable {v:Nat->Rat}
def lsum (L:List (Nat->Rat)) (i:Nat):Rat:=match L with
 |[]=>0
 |v::r=>v i+lsum r i
theorem Ik(L M:List (Nat->Rat))(i:Nat):lsum (L++M) i=lsum L i+lsum M i:=by
 induction L with
 |nil=>show lsum M i=0+lsum M i;grind
 |cons v L ih=>show v i+lsum (L++M) i=(v i+lsum L i)+lsum M i;rw[ih];grind
theorem rN.scale(hc:0<c)(h:rN k J E B u):rN k J E B (fun i=>c*u i):=by
 refine⟨⟨fun i hi=>dz (le_of_lt hc) (h.iw.nn i hi),fun i hi hj=>by rw[h.iw.off i hi hj];grind,fun c' iZ=>?_⟩,?_,fun v hv hz=>?_⟩
 ·have:sm k (fun i=>c*u i*B i c')=c*sm k (fun i=>u i*B i c'):=by
   rw[<- bE];exact aN fun i _=>by grind
  rw[this,h.iw.oB c' iZ];grind
 ·obtain⟨i,hi,cK⟩:=h.ne;refine⟨i,hi,fun e=>?_⟩;rcases mul_eq_zero.mp e with e|e
  ·grind
  ·exact cK e
 ·obtain⟨l,h0,hl⟩:=h.alone v hv fun i hi e=>hz i hi (by rw[e];grind);have ci:0<c⁻¹:=inv_pos.mpr hc;refine⟨l*c⁻¹,dz h0 (le_of_lt ci),fun i hi=>?_⟩;rw[hl i hi];grind
theorem parted:∀(m:Nat) (u:Nat->Rat),cnt k u<=m->k8 k J E B u->∃L:List (Nat->Rat),(∀v∈L,rN k J E B v/\∀i,i<k->u i=0->v i=0)/\∀i,i<k->u i=lsum L i:=by
 intro m;induction m with
 |zero=>
  intro u hm hc;refine⟨[],fun v hv=>by simp at hv,fun i hi=>?_⟩;show u i=0;by_cases e:u i=0
  ·exact e
  ·have:=vk (u:=u) (v:=fun _=>0) (k:=k) (fun _ _ _=>rfl) ⟨i,hi,rfl,e⟩;omega
 |succ m ih=>
  intro u hm hc;by_cases h0:∃i,i<k/\u i≠0
  ·by_cases he:rN k J E B u
   ·refine⟨[u],fun v hv=>?_,fun i hi=>?_⟩
    ·rw[mem_singleton.mp hv];exact⟨he,fun _ _ e=>e⟩
    ·show u i=u i+0;grind
   ·
    have hx:∃v,k8 k J E B v/\(∀i,i<k->u i=0->v i=0)/\¬ ∃c:Rat,0<=c/\∀i,i<k->v i=c*u i:=by
     apply Classical.byContradiction
     intro hx;apply he
     refine⟨hc,h0,fun v hv hz=>?_⟩;apply Classical.byContradiction
     intro hn;exact hx ⟨v,hv,hz,hn⟩
    obtain⟨v,hv,hz,hn⟩:=hx

    have gK:∃i,i<k/\0<u i:=by
     obtain⟨i,hi,cK⟩:=h0;have:=hc.nn i hi;exact⟨i,hi,by grind⟩
    obtain⟨q,hq,pq,lq⟩:=A8 (P:=fun i=>0<u i) (fun i=>v i/u i) gK;have VD:0<=v q/u q:=by
     have h1:0<(u q)⁻¹:=inv_pos.mpr pq;have:=dz (hv.nn q hq) (le_of_lt h1);grind
    have n1:∀i,i<k->0<=v i-v q/u q*u i:=fun i hi=>by
     by_cases c:0<u i
     ·have:=FD c (lq i hi c);grind
     ·have:=hc.nn i hi;have e:u i=0:=by grind
      rw[e,hz i hi e];grind
    have c1:=hv.sub (l:=v q/u q) hc.off hc.oB n1;generalize W5:v q/u q=mu at *;have z1:∀i,i<k->u i=0->v i-mu*u i=0:=fun i hi e=>by rw[e,hz i hi e];grind
    have Vi:v q-mu*u q=0:=by rw[<- W5];grind
    have Vj:∃i,i<k/\0<v i-mu*u i:=by
     apply Classical.byContradiction
     intro zN;apply hn
     refine⟨mu,VD,fun i hi=>?_⟩;have a1:=n1 i hi;have a2:¬0<v i-mu*u i:=fun z=>zN ⟨i,hi,z⟩;grind
    have k1:=vk (u:=u) (v:=fun i=>v i-mu*u i) (k:=k) z1 ⟨q,hq,Vi,by grind⟩

    obtain⟨l,lp,n2,s,hs,ps,es⟩:=wV hc.nn z1 Vj;have c2:=hc.sub c1.off c1.oB n2;have z2:∀i,i<k->u i=0->u i-l*(v i-mu*u i)=0:=fun i hi e=>by rw[z1 i hi e,e];grind
    have us:u s≠0:=fun e=>by have:=z1 s hs e;grind
    have k2:=vk (u:=u) (v:=fun i=>u i-l*(v i-mu*u i)) (k:=k) z2 ⟨s,hs,es,us⟩;obtain⟨L1,a1,b1⟩:=ih _ (by omega) c1;obtain⟨L2,a2,b2⟩:=ih _ (by omega) c2;have sc:∀(L:List (Nat->Rat)) (i:Nat),lsum (L.map fun w=>fun i=>l*w i) i=l*lsum L i:=fun L i=>by
     induction L with
     |nil=>show(0:Rat)=l*0;grind
     |cons w L ih=>show l*w i+lsum (L.map fun w=>fun i=>l*w i) i=l*(w i+lsum L i);rw[ih];grind
    refine⟨L1.map (fun w=>fun i=>l*w i)++L2,fun w hw=>?_,fun i hi=>?_⟩
    ·rcases mem_append.mp hw with h|h
     ·obtain⟨w',zI,rfl⟩:=mem_map.mp h;obtain⟨e1,e2⟩:=a1 w' zI;exact⟨e1.scale lp,fun i hi e=>by
       show l*w' i=0;rw[e2 i hi (z1 i hi e)];grind⟩
     ·obtain⟨e1,e2⟩:=a2 w h;exact⟨e1,fun i hi e=>e2 i hi (z2 i hi e)⟩
    ·rw[Ik,sc,<- b1 i hi,<- b2 i hi];grind
  ·refine⟨[],fun v hv=>by simp at hv,fun i hi=>?_⟩;show u i=0;by_cases e:u i=0
   ·exact e
   ·exact absurd ⟨i,hi,e⟩ h0
inductive Kn where
 |eq|le|lt
deriving DecidableEq
structure Rw where
 kd:Kn
 a:Nat->Rat
 b:Rat
 w:Nat->Rat
def rel:Kn->Rat->Rat->Prop
 | .eq,x,y=>x=y
 | .le,x,y=>x<=y
 | .lt,x,y=>x<y
def vl (n:Nat) (r:Rw) (x:Nat->Rat):Rat:=sm (n+1) fun c=>r.a c*x c
def Hd (n:Nat) (x:Nat->Rat) (r:Rw):Prop:=rel r.kd (vl n r x) r.b
def uo (J:Nat->Bool) (r:Rw) (i:Nat):Rat:=if J i=true then r.w i else 0
structure Sg (n k j:Nat) (J St:Nat->Bool) (E:List Nat) (B:Nat->Nat->Rat) (β:Nat->Rat) (R:List Rw):Prop where
 jn:j<=n
 zero:∀r∈R,∀c,c<j->r.a c=0
 ej:∀c∈E,c<j
 xI:∀r∈R,r.kd=.eq->∀i,i<k->J i=true->r.w i=0
 nn:∀r∈R,r.kd≠.eq->∀i,i<k->J i=true->0<=r.w i
 pos:∀r∈R,r.kd≠.eq->∃i,i<k/\J i=true/\0<r.w i
 st:∀r∈R,r.kd≠.eq->(r.kd=.lt↔∃i,i<k/\J i=true/\St i=true/\0<r.w i)
 va:∀r∈R,r.kd≠.eq->∀c,c<=n->r.a c=sm k fun i=>uo J r i*B i c
 vb:∀r∈R,r.kd≠.eq->r.b=sm k fun i=>uo J r i*β i
 all:∀u,rN k (fun i=>J i=true) E B u->∃r∈R,r.kd≠.eq/\∃c:Rat,0<c/\∀i,i<k->J i=true->r.w i=c*u i
variable {β:Nat->Rat} {n:Nat}
def gp (n:Nat) (B:Nat->Nat->Rat) (β:Nat->Rat) (x:Nat->Rat) (i:Nat):Rat:=sm (n+1) (fun c=>B i c*x c)-β i
def Fx (n k:Nat) (B:Nat->Nat->Rat) (β:Nat->Rat) (x u:Nat->Rat):Rat:=sm k fun i=>u i*gp n B β x i
variable {x:Nat->Rat}
theorem Hf(p q:Rat):Fx n k B β x (fun i=>p*u i+q*v i)=p*Fx n k B β x u+q*Fx n k B β x v:=by
 unfold Fx;rw[<- bE,<- bE,<- eO];exact aN fun i _=>by grind
theorem Jg(h:∀i,i<k->v i=c*u i):Fx n k B β x v=c*Fx n k B β x u:=by
 unfold Fx;rw[<- bE];exact aN fun i hi=>by rw[h i hi];grind
variable {J:Nat->Bool} {r:Rw}
theorem Az(ha:∀c,c<=n->r.a c=sm k fun i=>uo J r i*B i c)(hb:r.b=sm k fun i=>uo J r i*β i):Fx n k B β x (uo J r)=vl n r x-r.b:=by
 have e1:vl n r x=sm k (fun i=>uo J r i*sm (n+1) (fun c=>B i c*x c)):=by
  unfold vl;rw[aN (g:=fun c=>sm k fun i=>uo J r i*B i c*x c) (fun c hc=>by
   rw[ha c (by omega)];rw[show(sm k fun i=>uo J r i*B i c)*x c=x c*(sm k fun i=>uo J r i*B i c) by grind,<- bE];exact aN fun i _=>by grind)]
  rw[<- vL];refine aN fun i _=>?_;rw[<- bE];exact aN fun c _=>by grind
 rw[e1,hb];unfold Fx gp;have:(sm k fun i=>uo J r i*(sm (n+1) (fun c=>B i c*x c)-β i))=(sm k fun i=>uo J r i*sm (n+1) (fun c=>B i c*x c))+(-1)*sm k fun i=>uo J r i*β i:=by
  rw[<- bE,<- eO];exact aN fun i _=>by grind
 rw[this];grind
variable {j:Nat}
variable {St:Nat->Bool} {R:List Rw} in
theorem rQ(S:Sg n k j J St E B β R)(hr:r∈R)(hk:r.kd≠.eq):k8 k (fun i=>J i=true) E B (uo J r):=by
 refine⟨fun i hi=>?_,fun i hi hj=>?_,fun c hc=>?_⟩
 ·unfold uo;split
  ·exact S.nn r hr hk i hi (by assumption)
  ·grind
 ·exact if_neg hj
 ·have h:=S.va r hr hk c (by have:=S.ej c hc;have:=S.jn;omega);rw[<- h];exact S.zero r hr c (S.ej c hc)
variable {R:List Rw} {St:Nat->Bool} in
theorem DI(S:Sg n k j J St E B β R)(hx:∀r∈R,r.kd≠.eq->Hd n x r)(hu:k8 k (fun i=>J i=true) E B u):
  Fx n k B β x u<=0/\((∃i,i<k/\St i=true/\0<u i)->Fx n k B β x u<0):=by
 obtain⟨L,h1,h2⟩:=parted (cnt k u) u (le_refl _) hu;have each:∀v∈L,Fx n k B β x v<=0/\((∃i,i<k/\St i=true/\0<v i)->Fx n k B β x v<0):=by
  intro v hv;obtain⟨he,hz⟩:=h1 v hv;obtain⟨r,hr,hk,c,hc,hw⟩:=S.all v he;have hd:=hx r hr hk;have e1:=Az (x:=x) (S.va r hr hk) (S.vb r hr hk);have e2:Fx n k B β x (uo J r)=c*Fx n k B β x v:=Jg fun i hi=>by
   unfold uo;by_cases hj:J i=true
   ·rw[if_pos hj,hw i hi hj]
   ·rw[if_neg hj,he.iw.off i hi hj];grind
  have ci:0<c⁻¹:=inv_pos.mpr hc;have e3:Fx n k B β x v=c⁻¹*(vl n r x-r.b):=by rw[<- e1,e2];grind
  unfold Hd at hd;constructor
  ·have:vl n r x-r.b<=0:=by
    cases OD:r.kd with
    |eq=>exact absurd OD hk
    |le=>rw[OD]at hd;have:vl n r x<=r.b:=hd;grind
    |lt=>rw[OD]at hd;have:vl n r x<r.b:=hd;grind
   have:=dz (le_of_lt ci) (show 0<=-(vl n r x-r.b) by grind);rw[e3];grind
  ·rintro⟨i,hi,hs,hp⟩;have hj:J i=true:=by
    by_cases hj:J i=true
    ·exact hj
    ·have:=he.iw.off i hi hj;grind
   have hl:r.kd=.lt:=(S.st r hr hk).mpr ⟨i,hi,hj,hs,by rw[hw i hi hj];exact bJ hc hp⟩;rw[hl]at hd;have ey:vl n r x<r.b:=hd;have:=bJ ci (show 0 < -(vl n r x-r.b) by grind);rw[e3];grind
 have AR:∀L:List (Nat->Rat),Fx n k B β x (lsum L)=L.foldr (fun v s=>Fx n k B β x v+s) 0:=by
  intro L;induction L with
  |nil=>exact gT fun i _=>by show(0:Rat)*_=0;grind
  |cons v L ih=>
   show _=Fx n k B β x v+L.foldr (fun v s=>Fx n k B β x v+s) 0;rw[<- ih];have:=Hf (n:=n) (k:=k) (B:=B) (β:=β) (x:=x) (u:=v) (v:=lsum L) 1 1;rw[show Fx n k B β x (lsum (v::L))=Fx n k B β x (fun i=>1*v i+1*lsum L i)from aN fun i _=>by
    show(v i+lsum L i)*_=(1*v i+1*lsum L i)*_;grind]
   rw[this];grind
 have eu:Fx n k B β x u=Fx n k B β x (lsum L):=aN fun i hi=>by rw[h2 i hi]
 rw[eu,AR];have RJ:∀L:List (Nat->Rat),(∀v∈L,Fx n k B β x v<=0)->L.foldr (fun v s=>Fx n k B β x v+s) 0<=0:=by
  intro L;induction L with
  |nil=>intro _;show(0:Rat)<=0;grind
  |cons v L ih=>
   intro h;have a:=h v mem_cons_self;have b:=ih fun q hq=>h q (mem_cons_of_mem _ hq);show Fx n k B β x v+L.foldr (fun v s=>Fx n k B β x v+s) 0<=0;grind
 refine⟨RJ L fun v hv=>(each v hv).1,?_⟩;rintro⟨i,hi,hs,hp⟩;rw[h2 i hi]at hp;have RA:∀v∈L,0<=v i:=fun v hv=>(h1 v hv).1.iw.nn i hi;clear eu AR;clear h2 hu;induction L with
 |nil=>exact absurd hp (by show ¬(0:Rat)<0;grind)
 |cons v L ih=>
  have a:=(each v mem_cons_self).1;have a':=RA v mem_cons_self;have b:=RJ L fun q hq=>(each q (mem_cons_of_mem _ hq)).1;show Fx n k B β x v+L.foldr (fun v s=>Fx n k B β x v+s) 0<0;by_cases c:0<v i
  ·have:=(each v mem_cons_self).2 ⟨i,hi,hs,c⟩;grind
  ·have fQ:0<v i+lsum L i:=hp;have:=ih (fun q hq=>h1 q (mem_cons_of_mem _ hq)) (fun q hq=>each q (mem_cons_of_mem _ hq)) (by grind) (fun q hq=>RA q (mem_cons_of_mem _ hq));grind
structure Jd (up lo r:Rw) (j:Nat):Prop where
 kd:r.kd=if up.kd=.lt\/lo.kd=.lt then .lt else .le
 ex:∃μ:Rat,0<μ/\(∀c,r.a c=μ*(-lo.a j*up.a c+up.a j*lo.a c))/\r.b=μ*(-lo.a j*up.b+up.a j*lo.b)/\∀i,r.w i=μ*(-lo.a j*up.w i+up.a j*lo.w i)
variable {R':List Rw}
variable {R:List Rw} in
structure Pairs (k:Nat) (J:Nat->Bool) (j most:Nat) (R R':List Rw):Prop where
 pF:∀r∈R,r.kd=.eq->r.a j=0
 gC:∀r∈R',(r∈R/\r.a j=0)\/∃up∈R,∃lo∈R,0<up.a j/\lo.a j<0/\Jd up lo r j
 keep:∀r∈R,r.a j=0->∃r'∈R',r'=r
 join:∀up∈R,∀lo∈R,0<up.a j->lo.a j<0->cnt k (fun i=>uo J up i+uo J lo i)<=most->∃r∈R',Jd up lo r j
theorem K4{up lo:Rw}{μ:Rat}(hw:∀i,r.w i=μ*(-lo.a j*up.w i+up.a j*lo.w i))(i:Nat):uo J r i=μ*(-lo.a j*uo J up i+up.a j*uo J lo i):=by
 unfold uo;split
 ·exact hw i
 ·grind
variable {R:List Rw} {St:Nat->Bool} in
theorem Sg.pairs(S:Sg n k j J St E B β R)(hj:j<n)(P:Pairs k J j (E.length+2) R R'):Sg n k (j+1) J St (j::E) B β R':=by
 have AH:∀{up lo:Rw},up∈R->lo∈R->up.kd≠.eq->lo.kd≠.eq->0<up.a j->lo.a j<0->k8 k (fun i=>J i=true) (j::E) B (fun i=>-lo.a j*uo J up i+up.a j*uo J lo i):=by
  intro up lo hu hl ku kl pu pl;have cu:=rQ S hu ku;have cl:=rQ S hl kl;refine⟨fun i hi=>?_,fun i hi h=>?_,fun c hc=>?_⟩
  ·have a:=dz (show 0<=-lo.a j by grind) (cu.nn i hi);have b:=dz (le_of_lt pu) (cl.nn i hi);grind
  ·rw[cu.off i hi h,cl.off i hi h];grind
  ·have e:sm k (fun i=>(-lo.a j*uo J up i+up.a j*uo J lo i)*B i c)=-lo.a j*sm k (fun i=>uo J up i*B i c)+up.a j*sm k (fun i=>uo J lo i*B i c):=by
    rw[<- bE,<- bE,<- eO];exact aN fun i _=>by grind
   rw[e];rcases mem_cons.mp hc with h|h
   ·subst h;rw[<- S.va up hu ku c (by omega),<- S.va lo hl kl c (by omega)];grind
   ·rw[cu.oB c h,cl.oB c h];grind
 have kq:∀{r:Rw},r∈R->r.a j≠0->r.kd≠.eq:=fun hr h e=>h (P.pF _ hr e);have RN:∀{up lo r:Rw},Jd up lo r j->r.kd≠.eq:=fun h=>by rw[h.kd];split<;>simp
 refine⟨by omega,fun r hr c hc=>?_,fun c hc=>?_,fun r hr hk i hi hj=>?_,fun r hr hk i hi hj=>?_,fun r hr hk=>?_,fun r hr hk=>?_,fun r hr hk c hc=>?_,fun r hr hk=>?_,fun u hu=>?_⟩
 ·rcases P.gC r hr with⟨h,h0⟩|⟨up,gK,lo,gZ,pu,pl,hd⟩
  ·by_cases e:c=j
   ·rw[e];exact h0
   ·exact S.zero r h c (by omega)
  ·obtain⟨μ,_,ea,_⟩:=hd.ex;rw[ea c];by_cases e:c=j
   ·rw[e];grind
   ·rw[S.zero up gK c (by omega),S.zero lo gZ c (by omega)];grind
 ·rcases mem_cons.mp hc with h|h
  ·omega
  ·have:=S.ej c h;omega
 ·rcases P.gC r hr with⟨h,h0⟩|⟨up,gK,lo,gZ,pu,pl,hd⟩
  ·exact S.xI r h hk i hi hj
  ·exact absurd hk (RN hd)
 ·rcases P.gC r hr with⟨h,h0⟩|⟨up,gK,lo,gZ,pu,pl,hd⟩
  ·exact S.nn r h hk i hi hj
  ·obtain⟨μ,mp,_,_,ew⟩:=hd.ex;rw[ew i];have a:=dz (show 0<=-lo.a j by grind) (S.nn up gK (kq gK (by grind)) i hi hj);have b:=dz (le_of_lt pu) (S.nn lo gZ (kq gZ (by grind)) i hi hj);exact dz (le_of_lt mp) (by grind)
 ·rcases P.gC r hr with⟨h,h0⟩|⟨up,gK,lo,gZ,pu,pl,hd⟩
  ·exact S.pos r h hk
  ·obtain⟨μ,mp,_,_,ew⟩:=hd.ex;obtain⟨i,hi,hj,hp⟩:=S.pos up gK (kq gK (by grind));refine⟨i,hi,hj,?_⟩;rw[ew i];have a:=bJ (show 0 < -lo.a j by grind) hp;have b:=dz (le_of_lt pu) (S.nn lo gZ (kq gZ (by grind)) i hi hj);exact bJ mp (by grind)
 ·rcases P.gC r hr with⟨h,h0⟩|⟨up,gK,lo,gZ,pu,pl,hd⟩
  ·exact S.st r h hk
  ·obtain⟨μ,mp,_,_,ew⟩:=hd.ex;have su:=S.st up gK (kq gK (by grind));have sl:=S.st lo gZ (kq gZ (by grind));have nu:=S.nn up gK (kq gK (by grind));have nl:=S.nn lo gZ (kq gZ (by grind));constructor
   ·intro e;rw[hd.kd]at e;split at e
    ·rename_i h;rcases h with h|h
     ·obtain⟨i,hi,hj,hs,hp⟩:=su.mp h;refine⟨i,hi,hj,hs,?_⟩;rw[ew i];have a:=bJ (show 0 < -lo.a j by grind) hp;have b:=dz (le_of_lt pu) (nl i hi hj);exact bJ mp (by grind)
     ·obtain⟨i,hi,hj,hs,hp⟩:=sl.mp h;refine⟨i,hi,hj,hs,?_⟩;rw[ew i];have a:=dz (show 0<=-lo.a j by grind) (nu i hi hj);have b:=bJ pu hp;exact bJ mp (by grind)
    ·cases e
   ·rintro⟨i,hi,hj,hs,hp⟩;rw[hd.kd,if_pos];by_cases c:0<up.w i
    ·exact .inl (su.mpr ⟨i,hi,hj,hs,c⟩)
    ·right
     refine sl.mpr ⟨i,hi,hj,hs,?_⟩;have VS:up.w i=0:=by have:=nu i hi hj;grind
     by_cases c2:0<lo.w i
     ·exact c2
     ·have Wd:lo.w i=0:=by have:=nl i hi hj;grind
      rw[ew i,VS,Wd]at hp;grind
 ·rcases P.gC r hr with⟨h,h0⟩|⟨up,gK,lo,gZ,pu,pl,hd⟩
  ·exact S.va r h hk c hc
  ·obtain⟨μ,mp,ea,_,ew⟩:=hd.ex;rw[ea c,S.va up gK (kq gK (by grind)) c hc,S.va lo gZ (kq gZ (by grind)) c hc];rw[<- bE,<- bE,<- eO,<- bE];exact aN fun i _=>by rw[K4 ew i];grind
 ·rcases P.gC r hr with⟨h,h0⟩|⟨up,gK,lo,gZ,pu,pl,hd⟩
  ·exact S.vb r h hk
  ·obtain⟨μ,mp,_,eb,ew⟩:=hd.ex;rw[eb,S.vb up gK (kq gK (by grind)),S.vb lo gZ (kq gZ (by grind))];rw[<- bE,<- bE,<- eO,<- bE];exact aN fun i _=>by rw[K4 ew i];grind
 ·
  have OW:=hu.OW;rw[length_cons]at OW;have Wn:k8 k (fun i=>J i=true) E B u:=⟨hu.iw.nn,hu.iw.off,fun c hc=>hu.iw.oB c (mem_cons_of_mem _ hc)⟩;obtain⟨L,h1,h2⟩:=parted (cnt k u) u (le_refl _) Wn

  let V:(Nat->Rat)->Rat:=fun v=>sm k fun i=>v i*B i j;have rowOf:∀v∈L,∃r∈R,r.kd≠.eq/\∃c:Rat,0<c/\(∀i,i<k->uo J r i=c*v i)/\r.a j=c*V v:=by
   intro v hv;obtain⟨he,hz⟩:=h1 v hv;obtain⟨r,hr,hk,c,hc,hw⟩:=S.all v he;have e:∀i,i<k->uo J r i=c*v i:=fun i hi=>by
    unfold uo;by_cases hj:J i=true
    ·rw[if_pos hj,hw i hi hj]
    ·rw[if_neg hj,he.iw.off i hi hj];grind
   refine⟨r,hr,hk,c,hc,e,?_⟩;rw[S.va r hr hk j (by omega)];show _=c*sm k fun i=>v i*B i j;rw[<- bE];exact aN fun i hi=>by rw[e i hi];grind
  by_cases hz:∃v∈L,V v=0
  ·obtain⟨v,hv,h0⟩:=hz;obtain⟨r,hr,hk,c,hc,hw,ha⟩:=rowOf v hv;obtain⟨he,Uw⟩:=h1 v hv;obtain⟨l,l0,hl⟩:=hu.alone v ⟨he.iw.nn,he.iw.off,fun c' iZ=>by
    rcases mem_cons.mp iZ with h|h
    ·subst h;exact h0
    ·exact he.iw.oB c' h⟩ Uw
   have lp:0<l:=by
    obtain⟨i,hi,cK⟩:=he.ne;rcases Rat.le_iff_lt_or_eq.mp l0 with h|h
    ·exact h
    ·exact absurd (by rw[hl i hi,<- h];grind) cK
   obtain⟨r',cX,e⟩:=P.keep r hr (by rw[ha,h0];grind);subst e;refine⟨r',cX,hk,c*l,bJ hc lp,fun i hi hj=>?_⟩;have:=hw i hi;unfold uo at this;rw[if_pos hj,hl i hi]at this;rw[this];grind
  ·
   have Ue:∀L:List (Nat->Rat),V (lsum L)=L.foldr (fun v s=>V v+s) 0:=by
    intro L;induction L with
    |nil=>exact gT fun i _=>by show(0:Rat)*_=0;grind
    |cons v L ih=>
     show _=V v+L.foldr (fun v s=>V v+s) 0;rw[<- ih];show(sm k fun i=>(v i+lsum L i)*B i j)=(sm k fun i=>v i*B i j)+sm k fun i=>lsum L i*B i j;rw[<- eO];exact aN fun i _=>by grind
   have AR:L.foldr (fun v s=>V v+s) 0=0:=by
    rw[<- Ue];have:=hu.iw.oB j mem_cons_self;rw[<- this];exact aN fun i hi=>by rw[h2 i hi]
   have T9:L≠[]:=by
    intro e;obtain⟨i,hi,cK⟩:=hu.ne;apply cK
    rw[h2 i hi,e];rfl
   have nz:∀v∈L,V v≠0:=fun v hv h=>hz ⟨v,hv,h⟩;have w6:∃v∈L,0<V v:=by
    apply Classical.byContradiction
    intro zN;have neg:∀v∈L,V v<0:=fun v hv=>by
     have a:=nz v hv;have b:¬0<V v:=fun z=>zN ⟨v,hv,z⟩;grind
    have:∀M:List (Nat->Rat),M≠[]->(∀v∈M,V v<0)->M.foldr (fun v s=>V v+s) 0<0:=by
     intro M;induction M with
     |nil=>intro h;exact absurd rfl h
     |cons v M ih=>
      intro _ h;have a:=h v mem_cons_self;show V v+M.foldr (fun v s=>V v+s) 0<0;by_cases e:M=[]
      ·subst e;show V v+0<0;grind
      ·have:=ih e fun q hq=>h q (mem_cons_of_mem _ hq);grind
    have:=this L T9 neg;grind
   have Iy:∃v∈L,V v<0:=by
    apply Classical.byContradiction
    intro zN;have neg:∀v∈L,0<V v:=fun v hv=>by
     have a:=nz v hv;have b:¬V v<0:=fun z=>zN ⟨v,hv,z⟩;grind
    have:∀M:List (Nat->Rat),M≠[]->(∀v∈M,0<V v)->0<M.foldr (fun v s=>V v+s) 0:=by
     intro M;induction M with
     |nil=>intro h;exact absurd rfl h
     |cons v M ih=>
      intro _ h;have a:=h v mem_cons_self;show 0<V v+M.foldr (fun v s=>V v+s) 0;by_cases e:M=[]
      ·subst e;show 0<V v+0;grind
      ·have:=ih e fun q hq=>h q (mem_cons_of_mem _ hq);grind
    have:=this L T9 neg;grind
   obtain⟨p,hp,pp⟩:=w6;obtain⟨q,hq,qn⟩:=Iy;obtain⟨up,gK,ku,cu,Xq,wu,au⟩:=rowOf p hp;obtain⟨lo,gZ,kl,cl,Xr,wl,al⟩:=rowOf q hq;have pu:0<up.a j:=by rw[au];exact bJ Xq pp
   have pl:lo.a j<0:=by
    have:=bJ Xr (show 0 < - V q by grind);rw[al];grind
   have cj:=AH gK gZ ku kl pu pl;have sup:∀i,i<k->u i=0->-lo.a j*uo J up i+up.a j*uo J lo i=0:=fun i hi e=>by
    rw[wu i hi,wl i hi,(h1 p hp).2 i hi e,(h1 q hq).2 i hi e];grind
   have Ud:∀i,i<k->u i=0->uo J up i+uo J lo i=0:=fun i hi e=>by
    rw[wu i hi,wl i hi,(h1 p hp).2 i hi e,(h1 q hq).2 i hi e];grind
   obtain⟨l,l0,hl⟩:=hu.alone _ cj sup;have hcnt:=Ak (k:=k) Ud;obtain⟨r,hr,hd⟩:=P.join up gK lo gZ pu pl (by omega);obtain⟨μ,mp,_,_,ew⟩:=hd.ex;have lp:0<l:=by
    rcases Rat.le_iff_lt_or_eq.mp l0 with h|h
    ·exact h
    ·exfalso;obtain⟨i,hi,hj,hp⟩:=S.pos up gK ku;have e:=hl i hi;rw[<- h]at e;have a:=bJ (show 0 < -lo.a j by grind) hp;have b:=dz (le_of_lt pu) (S.nn lo gZ kl i hi hj);unfold uo at e;rw[if_pos hj,if_pos hj]at e;grind
   refine⟨r,hr,RN hd,μ*l,bJ mp lp,fun i hi hj=>?_⟩;have e:=hl i hi;unfold uo at e;rw[if_pos hj,if_pos hj]at e;rw[ew i,e];grind
structure Wo (q r r':Rw) (j:Nat):Prop where
 kd:r'.kd=r.kd
 ex:∃μ:Rat,0<μ/\(∀c,r'.a c=μ*(r.a c-r.a j/q.a j*q.a c))/\r'.b=μ*(r.b-r.a j/q.a j*q.b)/\∀i,r'.w i=μ*(r.w i-r.a j/q.a j*q.w i)
variable {R:List Rw} in
structure DU (j:Nat) (q:Rw) (R R':List Rw):Prop where
 mem:q∈R
 eq:q.kd=.eq
 ne:q.a j≠0
 gC:∀r'∈R',∃r∈R,Wo q r r' j
 to:∀r∈R,r≠q->∃r'∈R',Wo q r r' j
variable {St:Nat->Bool} {R:List Rw} in
theorem Sg.QY{q:Rw}(S:Sg n k j J St E B β R)(hj:j<n)(G:DU j q R R'):
  Sg n k (j+1) J St E (fun i c=>B i c-B i j/q.a j*q.a c) (fun i=>β i-B i j/q.a j*q.b) R':=by
 have q0:∀i,i<k->J i=true->q.w i=0:=S.xI q G.mem G.eq;have wu:∀{r r':Rw} {μ:Rat},(∀i,r'.w i=μ*(r.w i-r.a j/q.a j*q.w i))->∀i,i<k->uo J r' i=μ*uo J r i:=by
  intro r r' μ h i hi;unfold uo;by_cases hj:J i=true
  ·rw[if_pos hj,if_pos hj,h i,q0 i hi hj];grind
  ·rw[if_neg hj,if_neg hj];grind
 have ww:∀{r r':Rw} {μ:Rat},(∀i,r'.w i=μ*(r.w i-r.a j/q.a j*q.w i))->∀i,i<k->J i=true->r'.w i=μ*r.w i:=by
  intro r r' μ h i hi hj;rw[h i,q0 i hi hj];grind
 refine⟨by omega,fun r' cX c hc=>?_,fun c hc=>?_,fun r' cX hk i hi hj=>?_,fun r' cX hk i hi hj=>?_,fun r' cX hk=>?_,fun r' cX hk=>?_,fun r' cX hk c hc=>?_,fun r' cX hk=>?_,fun u hu=>?_⟩
 ·obtain⟨r,hr,W⟩:=G.gC r' cX;obtain⟨μ,_,ea,_⟩:=W.ex;rw[ea c];by_cases e:c=j
  ·rw[e];have:r.a j/q.a j*q.a j=r.a j:=by have:=G.ne;grind
   rw[this];grind
  ·rw[S.zero r hr c (by omega),S.zero q G.mem c (by omega)];grind
 ·have:=S.ej c hc;omega
 ·obtain⟨r,hr,W⟩:=G.gC r' cX;obtain⟨μ,mp,ea,eb,ew⟩:=W.ex;rw[ww ew i hi hj,S.xI r hr (by rw[<- W.kd];exact hk) i hi hj];grind
 ·obtain⟨r,hr,W⟩:=G.gC r' cX;obtain⟨μ,mp,ea,eb,ew⟩:=W.ex;rw[ww ew i hi hj];exact dz (le_of_lt mp) (S.nn r hr (by rw[<- W.kd];exact hk) i hi hj)
 ·obtain⟨r,hr,W⟩:=G.gC r' cX;obtain⟨μ,mp,ea,eb,ew⟩:=W.ex;obtain⟨i,hi,hj,hp⟩:=S.pos r hr (by rw[<- W.kd];exact hk);exact⟨i,hi,hj,by rw[ww ew i hi hj];exact bJ mp hp⟩
 ·obtain⟨r,hr,W⟩:=G.gC r' cX;obtain⟨μ,mp,ea,eb,ew⟩:=W.ex;rw[W.kd,S.st r hr (by rw[<- W.kd];exact hk)];constructor
  ·rintro⟨i,hi,hj,hs,hp⟩;exact⟨i,hi,hj,hs,by rw[ww ew i hi hj];exact bJ mp hp⟩
  ·rintro⟨i,hi,hj,hs,hp⟩;refine⟨i,hi,hj,hs,?_⟩;rw[ww ew i hi hj]at hp;have nn:=S.nn r hr (by rw[<- W.kd];exact hk) i hi hj;by_cases c:0<r.w i
   ·exact c
   ·have:r.w i=0:=by grind
    rw[this]at hp;grind
 ·obtain⟨r,hr,W⟩:=G.gC r' cX;obtain⟨μ,mp,ea,eb,ew⟩:=W.ex;have jL:r.kd≠.eq:=by rw[<- W.kd];exact hk
  rw[ea c,S.va r hr jL c hc,S.va r hr jL j (by omega)];rw[aN (f:=fun i=>uo J r' i*(B i c-B i j/q.a j*q.a c)) (g:=fun i=>μ*(uo J r i*B i c)+(-(μ/q.a j*q.a c))*(uo J r i*B i j)) (fun i hi=>by rw[wu ew i hi];grind)];rw[eO,bE,bE];grind
 ·obtain⟨r,hr,W⟩:=G.gC r' cX;obtain⟨μ,mp,ea,eb,ew⟩:=W.ex;have jL:r.kd≠.eq:=by rw[<- W.kd];exact hk
  rw[eb,S.vb r hr jL,S.va r hr jL j (by omega)];rw[aN (f:=fun i=>uo J r' i*(β i-B i j/q.a j*q.b)) (g:=fun i=>μ*(uo J r i*β i)+(-(μ/q.a j*q.b))*(uo J r i*B i j)) (fun i hi=>by rw[wu ew i hi];grind)];rw[eO,bE,bE];grind
 ·have same:∀v,k8 k (fun i=>J i=true) E (fun i c=>B i c-B i j/q.a j*q.a c) v↔k8 k (fun i=>J i=true) E B v:=by
   intro v;have e:∀c∈E,(sm k fun i=>v i*(B i c-B i j/q.a j*q.a c))=sm k fun i=>v i*B i c:=fun c hc=>by
    rw[S.zero q G.mem c (S.ej c hc)];exact aN fun i _=>by grind
   exact⟨fun h=>⟨h.nn,h.off,fun c hc=>by rw[<- e c hc];exact h.oB c hc⟩,fun h=>⟨h.nn,h.off,fun c hc=>by rw[e c hc];exact h.oB c hc⟩⟩
  obtain⟨r,hr,hk,c,hc,hw⟩:=S.all u ⟨(same u).mp hu.iw,hu.ne,fun v hv=>hu.alone v ((same v).mpr hv)⟩;obtain⟨r',cX,W⟩:=G.to r hr (fun e=>hk (by rw[e];exact G.eq));obtain⟨μ,mp,ea,eb,ew⟩:=W.ex;exact⟨r',cX,by rw[W.kd];exact hk,μ*c,bJ mp hc,fun i hi hj=>by rw[ww ew i hi hj,hw i hi hj];grind⟩
def rest (n:Nat) (r:Rw) (x:Nat->Rat) (j:Nat):Rat:=sm (n+1) fun c=>if c=j then 0 else r.a c*x c
def Nm (n:Nat) (r:Rw) (x:Nat->Rat) (j:Nat):Rat:=(r.b-rest n r x j)/r.a j
theorem oZ(hj:j<=n):vl n r x=rest n r x j+r.a j*x j:=yD (by omega)
def put (x:Nat->Rat) (j:Nat) (v:Rat):Nat->Rat:=fun c=>if c=j then v else x c
variable {v:Rat}
theorem Hx:rest n r (put x j v) j=rest n r x j:=aN fun c _=>by
 unfold put;split<;>rfl
theorem oA(hj:j<=n):vl n r (put x j v)=rest n r x j+r.a j*v:=by
 rw[oZ hj,Hx];unfold put;rw[if_pos rfl]
theorem Ew(h:r.a j=0):rest n r x j=vl n r x:=aN fun c _=>by
 by_cases e:c=j
 ·rw[if_pos e,e,h];grind
 ·rw[if_neg e]
theorem zR(hj:j<=n)(h:r.a j=0):Hd n (put x j v) r↔Hd n x r:=by
 unfold Hd;rw[oA hj,h,Ew h,show vl n r x+0*v=vl n r x by grind]
theorem tR(h:r.a j≠0):r.b=rest n r x j+r.a j*Nm n r x j:=by unfold Nm;grind
theorem CB(hj:j<=n)(h:0<r.a j):vl n r (put x j v)<=r.b↔v<=Nm n r x j:=by
 rw[oA hj,tR (n:=n) (x:=x) (j:=j) (r:=r) (by grind)];constructor
 ·intro z;have z':r.a j*v<=r.a j*Nm n r x j:=by grind
  exact Rat.le_of_mul_le_mul_left z' h
 ·intro z;have:=Rat.mul_le_mul_of_nonneg_left z (le_of_lt h);grind
theorem CA(hj:j<=n)(h:0<r.a j):vl n r (put x j v)<r.b↔v<Nm n r x j:=by
 rw[oA hj,tR (n:=n) (x:=x) (j:=j) (r:=r) (by grind)];constructor
 ·intro z;have z':r.a j*v<r.a j*Nm n r x j:=by grind
  exact Rat.lt_of_mul_lt_mul_left z' (le_of_lt h)
 ·intro z;have:=bJ h (show 0<Nm n r x j-v by grind);grind
theorem lo_le(hj:j<=n)(h:r.a j<0):vl n r (put x j v)<=r.b↔Nm n r x j<=v:=by
 rw[oA hj,tR (n:=n) (x:=x) (j:=j) (r:=r) (by grind)];constructor
 ·intro z;have z': -r.a j*Nm n r x j<=-r.a j*v:=by grind
  exact Rat.le_of_mul_le_mul_left z' (by grind)
 ·intro z;have:=Rat.mul_le_mul_of_nonneg_left z (show 0<=-r.a j by grind);grind
theorem Di(hj:j<=n)(h:r.a j<0):vl n r (put x j v)<r.b↔Nm n r x j<v:=by
 rw[oA hj,tR (n:=n) (x:=x) (j:=j) (r:=r) (by grind)];constructor
 ·intro z;have z': -r.a j*Nm n r x j < -r.a j*v:=by grind
  exact Rat.lt_of_mul_lt_mul_left z' (by grind)
 ·intro z;have:=bJ (show 0 < -r.a j by grind) (show 0<v-Nm n r x j by grind);grind
theorem pU(hj:j<=n)(h:r.a j≠0):vl n r (put x j v)=r.b↔v=Nm n r x j:=by
 rw[oA hj,tR (n:=n) (x:=x) (j:=j) (r:=r) h];constructor
 ·intro z;have z':r.a j*(v-Nm n r x j)=0:=by grind
  rcases mul_eq_zero.mp z' with e|e
  ·exact absurd e h
  ·grind
 ·intro z;rw[z]
def isUp (r:Rw) (j:Nat):Prop:=0<r.a j\/(r.a j<0/\r.kd=.eq)
def pJ (r:Rw) (j:Nat):Prop:=r.a j<0\/(0<r.a j/\r.kd=.eq)
variable {R:List Rw} in
structure Top (n:Nat) (R:List Rw) (x:Nat->Rat) (j:Nat) (g:Option (Bool×Rat)):Prop where
 none:g=none->∀r∈R,¬isUp r j
 some:∀s v,g=some (s,v)->(∃r∈R,isUp r j/\v=Nm n r x j/\(s=true->r.kd=.lt))/\∀r∈R,isUp r j->v<=Nm n r x j/\(r.kd=.lt->Nm n r x j=v->s=true)
variable {R:List Rw} in
structure Q6 (n:Nat) (R:List Rw) (x:Nat->Rat) (j:Nat) (g:Option (Bool×Rat)):Prop where
 none:g=none->∀r∈R,¬pJ r j
 some:∀s v,g=some (s,v)->(∃r∈R,pJ r j/\v=Nm n r x j/\(s=true->r.kd=.lt))/\∀r∈R,pJ r j->Nm n r x j<=v/\(r.kd=.lt->Nm n r x j=v->s=true)
def gL (least IG:Option Rat):Rat:=match least,IG with
 |none,none=>0
 |some l,none=>l+1
 |none,some g=>g-1
 |some l,some g=>(l+g)/2
variable {R:List Rw} {St:Nat->Bool} in
theorem EV{up lo:Rw}(S':Sg n k (j+1) J St (j::E) B β R')(S:Sg n k j J St E B β R)(hj:j<n)(P:Pairs k J j (E.length+2) R R')(hx:∀r∈R',Hd n x r)(hu:up∈R)(hl:lo∈R)(pu:0<up.a j)(pl:lo.a j<0):
  Nm n lo x j<=Nm n up x j/\(up.kd=.lt\/lo.kd=.lt->Nm n lo x j<Nm n up x j):=by
 have ku:up.kd≠.eq:=fun e=>by have:=P.pF up hu e;grind
 have kl:lo.kd≠.eq:=fun e=>by have:=P.pF lo hl e;grind
 have cu:=rQ S hu ku;have cl:=rQ S hl kl;have cj:k8 k (fun i=>J i=true) (j::E) B (fun i=>-lo.a j*uo J up i+up.a j*uo J lo i):=by
  refine⟨fun i hi=>?_,fun i hi h=>?_,fun c hc=>?_⟩
  ·have a:=dz (show 0<=-lo.a j by grind) (cu.nn i hi);have b:=dz (le_of_lt pu) (cl.nn i hi);grind
  ·rw[cu.off i hi h,cl.off i hi h];grind
  ·have e:sm k (fun i=>(-lo.a j*uo J up i+up.a j*uo J lo i)*B i c)=-lo.a j*sm k (fun i=>uo J up i*B i c)+up.a j*sm k (fun i=>uo J lo i*B i c):=by
    rw[<- bE,<- bE,<- eO];exact aN fun i _=>by grind
   rw[e];rcases mem_cons.mp hc with h|h
   ·subst h;rw[<- S.va up hu ku c (by omega),<- S.va lo hl kl c (by omega)];grind
   ·rw[cu.oB c h,cl.oB c h];grind
 obtain⟨h1,h2⟩:=DI S' (fun r hr _=>hx r hr) cj;rw[Hf,Az (S.va up hu ku) (S.vb up hu ku),Az (S.va lo hl kl) (S.vb lo hl kl)]at h1 h2;have bu:=tR (n:=n) (x:=x) (r:=up) (j:=j) (by grind);have bl:=tR (n:=n) (x:=x) (r:=lo) (j:=j) (by grind);have vu:=oZ (n:=n) (j:=j) (r:=up) (x:=x) (by omega);have vo:=oZ (n:=n) (j:=j) (r:=lo) (x:=x) (by omega);have key: -lo.a j*(vl n up x-up.b)+up.a j*(vl n lo x-lo.b)=(-lo.a j*up.a j)*(Nm n lo x j-Nm n up x j):=by
  rw[vu,vo,bu,bl];grind
 have pp:0 < -lo.a j*up.a j:=bJ (by grind) pu;rw[key]at h1 h2;constructor
 ·by_cases c:Nm n lo x j<=Nm n up x j
  ·exact c
  ·have:=bJ pp (show 0<Nm n lo x j-Nm n up x j by grind);grind
 ·intro hs;have sG:∃i,i<k/\St i=true/\0 < -lo.a j*uo J up i+up.a j*uo J lo i:=by
   rcases hs with hs|hs
   ·obtain⟨i,hi,FY,fm,hp⟩:=(S.st up hu ku).mp hs;refine⟨i,hi,fm,?_⟩;have a:=bJ (show 0 < -lo.a j by grind) hp;have b:=dz (le_of_lt pu) (cl.nn i hi);unfold uo at b ⊢;rw[if_pos FY]at b ⊢;rw[if_pos FY];grind
   ·obtain⟨i,hi,FY,fm,hp⟩:=(S.st lo hl kl).mp hs;refine⟨i,hi,fm,?_⟩;have a:=dz (show 0<=-lo.a j by grind) (cu.nn i hi);have b:=bJ pu hp;unfold uo at a ⊢;rw[if_pos FY]at a ⊢;rw[if_pos FY];grind
  have h3:=h2 sG;by_cases c:Nm n lo x j<Nm n up x j
  ·exact c
  ·have:=dz (le_of_lt pp) (show 0<=Nm n lo x j-Nm n up x j by grind);grind
def jz (g:Option (Bool×Rat)):Option Rat:=g.map (·.2)
variable {R:List Rw} {St:Nat->Bool} in
theorem Gn{g l:Option (Bool×Rat)}(S':Sg n k (j+1) J St (j::E) B β R')(S:Sg n k j J St E B β R)(hj:j<n)(P:Pairs k J j (E.length+2) R R')(hx:∀r∈R',Hd n x r)(hg:Top n R x j g)(hl:Q6 n R x j l):
  ∀r∈R,Hd n (put x j (gL (jz l) (jz g))) r:=by
 have room:=fun{up lo:Rw}=>EV (up:=up) (lo:=lo) S' S hj P hx;have kq:∀{r:Rw},r∈R->r.a j≠0->r.kd≠.eq:=fun hr h e=>h (P.pF _ hr e);have Vk:∀{r:Rw},r∈R->isUp r j->0<r.a j:=fun hr h=>h.elim id fun z=>absurd z.2 (kq hr (by have:=z.1;grind));have VF:∀{r:Rw},r∈R->pJ r j->r.a j<0:=fun hr h=>h.elim id fun z=>absurd z.2 (kq hr (by have:=z.1;grind));intro r hr;by_cases h0:r.a j=0
 ·obtain⟨r',cX,e⟩:=P.keep r hr h0;rw[zR (by omega) h0,<- e];exact hx r' cX
 ·have hk:=kq hr h0;by_cases hp:0<r.a j
  ·
   have goal:∀v:Rat,(v<=Nm n r x j)->(r.kd=.lt->v<Nm n r x j)->Hd n (put x j v) r:=by
    intro v h1 h2;unfold Hd;cases e:r.kd with
    |eq=>exact absurd e hk
    |le=>exact(CB (by omega) hp).mpr h1
    |lt=>exact(CA (by omega) hp).mpr (h2 e)
   cases eg:g with
   |none=>exact absurd (.inl hp) (hg.none eg r hr)
   |some gv=>
    obtain⟨sg,v⟩:=gv;obtain⟨_,g2⟩:=hg.some sg v eg;obtain⟨g3,g4⟩:=g2 r hr (.inl hp);cases el:l with
    |none=>
     have:gL (jz none) (jz (some (sg,v)))=v-1:=rfl;rw[this];exact goal _ (by grind) (fun _=>by grind)
    |some lv=>
     obtain⟨sl,v'⟩:=lv;obtain⟨⟨lo,gZ,VL,elo,_⟩,_⟩:=hl.some sl v' el;obtain⟨r1,r2⟩:=room hr gZ hp (VF gZ VL);have:gL (jz (some (sl,v'))) (jz (some (sg,v)))=(v'+v)/2:=rfl;rw[this];exact goal _ (by grind) (fun e=>by have:=r2 (.inl e);grind)
  ·have hn:r.a j<0:=by grind
   have goal:∀v:Rat,(Nm n r x j<=v)->(r.kd=.lt->Nm n r x j<v)->Hd n (put x j v) r:=by
    intro v h1 h2;unfold Hd;cases e:r.kd with
    |eq=>exact absurd e hk
    |le=>exact(lo_le (by omega) hn).mpr h1
    |lt=>exact(Di (by omega) hn).mpr (h2 e)
   cases el:l with
   |none=>exact absurd (.inl hn) (hl.none el r hr)
   |some lv=>
    obtain⟨sl,v'⟩:=lv;obtain⟨_,l2⟩:=hl.some sl v' el;obtain⟨l3,l4⟩:=l2 r hr (.inl hn);cases eg:g with
    |none=>
     have:gL (jz (some (sl,v'))) (jz none)=v'+1:=rfl;rw[this];exact goal _ (by grind) (fun _=>by grind)
    |some gv=>
     obtain⟨sg,v⟩:=gv;obtain⟨⟨up,gK,VJ,eup,_⟩,_⟩:=hg.some sg v eg;obtain⟨r1,r2⟩:=room gK hr (Vk gK VJ) hn;have:gL (jz (some (sl,v'))) (jz (some (sg,v)))=(v'+v)/2:=rfl;rw[this];exact goal _ (by grind) (fun e=>by have:=r2 (.inr e);grind)
variable {R:List Rw} in
theorem Gp{q:Rw}{g l:Option (Bool×Rat)}(hj:j<=n)(G:DU j q R R')(hx:∀r∈R',Hd n x r)(h0:∀r∈R',r.a j=0)(hg:Top n R x j g)(hl:Q6 n R x j l):
  ∀r∈R,Hd n (put x j (gL (jz l) (jz g))) r:=by

 have at':∀r∈R,Hd n (put x j (Nm n q x j)) r:=by
  intro r hr;have hq:vl n q (put x j (Nm n q x j))=q.b:=(pU hj G.ne).mpr rfl;by_cases e:r=q
  ·rw[e];unfold Hd;rw[G.eq];exact hq
  ·obtain⟨r',cX,W⟩:=G.to r hr e;have hd:=(zR (n:=n) (x:=x) (v:=Nm n q x j) hj (h0 r' cX)).mpr (hx r' cX);obtain⟨μ,mp,ea,eb,_⟩:=W.ex;generalize put x j (Nm n q x j)=y at hd hq ⊢;have ev:vl n r' y=μ*(vl n r y-r.a j/q.a j*vl n q y):=by
    unfold vl;rw[aN (g:=fun c=>μ*(r.a c*y c)+(-(μ*(r.a j/q.a j)))*(q.a c*y c)) (fun c _=>by rw[ea c];grind),eO,bE,bE];grind
   unfold Hd at hd ⊢;rw[W.kd,ev,eb,hq]at hd;have mi:0<μ⁻¹:=inv_pos.mpr mp;cases hk:r.kd with
   |eq=>
    rw[hk]at hd;have ey:μ*(vl n r y-r.a j/q.a j*q.b)=μ*(r.b-r.a j/q.a j*q.b):=hd;have:μ*(vl n r y-r.b)=0:=by grind
    show vl n r y=r.b;rcases mul_eq_zero.mp this with z|z<;>grind
   |le=>
    rw[hk]at hd;have ey:μ*(vl n r y-r.a j/q.a j*q.b)<=μ*(r.b-r.a j/q.a j*q.b):=hd;have:=Rat.le_of_mul_le_mul_left ey mp;show vl n r y<=r.b;grind
   |lt=>
    rw[hk]at hd;have ey:μ*(vl n r y-r.a j/q.a j*q.b)<μ*(r.b-r.a j/q.a j*q.b):=hd;have:=Rat.lt_of_mul_lt_mul_left ey (le_of_lt mp);show vl n r y<r.b;grind
 have qu:isUp q j:=by
  have:=G.ne;by_cases c:0<q.a j
  ·exact .inl c
  ·exact .inr ⟨by grind,G.eq⟩
 have ql:pJ q j:=by
  have:=G.ne;by_cases c:q.a j<0
  ·exact .inl c
  ·exact .inr ⟨by grind,G.eq⟩
 have X7:∀r∈R,isUp r j->Nm n q x j<=Nm n r x j:=by
  intro r hr hu;have h:=at' r hr;unfold Hd at h;rcases hu with hp|⟨hn,he⟩
  ·cases hk:r.kd with
   |eq=>rw[hk]at h;have:=(pU hj (by grind)).mp h;grind
   |le=>rw[hk]at h;exact(CB hj hp).mp h
   |lt=>rw[hk]at h;exact le_of_lt ((CA hj hp).mp h)
  ·rw[he]at h;have:=(pU hj (by grind)).mp h;grind
 have VG:∀r∈R,pJ r j->Nm n r x j<=Nm n q x j:=by
  intro r hr hu;have h:=at' r hr;unfold Hd at h;rcases hu with hp|⟨hn,he⟩
  ·cases hk:r.kd with
   |eq=>rw[hk]at h;have:=(pU hj (by grind)).mp h;grind
   |le=>rw[hk]at h;exact(lo_le hj hp).mp h
   |lt=>rw[hk]at h;exact le_of_lt ((Di hj hp).mp h)
  ·rw[he]at h;have:=(pU hj (by grind)).mp h;grind
 have eb:gL (jz l) (jz g)=Nm n q x j:=by
  cases eg:g with
  |none=>exact absurd qu (hg.none eg q G.mem)
  |some gv=>
   obtain⟨sg,v⟩:=gv;obtain⟨⟨r,hr,iu,ev,_⟩,g2⟩:=hg.some sg v eg;have a1:=(g2 q G.mem qu).1;have a2:=X7 r hr iu;cases el:l with
   |none=>exact absurd ql (hl.none el q G.mem)
   |some lv=>
    obtain⟨sl,v'⟩:=lv;obtain⟨⟨r',cX,il,ev',_⟩,l2⟩:=hl.some sl v' el;have b1:=(l2 q G.mem ql).1;have b2:=VG r' cX il;show(v'+v)/2=_;grind
 rw[eb];exact at'
abbrev Row:=Kn×List Int
def ent (r:Row) (c:Nat):Int:=r.2.getD c 0
def lowG (l:List Int):Nat:=l.foldl (fun g x=>Nat.gcd g x.natAbs) 0
def lowered (l:List Int):List Int:=l.map fun x=>x.fdiv (lowG l:Int)
def fU (one:List Int) (bU:Int) (other:List Int) (more:Int):List Int:=zipWith (fun a b=>bU*a+more*b) one other
def mixed (one:List Int) (bU:Int) (other:List Int) (more:Int):List Int:=lowered (fU one bU other more)
def wo (equal:Row) (j:Nat) (r:Row):Row:=(r.1,mixed r.2 ((ent equal j).natAbs:Int) equal.2 (if 0<ent equal j then -ent r j else ent r j))
def joined (j:Nat) (up lo:Row):Row:=(if up.1=.lt\/lo.1=.lt then .lt else .le,mixed up.2 (-ent lo j) lo.2 (ent up j))
def drawn (aE:List Nat) (up lo:Row):Nat:=(aE.filter fun p=>decide (ent up p≠0\/ent lo p≠0)).length
def ins (l:List Row) (r:Row):List Row:=if r∈l then l else l++[r]
def pairsOf (j:Nat) (aE:List Nat) (most:Nat) (rows:List Row):List Row:=
 (rows.filter fun r=>decide (0<ent r j)).flatMap fun up=>((rows.filter fun r=>decide (ent r j<0)).filter fun lo=>decide (drawn aE up lo<=most)).map fun lo=>joined j up lo
def paired (j:Nat) (aE:List Nat) (most:Nat) (rows:List Row):List Row:=(rows.filter (fun r=>decide (ent r j=0))++pairsOf j aE most rows).foldl ins []
def eY (j:Nat) (rows:List Row):Option Row:=rows.find? fun r=>decide (r.1=.eq/\ent r j≠0)
def dg (aE:List Nat) (j most:Nat) (rows:List Row):List Row:=match eY j rows with
 |none=>paired j aE (most+1) rows
 |some q=>(rows.filter fun r=>decide (r≠q)).map (wo q j)
def ja (j most:Nat) (rows:List Row):Nat:=match eY j rows with
 |none=>most+1
 |some _=>most
def md (aE:List Nat):Nat->Nat->Nat->List Row->List (List Row)
 |0,_,_,rows=>[rows]
 |m+1,j,most,rows=>rows::md aE m (j+1) (ja j most rows) (dg aE j most rows)
def aF (n:Nat) (r:Row):Rw:=⟨r.1,fun c=>(ent r c:Rat),(ent r (n+1):Rat),fun i=>(ent r (n+2+i):Rat)⟩
theorem BG:∀(l:List Int) (g:Nat),(∀x∈l,(l.foldl (fun g x=>Nat.gcd g x.natAbs) g)∣x.natAbs)/\(l.foldl (fun g x=>Nat.gcd g x.natAbs) g)∣g
 |[],g=>⟨fun x hx=>by simp at hx,Nat.dvd_refl g⟩
 |y::l,g=>by
  obtain⟨h1,h2⟩:=BG l (Nat.gcd g y.natAbs);rw[foldl_cons];refine⟨fun x hx=>?_,dvd_trans h2 (Nat.gcd_dvd_left _ _)⟩;rcases mem_cons.mp hx with e|h
  ·rw[e];exact dvd_trans h2 (Nat.gcd_dvd_right _ _)
  ·exact h1 x h
variable {l:List Int}
theorem mV{x:Int}(h:x∈l):(lowG l:Int)∣x:=Int.ofNat_dvd_left.mpr ((BG l 0).1 x h)
theorem tD{x:Int}(h:x∈l)(hx:x≠0):0<lowG l:=by
 rcases Nat.eq_zero_or_pos (lowG l)with e|e
 ·have:=mV h;rw[e]at this;exact absurd (Int.zero_dvd.mp this) hx
 ·exact e
theorem Gf{f:Int->Int}(f0:f 0=0)(l:List Int)(c:Nat):(l.map f).getD c 0=f (l.getD c 0):=by
 rw[getD_eq_getElem?_getD,getD_eq_getElem?_getD,getElem?_map];cases l[c]? with
 |none=>exact f0.symm
 |some x=>rfl
variable {c:Nat}
theorem mem_getD(h:l.getD c 0≠0):l.getD c 0∈l:=by
 rw[getD_eq_getElem?_getD]at h ⊢;cases e:l[c]? with
 |none=>rw[e]at h;exact absurd rfl h
 |some x=>exact mem_of_getElem? e
theorem AF(hp:0<lowG l)(c:Nat):((lowered l).getD c 0:Rat)=(lowG l:Rat)⁻¹*(l.getD c 0:Rat):=by
 have f0:(0:Int).fdiv (lowG l:Int)=0:=Int.zero_fdiv _;unfold lowered;rw[Gf f0];by_cases e:l.getD c 0=0
 ·rw[e,f0];grind
 ·obtain⟨q,hq⟩:=mV (mem_getD e);have g0:(lowG l:Int)≠0:=by omega
  have e2:(l.getD c 0).fdiv (lowG l:Int)=q:=by rw[hq,mul_comm,Int.mul_fdiv_cancel _ g0]
  rw[e2,hq,intCast_mul];have g1:((lowG l:Int):Rat)≠0:=fun z=>g0 (Rat.intCast_eq_zero_iff.mp z);have g2:((lowG l:Int):Rat)=(lowG l:Rat):=rfl;rw[g2]at g1 ⊢;grind
theorem sF(l:List Int):(lowered l).length=l.length:=by unfold lowered;rw[length_map]
variable {other:List Int}
theorem mU{one:List Int}(h:one.length=other.length)(bU more:Int)(c:Nat):(fU one bU other more).getD c 0=bU*one.getD c 0+more*other.getD c 0:=by
 unfold fU;rw[getD_eq_getElem?_getD,getD_eq_getElem?_getD,getD_eq_getElem?_getD,List.getElem?_zipWith];by_cases hc:c<one.length
 ·rw[getElem?_eq_getElem hc,getElem?_eq_getElem (h▸hc)];rfl
 ·rw[List.getElem?_eq_none (by omega),List.getElem?_eq_none (by omega)];show(0:Int)=bU*0+more*0;omega
theorem Ij{one:List Int}(h:one.length=other.length)(bU more:Int):(fU one bU other more).length=one.length:=by
 unfold fU;rw[length_zipWith];omega
theorem AG{g:Nat}(h:0<g):0<(g:Rat)⁻¹:=inv_pos.mpr (by
 have:((0:Nat):Rat)<(g:Rat):=Rat.natCast_lt_natCast.mpr h;exact this)
variable {p:Nat}
theorem xn{one:List Int}(h:one.length=other.length){bU more:Int}(hp:bU*one.getD p 0+more*other.getD p 0≠0):
  ∃μ:Rat,0<μ/\∀c,((mixed one bU other more).getD c 0:Rat)=μ*((bU:Rat)*(one.getD c 0:Rat)+(more:Rat)*(other.getD c 0:Rat)):=by
 have e:=mU h bU more p;have hg:0<lowG (fU one bU other more):=tD (mem_getD (by rw[e];exact hp)) (by rw[e];exact hp);refine⟨_,AG hg,fun c=>?_⟩;unfold mixed;rw[AF hg,mU h,Rat.intCast_add,intCast_mul,intCast_mul]
theorem nP{one:List Int}(h:one.length=other.length)(bU more:Int):(mixed one bU other more).length=one.length:=by
 unfold mixed;rw[sF,Ij h]
variable {r:Row}
theorem LR{l:List Row}{x:Row}:x∈ins l r↔x∈l\/x=r:=by
 unfold ins;split
 ·rename_i h;exact⟨.inl,fun z=>z.elim id fun e=>by rw[e];exact h⟩
 ·rw[mem_append,mem_singleton]
theorem uW{x:Row}:∀{M l:List Row},x∈M.foldl ins l↔x∈l\/x∈M
 |[],l=>by simp
 |r::M,l=>by
  rw[foldl_cons,uW,LR,mem_cons];grind
variable {most:Nat} {rows:List Row}
theorem ij{aE:List Nat}{x:Row}:x∈paired j aE most rows↔(x∈rows/\ent x j=0)\/∃up∈rows,∃lo∈rows,0<ent up j/\ent lo j<0/\drawn aE up lo<=most/\x=joined j up lo:=by
 unfold paired pairsOf;rw[uW,mem_append,mem_filter,List.mem_flatMap];constructor
 ·rintro(h|h|⟨up,hu,hx⟩)
  ·simp at h
  ·exact .inl ⟨h.1,by simpa using h.2⟩
  ·obtain⟨zJ,Ou⟩:=mem_filter.mp hu;obtain⟨lo,hl,e⟩:=mem_map.mp hx;obtain⟨qc,sL⟩:=mem_filter.mp hl;obtain⟨Wc,Wb⟩:=mem_filter.mp qc;exact .inr ⟨up,zJ,lo,Wc,by simpa using Ou,by simpa using Wb,by simpa using sL,e.symm⟩
 ·rintro(⟨h1,h2⟩|⟨up,hu,lo,hl,pu,pl,hd,e⟩)
  ·exact .inr (.inl ⟨h1,by simpa using h2⟩)
  ·exact .inr (.inr ⟨up,mem_filter.mpr ⟨hu,by simpa using pu⟩,mem_map.mpr ⟨lo,mem_filter.mpr ⟨mem_filter.mpr ⟨hl,by simpa using pl⟩,by simpa using hd⟩,e.symm⟩⟩)
variable {a:Int}
theorem jb:(0:Rat)<(a:Rat)↔0<a:=by
 have:((0:Int):Rat)<(a:Rat)↔0<a:=Rat.intCast_lt_intCast;exact this
theorem r9:(a:Rat)<0↔a<0:=by
 have:(a:Rat)<((0:Int):Rat)↔a<0:=Rat.intCast_lt_intCast;exact this
theorem bF:(a:Rat)=0↔a=0:=Rat.intCast_eq_zero_iff
def cF (n k:Nat) (J:Nat->Bool):List Nat:=((List.range k).filter fun i=>J i).map fun i=>n+2+i
theorem GB{up lo:Row}(hu:∀i,i<k->J i=true->0<=(aF n up).w i)(hl:∀i,i<k->J i=true->0<=(aF n lo).w i):
  drawn (cF n k J) up lo=cnt k (fun i=>uo J (aF n up) i+uo J (aF n lo) i):=by
 unfold drawn cF;rw[List.filter_map,length_map,List.filter_filter];induction k with
 |zero=>rfl
 |succ k ih=>
  rw[range_succ,List.filter_append,length_append,ih (fun i hi=>hu i (by omega)) (fun i hi=>hl i (by omega))];show _=cnt k _+_;congr 1
  by_cases hj:J k=true
  ·have a:=hu k (by omega) hj;have b:=hl k (by omega) hj;have e0:uo J (aF n up) k+uo J (aF n lo) k=(ent up (n+2+k):Rat)+(ent lo (n+2+k):Rat):=by
    unfold uo;rw[if_pos hj,if_pos hj];rfl
   have a':0<=(ent up (n+2+k):Rat):=a;have b':0<=(ent lo (n+2+k):Rat):=b;by_cases e:ent up (n+2+k)≠0\/ent lo (n+2+k)≠0
   ·rw[if_neg,List.filter_cons_of_pos (by simp[hj];exact e)]
    ·simp
    ·show ¬uo J (aF n up) k+uo J (aF n lo) k=0;rw[e0];intro z;have z1:(ent up (n+2+k):Rat)=0:=by grind
     have z2:(ent lo (n+2+k):Rat)=0:=by grind
     exact e.elim (fun h=>h (bF.mp z1)) (fun h=>h (bF.mp z2))
   ·have h1:ent up (n+2+k)=0:=by
     apply Classical.byContradiction;intro z;exact e (.inl z)
    have h2:ent lo (n+2+k)=0:=by
     apply Classical.byContradiction;intro z;exact e (.inr z)
    rw[if_pos,List.filter_cons_of_neg (by simp[h1,h2])]
    ·simp
    ·show uo J (aF n up) k+uo J (aF n lo) k=0;rw[e0,h1,h2];grind
  ·rw[if_pos,List.filter_cons_of_neg (by simp[hj])]
   ·simp
   ·show uo J (aF n up) k+uo J (aF n lo) k=0;unfold uo;rw[if_neg hj,if_neg hj];grind
structure Rs (n k:Nat) (rows:List Row):Prop where
 len:∀r∈rows,r.2.length=n+2+k
 CW:∀r∈rows,r.1=.eq->∃p,ent r p≠0/\∀s∈rows,s.1=.eq->s≠r->ent s p=0
theorem FG{up lo:Row}(hl:up.2.length=lo.2.length)(pu:0<ent up j)(pl:ent lo j<0)(hp: -ent lo j*ent up p+ent up j*ent lo p≠0):Jd (aF n up) (aF n lo) (aF n (joined j up lo)) j:=by
 refine⟨rfl,?_⟩;obtain⟨μ,mp,h⟩:=xn (bU:=-ent lo j) (more:=ent up j) hl (p:=p) hp;have h':∀c,((ent (joined j up lo) c:Int):Rat)=μ*(-(ent lo j:Rat)*(ent up c:Rat)+(ent up j:Rat)*(ent lo c:Rat)):=fun c=>by
  have:=h c;rw[Rat.intCast_neg]at this;exact this
 exact⟨μ,mp,fun c=>h' c,h' _,fun i=>h' _⟩
variable {q:Row}
theorem Jr(hl:r.2.length=q.2.length)(q0:ent q j≠0)(hp:((ent q j).natAbs:Int)*ent r p+(if 0<ent q j then -ent r j else ent r j)*ent q p≠0):Wo (aF n q) (aF n r) (aF n (wo q j r)) j:=by
 refine⟨rfl,?_⟩;obtain⟨μ,mp,h⟩:=xn (bU:=((ent q j).natAbs:Int)) (more:=if 0<ent q j then -ent r j else ent r j) hl (p:=p) hp;have qn:((ent q j:Int):Rat)≠0:=fun z=>q0 (bF.mp z);have ab:(((ent q j).natAbs:Int):Rat)=if 0<ent q j then(ent q j:Rat)else -(ent q j:Rat):=by
  by_cases c:0<ent q j
  ·rw[if_pos c,show((ent q j).natAbs:Int)=ent q j by omega]
  ·rw[if_neg c,show((ent q j).natAbs:Int)=-ent q j by omega,Rat.intCast_neg]
 have ap:0<(((ent q j).natAbs:Int):Rat):=jb.mpr (by omega);have h':∀c,((ent (wo q j r) c:Int):Rat)=μ*(((ent q j).natAbs:Int):Rat)*((ent r c:Rat)-(ent r j:Rat)/(ent q j:Rat)*(ent q c:Rat)):=fun c=>by
  have e:=h c;have e2:((ent (wo q j r) c:Int):Rat)=_:=e;rw[e2,ab];show μ*((if 0<ent q j then(ent q j:Rat)else -(ent q j:Rat))*(ent r c:Rat)+((if 0<ent q j then -ent r j else ent r j:Int):Rat)*(ent q c:Rat))=_;by_cases c0:0<ent q j
  ·rw[if_pos c0,if_pos c0,Rat.intCast_neg];grind
  ·rw[if_neg c0,if_neg c0];grind
 exact⟨μ*(((ent q j).natAbs:Int):Rat),bJ mp ap,fun c=>h' c,h' _,fun i=>h' _⟩
variable {St:Nat->Bool} in
theorem zb(hR:Rs n k rows)(S:Sg n k j J St E B β (rows.map (aF n)))(hn:eY j rows=none):
  Pairs k J j (E.length+2) (rows.map (aF n)) ((paired j (cF n k J) (E.length+2) rows).map (aF n)):=by
 have mem:∀{r:Row},r∈rows->aF n r∈rows.map (aF n):=fun h=>mem_map.mpr ⟨_,h,rfl⟩;have pF:∀r∈rows,r.1=.eq->ent r j=0:=fun r hr he=>by
  have:=List.find?_eq_none.mp hn r hr;apply Classical.byContradiction
  intro z;exact this (by simp[he,z])
 have kq:∀{r:Row},r∈rows->ent r j≠0->(aF n r).kd≠.eq:=fun hr h e=>h (pF _ hr e);have jd:∀{up lo:Row},up∈rows->lo∈rows->0<ent up j->ent lo j<0->Jd (aF n up) (aF n lo) (aF n (joined j up lo)) j:=by
  intro up lo hu hl pu pl;obtain⟨i,hi,hj,hp⟩:=S.pos (aF n up) (mem hu) (kq hu (by omega));have b:=S.nn (aF n lo) (mem hl) (kq hl (by omega)) i hi hj;refine FG (by rw[hR.len up hu,hR.len lo hl]) pu pl (p:=n+2+i) ?_;have fQ:0<ent up (n+2+i):=jb.mp hp;have G7:0<=ent lo (n+2+i):=by
   have b':(0:Rat)<=(ent lo (n+2+i):Rat):=b;have:((0:Int):Rat)<=(ent lo (n+2+i):Rat):=b';exact Rat.intCast_le_intCast.mp this
  have h1:=mul_pos (show 0 < -ent lo j by omega) fQ;have h2:=Int.mul_nonneg (Int.le_of_lt pu) G7;omega
 refine⟨fun r hr he=>?_,fun r hr=>?_,fun r hr h0=>?_,fun up hu lo hl pu pl hc=>?_⟩
 ·obtain⟨r,cX,rfl⟩:=mem_map.mp hr;exact bF.mpr (pF r cX he)
 ·obtain⟨r,cX,rfl⟩:=mem_map.mp hr;rcases ij.mp cX with⟨h1,h2⟩|⟨up,hu,lo,hl,pu,pl,_,rfl⟩
  ·exact .inl ⟨mem h1,bF.mpr h2⟩
  ·exact .inr ⟨aF n up,mem hu,aF n lo,mem hl,jb.mpr pu,r9.mpr pl,jd hu hl pu pl⟩
 ·obtain⟨r,cX,rfl⟩:=mem_map.mp hr;exact⟨_,mem_map.mpr ⟨r,ij.mpr (.inl ⟨cX,bF.mp h0⟩),rfl⟩,rfl⟩
 ·obtain⟨up,FQ,rfl⟩:=mem_map.mp hu;obtain⟨lo,iG,rfl⟩:=mem_map.mp hl;clear hu hl;have hu:=FQ;have hl:=iG;have Rx:0<ent up j:=jb.mp pu;have Ry:ent lo j<0:=r9.mp pl;refine⟨_,mem_map.mpr ⟨joined j up lo,ij.mpr (.inr ⟨up,hu,lo,hl,Rx,Ry,?_,rfl⟩),rfl⟩,jd hu hl Rx Ry⟩;rw[GB (S.nn _ (mem hu) (kq hu (by omega))) (S.nn _ (mem hl) (kq hl (by omega)))];exact hc
theorem Es(hR:Rs n k rows)(hn:eY j rows=none):Rs n k (paired j (cF n k J) most rows):=by
 have RM:∀{r:Row},r∈paired j (cF n k J) most rows->r.1=.eq->r∈rows:=fun hr he=>by
  rcases ij.mp hr with⟨h1,h2⟩|⟨up,hu,lo,hl,pu,pl,_,e⟩
  ·exact h1
  ·rw[e]at he;unfold joined at he;dsimp only at he;split at he<;>cases he
 refine⟨fun r hr=>?_,fun r hr he=>?_⟩
 ·rcases ij.mp hr with⟨h1,h2⟩|⟨up,hu,lo,hl,pu,pl,_,e⟩
  ·exact hR.len r h1
  ·rw[e];show(mixed up.2 _ lo.2 _).length=_;rw[nP (by rw[hR.len up hu,hR.len lo hl]),hR.len up hu]
 ·obtain⟨p,h1,h2⟩:=hR.CW r (RM hr he) he;exact⟨p,h1,fun s hs K8 cK=>h2 s (RM hs K8) K8 cK⟩
variable {St:Nat->Bool} in
theorem Cz(hR:Rs n k rows)(S:Sg n k j J St E B β (rows.map (aF n)))(hq:q∈rows)(qe:q.1=.eq)(q0:ent q j≠0)(hr:r∈rows)(cK:r≠q):Wo (aF n q) (aF n r) (aF n (wo q j r)) j:=by
 have mem:∀{r:Row},r∈rows->aF n r∈rows.map (aF n):=fun h=>mem_map.mpr ⟨_,h,rfl⟩;have hl:r.2.length=q.2.length:=by rw[hR.len r hr,hR.len q hq]
 by_cases he:r.1=.eq
 ·obtain⟨p,h1,h2⟩:=hR.CW r hr he;refine Jr hl q0 (p:=p) ?_;rw[h2 q hq qe (Ne.symm cK)];have:((ent q j).natAbs:Int)≠0:=by omega
  have:=mul_ne_zero this h1;omega
 ·obtain⟨i,hi,hj,hp⟩:=S.pos (aF n r) (mem hr) he;have hz:=S.xI (aF n q) (mem hq) qe i hi hj;refine Jr hl q0 (p:=n+2+i) ?_;have zH:ent q (n+2+i)=0:=bF.mp hz;have fQ:0<ent r (n+2+i):=jb.mp hp;rw[zH];have:((ent q j).natAbs:Int)≠0:=by omega
  have:=mul_ne_zero this (show ent r (n+2+i)≠0 by omega);omega
variable {St:Nat->Bool} in
theorem A0(hR:Rs n k rows)(S:Sg n k j J St E B β (rows.map (aF n)))(hq:eY j rows=some q):
  DU j (aF n q) (rows.map (aF n)) (((rows.filter fun r=>decide (r≠q)).map (wo q j)).map (aF n)):=by
 have mem:∀{r:Row},r∈rows->aF n r∈rows.map (aF n):=fun h=>mem_map.mpr ⟨_,h,rfl⟩;have hm:=mem_of_find?_eq_some hq;have hp:=find?_some hq;have fQ:q.1=.eq/\ent q j≠0:=by simpa using hp
 refine⟨mem hm,fQ.1,fun z=>fQ.2 (bF.mp z),fun r' cX=>?_,fun r hr cK=>?_⟩
 ·obtain⟨s,hs,rfl⟩:=mem_map.mp cX;obtain⟨r,hr,rfl⟩:=mem_map.mp hs;obtain⟨h1,h2⟩:=mem_filter.mp hr;exact⟨aF n r,mem h1,Cz hR S hm fQ.1 fQ.2 h1 (by simpa using h2)⟩
 ·obtain⟨r,m6,rfl⟩:=mem_map.mp hr;clear hr;have hr:=m6;have Dp:r≠q:=fun e=>cK (by rw[e]);exact⟨_,mem_map.mpr ⟨_,mem_map.mpr ⟨r,mem_filter.mpr ⟨hr,by simpa using Dp⟩,rfl⟩,rfl⟩,Cz hR S hm fQ.1 fQ.2 hr Dp⟩
variable {St:Nat->Bool} in
theorem Hw(hR:Rs n k rows)(S:Sg n k j J St E B β (rows.map (aF n)))(hq:eY j rows=some q):Rs n k ((rows.filter fun r=>decide (r≠q)).map (wo q j)):=by
 have hm:=mem_of_find?_eq_some hq;have hp:=find?_some hq;have fQ:q.1=.eq/\ent q j≠0:=by simpa using hp
 have inv:∀{s:Row},s∈(rows.filter fun r=>decide (r≠q)).map (wo q j)->∃r∈rows,r≠q/\s=wo q j r:=fun hs=>by
  obtain⟨r,hr,rfl⟩:=mem_map.mp hs;obtain⟨h1,h2⟩:=mem_filter.mp hr;exact⟨r,h1,by simpa using h2,rfl⟩
 refine⟨fun s hs=>?_,fun s hs he=>?_⟩
 ·obtain⟨r,hr,cK,rfl⟩:=inv hs;show(mixed r.2 _ q.2 _).length=_;rw[nP (by rw[hR.len r hr,hR.len q hm]),hR.len r hr]
 ·obtain⟨r,hr,cK,rfl⟩:=inv hs;obtain⟨p,h1,h2⟩:=hR.CW r hr he;have zq:=h2 q hm fQ.1 (Ne.symm cK)

  have at':∀{t:Row},t∈rows->t≠q->∃μ:Rat,0<μ/\((ent (wo q j t) p:Int):Rat)=μ*(ent t p:Rat):=fun ht VU=>by
   obtain⟨μ,mp,ea,_⟩:=(Cz (n:=n) hR S hm fQ.1 fQ.2 ht VU).ex;refine⟨μ,mp,?_⟩;have:=ea p;show(aF n (wo q j _)).a p=_;rw[this];show μ*((ent _ p:Rat)-_*(ent q p:Rat))=_;rw[zq];grind
  refine⟨p,?_,fun s' sG Kg Dp=>?_⟩
  ·obtain⟨μ,mp,e⟩:=at' hr cK;intro z;rw[z]at e;have e':(0:Rat)=μ*(ent r p:Rat):=e;rcases mul_eq_zero.mp e'.symm with h|h
   ·grind
   ·exact h1 (bF.mp h)
  ·obtain⟨r',cX,UB,rfl⟩:=inv sG;have Ow:r'≠r:=fun e=>Dp (by rw[e]);obtain⟨μ,mp,e⟩:=at' cX UB;rw[h2 r' cX Kg Ow]at e;exact bF.mp (by rw[e];grind)
def sf (r:Row):Nat->List Rat->Rat->Rat
 |_,[],acc=>acc
 |c,x::xs,acc=>sf r (c+1) xs (if ent r c≠0 then acc-(ent r c:Rat)*x else acc)
def mn (r:Row) (x:List Rat):Rat:=sf r 0 x (ent r x.length:Rat)
abbrev fO:=Bool×Rat×List Rat
def nq (j:Nat) (way:Int) (r:Row):Prop:=0<way*ent r j\/(way*ent r j<0/\r.1=.eq)
instance (j:Nat) (way:Int) (r:Row):Decidable (nq j way r):=inferInstanceAs (Decidable (_\/_))
def dQ (j:Nat) (way:Int) (x:List Rat) (r:Row):Rat:=mn r x/((way*ent r j:Int):Rat)
def nG (j:Nat) (way:Int) (x:List Rat) (r:Row):List Rat:=(r.2.drop (x.length+1)).map fun(w:Int)=>(w:Rat)/((way*ent r j:Int):Rat)
def better (b:Option fO) (kd:Bool) (v:Rat):Bool:=match b with
 |none=>true
 |some b=>decide (v<b.2.1) || (decide (v=b.2.1)&&kd)
def kz (j:Nat) (way:Int) (x:List Rat) (b:Option fO) (r:Row):Option fO:=
 if nq j way r then(if better b (decide (r.1=.lt)) (dQ j way x r)=true then some (decide (r.1=.lt),dQ j way x r,nG j way x r)else b)else b
def cf (rows:List Row) (j:Nat) (x:List Rat) (way:Int):Option fO:=rows.foldl (kz j way x) none
def gI (b:Option fO):Option Rat:=b.map (·.2.1)
def gq (b:Option fO):Option Rat:=b.map fun b=>0-b.2.1
def eV (qA:List (List Row)):Nat->List Rat->List Rat
 |0,x=>x
 |m+1,x=>eV qA m (x.set m (gL (gq (cf (qA.getD m []) m x (-1))) (gI (cf (qA.getD m []) m x 1))))
def dY (qA:List (List Row)) (n:Nat) (t:Rat):List Rat:=(eV qA n (List.replicate n 0++[t])).take n
def endOf (n:Nat) (rows:List Row) (way:Int):Option fO:=cf rows n (List.replicate (n+1) 0) way
def cO:Kn->Rat->Bool
 | .eq,b=>decide (b≠0)
 | .le,b=>decide (b<0)
 | .lt,b=>decide (b<0) || decide (b=0)
def fF (n:Nat) (rows:List Row):Option (List Rat):=(rows.find? fun r=>decide (ent r n=0)&&cO r.1 (ent r (n+1):Rat)).map fun r=>
 (r.2.drop (n+2)).map fun(w:Int)=>(((if r.1=.eq/\0<ent r (n+1)then -1 else 1:Int)*w:Int):Rat)
def fP (n:Nat) (rows:List Row):Option (List Rat):=match endOf n rows 1,endOf n rows (-1)with
 |some t,some b=>if cO (if t.1=true\/b.1=true then .lt else .le) (t.2.1+b.2.1)=true then some (zipWith (fun x y=>x+y) t.2.2 b.2.2)else none
 |_,_=>none
def never (n:Nat) (rows:List Row):Option (List Rat):=match fF n rows with
 |some w=>some w
 |none=>fP n rows
def eZ (n:Nat) (rows:List Row) (β:Rat):Rat:=gL (some (match gq (endOf n rows (-1))with|none=>β|some l=>if l<β then β else l)) (gI (endOf n rows 1))
theorem zz(r:Row):∀(xs:List Rat) (c:Nat) (acc:Rat),sf r c xs acc=acc-sm xs.length (fun i=>(ent r (c+i):Rat)*xs.getD i 0)
 |[],c,acc=>by show acc=acc-0;grind
 |x::xs,c,acc=>by
  show sf r (c+1) xs _=_;rw[zz r xs (c+1)];have e:sm (xs.length+1) (fun i=>(ent r (c+i):Rat)*(x::xs).getD i 0)=(ent r c:Rat)*x+sm xs.length (fun i=>(ent r (c+1+i):Rat)*xs.getD i 0):=by
   have:∀(m:Nat) (f:Nat->Rat),sm (m+1) f=f 0+sm m (fun i=>f (i+1)):=by
    intro m f;induction m with
    |zero=>show(0:Rat)+f 0=f 0+0;grind
    |succ m ih=>show sm (m+1) f+f (m+1)=f 0+(sm m (fun i=>f (i+1))+f (m+1));rw[ih];grind
   rw[this];congr 1
   exact aN fun i _=>by
    show(ent r (c+(i+1)):Rat)*xs.getD i 0=_;rw[show c+(i+1)=c+1+i by omega]
  show _=acc-sm (xs.length+1) _;rw[e];by_cases h:ent r c=0
  ·rw[if_neg (fun z=>z h),h];grind
  ·rw[if_pos h];grind
abbrev xf (x:List Rat):Nat->Rat:=fun c=>x.getD c 0
variable {x:List Rat}
theorem zy(hx:x.length=n+1):mn r x=(aF n r).b-vl n (aF n r) (xf x):=by
 unfold mn;rw[zz,hx];show _=(ent r (n+1):Rat)-sm (n+1) (fun c=>(ent r c:Rat)*x.getD c 0);congr 1
 exact aN fun i _=>by rw[zero_add]
theorem uP(hx:x.length=n+1)(hj:j<=n)(h0:x.getD j 0=0):mn r x=(aF n r).b-rest n (aF n r) (xf x) j:=by
 rw[zy hx,oZ hj];show _-(_+_*x.getD j 0)=_;rw[h0];grind
structure TS (j:Nat) (way:Int) (x:List Rat) (rows:List Row) (b:Option fO):Prop where
 none:b=none->∀r∈rows,¬nq j way r
 some:∀t,b=some t->(∃r∈rows,nq j way r/\t.1=decide (r.1=.lt)/\t.2.1=dQ j way x r/\t.2.2=nG j way x r)/\∀r∈rows,nq j way r->t.2.1<=dQ j way x r/\(r.1=.lt->dQ j way x r=t.2.1->t.1=true)
variable {way:Int}
theorem TS.step{b:Option fO}(h:TS j way x rows b)(r:Row):TS j way x (rows++[r]) (kz j way x b r):=by
 unfold kz;by_cases c:nq j way r
 ·rw[if_pos c];by_cases d:better b (decide (r.1=.lt)) (dQ j way x r)=true
  ·rw[if_pos d];refine⟨(fun e=>by cases e),fun t e=>?_⟩;cases e;refine⟨⟨r,by simp,c,rfl,rfl,rfl⟩,fun s hs cs=>?_⟩;rcases mem_append.mp hs with hs|hs
   ·cases hb:b with
    |none=>exact absurd cs (h.none hb s hs)
    |some t=>
     obtain⟨h1,h2⟩:=(h.some t hb).2 s hs cs;rw[hb]at d;have d':(decide (dQ j way x r<t.2.1) || (decide (dQ j way x r=t.2.1)&&decide (r.1=.lt)))=true:=d;rw[or_eq_true,and_eq_true,decide_eq_true_iff,decide_eq_true_iff]at d';rcases d' with d'|⟨d',d2⟩
     ·exact⟨by show dQ j way x r<=_;grind,fun _ e=>by have e':dQ j way x s=dQ j way x r:=e;grind⟩
     ·exact⟨by show dQ j way x r<=_;grind,fun _ _=>d2⟩
   ·rw[mem_singleton.mp hs];exact⟨by show dQ j way x r<=_;grind,fun e _=>decide_eq_true e⟩
  ·rw[if_neg d];cases hb:b with
   |none=>rw[hb]at d;exact absurd rfl d
   |some t=>
    refine⟨(fun e=>by cases e),fun t' e=>?_⟩;cases e;obtain⟨⟨r0,Oy,h1⟩,h2⟩:=h.some t hb;refine⟨⟨r0,mem_append.mpr (.inl Oy),h1⟩,fun s hs cs=>?_⟩;rcases mem_append.mp hs with hs|hs
    ·exact h2 s hs cs
    ·rw[mem_singleton.mp hs];rw[hb]at d;have d':¬(decide (dQ j way x r<t.2.1) || (decide (dQ j way x r=t.2.1)&&decide (r.1=.lt)))=true:=d;rw[or_eq_true,and_eq_true,decide_eq_true_iff,decide_eq_true_iff,decide_eq_true_iff]at d';have a:¬dQ j way x r<t.2.1:=fun z=>d' (.inl z);exact⟨by grind,fun e1 e2=>absurd (.inr ⟨e2,e1⟩) d'⟩
 ·rw[if_neg c];refine⟨fun e s hs=>?_,fun t e=>?_⟩
  ·rcases mem_append.mp hs with hs|hs
   ·exact h.none e s hs
   ·rw[mem_singleton.mp hs];exact c
  ·obtain⟨⟨r0,Oy,h1⟩,h2⟩:=h.some t e;refine⟨⟨r0,mem_append.mpr (.inl Oy),h1⟩,fun s hs cs=>?_⟩;rcases mem_append.mp hs with hs|hs
   ·exact h2 s hs cs
   ·rw[mem_singleton.mp hs]at cs;exact absurd cs c
theorem TS.all{j:Nat}{way:Int}{x:List Rat}:∀(rows done:List Row) (b:Option fO),TS j way x done b->TS j way x (done++rows) (rows.foldl (kz j way x) b)
 |[],done,b,h=>by rw[append_nil];exact h
 |r::rows,done,b,h=>by
  have:=TS.all rows (done++[r]) _ (h.step r);rw[append_assoc]at this;exact this
theorem jW(rows:List Row)(j:Nat)(x:List Rat)(way:Int):TS j way x rows (cf rows j x way):=by
 have:=TS.all (j:=j) (way:=way) (x:=x) rows [] none ⟨fun _ r hr=>by simp at hr,fun t e=>by cases e⟩;exact this
theorem wA:nq j 1 r↔isUp (aF n r) j:=by
 unfold nq isUp;rw[Int.one_mul];show _↔0<(ent r j:Rat)\/((ent r j:Rat)<0/\r.1=.eq);rw[jb,r9]
theorem wB:nq j (-1) r↔pJ (aF n r) j:=by
 unfold nq pJ;rw[show(-1:Int)*ent r j=-ent r j by omega];show _↔(ent r j:Rat)<0\/(0<(ent r j:Rat)/\r.1=.eq);rw[jb,r9];constructor
 ·rintro(h|⟨h,e⟩)
  ·exact .inl (by omega)
  ·exact .inr ⟨by omega,e⟩
 ·rintro(h|⟨h,e⟩)
  ·exact .inl (by omega)
  ·exact .inr ⟨by omega,e⟩
theorem Bz(hx:x.length=n+1)(hj:j<=n)(h0:x.getD j 0=0):dQ j 1 x r=Nm n (aF n r) (xf x) j:=by
 unfold dQ Nm;rw[uP hx hj h0,Int.one_mul];rfl
theorem BA(hx:x.length=n+1)(hj:j<=n)(h0:x.getD j 0=0):dQ j (-1) x r=- Nm n (aF n r) (xf x) j:=by
 unfold dQ Nm;rw[uP hx hj h0,show(-1:Int)*ent r j=-ent r j by omega,Rat.intCast_neg];show _=- (_/(ent r j:Rat));grind
def vJ (b:Option fO):Option (Bool×Rat):=b.map fun b=>(b.1,b.2.1)
def oy (b:Option fO):Option (Bool×Rat):=b.map fun b=>(b.1,0-b.2.1)
theorem zj(b:Option fO):jz (vJ b)=gI b:=by cases b<;>rfl
theorem zk(b:Option fO):jz (oy b)=gq b:=by cases b<;>rfl
theorem qw(hx:x.length=n+1)(hj:j<=n)(h0:x.getD j 0=0):Top n (rows.map (aF n)) (xf x) j (vJ (cf rows j x 1)):=by
 have T:=jW rows j x 1;refine⟨fun e r hr=>?_,fun s v e=>?_⟩
 ·obtain⟨r,cX,rfl⟩:=mem_map.mp hr;rw[<- wA];refine T.none ?_ r cX;cases h:cf rows j x 1 with
  |none=>rfl
  |some b=>rw[h]at e;cases e
 ·cases h:cf rows j x 1 with
  |none=>rw[h]at e;cases e
  |some t=>
   rw[h]at e;have e':(t.1,t.2.1)=(s,v):=Option.some.inj e;injection e' with e1 e2;obtain⟨⟨r,hr,c,k1,k2,_⟩,h2⟩:=T.some t h;refine⟨⟨aF n r,mem_map.mpr ⟨r,hr,rfl⟩,wA.mp c,?_,fun z=>?_⟩,fun r' cX hu=>?_⟩
   ·rw[<- e2,k2,Bz hx hj h0]
   ·rw[<- e1,k1]at z;exact of_decide_eq_true z
   ·obtain⟨r2,m6,rfl⟩:=mem_map.mp cX;obtain⟨a,b⟩:=h2 r2 m6 (wA.mpr hu);rw[Bz hx hj h0]at a b;rw[<- e1,<- e2];exact⟨a,b⟩
theorem qx(hx:x.length=n+1)(hj:j<=n)(h0:x.getD j 0=0):Q6 n (rows.map (aF n)) (xf x) j (oy (cf rows j x (-1))):=by
 have T:=jW rows j x (-1);refine⟨fun e r hr=>?_,fun s v e=>?_⟩
 ·obtain⟨r,cX,rfl⟩:=mem_map.mp hr;rw[<- wB];refine T.none ?_ r cX;cases h:cf rows j x (-1)with
  |none=>rfl
  |some b=>rw[h]at e;cases e
 ·cases h:cf rows j x (-1)with
  |none=>rw[h]at e;cases e
  |some t=>
   rw[h]at e;have e':(t.1,0-t.2.1)=(s,v):=Option.some.inj e;injection e' with e1 e2;obtain⟨⟨r,hr,c,k1,k2,_⟩,h2⟩:=T.some t h;refine⟨⟨aF n r,mem_map.mpr ⟨r,hr,rfl⟩,wB.mp c,?_,fun z=>?_⟩,fun r' cX hu=>?_⟩
   ·rw[<- e2,k2,BA hx hj h0];grind
   ·rw[<- e1,k1]at z;exact of_decide_eq_true z
   ·obtain⟨r2,m6,rfl⟩:=mem_map.mp cX;obtain⟨a,b⟩:=h2 r2 m6 (wB.mpr hu);rw[BA hx hj h0]at a b;rw[<- e1,<- e2];exact⟨by grind,fun p q=>b p (by grind)⟩
def choice (rows:List Row) (j:Nat) (x:List Rat):Rat:=gL (gq (cf rows j x (-1))) (gI (cf rows j x 1))
def Jh (n j:Nat) (rows Qo:List Row):Prop:=∀x:List Rat,x.length=n+1->x.getD j 0=0->(∀r∈Qo,Hd n (xf x) (aF n r))->∀r∈rows,Hd n (put (xf x) j (choice rows j x)) (aF n r)
variable {St:Nat->Bool} in
theorem BC(hR:Rs n k rows)(S:Sg n k j J St E B β (rows.map (aF n)))(hj:j<n)(hm:most=E.length+1):
  Rs n k (dg (cF n k J) j most rows)/\(∃E' B' nF,Sg n k (j+1) J St E' B' nF ((dg (cF n k J) j most rows).map (aF n))/\ja j most rows=E'.length+1)/\Jh n j rows (dg (cF n k J) j most rows):=by
 unfold dg ja;cases hq:eY j rows with
 |none=>
  have P:=zb hR S hq;have S':=S.pairs hj P;rw[show most+1=E.length+2 by omega];refine⟨Es hR hq,⟨_,_,_,S',by rw[length_cons]⟩,fun x hx h0 hh r hr=>?_⟩;have:=Gn (x:=xf x) S' S hj P (fun r hr=>by obtain⟨r,cX,rfl⟩:=mem_map.mp hr;exact hh r cX) (qw hx (by omega) h0) (qx hx (by omega) h0) (aF n r) (mem_map.mpr ⟨r,hr,rfl⟩);rw[zj,zk]at this;exact this
 |some q=>
  have G:=A0 hR S hq;have S':=S.QY hj G;refine⟨Hw hR S hq,⟨_,_,_,S',hm⟩,fun x hx h0 hh r hr=>?_⟩;have:=Gp (x:=xf x) (Nat.le_of_lt hj) G (fun r hr=>by obtain⟨r,cX,rfl⟩:=mem_map.mp hr;exact hh r cX) (fun r hr=>S'.zero r hr j (by omega)) (qw hx (by omega) h0) (qx hx (by omega) h0) (aF n r) (mem_map.mpr ⟨r,hr,rfl⟩);rw[zj,zk]at this;exact this
structure nY (n k:Nat) (P:Nat->Nat->Rat) (Bd:Nat->Rat) (p:Nat->Rat) (r:Rw):Prop where
 a:∀c,c<n->r.a c=sm k (fun i=>r.w i*P i c)-r.a n*p c
 b:r.b=sm k fun i=>r.w i*Bd i
variable {P:Nat->Nat->Rat} {Bd p:Nat->Rat}
theorem nY.jd{up lo r:Rw}(hu:nY n k P Bd p up)(hl:nY n k P Bd p lo)(h:Jd up lo r j):nY n k P Bd p r:=by
 obtain⟨μ,mp,ea,eb,ew⟩:=h.ex;have key:∀g:Nat->Rat,sm k (fun i=>r.w i*g i)=μ*(-lo.a j*sm k (fun i=>up.w i*g i)+up.a j*sm k (fun i=>lo.w i*g i)):=fun g=>by
  rw[<- bE,<- bE,<- eO,<- bE];exact aN fun i _=>by rw[ew i];grind
 refine⟨fun c hc=>?_,?_⟩
 ·rw[key,ea c,ea n,hu.a c hc,hl.a c hc];grind
 ·rw[key,eb,hu.b,hl.b]
theorem nY.wo{q r r':Rw}(hq:nY n k P Bd p q)(hr:nY n k P Bd p r)(h:Wo q r r' j):nY n k P Bd p r':=by
 obtain⟨μ,mp,ea,eb,ew⟩:=h.ex;have key:∀g:Nat->Rat,sm k (fun i=>r'.w i*g i)=μ*(sm k (fun i=>r.w i*g i)+(-(r.a j/q.a j))*sm k (fun i=>q.w i*g i)):=fun g=>by
  rw[<- bE,<- eO,<- bE];exact aN fun i _=>by rw[ew i];grind
 refine⟨fun c hc=>?_,?_⟩
 ·rw[key,ea c,ea n];generalize r.a j/q.a j=ρ;rw[hr.a c hc,hq.a c hc];grind
 ·rw[key,eb];generalize r.a j/q.a j=ρ;rw[hr.b,hq.b];grind
variable {St:Nat->Bool} in
theorem Il(hR:Rs n k rows)(S:Sg n k j J St E B β (rows.map (aF n)))(hm:most=E.length+1)(h:∀r∈rows,nY n k P Bd p (aF n r)):∀r∈dg (cF n k J) j most rows,nY n k P Bd p (aF n r):=by
 unfold dg;cases hq:eY j rows with
 |none=>
  have Pp:=zb hR S hq;rw[show most+1=E.length+2 by omega];intro r hr;rcases Pp.gC (aF n r) (mem_map.mpr ⟨r,hr,rfl⟩)with⟨h1,_⟩|⟨up,hu,lo,hl,_,_,hd⟩
  ·obtain⟨s,hs,e⟩:=mem_map.mp h1;rw[<- e];exact h s hs
  ·obtain⟨up,FQ,rfl⟩:=mem_map.mp hu;obtain⟨lo,iG,rfl⟩:=mem_map.mp hl;exact(h up FQ).jd (h lo iG) hd
 |some q=>
  have G:=A0 hR S hq;intro r hr;obtain⟨s,hs,W⟩:=G.gC (aF n r) (mem_map.mpr ⟨r,hr,rfl⟩);obtain⟨s,sG,rfl⟩:=mem_map.mp hs;exact nY.wo (h q (mem_of_find?_eq_some hq)) (h s sG) W
variable {St:Nat->Bool} in
structure Run (n k:Nat) (J St:Nat->Bool) (P:Nat->Nat->Rat) (Bd p:Nat->Rat) (j:Nat) (Ls:List (List Row)) (rows:List Row):Prop where
 len:Ls.length=n-j+1
 head:Ls.getD 0 []=rows
 ext:∀i,j+i<n->Jh n (j+i) (Ls.getD i []) (Ls.getD (i+1) [])
 last:∃E B β,Sg n k n J St E B β ((Ls.getD (n-j) []).map (aF n))
 rs:Rs n k (Ls.getD (n-j) [])
 RH:∀r∈Ls.getD (n-j) [],nY n k P Bd p (aF n r)
variable {St:Nat->Bool} in
theorem Ep{P:Nat->Nat->Rat}{Bd p:Nat->Rat}:∀(m j most:Nat) (rows:List Row) (E:List Nat) (B:Nat->Nat->Rat) (β:Nat->Rat),j+m=n->most=E.length+1->Rs n k rows->Sg n k j J St E B β (rows.map (aF n))->(∀r∈rows,nY n k P Bd p (aF n r))->
  Run n k J St P Bd p j (md (cF n k J) m j most rows) rows
 |0,j,most,rows,E,B,β,hj,hm,hR,S,hL=>by
  have e:n-j=0:=by omega
  have e2:j=n:=by omega
  subst e2;refine⟨by rw[e];rfl,rfl,fun i hi=>by omega,?_,?_,?_⟩
  ·rw[e];exact⟨E,B,β,S⟩
  ·rw[e];exact hR
  ·rw[e];exact hL
 |m+1,j,most,rows,E,B,β,hj,hm,hR,S,hL=>by
  obtain⟨WD,⟨E',B',nF,S',BQ⟩,hx⟩:=BC hR S (by omega) hm;have WO:=Il hR S hm hL;have I:=Ep m (j+1) _ _ E' B' nF (by omega) BQ WD S' WO;have e:n-j=n-(j+1)+1:=by omega
  refine⟨?_,rfl,fun i hi=>?_,?_,?_,?_⟩
  ·show(md (cF n k J) m (j+1) _ _).length+1=_;rw[I.len];omega
  ·cases i with
   |zero=>
    show Jh n (j+0) rows ((md (cF n k J) m (j+1) _ _).getD 0 []);rw[I.head];exact hx
   |succ i=>
    have:=I.ext i (by omega);rw[show j+(i+1)=j+1+i by omega];exact this
  ·rw[e];exact I.last
  ·rw[e];exact I.rs
  ·rw[e];exact I.RH
variable {m:Nat}
theorem k0(hm:m<x.length):(x.set m v).getD c 0=if c=m then v else x.getD c 0:=by
 rw[getD_eq_getElem?_getD,getD_eq_getElem?_getD];by_cases e:c=m
 ·subst e;rw[if_pos rfl,getElem?_set_self hm];rfl
 ·rw[if_neg e,getElem?_set_ne (Ne.symm e)]
variable {St:Nat->Bool} in
theorem JL{P:Nat->Nat->Rat}{Bd p:Nat->Rat}{Ls:List (List Row)}{rows:List Row}(I:Run n k J St P Bd p 0 Ls rows):∀(m:Nat) (x:List Rat),m<=n->x.length=n+1->(∀c,c<m->x.getD c 0=0)->(∀r∈Ls.getD m [],Hd n (xf x) (aF n r))->
  (eV Ls m x).length=n+1/\(eV Ls m x).getD n 0=x.getD n 0/\∀r∈rows,Hd n (xf (eV Ls m x)) (aF n r)
 |0,x,hm,hx,h0,hh=>⟨hx,rfl,by rw[<- I.head];exact hh⟩
 |m+1,x,hm,hx,h0,hh=>by
  have ex:=I.ext m (by omega);rw[zero_add]at ex;have h1:=ex x hx (h0 m (by omega)) hh;have fq:m<x.length:=by omega
  have e:xf (x.set m (choice (Ls.getD m []) m x))=put (xf x) m (choice (Ls.getD m []) m x):=funext fun c=>k0 fq;obtain⟨a,b,c⟩:=JL I m (x.set m (choice (Ls.getD m []) m x)) (by omega) (by rw[length_set];exact hx) (fun c hc=>by
   rw[k0 fq,if_neg (by omega)];exact h0 c (by omega)) (fun r hr=>by rw[e];exact h1 r hr)
  refine⟨a,?_,c⟩;show(eV Ls m (x.set m (choice (Ls.getD m []) m x))).getD n 0=_;rw[b,k0 fq,if_neg (by omega)]
abbrev Ol:=Kn×List Rat×Rat
def iP (qs:List Rat):Nat:=qs.foldl (fun m q=>lcm m q.den) 1
def whole (kd:Kn) (qs:List Rat):Row:=(kd,qs.map fun q=>q.num*((iP qs/q.den:Nat):Int))
def dJ (k i:Nat):List Rat:=(List.range k).map fun c=>if i=c then 1 else 0
def cB (k:Nat):Nat->List Ol->List Row
 |_,[]=>[]
 |i,o::os=>whole o.1 (o.2.1++[0,o.2.2]++dJ k i)::cB k (i+1) os
def fg (p:List Rat) (k:Nat):Row:=whole .eq (p.map (fun q=>0-q)++[1,0]++List.replicate k 0)
def bo (p:List Rat) (os:List Ol):List Row:=cB os.length 0 os++[fg p os.length]
def knd (os:List Ol) (i:Nat):Kn:=(os.getD i (.eq,[],0)).1
def iV (os:List Ol) (i c:Nat):Rat:=(os.getD i (.eq,[],0)).2.1.getD c 0
def kx (os:List Ol) (i:Nat):Rat:=(os.getD i (.eq,[],0)).2.2
def jO (os:List Ol) (i:Nat):Bool:=decide (knd os i≠.eq)
def sO (os:List Ol) (i:Nat):Bool:=decide (knd os i=.lt)
def bH (p:List Rat) (os:List Ol):List (List Row):=md (cF p.length os.length (jO os)) p.length 0 1 (bo p os)
theorem lcm_dvd:∀(qs:List Rat) (m:Nat),(∀q∈qs,q.den∣qs.foldl (fun m q=>lcm m q.den) m)/\m∣qs.foldl (fun m q=>lcm m q.den) m
 |[],m=>⟨fun q hq=>by simp at hq,Nat.dvd_refl m⟩
 |y::qs,m=>by
  obtain⟨h1,h2⟩:=lcm_dvd qs (lcm m y.den);rw[foldl_cons];refine⟨fun q hq=>?_,dvd_trans (Nat.dvd_lcm_left _ _) h2⟩;rcases mem_cons.mp hq with e|h
  ·rw[e];exact dvd_trans (Nat.dvd_lcm_right _ _) h2
  ·exact h1 q h
theorem lcm_pos:∀(qs:List Rat) (m:Nat),0<m->0<qs.foldl (fun m q=>lcm m q.den) m
 |[],m,h=>h
 |y::qs,m,h=>lcm_pos qs _ (Nat.lcm_pos h y.den_pos)
theorem tG(qs:List Rat):0<iP qs:=lcm_pos qs 1 (by decide)
theorem jH(q:Rat):(q.num:Rat)=q*(q.den:Rat):=by
 have e:q=(q.num:Rat)/(q.den:Rat):=by rw[<- Rat.mkRat_eq_div,mkRat_self]
 have h:(q.den:Rat)≠0:=fun z=>q.den_nz (Rat.natCast_eq_zero_iff.mp z);generalize (q.num:Rat)=a at *;generalize (q.den:Rat)=b at *;grind
variable {qs:List Rat}
theorem KS{q:Rat}(h:q∈qs):((q.num*((iP qs/q.den:Nat):Int):Int):Rat)=(iP qs:Rat)*q:=by
 obtain⟨d,hd⟩:=(lcm_dvd qs 1).1 q h;have ey:iP qs=q.den*d:=hd;have e:iP qs/q.den=d:=by rw[ey,Nat.mul_div_cancel_left _ q.den_pos]
 rw[e,intCast_mul,jH q,ey,Rat.natCast_mul];show q*(q.den:Rat)*(d:Rat)=(q.den:Rat)*(d:Rat)*q;grind
theorem i4{kd:Kn}(c:Nat):((ent (whole kd qs) c:Int):Rat)=(iP qs:Rat)*qs.getD c 0:=by
 unfold ent whole;rw[getD_eq_getElem?_getD,getD_eq_getElem?_getD,getElem?_map];cases h:qs[c]? with
 |none=>show((0:Int):Rat)=_*0;grind
 |some q=>exact KS (mem_of_getElem? h)
theorem jc{ps us:List Rat}{s:Rat}(c:Nat):(ps++[s,b]++us).getD c 0=if c<ps.length then ps.getD c 0 else if c=ps.length then s else if c=ps.length+1 then b else us.getD (c-ps.length-2) 0:=by
 rw[append_assoc];simp only[getD_eq_getElem?_getD];by_cases h:c<ps.length
 ·rw[if_pos h,getElem?_append_left h]
 ·rw[if_neg h,getElem?_append_right (by omega)];by_cases h1:c=ps.length
  ·rw[if_pos h1,h1,Nat.sub_self];rfl
  ·rw[if_neg h1];by_cases h2:c=ps.length+1
   ·rw[if_pos h2,h2,Nat.add_sub_cancel_left];rfl
   ·rw[if_neg h2,show c-ps.length=(c-ps.length-2)+2 by omega];rfl
variable {i:Nat}
theorem Hn(hc:c<k):(dJ k i).getD c 0=if i=c then 1 else 0:=by
 unfold dJ;rw[getD_eq_getElem?_getD,getElem?_map,List.getElem?_range hc];rfl
theorem p4(k i:Nat):(dJ k i).length=k:=by unfold dJ;rw[length_map,length_range]
theorem qE{f:Nat->Rat}{i:Nat}:∀{k:Nat},i<k->(∀c,c<k->c≠i->f c=0)->sm k f=f i
 |0,h,_=>by omega
 |k+1,h,hz=>by
  show sm k f+f k=f i;by_cases e:i=k
  ·subst e;rw[gT fun c hc=>hz c (by omega) (by omega)];grind
  ·rw[qE (i:=i) (by omega) fun c hc cK=>hz c (by omega) cK,hz k (by omega) (by omega)];grind
theorem rp(h:0<m):0<(m:Rat):=by
 have:((0:Nat):Rat)<(m:Rat):=Rat.natCast_lt_natCast.mpr h;exact this
structure nX (n k:Nat) (os:List Ol) (i:Nat) (r:Row):Prop where
 kd:r.1=knd os i
 len:r.2.length=n+2+k
 ex:∃M:Rat,0<M/\(∀c,c<n->(aF n r).a c=M*iV os i c)/\(aF n r).a n=0/\(aF n r).b=M*kx os i/\∀c,c<k->(aF n r).w c=if i=c then M else 0
structure DQ (n k:Nat) (p:List Rat) (r:Row):Prop where
 kd:r.1=.eq
 len:r.2.length=n+2+k
 ex:∃M:Rat,0<M/\(∀c,c<n->(aF n r).a c=- (M*p.getD c 0))/\(aF n r).a n=M/\(aF n r).b=0/\∀c,c<k->(aF n r).w c=0
variable {os:List Ol}
theorem uv{o:Ol}(ho:os[i]?=some o)(hl:o.2.1.length=n)(hk:i<k):nX n k os i (whole o.1 (o.2.1++[0,o.2.2]++dJ k i)):=by
 have e0:os.getD i (.eq,[],0)=o:=by rw[getD_eq_getElem?_getD,ho];rfl
 refine⟨by unfold knd;rw[e0];rfl,?_,(iP (o.2.1++[0,o.2.2]++dJ k i):Rat),rp (tG _),fun c hc=>?_,?_,?_,fun c hc=>?_⟩
 ·show(List.map _ _).length=_;rw[length_map,length_append,length_append,p4,hl];rfl
 ·show((ent _ c:Int):Rat)=_;rw[i4,jc,if_pos (by omega)];unfold iV;rw[e0]
 ·show((ent _ n:Int):Rat)=_;rw[i4,jc,if_neg (by omega),if_pos hl.symm];grind
 ·show((ent _ (n+1):Int):Rat)=_;rw[i4,jc,if_neg (by omega),if_neg (by omega),if_pos (by omega)];unfold kx;rw[e0]
 ·show((ent _ (n+2+c):Int):Rat)=_;rw[i4,jc,if_neg (by omega),if_neg (by omega),if_neg (by omega),show n+2+c-o.2.1.length-2=c by omega,Hn hc];split<;>grind
variable {p:List Rat}
theorem yC(k:Nat):DQ p.length k p (fg p k):=by
 have hl:(p.map (fun q=>0-q)).length=p.length:=length_map ..;refine⟨rfl,?_,(iP (p.map (fun q=>0-q)++[1,0]++List.replicate k 0):Rat),rp (tG _),fun c hc=>?_,?_,?_,fun c hc=>?_⟩
 ·show(List.map _ _).length=_;rw[length_map,length_append,length_append,length_replicate,hl];rfl
 ·show((ent (fg p k) c:Int):Rat)=_;unfold fg;rw[i4,jc,if_pos (by omega)];have:(p.map (fun q=>0-q)).getD c 0=- p.getD c 0:=by
   rw[getD_eq_getElem?_getD,getD_eq_getElem?_getD,getElem?_map];cases p[c]? with
   |none=>show(0:Rat)=-0;grind
   |some q=>show 0-q=-q;grind
  rw[this];grind
 ·show((ent (fg p k) p.length:Int):Rat)=_;unfold fg;rw[i4,jc,if_neg (by omega),if_pos hl.symm];grind
 ·show((ent (fg p k) (p.length+1):Int):Rat)=_;unfold fg;rw[i4,jc,if_neg (by omega),if_neg (by omega),if_pos (by omega)];grind
 ·show((ent (fg p k) (p.length+2+c):Int):Rat)=_;unfold fg;rw[i4,jc,if_neg (by omega),if_neg (by omega),if_neg (by omega)];have:(List.replicate k (0:Rat)).getD (p.length+2+c-(p.map (fun q=>0-q)).length-2) 0=0:=by
   rw[getD_eq_getElem?_getD,getElem?_replicate];split<;>rfl
  rw[this];grind
theorem lN{n k:Nat}{os:List Ol}:∀(l:List Ol) (i0:Nat),(∀i,i<l.length->os[i0+i]?=l[i]?)->(∀o∈l,o.2.1.length=n)->i0+l.length<=k->∀r,r∈cB k i0 l↔∃i o,i<l.length/\l[i]?=some o/\r=whole o.1 (o.2.1++[0,o.2.2]++dJ k (i0+i))
 |[],i0,_,_,_,r=>by simp[cB]
 |o::l,i0,h1,h2,h3,r=>by
  have ih:=lN (n:=n) (k:=k) (os:=os) l (i0+1) (fun i hi=>by
   have:=h1 (i+1) (by rw[length_cons];omega);rw[show i0+1+i=i0+(i+1) by omega,this];rfl) (fun o ho=>h2 o (mem_cons_of_mem _ ho)) (by rw[length_cons]at h3;omega) r
  show r∈whole o.1 (o.2.1++[0,o.2.2]++dJ k i0)::cB k (i0+1) l↔_;rw[mem_cons,ih];constructor
  ·rintro(e|⟨i,o',hi,qb,e⟩)
   ·exact⟨0,o,by rw[length_cons];omega,rfl,e⟩
   ·exact⟨i+1,o',by rw[length_cons];omega,qb,by rw[show i0+(i+1)=i0+1+i by omega];exact e⟩
  ·rintro⟨i,o',hi,qb,e⟩;cases i with
   |zero=>cases qb;exact .inl e
   |succ i=>exact .inr ⟨i,o',by rw[length_cons]at hi;omega,qb,by rw[show i0+1+i=i0+(i+1) by omega];exact e⟩
theorem jY(hl:∀o∈os,o.2.1.length=p.length)(hr:r∈bo p os):(∃i,i<os.length/\nX p.length os.length os i r)\/DQ p.length os.length p r:=by
 unfold bo at hr;rcases mem_append.mp hr with h|h
 ·obtain⟨i,o,hi,ho,e⟩:=(lN (n:=p.length) (os:=os) os 0 (fun i _=>by rw[zero_add]) hl (by omega) r).mp h;rw[zero_add]at e;exact .inl ⟨i,hi,by rw[e];exact uv ho (hl o (mem_of_getElem? ho)) hi⟩
 ·rw[mem_singleton.mp h];exact .inr (yC _)
theorem yI(hl:∀o∈os,o.2.1.length=p.length)(hi:i<os.length):∃r∈bo p os,nX p.length os.length os i r:=by
 have ho:=getElem?_eq_getElem hi;refine⟨_,mem_append.mpr (.inl ((lN (n:=p.length) (os:=os) os 0 (fun i _=>by rw[zero_add]) hl (by omega) _).mpr ⟨i,_,hi,ho,rfl⟩)),?_⟩;rw[zero_add];exact uv ho (hl _ (mem_of_getElem? ho)) hi
theorem tN(hl:∀o∈os,o.2.1.length=p.length):Rs p.length os.length (bo p os):=by
 refine⟨fun r hr=>(jY hl hr).elim (fun⟨i,hi,h⟩=>h.len) (·.len),fun r hr he=>?_⟩;have uniq:∀{r s:Row} {i:Nat},r∈bo p os->s∈bo p os->nX p.length os.length os i r->nX p.length os.length os i s->i<os.length->r=s:=by
  intro r s i hr hs h1 h2 hi

  have key:∀{t:Row},t∈bo p os->nX p.length os.length os i t->t=whole (os[i]).1 ((os[i]).2.1++[0,(os[i]).2.2]++dJ os.length i):=by
   intro t ht hT;obtain⟨M,mp,_,a1,_,w1⟩:=hT.ex;unfold bo at ht;rcases mem_append.mp ht with h|h
   ·obtain⟨i',o,gc,ho,e⟩:=(lN (n:=p.length) (os:=os) os 0 (fun i _=>by rw[zero_add]) hl (by omega) t).mp h;rw[zero_add]at e;have hR:=uv (n:=p.length) (k:=os.length) ho (hl o (mem_of_getElem? ho)) gc;rw[<- e]at hR;obtain⟨M',Fz,_,_,_,w2⟩:=hR.ex;have x1:=w1 i hi;have x2:=w2 i hi;rw[if_pos rfl]at x1;have:i'=i:=by
     apply Classical.byContradiction
     intro z;rw[if_neg z,x1]at x2;grind
    subst this;have:o=os[i']:=by
     have:=getElem?_eq_getElem gc;rw[ho]at this;exact Option.some.inj this
    rw[e,this]
   ·rw[mem_singleton.mp h]at a1;obtain⟨M',Fz,_,a2,_⟩:=(yC (p:=p) os.length).ex;rw[a1]at a2;grind
  rw[key hr h1,key hs h2]
 rcases jY hl hr with⟨i,hi,h⟩|h
 ·obtain⟨M,mp,_,_,_,w1⟩:=h.ex;refine⟨p.length+2+i,fun z=>?_,fun s hs K8 cK=>?_⟩
  ·have:=w1 i hi;rw[if_pos rfl]at this;have:(ent r (p.length+2+i):Rat)=M:=this;rw[z]at this;have:(0:Rat)=M:=this;grind
  ·rcases jY hl hs with⟨i',gc,h'⟩|h'
   ·obtain⟨M',Fz,_,_,_,w2⟩:=h'.ex;have e:=w2 i hi;have:i'≠i:=fun z=>cK (uniq hs hr (z▸h') h hi);rw[if_neg this]at e;exact bF.mp e
   ·obtain⟨M',Fz,_,_,_,w2⟩:=h'.ex;exact bF.mp (w2 i hi)
 ·obtain⟨M,mp,_,a1,_,w1⟩:=h.ex;refine⟨p.length,fun z=>?_,fun s hs K8 cK=>?_⟩
  ·have:(ent r p.length:Rat)=M:=a1;rw[z]at this;have:(0:Rat)=M:=this;grind
  ·rcases jY hl hs with⟨i',gc,h'⟩|h'
   ·obtain⟨M',Fz,_,a2,_⟩:=h'.ex;exact bF.mp a2
   ·
    exfalso;apply cK
    have key:∀{t:Row},t∈bo p os->DQ p.length os.length p t->t=fg p os.length:=by
     intro t ht hT;unfold bo at ht;rcases mem_append.mp ht with h|h
     ·obtain⟨i',o,gc,ho,e⟩:=(lN (n:=p.length) (os:=os) os 0 (fun i _=>by rw[zero_add]) hl (by omega) t).mp h;rw[zero_add]at e;have hR:=uv (n:=p.length) (k:=os.length) ho (hl o (mem_of_getElem? ho)) gc;rw[<- e]at hR;obtain⟨M',Fz,_,a3,_⟩:=hR.ex;obtain⟨M2,mp2,_,a4,_⟩:=hT.ex;rw[a3]at a4;grind
     ·exact mem_singleton.mp h
    rw[key hs h',key hr h]
theorem A5(hl:∀o∈os,o.2.1.length=p.length):Sg p.length os.length 0 (jO os) (sO os) [] (fun i c=>if c<p.length then iV os i c else 0) (kx os) ((bo p os).map (aF p.length)):=by
 have F8:∀{r:Row},r∈bo p os->r.1≠.eq->∃i,i<os.length/\nX p.length os.length os i r/\jO os i=true:=fun hr hk=>by
  rcases jY hl hr with⟨i,hi,h⟩|h
  ·refine⟨i,hi,h,?_⟩;unfold jO;rw[h.kd]at hk;exact decide_eq_true hk
  ·exact absurd h.kd hk
 have Jt:∀{r:Row} {i:Nat} {M:Rat},jO os i=true->(∀c,c<os.length->(aF p.length r).w c=if i=c then M else 0)->∀c,c<os.length->uo (jO os) (aF p.length r) c=if i=c then M else 0:=by
  intro r i M hj hw c hc;unfold uo;by_cases e:i=c
  ·subst e;rw[if_pos hj,hw i hc]
  ·rw[if_neg e];split
   ·rw[hw c hc,if_neg e]
   ·rfl
 refine⟨by omega,fun r hr c hc=>by omega,fun c hc=>by simp at hc,fun r hr he i hi hj=>?_,fun r hr he i hi hj=>?_,fun r hr he=>?_,fun r hr he=>?_,fun r hr he c hc=>?_,fun r hr he=>?_,fun u hu=>?_⟩
 ·obtain⟨r,m6,rfl⟩:=mem_map.mp hr;rcases jY hl m6 with⟨i',gc,h⟩|h
  ·obtain⟨M,mp,_,_,_,w1⟩:=h.ex;rw[w1 i hi];apply if_neg
   intro e;subst e;have h1:r.1=.eq:=he;rw[h.kd]at h1;unfold jO at hj;exact of_decide_eq_true hj h1
  ·obtain⟨M,mp,_,_,_,w1⟩:=h.ex;exact w1 i hi
 ·obtain⟨r,hr,rfl⟩:=mem_map.mp hr;obtain⟨i',gc,h,rq⟩:=F8 (by assumption) he;obtain⟨M,mp,_,_,_,w1⟩:=h.ex;rw[w1 i hi];split<;>grind
 ·obtain⟨r,hr,rfl⟩:=mem_map.mp hr;obtain⟨i',gc,h,rq⟩:=F8 (by assumption) he;obtain⟨M,mp,_,_,_,w1⟩:=h.ex;exact⟨i',gc,rq,by rw[w1 i' gc,if_pos rfl];exact mp⟩
 ·obtain⟨r,hr,rfl⟩:=mem_map.mp hr;obtain⟨i',gc,h,rq⟩:=F8 (by assumption) he;obtain⟨M,mp,_,_,_,w1⟩:=h.ex;have hk:(aF p.length r).kd=knd os i':=h.kd;rw[hk];constructor
  ·intro e;exact⟨i',gc,rq,decide_eq_true e,by rw[w1 i' gc,if_pos rfl];exact mp⟩
  ·rintro⟨i,hi,_,hs,hp⟩;rw[w1 i hi]at hp;by_cases e:i'=i
   ·subst e;exact of_decide_eq_true hs
   ·rw[if_neg e]at hp;grind
 ·obtain⟨r,hr,rfl⟩:=mem_map.mp hr;obtain⟨i',gc,h,rq⟩:=F8 (by assumption) he;obtain⟨M,mp,a1,a2,_,w1⟩:=h.ex;have e:=qE (k:=os.length) (i:=i') (f:=fun i=>uo (jO os) (aF p.length r) i*(if c<p.length then iV os i c else 0)) gc (fun c' iZ cK=>by rw[Jt rq w1 c' iZ,if_neg (Ne.symm cK)];grind);rw[e,Jt rq w1 i' gc,if_pos rfl];by_cases BU:c<p.length
  ·rw[if_pos BU,a1 c BU]
  ·rw[if_neg BU,show c=p.length by omega,a2];grind
 ·obtain⟨r,hr,rfl⟩:=mem_map.mp hr;obtain⟨i',gc,h,rq⟩:=F8 (by assumption) he;obtain⟨M,mp,_,_,b1,w1⟩:=h.ex;have e:=qE (k:=os.length) (i:=i') (f:=fun i=>uo (jO os) (aF p.length r) i*kx os i) gc (fun c' iZ cK=>by rw[Jt rq w1 c' iZ,if_neg (Ne.symm cK)];grind);rw[e,Jt rq w1 i' gc,if_pos rfl,b1]
 ·
  obtain⟨i,hi,cK⟩:=hu.ne;have hj:jO os i=true:=by
   apply Classical.byContradiction
   intro z;exact cK (hu.iw.off i hi z)
  have ce:k8 os.length (fun i=>jO os i=true) [] (fun i c=>if c<p.length then iV os i c else 0) (fun c=>if i=c then 1 else 0):=by
   refine⟨fun c hc=>?_,fun c hc hz=>if_neg fun(e:i=c)=>hz (e▸hj),fun c hc=>by simp at hc⟩;show(0:Rat)<=if i=c then 1 else 0;split<;>grind
  obtain⟨c,c0,hc⟩:=hu.alone _ ce fun i' gc z=>if_neg fun(e:i=i')=>cK (e▸z);obtain⟨r,hr,hR⟩:=yI hl hi;obtain⟨M,mp,_,_,_,w1⟩:=hR.ex;have e1:=hc i hi;rw[if_pos rfl]at e1;have cp:0<c:=by
   rcases Rat.le_iff_lt_or_eq.mp c0 with h|h
   ·exact h
   ·rw[<- h]at e1;grind
  refine⟨aF p.length r,mem_map.mpr ⟨r,hr,rfl⟩,?_,M*c,bJ mp cp,fun i' gc rq=>?_⟩
  ·show r.1≠.eq;rw[hR.kd];unfold jO at hj;exact of_decide_eq_true hj
  ·have e2:=hc i' gc;rw[w1 i' gc];split
   ·rename_i e;rw[if_pos e]at e2;rw[show M*c*u i'=M*(c*u i') by grind,<- e2];grind
   ·rename_i e;rw[if_neg e]at e2;rw[show M*c*u i'=M*(c*u i') by grind,<- e2];grind
theorem Gk(hl:∀o∈os,o.2.1.length=p.length):∀r∈bo p os,nY p.length os.length (iV os) (kx os) (fun c=>p.getD c 0) (aF p.length r):=by
 intro r hr;rcases jY hl hr with⟨i,hi,h⟩|h
 ·obtain⟨M,mp,a1,a2,b1,w1⟩:=h.ex;refine⟨fun c hc=>?_,?_⟩
  ·rw[qE (k:=os.length) (i:=i) (f:=fun i=>(aF p.length r).w i*iV os i c) hi (fun c' iZ cK=>by rw[w1 c' iZ,if_neg (Ne.symm cK)];grind),w1 i hi,if_pos rfl,a1 c hc,a2];grind
  ·rw[qE (k:=os.length) (i:=i) (f:=fun i=>(aF p.length r).w i*kx os i) hi (fun c' iZ cK=>by rw[w1 c' iZ,if_neg (Ne.symm cK)];grind),w1 i hi,if_pos rfl,b1]
 ·obtain⟨M,mp,a1,a2,b1,w1⟩:=h.ex;refine⟨fun c hc=>?_,?_⟩
  ·rw[gT (k:=os.length) (f:=fun i=>(aF p.length r).w i*iV os i c) (fun c' iZ=>by rw[w1 c' iZ];grind),a1 c hc,a2];grind
  ·rw[gT (k:=os.length) (f:=fun i=>(aF p.length r).w i*kx os i) (fun c' iZ=>by rw[w1 c' iZ];grind),b1]
theorem ue(hl:∀o∈os,o.2.1.length=p.length):Run p.length os.length (jO os) (sO os) (iV os) (kx os) (fun c=>p.getD c 0) 0 (bH p os) (bo p os):=
 Ep p.length 0 1 (bo p os) [] _ _ (by omega) rfl (tN hl) (A5 hl) (Gk hl)
def gz (strict:Bool) (β:Rat) (kt:Bool) (v:Rat):Bool:=if v=β then(!strict || kt)else decide (v<β)
def aI (p:List Rat) (os:List Ol):List Row:=(bH p os).getD p.length []
def beyond (p:List Rat) (os:List Ol) (β:Rat):List Rat:=dY (bH p os) p.length (eZ p.length (aI p os) β)
def aZ (strict:Bool) (p:List Rat) (β:Rat) (os:List Ol):Bool×List Rat:=match never p.length (aI p os)with
 |some w=>(true,w)
 |none=>match endOf p.length (aI p os) 1 with
  |none=>(false,beyond p os β)
  |some t=>if gz strict β t.1 t.2.1=true then(true,t.2.2)else(false,beyond p os β)
def gw (os:List Ol) (ws:List Rat) (c:Nat):Rat:=sm os.length fun i=>ws.getD i 0*iV os i c
def kD (os:List Ol) (ws:List Rat):Rat:=sm os.length fun i=>ws.getD i 0*kx os i
def sY (os:List Ol) (ws:List Rat):Prop:=∃i,i<os.length/\knd os i=.lt/\0<ws.getD i 0
structure Q7 (os:List Ol) (ws:List Rat):Prop where
 len:ws.length=os.length
 nn:∀i,i<os.length->knd os i≠.eq->0<=ws.getD i 0
def Right (os:List Ol) (ws:List Rat) (strict:Bool) (p:List Rat) (β:Rat):Prop:=
 Q7 os ws/\(((∀c,c<p.length->gw os ws c=p.getD c 0)/\(kD os ws<β\/(kD os ws=β/\(strict=false\/sY os ws))))\/((∀c,c<p.length->gw os ws c=0)/\(kD os ws<0\/(kD os ws=0/\sY os ws))))
def aL (p x:List Rat):Rat:=sm p.length fun c=>p.getD c 0*x.getD c 0
def bW (o:Ol) (x:List Rat):Prop:=rel o.1 (aL o.2.1 x) o.2.2
structure vF (os:List Ol) (strict:Bool) (p:List Rat) (β:Rat) (x:List Rat):Prop where
 len:x.length=p.length
 others:∀o∈os,bW o x
 line:¬rel (if strict=true then .lt else .le) (aL p x) β
theorem tO{f:Int->Rat}(f0:f 0=0):((l.drop m).map f).getD i 0=f (l.getD (m+i) 0):=by
 rw[getD_eq_getElem?_getD,getD_eq_getElem?_getD,getElem?_map,List.getElem?_drop];cases l[m+i]? with
 |none=>exact f0.symm
 |some x=>rfl
theorem V2(q:Rat):((0:Int):Rat)/q=0:=by
 show(0:Rat)/q=0;grind
theorem oY(n c:Nat):(List.replicate n (0:Rat)).getD c 0=0:=by
 rw[getD_eq_getElem?_getD,getElem?_replicate];split<;>rfl
theorem xp:mn r (List.replicate (n+1) 0)=(aF n r).b:=by
 rw[zy (n:=n) (by rw[length_replicate])];have:vl n (aF n r) (xf (List.replicate (n+1) 0))=0:=gT fun c _=>by
  show _*(List.replicate (n+1) (0:Rat)).getD c 0=0;rw[oY];grind
 rw[this];grind
structure T8 (p:List Rat) (os:List Ol) (r:Row):Prop where
 len:r.2.length=p.length+2+os.length
 sums:∀c,c<p.length->sm os.length (fun i=>(aF p.length r).w i*iV os i c)=(aF p.length r).a p.length*p.getD c 0
 bd:sm os.length (fun i=>(aF p.length r).w i*kx os i)=(aF p.length r).b
 xI:r.1=.eq->∀i,i<os.length->knd os i≠.eq->(aF p.length r).w i=0
 nn:r.1≠.eq->∀i,i<os.length->knd os i≠.eq->0<=(aF p.length r).w i
 st:r.1=.lt->∃i,i<os.length/\knd os i=.lt/\0<(aF p.length r).w i
 zero:∀c,c<p.length->(aF p.length r).a c=0
theorem FA(hl:∀o∈os,o.2.1.length=p.length)(hr:r∈aI p os):T8 p os r:=by
 have I:=ue hl;obtain⟨E,B,β,S⟩:=I.last;have L:=I.RH r (by rw[sub_zero];exact hr);have mem:aF p.length r∈((bH p os).getD (p.length-0) []).map (aF p.length):=mem_map.mpr ⟨r,by rw[sub_zero];exact hr,rfl⟩;have z:∀c,c<p.length->(aF p.length r).a c=0:=fun c hc=>S.zero _ mem c hc;refine⟨I.rs.len r (by rw[sub_zero];exact hr),fun c hc=>?_,L.b.symm,fun he i hi hk=>S.xI _ mem he i hi (decide_eq_true hk),fun he i hi hk=>S.nn _ mem he i hi (decide_eq_true hk),fun he=>?_,z⟩
 ·have:=L.a c hc;rw[z c hc]at this;grind
 ·obtain⟨i,hi,_,hs,hp⟩:=(S.st _ mem (by show r.1≠.eq;rw[he];simp)).mp he;exact⟨i,hi,of_decide_eq_true hs,hp⟩
structure PJ (p:List Rat) (os:List Ol) (ws:List Rat) (s b:Rat) (str:Bool):Prop where
 vn:Q7 os ws
 parts:∀c,c<p.length->gw os ws c=s*p.getD c 0
 bd:kD os ws=b
 st:str=true->sY os ws
variable {ws:List Rat}
theorem qR{q:Rat}(h:T8 p os r)(hlen:ws.length=os.length)(hw:∀i,i<os.length->ws.getD i 0=q*(aF p.length r).w i)(hq:0<q\/r.1=.eq):PJ p os ws (q*(aF p.length r).a p.length) (q*(aF p.length r).b) (decide (r.1=.lt)):=by
 refine⟨⟨hlen,fun i hi hk=>?_⟩,fun c hc=>?_,?_,fun e=>?_⟩
 ·rw[hw i hi];by_cases he:r.1=.eq
  ·rw[h.xI he i hi hk];grind
  ·rcases hq with hq|hq
   ·exact dz (le_of_lt hq) (h.nn he i hi hk)
   ·exact absurd hq he
 ·unfold gw;rw[aN (g:=fun i=>q*((aF p.length r).w i*iV os i c)) (fun i hi=>by rw[hw i hi];grind),bE,h.sums c hc];grind
 ·unfold kD;rw[aN (g:=fun i=>q*((aF p.length r).w i*kx os i)) (fun i hi=>by rw[hw i hi];grind),bE,h.bd]
 ·have e':=of_decide_eq_true e;obtain⟨i,hi,hk,hp⟩:=h.st e';refine⟨i,hi,hk,?_⟩;rw[hw i hi];rcases hq with hq|hq
  ·exact bJ hq hp
  ·rw[e']at hq;cases hq
theorem wx(hl:∀o∈os,o.2.1.length=p.length)(iQ:way=1\/way=-1){t:fO}(h:endOf p.length (aI p os) way=some t):PJ p os t.2.2 (way:Rat) t.2.1 t.1:=by
 obtain⟨⟨r,hr,hc,k1,k2,k3⟩,_⟩:=(jW (aI p os) p.length (List.replicate (p.length+1) 0) way).some t h;have L:=FA hl hr;have pM:way*ent r p.length≠0:=by rcases hc with hc|⟨hc,_⟩<;>omega
 have qne:((way*ent r p.length:Int):Rat)≠0:=fun z=>pM (bF.mp z);have w6:0<((way*ent r p.length:Int):Rat)⁻¹\/r.1=.eq:=by
  rcases hc with hc|⟨_,e⟩
  ·exact .inl (inv_pos.mpr (jb.mpr hc))
  ·exact .inr e
 have hlen:t.2.2.length=os.length:=by
  rw[k3];unfold nG;rw[length_map,length_drop,L.len,length_replicate];omega
 have hw:∀i,i<os.length->t.2.2.getD i 0=((way*ent r p.length:Int):Rat)⁻¹*(aF p.length r).w i:=fun i hi=>by
  rw[k3];unfold nG;rw[length_replicate,tO (V2 _)];show(ent r (p.length+1+1+i):Rat)/_=_*(ent r (p.length+2+i):Rat);rw[show p.length+1+1+i=p.length+2+i by omega];grind
 have P:=qR L hlen hw w6;have e1:((way*ent r p.length:Int):Rat)⁻¹*(aF p.length r).a p.length=(way:Rat):=by
  show((way*ent r p.length:Int):Rat)⁻¹*(ent r p.length:Rat)=(way:Rat);have a0:(ent r p.length:Rat)≠0:=fun z=>pM (by rw[bF.mp z];omega);rw[intCast_mul];rcases iQ with e|e
  ·subst e;rw[Rat.intCast_one];grind
  ·subst e;have:((-1:Int):Rat)=-1:=rfl;rw[this];grind
 have e2:((way*ent r p.length:Int):Rat)⁻¹*(aF p.length r).b=t.2.1:=by
  rw[k2];unfold dQ;rw[xp];grind
 rw[e1,e2,<- k1]at P;exact P
theorem yK{s strict:Bool}{β:Rat}(P:PJ p os ws 1 b s)(h:gz strict β s b=true):Right os ws strict p β:=by
 refine⟨P.vn,.inl ⟨fun c hc=>by rw[P.parts c hc];grind,?_⟩⟩;rw[P.bd];unfold gz at h;split at h
 ·rename_i e;refine .inr ⟨e,?_⟩;cases strict with
  |false=>exact .inl rfl
  |true=>cases s with
   |false=>simp at h
   |true=>exact .inr (P.st rfl)
 ·exact .inl (of_decide_eq_true h)
theorem AE(hl:∀o∈os,o.2.1.length=p.length)(h:never p.length (aI p os)=some ws):Q7 os ws/\(∀c,c<p.length->gw os ws c=0)/\(kD os ws<0\/(kD os ws=0/\sY os ws)):=by
 unfold never at h;cases hr:fF p.length (aI p os)with
 |some w=>
  rw[hr]at h;cases h;unfold fF at hr;obtain⟨r,hf,e⟩:∃r,(aI p os).find? (fun r=>decide (ent r p.length=0)&&cO r.1 (ent r (p.length+1):Rat))=some r/\_=ws:=by
   cases hf:(aI p os).find? (fun r=>decide (ent r p.length=0)&&cO r.1 (ent r (p.length+1):Rat))with
   |none=>rw[hf]at hr;cases hr
   |some r=>rw[hf]at hr;exact⟨r,rfl,Option.some.inj hr⟩
  have hm:=mem_of_find?_eq_some hf;have hp:=find?_some hf;rw[and_eq_true,decide_eq_true_iff]at hp;obtain⟨h0,hn⟩:=hp;have L:=FA hl hm;have hlen:ws.length=os.length:=by rw[<- e,length_map,length_drop,L.len];omega
  by_cases hw:r.1=.eq/\0<ent r (p.length+1)
  ·have zI:∀i,i<os.length->ws.getD i 0=(-1)*(aF p.length r).w i:=fun i hi=>by
    rw[<- e,if_pos hw,tO (f:=fun(w:Int)=>(((-1:Int)*w:Int):Rat)) rfl,intCast_mul];rfl
   have P:=qR L hlen zI (.inr hw.1);refine⟨P.vn,fun c hc=>?_,.inl ?_⟩
   ·rw[P.parts c hc];have:(aF p.length r).a p.length=0:=bF.mpr h0;rw[this];grind
   ·rw[P.bd];have:0<(aF p.length r).b:=jb.mpr hw.2;grind
  ·have zI:∀i,i<os.length->ws.getD i 0=1*(aF p.length r).w i:=fun i hi=>by
    rw[<- e,if_neg hw,tO (f:=fun(w:Int)=>(((1:Int)*w:Int):Rat)) rfl,intCast_mul];rfl
   have P:=qR L hlen zI (.inl (by grind));have a0:(aF p.length r).a p.length=0:=bF.mpr h0;refine⟨P.vn,fun c hc=>by rw[P.parts c hc,a0];grind,?_⟩;rw[P.bd];have eb:1*(aF p.length r).b=(ent r (p.length+1):Rat):=by show 1*(ent r (p.length+1):Rat)=_;grind
   rw[eb];cases hk:r.1 with
   |eq=>
    rw[hk]at hn;have kZ:(ent r (p.length+1):Rat)≠0:=of_decide_eq_true hn;have RX:¬0<ent r (p.length+1):=fun z=>hw ⟨hk,z⟩;have hn3:ent r (p.length+1)≠0:=fun z=>kZ (by rw[z];rfl);exact .inl (r9.mpr (by omega))
   |le=>rw[hk]at hn;exact .inl (of_decide_eq_true hn)
   |lt=>
    rw[hk]at hn;have kZ:(decide ((ent r (p.length+1):Rat)<0) || decide ((ent r (p.length+1):Rat)=0))=true:=hn;rw[or_eq_true,decide_eq_true_iff,decide_eq_true_iff]at kZ;rcases kZ with z|z
    ·exact .inl z
    ·exact .inr ⟨z,P.st (decide_eq_true hk)⟩
 |none=>
  rw[hr]at h;have h':fP p.length (aI p os)=some ws:=h;unfold fP at h';cases ht:endOf p.length (aI p os) 1 with
  |none=>rw[ht]at h';cases h'
  |some t=>
   cases hb:endOf p.length (aI p os) (-1)with
   |none=>rw[ht,hb]at h';cases h'
   |some b=>
    rw[ht,hb]at h';have h2:(if cO (if t.1=true\/b.1=true then .lt else .le) (t.2.1+b.2.1)=true then some (zipWith (fun x y=>x+y) t.2.2 b.2.2)else none)=some ws:=h';by_cases hn:cO (if t.1=true\/b.1=true then .lt else .le) (t.2.1+b.2.1)=true
    ·rw[if_pos hn]at h2;have e:=Option.some.inj h2;have Pt:=wx hl (.inl rfl) ht;have Pb:=wx hl (.inr rfl) hb;have c1:((1:Int):Rat)=1:=rfl;have c2:((-1:Int):Rat)=-1:=rfl;rw[c1]at Pt;rw[c2]at Pb;have hlen:ws.length=os.length:=by rw[<- e,length_zipWith,Pt.vn.len,Pb.vn.len,min_self]
     have hw:∀i,i<os.length->ws.getD i 0=t.2.2.getD i 0+b.2.2.getD i 0:=fun i hi=>by
      rw[<- e,getD_eq_getElem?_getD,getD_eq_getElem?_getD,getD_eq_getElem?_getD,List.getElem?_zipWith,getElem?_eq_getElem (by rw[Pt.vn.len];exact hi),getElem?_eq_getElem (by rw[Pb.vn.len];exact hi)];rfl
     have Rz:=Pt.vn.nn;have RB:=Pb.vn.nn;have hs:(t.1=true\/b.1=true)->sY os ws:=by
      rintro(z|z)
      ·obtain⟨i,hi,hk,hp⟩:=Pt.st z;have:=RB i hi (by rw[hk];simp);exact⟨i,hi,hk,by rw[hw i hi];grind⟩
      ·obtain⟨i,hi,hk,hp⟩:=Pb.st z;have:=Rz i hi (by rw[hk];simp);exact⟨i,hi,hk,by rw[hw i hi];grind⟩
     have Xl:kD os ws=t.2.1+b.2.1:=by
      rw[<- Pt.bd,<- Pb.bd];unfold kD;rw[<- eO];exact aN fun i hi=>by rw[hw i hi];grind
     refine⟨⟨hlen,fun i hi hk=>?_⟩,fun c hc=>?_,?_⟩
     ·have a:=Rz i hi hk;have b':=RB i hi hk;rw[hw i hi];grind
     ·have e1:gw os ws c=gw os t.2.2 c+gw os b.2.2 c:=by
       unfold gw;rw[<- eO];exact aN fun i hi=>by rw[hw i hi];grind
      rw[e1,Pt.parts c hc,Pb.parts c hc];grind
     ·rw[Xl];split at hn
      ·rename_i fm;have kZ:(decide (t.2.1+b.2.1<0) || decide (t.2.1+b.2.1=0))=true:=hn;rw[or_eq_true,decide_eq_true_iff,decide_eq_true_iff]at kZ;exact kZ.elim .inl fun z=>.inr ⟨z,hs fm⟩
      ·exact .inl (of_decide_eq_true hn)
    ·rw[if_neg hn]at h2;cases h2
theorem vH(n:Nat)(t:Rat):xf (List.replicate n 0++[t])=put (xf (List.replicate (n+1) 0)) n t:=funext fun c=>by
 show(List.replicate n 0++[t]).getD c 0=if c=n then t else(List.replicate (n+1) (0:Rat)).getD c 0;rw[oY,getD_eq_getElem?_getD];by_cases e:c=n
 ·rw[if_pos e,e,getElem?_append_right (by rw[length_replicate];omega),length_replicate,Nat.sub_self];rfl
 ·rw[if_neg e];by_cases h:c<n
  ·rw[getElem?_append_left (by rw[length_replicate];exact h),getElem?_replicate,if_pos h];rfl
  ·rw[List.getElem?_eq_none (by rw[length_append,length_replicate,length_singleton];omega)];rfl
theorem E8{y:Nat->Rat}(h:nX p.length os.length os i r)(hy:∀c,c<p.length->y c=x.getD c 0)(ho:(os.getD i (.eq,[],0)).2.1.length=p.length):Hd p.length y (aF p.length r)->bW (os.getD i (.eq,[],0)) x:=by
 obtain⟨M,mp,a1,a2,b1,_⟩:=h.ex;intro hd;unfold Hd at hd;have ev:vl p.length (aF p.length r) y=M*aL (os.getD i (.eq,[],0)).2.1 x:=by
  unfold vl aL;show sm p.length _+(aF p.length r).a p.length*y p.length=_;rw[a2,ho,<- bE,aN (g:=fun c=>M*(iV os i c*x.getD c 0)) (fun c hc=>by rw[a1 c hc,hy c hc];grind)];show sm p.length (fun c=>M*(iV os i c*x.getD c 0))+0*y p.length=_;have:sm p.length (fun c=>M*(iV os i c*x.getD c 0))=sm p.length fun c=>M*((os.getD i (.eq,[],0)).2.1.getD c 0*x.getD c 0):=rfl;rw[this];grind
 rw[ev,b1]at hd;have hk:(aF p.length r).kd=(os.getD i (.eq,[],0)).1:=h.kd;rw[hk]at hd;unfold bW;have hb:kx os i=(os.getD i (.eq,[],0)).2.2:=rfl;rw[hb]at hd;generalize os.getD i (.eq,[],0)=o at *;cases BR:o.1 with
 |eq=>
  rw[BR]at hd;have ey:M*aL o.2.1 x=M*o.2.2:=hd;have:M*(aL o.2.1 x-o.2.2)=0:=by grind
  show aL o.2.1 x=o.2.2;rcases mul_eq_zero.mp this with z|z<;>grind
 |le=>rw[BR]at hd;exact Rat.le_of_mul_le_mul_left hd mp
 |lt=>rw[BR]at hd;exact Rat.lt_of_mul_lt_mul_left hd (le_of_lt mp)
theorem HM(hl:∀o∈os,o.2.1.length=p.length){t:Rat}(h:∀r∈aI p os,Hd p.length (put (xf (List.replicate (p.length+1) 0)) p.length t) (aF p.length r)):
  (dY (bH p os) p.length t).length=p.length/\(∀o∈os,bW o (dY (bH p os) p.length t))/\aL p (dY (bH p os) p.length t)=t:=by
 have I:=ue hl;have h0:∀c,c<p.length->(List.replicate p.length 0++[t]).getD c 0=0:=fun c hc=>by
  have:=congrFun (vH p.length t) c;have e:(List.replicate p.length 0++[t]).getD c 0=put (xf (List.replicate (p.length+1) 0)) p.length t c:=this;rw[e];unfold put;rw[if_neg (by omega)];exact oY _ _
 obtain⟨e1,e2,e3⟩:=JL I p.length (List.replicate p.length 0++[t]) (le_refl _) (by rw[length_append,length_replicate,length_singleton]) h0 (fun r hr=>by rw[vH];exact h r hr);generalize hX:eV (bH p os) p.length (List.replicate p.length 0++[t])=X at e1 e2 e3;have hP:dY (bH p os) p.length t=X.take p.length:=by unfold dY;rw[hX]
 have hy:∀c,c<p.length->xf X c=(X.take p.length).getD c 0:=fun c hc=>by
  show X.getD c 0=_;rw[getD_eq_getElem?_getD,getD_eq_getElem?_getD,List.getElem?_take,if_pos hc]
 have et:X.getD p.length 0=t:=by
  rw[e2];have:=congrFun (vH p.length t) p.length;have e:(List.replicate p.length 0++[t]).getD p.length 0=put (xf (List.replicate (p.length+1) 0)) p.length t p.length:=this;rw[e];unfold put;rw[if_pos rfl]
 rw[hP];refine⟨by rw[length_take,e1];omega,fun o ho=>?_,?_⟩
 ·obtain⟨i,hi,e⟩:=List.getElem_of_mem ho;obtain⟨r,hr,hR⟩:=yI hl hi;have eo:os.getD i (.eq,[],0)=o:=by rw[getD_eq_getElem?_getD,getElem?_eq_getElem hi,e];rfl
  have:=E8 hR hy (by rw[eo];exact hl o ho) (e3 r hr);rw[eo]at this;exact this
 ·have hs:=e3 (fg p os.length) (by unfold bo;simp);obtain⟨M,mp,a1,a2,b1,_⟩:=(yC (p:=p) os.length).ex;unfold Hd at hs;have hk:(aF p.length (fg p os.length)).kd=.eq:=rfl;rw[hk]at hs;have sG:vl p.length (aF p.length (fg p os.length)) (xf X)=(aF p.length (fg p os.length)).b:=hs;rw[b1]at sG;have ev:vl p.length (aF p.length (fg p os.length)) (xf X)=(-M)*aL p (X.take p.length)+M*t:=by
   unfold vl aL;show sm p.length _+(aF p.length (fg p os.length)).a p.length*xf X p.length=_;rw[a2,<- bE,aN (g:=fun c=>(-M)*(p.getD c 0*(X.take p.length).getD c 0)) (fun c hc=>by rw[a1 c hc,hy c hc];grind)];show _+M*X.getD p.length 0=_;rw[et]
  rw[ev]at sG;have:M*(aL p (X.take p.length)-t)=0:=by grind
  rcases mul_eq_zero.mp this with z|z<;>grind
theorem B1(hl:∀o∈os,o.2.1.length=p.length)(hn:never p.length (aI p os)=none){t:Rat}(hu:∀s v,vJ (endOf p.length (aI p os) 1)=some (s,v)->t<=v/\(s=true->t<v))(hb:∀s v,oy (endOf p.length (aI p os) (-1))=some (s,v)->v<=t/\(s=true->v<t)):
  ∀r∈aI p os,Hd p.length (put (xf (List.replicate (p.length+1) 0)) p.length t) (aF p.length r):=by
 intro r hr;have T:=qw (n:=p.length) (j:=p.length) (rows:=aI p os) (x:=List.replicate (p.length+1) 0) (by rw[length_replicate]) (le_refl _) (oY _ _);have Bt:=qx (n:=p.length) (j:=p.length) (rows:=aI p os) (x:=List.replicate (p.length+1) 0) (by rw[length_replicate]) (le_refl _) (oY _ _);have mem:aF p.length r∈(aI p os).map (aF p.length):=mem_map.mpr ⟨r,hr,rfl⟩;have OB:fF p.length (aI p os)=none:=by
  unfold never at hn;cases h:fF p.length (aI p os)with
  |none=>rfl
  |some w=>rw[h]at hn;cases hn
 by_cases h0:ent r p.length=0
 ·have a0:(aF p.length r).a p.length=0:=bF.mpr h0;have hf:cO r.1 (ent r (p.length+1):Rat)=false:=by
   unfold fF at OB;rw[Option.map_eq_none_iff]at OB;have:=List.find?_eq_none.mp OB r hr;cases hz:cO r.1 (ent r (p.length+1):Rat)with
   |false=>rfl
   |true=>rw[hz]at this;exact absurd (by simp[h0]) this
  rw[zR (le_refl _) a0];have hv:vl p.length (aF p.length r) (xf (List.replicate (p.length+1) 0))=0:=gT fun c _=>by
   show _*(List.replicate (p.length+1) (0:Rat)).getD c 0=0;rw[oY];grind
  unfold Hd;rw[hv];show rel r.1 0 (ent r (p.length+1):Rat);generalize (ent r (p.length+1):Rat)=b at hf;cases hk:r.1 with
  |eq=>rw[hk]at hf;have:=of_decide_eq_false hf;show 0=b;grind
  |le=>rw[hk]at hf;have:=of_decide_eq_false hf;show 0<=b;grind
  |lt=>
   rw[hk]at hf;have zO:(decide (b<0) || decide (b=0))=false:=hf;rw[Bool.or_eq_false_iff,decide_eq_false_iff_not,decide_eq_false_iff_not]at zO;show 0<b;grind
 ·
  have up:isUp (aF p.length r) p.length->t<=Nm p.length (aF p.length r) (xf (List.replicate (p.length+1) 0)) p.length/\(r.1=.lt->t<Nm p.length (aF p.length r) (xf (List.replicate (p.length+1) 0)) p.length):=by
   intro hi;cases hg:vJ (endOf p.length (aI p os) 1)with
   |none=>exact absurd hi (T.none hg _ mem)
   |some g=>
    obtain⟨s,v⟩:=g;obtain⟨h1,h2⟩:=(T.some s v hg).2 _ mem hi;obtain⟨h3,h4⟩:=hu s v hg;refine⟨by grind,fun e=>?_⟩;by_cases z:Nm p.length (aF p.length r) (xf (List.replicate (p.length+1) 0)) p.length=v
    ·have:=h4 (h2 e z);grind
    ·grind
  have lo:pJ (aF p.length r) p.length->Nm p.length (aF p.length r) (xf (List.replicate (p.length+1) 0)) p.length<=t/\(r.1=.lt->Nm p.length (aF p.length r) (xf (List.replicate (p.length+1) 0)) p.length<t):=by
   intro hi;cases hg:oy (endOf p.length (aI p os) (-1))with
   |none=>exact absurd hi (Bt.none hg _ mem)
   |some g=>
    obtain⟨s,v⟩:=g;obtain⟨h1,h2⟩:=(Bt.some s v hg).2 _ mem hi;obtain⟨h3,h4⟩:=hb s v hg;refine⟨by grind,fun e=>?_⟩;by_cases z:Nm p.length (aF p.length r) (xf (List.replicate (p.length+1) 0)) p.length=v
    ·have:=h4 (h2 e z);grind
    ·grind
  have a0:(aF p.length r).a p.length≠0:=fun z=>h0 (bF.mp z);unfold Hd;by_cases hp:0<(aF p.length r).a p.length
  ·cases hk:r.1 with
   |eq=>
    have jL:(aF p.length r).kd=.eq:=hk;rw[jL];have a:=(up (.inl hp)).1;have b:=(lo (.inr ⟨hp,hk⟩)).1;exact(pU (le_refl _) a0).mpr (by grind)
   |le=>
    have jL:(aF p.length r).kd=.le:=hk;rw[jL];exact(CB (le_refl _) hp).mpr (up (.inl hp)).1
   |lt=>
    have jL:(aF p.length r).kd=.lt:=hk;rw[jL];exact(CA (le_refl _) hp).mpr ((up (.inl hp)).2 hk)
  ·have kZ:(aF p.length r).a p.length<0:=by grind
   cases hk:r.1 with
   |eq=>
    have jL:(aF p.length r).kd=.eq:=hk;rw[jL];have a:=(up (.inr ⟨kZ,hk⟩)).1;have b:=(lo (.inl kZ)).1;exact(pU (le_refl _) a0).mpr (by grind)
   |le=>
    have jL:(aF p.length r).kd=.le:=hk;rw[jL];exact(lo_le (le_refl _) kZ).mpr (lo (.inl kZ)).1
   |lt=>
    have jL:(aF p.length r).kd=.lt:=hk;rw[jL];exact(Di (le_refl _) kZ).mpr ((lo (.inl kZ)).2 hk)
theorem xN(hn:never p.length (aI p os)=none){s s':Bool}{v':Rat}(hu:vJ (endOf p.length (aI p os) 1)=some (s,v))(hb:oy (endOf p.length (aI p os) (-1))=some (s',v')):v'<=v/\(s=true\/s'=true->v'<v):=by
 have cK:fP p.length (aI p os)=none:=by
  unfold never at hn;cases h:fF p.length (aI p os)with
  |none=>rw[h]at hn;exact hn
  |some w=>rw[h]at hn;cases hn
 unfold fP at cK;cases ht:endOf p.length (aI p os) 1 with
 |none=>rw[ht]at hu;cases hu
 |some t=>
  cases xB:endOf p.length (aI p os) (-1)with
  |none=>rw[xB]at hb;cases hb
  |some b=>
   rw[ht]at hu;rw[xB]at hb;have FQ:(t.1,t.2.1)=(s,v):=Option.some.inj hu;have G7:(b.1,0-b.2.1)=(s',v'):=Option.some.inj hb;injection FQ with u1 u2;injection G7 with b1 b2;rw[ht,xB]at cK;have h2:(if cO (if t.1=true\/b.1=true then .lt else .le) (t.2.1+b.2.1)=true then some (zipWith (fun x y=>x+y) t.2.2 b.2.2)else none)=none:=cK;by_cases hz:cO (if t.1=true\/b.1=true then .lt else .le) (t.2.1+b.2.1)=true
   ·rw[if_pos hz]at h2;cases h2
   ·split at hz
    ·have zH:¬(decide (t.2.1+b.2.1<0) || decide (t.2.1+b.2.1=0))=true:=hz;rw[or_eq_true,decide_eq_true_iff,decide_eq_true_iff]at zH;have z1:¬t.2.1+b.2.1<0:=fun z=>zH (.inl z);have z2:¬t.2.1+b.2.1=0:=fun z=>zH (.inr z);exact⟨by grind,fun _=>by grind⟩
    ·rename_i fm;have z1:¬t.2.1+b.2.1<0:=fun z=>hz (decide_eq_true z);exact⟨by grind,fun z=>absurd (by rw[u1,b1];exact z) fm⟩
theorem xX(hl:∀o∈os,o.2.1.length=p.length){strict:Bool}{β:Rat}(hn:never p.length (aI p os)=none)(hk:∀t,endOf p.length (aI p os) 1=some t->gz strict β t.1 t.2.1=false):vF os strict p β (beyond p os β):=by

 have key:∀lst:Rat,β<=lst->(∀s v,oy (endOf p.length (aI p os) (-1))=some (s,v)->v<=lst/\(lst=v\/lst=β))->(oy (endOf p.length (aI p os) (-1))=none->lst=β)->
   (∀r∈aI p os,Hd p.length (put (xf (List.replicate (p.length+1) 0)) p.length (gL (some lst) (gI (endOf p.length (aI p os) 1)))) (aF p.length r))/\¬rel (if strict=true then .lt else .le) (gL (some lst) (gI (endOf p.length (aI p os) 1))) β:=by
  intro lst h1 h2 h3;cases ht:endOf p.length (aI p os) 1 with
  |none=>
   have eb:gL (some lst) (gI none)=lst+1:=rfl;rw[eb];refine⟨B1 hl hn (fun s v e=>by rw[ht]at e;cases e) (fun s v e=>?_),?_⟩
   ·obtain⟨a,_⟩:=h2 s v e;exact⟨by grind,fun _=>by grind⟩
   ·cases strict with
    |true=>show ¬lst+1<β;grind
    |false=>show ¬lst+1<=β;grind
  |some t=>
   have eb:gL (some lst) (gI (some t))=(lst+t.2.1)/2:=rfl;rw[eb];have xA:=hk t ht;have Iv:vJ (endOf p.length (aI p os) 1)=some (t.1,t.2.1):=by rw[ht];rfl
   unfold gz at xA;have dA:β<=t.2.1/\(t.2.1=β->strict=true/\t.1=false):=by
    split at xA
    ·rename_i e;refine⟨by grind,fun _=>?_⟩;cases strict with
     |false=>simp at xA
     |true=>exact⟨rfl,by simpa using xA⟩
    ·rename_i e;have:=of_decide_eq_false xA;exact⟨by grind,fun z=>absurd z e⟩
   have IA:lst<=t.2.1/\(t.1=true->lst<t.2.1):=by
    cases hb:oy (endOf p.length (aI p os) (-1))with
    |none=>
     rw[h3 hb];refine⟨dA.1,fun z=>?_⟩;have:t.2.1≠β:=fun e=>by have:=(dA.2 e).2;rw[z]at this;cases this
     have:=dA.1;grind
    |some b=>
     obtain⟨s',v'⟩:=b;obtain⟨r1,r2⟩:=xN hn Iv hb;obtain⟨q1,q2⟩:=h2 s' v' hb;rcases q2 with q2|q2
     ·rw[q2];exact⟨r1,fun z=>r2 (.inl z)⟩
     ·rw[q2];refine⟨dA.1,fun z=>?_⟩;have:t.2.1≠β:=fun e=>by have:=(dA.2 e).2;rw[z]at this;cases this
      have:=dA.1;grind
   refine⟨B1 hl hn (fun s v e=>?_) (fun s v e=>?_),?_⟩
   ·rw[Iv]at e;have e':(t.1,t.2.1)=(s,v):=Option.some.inj e;injection e' with u1 u2;rw[<- u1,<- u2];refine⟨by have:=IA.1;grind,fun z=>?_⟩;have:=IA.2 z;grind
   ·obtain⟨q1,q2⟩:=h2 s v e;have a:=IA.1;refine⟨by grind,fun z=>?_⟩;obtain⟨r1,r2⟩:=xN hn Iv e;have:=r2 (.inr z);grind
   ·cases strict with
    |true=>
     show ¬(lst+t.2.1)/2<β;have:=dA.1;grind
    |false=>
     show ¬(lst+t.2.1)/2<=β;have a:=dA.1;have b:t.2.1≠β:=fun e=>by have:=(dA.2 e).1;cases this
     grind
 have UI:∃lst:Rat,β<=lst/\(∀s v,oy (endOf p.length (aI p os) (-1))=some (s,v)->v<=lst/\(lst=v\/lst=β))/\(oy (endOf p.length (aI p os) (-1))=none->lst=β)/\eZ p.length (aI p os) β=gL (some lst) (gI (endOf p.length (aI p os) 1)):=by
  unfold eZ;cases hb:endOf p.length (aI p os) (-1)with
  |none=>exact⟨β,by grind,(fun s v e=>by cases e),fun _=>rfl,rfl⟩
  |some b=>
   by_cases c:0-b.2.1<β
   ·refine⟨β,by grind,fun s v e=>?_,fun _=>rfl,?_⟩
    ·have e':(b.1,0-b.2.1)=(s,v):=Option.some.inj e;injection e' with u1 u2;exact⟨by grind,.inr rfl⟩
    ·show gL (some (if 0-b.2.1<β then β else 0-b.2.1)) _=_;rw[if_pos c]
   ·refine⟨0-b.2.1,by grind,fun s v e=>?_,(fun e=>by cases e),?_⟩
    ·have e':(b.1,0-b.2.1)=(s,v):=Option.some.inj e;injection e' with u1 u2;exact⟨by grind,.inl u2⟩
    ·show gL (some (if 0-b.2.1<β then β else 0-b.2.1)) _=_;rw[if_neg c]
 obtain⟨lst,a1,a2,a3,a4⟩:=UI;obtain⟨b1,b2⟩:=key lst a1 a2 a3;rw[<- a4]at b1 b2;obtain⟨c1,c2,c3⟩:=HM hl b1;exact⟨c1,c2,by show ¬rel _ (aL p (dY (bH p os) p.length _)) β;rw[c3];exact b2⟩
theorem sh(hl:∀o∈os,o.2.1.length=p.length)(strict:Bool)(β:Rat):((aZ strict p β os).1=true/\Right os (aZ strict p β os).2 strict p β)\/((aZ strict p β os).1=false/\vF os strict p β (aZ strict p β os).2):=by
 unfold aZ;cases hn:never p.length (aI p os)with
 |some w=>
  obtain⟨h1,h2,h3⟩:=AE hl hn;exact .inl ⟨rfl,h1,.inr ⟨h2,h3⟩⟩
 |none=>
  cases ht:endOf p.length (aI p os) 1 with
  |none=>exact .inr ⟨rfl,xX hl hn fun t e=>by rw[ht]at e;cases e⟩
  |some t=>
   dsimp only;by_cases c:gz strict β t.1 t.2.1=true
   ·rw[if_pos c];have P:=wx hl (.inl rfl) ht;have c1:((1:Int):Rat)=1:=rfl;rw[c1]at P;exact .inl ⟨rfl,yK P c⟩
   ·rw[if_neg c];refine .inr ⟨rfl,xX hl hn fun t' e=>?_⟩;rw[ht]at e;cases e;simpa using c
end
end FM
set_option maxHeartbeats 4000000
namespace L3
noncomputable section
open PySem PySem.Spec PyProof.Rows L2
open PySem.W (Dat kqdOk)
theorem Cf(a b:Int):eqB (.int a) (.int b)=some (decide (a=b)):=by
 have h:eqB (.int a) (.int b)=if kqdOk 9 (.int a)=true/\kqdOk 9 (.int b)=true then some (lT (.int a) (.int b))else none:=rfl;rw[h,if_pos ⟨rfl,rfl⟩];congr 1
 by_cases e:a=b
 ·rw[nj (by rw[e]),decide_eq_true e]
 ·rw[nk (fun z=>e (by injection z)),decide_eq_false e]
theorem cT(a b:Int):cH (.int a) (.int b)=some (.bool (decide (a=b))):=by unfold cH;rw[Cf];rfl
theorem fA(a b:Int):fI (.int a) (.int b)=some (.bool (!decide (a=b))):=by unfold fI;rw[Cf];rfl
theorem d8(a b:Int):oj (.int a) (.int b)=some (.int (a-b)):=iW trivial
theorem cc(a b:Int):zw (.int a) (.int b)=some (.bool (decide (a<b))):=iW trivial
theorem BK(a b:Int):RI (.int a) (.int b)=some (.bool (decide (a<=b))):=iW trivial
theorem dt(a b:Int):rA (.int a) (.int b)=some (.bool (decide (b<a))):=iW trivial
theorem C0(a b:Int):Sr (.int a) (.int b)=some (.bool (decide (b<=a))):=iW trivial
variable {a b:Int}
theorem ik(h:b≠0):vX (.int a) (.int b)=some (.int (a.fmod b)):=iW h
theorem je(h:b≠0)(h2:b.natAbs.log2<9000):si (.int a) (.int b)=some (.int (a.fdiv b)):=iW ⟨h,h2⟩
theorem pH(h:IntMulOk a b):jA (.int a) (.int b)=some (.int (a*b)):=iW h
theorem cw(a b:Int):lV (.int a) (.int b)=some (.int (a+b)):=rfl
theorem fX(c:Int):DO [.int c]=some (.int (c.natAbs:Int)):=by
 show some (Dat.int (if c<0 then -c else c))=_;congr 2
 split<;>omega
variable {Γ ah:aG} {g1 g2:aG->Option Fl}
theorem ao(h:g1 Γ=some (.nx ah)):dE g1 g2 Γ=g2 ah:=by unfold dE;rw[h];rfl
variable {d:Dat}
theorem B7(h:g1 Γ=some (.rt d)):dE g1 g2 Γ=some (.rt d):=by unfold dE;rw[h];rfl
variable {i:Nat} {f:ax->Option Dat}
theorem mz(h:f (bx Γ)=some d):gU i f Γ=some (.nx (Γ.set i (some (.a7 d)))):=by unfold gU;rw[h]
variable {ft:ax->Option Bool}
theorem gQ(h:ft (bX Γ)=some true):kW ft g1 g2 Γ=g1 Γ:=by unfold kW;rw[h];rfl
theorem iT(h:ft (bX Γ)=some false):kW ft g1 g2 Γ=g2 Γ:=by unfold kW;rw[h];rfl
theorem rS(h:f (bX Γ)=some d):mO f Γ=some (.rt d):=by unfold mO;rw[h];rfl
variable {gb:aG->Option Fl} {n:Nat}
theorem yv(h:ft (bX Γ)=some false):fT ft gb (n+1) Γ=some (.nx Γ):=by show(ft (bX Γ)).bind _=_;rw[h];rfl
theorem yu(h:ft (bX Γ)=some true)(h2:gb Γ=some (.nx ah)):fT ft gb (n+1) Γ=fT ft gb n ah:=by
 show(ft (bX Γ)).bind _=_;rw[h];show(gb Γ).bind _=_;rw[h2];rfl
variable {ds:List Dat}
theorem bP{N:List Str}{g:aG->Option Fl}(h:g (d6 N ds)=some (.rt d)):jX N g ds=some d:=by unfold jX;rw[h]
open PySem PySem.Spec PyProof.Rows L2
open PySem.W (Dat kqdOk)
theorem cZ{gt:Dat->Option dk}{fe:ax->Option Dat}{qr:ax}:∀(ak out:List Dat),ak.length=out.length->(∀(i:Nat) (d o:Dat),ak[i]?=some d->out[i]?=some o->∃as,gt d=some as/\fe (l7 qr as)=some o)->c8 gt gu fe qr ak=some out
 |[],[],_,_=>rfl
 |[],_::_,h,_=>by simp at h
 |_::_,[],h,_=>by simp at h
 |d::ak,o::out,h,st=>by
  obtain⟨as,e1,e2⟩:=st 0 d o rfl rfl;have ih:=cZ ak out (by simpa using h) fun i d' o' h1 h2=>st (i+1) d' o' (by simpa using h1) (by simpa using h2);simp only[c8,e1,Option.bind_some,gu,if_true,e2,ih,map_some]
open PySem PySem.Spec PyProof.Rows L2
open PySem.W (Dat kqdOk)
theorem pS{gt:Dat->Option dk}{gb:aG->Option Fl}{β τ:Type}(enc:β->Dat)(St:τ->aG->Prop)(Q:τ->List β->Prop)(dj:τ->β->τ)(step:∀s p l Γ,Q s (p::l)->St s Γ->∃as,gt (enc p)=some as/\∃ah,gb (setG Γ as)=some (.nx ah)/\St (dj s p) ah/\Q (dj s p) l):∀(l:List β) (s:τ) (Γ:aG),Q s l->St s Γ->∃ah,forL gt gb (l.map enc) Γ=some (.nx ah)/\St (l.foldl dj s) ah
 |[],s,Γ,_,h=>⟨Γ,rfl,h⟩
 |p::l,s,Γ,q,h=>by
  obtain⟨as,e1,Γ1,e2,h1,q1⟩:=step s p l Γ q h;obtain⟨tX,e3,h2⟩:=pS enc St Q dj step l (dj s p) Γ1 q1 h1;refine⟨tX,?_,h2⟩;rw[map_cons];show(gt (enc p)).bind _=_;rw[e1];show(gb (setG Γ as)).bind _=_;rw[e2];exact e3
variable {gt:Dat->Option dk} {β τ:Type}
theorem i9(enc:β->Dat)(St:τ->aG->Prop)(Q:τ->List β->Prop)(dj:τ->β->τ){l:List β}{s:τ}(hf:f (bx Γ)=some d)(hi:cM d=some (l.map enc))(hq:Q s l)(hs:St s Γ)(step:∀s p l Γ,Q s (p::l)->St s Γ->∃as,gt (enc p)=some as/\∃ah,gb (setG Γ as)=some (.nx ah)/\St (dj s p) ah/\Q (dj s p) l):∃ah,kG gt gb f Γ=some (.nx ah)/\St (l.foldl dj s) ah:=by
 obtain⟨ah,e,h⟩:=pS (gt:=gt) (gb:=gb) enc St Q dj step l s Γ hq hs;refine⟨ah,?_,h⟩;unfold kG;rw[hf];show(cM d).bind _=_;rw[hi];exact e
theorem xE{gt:Dat->Option dk}{gb:aG->Option Fl}{β:Type}(enc:β->Dat)(I:aG->Prop)(p:β->Bool)(rt:β->Dat):∀(l:List β) (Γ:aG),I Γ->(∀x∈l,∀Γ,I Γ->∃as,gt (enc x)=some as/\if p x=true then gb (setG Γ as)=some (.rt (rt x))else ∃ah,gb (setG Γ as)=some (.nx ah)/\I ah)->
  (∃x,l.find? p=some x/\forL gt gb (l.map enc) Γ=some (.rt (rt x)))\/(l.find? p=none/\∃ah,forL gt gb (l.map enc) Γ=some (.nx ah)/\I ah)
 |[],Γ,h,_=>.inr ⟨rfl,Γ,rfl,h⟩
 |x::l,Γ,h,st=>by
  obtain⟨as,e1,e2⟩:=st x mem_cons_self Γ h;by_cases c:p x=true
  ·rw[if_pos c]at e2;refine .inl ⟨x,by rw[List.find?_cons_of_pos c],?_⟩;rw[map_cons];show(gt (enc x)).bind _=_;rw[e1];show(gb (setG Γ as)).bind _=_;rw[e2];rfl
  ·rw[if_neg c]at e2;obtain⟨Γ1,e2,h1⟩:=e2;have e3:forL gt gb ((x::l).map enc) Γ=forL gt gb (l.map enc) Γ1:=by
    rw[map_cons];show(gt (enc x)).bind _=_;rw[e1];show(gb (setG Γ as)).bind _=_;rw[e2];rfl
   rw[e3,List.find?_cons_of_neg c];exact xE enc I p rt l Γ1 h1 fun y hy=>st y (mem_cons_of_mem _ hy)
theorem xF(enc:β->Dat)(I:aG->Prop)(p:β->Bool)(rt:β->Dat){l:List β}{fl:Option β->Fl}(hf:f (bx Γ)=some d)(hi:cM d=some (l.map enc))(hs:I Γ)(st:∀x∈l,∀Γ,I Γ->∃as,gt (enc x)=some as/\if p x=true then gb (setG Γ as)=some (.rt (rt x))else ∃ah,gb (setG Γ as)=some (.nx ah)/\I ah)(h1:∀x,fl (some x)=.rt (rt x))(h2:∀ah,I ah->g2 ah=some (fl none)):
  dE (kG gt gb f) g2 Γ=some (fl (l.find? p)):=by
 have e:kG gt gb f Γ=forL gt gb (l.map enc) Γ:=by
  unfold kG;rw[hf];show(cM d).bind _=_;rw[hi];rfl
 unfold dE;rw[e];rcases xE enc I p rt l Γ hs st with⟨x,e1,e2⟩|⟨e1,ah,e2,h'⟩
 ·rw[e1,e2,h1];rfl
 ·rw[e1,e2];exact h2 ah h'
theorem gx{fl:Fl}(I:aG->Prop)(h:∃ah,g1 Γ=some (.nx ah)/\I ah)(fin:∀ah,I ah->g2 ah=some fl):dE g1 g2 Γ=some fl:=by
 obtain⟨ah,e,h⟩:=h;unfold dE;rw[e];exact fin ah h
open PySem PySem.Spec PyProof.Rows L2
open PySem.W (Dat kqdOk)
theorem jr{gt:Dat->Option dk}{ft:ax->Option Bool}{fe:ax->Option Dat}{qr:ax}{β:Type}(enc:β->Dat)(IS:β->Dat)(p:β->Bool):∀(l:List β),(∀x∈l,∃as,gt (enc x)=some as/\ft (l7 qr as)=some (p x)/\(p x=true->fe (l7 qr as)=some (IS x)))->c8 gt ft fe qr (l.map enc)=some ((l.filter p).map IS)
 |[],_=>rfl
 |x::l,h=>by
  obtain⟨as,e1,e2,e3⟩:=h x mem_cons_self;have ih:=jr enc IS p l fun y hy=>h y (mem_cons_of_mem _ hy);rw[map_cons,c8,e1,Option.bind_some,e2,Option.bind_some,filter_cons];by_cases c:p x=true
  ·rw[if_pos c,if_pos c,e3 c,Option.bind_some,ih];rfl
  ·rw[if_neg c,if_neg c];exact ih
variable {I:aG->Prop}
theorem LY{A:aG->Option Fl}{J:aG->Prop}(h:∃ah,A Γ=some (.nx ah)/\I ah)(k:∀ah,I ah->J ah):∃ah,A Γ=some (.nx ah)/\J ah:=let ⟨ah,e,i⟩:=h;⟨ah,e,k ah i⟩
open PySem PySem.Spec PyProof.Rows L2
open PySem.W (Dat kqdOk)
variable {fi:ax->Option (List Dat)}
theorem lM(enc:β->Dat)(St:τ->aG->Prop)(Q:τ->List β->Prop)(dj:τ->β->τ){l:List β}{s:τ}(hf:fi (bx Γ)=some (l.map enc))(hq:Q s l)(hs:St s Γ)(step:∀s p l Γ,Q s (p::l)->St s Γ->∃as,gt (enc p)=some as/\∃ah,gb (setG Γ as)=some (.nx ah)/\St (dj s p) ah/\Q (dj s p) l):∃ah,ma gt gb fi Γ=some (.nx ah)/\St (l.foldl dj s) ah:=by
 obtain⟨ah,e,h⟩:=pS (gt:=gt) (gb:=gb) enc St Q dj step l s Γ hq hs;refine⟨ah,?_,h⟩;unfold ma;rw[hf];exact e
variable {out:List Dat}
theorem B5{g:ax->Option (List Dat)}(h:g (bx Γ)=some out):nK i g Γ=some (.nx (Γ.set i (some (.a7 (.list out))))):=by
 unfold nK;rw[h];rfl
variable {ρ:ax}
theorem Aj{bg:List (Option Nat)}{fe:ax->Option Dat}(h:fi ρ=some ds)(hl:ds.length<sizeLine)(hc:c8 gt ft fe (gi bg ρ) ds=some out):hG bg gt ft fe fi ρ=some out:=by
 unfold hG;rw[h,Option.bind_some,if_pos hl,hc]
theorem pL{rg:List Dat->Option (List Dat)}{fs:ax->Option (List Dat)}{as:List Dat}(h:fs ρ=some as)(h2:rg as=some ds):rf rg fs ρ=some ds:=by
 unfold rf;rw[h];exact h2
end
end L3
namespace FM
noncomputable section
open PySem
theorem qV{l:List Int}{p:Nat}(h:l.getD p 0≠0):∃x∈l,x≠0:=⟨_,mem_getD h,h⟩
variable {n k j:Nat} {E:List Nat} {β:Nat->Rat} {J:Nat->Bool} {B:Nat->Nat->Rat}
variable {St:Nat->Bool} in
theorem LF{rows:List Row}(hR:Rs n k rows)(S:Sg n k j J St E B β (rows.map (aF n)))(hn:eY j rows=none):
  ∀u∈rows,∀l∈rows,0<ent u j->ent l j<0->∃x∈fU u.2 (-ent l j) l.2 (ent u j),x≠0:=by
 have mem:∀{r:Row},r∈rows->aF n r∈rows.map (aF n):=fun h=>mem_map.mpr ⟨_,h,rfl⟩;have pF:∀r∈rows,r.1=.eq->ent r j=0:=fun r hr he=>by
  have:=List.find?_eq_none.mp hn r hr;apply Classical.byContradiction
  intro z;exact this (by simp[he,z])
 have kq:∀{r:Row},r∈rows->ent r j≠0->(aF n r).kd≠.eq:=fun hr h e=>h (pF _ hr e);intro up hu lo hl pu pl;obtain⟨i,hi,hj,hp⟩:=S.pos (aF n up) (mem hu) (kq hu (by omega));have b:=S.nn (aF n lo) (mem hl) (kq hl (by omega)) i hi hj;have fQ:0<ent up (n+2+i):=jb.mp hp;have G7:0<=ent lo (n+2+i):=by
  have b':(0:Rat)<=(ent lo (n+2+i):Rat):=b;have:((0:Int):Rat)<=(ent lo (n+2+i):Rat):=b';exact Rat.intCast_le_intCast.mp this
 have h1:=mul_pos (show 0 < -ent lo j by omega) fQ;have h2:=Int.mul_nonneg (Int.le_of_lt pu) G7;refine qV (p:=n+2+i) ?_;rw[mU (by rw[hR.len up hu,hR.len lo hl])];have e1:up.2.getD (n+2+i) 0=ent up (n+2+i):=rfl;have e2:lo.2.getD (n+2+i) 0=ent lo (n+2+i):=rfl;rw[e1,e2];omega
variable {St:Nat->Bool} in
theorem Q9{rows:List Row}{q r:Row}(hR:Rs n k rows)(S:Sg n k j J St E B β (rows.map (aF n)))(hq:q∈rows)(qe:q.1=.eq)(q0:ent q j≠0)(hr:r∈rows)(cK:r≠q):
  ∃x∈fU r.2 ((ent q j).natAbs:Int) q.2 (if 0<ent q j then -ent r j else ent r j),x≠0:=by
 have mem:∀{r:Row},r∈rows->aF n r∈rows.map (aF n):=fun h=>mem_map.mpr ⟨_,h,rfl⟩;have hl:r.2.length=q.2.length:=by rw[hR.len r hr,hR.len q hq]
 have ab:((ent q j).natAbs:Int)≠0:=by omega
 by_cases he:r.1=.eq
 ·obtain⟨p,h1,h2⟩:=hR.CW r hr he;refine qV (p:=p) ?_;rw[mU hl];have e1:q.2.getD p 0=ent q p:=rfl;have e2:r.2.getD p 0=ent r p:=rfl;rw[e1,e2,h2 q hq qe (Ne.symm cK)];have:=mul_ne_zero ab h1;rw[mul_zero];omega
 ·obtain⟨i,hi,hj,hp⟩:=S.pos (aF n r) (mem hr) he;have hz:=S.xI (aF n q) (mem hq) qe i hi hj;have zH:ent q (n+2+i)=0:=bF.mp hz;have fQ:0<ent r (n+2+i):=jb.mp hp;refine qV (p:=n+2+i) ?_;rw[mU hl];have e1:q.2.getD (n+2+i) 0=ent q (n+2+i):=rfl;have e2:r.2.getD (n+2+i) 0=ent r (n+2+i):=rfl;rw[e1,e2,zH,mul_zero];have:=mul_ne_zero ab (show ent r (n+2+i)≠0 by omega);omega
def bt:Nat->Nat->Nat
 |b,0=>b
 |b,i+1=>bt (2*b+1) i
theorem pW:∀(i b:Nat),b<=bt b i
 |0,b=>le_refl _
 |i+1,b=>le_trans (by omega) (pW i (2*b+1))
def cb:Nat->Nat->Nat
 |r,0=>r
 |r,i+1=>cb (r+r*r/4) i
theorem KA:∀(i r:Nat),r<=cb r i
 |0,r=>le_refl _
 |i+1,r=>le_trans (le_add_right _ _) (KA i _)
variable {u:Nat}
theorem quarter{l r:Nat}(h:u+l<=r):u*l<=r*r/4:=by
 rw[Nat.le_div_iff_mul_le (by decide)];have h1:(u+l)*(u+l)<=r*r:=mul_le_mul h h;refine le_trans ?_ h1;rcases Nat.le_total u l with c|c
 ·obtain⟨d,rfl⟩:=Nat.exists_eq_add_of_le c;grind
 ·obtain⟨d,rfl⟩:=Nat.exists_eq_add_of_le c;grind
theorem Kr(p q:Row->Bool)(hd:∀r,p r=true->q r=false):∀l:List Row,(l.filter p).length+(l.filter q).length<=l.length
 |[]=>le_refl _
 |r::l=>by
  have ih:=Kr p q hd l;rw[filter_cons,filter_cons,length_cons];by_cases c:p r=true
  ·rw[if_pos c,hd r c,if_neg Bool.false_ne_true,length_cons];omega
  ·rw[if_neg c];split
   ·rw[length_cons];omega
   ·omega
theorem ze(rows:List Row)(j:Nat):rows.length+(rows.filter fun r=>decide (0<ent r j)).length*(rows.filter fun r=>decide (ent r j<0)).length<=rows.length+rows.length*rows.length/4:=
 Nat.add_le_add_left (quarter (Kr _ _ (fun r h=>by
  have:=of_decide_eq_true h;exact decide_eq_false (by omega)) rows)) _
theorem oO(ks:List Row)(r:Row):(ins ks r).length<=ks.length+1:=by
 unfold ins;split
 ·omega
 ·rw[length_append];exact le_refl _
theorem uX:∀(M l:List Row),(M.foldl ins l).length<=l.length+M.length
 |[],l=>le_refl _
 |r::M,l=>by
  rw[foldl_cons,length_cons];have:=uX M (ins l r);have:=oO l r;omega
theorem A4{α β:Type}(f:α->List β)(c:Nat):∀l:List α,(∀x∈l,(f x).length<=c)->(l.flatMap f).length<=l.length*c
 |[],_=>by simp
 |x::l,h=>by
  rw[List.flatMap_cons,length_append,length_cons,succ_mul];have:=A4 f c l fun y hy=>h y (mem_cons_of_mem _ hy);have:=h x mem_cons_self;omega
theorem De(rows:List Row)(j most:Nat)(aE:List Nat):(paired j aE most rows).length<=rows.length+rows.length*rows.length/4:=by
 have h1:=uX (rows.filter (fun r=>decide (ent r j=0))++pairsOf j aE most rows) [];have h2:=ze rows j;have h3:(pairsOf j aE most rows).length<=(rows.filter fun r=>decide (0<ent r j)).length*(rows.filter fun r=>decide (ent r j<0)).length:=by
  unfold pairsOf;refine A4 _ _ _ fun x _=>?_;rw[length_map];exact length_filter_le _ _
 have h4:=length_filter_le (fun r=>decide (ent r j=0)) rows;rw[length_append]at h1;unfold paired;simp only[length_nil]at h1;omega
theorem Ig(rows:List Row)(j most:Nat)(aE:List Nat):(dg aE j most rows).length<=rows.length+rows.length*rows.length/4:=by
 unfold dg;split
 ·exact De _ _ _ _
 ·rw[length_map];exact le_trans (length_filter_le _ _) (le_add_right _ _)
abbrev Nx:=List Row×Nat×List (List Row)
def dj (aE:List Nat) (s:Nx) (j:Nat):Nx:=(dg aE j s.2.1 s.1,ja j s.2.1 s.1,s.2.2++[s.1])
theorem yH(aE:List Nat):∀(m j most:Nat) (rows:List Row) (acc:List (List Row)),(((range' j m).foldl (dj aE) (rows,most,acc)).2.2++[((range' j m).foldl (dj aE) (rows,most,acc)).1])=acc++md aE m j most rows
 |0,j,most,rows,acc=>rfl
 |m+1,j,most,rows,acc=>by
  rw[List.range'_succ,foldl_cons];show(((range' (j+1) m).foldl (dj aE) (dg aE j most rows,ja j most rows,acc++[rows])).2.2++[((range' (j+1) m).foldl (dj aE) (dg aE j most rows,ja j most rows,acc++[rows])).1])=_;rw[yH aE m (j+1),append_assoc];rfl
end
end FM
namespace L3
noncomputable section
open PySem PySem.Spec PyProof.Rows L2
open PySem.W (Dat kqdOk)
variable {gb:aG->Option Fl} {β τ:Type} {Γ:aG}
theorem Gj{gt:Dat->Option dk}{rg:List Dat->Option (List Dat)}{fs:ax->Option (List Dat)}(enc:β->Dat)(St:τ->aG->Prop)(Q:τ->List β->Prop)(dj:τ->β->τ){l:List β}{s:τ}{as:List Dat}(hf:fs (bX Γ)=some as)(hr:rg as=some (l.map enc))(hq:Q s l)(hs:St s Γ)(step:∀s p l Γ,Q s (p::l)->St s Γ->∃as,gt (enc p)=some as/\∃ah,gb (setG Γ as)=some (.nx ah)/\St (dj s p) ah/\Q (dj s p) l):∃ah,CK rg gt gb fs Γ=some (.nx ah)/\St (l.foldl dj s) ah:=by
 obtain⟨ah,e,h⟩:=pS (gt:=gt) (gb:=gb) enc St Q dj step l s Γ hq hs;refine⟨ah,?_,h⟩;unfold CK;rw[hf];show(rg as).bind _=_;rw[hr];exact e
open PySem PySem.Spec PyProof.Rows L2
open PySem.W (Dat kqdOk)
variable {r:Dat}
theorem IJ{gt:Dat->Option dk}{fi:ax->Option (List Dat)}(enc:β->Dat)(St:τ->aG->Prop)(dj:τ->β->τ)(bad:β->Prop){l:List β}{s:τ}(hf:fi (bx Γ)=some (l.map enc))(hs:St s Γ)(good:∀s p Γ,¬bad p->St s Γ->∃as,gt (enc p)=some as/\∃ah,gb (setG Γ as)=some (.nx ah)/\St (dj s p) ah)(bd:∀s p Γ,bad p->St s Γ->∃as,gt (enc p)=some as/\gb (setG Γ as)=some (.rt r)):
  (∃ah,ma gt gb fi Γ=some (.nx ah)/\St (l.foldl dj s) ah/\∀p∈l,¬bad p)\/(ma gt gb fi Γ=some (.rt r)/\∃p∈l,bad p):=by
 have e:ma gt gb fi Γ=forL gt gb (l.map enc) Γ:=by unfold ma;rw[hf];rfl
 rw[e];clear e hf;induction l generalizing s Γ with
 |nil=>exact .inl ⟨Γ,rfl,hs,fun p hp=>by simp at hp⟩
 |cons p l ih=>
  rw[map_cons];by_cases c:bad p
  ·obtain⟨as,e1,e2⟩:=bd s p Γ c hs;refine .inr ⟨?_,p,mem_cons_self,c⟩;show(gt (enc p)).bind _=_;rw[e1];show(gb (setG Γ as)).bind _=_;rw[e2];rfl
  ·obtain⟨as,e1,Γ1,e2,h1⟩:=good s p Γ c hs;have e3:forL gt gb (enc p::l.map enc) Γ=forL gt gb (l.map enc) Γ1:=by
    show(gt (enc p)).bind _=_;rw[e1];show(gb (setG Γ as)).bind _=_;rw[e2];rfl
   rw[e3];rcases ih h1 with⟨ah,a,b,d⟩|⟨a,q,hq,b⟩
   ·exact .inl ⟨ah,a,b,fun q hq=>(mem_cons.mp hq).elim (fun z=>by rw[z];exact c) (d q)⟩
   ·exact .inr ⟨a,q,mem_cons_of_mem _ hq,b⟩
variable {g1 g2:aG->Option Fl} {I:aG->Prop}
theorem B6{fl:Fl}{C B:Prop}(h:(∃ah,g1 Γ=some (.nx ah)/\I ah/\C)\/(g1 Γ=some (.rt r)/\B))(k1:∀ah,C->I ah->g2 ah=some fl)(k2:B->fl=.rt r):dE g1 g2 Γ=some fl:=by
 rcases h with⟨ah,e,h,c⟩|⟨e,b⟩
 ·unfold dE;rw[e];exact k1 ah c h
 ·unfold dE;rw[e,k2 b];rfl
variable {b a:Bool} {ft gt:ax->Option Bool} {ρ:ax}
theorem mH(hf:ft ρ=some a)(hg:gt ρ=some b):cU ft gt ρ=some (a&&b):=by
 unfold cU;rw[hf];cases a
 ·rfl
 ·exact hg
theorem ng(hf:ft ρ=some a)(hg:gt ρ=some b):fu ft gt ρ=some (a || b):=by
 unfold fu;rw[hf];cases a
 ·exact hg
 ·rfl
variable {f g:ax->Option Dat}
theorem nh(hf:f ρ=some (.bool a))(hg:g ρ=some (.bool b)):ox f g ρ=some (.bool (a&&b)):=by
 unfold ox;rw[hf];cases a
 ·rfl
 ·exact hg
theorem DA(hf:f ρ=some (.bool a))(hg:g ρ=some (.bool b)):sP f g ρ=some (.bool (a || b)):=by
 unfold sP;rw[hf];cases a
 ·exact hg
 ·rfl
end
end L3
namespace FM
noncomputable section
theorem sZ{f:Nat->Rat}:∀m:Nat,sm (m+1) f=f 0+sm m (fun i=>f (i+1))
 |0=>by show(0:Rat)+f 0=f 0+0;grind
 |m+1=>by
  show sm (m+1) f+f (m+1)=f 0+(sm m (fun i=>f (i+1))+f (m+1));rw[sZ m];grind
theorem Bu(Ls:List (List Row)):∀(m:Nat) (x:List Rat) (c:Nat),m<=c->(eV Ls m x).getD c 0=x.getD c 0
 |0,x,c,_=>rfl
 |m+1,x,c,h=>by
  show(eV Ls m (x.set m _)).getD c 0=_;rw[Bu Ls m _ c (by omega)];rw[getD_eq_getElem?_getD,getElem?_set_ne (by omega),<- getD_eq_getElem?_getD]
end
end FM
namespace L3
noncomputable section
open PySem PySem.Spec PyProof.Rows L2
open PySem.W (Dat kqdOk)
variable {gt:Dat->Option dk} {gb:aG->Option Fl} {f:ax->Option Dat} {Γ:aG} {d:Dat}
theorem IK{β τ:Type}(enc:β->Dat)(St:τ->aG->Prop)(dj:τ->β->τ)(bad:β->Prop){r:Dat}{l:List β}{s:τ}(hf:f (bx Γ)=some d)(hi:cM d=some (l.map enc))(hs:St s Γ)(good:∀s p Γ,p∈l->¬bad p->St s Γ->∃as,gt (enc p)=some as/\∃ah,gb (setG Γ as)=some (.nx ah)/\St (dj s p) ah)(bd:∀s p Γ,p∈l->bad p->St s Γ->∃as,gt (enc p)=some as/\gb (setG Γ as)=some (.rt r)):
  (∃ah,kG gt gb f Γ=some (.nx ah)/\St (l.foldl dj s) ah/\∀p∈l,¬bad p)\/(kG gt gb f Γ=some (.rt r)/\∃p∈l,bad p):=by
 have e:kG gt gb f Γ=forL gt gb (l.map enc) Γ:=by
  unfold kG;rw[hf];show(cM d).bind _=_;rw[hi];rfl
 rw[e];clear e hf hi;induction l generalizing s Γ with
 |nil=>exact .inl ⟨Γ,rfl,hs,fun p hp=>by simp at hp⟩
 |cons p l ih=>
  rw[map_cons];by_cases c:bad p
  ·obtain⟨as,e1,e2⟩:=bd s p Γ mem_cons_self c hs;refine .inr ⟨?_,p,mem_cons_self,c⟩;show(gt (enc p)).bind _=_;rw[e1];show(gb (setG Γ as)).bind _=_;rw[e2];rfl
  ·obtain⟨as,e1,Γ1,e2,h1⟩:=good s p Γ mem_cons_self c hs;have e3:forL gt gb (enc p::l.map enc) Γ=forL gt gb (l.map enc) Γ1:=by
    show(gt (enc p)).bind _=_;rw[e1];show(gb (setG Γ as)).bind _=_;rw[e2];rfl
   rw[e3];rcases ih (s:=dj s p) (Γ:=Γ1) h1 (fun s q Γ hq=>good s q Γ (mem_cons_of_mem _ hq)) (fun s q Γ hq=>bd s q Γ (mem_cons_of_mem _ hq))with⟨ah,a,b,d⟩|⟨a,q,hq,b⟩
   ·exact .inl ⟨ah,a,b,fun q hq=>(mem_cons.mp hq).elim (fun z=>by rw[z];exact c) (d q)⟩
   ·exact .inr ⟨a,q,mem_cons_of_mem _ hq,b⟩
end
end L3
namespace FM
noncomputable section
variable {ws:List Rat} {β:Rat}
theorem AB{os:List Ol}{s:Bool}{p:List Rat}{x:List Rat}(hl:∀o∈os,o.2.1.length=p.length)(hr:Right os ws s p β)(hx:∀o∈os,bW o x):rel (if s=true then .lt else .le) (aL p x) β:=by
 obtain⟨ha,hr⟩:=hr;have at':∀i,i<os.length->os.getD i (.eq,[],0)∈os:=fun i hi=>by
  rw[getD_eq_getElem?_getD,getElem?_eq_getElem hi];exact List.getElem_mem _
 have hw:∀i,i<os.length->aL (os.getD i (.eq,[],0)).2.1 x=sm p.length fun c=>iV os i c*x.getD c 0:=fun i hi=>by
  unfold aL;rw[hl _ (at' i hi)];rfl
 have le:∀i,i<os.length->ws.getD i 0*aL (os.getD i (.eq,[],0)).2.1 x<=ws.getD i 0*kx os i:=fun i hi=>by
  have hh:=hx _ (at' i hi);unfold bW at hh;have nn:=ha.nn i hi;unfold knd at nn;unfold kx;cases hk:(os.getD i (.eq,[],0)).1 with
  |eq=>rw[hk]at hh;rw[show aL (os.getD i (.eq,[],0)).2.1 x=_ from hh];grind
  |le=>
   rw[hk]at hh;exact Rat.mul_le_mul_of_nonneg_left hh (nn (by rw[hk];simp))
  |lt=>
   rw[hk]at hh;exact Rat.mul_le_mul_of_nonneg_left (le_of_lt hh) (nn (by rw[hk];simp))
 have AR:sm os.length (fun i=>ws.getD i 0*aL (os.getD i (.eq,[],0)).2.1 x)=sm p.length fun c=>gw os ws c*x.getD c 0:=by
  rw[aN (g:=fun i=>sm p.length fun c=>ws.getD i 0*iV os i c*x.getD c 0) (fun i hi=>by
   rw[hw i hi,<- bE];exact aN fun c _=>by grind),vL]
  refine aN fun c _=>?_;unfold gw;rw[aN (g:=fun i=>x.getD c 0*(ws.getD i 0*iV os i c)) (fun i _=>by grind),bE];grind
 have hle:sm p.length (fun c=>gw os ws c*x.getD c 0)<=kD os ws:=by rw[<- AR];exact CH le
 have fq:sY os ws->sm p.length (fun c=>gw os ws c*x.getD c 0)<kD os ws:=fun aQ=>by
  obtain⟨i,hi,hk,hp⟩:=aQ;rw[<- AR];refine JH le ⟨i,hi,?_⟩;have hh:=hx _ (at' i hi);unfold bW at hh;unfold knd at hk;rw[hk]at hh;exact Rat.mul_lt_mul_of_pos_left hh hp
 rcases hr with⟨h1,h2⟩|⟨h1,h2⟩
 ·have e:sm p.length (fun c=>gw os ws c*x.getD c 0)=aL p x:=aN fun c hc=>by rw[h1 c hc]
  rw[e]at hle fq;rcases h2 with h2|⟨h2,h3⟩
  ·cases s with
   |true=>show aL p x<β;grind
   |false=>show aL p x<=β;grind
  ·cases s with
   |true=>
    rcases h3 with h3|h3
    ·cases h3
    ·have:=fq h3;show aL p x<β;grind
   |false=>show aL p x<=β;grind
 ·exfalso;have e:sm p.length (fun c=>gw os ws c*x.getD c 0)=0:=gT fun c hc=>by rw[h1 c hc];grind
  rw[e]at hle fq;rcases h2 with h2|⟨h2,h3⟩
  ·grind
  ·have:=fq h3;grind
end
end FM
namespace L3
noncomputable section
open PySem PySem.Spec PyProof.Rows L2
open PySem.W (Dat kqdOk)
theorem C7{gt:Dat->Option dk}{gb:aG->Option Fl}(I:aG->Prop):∀{ds:List Dat} {Γ:aG},I Γ->(∀d∈ds,∀Γ,I Γ->∃as ah,gt d=some as/\gb (setG Γ as)=some (.nx ah)/\I ah)->∃ah,forL gt gb ds Γ=some (.nx ah)/\I ah
 |[],Γ,h,_=>⟨Γ,rfl,h⟩
 |d::ds,Γ,h,st=>by
  obtain⟨as,Γ1,e1,e2,h1⟩:=st d mem_cons_self Γ h;obtain⟨tX,e3,h2⟩:=C7 I (ds:=ds) h1 fun d hd=>st d (mem_cons_of_mem _ hd);refine⟨tX,?_,h2⟩;show(gt d).bind _=_;rw[e1];show(gb (setG Γ as)).bind _=_;rw[e2];exact e3
variable {gt:Dat->Option dk} {gb:aG->Option Fl} {ds:List Dat} {Γ:aG}
theorem OU{f:ax->Option Dat}(I:aG->Prop){d:Dat}(hf:f (bx Γ)=some d)(hi:cM d=some ds)(h0:I Γ)(st:∀d∈ds,∀Γ,I Γ->∃as ah,gt d=some as/\gb (setG Γ as)=some (.nx ah)/\I ah):∃ah,kG gt gb f Γ=some (.nx ah)/\I ah:=by
 obtain⟨ah,e,h⟩:=C7 I (gt:=gt) (gb:=gb) h0 st;refine⟨ah,?_,h⟩;unfold kG;rw[hf];show(cM d).bind _=_;rw[hi];exact e
end
end L3
namespace K19
noncomputable section
open PySem PySem.Spec PyProof.Rows L2 L3
open PySem.W (Dat kqdOk)
local macro_rules | `(tactic| simp! [$xs,*]) => `(tactic| simp only [jX, d6, dE, gU, kW, mO, ic, qF, bc, gh, L3.f2, L3.f1, aA, fC, ay, bp, dH, lr, ia, fZ, vd, ox, sP, rF, cU, fu, ir, bx, bX, lQ, og, lb, List.map_cons, List.map_nil, List.getElem?_cons_zero, List.getElem?_cons_succ, Option.join_some, Option.bind_some, Option.map_some, List.set_cons_zero, List.set_cons_succ, List.length_cons, List.length_nil, List.cons_append, List.nil_append, List.replicate, Nat.add_sub_cancel, Nat.zero_add, Nat.reduceAdd, Nat.reduceSub, if_true, if_false, Bool.false_eq_true, Bool.not_true, Bool.not_false, decide_true, decide_false, reduceIte, reduceCtorEq, Nat.reduceEqDiff, Nat.reduceLeDiff, vO, mN, fT, t9, nU, gd, aO, fL, nV, cM, c8, aName, l7, gi, List.foldl_cons, List.foldl_nil, Option.map_none, Option.bind_none, List.isEmpty, List.reverse_cons, List.reverse_nil, and_self, and_true, true_and, Option.some.injEq, lz, gS, ny, setG, List.append_nil, kK, L3.h2, v8, tL, pR, IE, v9, OQ, rz, runM, startM, uk, CL, CI, CJ, yG, DB, ma, Oe, rf, Dl, dN, hL, En, iB, List.length_set, List.append_eq, $xs,*])
local macro_rules | `(tactic| dsimp! [$xs,*]) => `(tactic| simp only [jX, d6, dE, gU, kW, mO, ic, qF, bc, gh, L3.f2, L3.f1, aA, fC, ay, bp, dH, lr, ia, fZ, vd, ox, sP, rF, cU, fu, ir, bx, bX, lQ, og, lb, List.map_cons, List.map_nil, List.getElem?_cons_zero, List.getElem?_cons_succ, Option.join_some, Option.bind_some, Option.map_some, List.set_cons_zero, List.set_cons_succ, List.length_cons, List.length_nil, List.cons_append, List.nil_append, List.replicate, Nat.add_sub_cancel, Nat.zero_add, Nat.reduceAdd, Nat.reduceSub, if_true, if_false, Bool.false_eq_true, Bool.not_true, Bool.not_false, decide_true, decide_false, reduceIte, reduceCtorEq, Nat.reduceEqDiff, Nat.reduceLeDiff, vO, mN, fT, t9, nU, gd, fL, nV, cM, c8, aName, l7, gi, List.foldl_cons, List.foldl_nil, Option.map_none, Option.bind_none, List.isEmpty, List.reverse_cons, List.reverse_nil, and_self, and_true, true_and, Option.some.injEq, lz, gS, ny, setG, List.append_nil, kK, L3.h2, v8, tL, pR, IE, v9, OQ, rz, runM, startM, uk, CL, CI, CJ, yG, DB, ma, Oe, rf, Dl, dN, hL, En, iB, List.length_set, List.append_eq, $xs,*])
local macro_rules | `(tactic| simp!) => `(tactic| simp only [d6, List.map_cons, List.map_nil, List.length_cons, List.length_nil, List.cons_append, List.nil_append, List.replicate])
local macro_rules | `(tactic| dsimp!) => `(tactic| simp only [setG, List.foldl_cons, List.foldl_nil, List.set_cons_succ, List.set_cons_zero])
def top (i:Nat):Stmt:=PySem.Challenge.pw_stepjudge_k19_one_unknown.main.body.getD i (.Pass ⟨0,0,0,0⟩)
structure TX (mg:Str->Option Value):Prop where
 abs:mg "abs"=none
 len:mg "len"=none
 int:mg "int"=none
 isinstance:mg "isinstance"=none
 tuple:mg "tuple"=none
 bool:mg "bool"=none
 range:mg "range"=none
 zip:mg "zip"=none
 list:mg "list"=none
 str:mg "str"=none
 all:mg "all"=none
 enumerate:mg "enumerate"=none
 max:mg "max"=none
theorem sz{n:Nat}(h:n<=1000):n<=sizeLine:=Nat.le_of_lt (wZ h)
def q5:List Dat->Option Dat
 |[.int a,.int b]=>if 0<=a/\0<=b then some (.int (gcd a b))else none
 |_=>none
def R0:aG->Nat
 |_::some (.a7 (.int b))::_=>b.natAbs+1
 |_=>0
abbrev Sz:ax->Option Bool:=bc (f2 fI (aA 1) (fC (Dat.int 0)))
abbrev SA:aG->Option Fl:=dE (gU 2 (f2 vX (aA 0) (aA 1))) (dE (gU 0 (aA 1)) (gU 1 (aA 2)))
theorem GP(x z:Option Slot)(b:Int)(r:aG):Sz (bX (x::some (.a7 (.int b))::r))=some (!decide (b=0)):=by
 show(fI (.int b) (.int 0)).bind lQ=_;rw[fA];rfl
theorem Cs:∀(n:Nat) (a b:Int) (r:Option Slot),0<=a->0<=b->b.natAbs<n->∃r',fT Sz SA n [some (.a7 (.int a)),some (.a7 (.int b)),r]=some (.nx [some (.a7 (.int (gcd a b))),some (.a7 (.int 0)),r'])
 |0,_,_,_,_,_,h=>by omega
 |n+1,a,b,r,ha,hb,h=>by
  by_cases e:b=0
  ·subst e;refine⟨r,?_⟩;rw[yv (by rw[GP _ none];rfl)];congr
   rw[Int.gcd_zero];omega
  ·have xy:0<=a.fmod b:=Int.fmod_nonneg_of_pos a (by omega);have hm1:a.fmod b<b:=Int.fmod_lt_of_pos a (by omega);have hbody:SA [some (.a7 (.int a)),some (.a7 (.int b)),r]=some (.nx [some (.a7 (.int b)),some (.a7 (.int (a.fmod b))),some (.a7 (.int (a.fmod b)))]):=by
    refine(ao (mz (d:=.int (a.fmod b)) (ik e))).trans ?_;refine(ao (mz (d:=.int b) rfl)).trans ?_;exact mz (d:=.int (a.fmod b)) rfl
   obtain⟨r',q⟩:=Cs n b (a.fmod b) _ hb xy (by omega);refine⟨r',?_⟩;rw[yu (by rw[GP _ none,decide_eq_false e];rfl) hbody,q,Fr.zZ a b (by omega)]
variable {K:Fg} {base:Heap} {mg:Str->Option Value} {w:World} {P:Program}
theorem V3(T:TX mg)(U:FnAt K mg "common_divisor" (top 1) ["a","b"]):Dn P w K mg base 1 "common_divisor" ["a","b"] 2 q5:=by
 obtain⟨f,fd,U,hm,hB⟩:=U.ex;have nd:(["a","b","rest"]:List Str).Nodup:=by decide +kernel
 refine iC U hm hB (N:=["a","b","rest"]) ⟨rfl,rfl,rfl,by decide +kernel,rfl,by decide +kernel,by decide +kernel⟩ rfl (fun bG A outer s H E hr=>
  (ae (uB R0 PassesOwn.never (dm hr (a5 1) a8) (ae (az 2 nd (jm (a5 0) (a5 1)))
  (ae (az 0 nd (a5 1))
  (ag (az 1 nd (a5 2))))))
  (ag (ar (a5 0))))) ?_
 intro ds d hl hF;unfold q5 at hF;split at hF
 ·rename_i a b;split at hF
  ·rename_i h;cases hF;obtain⟨r',q⟩:=Cs (b.natAbs+1) a b none h.1 h.2 (by omega);refine bP ?_;refine(ao q).trans ?_;exact rS rfl
  ·cases hF
 ·cases hF
def ji:List Dat->Option Dat
 |[.int n,.int d]=>if d≠0/\d.natAbs.log2<9000 then some (.tuple [.int (Fr.num n d),.int (Fr.den n d)])else none
 |_=>none
theorem LP{a b:Nat}(h:a<=b):a.log2<=b.log2:=by
 by_cases ha:a=0
 ·subst ha;exact zero_le _
 ·rw[Nat.le_log2 (by omega)];exact le_trans (Nat.log2_self_le ha) h
theorem Pg(T:TX mg)(gH:Dn P w K mg base 1 "common_divisor" ["a","b"] 2 q5)(U:FnAt K mg "make" (top 2) ["n","d"]):Dn P w K mg base 2 "make" ["n","d"] 2 ji:=by
 obtain⟨f,fd,U,hm,hB⟩:=U.ex;have nd:(["n","d","divisor"]:List Str).Nodup:=by decide +kernel
 refine iC U hm hB (N:=["n","d","divisor"]) ⟨rfl,rfl,rfl,by decide +kernel,rfl,by decide +kernel,by decide +kernel⟩ rfl (fun bG A outer s H E hr=>
  (ae (az 2 nd (aw gH hr (a6 (kg T.abs (a6 (a5 0) a9)) (a6 (kg T.abs (a6 (a5 1) a9)) a9))))
  (ae (aM (kc (a5 1) a8) (ag (az 2 nd (dr (a5 2)))) aH)
  (ag (ar (aS (k:=0) (a6 (ie (a5 0) (a5 2)) (a6 (ie (a5 1) (a5 2)) a9)))))))) ?_
 intro ds d' hl hF;unfold ji at hF;split at hF
 ·rename_i n d;split at hF
  ·rename_i h;cases hF;have e1:q5 [.int (n.natAbs:Int),.int (d.natAbs:Int)]=some (.int (gcd n d)):=by
    have z:q5 [.int (n.natAbs:Int),.int (d.natAbs:Int)]=if 0<=(n.natAbs:Int)/\0<=(d.natAbs:Int)then some (.int (gcd (n.natAbs:Int) (d.natAbs:Int)))else none:=rfl;rw[z,if_pos ⟨Int.natCast_nonneg _,Int.natCast_nonneg _⟩];simp[gcd]
   have hb:(Fr.dv n d).natAbs.log2<9000:=by
    rw[Fr.vh];refine lt_of_le_of_lt (LP ?_) h.2;have:=gcd_dvd_right n d;have:=Int.natAbs_dvd_natAbs.mpr this;exact le_of_dvd (by omega) (by simpa using this)
   have q1:si (.int n) (.int (Fr.dv n d))=some (.int (Fr.num n d)):=iW ⟨Fr.Ky h.1,hb⟩;have q2:si (.int d) (.int (Fr.dv n d))=some (.int (Fr.den n d)):=iW ⟨Fr.Ky h.1,hb⟩;have z2:2<=sizeLine:=sz (by decide);by_cases hd:d<0
   ·have e2: -(gcd n d:Int)=Fr.dv n d:=by unfold Fr.dv;exact(if_pos hd).symm
    simp only[jX,d6,dE,gU,kW,mO,ic,qF,bc,gh,f2,f1,aA,fC,ay,bp,dH,lr,ia,fZ,vd,ox,sP,rF,cU,fu,ir,bx,bX,lQ,og,lb,map_cons,map_nil,getElem?_cons_zero,getElem?_cons_succ,Option.join_some,Option.bind_some,map_some,set_cons_zero,set_cons_succ,length_cons,length_nil,cons_append,nil_append,List.replicate,add_sub_cancel,zero_add,reduceAdd,reduceSub,if_true,if_false,false_eq_true,Bool.not_true,Bool.not_false,decide_true,decide_false,reduceIte,reduceCtorEq,reduceEqDiff,reduceLeDiff,fX,e1,cc,hd,e2,q1,q2,z2]
   ·have e2:(gcd n d:Int)=Fr.dv n d:=by unfold Fr.dv;exact(if_neg hd).symm
    simp only[jX,d6,dE,gU,kW,mO,ic,qF,bc,gh,f2,f1,aA,fC,ay,bp,dH,lr,ia,fZ,vd,ox,sP,rF,cU,fu,ir,bx,bX,lQ,og,lb,map_cons,map_nil,getElem?_cons_zero,getElem?_cons_succ,Option.join_some,Option.bind_some,map_some,set_cons_zero,set_cons_succ,length_cons,length_nil,cons_append,nil_append,List.replicate,add_sub_cancel,zero_add,reduceAdd,reduceSub,if_true,if_false,false_eq_true,Bool.not_true,Bool.not_false,decide_true,decide_false,reduceIte,reduceCtorEq,reduceEqDiff,reduceLeDiff,fX,e1,cc,hd,e2,q1,q2,z2]
  ·cases hF
 ·cases hF
variable {k:Nat}
theorem log2_small{n:Nat}(hk:0<k)(h:n<2^k):n.log2<k:=by
 by_cases e:n=0
 ·subst e;simpa using hk
 ·exact(Nat.log2_lt e).mpr h
theorem lP(a b:Dat):gF [a,b] 0=some a:=rfl
theorem lO(a b:Dat):gF [a,b] 1=some b:=rfl
variable {b:Int}
theorem mG(a:Int)(h:0<b):0<=a.fmod b/\a.fmod b<b:=⟨Int.fmod_nonneg_of_pos a h,Int.fmod_lt_of_pos a h⟩
theorem mulR(a:Int)(h1: -(2^64)<b)(h2:b<2^64):jA (.int a) (.int b)=some (.int (a*b)):=pH (.of_right (intBits_le_64 h1 h2))
variable {a:Int}
theorem mulL(b:Int)(h1: -(2^64)<a)(h2:a<2^64):jA (.int a) (.int b)=some (.int (a*b)):=pH (.of_left (intBits_le_64 h1 h2))
theorem JO:ph (.int 10) (.int 18)=some (.int (10^18)):=iW (by unfold wO;decide)
theorem CZ:ph (.int 10) (.int 30)=some (.int (10^30)):=iW (by unfold wO;decide)
theorem IP{d:Dat}(h:kqdOk 9 d=true)(h1:∀b,d≠.bool b)(h2:∀b,d≠.str b):eqB d d=some true:=by
 unfold eqB;split
 ·exact absurd rfl (h1 _)
 ·exact absurd rfl (h2 _)
 ·rw[if_pos ⟨h,h⟩,nj rfl]
theorem bits_le{x:Int}(hk:0<k)(h:x.natAbs<2^k):Builtin.Int.intBits x<=k:=by
 have:=log2_small hk h;unfold Builtin.Int.intBits;split
 ·exact zero_le _
 ·omega
theorem Ii(b:Bool):fI (.bool b) (.bool b)=some (.bool false):=by
 show some (Dat.bool (!(b==b)))=_;simp
structure Md (x:Int):Prop where
 lt:x.natAbs<2^4000
theorem pw(a b:Nat):2^a*2^b=2^(a+b):=(pow_add 2 a b).symm
theorem Md.mul(ha:Md a)(hb:Md b):(a*b).natAbs<2^8000:=by
 rw[natAbs_mul];have h:=Nat.mul_lt_mul'' ha.lt hb.lt;rw[pw]at h;exact h
theorem mulM(ha:Md a)(hb:Md b):jA (.int a) (.int b)=some (.int (a*b)):=
 pH (.of_le (bits_le (k:=4000) (by decide) ha.lt) (bits_le (k:=4000) (by decide) hb.lt) (by decide))
theorem Dg(ha:a.natAbs<2^9000)(hb:b.natAbs<2^9000):jA (.int a) (.int b)=some (.int (a*b)):=
 pH (.of_le (bits_le (k:=9000) (by decide) ha) (bits_le (k:=9000) (by decide) hb) (by decide))
variable {n:Int}
theorem oM{d:Int}(h:d≠0)(hb:d.natAbs<2^8000):ji [.int n,.int d]=some (.tuple [.int (Fr.num n d),.int (Fr.den n d)]):=
 if_pos ⟨h,lt_trans (log2_small (k:=8000) (by decide) hb) (by decide)⟩
structure Gd (p q:Int):Prop where
 pos:0<q
 Ai:gcd p q=1
 mp:Md p
 mq:Md q
abbrev fr (p q:Int):Dat:=.tuple [.int p,.int q]
def two (ds:List Dat):Option (Int×Int×Int×Int):=match ds with
 |[.tuple [.int p,.int q],.tuple [.int r,.int s]]=>some (p,q,r,s)
 |_=>none
def lF (g:Int->Int->Int->Int->Option Dat):List Dat->Option Dat:=open Classical in fun ds=>match ds with
 |[.tuple [.int p,.int q],.tuple [.int r,.int s]]=>if Gd p q/\Gd r s then g p q r s else none
 |_=>none
variable {p:Int}
theorem nC{g:Int->Int->Int->Int->Option Dat}{q r s:Int}(h:Gd p q)(h':Gd r s):lF g [fr p q,fr r s]=g p q r s:=by
 unfold lF;exact if_pos ⟨h,h'⟩
abbrev mk (n d:Int):Dat:=fr (Fr.num n d) (Fr.den n d)
abbrev iK:=lF fun p q r s=>some (mk (p*s+r*q) (q*s))
abbrev fE:=lF fun p q r s=>some (mk (p*s-r*q) (q*s))
abbrev gm:=lF fun p q r s=>some (mk (p*r) (q*s))
abbrev oW:=lF fun p q r s=>if r≠0 then some (mk (p*s) (q*r))else none
abbrev d5:=lF fun p q r s=>some (.bool (decide (p*s<r*q)))
variable {ds:List Dat}
theorem fw{g:Int->Int->Int->Int->Option Dat}{d:Dat}(h:lF g ds=some d):∃p q r s,ds=[fr p q,fr r s]/\Gd p q/\Gd r s/\g p q r s=some d:=by
 unfold lF at h;split at h
 ·split at h
  ·rename_i hc;exact⟨_,_,_,_,rfl,hc.1,hc.2,h⟩
  ·cases h
 ·cases h
theorem Pd(T:TX mg)(lG:Dn P w K mg base 2 "make" ["n","d"] 2 ji)(U:FnAt K mg "plus" (top 3) ["a","b"]):Dn P w K mg base 3 "plus" ["a","b"] 2 iK:=by
 obtain⟨f,fd,U,hm,hB⟩:=U.ex;have nd:(["a","b"]:List Str).Nodup:=by decide +kernel
 refine iC U hm hB (N:=["a","b"]) ⟨rfl,rfl,rfl,by decide +kernel,rfl,by decide +kernel,by decide +kernel⟩ rfl (fun bG A outer s H E hr=>
  (ag (ar (aw lG hr (a6 (dX (bQ (af (a5 0) a8) (af (a5 1) a8)) (bQ (af (a5 1) a8) (af (a5 0) a8))) (a6 (bQ (af (a5 0) a8) (af (a5 1) a8)) a9)))))) ?_
 intro ds d hl hF;obtain⟨p,q,r,s,rfl,g1,g2,e⟩:=fw hF;have z:=mul_ne_zero (ne_of_gt g1.pos) (ne_of_gt g2.pos);cases e;simp only[jX,d6,dE,gU,kW,mO,ic,qF,bc,gh,f2,f1,aA,fC,ay,bp,dH,lr,ia,fZ,vd,ox,sP,rF,cU,fu,ir,bx,bX,lQ,og,lb,map_cons,map_nil,getElem?_cons_zero,getElem?_cons_succ,Option.join_some,Option.bind_some,map_some,set_cons_zero,set_cons_succ,length_cons,length_nil,cons_append,nil_append,List.replicate,add_sub_cancel,zero_add,reduceAdd,reduceSub,if_true,if_false,false_eq_true,Bool.not_true,Bool.not_false,decide_true,decide_false,reduceIte,reduceCtorEq,reduceEqDiff,reduceLeDiff,vO,mN,fT,t9,nU,gd,aO,fL,nV,cM,c8,aName,l7,gi,foldl_cons,foldl_nil,map_none,bind_none,isEmpty,List.reverse_cons,List.reverse_nil,and_self,and_true,true_and,Option.some.injEq,lz,gS,ny,setG,append_nil,fr,lP,lO,cw,d8,cc,mulM g1.mp g2.mq,mulM g2.mp g1.mq,mulM g1.mq g2.mq,mulM g1.mp g2.mp,mulM g1.mq g2.mp,oM z (g1.mq.mul g2.mq)]
theorem M9(T:TX mg)(lG:Dn P w K mg base 2 "make" ["n","d"] 2 ji)(U:FnAt K mg "times" (top 5) ["a","b"]):Dn P w K mg base 3 "times" ["a","b"] 2 gm:=by
 obtain⟨f,fd,U,hm,hB⟩:=U.ex;have nd:(["a","b"]:List Str).Nodup:=by decide +kernel
 refine iC U hm hB (N:=["a","b"]) ⟨rfl,rfl,rfl,by decide +kernel,rfl,by decide +kernel,by decide +kernel⟩ rfl (fun bG A outer s H E hr=>
  (ag (ar (aw lG hr (a6 (bQ (af (a5 0) a8) (af (a5 1) a8)) (a6 (bQ (af (a5 0) a8) (af (a5 1) a8)) a9)))))) ?_
 intro ds d hl hF;obtain⟨p,q,r,s,rfl,g1,g2,e⟩:=fw hF;have z:=mul_ne_zero (ne_of_gt g1.pos) (ne_of_gt g2.pos);cases e;simp only[jX,d6,dE,gU,kW,mO,ic,qF,bc,gh,f2,f1,aA,fC,ay,bp,dH,lr,ia,fZ,vd,ox,sP,rF,cU,fu,ir,bx,bX,lQ,og,lb,map_cons,map_nil,getElem?_cons_zero,getElem?_cons_succ,Option.join_some,Option.bind_some,map_some,set_cons_zero,set_cons_succ,length_cons,length_nil,cons_append,nil_append,List.replicate,add_sub_cancel,zero_add,reduceAdd,reduceSub,if_true,if_false,false_eq_true,Bool.not_true,Bool.not_false,decide_true,decide_false,reduceIte,reduceCtorEq,reduceEqDiff,reduceLeDiff,vO,mN,fT,t9,nU,gd,aO,fL,nV,cM,c8,aName,l7,gi,foldl_cons,foldl_nil,map_none,bind_none,isEmpty,List.reverse_cons,List.reverse_nil,and_self,and_true,true_and,Option.some.injEq,lz,gS,ny,setG,append_nil,fr,lP,lO,cw,d8,cc,mulM g1.mp g2.mq,mulM g2.mp g1.mq,mulM g1.mq g2.mq,mulM g1.mp g2.mp,mulM g1.mq g2.mp,oM z (g1.mq.mul g2.mq)]
theorem Mt(T:TX mg)(lG:Dn P w K mg base 2 "make" ["n","d"] 2 ji)(U:FnAt K mg "below" (top 7) ["a","b"]):Dn P w K mg base 3 "below" ["a","b"] 2 d5:=by
 obtain⟨f,fd,U,hm,hB⟩:=U.ex;have nd:(["a","b"]:List Str).Nodup:=by decide +kernel
 refine iC U hm hB (N:=["a","b"]) ⟨rfl,rfl,rfl,by decide +kernel,rfl,by decide +kernel,by decide +kernel⟩ rfl (fun bG A outer s H E hr=>
  (ag (ar (uE (bQ (af (a5 0) a8) (af (a5 1) a8)) (bQ (af (a5 1) a8) (af (a5 0) a8)))))) ?_
 intro ds d hl hF;obtain⟨p,q,r,s,rfl,g1,g2,e⟩:=fw hF;have z:=mul_ne_zero (ne_of_gt g1.pos) (ne_of_gt g2.pos);cases e;simp only[jX,d6,dE,gU,kW,mO,ic,qF,bc,gh,f2,f1,aA,fC,ay,bp,dH,lr,ia,fZ,vd,ox,sP,rF,cU,fu,ir,bx,bX,lQ,og,lb,map_cons,map_nil,getElem?_cons_zero,getElem?_cons_succ,Option.join_some,Option.bind_some,map_some,set_cons_zero,set_cons_succ,length_cons,length_nil,cons_append,nil_append,List.replicate,add_sub_cancel,zero_add,reduceAdd,reduceSub,if_true,if_false,false_eq_true,Bool.not_true,Bool.not_false,decide_true,decide_false,reduceIte,reduceCtorEq,reduceEqDiff,reduceLeDiff,vO,mN,fT,t9,nU,gd,aO,fL,nV,cM,c8,aName,l7,gi,foldl_cons,foldl_nil,map_none,bind_none,isEmpty,List.reverse_cons,List.reverse_nil,and_self,and_true,true_and,Option.some.injEq,lz,gS,ny,setG,append_nil,fr,lP,lO,cw,d8,cc,mulM g1.mp g2.mq,mulM g2.mp g1.mq,mulM g1.mq g2.mq,mulM g1.mp g2.mp,mulM g1.mq g2.mp]
abbrev R:=Int×Int
abbrev rD (r:R):List Dat:=[.int r.1,.int r.2]
def kP (r:R):Prop:=0<=r.2/\r.2<2147483648
instance (r:R):Decidable (kP r):=inferInstanceAs (Decidable (_/\_))
def nI (b:Int):Int:=(b*48271+11).fmod 2147483647
def kC (b:Int):Int:=(nI b*nI b).fmod 2147483629
def tk (r:R) (m:Int):Int:=if 10^18<=r.1 then r.1.fmod m else(((kC r.2*69621).fmod 2147483587).fdiv 8).fmod m
def tr (r:R) (m:Int):R:=if 10^18<=r.1 then(r.1.fdiv m,r.2)else(r.1,nI r.2)
variable {m:Int}
theorem jj(r:R)(h:0<m):0<=tk r m/\tk r m<m:=by
 unfold tk;split
 ·exact mG _ h
 ·exact mG _ h
theorem Eg(b:Int):0<=nI b/\nI b<2147483647:=mG _ (by decide)
theorem MX(b:Int):0<=kC b/\kC b<2147483629:=mG _ (by decide)
theorem gP{r:R}(h:kP r):kP (tr r m):=by
 unfold tr;split
 ·exact h
 ·have:=Eg r.2;exact⟨this.1,by show nI r.2<_;omega⟩
def jR:List Dat->List Dat->Option (Dat×List Dat)
 |[.int a,.int b],[.int m]=>if kP (a,b)/\0<m/\m<2^200 then some (.int (tk (a,b) m),rD (tr (a,b) m))else none
 |_,_=>none
theorem dI{r:R}(h:kP r)(h1:0<m)(h2:m<2^200):jR [.int r.1,.int r.2] [.int m]=some (.int (tk r m),[.int (tr r m).1,.int (tr r m).2]):=if_pos ⟨h,h1,h2⟩
theorem NZ(h1:0<m)(h2:m<2^200):m.natAbs.log2<9000:=lt_trans (log2_small (k:=200) (by decide) (by omega)) (by decide)
theorem Pc(T:TX mg)(U:FnAt K mg "_law_reel" (top 44) ["cell"]):
  y0 P w K mg base 1 "_law_reel" ["cell"] 1 (fun ds=>match ds with|[.int c]=>some (rD ((c.natAbs:Int),((c.fmod 2147483647+1)*742938285).fmod 2147483647))|_=>none):=by
 obtain⟨f,fd,U,hm,hB⟩:=U.ex;have nd:(["cell"]:List Str).Nodup:=by decide +kernel
 refine Lk U hm hB (N:=["cell"]) ⟨rfl,rfl,rfl,by decide +kernel,rfl,by decide +kernel,by decide +kernel⟩ rfl rfl (fun bG A outer s H E hr=>
  j6 (a6 (kg T.abs (a6 (a5 0) a9)) (a6 (jm (bQ (dX (jm (a5 0) a8) a8) a8) a8) a9))) ?_
 intro ds out hl hF;split at hF
 ·rename_i c;cases hF;have e1:=ik (a:=c) (b:=2147483647) (by decide);have e2:=mulR (c.fmod 2147483647+1) (b:=742938285) (by decide) (by decide);have e3:=ik (a:=(c.fmod 2147483647+1)*742938285) (b:=2147483647) (by decide);have z2:2<=sizeLine:=sz (by decide);simp![fX,e1,e2,e3,cw,z2]
 ·cases hF
theorem Pa(T:TX mg)(U:FnAt K mg "_law_take" (top 45) ["reel","many"]):jS P w K mg base 1 "_law_take" ["reel","many"] 2 jR:=by
 obtain⟨f,fd,U,hm,hB⟩:=U.ex;have nd:(["reel","many","found","stir"]:List Str).Nodup:=by decide +kernel
 refine rV U hm hB (N:=["reel","many","found","stir"]) ⟨rfl,rfl,rfl,by decide +kernel,rfl,by decide +kernel,by decide +kernel⟩ rfl (fun bG A outer s H E hr=>
  (ae (aM (Li (af (a5 0) a8) (mD a8 a8)) (ae (az 2 nd (jm (af (a5 0) a8) (a5 1)))
  (ae (uC 0 (bf (ie (af (a5 0) a8) (a5 1))))
  (ag (i6 (bf (a5 2)))))) aH)
  (ae (uC 0 (bf (jm (dX (bQ (af (a5 0) a8) a8) a8) a8)))
  (ae (az 3 nd (jm (bQ (af (a5 0) a8) (af (a5 0) a8)) a8))
  (ag (i6 (bf (jm (ie (jm (bQ (a5 3) a8) a8) a8) (a5 1))))))))) ?_
 intro ds es d f9 hl hF;unfold jR at hF;split at hF
 ·rename_i a b m;split at hF
  ·rename_i h;obtain⟨hR,h1,h2⟩:=h;have xy:m≠0:=by omega
   have i0:∀x y:Dat,gF [x,y] 0=some x:=fun _ _=>rfl;have i1:∀x y:Dat,gF [x,y] 1=some y:=fun _ _=>rfl;have n0:mX 2 0=some 0:=rfl;have n1:mX 2 1=some 1:=rfl;by_cases BZ:(10:Int)^18<=a
   ·have t1:tk (a,b) m=a.fmod m:=by unfold tk;exact if_pos BZ
    have t2:tr (a,b) m=(a.fdiv m,b):=by unfold tr;exact if_pos BZ
    rw[t1,t2]at hF;cases hF;have e1:=ik (a:=a) (b:=m) xy;have e2:=je (a:=a) (b:=m) xy (NZ h1 h2);simp![i0,i1,JO,C0,e1,e2,eq_true BZ,n0,n1]
   ·have t1:tk (a,b) m=(((kC b*69621).fmod 2147483587).fdiv 8).fmod m:=by unfold tk;exact if_neg BZ
    have t2:tr (a,b) m=(a,nI b):=by unfold tr;exact if_neg BZ
    rw[t1,t2]at hF;cases hF;have b1:=Eg b;have b2:=MX b;have e1:=mulR b (b:=48271) (by decide) (by decide);have e2:vX (.int (b*48271+11)) (.int 2147483647)=some (.int (nI b)):=ik (by decide);have e3:jA (.int (nI b)) (.int (nI b))=some (.int (nI b*nI b)):=mulR _ (by omega) (by omega);have e4:vX (.int (nI b*nI b)) (.int 2147483629)=some (.int (kC b)):=ik (by decide);have e5:=mulR (kC b) (b:=69621) (by decide) (by decide);have e6:=ik (a:=kC b*69621) (b:=2147483587) (by decide);have e7:=je (a:=(kC b*69621).fmod 2147483587) (b:=8) (by decide) (by decide);have e8:=ik (a:=((kC b*69621).fmod 2147483587).fdiv 8) (b:=m) xy;simp![i0,i1,JO,C0,cw,e1,e2,e3,e4,e5,e6,e7,e8,eq_false BZ,n0,n1]
  ·cases hF
 ·cases hF
def iM:List Dat->Option Dat
 |[.int n,.int d]=>if 0<d/\d.natAbs<2^8000 then some (mk n d)else none
 |_=>none
theorem lh{d:Int}(h:0<d)(hb:d.natAbs<2^8000):iM [.int n,.int d]=some (mk n d):=if_pos ⟨h,hb⟩
def Kp:aG->Nat
 |_::some (.a7 (.int d))::_=>d.natAbs+1
 |_=>0
abbrev O3:ax->Option Bool:=bc (f2 fI (aA 3) (fC (Dat.int 0)))
abbrev O4:aG->Option Fl:=Hu 2 3 (ay (aA 3) (ay (f2 vX (aA 2) (aA 3)) bp))
theorem BJ(x y:Option Slot):∀(n:Nat) (a b:Int),0<=a->0<=b->b.natAbs<n->fT O3 O4 n [x,y,some (.a7 (.int a)),some (.a7 (.int b))]=some (.nx [x,y,some (.a7 (.int (gcd a b))),some (.a7 (.int 0))])
 |0,a,b,_,_,h=>by omega
 |n+1,a,b,ha,hb,h=>by
  have eT:∀b:Int,O3 (bX [x,y,some (.a7 (.int a)),some (.a7 (.int b))])=some (!decide (b=0)):=fun b=>by
   show(fI (.int b) (.int 0)).bind lQ=_;rw[fA];rfl
  by_cases e:b=0
  ·subst e;rw[yv (by rw[eT];rfl)];have:((gcd a 0:Nat):Int)=a:=by rw[Int.gcd_zero_right];omega
   rw[this]
  ·have hp:0<b:=by omega
   have bd:=mG a hp;have e1:O4 [x,y,some (.a7 (.int a)),some (.a7 (.int b))]=some (.nx [x,y,some (.a7 (.int b)),some (.a7 (.int (a.fmod b)))]):=by
    have em:=ik (a:=a) (b:=b) e;simp![Hu,em]
   rw[yu (by rw[eT,decide_eq_false e];rfl) e1,BJ x y n b (a.fmod b) hb bd.1 (by omega),Fr.zZ a b hp]
theorem Ml(T:TX mg)(U:FnAt K mg "_law_make" (top 46) ["n","d"]):Dn P w K mg base 1 "_law_make" ["n","d"] 2 iM:=by
 obtain⟨f,fd,U,hm,hB⟩:=U.ex;have nd:(["n","d","one","other"]:List Str).Nodup:=by decide +kernel
 refine iC U hm hB (N:=["n","d","one","other"]) ⟨rfl,rfl,rfl,by decide +kernel,rfl,by decide +kernel,by decide +kernel⟩ rfl (fun bG A outer s H E hr=>
  (ae (az 2 nd (kg T.abs (a6 (a5 0) a9)))
  (ae (az 3 nd (a5 1))
  (ae (uB Kp PassesOwn.never (dm hr (a5 3) a8) (ag (Hz 2 3 rfl nd (by decide) (a6 (a5 3) (a6 (jm (a5 2) (a5 3)) a9)))))
  (ag (ar (aS (k:=0) (a6 (ie (a5 0) (a5 2)) (a6 (ie (a5 1) (a5 2)) a9))))))))) ?_
 intro ds r hl hF;unfold iM at hF;split at hF
 ·rename_i n d;split at hF
  ·rename_i h;obtain⟨h1,h2⟩:=h;cases hF;have g0:gcd (n.natAbs:Int) d=gcd n d:=by
    unfold gcd;rw[natAbs_natCast]
   have hl:=BJ (some (.a7 (.int n))) (some (.a7 (.int d))) (d.natAbs+1) n.natAbs d (by omega) (by omega) (by omega);rw[g0]at hl;have hw:mN Kp O3 O4 [some (.a7 (.int n)),some (.a7 (.int d)),some (.a7 (.int n.natAbs)),some (.a7 (.int d))]=_:=hl;have gp:=Fr.mF (n:=n) (d:=d) (by omega);have gl:gcd n d<=d.natAbs:=le_of_dvd (by omega) (Int.ofNat_dvd_left.mp (gcd_dvd_right n d));have lg:(gcd n d:Int).natAbs.log2<9000:=lt_trans (log2_small (k:=8000) (by decide) (by rw[natAbs_natCast];exact lt_of_le_of_lt gl h2)) (by decide);have e1:=je (a:=n) (b:=(gcd n d:Int)) (by omega) lg;have e2:=je (a:=d) (b:=(gcd n d:Int)) (by omega) lg;have en:n.fdiv (gcd n d:Int)=Fr.num n d:=by unfold Fr.num Fr.dv;rw[if_neg (by omega)]
   have ed:d.fdiv (gcd n d:Int)=Fr.den n d:=by unfold Fr.den Fr.dv;rw[if_neg (by omega)]
   rw[en]at e1;rw[ed]at e2;have z2:2<=sizeLine:=sz (by decide);refine bP ?_;simp!;rw[ao (ah:=[some (.a7 (.int n)),some (.a7 (.int d)),some (.a7 (.int n.natAbs)),none]) (by simp![fX])];rw[ao (ah:=[some (.a7 (.int n)),some (.a7 (.int d)),some (.a7 (.int n.natAbs)),some (.a7 (.int d))]) (by simp![if_true])];rw[ao (ah:=[some (.a7 (.int n)),some (.a7 (.int d)),some (.a7 (.int (gcd n d))),some (.a7 (.int 0))]) hw];simp![e1,e2,z2]
  ·cases hF
 ·cases hF
abbrev Mx:=lF fun p q r s=>some (mk (p*s+r*q) (q*s))
theorem Mk(T:TX mg)(iN:Dn P w K mg base 1 "_law_make" ["n","d"] 2 iM)(U:FnAt K mg "_law_plus" (top 47) ["a","b"]):Dn P w K mg base 2 "_law_plus" ["a","b"] 2 Mx:=by
 obtain⟨f,fd,U,hm,hB⟩:=U.ex;have nd:(["a","b"]:List Str).Nodup:=by decide +kernel
 refine iC U hm hB (N:=["a","b"]) ⟨rfl,rfl,rfl,by decide +kernel,rfl,by decide +kernel,by decide +kernel⟩ rfl (fun bG A outer s H E hr=>
  (ag (ar (aw iN hr (a6 (dX (bQ (af (a5 0) a8) (af (a5 1) a8)) (bQ (af (a5 1) a8) (af (a5 0) a8))) (a6 (bQ (af (a5 0) a8) (af (a5 1) a8)) a9)))))) ?_
 intro ds d hl hF;obtain⟨p,q,r,s,rfl,g1,g2,e⟩:=fw hF;have z:=mul_pos g1.pos g2.pos;cases e;simp![lP,lO,mulM g1.mp g2.mq,mulM g2.mp g1.mq,mulM g1.mq g2.mq,cw,lh z (g1.mq.mul g2.mq)]
abbrev kr (x:Int×Int):Dat:=fr x.1 x.2
structure Sm (x:Int×Int):Prop where
 pos:0<x.2
 Ai:gcd x.1 x.2=1
 ln:x.1.natAbs<2^100
 ld:x.2.natAbs<2^100
def eX (r:R) (g:Bool):(Int×Int)×R:=
 if tk r 8<4 then((tk (tr r 8) 7-3,1),tr (tr r 8) 7)
 else if tk r 8=4 then((0,1),tr r 8)
 else if tk r 8=7/\g=true then
  ((Fr.num (tk (tr r 8) (10^30)*(if tk (tr (tr r 8) (10^30)) 2=0 then 1 else -1)) (1+tk (tr (tr (tr r 8) (10^30)) 2) (10^29)),Fr.den (tk (tr r 8) (10^30)*(if tk (tr (tr r 8) (10^30)) 2=0 then 1 else -1)) (1+tk (tr (tr (tr r 8) (10^30)) 2) (10^29))),tr (tr (tr (tr r 8) (10^30)) 2) (10^29))
 else((Fr.num (tk (tr r 8) 41-20) (1+tk (tr (tr r 8) 41) 12),Fr.den (tk (tr r 8) 41-20) (1+tk (tr (tr r 8) 41) 12)),tr (tr (tr r 8) 41) 12)
theorem B3{d:Int}(h:0<d)(hn:n.natAbs<2^100)(hd:d.natAbs<2^100):Sm (Fr.num n d,Fr.den n d):=
 ⟨Fr.den_pos (by omega),Fr.Ai (by omega),lt_of_le_of_lt (Fr.vq (by omega)) hn,lt_of_le_of_lt (Fr.vt (by omega)) hd⟩
variable {g:Bool}
theorem wg{r:R}(h:kP r):Sm (eX r g).1/\kP (eX r g).2:=by
 have o1:=gP (m:=8) h;unfold eX;split
 ·have b:=jj (tr r 8) (m:=7) (by decide);exact⟨⟨show(0:Int)<1 by decide,Int.gcd_one_right _,by show(tk (tr r 8) 7-3).natAbs<_;omega,show(1:Int).natAbs<2^100 by decide⟩,gP o1⟩
 ·split
  ·exact⟨⟨show(0:Int)<1 by decide,show gcd 0 1=1 by decide,show(0:Int).natAbs<2^100 by decide,show(1:Int).natAbs<2^100 by decide⟩,o1⟩
  ·split
   ·have b1:=jj (tr r 8) (m:=10^30) (by decide);have b2:=jj (tr (tr (tr r 8) (10^30)) 2) (m:=10^29) (by decide);refine⟨B3 (by omega) ?_ (by omega),gP (gP (gP o1))⟩;split
    ·rw[Int.mul_one];omega
    ·rw[Int.mul_neg,Int.mul_one,natAbs_neg];omega
   ·have b1:=jj (tr r 8) (m:=41) (by decide);have b2:=jj (tr (tr r 8) 41) (m:=12) (by decide);exact⟨B3 (by omega) (by omega) (by omega),gP (gP o1)⟩
def rM:List Dat->List Dat->Option (Dat×List Dat)
 |[.int a,.int b],[.bool g]=>if kP (a,b)then some (kr (eX (a,b) g).1,rD (eX (a,b) g).2)else none
 |_,_=>none
theorem xZ{r:R}(h:kP r):rM [.int r.1,.int r.2] [.bool g]=some (kr (eX r g).1,rD (eX r g).2):=if_pos h
theorem Qu:ph (.int 10) (.int 29)=some (.int (10^29)):=iW (by unfold wO;decide)
theorem Pr(T:TX mg)(eh:jS P w K mg base 1 "_law_take" ["reel","many"] 2 jR)(iN:Dn P w K mg base 1 "_law_make" ["n","d"] 2 iM)(U:FnAt K mg "_law_fraction" (top 52) ["reel","great"]):jS P w K mg base 2 "_law_fraction" ["reel","great"] 2 rM:=by
 obtain⟨f,fd,U,hm,hB⟩:=U.ex;have nd:(["reel","great","way","number"]:List Str).Nodup:=by decide +kernel
 refine rV U hm hB (N:=["reel","great","way","number"]) ⟨rfl,rfl,rfl,by decide +kernel,rfl,by decide +kernel,by decide +kernel⟩ rfl (fun bG A outer s H E hr=>
  (ae (i5 2 nd (dU 0 eh hr (bB (bf a8) cv)))
  (ae (aM (kc (a5 2) a8) (ag (i6 (Bf (bB (Bg (dU 0 eh hr (bB (bf a8) cv)) (bf a8)) (bB (bf a8) cv))))) aH)
  (ae (aM (bV hr (a5 2) a8) (ag (i6 (bf (aS (k:=0) (a6 a8 (a6 a8 a9)))))) aH)
  (ae (aM (bO (cQ (bV hr (a5 2) a8) (cP (bb (a5 1))))) (ae (i5 3 nd (Lg (dU 0 eh hr (bB (bf (mD a8 a8)) cv)) (yN (bf (gV (a6 a8 (a6 (dr a8) a9)))) (dU 0 eh hr (bB (bf a8) cv)))))
  (ag (i6 (EF iN hr (bB (bf (a5 3)) (bB (vR (bf a8) (dU 0 eh hr (bB (bf (mD a8 a8)) cv))) cv)))))) aH)
  (ag (i6 (EF iN hr (bB (Bg (dU 0 eh hr (bB (bf a8) cv)) (bf a8)) (bB (vR (bf a8) (dU 0 eh hr (bB (bf a8) cv))) cv)))))))))) ?_
 intro ds es d f9 hl hF;unfold rM at hF;split at hF
 ·rename_i a b g;split at hF
  ·rename_i hR;have o1:=gP (m:=8) hR;have f8:=dI (m:=8) hR (by decide) (by decide);have z2:2<=sizeLine:=sz (by decide);by_cases c4:tk (a,b) 8<4
   ·have ef:eX (a,b) g=((tk (tr (a,b) 8) 7-3,1),tr (tr (a,b) 8) 7):=by unfold eX;rw[if_pos c4]
    rw[ef]at hF;cases hF;have f7:=dI (m:=7) o1 (by decide) (by decide);simp![f8,f7,cc,d8,eq_true c4,z2]
   ·by_cases e4:tk (a,b) 8=4
    ·have ef:eX (a,b) g=((0,1),tr (a,b) 8):=by unfold eX;rw[if_neg c4,if_pos e4]
     rw[ef]at hF;cases hF;simp![f8,cc,cT,eq_false c4,eq_true e4,z2]
    ·by_cases e7:tk (a,b) 8=7/\g=true
     ·have ef:=(show eX (a,b) g=_ by unfold eX;rw[if_neg c4,if_neg e4,if_pos e7]);rw[ef]at hF;cases hF;obtain⟨e7,eg⟩:=e7;subst eg;have o2:=gP (m:=10^30) o1;have o3:=gP (m:=2) o2;have X8:=dI (m:=10^30) o1 (by decide) (by decide);have Xa:=dI (m:=2) o2 (by decide) (by decide);have X9:=dI (m:=10^29) o3 (by decide) (by decide);have b2:=jj (tr (tr (a,b) 8) (10^30)) (m:=2) (by decide);have b29:=jj (tr (tr (tr (a,b) 8) (10^30)) 2) (m:=10^29) (by decide);have ix:gF [Dat.int 1,Dat.int (-1)] (tk (tr (tr (a,b) 8) (10^30)) 2)=some (.int (if tk (tr (tr (a,b) 8) (10^30)) 2=0 then 1 else -1)):=by
       rcases(show tk (tr (tr (a,b) 8) (10^30)) 2=0\/tk (tr (tr (a,b) 8) (10^30)) 2=1 by omega)with h|h
       ·rw[h];rfl
       ·rw[h];rfl
      have em:jA (.int (tk (tr (a,b) 8) (10^30))) (.int (if tk (tr (tr (a,b) 8) (10^30)) 2=0 then 1 else -1))=some (.int (tk (tr (a,b) 8) (10^30)*(if tk (tr (tr (a,b) 8) (10^30)) 2=0 then 1 else -1))):=mulR _ (by split<;>decide) (by split<;>decide);generalize hs:(if tk (tr (tr (a,b) 8) (10^30)) 2=0 then(1:Int)else -1)=sg at ix em ⊢;have JY:=lh (n:=tk (tr (a,b) 8) (10^30)*sg) (d:=1+tk (tr (tr (tr (a,b) 8) (10^30)) 2) (10^29)) (by omega) (lt_of_lt_of_le (show _<2^100 by omega) (pow_le_pow_right (by decide) (by decide)));simp![f8,X8,Xa,X9,CZ,Qu,cc,cT,cw,ix,em,JY,eq_false c4,eq_false e4,eq_true e7,z2]
     ·have ef:=(show eX (a,b) g=_ by unfold eX;rw[if_neg c4,if_neg e4,if_neg e7]);rw[ef]at hF;cases hF;have o2:=gP (m:=41) o1;have Sv:=dI (m:=41) o1 (by decide) (by decide);have Cb:=dI (m:=12) o2 (by decide) (by decide);have SD:=jj (tr (tr (a,b) 8) 41) (m:=12) (by decide);have JY:=lh (n:=tk (tr (a,b) 8) 41-20) (d:=1+tk (tr (tr (a,b) 8) 41) 12) (by omega) (lt_of_lt_of_le (show _<2^100 by omega) (pow_le_pow_right (by decide) (by decide)));by_cases P1:tk (a,b) 8=7
      ·have eg:g=false:=by cases g with|false=>rfl|true=>exact absurd ⟨P1,rfl⟩ e7
       subst eg;simp![f8,Sv,Cb,cc,cT,cw,d8,JY,eq_false c4,eq_false e4,eq_true P1,z2]
      ·simp![f8,Sv,Cb,cc,cT,cw,d8,JY,eq_false c4,eq_false e4,eq_false P1,z2]
  ·cases hF
 ·cases hF
def oq (xs:List (Int×Int)):Dat:=.tuple (xs.map kr)
abbrev K0 (kind:Str) (xs:List (Int×Int)) (b:Int×Int):Dat:=.tuple [.str kind,oq xs,kr b]
def Kd (k:Str):Prop:=k="="\/k="<"\/k="<="
def oT:Nat->R->Bool->List (Int×Int)×R
 |0,r,_=>([],r)
 |n+1,r,g=>((eX r g).1::(oT n (eX r g).2 g).1,(oT n (eX r g).2 g).2)
theorem Ae:∀(n:Nat) {r:R} {g:Bool},kP r->(∀x∈(oT n r g).1,Sm x)/\kP (oT n r g).2/\(oT n r g).1.length=n
 |0,r,g,h=>⟨fun x hx=>by simp[oT]at hx,h,rfl⟩
 |n+1,r,g,h=>by
  obtain⟨h1,h2⟩:=wg (g:=g) h;obtain⟨i1,i2,i3⟩:=Ae n (g:=g) h2;refine⟨fun x hx=>?_,i2,by show(oT n (eX r g).2 g).1.length+1=_;rw[i3]⟩;rcases mem_cons.mp (show x∈(eX r g).1::(oT n (eX r g).2 g).1 from hx)with e|h
  ·rw[e];exact h1
  ·exact i1 x h
theorem xR{gt:Dat->Option dk}{fe:HF}{tl:aG}{g:Bool}(S2:∀d,∃as,gt d=some as/\∀r:R,kP r->∃Ri,fe (setG (some (.own (rD r))::tl) as)=some (kr (eX r g).1,some (.own (rD (eX r g).2))::Ri)):
  ∀(ak:List Dat) (r:R),kP r->vj gt fe tl ak (rD r)=some ((oT ak.length r g).1.map kr,rD (oT ak.length r g).2)
 |[],r,_=>rfl
 |d::ak,r,h=>by
  obtain⟨as,e1,e2⟩:=S2 d;obtain⟨Ri,e3⟩:=e2 r h;have ih:=xR S2 ak (eX r g).2 (wg h).2;show(gt d).bind _=_;rw[e1];show(fe (setG (some (.own (rD r))::tl) as)).bind _=_;rw[e3];show((vj gt fe tl ak (rD (eX r g).2)).map _)=_;rw[ih];rfl
def VH:List Str:=["<=","<","<=","=","<"]
def zA (i:Int):Str:=VH.getD i.toNat "<"
theorem K3{i:Int}(h:0<=i/\i<5):gF [Dat.str "<=",Dat.str "<",Dat.str "<=",Dat.str "=",Dat.str "<"] i=some (.str (zA i))/\Kd (zA i):=by
 rcases(show i=0\/i=1\/i=2\/i=3\/i=4 by omega)with e|e|e|e|e
 ·rw[e];exact⟨rfl,.inr (.inr rfl)⟩
 ·rw[e];exact⟨rfl,.inr (.inl rfl)⟩
 ·rw[e];exact⟨rfl,.inr (.inr rfl)⟩
 ·rw[e];exact⟨rfl,.inl rfl⟩
 ·rw[e];exact⟨rfl,.inr (.inl rfl)⟩
abbrev O1 (r:R) (m:Int) (g:Bool):List (Int×Int)×R:=oT m.toNat (tr r 5) g
abbrev FC (r:R) (m:Int) (g:Bool):(Int×Int)×R:=eX (O1 r m g).2 g
def kS:List Dat->List Dat->Option (Dat×List Dat)
 |[.int a,.int b],[.int m,.bool g]=>if kP (a,b)/\0<=m/\m<=9 then some (K0 (zA (tk (a,b) 5)) (O1 (a,b) m g).1 (FC (a,b) m g).1,rD (FC (a,b) m g).2)else none
 |_,_=>none
theorem Hh{r:R}(h:kP r)(h1:0<=m)(h2:m<=9):kS [.int r.1,.int r.2] [.int m,.bool g]=some (K0 (zA (tk r 5)) (O1 r m g).1 (FC r m g).1,rD (FC r m g).2):=if_pos ⟨h,h1,h2⟩
theorem ka(lo:Int)(n:Nat):(iO lo n).length=n:=by unfold iO;rw[length_map,length_range]
theorem Pl(T:TX mg)(eh:jS P w K mg base 2 "_law_take" ["reel","many"] 2 jR)(sU:jS P w K mg base 2 "_law_fraction" ["reel","great"] 2 rM)(U:FnAt K mg "_law_line" (top 53) ["reel","many","great"]):jS P w K mg base 3 "_law_line" ["reel","many","great"] 3 kS:=by
 obtain⟨f,fd,U,hm,hB⟩:=U.ex;have nd:(["reel","many","great","kind","parts"]:List Str).Nodup:=by decide +kernel
 refine rV U hm hB (N:=["reel","many","great","kind","parts"]) ⟨rfl,rfl,rfl,by decide +kernel,rfl,by decide +kernel,by decide +kernel⟩ rfl (fun bG A outer s H E hr=>
  (ae (i5 3 nd (yN (bf (gV (a6 aT (a6 aT (a6 aT (a6 aT (a6 aT a9))))))) (dU 0 eh hr (bB (bf a8) cv))))
  (ae (i5 4 nd (EE T.tuple (bB (HC (ED 0 rfl (Ja (tn:=["k"]) (fv:=["reel","great"]) (js:=[0,2]) rfl (by decide +kernel) (by decide +kernel) rfl (by decide +kernel) (by decide +kernel) rfl
   (fun x hx=>by((have f6:x="reel"\/x="great":=(by simpa using hx));(rcases f6 with rfl|rfl<;>exact⟨_,rfl⟩)))
   (fun p hp=>by((have gA:p=(("reel" : Str),(0:Nat))\/p=(("great" : Str),(2:Nat)):=(by simpa using hp));(rcases gA with rfl|rfl<;>exact⟨rfl,.inr (.inl rfl),.inl rfl,fun z=>by cases z⟩)))) (lB T.range (a6 (a5 1) a9)) (fun _ _ _ _=>(aB 2 (show(["reel","great","k"]:List Str).Nodup by decide +kernel))) (fun _ _ _ _=>(dU 0 sU hr (bB (bf (a5 1)) cv))) (dS rfl))) cv)))
  (ag (i6 (Bf (bB (bf (a5 3)) (bB (bf (a5 4)) (bB (dU 0 sU hr (bB (bf (a5 2)) cv)) cv))))))))) ?_
 intro ds es d f9 hl hF;unfold kS at hF;split at hF
 ·rename_i a b m g;split at hF
  ·rename_i h;obtain⟨hR,h1,h2⟩:=h;cases hF;have o1:=gP (m:=5) hR;have f5:=dI (m:=5) hR (by decide) (by decide);have k5:=(K3 (jj (a,b) (m:=5) (by decide))).1;obtain⟨p1,p2,p3⟩:=Ae m.toNat (g:=g) o1;have ff:=xZ (g:=g) p2;have z5:5<=sizeLine:=sz (by decide);have z3:3<=sizeLine:=sz (by decide);have z10:m.toNat<sizeLine:=lt_of_lt_of_le (show m.toNat<1000 by omega) (sz (by decide));have eR:oo [.int m]=some (iO 0 m.toNat):=if_pos ⟨by omega,by omega⟩;have ec:=xR (gt:=aName 2) (fe:=rz 0 2 rM (pR (kK (aA 1)) tL)) (tl:=[some (.a7 (.bool g)),none]) (g:=g) (fun d=>⟨[(2,d)],rfl,fun r hr=>⟨[some (.a7 (.bool g)),some (.a7 d)],by
    have e:=xZ (g:=g) hr;simp![e]⟩⟩) (iO 0 m.toNat) (tr (a,b) 5) o1
   rw[ka]at ec;simp![f5,k5,z5,yk,pK,eR,ec,z10,ka,p3,length_map,ff,z3];rfl
  ·cases hF
 ·cases hF
variable {n m:Nat}
theorem Fq{a b:Nat}(ha:a<2^n)(hb:b<2^m):a*b<2^(n+m):=by
 have h:=Nat.mul_lt_mul'' ha hb;rw[pw]at h;exact h
def Vz (n d:Int):Int×Int:=(Fr.num n d,Fr.den n d)
def pl (x y:Int×Int):Int×Int:=Vz (x.1*y.2+y.1*x.2) (x.2*y.2)
def NV (x y:Int×Int):Bool:=decide (x.1*y.2<y.1*x.2)
theorem jK{α β γ:Type}{f:α->β->γ}{z:γ}:∀{xs:List α} {ys:List β},z∈zipWith f xs ys->∃x∈xs,∃y∈ys,z=f x y
 |[],ys,h=>by simp at h
 |x::xs,[],h=>by simp at h
 |x::xs,y::ys,h=>by
  rw[List.zipWith_cons_cons]at h;rcases mem_cons.mp h with e|h
  ·exact⟨x,mem_cons_self,y,mem_cons_self,e⟩
  ·obtain⟨a,ha,b,hb,e⟩:=jK h;exact⟨a,mem_cons_of_mem _ ha,b,mem_cons_of_mem _ hb,e⟩
theorem C6{x y:Int×Int}(h:kr x=kr y):x=y:=by
 simp only[PySem.W.Dat.tuple.injEq,List.cons.injEq,PySem.W.Dat.int.injEq,and_true]at h;exact Prod.ext h.1 h.2
theorem II{xs ys:List (Int×Int)}(h:oq xs=oq ys):xs=ys:=by
 unfold oq at h;rw[PySem.W.Dat.tuple.injEq]at h;exact(List.map_inj_right fun x y e=>C6 e).mp h
theorem F3(xs:List (Int×Int)):kqdOk 9 (oq xs)=true:=by
 show(xs.map kr).all (kqdOk 8)=true;rw[all_map,all_eq_true];exact fun x _=>rfl
theorem Cg{d e:Dat}(h1:kqdOk 9 d=true)(h2:kqdOk 9 e=true)(n1:∀b,d≠.bool b)(n2:∀b,d≠.str b):eqB d e=some (lT d e):=by
 unfold eqB;split
 ·exact absurd rfl (n1 _)
 ·exact absurd rfl (n2 _)
 ·exact if_pos ⟨h1,h2⟩
theorem M0(xs ys:List (Int×Int)):cH (oq xs) (oq ys)=some (.bool (decide (xs=ys))):=by
 unfold cH;rw[Cg (F3 xs) (F3 ys) (fun b h=>by cases h) (fun b h=>by cases h)];by_cases e:xs=ys
 ·subst e;rw[nj rfl,decide_eq_true rfl];rfl
 ·rw[nk fun z=>e (II z),decide_eq_false e];rfl
theorem Ce(x y:Int×Int):cH (kr x) (kr y)=some (.bool (decide (x=y))):=by
 unfold cH;rw[Cg rfl rfl (fun b h=>by cases h) (fun b h=>by cases h)];by_cases e:x=y
 ·subst e;rw[nj rfl,decide_eq_true rfl];rfl
 ·rw[nk fun z=>e (C6 z),decide_eq_false e];rfl
theorem LN(x y:Int×Int):fI (kr x) (kr y)=some (.bool (!decide (x=y))):=by
 have h:=Ce x y;unfold cH at h;unfold fI;obtain⟨k,e1,e2⟩:=bj h;rw[e1];injection e2 with e2;show some (Dat.bool (!k))=_;rw[e2]
theorem cY(x y:Str):cH (.str x) (.str y)=some (.bool (decide (x=y))):=rfl
theorem jZ(x y:Str):fI (.str x) (.str y)=some (.bool (!decide (x=y))):=rfl
theorem V7(x y z:Dat):gF [x,y,z] 0=some x:=rfl
theorem V6(x y z:Dat):gF [x,y,z] 1=some y:=rfl
theorem V5(x y z:Dat):gF [x,y,z] 2=some z:=rfl
def kept (k:Str) (b:Int×Int) (kd:Str) (B:Int×Int):Bool:=if B=b then decide (k="<=") || decide (kd="<")else NV B b
abbrev qD (q:Rat):Dat:=.tuple [.int q.num,.int (q.den:Int)]
structure SR (n:Nat) (q:Rat):Prop where
 ln:q.num.natAbs<2^n
 ld:q.den<2^n
variable {q:Rat}
theorem SR.up(h:SR n q)(hn:n<=m):SR m q:=⟨lt_of_lt_of_le h.ln (pow_le_pow_right (by decide) hn),lt_of_lt_of_le h.ld (pow_le_pow_right (by decide) hn)⟩
theorem SR.gd(h:SR n q)(hn:n<=4000):Gd q.num (q.den:Int):=⟨by have:=q.den_pos;omega,by show Nat.gcd _ _=1;rw[natAbs_natCast];exact q.reduced,⟨(h.up hn).ln⟩,⟨by rw[natAbs_natCast];exact(h.up hn).ld⟩⟩
variable {a b:Rat}
theorem nB(ha:SR n a)(hb:SR m b)(hn:n<=4000)(hm:m<=4000):iK [qD a,qD b]=some (qD (a+b)):=by
 have:=nC (g:=fun p q r s=>some (mk (p*s+r*q) (q*s))) (ha.gd hn) (hb.gd hm);obtain⟨e1,e2⟩:=Fr.Be a b;refine this.trans (congrArg some ?_);show Dat.tuple [.int (Fr.num _ _),.int (Fr.den _ _)]=_;rw[e1,e2]
theorem mI(ha:SR n a)(hb:SR m b)(hn:n<=4000)(hm:m<=4000):fE [qD a,qD b]=some (qD (a-b)):=by
 have:=nC (g:=fun p q r s=>some (mk (p*s-r*q) (q*s))) (ha.gd hn) (hb.gd hm);obtain⟨e1,e2⟩:=Fr.Ba a b;refine this.trans (congrArg some ?_);show Dat.tuple [.int (Fr.num _ _),.int (Fr.den _ _)]=_;rw[e1,e2]
theorem oV(ha:SR n a)(hb:SR m b)(hn:n<=4000)(hm:m<=4000):gm [qD a,qD b]=some (qD (a*b)):=by
 have:=nC (g:=fun p q r s=>some (mk (p*r) (q*s))) (ha.gd hn) (hb.gd hm);obtain⟨e1,e2⟩:=Fr.Bb a b;refine this.trans (congrArg some ?_);show Dat.tuple [.int (Fr.num _ _),.int (Fr.den _ _)]=_;rw[e1,e2]
theorem H9(ha:SR n a)(hb:SR m b)(hn:n<=4000)(hm:m<=4000)(h0:b.num≠0):oW [qD a,qD b]=some (qD (a/b)):=by
 have:=nC (g:=fun p q r s=>if r≠0 then some (mk (p*s) (q*r))else none) (ha.gd hn) (hb.gd hm);rw[if_pos h0]at this;obtain⟨e1,e2⟩:=Fr.Bc a b h0;refine this.trans (congrArg some ?_);show Dat.tuple [.int (Fr.num _ _),.int (Fr.den _ _)]=_;rw[e1,e2]
theorem iL(ha:SR n a)(hb:SR m b)(hn:n<=4000)(hm:m<=4000):d5 [qD a,qD b]=some (.bool (decide (a<b))):=by
 have:=nC (g:=fun p q r s=>some (.bool (decide (p*s<r*q)))) (ha.gd hn) (hb.gd hm);rw[show d5 [qD a,qD b]=_ from this];congr 2
 exact decide_eq_decide.mpr (Fr.yM a b).symm
theorem ug{N D:Int}(hD:D≠0)(h1:Fr.num N D=q.num)(h2:Fr.den N D=(q.den:Int))(hn:N.natAbs<2^n)(hd:D.natAbs<2^n):SR n q:=by
 have a:=Fr.vq (n:=N) (d:=D) hD;have b:=Fr.vt (n:=N) (d:=D) hD;rw[h1]at a;rw[h2,natAbs_natCast]at b;exact⟨lt_of_le_of_lt a hn,lt_of_le_of_lt b hd⟩
theorem qh(q:Rat):(q.den:Int)≠0:=by have:=q.den_pos;omega
variable {a b:Int}
theorem d4(ha:a.natAbs<2^n)(hb:b.natAbs<2^m):(a*b).natAbs<2^(n+m):=by rw[natAbs_mul];exact Fq ha hb
theorem rL(ha:a.natAbs<2^n)(hb:b.natAbs<2^n):(a+b).natAbs<2^(n+1):=by
 have e:(2:Nat)^(n+1)=2^n*2:=Nat.pow_succ 2 n;rw[e];generalize (2:Nat)^n=z at *;omega
theorem H0(ha:a.natAbs<2^n)(hb:b.natAbs<2^n):(a-b).natAbs<2^(n+1):=by
 have e:(2:Nat)^(n+1)=2^n*2:=Nat.pow_succ 2 n;rw[e];generalize (2:Nat)^n=z at *;omega
theorem dM{x:Nat}(h:x<2^n)(hn:n<=m):x<2^m:=lt_of_lt_of_le h (pow_le_pow_right (by decide) hn)
theorem SR.dn(h:SR n q):(q.den:Int).natAbs<2^n:=by rw[natAbs_natCast];exact h.ld
variable {a b:Rat}
theorem SR.add(ha:SR n a)(hb:SR m b):SR (n+m+1) (a+b):=by
 obtain⟨e1,e2⟩:=Fr.Be a b;refine ug (mul_ne_zero (qh a) (qh b)) e1 e2 (rL (d4 ha.ln hb.dn) (by rw[add_comm n m];exact d4 hb.ln ha.dn)) (dM (d4 ha.dn hb.dn) (by omega))
theorem SR.sub(ha:SR n a)(hb:SR m b):SR (n+m+1) (a-b):=by
 obtain⟨e1,e2⟩:=Fr.Ba a b;refine ug (mul_ne_zero (qh a) (qh b)) e1 e2 (H0 (d4 ha.ln hb.dn) (by rw[add_comm n m];exact d4 hb.ln ha.dn)) (dM (d4 ha.dn hb.dn) (by omega))
theorem SR.mul(ha:SR n a)(hb:SR m b):SR (n+m) (a*b):=by
 obtain⟨e1,e2⟩:=Fr.Bb a b;exact ug (mul_ne_zero (qh a) (qh b)) e1 e2 (d4 ha.ln hb.ln) (d4 ha.dn hb.dn)
theorem SR.div(ha:SR n a)(hb:SR m b)(h0:b.num≠0):SR (n+m) (a/b):=by
 obtain⟨e1,e2⟩:=Fr.Bc a b h0;exact ug (mul_ne_zero (qh a) h0) e1 e2 (d4 ha.ln hb.dn) (d4 ha.dn hb.ln)
theorem Mh(T:TX mg)(lG:Dn P w K mg base 2 "make" ["n","d"] 2 ji)(U:FnAt K mg "minus" (top 4) ["a","b"]):Dn P w K mg base 3 "minus" ["a","b"] 2 fE:=by
 obtain⟨f,fd,U,hm,hB⟩:=U.ex;have nd:(["a","b"]:List Str).Nodup:=by decide +kernel
 refine iC U hm hB (N:=["a","b"]) ⟨rfl,rfl,rfl,by decide +kernel,rfl,by decide +kernel,by decide +kernel⟩ rfl (fun bG A outer s H E hr=>
  (ag (ar (aw lG hr (a6 (kf (bQ (af (a5 0) a8) (af (a5 1) a8)) (bQ (af (a5 1) a8) (af (a5 0) a8))) (a6 (bQ (af (a5 0) a8) (af (a5 1) a8)) a9 (hs:=d9)) (hs:=d9)))))) ?_
 intro ds d hl hF;obtain⟨p,q,r,s,rfl,g1,g2,e⟩:=fw hF;have z:=mul_pos g1.pos g2.pos;cases e;simp![lP,lO,mulM g1.mp g2.mq,mulM g2.mp g1.mq,mulM g1.mq g2.mq,d8,oM (ne_of_gt z) (g1.mq.mul g2.mq)]
theorem Pe(T:TX mg)(lG:Dn P w K mg base 2 "make" ["n","d"] 2 ji)(U:FnAt K mg "over" (top 6) ["a","b"]):Dn P w K mg base 3 "over" ["a","b"] 2 oW:=by
 obtain⟨f,fd,U,hm,hB⟩:=U.ex;have nd:(["a","b"]:List Str).Nodup:=by decide +kernel
 refine iC U hm hB (N:=["a","b"]) ⟨rfl,rfl,rfl,by decide +kernel,rfl,by decide +kernel,by decide +kernel⟩ rfl (fun bG A outer s H E hr=>
  (ag (ar (aw lG hr (a6 (bQ (af (a5 0) a8) (af (a5 1) a8)) (a6 (bQ (af (a5 0) a8) (af (a5 1) a8)) a9 (hs:=d9)) (hs:=d9)))))) ?_
 intro ds d hl hF;obtain⟨p,q,r,s,rfl,g1,g2,e⟩:=fw hF;by_cases h0:r≠0
 ·rw[if_pos h0]at e;have z:q*r≠0:=mul_ne_zero (ne_of_gt g1.pos) h0;cases e;simp![lP,lO,mulM g1.mp g2.mq,mulM g1.mq g2.mp,oM z (g1.mq.mul g2.mp)]
 ·rw[if_neg h0]at e;cases e
def bC:FM.Kn->Str
 | .eq=>"="
 | .le=>"<="
 | .lt=>"<"
def aJ (r:FM.Row):Dat:=eI (bC r.1,r.2)
abbrev fM (l:List Int):Dat:=.tuple (l.map Dat.int)
theorem LQ{a b:FM.Kn}(h:bC a=bC b):a=b:=by cases a<;>cases b<;>first|rfl|exact absurd h (by decide +kernel)
theorem B8{a b:FM.Row}(h:aJ a=aJ b):a=b:=by
 have:=pf h;obtain⟨e1,e2⟩:=Prod.mk.inj this;exact Prod.ext (LQ e1) e2
theorem iq(k:FM.Kn):(bC k="=")↔k=.eq:=by cases k<;>simp[bC]<;>decide +kernel
theorem yi(k:FM.Kn):(bC k="<")↔k=.lt:=by cases k<;>simp[bC]<;>decide +kernel
theorem kX(r:FM.Row):aO (aJ r) (.int 0)=some (.str (bC r.1)):=rfl
theorem iU(r:FM.Row):aO (aJ r) (.int 1)=some (fM r.2):=rfl
variable {j:Nat}
theorem hZ{l:List Int}(h:j<l.length):aO (fM l) (.int (j:Int))=some (.int (l.getD j 0)):=by
 show gF (l.map Dat.int) (j:Int)=_;unfold L2.gF L2.mX;rw[if_pos (by omega),if_pos (by rw[length_map];omega)];show(l.map Dat.int)[((j:Int)).toNat]?=_;rw[toNat_natCast,getElem?_map,getD_eq_getElem?_getD,getElem?_eq_getElem h];rfl
theorem NY{l:List Int}{x:Int}(h:x∈l)(hx:x≠0):FM.lowG l<=x.natAbs:=le_of_dvd (by omega) (Int.ofNat_dvd_left.mp (FM.mV h))
theorem GI(T:TX mg)(gH:Dn P w K mg base 1 "common_divisor" ["a","b"] 2 q5)(U:FnAt K mg "lowered" (top 12) ["numbers"]):
  ∃F,Dn P w K mg base 2 "lowered" ["numbers"] 1 F/\∀(l:List Int),l.length<=900->(∀x∈l,x.natAbs<2^9000)->(∃x∈l,x≠0)->F [.list (l.map .int)]=some (fM (FM.lowered l)):=by
 refine⟨_,cz ["numbers","divisor","number"] U fun nd _ _ _ _ _ _ _ hr=>
  (ae (az 1 nd a8)
  (ae (dF PassesOwn.never rfl (a5 0) (aB 2 nd)
  (ag (az 1 nd (aw gH hr (a6 (a5 1) (a6 (kg T.abs (a6 (a5 2) a9)) a9 (hs:=aW)))))))
  (ag (ar (i8 T.tuple (a6 (cS (i7 rfl (fB (tn:=["number"]) (fv:=["divisor"]) (js:=[1]) rfl (by decide +kernel) (by decide +kernel) rfl (by decide +kernel) (by decide +kernel) rfl
   (fun x hx=>by((have f6:x="divisor":=(by simpa using hx));(rcases f6 with rfl<;>exact⟨_,rfl⟩)))
   (fun p hp=>by((have gA:p=(("divisor" : Str),(1:Nat)):=(by simpa using hp));(rcases gA with rfl<;>exact⟨rfl,.inr (.inl rfl),.inl rfl,fun z=>by cases z⟩)))) (a5 0) (fun _ _ _ _=>(aB 0 (show(["number","divisor"]:List Str).Nodup by decide +kernel))) (fun _ _ _ _=>dh) (fun _ _ _ _=>(ie (a5 0) (a5 1))) (dS rfl))) a9)))))),?_⟩
 intro l hl hb ⟨x0,ju,cK⟩;have hp:=FM.tD ju cK;have Wa:((FM.lowG l:Int)).natAbs.log2<9000:=by
  refine log2_small (k:=9000) (by decide) ?_;rw[natAbs_natCast];exact lt_of_le_of_lt (NY ju cK) (hb x0 ju)
 have zl:l.length<sizeLine:=lt_of_lt_of_le (show l.length<1000 by omega) (sz (by decide));refine bP ?_;simp!;rw[ao (ah:=[some (.a7 (.list (l.map .int))),some (.a7 (.int 0)),none]) (by simp![])];refine gx (I:=_) (i9 (l:=l) (s:=0) Dat.int (fun(g:Nat) Γ=>∃u,Γ=[some (.a7 (.list (l.map .int))),some (.a7 (.int (g:Int))),u]) (fun _ _=>True) (fun g x=>Nat.gcd g x.natAbs) (d:=.list (l.map .int)) rfl rfl trivial ⟨none,rfl⟩ ?_) ?_
 ·rintro g x l' Γ _ ⟨u,rfl⟩;refine⟨[(2,.int x)],rfl,?_⟩;dsimp!;have e1:q5 [.int (g:Int),.int (x.natAbs:Int)]=some (.int ((Nat.gcd g x.natAbs:Nat):Int)):=by
   show(if 0<=(g:Int)/\0<=(x.natAbs:Int)then some (Dat.int (gcd (g:Int) (x.natAbs:Int)))else none)=_;rw[if_pos ⟨by omega,by omega⟩];rfl
  exact⟨[some (.a7 (.list (l.map .int))),some (.a7 (.int ((Nat.gcd g x.natAbs:Nat):Int))),some (.a7 (.int x))],by simp![fX,e1],⟨_,rfl⟩,trivial⟩
 ·rintro ah ⟨u,rfl⟩;have eG:(l.foldl (fun g x=>Nat.gcd g x.natAbs) 0:Nat)=FM.lowG l:=rfl;rw[eG];have ec:c8 (aName 0) gu (L3.f2 si (aA 0) (aA 1)) [none,some (.int (FM.lowG l:Int))] (l.map .int)=some ((FM.lowered l).map .int):=by
   refine cZ _ _ (by rw[length_map,length_map,FM.sF]) fun i d o h1 h2=>?_;unfold FM.lowered at h2;rw[getElem?_map]at h1 h2;rw[getElem?_map]at h2;cases hq:l[i]? with
   |none=>rw[hq]at h1;cases h1
   |some x=>
    rw[hq]at h1 h2;cases h1;cases h2;refine⟨[(0,.int x)],rfl,?_⟩;have e:=je (a:=x) (b:=(FM.lowG l:Int)) (by omega) Wa;simp![e]
  simp![length_map,zl,ec]
theorem yq:∀(xs ys:List Int),dN (xs.map Dat.int) (ys.map Dat.int)=(xs.zip ys).map fun z=>Dat.tuple [.int z.1,.int z.2]
 |[],ys=>by simp[dN]
 |x::xs,[]=>by simp[dN]
 |x::xs,y::ys=>by simp only[map_cons,dN,zip_cons_cons,yq xs ys]
theorem Mg(T:TX mg){Fl:List Dat->Option Dat}(Jj:Dn P w K mg base 2 "lowered" ["numbers"] 1 Fl)(hL:∀(l:List Int),l.length<=900->(∀x∈l,x.natAbs<2^9000)->(∃x∈l,x≠0)->Fl [.list (l.map .int)]=some (fM (FM.lowered l)))(U:FnAt K mg "mixed" (top 15) ["one","much","other","more"]):
  ∃F,Dn P w K mg base 3 "mixed" ["one","much","other","more"] 4 F/\∀(b:Nat) (one other:List Int) (bU more:Int),b<=4400->one.length<=900->(∀x∈one,x.natAbs<2^b)->(∀x∈other,x.natAbs<2^b)->bU.natAbs<2^b->more.natAbs<2^b->(∃x∈FM.fU one bU other more,x≠0)->
   F [fM one,.int bU,fM other,.int more]=some (fM (FM.mixed one bU other more))/\∀x∈FM.mixed one bU other more,x.natAbs<2^(2*b+1):=by
 refine⟨_,cz ["one","much","other","more"] U fun nd _ _ _ _ _ _ _ hr=>
  (ag (ar (aw Jj hr (a6 (cS (kH rfl (fB (tn:=["a","b"]) (fv:=["much","more"]) (js:=[1,3]) rfl (by decide +kernel) (by decide +kernel) rfl (by decide +kernel) (by decide +kernel) rfl
   (fun x hx=>by((have f6:x="much"\/x="more":=(by simpa using hx));(rcases f6 with rfl|rfl<;>exact⟨_,rfl⟩)))
   (fun p hp=>by((have gA:p=(("much" : Str),(1:Nat))\/p=(("more" : Str),(3:Nat)):=(by simpa using hp));(rcases gA with rfl|rfl<;>exact⟨rfl,.inr (.inl rfl),.inl rfl,fun z=>by cases z⟩)))) (mQ T.zip (a6 (a5 0) (a6 (a5 2) a9))) (fun _ _ _ _=>(dG (n:=2) rfl (aY (aB 0 (show(["a","b","much","more"]:List Str).Nodup by decide +kernel)) (aY (aB 1 (show(["a","b","much","more"]:List Str).Nodup by decide +kernel)) cV)))) (fun _ _ _ _=>dh) (fun _ _ _ _=>(dX (bQ (a5 2) (a5 0)) (bQ (a5 3) (a5 1)))) (ub rfl rfl))) a9)))),?_⟩
 intro b one other bU more hb h9 h1 h2 h3 h4 cK;have bd:∀x∈FM.fU one bU other more,x.natAbs<2^(2*b+1):=fun x hx=>by
  obtain⟨p,hp,q,hq,rfl⟩:=jK (show x∈zipWith (fun a b=>bU*a+more*b) one other from hx);rw[show 2*b=b+b by omega];exact rL (d4 h3 (h1 p hp)) (d4 h4 (h2 q hq))
 have ml:(FM.fU one bU other more).length<=900:=by
  show(zipWith _ one other).length<=900;rw[length_zipWith];omega
 have eL:=hL (FM.fU one bU other more) ml (fun x hx=>dM (bd x hx) (by omega)) cK;constructor
 ·have zl:(one.zip other).length<sizeLine:=by rw[length_zip];exact lt_of_lt_of_le (show min one.length other.length<1000 by omega) (sz (by decide))
  have ec:c8 (lz 2 (gS (aName 0) (gS (aName 1) ny))) gu (L3.f2 lV (L3.f2 jA (aA 2) (aA 0)) (L3.f2 jA (aA 3) (aA 1))) [none,none,some (.int bU),some (.int more)] ((one.zip other).map fun z=>Dat.tuple [.int z.1,.int z.2])=some ((FM.fU one bU other more).map .int):=by
   have es:FM.fU one bU other more=(one.zip other).map fun z=>bU*z.1+more*z.2:=by
    show zipWith _ one other=_;clear eL ml bd cK h1 h2 h9 zl;induction one generalizing other with
    |nil=>simp
    |cons x one ih=>
     cases other with
     |nil=>simp
     |cons y other=>rw[List.zipWith_cons_cons,zip_cons_cons,map_cons,ih]
   rw[es];refine cZ _ _ (by rw[length_map,length_map,length_map]) fun i d o g1 g2=>?_;rw[getElem?_map]at g1 g2;rw[getElem?_map]at g2;cases hq:(one.zip other)[i]? with
   |none=>rw[hq]at g1;cases g1
   |some z=>
    rw[hq]at g1 g2;cases g1;cases g2;obtain⟨Oj,Oi⟩:=of_mem_zip (mem_of_getElem? hq);refine⟨[(0,.int z.1),(1,.int z.2)],rfl,?_⟩;have e1:=Dg (a:=bU) (b:=z.1) (dM h3 (by omega)) (dM (h1 z.1 Oj) (by omega));have e2:=Dg (a:=more) (b:=z.2) (dM h4 (by omega)) (dM (h2 z.2 Oi) (by omega));simp![e1,e2,cw]
  simp![hG,yq,length_map,zl,ec,eL];rfl
 ·intro x hx;obtain⟨y,hy,rfl⟩:=mem_map.mp (show x∈(FM.fU one bU other more).map (fun x=>x.fdiv (FM.lowG (FM.fU one bU other more):Int))from hx);refine lt_of_le_of_lt ?_ (bd y hy);obtain⟨c,hc⟩:=FM.mV hy;obtain⟨x0,ju,h0⟩:=cK;have gp:=FM.tD ju h0;generalize (FM.lowG (FM.fU one bU other more))=g at hc gp;rw[hc,mul_comm,Int.mul_fdiv_cancel _ (by omega),natAbs_mul,natAbs_natCast];exact Nat.le_mul_of_pos_right _ gp
structure ib (m b:Nat) (rows:List FM.Row):Prop where
 len:∀r∈rows,r.2.length=m
 bd:∀r∈rows,∀x∈r.2,x.natAbs<2^b
theorem d7{r:FM.Row}{b:Nat}(h:∀x∈r.2,x.natAbs<2^b):(FM.ent r j).natAbs<2^b:=by
 by_cases c:FM.ent r j=0
 ·rw[c];exact pow_pos (by decide)
 ·exact h _ (FM.mem_getD c)
def tv:Option FM.Row->Dat
 |none=>.none
 |some r=>aJ r
theorem Mq(T:TX mg)(U:FnAt K mg "equal_row" (top 16) ["rows","place"]):
  ∃F,Dn P w K mg base 1 "equal_row" ["rows","place"] 2 F/\∀(rows:List FM.Row) (j m:Nat),(∀r∈rows,r.2.length=m)->j<m->F [.list (rows.map aJ),.int (j:Int)]=some (tv (FM.eY j rows)):=by
 refine⟨_,cz ["rows","place","row"] U fun nd _ _ _ _ _ _ _ hr=>
  (ae (dF PassesOwn.never rfl (a5 0) (aB 2 nd)
  (ag (aM (bO (cQ (bV hr (af (a5 2) a8) aT) (cP (dm hr (af (af (a5 2) a8) (a5 1)) a8)))) (ag (ar (a5 2))) aH)))
  (ag (ar bK))),?_⟩
 intro rows j m hl hj;refine bP ?_;simp!;refine(xF (l:=rows) aJ (fun Γ=>∃u,Γ=[some (.a7 (.list (rows.map aJ))),some (.a7 (.int (j:Int))),u]) (fun r=>decide (r.1=.eq/\FM.ent r j≠0)) aJ (d:=.list (rows.map aJ)) (fl:=fun o=>.rt (tv o)) rfl rfl ⟨none,rfl⟩ ?_ (fun _=>rfl) ?_)
 ·rintro r hr Γ ⟨u,rfl⟩;refine⟨[(2,aJ r)],rfl,?_⟩;dsimp!;have a1:=hZ (l:=r.2) (j:=j) (by rw[hl r hr];exact hj);have a0:FM.ent r j=r.2.getD j 0:=rfl;by_cases c1:r.1=.eq
  ·have k1:=(iq r.1).mpr c1;by_cases c2:r.2.getD j 0=0
   ·rw[if_neg (by rw[a0,decide_eq_true_eq];exact fun z=>z.2 c2)];refine⟨[some (.a7 (.list (rows.map aJ))),some (.a7 (.int (j:Int))),some (.a7 (aJ r))],?_,_,rfl⟩;dsimp![kX,iU,a1,cY,fA,eq_true k1,eq_true c2]
   ·rw[if_pos (by rw[a0];exact decide_eq_true ⟨c1,c2⟩)];dsimp![kX,iU,a1,cY,fA,eq_true k1,eq_false c2]
  ·have k1:¬bC r.1="=":=fun z=>c1 ((iq r.1).mp z);rw[if_neg (by simp[c1])];refine⟨[some (.a7 (.list (rows.map aJ))),some (.a7 (.int (j:Int))),some (.a7 (aJ r))],?_,_,rfl⟩;dsimp![kX,iU,a1,cY,fA,eq_false k1]
 ·rintro ah ⟨u,rfl⟩;simp![tv]
abbrev PM (Fm:List Dat->Option Dat):Prop:=∀(b:Nat) (one other:List Int) (bU more:Int),b<=4400->one.length<=900->(∀x∈one,x.natAbs<2^b)->(∀x∈other,x.natAbs<2^b)->bU.natAbs<2^b->more.natAbs<2^b->(∃x∈FM.fU one bU other more,x≠0)->
   Fm [fM one,.int bU,fM other,.int more]=some (fM (FM.mixed one bU other more))/\∀x∈FM.mixed one bU other more,x.natAbs<2^(2*b+1)
abbrev SF (F:List Dat->Option Dat):Prop:=∀(b m j:Nat) (r q:FM.Row),b<=4400->m<=900->j<m->r.2.length=m->q.2.length=m->(∀x∈r.2,x.natAbs<2^b)->(∀x∈q.2,x.natAbs<2^b)->(∃x∈FM.fU r.2 ((FM.ent q j).natAbs:Int) q.2 (if 0<FM.ent q j then -FM.ent r j else FM.ent r j),x≠0)->
   F [aJ r,aJ q,.int (j:Int)]=some (aJ (FM.wo q j r))/\∀x∈(FM.wo q j r).2,x.natAbs<2^(2*b+1)
theorem GF(T:TX mg){Fm:List Dat->Option Dat}(AA:Dn P w K mg base 3 "mixed" ["one","much","other","more"] 4 Fm)(hM:PM Fm)(U:FnAt K mg "without" (top 17) ["row","equal","place"]):
  ∃F,Dn P w K mg base 4 "without" ["row","equal","place"] 3 F/\SF F:=by
 refine⟨_,cz ["row","equal","place","part","more"] U fun nd _ _ _ _ _ _ _ hr=>
  (ae (az 3 nd (af (af (a5 1) a8) (a5 2)))
  (ae (az 4 nd (gy (l8 (a5 3) a8) (dr (af (af (a5 0) a8) (a5 2))) (af (af (a5 0) a8) (a5 2))))
  (ag (ar (aS (k:=0) (a6 (af (a5 0) a8) (a6 (aw AA hr (a6 (af (a5 0) a8) (a6 (kg T.abs (a6 (a5 3) a9)) (a6 (af (a5 1) a8) (a6 (a5 4) a9) (hs:=aD)) (hs:=aW)) (hs:=aD))) a9 (hs:=aW)) (hs:=aD))))))),?_⟩
 intro b m j r q hb oP hj hr hq br bq cK;have z2:2<=sizeLine:=sz (by decide);have a1:=hZ (l:=r.2) (j:=j) (by omega);have a2:=hZ (l:=q.2) (j:=j) (by omega);have m1:(((FM.ent q j).natAbs:Int)).natAbs<2^b:=by rw[natAbs_natCast];exact d7 bq
 have m2:(if 0<FM.ent q j then -FM.ent r j else FM.ent r j).natAbs<2^b:=by
  split
  ·rw[natAbs_neg];exact d7 br
  ·exact d7 br
 obtain⟨e,OJ⟩:=hM b r.2 q.2 _ _ hb (by omega) br bq m1 m2 cK;refine⟨?_,OJ⟩;have Xe:q.2.getD j 0=FM.ent q j:=rfl;have Xd:r.2.getD j 0=FM.ent r j:=rfl;rw[Xd]at a1;rw[Xe]at a2;have er:aJ (FM.wo q j r)=.tuple [.str (bC r.1),fM (FM.mixed r.2 ((FM.ent q j).natAbs:Int) q.2 (if 0<FM.ent q j then -FM.ent r j else FM.ent r j))]:=rfl;rw[er];by_cases c:0<FM.ent q j
 ·rw[if_pos c]at e ⊢;dsimp![kX,iU,a1,a2,dt,fX,eq_true c,e,z2]
 ·rw[if_neg c]at e ⊢;dsimp![kX,iU,a1,a2,dt,fX,eq_false c,e,z2]
abbrev Ta (F:List Dat->Option Dat):Prop:=∀(b m j:Nat) (u l:FM.Row),b<=4400->m<=900->j<m->u.2.length=m->l.2.length=m->(∀x∈u.2,x.natAbs<2^b)->(∀x∈l.2,x.natAbs<2^b)->(∃x∈FM.fU u.2 (-FM.ent l j) l.2 (FM.ent u j),x≠0)->
   F [aJ u,aJ l,.int (j:Int)]=some (aJ (FM.joined j u l))/\∀x∈(FM.joined j u l).2,x.natAbs<2^(2*b+1)
theorem J3(T:TX mg){Fm:List Dat->Option Dat}(AA:Dn P w K mg base 3 "mixed" ["one","much","other","more"] 4 Fm)(hM:PM Fm)(U:FnAt K mg "joined" (top 18) ["upper","lower","place"]):
  ∃F,Dn P w K mg base 4 "joined" ["upper","lower","place"] 3 F/\Ta F:=by
 refine⟨_,cz ["upper","lower","place","kind"] U fun nd _ _ _ _ _ _ _ hr=>
  (ae (az 3 nd (gy (Bh aT (aS (k:=0) (a6 (af (a5 0) a8) (a6 (af (a5 1) a8) a9 (hs:=aD)) (hs:=aD)))) aT aT))
  (ag (ar (aS (k:=0) (a6 (a5 3) (a6 (aw AA hr (a6 (af (a5 0) a8) (a6 (dr (af (af (a5 1) a8) (a5 2))) (a6 (af (a5 1) a8) (a6 (af (af (a5 0) a8) (a5 2)) a9 (hs:=aD)) (hs:=aD)) (hs:=gj)) (hs:=aD))) a9 (hs:=aW))))))),?_⟩
 intro b m j u l hb oP hj hu hl bu bl cK;have z2:2<=sizeLine:=sz (by decide);have a1:=hZ (l:=u.2) (j:=j) (by omega);have a2:=hZ (l:=l.2) (j:=j) (by omega);obtain⟨e,OJ⟩:=hM b u.2 l.2 (-FM.ent l j) (FM.ent u j) hb (by omega) bu bl (by rw[natAbs_neg];exact d7 bl) (d7 bu) cK;refine⟨?_,OJ⟩;have Xb:u.2.getD j 0=FM.ent u j:=rfl;have Xg:l.2.getD j 0=FM.ent l j:=rfl;rw[Xb]at a1;rw[Xg]at a2;have er:aJ (FM.joined j u l)=.tuple [.str (bC (if u.1=.lt\/l.1=.lt then .lt else .le)),fM (FM.mixed u.2 (-FM.ent l j) l.2 (FM.ent u j))]:=rfl;rw[er];have ei:inD (.str "<") (.tuple [.str (bC u.1),.str (bC l.1)])=some (.bool (decide (u.1=.lt\/l.1=.lt))):=by
  cases zJ:u.1<;>cases qc:l.1<;>rfl
 by_cases c:u.1=.lt\/l.1=.lt
 ·rw[decide_eq_true c]at ei;rw[if_pos c];have ks:bC .lt="<":=rfl;dsimp![kX,iU,a1,a2,ei,e,z2,ks]
 ·rw[decide_eq_false c]at ei;rw[if_neg c];have ks:bC .le="<=":=rfl;dsimp![kX,iU,a1,a2,ei,e,z2,ks]
variable {α:Type}
theorem ip(g:α->Dat)(xs:List α):kI [.list (xs.map g)]=some (.int xs.length):=by show some (Dat.int ((xs.map g).length:Nat))=_;rw[length_map]
abbrev nat (p:Nat):Dat:=.int (p:Int)
abbrev To (F:List Dat->Option Dat):Prop:=∀(m:Nat) (aE:List Nat) (u l:FM.Row),aE.length<=900->u.2.length=m->l.2.length=m->(∀p∈aE,p<m)->F [aJ u,aJ l,.list (aE.map nat)]=some (.int (FM.drawn aE u l:Nat))
theorem Ms(T:TX mg)(U:FnAt K mg "drawn_on" (top 19) ["one","other","weighed"]):
  ∃F,Dn P w K mg base 1 "drawn_on" ["one","other","weighed"] 3 F/\To F:=by
 refine⟨_,cz ["one","other","weighed"] U fun nd _ _ _ _ _ _ _ hr=>
  (ag (ar (cI T.len (a6 (cS (i7 rfl (fB (tn:=["place"]) (fv:=["other","one"]) (js:=[1,0]) rfl (by decide +kernel) (by decide +kernel) rfl (by decide +kernel) (by decide +kernel) rfl
   (fun x hx=>by((have f6:x="other"\/x="one":=(by simpa using hx));(rcases f6 with rfl|rfl<;>exact⟨_,rfl⟩)))
   (fun p hp=>by((have gA:p=(("other" : Str),(1:Nat))\/p=(("one" : Str),(0:Nat)):=(by simpa using hp));(rcases gA with rfl|rfl<;>exact⟨rfl,.inr (.inl rfl),.inl rfl,fun z=>by cases z⟩)))) (a5 2) (fun _ _ _ _=>(aB 0 (show(["place","other","one"]:List Str).Nodup by decide +kernel))) (fun _ _ _ _=>(lJ (bO (c9 (dm hr (af (af (a5 2) a8) (a5 0)) a8) (cC (dm hr (af (af (a5 1) a8) (a5 0)) a8)))))) (fun _ _ _ _=>(a5 0)) (dS rfl))) a9)))),?_⟩
 intro m aE u l hw hu hl hp;have zl:aE.length<sizeLine:=lt_of_lt_of_le (show aE.length<1000 by omega) (sz (by decide));have ec:c8 (aName 0) (fu (bc (L3.f2 fI (L3.f2 aO (L3.f2 aO (aA 2) (fC (.int 1))) (aA 0)) (fC (.int 0)))) (bc (L3.f2 fI (L3.f2 aO (L3.f2 aO (aA 1) (fC (.int 1))) (aA 0)) (fC (.int 0))))) (aA 0) [none,some (aJ l),some (aJ u)] (aE.map nat)=some ((aE.filter fun p=>decide (FM.ent u p≠0\/FM.ent l p≠0)).map nat):=by
  refine jr nat nat _ aE fun p FU=>⟨[(0,nat p)],rfl,?_,fun _=>rfl⟩;have a1:aO (fM u.2) (nat p)=some (.int (FM.ent u p)):=hZ (by rw[hu];exact hp p FU);have a2:aO (fM l.2) (nat p)=some (.int (FM.ent l p)):=hZ (by rw[hl];exact hp p FU);by_cases c1:FM.ent u p=0
  ·by_cases c2:FM.ent l p=0
   ·rw[decide_eq_false (by rw[c1,c2];simp)];dsimp![iU,a1,a2,fA,eq_true c1,eq_true c2]
   ·rw[decide_eq_true (.inr c2)];dsimp![iU,a1,a2,fA,eq_true c1,eq_false c2]
  ·rw[decide_eq_true (.inl c1)];dsimp![iU,a1,a2,fA,eq_false c1]
 have le:=ip nat (aE.filter fun p=>decide (FM.ent u p≠0\/FM.ent l p≠0));simp![length_map,zl,ec,le];rfl
abbrev rk (r:FM.Row):RK:=(bC r.1,r.2)
theorem Nb{a b:FM.Row}(h:rk a=rk b):a=b:=B8 (congrArg eI h)
abbrev kO (w:World) (ks:List FM.Row):Slot:=.obj (jN w (ks.map rk)) ((ks.map rk).map eI)
theorem Lm(ks:List FM.Row)(r:FM.Row):ig (ks.map rk) (rk r)=(FM.ins ks r).map rk:=by
 unfold ig FM.ins;have e:rk r∈ks.map rk↔r∈ks:=⟨fun h=>by obtain⟨x,hx,e⟩:=mem_map.mp h;rw[<- Nb e];exact hx,fun h=>mem_map.mpr ⟨r,h,rfl⟩⟩;by_cases c:r∈ks
 ·rw[if_pos (e.mpr c),if_pos c]
 ·rw[if_neg (fun z=>c (e.mp z)),if_neg c,map_append];rfl
theorem uR(k:FM.Kn):PyData.strOk (bC k)=true:=by cases k<;>decide +kernel
variable {i:Nat} {Γ:aG}
theorem EJ{g:ax->Option Dat}{ks:List FM.Row}{r:FM.Row}(hi:Γ[i]?=some (some (kO w ks)))(hf:g (bx Γ)=some (aJ r))(hz:ks.length<sizeLine):ur w i g Γ=some (.nx (Γ.set i (some (kO w (FM.ins ks r))))):=by
 have:=Hv (k:=rk r) hi hf (fun k hk=>by obtain⟨x,_,rfl⟩:=mem_map.mp hk;exact uR x.1) (uR r.1) (by rw[length_map];exact hz);rw[Lm]at this;exact this
theorem oO(ks:List FM.Row)(r:FM.Row):(FM.ins ks r).length<=ks.length+1:=by
 unfold FM.ins;split
 ·omega
 ·rw[length_append];exact le_refl _
def SY (F:List Dat->Option Dat):Prop:=∀(b m j most:Nat) (aE:List Nat) (rows:List FM.Row),b<=4400->m<=900->j<m->ib m b rows->aE.length<=900->(∀p∈aE,p<m)->
   (∀u∈rows,∀l∈rows,0<FM.ent u j->FM.ent l j<0->∃x∈FM.fU u.2 (-FM.ent l j) l.2 (FM.ent u j),x≠0)->rows.length+(rows.filter fun r=>decide (0<FM.ent r j)).length*(rows.filter fun r=>decide (FM.ent r j<0)).length<sizeLine->
   F [.list (rows.map aJ),.int (j:Int),.list (aE.map nat),.int (most:Int)]=some (.list ((FM.paired j aE most rows).map aJ))
theorem my{α β:Type}(p:β->Bool)(h:α->β->α):∀(l:List β) (s:α),l.foldl (fun s x=>if p x=true then h s x else s) s=(l.filter p).foldl h s
 |[],s=>rfl
 |x::l,s=>by
  rw[foldl_cons,filter_cons];by_cases c:p x=true
  ·rw[if_pos c,if_pos c,foldl_cons];exact my p h l _
  ·rw[if_neg c,if_neg c];exact my p h l _
theorem IW(T:TX mg){Fd Fj:List Dat->Option Dat}(Hk:Dn P w K mg base 4 "drawn_on" ["one","other","weighed"] 3 Fd)(hD:To Fd)(MB:Dn P w K mg base 4 "joined" ["upper","lower","place"] 3 Fj)(hJ:Ta Fj)(U:FnAt K mg "paired" (top 20) ["rows","place","weighed","most"]):
  ∃F,Dn P w K mg base 5 "paired" ["rows","place","weighed","most"] 4 F/\SY F:=by
 refine⟨_,cz ["rows","place","weighed","most","kept","row","lowers","upper","lower"] U fun nd _ _ _ _ _ _ _ hr=>
  (ae (EA w 4 nd)
  (ae (dF PassesOwn.never rfl (a5 0) (aB 5 nd)
  (ag (aM (bV hr (af (af (a5 5) a8) (a5 1)) a8) (ag (xh w 4 hr cG (a5 5))) aH)))
  (ae (nL 6 nd rfl (fB (tn:=["row"]) (fv:=["place"]) (js:=[1]) rfl (by decide +kernel) (by decide +kernel) rfl (by decide +kernel) (by decide +kernel) rfl
   (fun x hx=>by((have f6:x="place":=(by simpa using hx));(rcases f6 with rfl<;>exact⟨_,rfl⟩)))
   (fun p hp=>by((have gA:p=(("place" : Str),(1:Nat)):=(by simpa using hp));(rcases gA with rfl<;>exact⟨rfl,.inr (.inl rfl),.inl rfl,fun z=>by cases z⟩)))) (a5 0) (fun _ _ _ _=>(aB 0 (show(["row","place"]:List Str).Nodup by decide +kernel))) (fun _ _ _ _=>(lJ (kc (af (af (a5 0) a8) (a5 1)) a8))) (fun _ _ _ _=>(a5 0)) (dS rfl))
  (ae (dF PassesOwn.never rfl (cS (i7 rfl (fB (tn:=["row"]) (fv:=["place"]) (js:=[1]) rfl (by decide +kernel) (by decide +kernel) rfl (by decide +kernel) (by decide +kernel) rfl
   (fun x hx=>by((have f6:x="place":=(by simpa using hx));(rcases f6 with rfl<;>exact⟨_,rfl⟩)))
   (fun p hp=>by((have gA:p=(("place" : Str),(1:Nat)):=(by simpa using hp));(rcases gA with rfl<;>exact⟨rfl,.inr (.inl rfl),.inl rfl,fun z=>by cases z⟩)))) (a5 0) (fun _ _ _ _=>(aB 0 (show(["row","place"]:List Str).Nodup by decide +kernel))) (fun _ _ _ _=>(lJ (l8 (af (af (a5 0) a8) (a5 1)) a8))) (fun _ _ _ _=>(a5 0)) (dS rfl))) (aB 7 nd)
  (ag (dF PassesOwn.never rfl (a5 6) (aB 8 nd)
  (ag (aM (Lh (aw Hk hr (a6 (a5 7) (a6 (a5 8) (a6 (a5 2) a9)))) (a5 3)) (ag (xh w 4 hr cG (aw MB hr (a6 (a5 7) (a6 (a5 8) (a6 (a5 1) a9)))))) aH)))))
  (ag (Ez w 4 hr T.list)))))),?_⟩
 intro b m j most aE rows hb oP hj hR hw Oq W0 hN;have ai:∀r∈rows,aO (fM r.2) (.int (j:Int))=some (.int (FM.ent r j)):=fun r hr=>hZ (by rw[hR.len r hr];exact hj);have zr:rows.length<sizeLine:=by omega
 generalize Iu:(rows.filter fun r=>decide (0<FM.ent r j))=ups at hN;generalize Dr:(rows.filter fun r=>decide (FM.ent r j<0))=lows at hN;refine bP ?_;simp!;rw[ao (ah:=[some (.a7 (.list (rows.map aJ))),some (.a7 (.int (j:Int))),some (.a7 (.list (aE.map nat))),some (.a7 (.int (most:Int))),some (kO w []),none,none,none,none]) rfl]

 refine gx (I:=_) (i9 (l:=rows) (s:=[]) aJ (fun(ks:List FM.Row) Γ=>∃u,Γ=[some (.a7 (.list (rows.map aJ))),some (.a7 (.int (j:Int))),some (.a7 (.list (aE.map nat))),some (.a7 (.int (most:Int))),some (kO w ks),u,none,none,none]) (fun ks l=>ks.length+l.length<=rows.length/\∀r∈l,r∈rows) (fun ks r=>if decide (FM.ent r j=0)=true then FM.ins ks r else ks) (d:=.list (rows.map aJ)) rfl rfl ⟨by simp,fun _ h=>h⟩ ⟨none,rfl⟩ ?_) ?_
 ·rintro ks r l Γ ⟨hq,iX⟩ ⟨u,rfl⟩;rw[length_cons]at hq;have a1:=ai r (iX r mem_cons_self);refine⟨[(5,aJ r)],rfl,?_⟩;dsimp!;by_cases c:FM.ent r j=0
  ·refine⟨[some (.a7 (.list (rows.map aJ))),some (.a7 (.int (j:Int))),some (.a7 (.list (aE.map nat))),some (.a7 (.int (most:Int))),some (kO w (FM.ins ks r)),some (.a7 (aJ r)),none,none,none],?_,⟨_,by rw[if_pos (decide_eq_true c)]⟩,?_,fun x hx=>iX x (mem_cons_of_mem _ hx)⟩
   ·rw[gQ (by dsimp![iU,a1,cT,eq_true c])];exact EJ rfl rfl (by omega)
   ·rw[if_pos (decide_eq_true c)];have:=oO ks r;omega
  ·refine⟨[some (.a7 (.list (rows.map aJ))),some (.a7 (.int (j:Int))),some (.a7 (.list (aE.map nat))),some (.a7 (.int (most:Int))),some (kO w ks),some (.a7 (aJ r)),none,none,none],?_,⟨_,by rw[if_neg (by rw[decide_eq_true_eq];exact c)]⟩,?_,fun x hx=>iX x (mem_cons_of_mem _ hx)⟩
   ·rw[iT (by dsimp![iU,a1,cT,eq_false c])];rfl
   ·rw[if_neg (by rw[decide_eq_true_eq];exact c)];omega
 rintro Γ ⟨u,rfl⟩;rw[my];generalize S0:(rows.filter fun r=>decide (FM.ent r j=0)).foldl FM.ins []=K1;have hk0l:K1.length<=rows.length:=by
  rw[<- S0];have:∀(l s:List FM.Row),(l.foldl FM.ins s).length<=s.length+l.length:=fun l=>by
   induction l with
   |nil=>intro s;exact le_refl _
   |cons x l ih=>intro s;rw[foldl_cons,length_cons];have:=ih (FM.ins s x);have:=oO s x;omega
  have h1:=this (rows.filter fun r=>decide (FM.ent r j=0)) [];have h2:=length_filter_le (fun r=>decide (FM.ent r j=0)) rows;simp only[length_nil,zero_add]at h1;omega
 have Xj:c8 (aName 0) (bc (L3.f2 zw (L3.f2 aO (L3.f2 aO (aA 0) (fC (.int 1))) (aA 1)) (fC (.int 0)))) (aA 0) [none,some (.int (j:Int))] (rows.map aJ)=some (lows.map aJ):=by
  rw[<- Dr];refine jr aJ aJ _ rows fun r hr=>⟨[(0,aJ r)],rfl,?_,fun _=>rfl⟩;have a1:=ai r hr;dsimp![iU,a1,cc]
 have Xi:c8 (aName 0) (bc (L3.f2 rA (L3.f2 aO (L3.f2 aO (aA 0) (fC (.int 1))) (aA 1)) (fC (.int 0)))) (aA 0) [none,some (.int (j:Int))] (rows.map aJ)=some (ups.map aJ):=by
  rw[<- Iu];refine jr aJ aJ _ rows fun r hr=>⟨[(0,aJ r)],rfl,?_,fun _=>rfl⟩;have a1:=ai r hr;dsimp![iU,a1,dt]
 rw[ao (ah:=[some (.a7 (.list (rows.map aJ))),some (.a7 (.int (j:Int))),some (.a7 (.list (aE.map nat))),some (.a7 (.int (most:Int))),some (kO w K1),u,some (.a7 (.list (lows.map aJ))),none,none]) (by simp![nK,length_map,zr,Xj])];have Uv:∀r∈ups,r∈rows/\0<FM.ent r j:=fun r hr=>by rw[<- Iu]at hr;exact⟨(mem_filter.mp hr).1,of_decide_eq_true (mem_filter.mp hr).2⟩
 have UD:∀r∈lows,r∈rows/\FM.ent r j<0:=fun r hr=>by rw[<- Dr]at hr;exact⟨(mem_filter.mp hr).1,of_decide_eq_true (mem_filter.mp hr).2⟩
 refine gx (I:=_) (i9 (l:=ups) (s:=K1) aJ (fun(ks:List FM.Row) Γ=>∃x7 x8,Γ=[some (.a7 (.list (rows.map aJ))),some (.a7 (.int (j:Int))),some (.a7 (.list (aE.map nat))),some (.a7 (.int (most:Int))),some (kO w ks),u,some (.a7 (.list (lows.map aJ))),x7,x8]) (fun ks l=>ks.length+l.length*lows.length<sizeLine/\∀r∈l,r∈ups) (fun ks up=>lows.foldl (fun ks lo=>if decide (FM.drawn aE up lo<=most)=true then FM.ins ks (FM.joined j up lo)else ks) ks) (d:=.list (ups.map aJ)) (by simp![length_map,zr,Xi]) rfl ⟨by omega,fun _ h=>h⟩ ⟨none,none,rfl⟩ ?_) ?_
 ·rintro ks up l Γ ⟨hq,iX⟩ ⟨x7,x8,rfl⟩;rw[length_cons,succ_mul]at hq;obtain⟨zJ,Ou⟩:=Uv up (iX up mem_cons_self);refine⟨[(7,aJ up)],rfl,?_⟩;dsimp!;refine LY (i9 (l:=lows) (s:=ks) aJ (fun(xq:List FM.Row) Γ=>∃x8,Γ=[some (.a7 (.list (rows.map aJ))),some (.a7 (.int (j:Int))),some (.a7 (.list (aE.map nat))),some (.a7 (.int (most:Int))),some (kO w xq),u,some (.a7 (.list (lows.map aJ))),some (.a7 (aJ up)),x8]/\xq.length<=ks.length+lows.length) (fun xq l=>xq.length+l.length<=ks.length+lows.length/\∀r∈l,r∈lows) (fun ks lo=>if decide (FM.drawn aE up lo<=most)=true then FM.ins ks (FM.joined j up lo)else ks) (d:=.list (lows.map aJ)) rfl rfl ⟨le_refl _,fun _ h=>h⟩ ⟨x8,rfl,by omega⟩ ?_) ?_
  ·rintro xq lo l' Γ ⟨xx,w9⟩ ⟨x8,rfl,hk⟩;rw[length_cons]at xx;obtain⟨qc,sL⟩:=UD lo (w9 lo mem_cons_self);refine⟨[(8,aJ lo)],rfl,?_⟩;dsimp!;have ed:=hD m aE up lo hw (hR.len up zJ) (hR.len lo qc) Oq;obtain⟨ej,_⟩:=hJ b m j up lo hb oP hj (hR.len up zJ) (hR.len lo qc) (hR.bd up zJ) (hR.bd lo qc) (W0 up zJ lo qc Ou sL);by_cases c:FM.drawn aE up lo<=most
   ·have c':((FM.drawn aE up lo:Nat):Int)<=(most:Int):=by omega
    have Kc:=oO xq (FM.joined j up lo);refine⟨[some (.a7 (.list (rows.map aJ))),some (.a7 (.int (j:Int))),some (.a7 (.list (aE.map nat))),some (.a7 (.int (most:Int))),some (kO w (FM.ins xq (FM.joined j up lo))),u,some (.a7 (.list (lows.map aJ))),some (.a7 (aJ up)),some (.a7 (aJ lo))],?_,⟨_,by rw[if_pos (decide_eq_true c)],by rw[if_pos (decide_eq_true c)];omega⟩,by rw[if_pos (decide_eq_true c)];omega,fun x hx=>w9 x (mem_cons_of_mem _ hx)⟩;rw[gQ (by simp![ed,BK,eq_true c'])];exact EJ rfl (by simp![ej]) (by omega)
   ·have c':¬((FM.drawn aE up lo:Nat):Int)<=(most:Int):=by omega
    refine⟨[some (.a7 (.list (rows.map aJ))),some (.a7 (.int (j:Int))),some (.a7 (.list (aE.map nat))),some (.a7 (.int (most:Int))),some (kO w xq),u,some (.a7 (.list (lows.map aJ))),some (.a7 (aJ up)),some (.a7 (aJ lo))],?_,⟨_,by rw[if_neg (by rw[decide_eq_true_eq];exact c)],by rw[if_neg (by rw[decide_eq_true_eq];exact c)];omega⟩,by rw[if_neg (by rw[decide_eq_true_eq];exact c)];omega,fun x hx=>w9 x (mem_cons_of_mem _ hx)⟩;rw[iT (by simp![ed,BK,eq_false c'])];rfl
  ·rintro tX ⟨x8',rfl,BR⟩;exact⟨⟨_,_,rfl⟩,by omega,fun x hx=>iX x (mem_cons_of_mem _ hx)⟩
 ·rintro ah ⟨x7,x8,rfl⟩;have er:ups.foldl (fun ks up=>lows.foldl (fun ks lo=>if decide (FM.drawn aE up lo<=most)=true then FM.ins ks (FM.joined j up lo)else ks) ks) K1=FM.paired j aE most rows:=by
   unfold FM.paired FM.pairsOf;rw[List.foldl_append,S0,Iu,Dr,List.foldl_flatMap];congr 1
   funext ks up
   rw[my,List.foldl_map]
  rw[er];have:=Ht (w:=w) (i:=4) (Γ:=[some (.a7 (.list (rows.map aJ))),some (.a7 (.int (j:Int))),some (.a7 (.list (aE.map nat))),some (.a7 (.int (most:Int))),some (kO w (FM.paired j aE most rows)),u,some (.a7 (.list (lows.map aJ))),x7,x8]) rfl;rw[map_map]at this;exact this
def gf (qs:List Rat):Nat:=qs.foldr (fun q m=>q.den*m) 1
theorem Cn:∀qs:List Rat,0<gf qs
 |[]=>Nat.one_pos
 |q::qs=>Nat.mul_pos q.den_pos (Cn qs)
theorem zu(a b:Nat):((a:Int)).fdiv (b:Int)=((a/b:Nat):Int):=by
 rw[Int.fdiv_eq_ediv_of_nonneg _ (by omega),Int.natCast_ediv]
theorem O5(m d:Nat):((m:Int)*(d:Int)).fdiv ((Nat.gcd m d:Nat):Int)=((lcm m d:Nat):Int):=by
 rw[<- Int.natCast_mul,zu];rfl
theorem FE(m d:Nat)(h:0<m)(h2:0<d):lcm m d<=m*d:=le_of_dvd (Nat.mul_pos h h2) (Nat.lcm_dvd (Nat.dvd_mul_right m d) (Nat.dvd_mul_left d m))
abbrev SH (F:List Dat->Option Dat):Prop:=∀(c e:Nat) (k:FM.Kn) (qs:List Rat),qs.length<=900->c<=4000->e<=4000->(∀q∈qs,SR c q)->gf qs<2^e->F [.str (bC k),.list (qs.map qD)]=some (aJ (FM.whole k qs))/\∀x∈(FM.whole k qs).2,x.natAbs<2^(c+e)
theorem w5:∀(qs:List Rat) (m:Nat),0<m->qs.foldl (fun m q=>lcm m q.den) m<=m*gf qs
 |[],m,_=>by show m<=m*1;omega
 |q::qs,m,h=>by
  have p:=q.den_pos;have h1:=w5 qs (lcm m q.den) (Nat.lcm_pos h p);refine le_trans h1 ?_;show _<=m*(q.den*gf qs);rw[<- Nat.mul_assoc];exact Nat.mul_le_mul_right _ (FE m q.den h p)
theorem M7(T:TX mg)(gH:Dn P w K mg base 1 "common_divisor" ["a","b"] 2 q5)(U:FnAt K mg "whole_row" (top 13) ["kind","fractions"]):
  ∃F,Dn P w K mg base 2 "whole_row" ["kind","fractions"] 2 F/\SH F:=by
 refine⟨_,cz ["kind","fractions","multiple","n","d"] U fun nd _ _ _ _ _ _ _ hr=>
  (ae (az 2 nd a8)
  (ae (dF PassesOwn.never rfl (a5 1) (dG (n:=2) rfl (aY (aB 3 nd) (aY (aB 4 nd) cV)))
  (ag (az 2 nd (ie (bQ (a5 2) (a5 4)) (aw gH hr (a6 (a5 2) (a6 (a5 4) a9)))))))
  (ag (ar (aS (k:=0) (a6 (a5 0) (a6 (i8 T.tuple (a6 (cS (kH rfl (fB (tn:=["n","d"]) (fv:=["multiple"]) (js:=[2]) rfl (by decide +kernel) (by decide +kernel) rfl (by decide +kernel) (by decide +kernel) rfl
   (fun x hx=>by((have f6:x="multiple":=(by simpa using hx));(rcases f6 with rfl<;>exact⟨_,rfl⟩)))
   (fun p hp=>by((have gA:p=(("multiple" : Str),(2:Nat)):=(by simpa using hp));(rcases gA with rfl<;>exact⟨rfl,.inr (.inl rfl),.inl rfl,fun z=>by cases z⟩)))) (HB (a5 1)) (fun _ _ _ _=>(dG (n:=2) rfl (aY (aB 0 (show(["n","d","multiple"]:List Str).Nodup by decide +kernel)) (aY (aB 1 (show(["n","d","multiple"]:List Str).Nodup by decide +kernel)) cV)))) (fun _ _ _ _=>dh) (fun _ _ _ _=>(bQ (a5 0) (ie (a5 2) (a5 1)))) (ub rfl rfl))) a9)) a9 (hs:=aW)))))))),?_⟩
 intro c e k qs hl hc he hq hP;have z2:2<=sizeLine:=sz (by decide);have zl:qs.length<sizeLine:=lt_of_lt_of_le (show qs.length<1000 by omega) (sz (by decide));have hL:FM.iP qs<2^e:=by
  have:=w5 qs 1 (by decide);rw[one_mul]at this;exact lt_of_le_of_lt this hP
 have hLp:0<FM.iP qs:=FM.tG qs;constructor
 ·refine bP ?_;simp!;rw[ao (ah:=[some (.a7 (.str (bC k))),some (.a7 (.list (qs.map qD))),some (.a7 (.int 1)),none,none]) (by simp![])];refine gx (I:=_) (i9 (l:=qs) (s:=1) qD (fun(m:Nat) Γ=>∃x3 x4,Γ=[some (.a7 (.str (bC k))),some (.a7 (.list (qs.map qD))),some (.a7 (.int (m:Int))),x3,x4]) (fun m l=>0<m/\m*gf l<2^e/\∀q∈l,q∈qs) (fun m q=>lcm m q.den) (d:=.list (qs.map qD)) rfl rfl ⟨by decide,by rw[one_mul];exact hP,fun _ h=>h⟩ ⟨none,none,rfl⟩ ?_) ?_
  ·rintro m q l Γ ⟨h1,h2,h3⟩ ⟨x3,x4,rfl⟩;have p:=q.den_pos;have Sq:m*q.den*gf l<2^e:=by rw[Nat.mul_assoc];exact h2
   have lp:=Cn l;have RY:m*q.den<2^e:=lt_of_le_of_lt (Nat.le_mul_of_pos_right _ lp) Sq;have xy:m<2^e:=lt_of_le_of_lt (Nat.le_mul_of_pos_right _ p) RY;have S4:q.den<2^e:=lt_of_le_of_lt (Nat.le_mul_of_pos_left _ h1) RY;refine⟨[(3,.int q.num),(4,.int (q.den:Int))],rfl,?_⟩;dsimp!;have e1:q5 [.int (m:Int),.int (q.den:Int)]=some (.int ((Nat.gcd m q.den:Nat):Int)):=by
    show(if 0<=(m:Int)/\0<=(q.den:Int)then some (Dat.int (gcd (m:Int) (q.den:Int)))else none)=_;rw[if_pos ⟨by omega,by omega⟩];rfl
   have gp:0<Nat.gcd m q.den:=Nat.gcd_pos_of_pos_left _ h1;have e2:=Dg (a:=(m:Int)) (b:=(q.den:Int)) (by rw[natAbs_natCast];exact dM xy (by omega)) (by rw[natAbs_natCast];exact dM S4 (by omega));have e3:=je (a:=(m:Int)*(q.den:Int)) (b:=((Nat.gcd m q.den:Nat):Int)) (by omega) (lt_trans (log2_small (k:=4000) (by decide) (by rw[natAbs_natCast];exact lt_of_le_of_lt (Nat.gcd_le_left _ h1) (dM xy he))) (by decide));rw[O5]at e3;refine⟨[some (.a7 (.str (bC k))),some (.a7 (.list (qs.map qD))),some (.a7 (.int ((lcm m q.den:Nat):Int))),some (.a7 (.int q.num)),some (.a7 (.int (q.den:Int)))],by simp![e1,e2,e3],⟨_,_,rfl⟩,Nat.lcm_pos h1 p,lt_of_le_of_lt (Nat.mul_le_mul_right _ (FE m q.den h1 p)) Sq,fun x hx=>h3 x (mem_cons_of_mem _ hx)⟩
  ·rintro ah ⟨x3,x4,rfl⟩;have eL:(qs.foldl (fun m q=>lcm m q.den) 1:Nat)=FM.iP qs:=rfl;rw[eL];have ec:c8 (lz 2 (gS (aName 0) (gS (aName 1) ny))) gu (L3.f2 jA (aA 0) (L3.f2 si (aA 2) (aA 1))) [none,none,some (.int (FM.iP qs:Int))] (qs.map qD)=some ((FM.whole k qs).2.map .int):=by
    refine cZ _ _ (by rw[length_map,length_map];show _=(qs.map _).length;rw[length_map]) fun i d o g1 g2=>?_;unfold FM.whole at g2;rw[getElem?_map]at g1 g2;rw[getElem?_map]at g2;cases hz:qs[i]? with
    |none=>rw[hz]at g1;cases g1
    |some q=>
     rw[hz]at g1 g2;cases g1;cases g2;have sI:=hq q (mem_of_getElem? hz);have p:=q.den_pos;refine⟨[(0,.int q.num),(1,.int (q.den:Int))],rfl,?_⟩;have e3:=je (a:=(FM.iP qs:Int)) (b:=(q.den:Int)) (by omega) (lt_trans (log2_small (k:=4000) (by decide) (by rw[natAbs_natCast];exact dM sI.ld hc)) (by decide));rw[zu]at e3;have e2:=Dg (a:=q.num) (b:=((FM.iP qs/q.den:Nat):Int)) (dM sI.ln (by omega)) (by rw[natAbs_natCast];exact lt_of_le_of_lt (Nat.div_le_self _ _) (dM hL (by omega)));simp![e3,e2]
   simp![hG,length_map,zl,ec,z2];rfl
 ·intro x hx;obtain⟨q,sI,rfl⟩:=mem_map.mp (show x∈qs.map (fun q=>q.num*((FM.iP qs/q.den:Nat):Int))from hx);exact d4 (hq q sI).ln (by rw[natAbs_natCast];exact lt_of_le_of_lt (Nat.div_le_self _ _) hL)
abbrev aq (o:FM.Ol):Dat:=.tuple [.str (bC o.1),.tuple (o.2.1.map qD),qD o.2.2]
def eN:Nat->List FM.Ol->List (Nat×FM.Ol)
 |_,[]=>[]
 |i,o::os=>(i,o)::eN (i+1) os
abbrev Cj (p:Nat×FM.Ol):Dat:=.tuple [.int (p.1:Int),aq p.2]
theorem DE:∀(os:List FM.Ol) (i:Nat),kL i (os.map aq)=(eN i os).map Cj
 |[],i=>rfl
 |o::os,i=>by rw[map_cons,kL,eN,map_cons,DE os (i+1)]
theorem Aa:∀(os:List FM.Ol) (i:Nat),(eN i os).length=os.length
 |[],i=>rfl
 |o::os,i=>by rw[eN,length_cons,length_cons,Aa os]
theorem A7(k:Nat):∀(os:List FM.Ol) (i:Nat),(FM.cB k i os).length=os.length
 |[],i=>rfl
 |o::os,i=>by rw[FM.cB,length_cons,length_cons,A7 k os]
theorem Ci(k:Nat):∀(os:List FM.Ol) (i:Nat) (acc:List FM.Row),(eN i os).foldl (fun acc (p:Nat×FM.Ol)=>acc++[FM.whole p.2.1 (p.2.2.1++[0,p.2.2.2]++FM.dJ k p.1)]) acc=acc++FM.cB k i os
 |[],i,acc=>by show acc=acc++[];rw[append_nil]
 |o::os,i,acc=>by
  rw[eN,foldl_cons,Ci k os (i+1),FM.cB,append_assoc];rfl
theorem Gw:∀{os:List FM.Ol} {i:Nat} {p:Nat×FM.Ol},p∈eN i os->p.2∈os/\p.1<i+os.length
 |[],i,p,h=>by simp[eN]at h
 |o::os,i,p,h=>by
  rw[eN]at h;rcases mem_cons.mp h with e|h
  ·rw[e];exact⟨mem_cons_self,by rw[length_cons];omega⟩
  ·obtain⟨h1,h2⟩:=Gw h;exact⟨mem_cons_of_mem _ h1,by rw[length_cons];omega⟩
theorem vp(a b:List Rat)(h:a.length+b.length<=1000):pY (.list (a.map qD)) (.list (b.map qD))=some (.list ((a++b).map qD)):=by
 show(if(a.map qD).length+(b.map qD).length<=sizeLine then some (Dat.list (a.map qD++b.map qD))else none)=_;rw[if_pos (by rw[length_map,length_map];exact sz h),map_append]
theorem Kq{α:Type}(d:α):∀m:Nat,(List.replicate m [d]).flatten=List.replicate m d
 |0=>rfl
 |m+1=>by rw[replicate_succ,flatten_cons,Kq d m,replicate_succ];rfl
theorem N9(j:Int)(h1:0<=j)(h2:j<=2000):oo [.int j]=some (iO 0 j.toNat):=if_pos ⟨by omega,by omega⟩
theorem N8(n:Nat)(h:n<=2000):oo [.int (n:Int)]=some (iO 0 n):=by
 have:=N9 (n:Int) (by omega) (by omega);rw[toNat_natCast]at this;exact this
variable {ρ:ax}
theorem yL{fb:ax->Option Dat}(h:fb ρ=some (.int n))(hn:n<=100):pT (nU (ay (fC (.tuple [.int 0,.int 1])) bp)) fb ρ=some ((List.replicate n (0:Rat)).map qD):=by
 have z1:1<=sizeLine:=sz (by decide);have zm:1*((n:Int).toNat)<=sizeLine:=by rw[one_mul,toNat_natCast];exact sz (by omega)
 have e1:nU (ay (fC (.tuple [.int 0,.int 1])) bp) ρ=some [.tuple [.int 0,.int 1]]:=by
  show(if 1<=sizeLine then some [Dat.tuple [.int 0,.int 1]]else none)=_;exact if_pos z1
 unfold pT;rw[e1,Option.bind_some,h,Option.bind_some];show(if _ then some (List.replicate ((n:Int).toNat) [Dat.tuple [Dat.int 0,Dat.int 1]]).flatten else none)=_;rw[if_pos ⟨⟨by omega,by omega⟩,zm⟩,Kq,List.map_replicate,toNat_natCast];rfl
theorem q0:qD 0=.tuple [.int 0,.int 1]:=rfl
theorem q1:qD 1=.tuple [.int 1,.int 1]:=rfl
variable {c:Nat}
theorem kU(h:1<=c):SR c 0:=⟨pow_pos (by decide),one_lt_two_pow (by omega)⟩
theorem uh(h:1<=c):SR c 1:=⟨one_lt_two_pow (by omega),one_lt_two_pow (by omega)⟩
theorem jq:∀a b:List Rat,gf (a++b)=gf a*gf b
 |[],b=>by show gf b=1*gf b;omega
 |q::a,b=>by show q.den*gf (a++b)=q.den*gf a*gf b;rw[jq a b,Nat.mul_assoc]
theorem oU:∀{a:List Rat},(∀q∈a,q.den=1)->gf a=1
 |[],_=>rfl
 |q::a,h=>by show q.den*gf a=1;rw[h q mem_cons_self,oU fun x hx=>h x (mem_cons_of_mem _ hx)]
theorem p6(h:q∈FM.dJ k i):q=0\/q=1:=by
 obtain⟨c,_,rfl⟩:=mem_map.mp h;split
 ·exact .inr rfl
 ·exact .inl rfl
structure wG (c e n:Nat) (o:FM.Ol):Prop where
 len:o.2.1.length=n
 sq:∀q∈o.2.1,SR c q
 bd:SR c o.2.2
 dn:gf o.2.1*o.2.2.den<2^e
abbrev Ti (F:List Dat->Option Dat):Prop:=∀(c e:Nat) (p:List Rat) (os:List FM.Ol),1<=c->c<=3000->e<=4000->p.length<=100->os.length<=100->(∀q∈p,SR c q)->gf p<2^e->(∀o∈os,wG c e p.length o)->F [.tuple (p.map qD),.list (os.map aq)]=some (.list ((FM.bo p os).map aJ))
theorem neg_den(q:Rat):(0-q).den=q.den:=by
 have:(0:Rat)-q=-q:=by grind
 rw[this];exact Rat.neg_den q
theorem gX(h:SR c q):SR c (0-q):=by
 refine⟨?_,by rw[neg_den];exact h.ld⟩;have:(0:Rat)-q=-q:=by grind
 rw[this,Rat.neg_num,natAbs_neg];exact h.ln
theorem sj:∀p:List Rat,gf (p.map fun q=>0-q)=gf p
 |[]=>rfl
 |q::p=>by show(0-q).den*gf (p.map fun q=>0-q)=q.den*gf p;rw[neg_den,sj p]
variable {a1:Addr} {Fw:List Dat->Option Dat}
theorem Mp(T:TX mg){a2:Addr}(Z1:TC K mg "ZERO_elimination" [.int 0,.int 1] a1)(Z2:TC K mg "ONE" [.int 1,.int 1] a2)(vC:Dn P w K mg base 3 "whole_row" ["kind","fractions"] 2 Fw)(hW:SH Fw)(jT:Dn P w K mg base 3 "minus" ["a","b"] 2 fE)(U:FnAt K mg "first_rows" (top 14) ["parts","others"]):
  ∃F,Dn P w K mg base 4 "first_rows" ["parts","others"] 2 F/\Ti F:=by
 refine⟨_,cz ["parts","others","rows","place","other","weights","less"] U fun nd _ _ _ _ _ _ _ hr=>
  (ae (mP 2 nd (j6 a9))
  (ae (kb PassesOwn.never rfl (qJ T.enumerate (a6 (a5 1) a9)) (dG (n:=2) rfl (aY (aB 3 nd) (aY (aB 4 nd) cV)))
  (ae (uD 5 nd rfl (fB (tn:=["one"]) (fv:=["place"]) (js:=[3]) rfl (by decide +kernel) (by decide +kernel) rfl (by decide +kernel) (by decide +kernel) rfl
   (fun x hx=>by((have f6:x="place":=(by simpa using hx));(rcases f6 with rfl<;>exact⟨_,rfl⟩)))
   (fun p hp=>by((have gA:p=(("place" : Str),(3:Nat)):=(by simpa using hp));(rcases gA with rfl<;>exact⟨rfl,.inr (.inl rfl),.inl rfl,fun z=>by cases z⟩)))) (lB T.range (a6 (cI T.len (a6 (a5 1) a9)) a9 (hs:=aW))) (fun _ _ _ _=>(aB 0 (show(["one","place"]:List Str).Nodup by decide +kernel))) (fun _ _ _ _=>dh) (fun _ _ _ _=>(gy (bV hr (a5 1) (a5 0)) (cq Z2.mg Z2.tup) (cq Z1.mg Z1.tup))) (dS rfl))
  (ag (jJ 2 (aw vC hr (a6 (af (a5 4) a8) (a6 (l9 (l9 (cS (qL T.list (a6 (af (a5 4) a8) a9 (hs:=aD)))) (gV (a6 (cq Z1.mg Z1.tup) (a6 (af (a5 4) a8) a9 (hs:=aD))))) (a5 5)) a9 (hs:=d9)) (hs:=aD)))))))
  (ae (nL 6 nd rfl (ky (N':=["part"])) (a5 0) (fun _ _ _ _=>(aB 0 (show(["part"]:List Str).Nodup by decide +kernel))) (fun _ _ _ _=>dh) (fun _ _ _ _=>(aw jT hr (a6 (cq Z1.mg Z1.tup) (a6 (a5 0) a9)))) (dS rfl))
  (ae (jJ 2 (aw vC hr (a6 aT (a6 (l9 (l9 (a5 6) (gV (a6 (cq Z2.mg Z2.tup) (a6 (cq Z1.mg Z1.tup) a9)))) (cS (tf (j6 (a6 (cq Z1.mg Z1.tup) a9)) (cI T.len (a6 (a5 1) a9))))) a9 (hs:=d9)))))
  (ag (ar (a5 2))))))),?_⟩
 intro c e p os jM hc he hp gY lZ zP bw;have z0:0<=sizeLine:=zero_le _;have z1:1<=sizeLine:=sz (by decide);have z2:2<=sizeLine:=sz (by decide);have lo:=ip aq os;have n6:rh (ay (aA 1) bp) (bx [some (.a7 (.tuple (p.map qD))),some (.a7 (.list (os.map aq))),some (.own ([])),none,none,none,none])=some ((eN 0 os).map Cj):=by
  rw[<- DE];rfl
 refine bP ?_;simp!;rw[ao (ah:=[some (.a7 (.tuple (p.map qD))),some (.a7 (.list (os.map aq))),some (.own ([])),none,none,none,none]) (by simp![z0])];refine gx (I:=_) (lM (l:=eN 0 os) (s:=[]) Cj (fun(acc:List FM.Row) Γ=>∃x3 x4 x5,Γ=[some (.a7 (.tuple (p.map qD))),some (.a7 (.list (os.map aq))),some (.own (acc.map aJ)),x3,x4,x5,none]) (fun acc l=>acc.length+l.length<=100/\∀x∈l,x∈eN 0 os) (fun acc (q:Nat×FM.Ol)=>acc++[FM.whole q.2.1 (q.2.2.1++[0,q.2.2.2]++FM.dJ os.length q.1)]) n6 ⟨by
   rw[Aa];exact le_trans (le_of_eq (zero_add _)) gY,fun _ h=>h⟩ ⟨none,none,none,rfl⟩ ?_) ?_
 ·rintro acc ⟨i,o⟩ l Γ ⟨hq,iX⟩ ⟨x3,x4,x5,rfl⟩;rw[length_cons]at hq;obtain⟨VY,Kc⟩:=Gw (iX (i,o) mem_cons_self);have ho:=bw o VY;refine⟨[(3,.int (i:Int)),(4,aq o)],rfl,?_⟩;dsimp!;have eR:oo [.int ((os.length:Nat):Int)]=some (iO 0 os.length):=N8 os.length (by omega);have ec:c8 (aName 0) gu (vd (bc (L3.f2 cH (aA 1) (aA 0))) (fC (.tuple [.int 1,.int 1])) (fC (.tuple [.int 0,.int 1]))) [none,some (.int (i:Int))] (iO 0 os.length)=some ((FM.dJ os.length i).map qD):=by
   refine cZ _ _ (by rw[ka,length_map,FM.p4]) fun n d o' h1 h2=>?_;obtain⟨hn,rfl⟩:=td h1;refine⟨[(0,.int (0+(n:Int)))],rfl,?_⟩;rw[getElem?_map]at h2;have hu:(FM.dJ os.length i)[n]?=some (if i=n then 1 else 0):=by
    unfold FM.dJ;rw[getElem?_map,List.getElem?_range hn];rfl
   rw[hu]at h2;cases h2;by_cases ci:i=n
   ·have Pu:(i:Int)=0+(n:Int):=by omega
    rw[if_pos ci,q1];simp![cT,eq_true Pu]
   ·have Pu:¬(i:Int)=0+(n:Int):=by omega
    rw[if_neg ci,q0];simp![cT,eq_false Pu]
  have zn:os.length<sizeLine:=lt_of_lt_of_le (show os.length<1000 by omega) (sz (by decide));rw[ao (ah:=[some (.a7 (.tuple (p.map qD))),some (.a7 (.list (os.map aq))),some (.own (acc.map aJ)),some (.a7 (.int (i:Int))),some (.a7 (aq o)),some (.a7 (.list ((FM.dJ os.length i).map qD))),none]) (B5 (Aj (pL (as:=[.int ((os.length:Nat):Int)]) (by simp![lo]) eR) (by rw[ka];exact zn) ec))];have a1:=vp o.2.1 [0,o.2.2] (by rw[ho.len];show _+2<=_;omega);have a2:=vp (o.2.1++[0,o.2.2]) (FM.dJ os.length i) (by rw[length_append,ho.len,FM.p4];show _+2+_<=_;omega);have a1:pY (.list (o.2.1.map qD)) (.list [.tuple [.int 0,.int 1],qD o.2.2])=some (.list ((o.2.1++[0,o.2.2]).map qD)):=a1;obtain⟨ew,_⟩:=hW c e o.1 (o.2.1++[0,o.2.2]++FM.dJ os.length i) (by rw[length_append,length_append,ho.len,FM.p4];show _+2+_<=_;omega) (by omega) he (fun q hq=>by
   rcases mem_append.mp hq with h|h
   ·rcases mem_append.mp h with h|h
    ·exact ho.sq q h
    ·rcases mem_cons.mp h with h|h
     ·rw[h];exact kU jM
     ·rw[mem_singleton.mp h];exact ho.bd
   ·rcases p6 h with e|e
    ·rw[e];exact kU jM
    ·rw[e];exact uh jM) (by
   rw[jq,jq,oU (a:=FM.dJ os.length i) (fun q hq=>by rcases p6 hq with e|e<;>(rw[e];rfl)),mul_one];show gf o.2.1*(1*(o.2.2.den*1))<_;rw[one_mul,mul_one];exact ho.dn)
  have l1:uO [.tuple (o.2.1.map qD)]=some (o.2.1.map qD):=rfl;have zs:acc.length<sizeLine:=lt_of_lt_of_le (show acc.length<1000 by omega) (sz (by decide));refine⟨[some (.a7 (.tuple (p.map qD))),some (.a7 (.list (os.map aq))),some (.own (acc.map aJ++[aJ (FM.whole o.1 (o.2.1++[0,o.2.2]++FM.dJ os.length i))])),some (.a7 (.int (i:Int))),some (.a7 (aq o)),some (.a7 (.list ((FM.dJ os.length i).map qD))),none],?_,⟨_,_,_,by rw[map_append];rfl⟩,by rw[length_append];show acc.length+1+l.length<=100;omega,fun x hx=>iX x (mem_cons_of_mem _ hx)⟩;simp![V7,V6,V5,l1,a1,a2,ew,length_map,zs,z2]
 ·rintro ah ⟨x3,x4,x5,rfl⟩;rw[Ci,nil_append];have zp:p.length<sizeLine:=lt_of_lt_of_le (show p.length<1000 by omega) (sz (by decide));have ec:c8 (aName 0) gu (ia 2 fE (ay (fC (.tuple [.int 0,.int 1])) (ay (aA 0) bp))) [none] (p.map qD)=some ((p.map fun q=>0-q).map qD):=by
   refine cZ _ _ (by rw[length_map,length_map,length_map]) fun n d o' h1 h2=>?_;rw[getElem?_map]at h1 h2;rw[getElem?_map]at h2;cases hz:p[n]? with
   |none=>rw[hz]at h1;cases h1
   |some q=>
    rw[hz]at h1 h2;cases h1;cases h2;refine⟨[(0,qD q)],rfl,?_⟩;have em:fE [.tuple [.int 0,.int 1],qD q]=some (qD (0-q)):=mI (kU (c:=1) (by decide)) (lZ q (mem_of_getElem? hz)) (by decide) (by omega);simp![em]
  rw[ao (ah:=[some (.a7 (.tuple (p.map qD))),some (.a7 (.list (os.map aq))),some (.own ((FM.cB os.length 0 os).map aJ)),x3,x4,x5,some (.a7 (.list ((p.map fun q=>0-q).map qD)))]) (by simp![nK,length_map,zp,ec])];have a1:=vp (p.map fun q=>0-q) [1,0] (by rw[length_map];show _+2<=_;omega);have a2:=vp ((p.map fun q=>0-q)++[1,0]) (List.replicate os.length 0) (by rw[length_append,length_map,length_replicate];show _+2+_<=_;omega);have a1:pY (.list ((p.map fun q=>0-q).map qD)) (.list [.tuple [.int 1,.int 1],.tuple [.int 0,.int 1]])=some (.list ((p.map (fun q=>0-q)++[1,0]).map qD)):=a1;obtain⟨ew,_⟩:=hW c e .eq ((p.map fun q=>0-q)++[1,0]++List.replicate os.length 0) (by rw[length_append,length_append,length_map,length_replicate];show _+2+_<=_;omega) (by omega) he (fun q hq=>by
   rcases mem_append.mp hq with h|h
   ·rcases mem_append.mp h with h|h
    ·obtain⟨x,hx,rfl⟩:=mem_map.mp h;exact gX (lZ x hx)
    ·rcases mem_cons.mp h with h|h
     ·rw[h];exact uh jM
     ·rw[mem_singleton.mp h];exact kU jM
   ·rw[(mem_replicate.mp h).2];exact kU jM) (by
   rw[jq,jq,oU (a:=List.replicate os.length 0) (fun q hq=>by rw[(mem_replicate.mp hq).2];rfl),mul_one,sj];show gf p*1<_;rw[mul_one];exact zP)
  have er:fL (pT (nU (ay (fC (.tuple [.int 0,.int 1])) bp)) (fZ kI (ay (aA 1) bp))) (bx [some (.a7 (.tuple (p.map qD))),some (.a7 (.list (os.map aq))),some (.own ((FM.cB os.length 0 os).map aJ)),x3,x4,x5,some (.a7 (.list ((p.map fun q=>0-q).map qD)))])=some (.list ((List.replicate os.length (0:Rat)).map qD)):=by
   unfold fL;rw[yL (n:=os.length) lo gY];rfl
  have zf:(FM.cB os.length 0 os).length<sizeLine:=by
   rw[A7];exact lt_of_lt_of_le (show os.length<1000 by omega) (sz (by decide))
  have ks:bC .eq="=":=rfl;rw[ks]at ew;have UY:(FM.bo p os).map aJ=(FM.cB os.length 0 os).map aJ++[aJ (FM.whole .eq (p.map (fun q=>0-q)++[1,0]++List.replicate os.length 0))]:=by
   show(FM.cB os.length 0 os++[_]).map aJ=_;rw[map_append];rfl
  rw[UY];generalize fL (pT (nU (ay (fC (.tuple [.int 0,.int 1])) bp)) (fZ kI (ay (aA 1) bp)))=gr at *;have er2:∀(y3 y4 y5:Option Dat),True:=fun _ _ _=>trivial;rw[ao (ah:=[some (.a7 (.tuple (p.map qD))),some (.a7 (.list (os.map aq))),some (.own ((FM.cB os.length 0 os).map aJ++[aJ (FM.whole .eq (p.map (fun q=>0-q)++[1,0]++List.replicate os.length 0))])),x3,x4,x5,some (.a7 (.list ((p.map fun q=>0-q).map qD)))]) (by
   simp only[bx,map_cons,map_nil]at er;simp![er,a1,a2,ew,length_map,zf,z2])]
  simp![]
theorem CU:((a.num,(a.den:Int)):Int×Int)=(b.num,(b.den:Int))↔a=b:=by
 constructor
 ·intro h;obtain⟨h1,h2⟩:=Prod.mk.inj h;exact Rat.ext h1 (by omega)
 ·intro h;rw[h]
theorem jV(a b:Rat):cH (qD a) (qD b)=some (.bool (decide (a=b))):=by
 have:=Ce (a.num,(a.den:Int)) (b.num,(b.den:Int));rw[show decide ((a.num,(a.den:Int))=(b.num,(b.den:Int)))=decide (a=b)from decide_eq_decide.mpr CU]at this;exact this
theorem JW(a b:Rat):fI (qD a) (qD b)=some (.bool (!decide (a=b))):=by
 have:=LN (a.num,(a.den:Int)) (b.num,(b.den:Int));rw[show decide ((a.num,(a.den:Int))=(b.num,(b.den:Int)))=decide (a=b)from decide_eq_decide.mpr CU]at this;exact this
theorem GJ(T:TX mg)(Z1:TC K mg "ZERO_elimination" [.int 0,.int 1] a1)(nD:Dn P w K mg base 3 "below" ["a","b"] 2 d5)(U:FnAt K mg "is_never" (top 27) ["kind","bound"]):
  ∃F,Dn P w K mg base 4 "is_never" ["kind","bound"] 2 F/\∀(n:Nat) (k:FM.Kn) (b:Rat),n<=4000->SR n b->F [.str (bC k),qD b]=some (.bool (FM.cO k b)):=by
 refine⟨_,cz ["kind","bound"] U fun nd _ _ _ _ _ _ _ hr=>
  (ae (aM (bV hr (a5 0) aT) (ag (ar (EH hr (a5 1) (cq Z1.mg Z1.tup)))) aH)
  (ag (ar (oF (aw nD hr (a6 (a5 1) (a6 (cq Z1.mg Z1.tup) a9))) (dW (fS (fH hr (a5 0) aT) (dW (fH hr (a5 1) (cq Z1.mg Z1.tup))))))))),?_⟩
 intro n k b hn hb;have e1:fI (qD b) (.tuple [.int 0,.int 1])=some (.bool (!decide (b=0))):=JW b 0;have e2:cH (qD b) (.tuple [.int 0,.int 1])=some (.bool (decide (b=0))):=jV b 0;have e3:d5 [qD b,.tuple [.int 0,.int 1]]=some (.bool (decide (b<0))):=iL hb (kU (c:=1) (by decide)) hn (by decide);by_cases c1:bC k="="
 ·have:=(iq k).mp c1;subst this;have er:FM.cO .eq b=!decide (b=0):=by show decide (b≠0)=_;rw[decide_not]
  rw[er];simp![cY,eq_true c1,e1]
 ·by_cases c2:bC k="<"
  ·have:=(yi k).mp c2;subst this;have er:FM.cO .lt b=(decide (b<0) || decide (b=0)):=rfl;rw[er];by_cases c3:b<0
   ·rw[decide_eq_true c3]at e3 ⊢;simp![cY,eq_false c1,eq_true c2,e3,Bool.true_or]
   ·rw[decide_eq_false c3]at e3 ⊢;simp![cY,eq_false c1,eq_true c2,e3,e2,Bool.false_or]
  ·have hk:k=.le:=by
    cases k with
    |eq=>exact absurd rfl c1
    |lt=>exact absurd rfl c2
    |le=>rfl
   subst hk;have er:FM.cO .le b=decide (b<0):=rfl;rw[er];by_cases c3:b<0
   ·rw[decide_eq_true c3]at e3 ⊢;simp![cY,eq_false c1,eq_false c2,e3]
   ·rw[decide_eq_false c3]at e3 ⊢;simp![cY,eq_false c1,eq_false c2,e3]
abbrev fk (b:Bool):Str:=if b=true then "<" else "<="
def dC:Option FM.fO->Dat
 |none=>.none
 |some b=>.tuple [.str (fk b.1),qD b.2.1,.list (b.2.2.map qD)]
def j7:Option Rat->Dat
 |none=>.none
 |some q=>qD q
theorem gR:lS .none .none=some (.bool true):=rfl
theorem uS(q:Rat):lS (qD q) .none=some (.bool false):=rfl
theorem mr(b:FM.fO):lS (dC (some b)) .none=some (.bool false):=rfl
theorem Mc(T:TX mg)(U:FnAt K mg "number_of" (top 31) ["end"]):
  ∃F,Dn P w K mg base 1 "number_of" ["end"] 1 F/\∀b,F [dC b]=some (j7 (FM.gI b)):=by
 refine⟨_,cz ["end"] U fun nd _ _ _ _ _ _ _ hr=>
  (ag (ar (gy (cR (a5 0) bK) bK (af (a5 0) a8)))),?_⟩
 intro b;cases b with
 |none=>rfl
 |some b=>rfl
theorem IU(T:TX mg)(Z1:TC K mg "ZERO_elimination" [.int 0,.int 1] a1)(jT:Dn P w K mg base 3 "minus" ["a","b"] 2 fE)(U:FnAt K mg "turned_number_of" (top 32) ["end"]):
  ∃F,Dn P w K mg base 4 "turned_number_of" ["end"] 1 F/\∀(n:Nat) b,n<=4000->(∀x,b=some x->SR n x.2.1)->F [dC b]=some (j7 (FM.gq b)):=by
 refine⟨_,cz ["end"] U fun nd _ _ _ _ _ _ _ hr=>
  (ag (ar (gy (cR (a5 0) bK) bK (aw jT hr (a6 (cq Z1.mg Z1.tup) (a6 (af (a5 0) a8) a9 (hs:=aD))))))),?_⟩
 intro n b hn hb;cases b with
 |none=>rfl
 |some b=>
  have e:fE [.tuple [.int 0,.int 1],qD b.2.1]=some (qD (0-b.2.1)):=mI (kU (c:=1) (by decide)) (hb b rfl) (by decide) hn;have a1:aO (dC (some b)) (.int 1)=some (qD b.2.1):=rfl;have er:j7 (FM.gq (some b))=qD (0-b.2.1):=rfl;rw[er];dsimp![mr,a1,e]
theorem Rn(h:2<=c):SR c 2:=⟨lt_of_lt_of_le (show(2:Nat)<2^2 by decide) (pow_le_pow_right (by decide) h),one_lt_two_pow (by omega)⟩
theorem GL(T:TX mg){a2 a3:Addr}(Z1:TC K mg "ZERO_elimination" [.int 0,.int 1] a1)(Z2:TC K mg "ONE" [.int 1,.int 1] a2)(Z3:TC K mg "TWO" [.int 2,.int 1] a3)(vD:Dn P w K mg base 3 "plus" ["a","b"] 2 iK)(jT:Dn P w K mg base 3 "minus" ["a","b"] 2 fE)(DY:Dn P w K mg base 3 "over" ["a","b"] 2 oW)(U:FnAt K mg "between" (top 33) ["least","greatest"]):
  ∃F,Dn P w K mg base 4 "between" ["least","greatest"] 2 F/\∀(n:Nat) l g,n<=1900->(∀x,l=some x->SR n x)->(∀x,g=some x->SR n x)->F [j7 l,j7 g]=some (qD (FM.gL l g)):=by
 refine⟨_,cz ["least","greatest"] U fun nd _ _ _ _ _ _ _ hr=>
  (ae (aM (bO (cQ (cR (a5 0) bK) (cP (cR (a5 1) bK)))) (ag (ar (cq Z1.mg Z1.tup))) aH)
  (ae (aM (cR (a5 1) bK) (ag (ar (aw vD hr (a6 (a5 0) (a6 (cq Z2.mg Z2.tup) a9))))) aH)
  (ae (aM (cR (a5 0) bK) (ag (ar (aw jT hr (a6 (a5 1) (a6 (cq Z2.mg Z2.tup) a9))))) aH)
  (ag (ar (aw DY hr (a6 (aw vD hr (a6 (a5 0) (a6 (a5 1) a9))) (a6 (cq Z3.mg Z3.tup) a9) (hs:=aW)))))))),?_⟩
 intro n l g hn hl hg;cases l with
 |none=>
  cases g with
  |none=>rfl
  |some g=>
   have e:fE [qD g,.tuple [.int 1,.int 1]]=some (qD (g-1)):=mI (hg g rfl) (uh (c:=1) (by decide)) (by omega) (by decide);simp![j7,gR,uS,e,FM.gL]
 |some l=>
  cases g with
  |none=>
   have e:iK [qD l,.tuple [.int 1,.int 1]]=some (qD (l+1)):=nB (hl l rfl) (uh (c:=1) (by decide)) (by omega) (by decide);simp![j7,gR,uS,e,FM.gL]
  |some g=>
   have e1:=nB (hl l rfl) (hg g rfl) (by omega) (by omega);have e2:oW [qD (l+g),.tuple [.int 2,.int 1]]=some (qD ((l+g)/2)):=H9 ((hl l rfl).add (hg g rfl)) (Rn (c:=2) (by decide)) (by omega) (by decide) (by decide);simp![j7,gR,uS,e1,e2,FM.gL]
theorem qI(z:Int):qD (z:Rat)=.tuple [.int z,.int 1]:=rfl
variable {b:Nat} {z:Int}
theorem B2(hb:1<=b)(h:z.natAbs<2^b):SR b (z:Rat):=⟨h,one_lt_two_pow (by omega)⟩
def eQ:Nat->List Rat->List (Nat×Rat)
 |_,[]=>[]
 |i,x::xs=>(i,x)::eQ (i+1) xs
abbrev IM (p:Nat×Rat):Dat:=.tuple [.int (p.1:Int),qD p.2]
theorem Kx:∀(xs:List Rat) (i:Nat),kL i (xs.map qD)=(eQ i xs).map IM
 |[],i=>rfl
 |x::xs,i=>by rw[map_cons,kL,eQ,map_cons,Kx xs (i+1)]
theorem Gy:∀{xs:List Rat} {i:Nat} {p:Nat×Rat},p∈eQ i xs->p.2∈xs/\p.1<i+xs.length
 |[],i,p,h=>by simp[eQ]at h
 |x::xs,i,p,h=>by
  rw[eQ]at h;rcases mem_cons.mp h with e|h
  ·rw[e];exact⟨mem_cons_self,by rw[length_cons];omega⟩
  ·obtain⟨h1,h2⟩:=Gy h;exact⟨mem_cons_of_mem _ h1,by rw[length_cons];omega⟩
theorem Ck(r:FM.Row):∀(xs:List Rat) (i:Nat) (acc:Rat),(eQ i xs).foldl (fun acc (p:Nat×Rat)=>if FM.ent r p.1≠0 then acc-(FM.ent r p.1:Rat)*p.2 else acc) acc=FM.sf r i xs acc
 |[],i,acc=>rfl
 |x::xs,i,acc=>by
  rw[eQ,foldl_cons,Ck r xs (i+1)];rfl
inductive gN:List Rat->Nat->Prop
 |nil:gN [] 0
 |zero {xs:List Rat} {C:Nat} {q:Rat}:q=0->gN xs C->gN (q::xs) C
 |cons {xs:List Rat} {C s:Nat} {q:Rat}:SR s q->gN xs C->gN (q::xs) (C+s+1)
variable {xs:List Rat} {C:Nat}
theorem gN.mem(h:gN xs C):∀q∈xs,SR (C+1) q:=by
 induction h with
 |nil=>intro q hq;cases hq
 |zero h0 _ ih=>
  intro q hq;rcases mem_cons.mp hq with e|e
  ·rw[e,h0];exact⟨pow_pos (by decide),one_lt_two_pow (by omega)⟩
  ·exact ih q e
 |cons hs _ ih=>
  intro q hq;rcases mem_cons.mp hq with e|e
  ·rw[e];exact hs.up (by omega)
  ·exact(ih q e).up (by omega)
def Nd (u d:Nat) (q:Rat):Prop:=∃N D:Int,D≠0/\N.natAbs<2^u/\D.natAbs<=2^d/\q=(N:Rat)/(D:Rat)
theorem l6(h0:p≠0)(hz:z.natAbs<2^b)(hp:p.natAbs<2^b):SR b ((z:Rat)/(p:Rat)):=by
 obtain⟨e1,e2⟩:=Fr.jI z p h0;exact ug h0 e1 e2 hz hp
variable {u:Nat}
theorem Nd.sr{d:Nat}(h:Nd u d q)(hd:d<u):SR u q:=by
 obtain⟨N,D,h0,hN,hD,rfl⟩:=h;exact l6 h0 hN (lt_of_le_of_lt hD (Nat.pow_lt_pow_right (by decide) hd))
theorem zt(h:z.natAbs<2^b):Nd b 0 (z:Rat):=⟨z,1,by decide,h,by decide,by
 have:((1:Int):Rat)=1:=rfl;rw[this];grind⟩
variable {y:Rat}
theorem BE{s:Nat}{acc:Rat}{a:Int}(h:Nd (b+C) C acc)(ha:a.natAbs<2^b)(hy:SR s y):Nd (b+(C+s+1)) (C+s+1) (acc-(a:Rat)*y):=by
 obtain⟨N,D,h0,hN,hD,rfl⟩:=h;have yp:(y.den:Int)≠0:=qh y;refine⟨N*(y.den:Int)-a*y.num*D,D*(y.den:Int),mul_ne_zero h0 yp,?_,?_,?_⟩
 ·have h1:(N*(y.den:Int)).natAbs<2^(b+C+s):=d4 hN hy.dn;have h2:(a*y.num*D).natAbs<2^(b+C+s):=by
   rw[natAbs_mul,show b+C+s=(b+s)+C by omega,pow_add];have h3:=d4 ha hy.ln;have p:=pow_pos (n:=C) (show 0<2 by decide);exact lt_of_le_of_lt (mul_le_mul_left _ hD) (Nat.mul_lt_mul_of_pos_right h3 p)
  rw[show b+(C+s+1)=b+C+s+1 by omega];exact H0 h1 h2
 ·rw[natAbs_mul];refine le_trans (mul_le_mul hD (Nat.le_of_lt hy.dn)) ?_;rw[<- pow_add];exact pow_le_pow_right (by decide) (by omega)
 ·have e1:y=(y.num:Rat)/((y.den:Int):Rat):=by
   have:((y.den:Int):Rat)=(y.den:Rat):=rfl;rw[this,<- Rat.mkRat_eq_div,mkRat_self]
  have d1:((D:Int):Rat)≠0:=fun z=>h0 (FM.bF.mp z);have d2:(((y.den:Int)):Rat)≠0:=fun z=>yp (FM.bF.mp z);rw[Rat.intCast_sub,intCast_mul,intCast_mul,intCast_mul,intCast_mul];conv=>lhs;rw[e1]
  generalize ((y.den:Int):Rat)=dd at *;generalize (y.num:Rat)=nn at *;grind
theorem Nd.up{d u' d':Nat}(h:Nd u d q)(hu:u<=u')(hd:d<=d'):Nd u' d' q:=by
 obtain⟨N,D,h0,hN,hD,e⟩:=h;exact⟨N,D,h0,dM hN hu,le_trans hD (pow_le_pow_right (by decide) hd),e⟩
theorem w4(r:FM.Row){b:Nat}(hr:∀z∈r.2,z.natAbs<2^b):∀(xs:List Rat) (i C C1:Nat) (acc:Rat),Nd (b+C) C acc->gN xs C1->Nd (b+(C+C1)) (C+C1) (FM.sf r i xs acc)
 |[],i,C,C1,acc,h,hx=>by cases hx;exact h
 |x::xs,i,C,C1,acc,h,hx=>by
  have key:∃C2 C3,C2+C3=C+C1/\gN xs C3/\Nd (b+C2) C2 (if FM.ent r i≠0 then acc-(FM.ent r i:Rat)*x else acc):=by
   cases hx with
   |zero h0 hx=>
    refine⟨C,C1,rfl,hx,?_⟩;rw[h0,show acc-(FM.ent r i:Rat)*0=acc by grind];split<;>exact h
   | @cons _ C' s _ hs hx=>
    refine⟨C+s+1,C',by omega,hx,?_⟩;split
    ·exact BE h (d7 hr) hs
    ·exact h.up (by omega) (by omega)
  obtain⟨C2,C3,e,h3,h4⟩:=key;rw[<- e];exact w4 r hr xs (i+1) C2 C3 _ h4 h3
abbrev fD (F:List Dat->Option Dat):Prop:=∀(b C:Nat) (r:FM.Row) (x:List Rat),1<=b->x.length<r.2.length->x.length<=100->(∀z∈r.2,z.natAbs<2^b)->gN x C->b+C+1<=4000->F [aJ r,.list (x.map qD)]=some (qD (FM.mn r x))/\Nd (b+C) C (FM.mn r x)
theorem Gx:∀(xs:List Rat) (i:Nat),(eQ i xs).map (fun p=>p.2)=xs
 |[],i=>rfl
 |x::xs,i=>by show x::(eQ (i+1) xs).map _=_;rw[Gx xs]
theorem Pm(T:TX mg)(jT:Dn P w K mg base 3 "minus" ["a","b"] 2 fE)(PV:Dn P w K mg base 3 "times" ["a","b"] 2 gm)(U:FnAt K mg "left_over" (top 22) ["row","point"]):
  ∃F,Dn P w K mg base 4 "left_over" ["row","point"] 2 F/\fD F:=by
 refine⟨_,cz ["row","point","left","place","number","part"] U fun nd _ _ _ _ _ _ _ hr=>
  (ae (az 2 nd (aS (k:=0) (a6 (af (af (a5 0) a8) (cI T.len (a6 (a5 1) a9))) (a6 a8 a9) (hs:=aD))))
  (ae (kb PassesOwn.never rfl (qJ T.enumerate (a6 (a5 1) a9)) (dG (n:=2) rfl (aY (aB 3 nd) (aY (aB 4 nd) cV)))
  (ae (az 5 nd (af (af (a5 0) a8) (a5 3)))
  (ag (aM (dm hr (a5 5) a8) (ag (az 2 nd (aw jT hr (a6 (a5 2) (a6 (aw PV hr (a6 (aS (k:=0) (a6 (a5 5) (a6 a8 a9))) (a6 (a5 4) a9) (hs:=bS))) a9 (hs:=aW)))))) aH))))
  (ag (ar (a5 2))))),?_⟩
 intro b C r x hb hl Dw hr hx hbud;have z2:2<=sizeLine:=sz (by decide);have lo:=ip qD x;have a0:aO (fM r.2) (.int (x.length:Int))=some (.int (FM.ent r x.length)):=hZ hl;refine⟨?_,by
  have:=w4 r hr x 0 0 C (FM.ent r x.length:Rat) (zt (d7 hr)) hx;rw[zero_add]at this;exact this⟩
 have n6:rh (ay (aA 1) bp) (bx [some (.a7 (aJ r)),some (.a7 (.list (x.map qD))),some (.a7 (qD (FM.ent r x.length:Rat))),none,none,none])=some ((eQ 0 x).map IM):=by
  rw[<- Kx];rfl
 refine bP ?_;simp!;rw[ao (ah:=[some (.a7 (aJ r)),some (.a7 (.list (x.map qD))),some (.a7 (qD (FM.ent r x.length:Rat))),none,none,none]) (by rw[qI];dsimp![iU,lo,a0,z2])];refine gx (I:=_) (lM (l:=eQ 0 x) (s:=(FM.ent r x.length:Rat)) IM (fun(acc:Rat) Γ=>∃x3 x4 x5,Γ=[some (.a7 (aJ r)),some (.a7 (.list (x.map qD))),some (.a7 (qD acc)),x3,x4,x5]) (fun acc l=>∃C2 C3,C2+C3=C/\Nd (b+C2) C2 acc/\gN (l.map fun p=>p.2) C3/\∀p∈l,p∈eQ 0 x) (fun acc (p:Nat×Rat)=>if FM.ent r p.1≠0 then acc-(FM.ent r p.1:Rat)*p.2 else acc) n6 ⟨0,C,by omega,zt (d7 hr),by rw[Gx];exact hx,fun _ h=>h⟩ ⟨none,none,none,rfl⟩ ?_) ?_
 ·rintro acc ⟨i,y⟩ l Γ ⟨C2,C3,hC,hs,FT,iX⟩ ⟨x3,x4,x5,rfl⟩;obtain⟨hy,hi⟩:=Gy (iX (i,y) mem_cons_self);have sy:=hx.mem y hy;have w9:∀p∈l,p∈eQ 0 x:=fun p hp=>iX p (mem_cons_of_mem _ hp);have hQ:∃C2 C3,C2+C3=C/\Nd (b+C2) C2 (if FM.ent r i≠0 then acc-(FM.ent r i:Rat)*y else acc)/\gN (l.map fun p=>p.2) C3/\∀p∈l,p∈eQ 0 x:=by
   rw[map_cons]at FT;cases FT with
   |zero h0 hx=>
    refine⟨C2,C3,hC,?_,hx,w9⟩;have h0:y=0:=h0;rw[h0,show acc-(FM.ent r i:Rat)*0=acc by grind];split<;>exact hs
   | @cons _ C' s _ sG hx=>
    refine⟨C2+s+1,C',by omega,?_,hx,w9⟩;split
    ·exact BE hs (d7 hr) sG
    ·exact hs.up (by omega) (by omega)
  refine⟨[(3,.int (i:Int)),(4,qD y)],rfl,?_⟩;dsimp!;have a1:aO (fM r.2) (.int (i:Int))=some (.int (FM.ent r i)):=hZ (by have:i<0+x.length:=hi;omega);rw[ao (ah:=[some (.a7 (aJ r)),some (.a7 (.list (x.map qD))),some (.a7 (qD acc)),some (.a7 (.int (i:Int))),some (.a7 (qD y)),some (.a7 (.int (FM.ent r i)))]) (by dsimp![iU,a1])];by_cases c:FM.ent r i=0
  ·refine⟨[some (.a7 (aJ r)),some (.a7 (.list (x.map qD))),some (.a7 (qD acc)),some (.a7 (.int (i:Int))),some (.a7 (qD y)),some (.a7 (.int (FM.ent r i)))],?_,⟨_,_,_,by rw[if_neg (fun z=>z c)]⟩,hQ⟩;simp![fA,eq_true c]
  ·have e1:gm [.tuple [.int (FM.ent r i),.int 1],qD y]=some (qD ((FM.ent r i:Rat)*y)):=oV (B2 hb (d7 hr)) sy (by omega) (by omega);have sp:SR (b+(C+1)) ((FM.ent r i:Rat)*y):=(B2 hb (d7 (j:=i) hr)).mul sy;have e2:=mI (hs.sr (by omega)) sp (by omega) (by omega);refine⟨[some (.a7 (aJ r)),some (.a7 (.list (x.map qD))),some (.a7 (qD (acc-(FM.ent r i:Rat)*y))),some (.a7 (.int (i:Int))),some (.a7 (qD y)),some (.a7 (.int (FM.ent r i)))],?_,⟨_,_,_,by rw[if_pos c]⟩,hQ⟩;simp![fA,eq_false c,z2,e1,e2]
 ·rintro ah ⟨x3,x4,x5,rfl⟩;rw[Ck];simp![];rfl
theorem GN(h:m<=ds.length):L3.cutD ds (some (m:Int)) none=ds.drop m:=by
 unfold L3.cutD;rw[HT.mB,HT.t7,Nat.min_eq_left h,List.take_of_length_le (by rw[length_drop];omega)]
theorem N0(l:List Int)(h:j+1<=l.length):xa (fM l) (some ((j:Int)+1)) none=some (fM (l.drop (j+1))):=by
 show(if ¬(HT.c7 (l.map Dat.int).length 0 (some ((j+1:Nat):Int))=0/\HT.c7 (l.map Dat.int).length (l.map Dat.int).length none=(l.map Dat.int).length)then some (Dat.tuple (L3.cutD (l.map Dat.int) (some ((j+1:Nat):Int)) none))else none)=_;rw[if_pos (by rw[HT.mB,length_map];omega),GN (by rw[length_map];exact h),<- List.map_drop]
theorem Uo(h:p≠0)(hb:p.natAbs<2^8000):ji [.int z,.int p]=some (qD ((z:Rat)/(p:Rat))):=by
 obtain⟨e1,e2⟩:=Fr.jI z p h;rw[oM h hb,e1,e2]
abbrev PB (F:List Dat->Option Dat):Prop:=∀(b C m j:Nat) (rows:List FM.Row) (x:List Rat) (way:Int),(way=1\/way=-1)->1<=b->ib m b rows->x.length<m->m<=900->x.length<=100->j<m->gN x C->b+C+1<=4000->F [.list (rows.map aJ),.int (j:Int),.list (x.map qD),.int way]=some (dC (FM.cf rows j x way))/\∀t,FM.cf rows j x way=some t->SR (b+C) t.2.1
theorem BF(h:Nd (b+C) C q)(hz:z.natAbs<2^b)(h0:z≠0):SR (b+C) (q/(z:Rat)):=by
 obtain⟨N,D,Sj,hN,hD,rfl⟩:=h;have e:(N:Rat)/(D:Rat)/(z:Rat)=(N:Rat)/((D*z:Int):Rat):=by
  have d1:((D:Int):Rat)≠0:=fun z=>Sj (FM.bF.mp z);have d2:((z:Int):Rat)≠0:=fun y=>h0 (FM.bF.mp y);rw[intCast_mul];grind
 rw[e];refine l6 (mul_ne_zero Sj h0) hN ?_;rw[natAbs_mul,add_comm b C,pow_add];exact lt_of_le_of_lt (Nat.mul_le_mul_right _ hD) (Nat.mul_lt_mul_of_pos_left hz (pow_pos (by decide)))
theorem NL(h:z≠0):((z:Rat)).num≠0:=h
theorem Ma(T:TX mg){Fl:List Dat->Option Dat}(DZ:Dn P w K mg base 4 "left_over" ["row","point"] 2 Fl)(hL:fD Fl)(DY:Dn P w K mg base 4 "over" ["a","b"] 2 oW)(nD:Dn P w K mg base 4 "below" ["a","b"] 2 d5)(lG:Dn P w K mg base 4 "make" ["n","d"] 2 ji)(U:FnAt K mg "tightest" (top 23) ["rows","place","point","way"]):
  ∃F,Dn P w K mg base 5 "tightest" ["rows","place","point","way"] 4 F/\PB F:=by
 refine⟨_,cz ["rows","place","point","way","best","row","part","kind","number"] U fun nd _ _ _ _ _ _ _ hr=>
  (ae (az 4 nd bK)
  (ae (dF PassesOwn.never rfl (a5 0) (aB 5 nd)
  (ae (az 6 nd (bQ (a5 3) (af (af (a5 5) a8) (a5 1))))
  (ag (aM (bO (c9 (l8 (a5 6) a8) (cC (bO (cQ (kc (a5 6) a8) (cP (bV hr (af (a5 5) a8) aT))))))) (ae (az 7 nd (gy (bV hr (af (a5 5) a8) aT) aT aT))
  (ae (az 8 nd (aw DY hr (a6 (aw DZ hr (a6 (a5 5) (a6 (a5 2) a9))) (a6 (aS (k:=0) (a6 (a5 6) (a6 a8 a9))) a9 (hs:=bS)) (hs:=aW))))
  (ag (aM (bO (c9 (cR (a5 4) bK) (c9 (bb (aw nD hr (a6 (a5 8) (a6 (af (a5 4) a8) a9 (hs:=aD))))) (cC (bO (cQ (bV hr (a5 8) (af (a5 4) a8)) (cP (bV hr (a5 7) aT)))))))) (ag (az 4 nd (aS (k:=0) (a6 (a5 7) (a6 (a5 8) (a6 (cS (i7 rfl (fB (tn:=["weight"]) (fv:=["part"]) (js:=[6]) rfl (by decide +kernel) (by decide +kernel) rfl (by decide +kernel) (by decide +kernel) rfl
   (fun x hx=>by((have f6:x="part":=(by simpa using hx));(rcases f6 with rfl<;>exact⟨_,rfl⟩)))
   (fun p hp=>by((have gA:p=(("part" : Str),(6:Nat)):=(by simpa using hp));(rcases gA with rfl<;>exact⟨rfl,.inr (.inl rfl),.inl rfl,fun z=>by cases z⟩)))) (jl (af (a5 5) a8) (j5 (dX (cI T.len (a6 (a5 2) a9)) a8)) lK) (fun _ _ _ _=>(aB 0 (show(["weight","part"]:List Str).Nodup by decide +kernel))) (fun _ _ _ _=>dh) (fun _ _ _ _=>(aw lG hr (a6 (a5 0) (a6 (a5 1) a9)))) (dS rfl))) a9)))))) aH)))) aH))))
  (ag (ar (a5 4))))),?_⟩
 intro b C m j rows x way iQ hb hR RQ oP Dw hj hx hsz;have z2:2<=sizeLine:=sz (by decide);have z3:3<=sizeLine:=sz (by decide);have lo:=ip qD x;have wb:∀r∈rows,(way*FM.ent r j).natAbs<2^b:=fun r hr=>by
  have:=d7 (j:=j) (hR.bd r hr);rcases iQ with e|e
  ·rw[e,Int.one_mul];exact this
  ·rw[e,Int.neg_mul,Int.one_mul,natAbs_neg];exact this
 have NM:∀r∈rows,way*FM.ent r j≠0->SR (b+C) (FM.dQ j way x r):=fun r hr h0=>by
  obtain⟨_,sl⟩:=hL b C r x hb (by rw[hR.len r hr];exact RQ) Dw (hR.bd r hr) hx hsz;exact BF sl (wb r hr) h0
 have tS:∀(l:List FM.Row) (t:Option FM.fO),(∀r∈l,r∈rows)->(∀y,t=some y->SR (b+C) y.2.1)->∀y,l.foldl (FM.kz j way x) t=some y->SR (b+C) y.2.1:=fun l=>by
  induction l with
  |nil=>intro t _ h;exact h
  |cons r l ih=>
   intro t iX h;refine ih (FM.kz j way x t r) (fun q hq=>iX q (mem_cons_of_mem _ hq)) fun y hy=>?_;unfold FM.kz at hy;split at hy
   ·rename_i hc;split at hy
    ·cases hy;refine NM r (iX r mem_cons_self) ?_;rcases hc with h|h
     ·omega
     ·have:=h.1;omega
    ·exact h y hy
   ·exact h y hy
 refine⟨?_,tS rows none (fun _ h=>h) (fun y h=>by cases h)⟩;refine bP ?_;simp!;rw[ao (ah:=[some (.a7 (.list (rows.map aJ))),some (.a7 (.int (j:Int))),some (.a7 (.list (x.map qD))),some (.a7 (.int way)),some (.a7 (dC none)),none,none,none,none]) (by simp![dC])];refine gx (I:=_) (i9 (l:=rows) (s:=(none:Option FM.fO)) aJ (fun(t:Option FM.fO) Γ=>∃x5 x6 x7 x8,Γ=[some (.a7 (.list (rows.map aJ))),some (.a7 (.int (j:Int))),some (.a7 (.list (x.map qD))),some (.a7 (.int way)),some (.a7 (dC t)),x5,x6,x7,x8]) (fun t l=>(∀y,t=some y->SR (b+C) y.2.1)/\∀r∈l,r∈rows) (FM.kz j way x) (d:=.list (rows.map aJ)) rfl rfl ⟨fun y h=>(by cases h),fun _ h=>h⟩ ⟨none,none,none,none,rfl⟩ ?_) ?_
 ·rintro t r l Γ ⟨ht,iX⟩ ⟨x5,x6,x7,x8,rfl⟩;have hr:=iX r mem_cons_self;have hQ:(∀y,FM.kz j way x t r=some y->SR (b+C) y.2.1)/\∀q∈l,q∈rows:=⟨tS [r] t (fun q hq=>by rw[mem_singleton.mp hq];exact hr) ht,fun q hq=>iX q (mem_cons_of_mem _ hq)⟩;have a1:aO (fM r.2) (.int (j:Int))=some (.int (FM.ent r j)):=hZ (by rw[hR.len r hr];exact hj);have em:jA (.int way) (.int (FM.ent r j))=some (.int (way*FM.ent r j)):=mulL _ (by rcases iQ with e|e<;>(rw[e];decide)) (by rcases iQ with e|e<;>(rw[e];decide));refine⟨[(5,aJ r)],rfl,?_⟩;dsimp!;rw[ao (ah:=[some (.a7 (.list (rows.map aJ))),some (.a7 (.int (j:Int))),some (.a7 (.list (x.map qD))),some (.a7 (.int way)),some (.a7 (dC t)),some (.a7 (aJ r)),some (.a7 (.int (way*FM.ent r j))),x7,x8]) (by dsimp![iU,a1,em])];by_cases hc:FM.nq j way r
  ·have h0:way*FM.ent r j≠0:=by
    rcases hc with h|h
    ·omega
    ·have:=h.1;omega
   rw[gQ (by
    rcases hc with h|⟨h,hk⟩
    ·dsimp![dt,eq_true h]
    ·have h':¬0<way*FM.ent r j:=by omega
     have k1:=(iq r.1).mpr hk;dsimp![dt,cc,kX,cY,eq_false h',eq_true h,eq_true k1])]
   obtain⟨eL,sl⟩:=hL b C r x hb (by rw[hR.len r hr];exact RQ) Dw (hR.bd r hr) hx hsz;have eo:oW [qD (FM.mn r x),.tuple [.int (way*FM.ent r j),.int 1]]=some (qD (FM.dQ j way x r)):=H9 (sl.sr (by omega)) (B2 hb (wb r hr)) (by omega) (by omega) (NL h0);have sn:=NM r hr h0;have ek:(if r.1=.lt then("<" : Str)else "<=")=fk (decide (r.1=.lt)):=by unfold fk;by_cases c:r.1=.lt<;>simp[c]
   rw[ao (ah:=[some (.a7 (.list (rows.map aJ))),some (.a7 (.int (j:Int))),some (.a7 (.list (x.map qD))),some (.a7 (.int way)),some (.a7 (dC t)),some (.a7 (aJ r)),some (.a7 (.int (way*FM.ent r j))),some (.a7 (.str (fk (decide (r.1=.lt))))),x8]) (by
    by_cases c:r.1=.lt
    ·have k1:=(yi r.1).mpr c;rw[decide_eq_true c];dsimp![kX,cY,eq_true k1,fk]
    ·have k1:¬bC r.1="<":=fun z=>c ((yi r.1).mp z);rw[decide_eq_false c];dsimp![kX,cY,eq_false k1,fk])]
   rw[ao (ah:=[some (.a7 (.list (rows.map aJ))),some (.a7 (.int (j:Int))),some (.a7 (.list (x.map qD))),some (.a7 (.int way)),some (.a7 (dC t)),some (.a7 (aJ r)),some (.a7 (.int (way*FM.ent r j))),some (.a7 (.str (fk (decide (r.1=.lt))))),some (.a7 (qD (FM.dQ j way x r)))]) (by dsimp![eL,eo,z2])];have eb:FM.kz j way x t r=if FM.better t (decide (r.1=.lt)) (FM.dQ j way x r)=true then some (decide (r.1=.lt),FM.dQ j way x r,FM.nG j way x r)else t:=if_pos hc;generalize xA:decide (r.1=.lt)=kt at *;generalize hv:FM.dQ j way x r=v at *;have hN:b+C<=4000:=by omega
   have RZ:cH (.str (fk kt)) (.str "<")=some (.bool kt):=by cases kt<;>rfl
   have test:fu (bc (L3.f2 lS (aA 4) (fC .none))) (fu (gh (ia 2 d5 (ay (aA 8) (ay (L3.f2 aO (aA 4) (fC (.int 1))) bp)))) (cU (bc (L3.f2 cH (aA 8) (L3.f2 aO (aA 4) (fC (.int 1))))) (bc (L3.f2 cH (aA 7) (fC (.str "<")))))) (bX [some (.a7 (.list (rows.map aJ))),some (.a7 (.int (j:Int))),some (.a7 (.list (x.map qD))),some (.a7 (.int way)),some (.a7 (dC t)),some (.a7 (aJ r)),some (.a7 (.int (way*FM.ent r j))),some (.a7 (.str (fk kt))),some (.a7 (qD v))])=some (FM.better t kt v):=by
    cases t with
    |none=>
     have e0:dC none=.none:=rfl;have er:FM.better none kt v=true:=rfl;rw[er,e0];dsimp![gR]
    |some y=>
     have er:FM.better (some y) kt v=(decide (v<y.2.1) || (decide (v=y.2.1)&&kt)):=rfl;have a2:aO (dC (some y)) (.int 1)=some (qD y.2.1):=rfl;have e1:=iL sn (ht y rfl) hN hN;have e2:=jV v y.2.1;rw[er];by_cases c1:v<y.2.1
     ·rw[decide_eq_true c1]at e1 ⊢;dsimp![mr,a2,e1,Bool.true_or]
     ·rw[decide_eq_false c1]at e1 ⊢;by_cases c2:v=y.2.1
      ·rw[decide_eq_true c2]at e2 ⊢;cases kt with
       |true=>dsimp![mr,a2,e1,e2,RZ,Bool.false_or,Bool.true_and]
       |false=>dsimp![mr,a2,e1,e2,RZ,Bool.false_or,Bool.true_and]
      ·rw[decide_eq_false c2]at e2 ⊢;dsimp![mr,a2,e1,e2,Bool.false_or,Bool.false_and]
   cases qf:FM.better t kt v with
   |false=>
    rw[qf]at test eb;rw[if_neg Bool.false_ne_true]at eb;refine⟨[some (.a7 (.list (rows.map aJ))),some (.a7 (.int (j:Int))),some (.a7 (.list (x.map qD))),some (.a7 (.int way)),some (.a7 (dC t)),some (.a7 (aJ r)),some (.a7 (.int (way*FM.ent r j))),some (.a7 (.str (fk kt))),some (.a7 (qD v))],?_,⟨_,_,_,_,by rw[eb]⟩,hQ⟩;rw[iT test];rfl
   |true=>
    rw[qf]at test eb;rw[if_pos rfl]at eb;refine⟨[some (.a7 (.list (rows.map aJ))),some (.a7 (.int (j:Int))),some (.a7 (.list (x.map qD))),some (.a7 (.int way)),some (.a7 (dC (some (kt,v,FM.nG j way x r)))),some (.a7 (aJ r)),some (.a7 (.int (way*FM.ent r j))),some (.a7 (.str (fk kt))),some (.a7 (qD v))],?_,⟨_,_,_,_,by rw[eb]⟩,hQ⟩;rw[gQ test];have es:=N0 r.2 (j:=x.length) (by rw[hR.len r hr];omega);have zd:(r.2.drop (x.length+1)).length<sizeLine:=by rw[length_drop,hR.len r hr];exact lt_of_lt_of_le (show m-(x.length+1)<1000 by omega) (sz (by decide))
    have ec:c8 (aName 0) gu (ia 2 ji (ay (aA 0) (ay (aA 1) bp))) [none,some (.int (way*FM.ent r j))] ((r.2.drop (x.length+1)).map .int)=some ((FM.nG j way x r).map qD):=by
     refine cZ _ _ (by unfold FM.nG;rw[length_map,length_map,length_map]) fun i d o h1 h2=>?_;unfold FM.nG at h2;rw[getElem?_map]at h1 h2;rw[getElem?_map]at h2;cases hz:(r.2.drop (x.length+1))[i]? with
     |none=>rw[hz]at h1;cases h1
     |some z=>
      rw[hz]at h1 h2;cases h1;cases h2;refine⟨[(0,.int z)],rfl,?_⟩;have e:=Uo (z:=z) h0 (dM (wb r hr) (by omega));simp![e]
    have Xm:dC (some (kt,v,FM.nG j way x r))=.tuple [.str (fk kt),qD v,.list ((FM.nG j way x r).map qD)]:=rfl;rw[Xm];dsimp![iU,ou,mf,nN,nt,lo,cw,es,length_map,zd,ec,z3]
  ·have eb:FM.kz j way x t r=t:=if_neg hc;refine⟨[some (.a7 (.list (rows.map aJ))),some (.a7 (.int (j:Int))),some (.a7 (.list (x.map qD))),some (.a7 (.int way)),some (.a7 (dC t)),some (.a7 (aJ r)),some (.a7 (.int (way*FM.ent r j))),x7,x8],?_,⟨_,_,_,_,by rw[eb]⟩,hQ⟩;rw[iT (by
    have h1:¬0<way*FM.ent r j:=fun z=>hc (.inl z);by_cases h2:way*FM.ent r j<0
    ·have k1:¬bC r.1="=":=fun z=>hc (.inr ⟨h2,(iq r.1).mp z⟩);dsimp![dt,cc,kX,cY,eq_false h1,eq_true h2,eq_false k1]
    ·dsimp![dt,cc,kX,cY,eq_false h1,eq_false h2])]
   rfl
 ·rintro ah ⟨x5,x6,x7,x8,rfl⟩;simp![];rfl
abbrev cx (rows:List FM.Row):Dat:=.list (rows.map aJ)
theorem Cv(g:α->Dat){xs:List α}{x:α}(hl:xs.length=n+1)(h:xs[n]?=some x):aO (.list (xs.map g)) (.int (-1))=some (g x):=by
 show gF (xs.map g) (-1)=_;unfold L2.gF L2.mX;rw[if_neg (by decide),if_pos (by rw[length_map];omega)];show(xs.map g)[((-1:Int)+((xs.map g).length:Int)).toNat]?=_;rw[length_map,hl,show((-1:Int)+((n+1:Nat):Int)).toNat=n by omega,getElem?_map,h];rfl
theorem tP:∀n:Nat,gN (List.replicate n 0) 0
 |0=>.nil
 |n+1=>.zero rfl (tP n)
abbrev YB (F:List Dat->Option Dat):Prop:=∀(b n m:Nat) (Ls:List (List FM.Row)) (rows:List FM.Row) (way:Int),(way=1\/way=-1)->1<=b->Ls.length=n+1->Ls[n]?=some rows->ib m b rows->n+1<m->m<=900->n<=90->b<=3900->F [.list (Ls.map cx),.int way]=some (dC (FM.endOf n rows way))/\∀t,FM.endOf n rows way=some t->SR b t.2.1
variable {Ft:List Dat->Option Dat}
theorem Mr(T:TX mg)(Z1:TC K mg "ZERO_elimination" [.int 0,.int 1] a1)(o6:Dn P w K mg base 5 "tightest" ["rows","place","point","way"] 4 Ft)(hT:PB Ft)(U:FnAt K mg "end_of" (top 24) ["stages","way"]):
  ∃F,Dn P w K mg base 6 "end_of" ["stages","way"] 2 F/\YB F:=by
 refine⟨_,cz ["stages","way","place"] U fun nd _ _ _ _ _ _ _ hr=>
  (ae (az 2 nd (kf (cI T.len (a6 (a5 0) a9)) a8))
  (ag (ar (aw o6 hr (a6 (af (a5 0) (dr a8)) (a6 (a5 2) (a6 (cS (tf (j6 (a6 (cq Z1.mg Z1.tup) a9)) (dX (a5 2) a8))) (a6 (a5 1) a9) (hs:=d9))) (hs:=aD)))))),?_⟩
 intro b n m Ls rows way iQ hb hl hn hR FV oP sJ hsz;have lo:=ip cx Ls;have al:=Cv cx hl hn;have er:∀ρ:ax,(L3.f2 lV (aA 2) (fC (.int 1))) ρ=some (.int ((n+1:Nat):Int))->pT (nU (ay (fC (.tuple [.int 0,.int 1])) bp)) (L3.f2 lV (aA 2) (fC (.int 1))) ρ=some ((List.replicate (n+1) (0:Rat)).map qD):=fun ρ h=>yL h (by omega);have e1:=hT b 0 m n rows (List.replicate (n+1) 0) way iQ hb hR (by rw[length_replicate];omega) oP (by rw[length_replicate];omega) (by omega) (tP _) (by omega);obtain⟨e1,e2⟩:=e1;refine⟨?_,e2⟩;refine bP ?_;simp!;have hp:((Ls.length:Nat):Int)-1=(n:Int):=by omega
 rw[ao (ah:=[some (.a7 (.list (Ls.map cx))),some (.a7 (.int way)),some (.a7 (.int (n:Int)))]) (by simp![lo,d8,hp])];have Sw:=er (bX [some (.a7 (.list (Ls.map cx))),some (.a7 (.int way)),some (.a7 (.int (n:Int)))]) rfl;clear er;generalize (List.replicate (n+1) (0:Rat)).map qD=zs at *;generalize pT (nU (ay (fC (.tuple [.int 0,.int 1])) bp)) (L3.f2 lV (aA 2) (fC (.int 1)))=gr at *;simp only[bX,map_cons,map_nil]at Sw;dsimp![al,Sw,e1];rfl
variable {Fe:List Dat->Option Dat}
theorem M8(T:TX mg)(wN:Dn P w K mg base 6 "end_of" ["stages","way"] 2 Fe)(U:FnAt K mg "upper_end" (top 25) ["stages"]):
  ∃F,Dn P w K mg base 7 "upper_end" ["stages"] 1 F/\∀s d,Fe [s,.int 1]=some d->F [s]=some d:=by
 refine⟨_,cz ["stages"] U fun nd _ _ _ _ _ _ _ hr=>
  (ag (ar (aw wN hr (a6 (a5 0) (a6 a8 a9))))),?_⟩
 intro s d h;simp![h]
theorem Pf(T:TX mg)(wN:Dn P w K mg base 6 "end_of" ["stages","way"] 2 Fe)(U:FnAt K mg "opposite_end" (top 26) ["stages"]):
  ∃F,Dn P w K mg base 7 "opposite_end" ["stages"] 1 F/\∀s d,Fe [s,.int (-1)]=some d->F [s]=some d:=by
 refine⟨_,cz ["stages"] U fun nd _ _ _ _ _ _ _ hr=>
  (ag (ar (aw wN hr (a6 (a5 0) (a6 (dr a8) a9 (hs:=gj)))))),?_⟩
 intro s d h;simp![h]
def mT:Option (List Rat)->Dat
 |none=>.none
 |some ws=>.list (ws.map qD)
theorem Qn(l:List Int)(h:j+2<=l.length):xa (fM l) (some ((j:Int)+2)) none=some (fM (l.drop (j+2))):=by
 have:=N0 l (j:=j+1) h;rw[show((j+1:Nat):Int)+1=(j:Int)+2 by omega]at this;exact this
variable {way:Int}
theorem u0(iQ:way=1\/way=-1)(h:z.natAbs<2^b):(way*z).natAbs<2^b:=by
 rcases iQ with e|e
 ·rw[e,Int.one_mul];exact h
 ·rw[e,Int.neg_mul,Int.one_mul,natAbs_neg];exact h
variable {rows:List FM.Row}
theorem ni(iQ:way=1\/way=-1)(hR:ib m b rows){t:FM.fO}(h:FM.endOf n rows way=some t):SR b t.2.1/\∀w∈t.2.2,SR b w:=by
 obtain⟨⟨r,hr,hc,k1,k2,k3⟩,_⟩:=(FM.jW rows n (List.replicate (n+1) 0) way).some t h;have pM:way*FM.ent r n≠0:=by rcases hc with hc|⟨hc,_⟩<;>omega
 have hb:=u0 iQ (d7 (j:=n) (hR.bd r hr));have e:FM.mn r (List.replicate (n+1) 0)=((FM.ent r (n+1):Int):Rat):=FM.xp;rw[k2,k3];unfold FM.dQ;rw[e];refine⟨l6 pM (d7 (hR.bd r hr)) hb,fun w hw=>?_⟩;unfold FM.nG at hw;obtain⟨z,hz,rfl⟩:=mem_map.mp hw;exact l6 pM (hR.bd r hr z (List.mem_of_mem_drop hz)) hb
abbrev Tf (F:List Dat->Option Dat):Prop:=∀(n:Nat) (k:FM.Kn) (b:Rat),n<=4000->SR n b->F [.str (bC k),qD b]=some (.bool (FM.cO k b))
def BB (n:Nat) (r:FM.Row):List Rat:=(r.2.drop (n+2)).map fun(w:Int)=>(((if r.1=.eq/\0<FM.ent r (n+1)then -1 else 1:Int)*w:Int):Rat)
abbrev T7 (F:List Dat->Option Dat):Prop:=∀(b n m:Nat) (Ls:List (List FM.Row)) (rows:List FM.Row),1<=b->Ls.length=n+1->Ls[n]?=some rows->ib m b rows->n+2<=m->m<=900->b<=4000->F [.list (Ls.map cx)]=some (mT (FM.fF n rows))
variable {Fi:List Dat->Option Dat}
theorem Mf(T:TX mg)(rP:Dn P w K mg base 4 "is_never" ["kind","bound"] 2 Fi)(hI:Tf Fi)(U:FnAt K mg "never_by_a_row" (top 28) ["stages"]):
  ∃F,Dn P w K mg base 5 "never_by_a_row" ["stages"] 1 F/\T7 F:=by
 refine⟨_,cz ["stages","place","row","bound","way"] U fun nd _ _ _ _ _ _ _ hr=>
  (ae (az 1 nd (kf (cI T.len (a6 (a5 0) a9)) a8))
  (ae (dF PassesOwn.never rfl (af (a5 0) (dr a8)) (aB 2 nd)
  (ae (az 3 nd (af (af (a5 2) a8) (dX (a5 1) a8)))
  (ag (aM (bO (cQ (bV hr (af (af (a5 2) a8) (a5 1)) a8) (cP (bb (aw rP hr (a6 (af (a5 2) a8) (a6 (aS (k:=0) (a6 (a5 3) (a6 a8 a9))) a9 (hs:=bS)) (hs:=aD))))))) (ae (az 4 nd (gy (bO (cQ (bV hr (af (a5 2) a8) aT) (cP (l8 (a5 3) a8)))) (dr a8) a8))
  (ag (ar (cS (i7 rfl (fB (tn:=["weight"]) (fv:=["way"]) (js:=[4]) rfl (by decide +kernel) (by decide +kernel) rfl (by decide +kernel) (by decide +kernel) rfl
   (fun x hx=>by((have f6:x="way":=(by simpa using hx));(rcases f6 with rfl<;>exact⟨_,rfl⟩)))
   (fun p hp=>by((have gA:p=(("way" : Str),(4:Nat)):=(by simpa using hp));(rcases gA with rfl<;>exact⟨rfl,.inr (.inl rfl),.inl rfl,fun z=>by cases z⟩)))) (jl (af (a5 2) a8) (j5 (dX (a5 1) a8)) lK) (fun _ _ _ _=>(aB 0 (show(["weight","way"]:List Str).Nodup by decide +kernel))) (fun _ _ _ _=>dh) (fun _ _ _ _=>(aS (k:=0) (a6 (bQ (a5 1) (a5 0)) (a6 a8 a9) (hs:=d9)))) (dS rfl)))))) aH))))
  (ag (ar bK)))),?_⟩
 intro b n m Ls rows hb hl hn hR FV oP BV;have z2:2<=sizeLine:=sz (by decide);have lo:=ip cx Ls;have al:=Cv cx hl hn;have hp:((Ls.length:Nat):Int)-1=(n:Int):=by omega
 refine bP ?_;simp!;rw[ao (ah:=[some (.a7 (.list (Ls.map cx))),some (.a7 (.int (n:Int))),none,none,none]) (by simp![lo,d8,hp])];refine(xF (l:=rows) aJ (fun Γ=>∃x2 x3 x4,Γ=[some (.a7 (.list (Ls.map cx))),some (.a7 (.int (n:Int))),x2,x3,x4]) (fun r=>decide (FM.ent r n=0)&&FM.cO r.1 (FM.ent r (n+1):Rat)) (fun r=>.list ((BB n r).map qD)) (d:=cx rows) (fl:=fun o=>.rt (mT (o.map (BB n)))) (by dsimp![al]) rfl ⟨none,none,none,rfl⟩ ?_ (fun _=>rfl) ?_)
 ·rintro r hr Γ ⟨x2,x3,x4,rfl⟩;refine⟨[(2,aJ r)],rfl,?_⟩;dsimp!;have a0:aO (fM r.2) (.int (n:Int))=some (.int (FM.ent r n)):=hZ (by rw[hR.len r hr];omega);have a1:aO (fM r.2) (.int ((n:Int)+1))=some (.int (FM.ent r (n+1))):=hZ (j:=n+1) (by rw[hR.len r hr];omega);have hN:Fi [.str (bC r.1),.tuple [.int (FM.ent r (n+1)),.int 1]]=some (.bool (FM.cO r.1 (FM.ent r (n+1):Rat))):=hI b r.1 _ BV (B2 hb (d7 (hR.bd r hr)));rw[ao (ah:=[some (.a7 (.list (Ls.map cx))),some (.a7 (.int (n:Int))),some (.a7 (aJ r)),some (.a7 (.int (FM.ent r (n+1)))),x4]) (by dsimp![iU,cw,a1])];by_cases c1:FM.ent r n=0
  ·cases c2:FM.cO r.1 (FM.ent r (n+1):Rat)with
   |false=>
    rw[c2]at hN;rw[if_neg (by rw[Bool.and_false];exact Bool.false_ne_true)];refine⟨[some (.a7 (.list (Ls.map cx))),some (.a7 (.int (n:Int))),some (.a7 (aJ r)),some (.a7 (.int (FM.ent r (n+1)))),x4],?_,_,_,_,rfl⟩;dsimp![kX,iU,a0,cT,eq_true c1,hN,z2]
   |true=>
    rw[c2]at hN;rw[if_pos (by rw[decide_eq_true c1];rfl)];rw[gQ (by dsimp![kX,iU,a0,cT,eq_true c1,hN,z2])];have es:=Qn r.2 (j:=n) (by rw[hR.len r hr];omega);have zd:(r.2.drop (n+2)).length<sizeLine:=by rw[length_drop,hR.len r hr];exact lt_of_lt_of_le (show m-(n+2)<1000 by omega) (sz (by decide))
    have fin:∀way:Int,(way=1\/way=-1)->c8 (aName 0) gu (dH (ay (L3.f2 jA (aA 1) (aA 0)) (ay (fC (.int 1)) bp))) [none,some (.int way)] ((r.2.drop (n+2)).map .int)=some (((r.2.drop (n+2)).map fun(w:Int)=>((way*w:Int):Rat)).map qD):=by
     intro way iQ;refine cZ _ _ (by rw[length_map,length_map,length_map]) fun i d o h1 h2=>?_;rw[getElem?_map]at h1 h2;rw[getElem?_map]at h2;cases hz:(r.2.drop (n+2))[i]? with
     |none=>rw[hz]at h1;cases h1
     |some z=>
      rw[hz]at h1 h2;cases h1;cases h2;refine⟨[(0,.int z)],rfl,?_⟩;have em:jA (.int way) (.int z)=some (.int (way*z)):=mulL _ (by rcases iQ with e|e<;>(rw[e];decide)) (by rcases iQ with e|e<;>(rw[e];decide));have eq:qD ((way*z:Int):Rat)=.tuple [.int (way*z),.int 1]:=qI _;simp![em,eq,z2]
    by_cases c3:r.1=.eq/\0<FM.ent r (n+1)
    ·have k1:=(iq r.1).mpr c3.1;rw[ao (ah:=[some (.a7 (.list (Ls.map cx))),some (.a7 (.int (n:Int))),some (.a7 (aJ r)),some (.a7 (.int (FM.ent r (n+1)))),some (.a7 (.int (-1)))]) (by dsimp![kX,cY,eq_true k1,dt,eq_true c3.2])];have ew:BB n r=(r.2.drop (n+2)).map fun(w:Int)=>(((-1:Int)*w:Int):Rat):=by unfold BB;rw[if_pos c3]
     rw[ew];have ec:=fin (-1) (.inr rfl);dsimp![iU,ou,mf,nN,nt,cw,es,length_map,zd,ec]
    ·rw[ao (ah:=[some (.a7 (.list (Ls.map cx))),some (.a7 (.int (n:Int))),some (.a7 (aJ r)),some (.a7 (.int (FM.ent r (n+1)))),some (.a7 (.int 1))]) (by
      by_cases c4:r.1=.eq
      ·have k1:=(iq r.1).mpr c4;have c5:¬0<FM.ent r (n+1):=fun z=>c3 ⟨c4,z⟩;dsimp![kX,cY,eq_true k1,dt,eq_false c5]
      ·have k1:¬bC r.1="=":=fun z=>c4 ((iq r.1).mp z);dsimp![kX,cY,eq_false k1])]
     have ew:BB n r=(r.2.drop (n+2)).map fun(w:Int)=>(((1:Int)*w:Int):Rat):=by unfold BB;rw[if_neg c3]
     rw[ew];have ec:=fin 1 (.inl rfl);dsimp![iU,ou,mf,nN,nt,cw,es,length_map,zd,ec]
  ·rw[if_neg (by rw[decide_eq_false c1];exact Bool.false_ne_true)];refine⟨[some (.a7 (.list (Ls.map cx))),some (.a7 (.int (n:Int))),some (.a7 (aJ r)),some (.a7 (.int (FM.ent r (n+1)))),x4],?_,_,_,_,rfl⟩;dsimp![kX,iU,a0,cT,eq_false c1]
 ·rintro ah ⟨x2,x3,x4,rfl⟩;simp![mT,map_none]
theorem Jp:∀(xs ys:List Rat),dN (xs.map qD) (ys.map qD)=(xs.zip ys).map fun z=>Dat.tuple [qD z.1,qD z.2]
 |[],ys=>by simp[dN]
 |x::xs,[]=>by simp[dN]
 |x::xs,y::ys=>by simp only[map_cons,dN,zip_cons_cons,Jp xs ys]
abbrev T6 (F:List Dat->Option Dat):Prop:=∀(b n m:Nat) (Ls:List (List FM.Row)) (rows:List FM.Row),1<=b->Ls.length=n+1->Ls[n]?=some rows->ib m b rows->n+2<=m->m<=900->n<=90->b<=1900->F [.list (Ls.map cx)]=some (mT (FM.fP n rows))
abbrev Ar (way:Int) (F:List Dat->Option Dat):Prop:=∀(b n m:Nat) (Ls:List (List FM.Row)) (rows:List FM.Row),1<=b->Ls.length=n+1->Ls[n]?=some rows->ib m b rows->n+1<m->m<=900->n<=90->b<=1900->F [.list (Ls.map cx)]=some (dC (FM.endOf n rows way))
theorem AO(hl:∀r∈rows,r.2.length=m){t:FM.fO}(h:FM.endOf n rows way=some t):t.2.2.length=m-(n+2):=by
 obtain⟨⟨r,hr,hc,k1,k2,k3⟩,_⟩:=(FM.jW rows n (List.replicate (n+1) 0) way).some t h;rw[k3];unfold FM.nG;rw[length_map,length_drop,hl r hr,length_replicate]
variable {Fu:List Dat->Option Dat}
theorem IX(T:TX mg){Fo:List Dat->Option Dat}(kT:Dn P w K mg base 7 "upper_end" ["stages"] 1 Fu)(hU:Ar 1 Fu)(lY:Dn P w K mg base 7 "opposite_end" ["stages"] 1 Fo)(hO:Ar (-1) Fo)(rP:Dn P w K mg base 7 "is_never" ["kind","bound"] 2 Fi)(hI:Tf Fi)(vD:Dn P w K mg base 7 "plus" ["a","b"] 2 iK)(U:FnAt K mg "never_by_ends" (top 29) ["stages"]):
  ∃F,Dn P w K mg base 8 "never_by_ends" ["stages"] 1 F/\T6 F:=by
 refine⟨_,cz ["stages","top","bottom","kind"] U fun nd _ _ _ _ _ _ _ hr=>
  (ae (az 1 nd (aw kT hr (a6 (a5 0) a9)))
  (ae (az 2 nd (aw lY hr (a6 (a5 0) a9)))
  (ae (aM (bO (c9 (cR (a5 1) bK) (cC (cR (a5 2) bK)))) (ag (ar bK)) aH)
  (ae (az 3 nd (gy (Bh aT (aS (k:=0) (a6 (af (a5 1) a8) (a6 (af (a5 2) a8) a9 (hs:=aD)) (hs:=aD)))) aT aT))
  (ae (aM (bb (aw rP hr (a6 (a5 3) (a6 (aw vD hr (a6 (af (a5 1) a8) (a6 (af (a5 2) a8) a9 (hs:=aD)) (hs:=aD))) a9 (hs:=aW))))) (ag (ar (cS (kH rfl (ky (N':=["a","b"])) (mQ T.zip (a6 (af (a5 1) a8) (a6 (af (a5 2) a8) a9 (hs:=aD)) (hs:=aD))) (fun _ _ _ _=>(dG (n:=2) rfl (aY (aB 0 (show(["a","b"]:List Str).Nodup by decide +kernel)) (aY (aB 1 (show(["a","b"]:List Str).Nodup by decide +kernel)) cV)))) (fun _ _ _ _=>dh) (fun _ _ _ _=>(aw vD hr (a6 (a5 0) (a6 (a5 1) a9)))) (ub rfl rfl))))) aH)
  (ag (ar bK))))))),?_⟩
 intro b n m Ls rows hb hl hn hR FV oP sJ hsz;have z2:2<=sizeLine:=sz (by decide);have eu:=hU b n m Ls rows hb hl hn hR (by omega) oP sJ hsz;have eo:=hO b n m Ls rows hb hl hn hR (by omega) oP sJ hsz;refine bP ?_;simp!;rw[ao (ah:=[some (.a7 (.list (Ls.map cx))),some (.a7 (dC (FM.endOf n rows 1))),none,none]) (by dsimp![eu])];rw[ao (ah:=[some (.a7 (.list (Ls.map cx))),some (.a7 (dC (FM.endOf n rows 1))),some (.a7 (dC (FM.endOf n rows (-1)))),none]) (by dsimp![eo])];have nE:FM.fP n rows=(match FM.endOf n rows 1,FM.endOf n rows (-1)with
  |some t,some b=>if FM.cO (if t.1=true\/b.1=true then .lt else .le) (t.2.1+b.2.1)=true then some (zipWith (fun x y=>x+y) t.2.2 b.2.2)else none
  |_,_=>none):=rfl
 rw[nE];cases ht:FM.endOf n rows 1 with
 |none=>
  have e0:dC none=.none:=rfl;rw[e0];dsimp![gR,mT]
 |some t=>
  cases ho:FM.endOf n rows (-1)with
  |none=>
   have e0:dC none=.none:=rfl;rw[e0];dsimp![gR,mr,mT]
  |some o=>
   obtain⟨s1,s2⟩:=ni (.inl rfl) hR ht;obtain⟨s3,s4⟩:=ni (.inr rfl) hR ho;have w1:=AO hR.len ht;have w2:=AO hR.len ho;have BV:b+b+1<=4000:=by omega
   have t0:aO (dC (some t)) (.int 0)=some (.str (fk t.1)):=rfl;have t1:aO (dC (some t)) (.int 1)=some (qD t.2.1):=rfl;have t2:aO (dC (some t)) (.int 2)=some (.list (t.2.2.map qD)):=rfl;have o0:aO (dC (some o)) (.int 0)=some (.str (fk o.1)):=rfl;have o1:aO (dC (some o)) (.int 1)=some (qD o.2.1):=rfl;have o2:aO (dC (some o)) (.int 2)=some (.list (o.2.2.map qD)):=rfl;have ei:inD (.str "<") (.tuple [.str (fk t.1),.str (fk o.1)])=some (.bool (decide (t.1=true\/o.1=true))):=by
    cases t.1<;>cases o.1<;>rfl
   have ep:=nB s1 s3 (by omega) (by omega);have eN:=hI (b+b+1) (if t.1=true\/o.1=true then .lt else .le) (t.2.1+o.2.1) BV (s1.add s3);show _=some (Fl.rt (mT (if FM.cO (if t.1=true\/o.1=true then .lt else .le) (t.2.1+o.2.1)=true then some (zipWith (fun x y=>x+y) t.2.2 o.2.2)else none)));rw[ao (ah:=[some (.a7 (.list (Ls.map cx))),some (.a7 (dC (some t))),some (.a7 (dC (some o))),none]) (by dsimp![mr])];rw[ao (ah:=[some (.a7 (.list (Ls.map cx))),some (.a7 (dC (some t))),some (.a7 (dC (some o))),some (.a7 (.str (bC (if t.1=true\/o.1=true then .lt else .le))))]) (by
    by_cases c:t.1=true\/o.1=true
    ·rw[decide_eq_true c]at ei;rw[if_pos c];have ks:bC .lt="<":=rfl;dsimp![t0,o0,ei,z2,ks]
    ·rw[decide_eq_false c]at ei;rw[if_neg c];have ks:bC .le="<=":=rfl;dsimp![t0,o0,ei,z2,ks])]
   generalize (if t.1=true\/o.1=true then FM.Kn.lt else .le)=kn at *;cases c2:FM.cO kn (t.2.1+o.2.1)with
   |false=>
    rw[c2]at eN;rw[if_neg Bool.false_ne_true];dsimp![t1,o1,ep,eN,mT]
   |true=>
    rw[c2]at eN;rw[if_pos rfl];have zl:(t.2.2.zip o.2.2).length<sizeLine:=by rw[length_zip,w1,w2];exact lt_of_lt_of_le (show min (m-(n+2)) (m-(n+2))<1000 by omega) (sz (by decide))
    have ec:c8 (lz 2 (gS (aName 0) (gS (aName 1) ny))) gu (ia 2 iK (ay (aA 0) (ay (aA 1) bp))) [none,none] ((t.2.2.zip o.2.2).map fun z=>Dat.tuple [qD z.1,qD z.2])=some ((zipWith (fun x y=>x+y) t.2.2 o.2.2).map qD):=by
     have es:zipWith (fun x y=>x+y) t.2.2 o.2.2=(t.2.2.zip o.2.2).map fun z=>z.1+z.2:=by rw[List.zip,List.map_zipWith]
     rw[es];refine cZ _ _ (by rw[length_map,length_map,length_map]) fun i d o' g1 g2=>?_;rw[getElem?_map]at g1 g2;rw[getElem?_map]at g2;cases hq:(t.2.2.zip o.2.2)[i]? with
     |none=>rw[hq]at g1;cases g1
     |some z=>
      rw[hq]at g1 g2;cases g1;cases g2;obtain⟨Oj,Oi⟩:=of_mem_zip (mem_of_getElem? hq);refine⟨[(0,qD z.1),(1,qD z.2)],rfl,?_⟩;have e1:=nB (s2 z.1 Oj) (s4 z.2 Oi) (by omega) (by omega);simp![e1]
    dsimp![t1,t2,o1,o2,ep,eN,hG,Jp,length_map,zl,ec,mT]
abbrev T4 (F:List Dat->Option Dat):Prop:=∀(b n m:Nat) (Ls:List (List FM.Row)) (rows:List FM.Row),1<=b->Ls.length=n+1->Ls[n]?=some rows->ib m b rows->n+2<=m->m<=900->n<=90->b<=1900->F [.list (Ls.map cx)]=some (mT (FM.never n rows))
theorem Me(T:TX mg){Fr:List Dat->Option Dat}(vE:Dn P w K mg base 8 "never_by_a_row" ["stages"] 1 Fr)(hR:T7 Fr)(wH:Dn P w K mg base 8 "never_by_ends" ["stages"] 1 Fe)(hE:T6 Fe)(U:FnAt K mg "never" (top 30) ["stages"]):
  ∃F,Dn P w K mg base 9 "never" ["stages"] 1 F/\T4 F:=by
 refine⟨_,cz ["stages","weights"] U fun nd _ _ _ _ _ _ _ hr=>
  (ae (az 1 nd (aw vE hr (a6 (a5 0) a9)))
  (ag (ar (gy (cR (a5 1) bK) (aw wH hr (a6 (a5 0) a9)) (a5 1))))),?_⟩
 intro b n m Ls rows hb hl hn fV FV oP sJ hsz;have e1:=hR b n m Ls rows hb hl hn fV FV oP (by omega);have e2:=hE b n m Ls rows hb hl hn fV FV oP sJ hsz;have nE:FM.never n rows=(match FM.fF n rows with
  |some w=>some w
  |none=>FM.fP n rows):=rfl
 rw[nE];cases hw:FM.fF n rows with
 |none=>
  rw[hw]at e1;have e0:mT none=.none:=rfl;rw[e0]at e1;simp![e1,gR,e2]
 |some ws=>
  rw[hw]at e1;have e0:mT (some ws)=.list (ws.map qD):=rfl;rw[e0]at e1;have n0:lS (.list (ws.map qD)) .none=some (.bool false):=rfl;simp![e1,n0,e0]
theorem LW{g x:Int}(h:g∣x):(x.fdiv g).natAbs<=x.natAbs:=by
 obtain⟨c,rfl⟩:=h;by_cases g0:g=0
 ·rw[g0];simp
 ·rw[mul_comm,Int.mul_fdiv_cancel _ g0,natAbs_mul];exact Nat.le_mul_of_pos_right _ (by omega)
theorem zv{one other:List Int}{bU more:Int}(h1:∀x∈one,x.natAbs<2^b)(h2:∀x∈other,x.natAbs<2^b)(h3:bU.natAbs<2^b)(h4:more.natAbs<2^b):∀x∈FM.mixed one bU other more,x.natAbs<2^(2*b+1):=by
 intro x hx;obtain⟨y,hy,rfl⟩:=mem_map.mp (show x∈(FM.fU one bU other more).map (fun x=>x.fdiv (FM.lowG (FM.fU one bU other more):Int))from hx);refine lt_of_le_of_lt (LW (FM.mV hy)) ?_;obtain⟨p,hp,q,hq,rfl⟩:=jK (show y∈zipWith (fun a b=>bU*a+more*b) one other from hy);rw[show 2*b=b+b by omega];exact rL (d4 h3 (h1 p hp)) (d4 h4 (h2 q hq))
theorem BD{most:Nat}{aE:List Nat}(hR:ib m b rows):ib m (2*b+1) (FM.dg aE j most rows):=by
 have up:∀{x:Int},x.natAbs<2^b->x.natAbs<2^(2*b+1):=fun h=>dM h (by omega);unfold FM.dg;split
 ·refine⟨fun r hr=>?_,fun r hr x hx=>?_⟩
  ·rcases FM.ij.mp hr with⟨h1,h2⟩|⟨u,hu,l,hl,pu,pl,_,e⟩
   ·exact hR.len r h1
   ·rw[e];show(FM.mixed u.2 _ l.2 _).length=_;rw[FM.nP (by rw[hR.len u hu,hR.len l hl]),hR.len u hu]
  ·rcases FM.ij.mp hr with⟨h1,h2⟩|⟨u,hu,l,hl,pu,pl,_,e⟩
   ·exact up (hR.bd r h1 x hx)
   ·rw[e]at hx;exact zv (hR.bd u hu) (hR.bd l hl) (by rw[natAbs_neg];exact d7 (hR.bd l hl)) (d7 (hR.bd u hu)) x hx
 ·rename_i q hq;have hm:=mem_of_find?_eq_some hq;refine⟨fun r hr=>?_,fun r hr x hx=>?_⟩
  ·obtain⟨s,hs,rfl⟩:=mem_map.mp hr;have hs:=(mem_filter.mp hs).1;show(FM.mixed s.2 _ q.2 _).length=_;rw[FM.nP (by rw[hR.len s hs,hR.len q hm]),hR.len s hs]
  ·obtain⟨s,hs,rfl⟩:=mem_map.mp hr;have hs:=(mem_filter.mp hs).1;exact zv (hR.bd s hs) (hR.bd q hm) (by rw[natAbs_natCast];exact d7 (hR.bd q hm)) (by split<;>(try rw[natAbs_neg])<;>exact d7 (hR.bd s hs)) x hx
theorem Er{M:Nat}(aE:List Nat):∀(m j most b:Nat) (rows:List FM.Row),ib M b rows->∀i,i<=m->∃rs,(FM.md aE m j most rows)[i]?=some rs/\ib M (FM.bt b i) rs
 |0,j,most,b,rows,h,i,hi=>by
  have:i=0:=by omega
  subst this;exact⟨rows,rfl,h⟩
 |m+1,j,most,b,rows,h,0,hi=>⟨rows,rfl,h⟩
 |m+1,j,most,b,rows,h,i+1,hi=>Er aE m (j+1) _ (2*b+1) _ (BD h) i (by omega)
theorem vP(aE:List Nat):∀(m j most:Nat) (rows:List FM.Row),(FM.md aE m j most rows).length=m+1
 |0,j,most,rows=>rfl
 |m+1,j,most,rows=>by
  show(FM.md aE m (j+1) _ _).length+1=_;rw[vP]
variable {e:Nat} {k:FM.Kn}
theorem yt{qs:List Rat}(hq:∀q∈qs,SR c q)(hP:gf qs<2^e):∀x∈(FM.whole k qs).2,x.natAbs<2^(c+e):=by
 have hL:FM.iP qs<2^e:=by
  have:=w5 qs 1 (by decide);rw[one_mul]at this;exact lt_of_le_of_lt this hP
 intro x hx;obtain⟨q,sI,rfl⟩:=mem_map.mp (show x∈qs.map (fun q=>q.num*((FM.iP qs/q.den:Nat):Int))from hx);exact d4 (hq q sI).ln (by rw[natAbs_natCast];exact lt_of_le_of_lt (Nat.div_le_self _ _) hL)
theorem Ks{c e n k:Nat}(jM:1<=c):∀(l:List FM.Ol) (i:Nat),(∀o∈l,wG c e n o)->∀r∈FM.cB k i l,∀x∈r.2,x.natAbs<2^(c+e)
 |[],i,_,r,hr=>by simp[FM.cB]at hr
 |o::l,i,h,r,hr=>by
  rcases mem_cons.mp (show r∈FM.whole o.1 (o.2.1++[0,o.2.2]++FM.dJ k i)::FM.cB k (i+1) l from hr)with e|hr
  ·subst e;have ho:=h o mem_cons_self;refine yt (fun q hq=>?_) ?_
   ·rcases mem_append.mp hq with h|h
    ·rcases mem_append.mp h with h|h
     ·exact ho.sq q h
     ·rcases mem_cons.mp h with h|h
      ·rw[h];exact kU jM
      ·rw[mem_singleton.mp h];exact ho.bd
    ·rcases p6 h with e|e
     ·rw[e];exact kU jM
     ·rw[e];exact uh jM
   ·rw[jq,jq,oU (a:=FM.dJ k i) (fun q hq=>by rcases p6 hq with e|e<;>(rw[e];rfl)),mul_one];show gf o.2.1*(1*(o.2.2.den*1))<_;rw[one_mul,mul_one];exact ho.dn
  ·exact Ks jM l (i+1) (fun o ho=>h o (mem_cons_of_mem _ ho)) r hr
variable {p:List Rat} {os:List FM.Ol}
theorem A6(jM:1<=c)(lZ:∀q∈p,SR c q)(zP:gf p<2^e)(bw:∀o∈os,wG c e p.length o):ib (p.length+2+os.length) (c+e) (FM.bo p os):=by
 refine⟨(FM.tN fun o ho=>(bw o ho).len).len,fun r hr=>?_⟩;unfold FM.bo at hr;rcases mem_append.mp hr with h|h
 ·exact Ks jM os 0 bw r h
 ·rw[mem_singleton.mp h];refine yt (fun q hq=>?_) ?_
  ·rcases mem_append.mp hq with h|h
   ·rcases mem_append.mp h with h|h
    ·obtain⟨x,hx,rfl⟩:=mem_map.mp h;exact gX (lZ x hx)
    ·rcases mem_cons.mp h with h|h
     ·rw[h];exact uh jM
     ·rw[mem_singleton.mp h];exact kU jM
   ·rw[(mem_replicate.mp h).2];exact kU jM
  ·rw[jq,jq,oU (a:=List.replicate os.length 0) (fun q hq=>by rw[(mem_replicate.mp hq).2];rfl),mul_one,sj];show gf p*1<_;rw[mul_one];exact zP
theorem M1(a b:FM.Row):eqB (aJ a) (aJ b)=some (decide (a=b)):=by
 have h:eqB (aJ a) (aJ b)=if kqdOk 9 (aJ a)=true/\kqdOk 9 (aJ b)=true then some (lT (aJ a) (aJ b))else none:=rfl;rw[h,if_pos ⟨mC (uR a.1),mC (uR b.1)⟩];congr 1
 by_cases e:a=b
 ·rw[nj (by rw[e]),decide_eq_true e]
 ·rw[nk (fun z=>e (B8 z)),decide_eq_false e]
theorem LM(a b:FM.Row):fI (aJ a) (aJ b)=some (.bool (!decide (a=b))):=by unfold fI;rw[M1];rfl
theorem yw{os:List FM.Ol}{n:Nat}:∀(l:List FM.Ol) (i:Nat),(∀t,t<l.length->os[i+t]?=l[t]?)->((eN i l).filter fun p=>!decide (p.2.1=.eq)).map (fun p=>nat (n+2+p.1))=(((range' i l.length).filter fun i=>FM.jO os i).map fun i=>n+2+i).map nat
 |[],i,_=>rfl
 |o::l,i,h=>by
  have ih:=yw l (i+1) (n:=n) (os:=os) fun t ht=>by
   have:=h (t+1) (by rw[length_cons];omega);rw[show i+1+t=i+(t+1) by omega];exact this
  have h0:=h 0 (by rw[length_cons];omega);have hk:FM.knd os i=o.1:=by
   unfold FM.knd;rw[getD_eq_getElem?_getD,show i=i+0 by omega,h0];rfl
  have hj:FM.jO os i=!decide (o.1=.eq):=by unfold FM.jO;rw[hk,decide_not]
  rw[length_cons,List.range'_succ];show(((i,o)::eN (i+1) l).filter _).map _=_;rw[filter_cons,filter_cons];show(if(!decide (o.1=.eq))=true then _ else _:List (Nat×FM.Ol)).map _=_;rw[hj];by_cases c:(!decide (o.1=.eq))=true
  ·rw[if_pos c,if_pos c,map_cons,map_cons,map_cons,ih]
  ·rw[if_neg c,if_neg c,ih]
abbrev SO (F:List Dat->Option Dat):Prop:=∀(c e:Nat) (p:List Rat) (os:List FM.Ol),1<=c->c<=3000->e<=4000->p.length<=50->os.length<=100->(∀q∈p,SR c q)->gf p<2^e->(∀o∈os,wG c e p.length o)->FM.bt (c+e) p.length<=4400->FM.cb (os.length+1) p.length<sizeLine->F [.tuple (p.map qD),.list (os.map aq)]=some (.list ((FM.bH p os).map cx))
variable {Fp:List Dat->Option Dat}
theorem IV(T:TX mg){Ff:List Dat->Option Dat}(AL:Dn P w K mg base 5 "first_rows" ["parts","others"] 2 Ff)(hF:Ti Ff)(E4:Dn P w K mg base 5 "equal_row" ["rows","place"] 2 Fe)(hE:∀(rows:List FM.Row) (j m:Nat),(∀r∈rows,r.2.length=m)->j<m->Fe [.list (rows.map aJ),.int (j:Int)]=some (tv (FM.eY j rows)))(My:Dn P w K mg base 5 "paired" ["rows","place","weighed","most"] 4 Fp)(hP:SY Fp)(Ji:Dn P w K mg base 5 "without" ["row","equal","place"] 3 Fw)(hW:SF Fw)(U:FnAt K mg "stages_of" (top 21) ["parts","others"]):
  ∃F,Dn P w K mg base 6 "stages_of" ["parts","others"] 2 F/\SO F:=by
 refine⟨_,cz ["parts","others","rows","ahead","weighed","most","stages","place","equal"] U fun nd _ _ _ _ _ _ _ hr=>
  (ae (az 2 nd (aw AL hr (a6 (a5 0) (a6 (a5 1) a9))))
  (ae (az 3 nd (dX (cI T.len (a6 (a5 0) a9)) a8))
  (ae (uD 4 nd rfl (fB (tn:=["place","other"]) (fv:=["ahead"]) (js:=[3]) rfl (by decide +kernel) (by decide +kernel) rfl (by decide +kernel) (by decide +kernel) rfl
   (fun x hx=>by((have f6:x="ahead":=(by simpa using hx));(rcases f6 with rfl<;>exact⟨_,rfl⟩)))
   (fun p hp=>by((have gA:p=(("ahead" : Str),(3:Nat)):=(by simpa using hp));(rcases gA with rfl<;>exact⟨rfl,.inr (.inl rfl),.inl rfl,fun z=>by cases z⟩)))) (qJ T.enumerate (a6 (a5 1) a9)) (fun _ _ _ _=>(dG (n:=2) rfl (aY (aB 0 (show(["place","other","ahead"]:List Str).Nodup by decide +kernel)) (aY (aB 1 (show(["place","other","ahead"]:List Str).Nodup by decide +kernel)) cV)))) (fun _ _ _ _=>(lJ (dm hr (af (a5 1) a8) aT))) (fun _ _ _ _=>(dX (a5 2) (a5 0))) (ub rfl rfl))
  (ae (az 5 nd a8)
  (ae (mP 6 nd (j6 a9))
  (ae (CP PassesOwn.never rfl T.range (a6 (cI T.len (a6 (a5 0) a9)) a9 (hs:=aW)) (aB 7 nd) (ae (jJ 6 (a5 2))
  (ae (az 8 nd (aw E4 hr (a6 (a5 2) (a6 (a5 7) a9))))
  (ag (aM (cR (a5 8) bK) (ae (az 5 nd (dX (a5 5) a8))
  (ag (az 2 nd (aw My hr (a6 (a5 2) (a6 (a5 7) (a6 (a5 4) (a6 (a5 5) a9)))))))) (ag (nL 2 nd rfl (fB (tn:=["row"]) (fv:=["place","equal"]) (js:=[7,8]) rfl (by decide +kernel) (by decide +kernel) rfl (by decide +kernel) (by decide +kernel) rfl
   (fun x hx=>by((have f6:x="place"\/x="equal":=(by simpa using hx));(rcases f6 with rfl|rfl<;>exact⟨_,rfl⟩)))
   (fun p hp=>by((have gA:p=(("place" : Str),(7:Nat))\/p=(("equal" : Str),(8:Nat)):=(by simpa using hp));(rcases gA with rfl|rfl<;>exact⟨rfl,.inr (.inl rfl),.inl rfl,fun z=>by cases z⟩)))) (a5 2) (fun _ _ _ _=>(aB 0 (show(["row","place","equal"]:List Str).Nodup by decide +kernel))) (fun _ _ _ _=>(lJ (dm hr (a5 0) (a5 2)))) (fun _ _ _ _=>(aw Ji hr (a6 (a5 0) (a6 (a5 2) (a6 (a5 1) a9))))) (dS rfl))))))))
  (ae (jJ 6 (a5 2))
  (ag (ar (a5 6)))))))))),?_⟩
 intro c e p os jM hc he hp gY lZ zP bw qf OI;have z0:0<=sizeLine:=zero_le _;have hlen:∀o∈os,o.2.1.length=p.length:=fun o ho=>(bw o ho).len;have lp:kI [.tuple (p.map qD)]=some (.int p.length):=by show some (Dat.int ((p.map qD).length:Nat))=_;rw[length_map]
 have eF:=hF c e p os jM hc he (by omega) gY lZ zP bw;generalize FP:FM.cF p.length os.length (FM.jO os)=wd;have FO:wd.length<=900:=by
  rw[<- FP];unfold FM.cF;rw[length_map];have:=length_filter_le (fun i=>FM.jO os i) (List.range os.length);rw[length_range]at this;omega
 have Oq:∀q∈wd,q<p.length+2+os.length:=fun q hq=>by
  rw[<- FP]at hq;unfold FM.cF at hq;obtain⟨i,hi,rfl⟩:=mem_map.mp hq;have:=List.mem_range.mp (mem_filter.mp hi).1;omega
 refine bP ?_;simp!;rw[ao (ah:=[some (.a7 (.tuple (p.map qD))),some (.a7 (.list (os.map aq))),some (.a7 (.list ((FM.bo p os).map aJ))),none,none,none,none,none,none]) (by simp![eF])];rw[ao (ah:=[some (.a7 (.tuple (p.map qD))),some (.a7 (.list (os.map aq))),some (.a7 (.list ((FM.bo p os).map aJ))),some (.a7 (.int ((p.length:Int)+2))),none,none,none,none,none]) (by simp![lp,cw])];have zn:os.length<sizeLine:=lt_of_lt_of_le (show os.length<1000 by omega) (sz (by decide));have n6:rh (ay (aA 1) bp) (bx [some (.a7 (.tuple (p.map qD))),some (.a7 (.list (os.map aq))),some (.a7 (.list ((FM.bo p os).map aJ))),some (.a7 (.int ((p.length:Int)+2))),none,none,none,none,none])=some ((eN 0 os).map Cj):=by
  rw[<- DE];rfl
 have ec:c8 (lz 2 (gS (aName 0) (gS (aName 1) ny))) (bc (L3.f2 fI (L3.f2 aO (aA 1) (fC (.int 0))) (fC (.str "=")))) (L3.f2 lV (aA 2) (aA 0)) [none,none,some (.int ((p.length:Int)+2))] ((eN 0 os).map Cj)=some (wd.map nat):=by
  rw[jr Cj (fun q=>nat (p.length+2+q.1)) (fun q=>!decide (q.2.1=.eq)) (eN 0 os) (fun q hq=>?_)]
  ·rw[yw os 0 (fun t _=>by rw[zero_add]),<- FP];unfold FM.cF;rw[List.range_eq_range']
  ·refine⟨[(0,.int (q.1:Int)),(1,aq q.2)],rfl,?_,fun _=>?_⟩
   ·have e0:aO (aq q.2) (.int 0)=some (.str (bC q.2.1)):=rfl;by_cases ck:q.2.1=.eq
    ·have k1:=(iq q.2.1).mpr ck;rw[decide_eq_true ck];dsimp![e0,jZ,eq_true k1]
    ·have k1:¬bC q.2.1="=":=fun z=>ck ((iq q.2.1).mp z);rw[decide_eq_false ck];dsimp![e0,jZ,eq_false k1]
   ·have en:nat (p.length+2+q.1)=.int ((p.length:Int)+2+(q.1:Int)):=rfl;rw[en];simp![cw]
 rw[ao (ah:=[some (.a7 (.tuple (p.map qD))),some (.a7 (.list (os.map aq))),some (.a7 (.list ((FM.bo p os).map aJ))),some (.a7 (.int ((p.length:Int)+2))),some (.a7 (.list (wd.map nat))),none,none,none,none]) (B5 (Aj n6 (by rw[length_map,Aa];exact zn) ec))];rw[ao (ah:=[some (.a7 (.tuple (p.map qD))),some (.a7 (.list (os.map aq))),some (.a7 (.list ((FM.bo p os).map aJ))),some (.a7 (.int ((p.length:Int)+2))),some (.a7 (.list (wd.map nat))),some (.a7 (.int 1)),none,none,none]) (by simp![])];rw[ao (ah:=[some (.a7 (.tuple (p.map qD))),some (.a7 (.list (os.map aq))),some (.a7 (.list ((FM.bo p os).map aJ))),some (.a7 (.int ((p.length:Int)+2))),some (.a7 (.list (wd.map nat))),some (.a7 (.int 1)),some (.own ([])),none,none]) (by simp![z0])];have Ox:oo [.int ((p.length:Nat):Int)]=some ((range' 0 p.length).map nat):=by
  rw[N8 p.length (by omega)];unfold iO;rw[List.range_eq_range'];congr 1
  exact List.map_congr_left fun i _=>by rw[Int.zero_add]
 refine gx (I:=_) (Gj (as:=[.int ((p.length:Nat):Int)]) (l:=range' 0 p.length) (s:=((FM.bo p os,1,[]):FM.Nx)) nat (fun(s:FM.Nx) Γ=>∃x7 x8,Γ=[some (.a7 (.tuple (p.map qD))),some (.a7 (.list (os.map aq))),some (.a7 (.list (s.1.map aJ))),some (.a7 (.int ((p.length:Int)+2))),some (.a7 (.list (wd.map nat))),some (.a7 (.int (s.2.1:Int))),some (.own (s.2.2.map cx)),x7,x8])
  (fun s l=>∃(j m b r:Nat) (E:List Nat) (B:Nat->Nat->Rat) (β:Nat->Rat),l=range' j m/\j+m=p.length/\s.2.1=E.length+1/\FM.Rs p.length os.length s.1/\FM.Sg p.length os.length j (FM.jO os) (FM.sO os) E B β (s.1.map (FM.aF p.length))/\ib (p.length+2+os.length) b s.1/\s.1.length<=r/\FM.bt b m<=4400/\FM.cb r m<sizeLine/\s.2.2.length<=j)
  (FM.dj wd) (by simp![lp]) Ox ⟨0,p.length,c+e,os.length+1,[],_,_,rfl,by omega,rfl,FM.tN hlen,FM.A5 hlen,A6 jM lZ zP bw,by
   unfold FM.bo;rw[length_append,A7];exact le_refl _,qf,OI,le_refl _⟩ ⟨none,none,rfl⟩ ?_) ?_
 ·rintro⟨rows,most,acc⟩ j0 l Γ ⟨j,m,b,r,E,B,β,hl,hjm,Kb,Kk,Kj,fV,zK,BV,S6,we⟩ ⟨x7,x8,rfl⟩;cases m with
  |zero=>cases hl
  |succ m=>
   rw[List.range'_succ]at hl;obtain⟨rfl,rfl⟩:=List.cons.inj hl;dsimp only at Kb Kk Kj fV zK we;have RT:=FM.BC Kk Kj (by omega) Kb;rw[FP]at RT;obtain⟨UP,⟨E',B',nF,UO,BQ⟩,_⟩:=RT;have hQ:∃(j m2 b r:Nat) (E:List Nat) (B:Nat->Nat->Rat) (β:Nat->Rat),range' (j0+1) m=range' j m2/\j+m2=p.length/\(FM.dj wd (rows,most,acc) j0).2.1=E.length+1/\FM.Rs p.length os.length (FM.dj wd (rows,most,acc) j0).1/\FM.Sg p.length os.length j (FM.jO os) (FM.sO os) E B β ((FM.dj wd (rows,most,acc) j0).1.map (FM.aF p.length))/\ib (p.length+2+os.length) b (FM.dj wd (rows,most,acc) j0).1/\(FM.dj wd (rows,most,acc) j0).1.length<=r/\FM.bt b m2<=4400/\FM.cb r m2<sizeLine/\(FM.dj wd (rows,most,acc) j0).2.2.length<=j:=by
    refine⟨j0+1,m,2*b+1,r+r*r/4,E',B',nF,rfl,by omega,BQ,UP,UO,BD fV,?_,BV,S6,?_⟩
    ·exact le_trans (FM.Ig rows j0 most wd) (Nat.add_le_add zK (Nat.div_le_div_right (mul_le_mul zK zK)))
    ·show(acc++[rows]).length<=_;rw[length_append];exact Nat.add_le_add_right we 1
   have xB:b<=4400:=le_trans (le_trans (show b<=2*b+1 by omega) (FM.pW m (2*b+1))) BV;have Ow:r+r*r/4<sizeLine:=lt_of_le_of_lt (FM.KA m _) S6;have zr:rows.length<sizeLine:=by omega
   have za:acc.length<sizeLine:=lt_of_lt_of_le (show acc.length<1000 by omega) (sz (by decide));refine⟨[(7,nat j0)],rfl,?_⟩;dsimp!;rw[ao (ah:=[some (.a7 (.tuple (p.map qD))),some (.a7 (.list (os.map aq))),some (.a7 (.list (rows.map aJ))),some (.a7 (.int ((p.length:Int)+2))),some (.a7 (.list (wd.map nat))),some (.a7 (.int (most:Int))),some (.own (acc.map cx++[cx rows])),some (.a7 (nat j0)),x8]) (by simp![length_map,za])];have eE:=hE rows j0 (p.length+2+os.length) fV.len (by omega);rw[ao (ah:=[some (.a7 (.tuple (p.map qD))),some (.a7 (.list (os.map aq))),some (.a7 (.list (rows.map aJ))),some (.a7 (.int ((p.length:Int)+2))),some (.a7 (.list (wd.map nat))),some (.a7 (.int (most:Int))),some (.own (acc.map cx++[cx rows])),some (.a7 (nat j0)),some (.a7 (tv (FM.eY j0 rows)))]) (by simp![eE])];cases hq:FM.eY j0 rows with
   |none=>
    have e0:tv none=.none:=rfl;have en:FM.dj wd (rows,most,acc) j0=(FM.paired j0 wd (most+1) rows,most+1,acc++[rows]):=by
     unfold FM.dj FM.dg FM.ja;dsimp only;rw[hq]
    have eP:=hP b (p.length+2+os.length) j0 (most+1) wd rows xB (by omega) (by omega) fV FO Oq (FM.LF Kk Kj hq) (lt_of_le_of_lt (le_trans (FM.ze rows j0) (Nat.add_le_add zK (Nat.div_le_div_right (mul_le_mul zK zK)))) Ow);refine⟨[some (.a7 (.tuple (p.map qD))),some (.a7 (.list (os.map aq))),some (.a7 (.list ((FM.paired j0 wd (most+1) rows).map aJ))),some (.a7 (.int ((p.length:Int)+2))),some (.a7 (.list (wd.map nat))),some (.a7 (.int ((most+1:Nat):Int))),some (.own (acc.map cx++[cx rows])),some (.a7 (nat j0)),some (.a7 (.none))],?_,⟨_,_,by rw[en,map_append];rfl⟩,hQ⟩;rw[e0,gQ (by dsimp![gR])];rw[ao (ah:=[some (.a7 (.tuple (p.map qD))),some (.a7 (.list (os.map aq))),some (.a7 (.list (rows.map aJ))),some (.a7 (.int ((p.length:Int)+2))),some (.a7 (.list (wd.map nat))),some (.a7 (.int ((most+1:Nat):Int))),some (.own (acc.map cx++[cx rows])),some (.a7 (nat j0)),some (.a7 (.none))]) (by simp![cw];rfl)];simp![eP]
   |some q=>
    have sI:=mem_of_find?_eq_some hq;have VW:=find?_some hq;have Oz:q.1=.eq/\FM.ent q j0≠0:=by simpa using VW
    have e0:tv (some q)=aJ q:=rfl;have en:FM.dj wd (rows,most,acc) j0=((rows.filter fun r=>decide (r≠q)).map (FM.wo q j0),most,acc++[rows]):=by
     unfold FM.dj FM.dg FM.ja;dsimp only;rw[hq]
    have ec:c8 (aName 0) (bc (L3.f2 fI (aA 0) (aA 2))) (ia 3 Fw (ay (aA 0) (ay (aA 2) (ay (aA 1) bp)))) [none,some (nat j0),some (aJ q)] (rows.map aJ)=some (((rows.filter fun r=>decide (r≠q)).map (FM.wo q j0)).map aJ):=by
     rw[jr aJ (fun r=>aJ (FM.wo q j0 r)) (fun r=>decide (r≠q)) rows (fun r hr=>?_)]
     ·rw[map_map];rfl
     ·refine⟨[(0,aJ r)],rfl,?_,fun hd=>?_⟩
      ·have er:(!decide (r=q))=decide (r≠q):=(decide_not).symm;rw[<- er];simp![LM]
      ·have cK:r≠q:=of_decide_eq_true hd;obtain⟨eW,_⟩:=hW b (p.length+2+os.length) j0 r q xB (by omega) (by omega) (fV.len r hr) (fV.len q sI) (fV.bd r hr) (fV.bd q sI) (FM.Q9 Kk Kj sI Oz.1 Oz.2 hr cK);simp![eW]
    refine⟨[some (.a7 (.tuple (p.map qD))),some (.a7 (.list (os.map aq))),some (.a7 (.list (((rows.filter fun r=>decide (r≠q)).map (FM.wo q j0)).map aJ))),some (.a7 (.int ((p.length:Int)+2))),some (.a7 (.list (wd.map nat))),some (.a7 (.int (most:Int))),some (.own (acc.map cx++[cx rows])),some (.a7 (nat j0)),some (.a7 (aJ q))],?_,⟨_,_,by rw[en,map_append];rfl⟩,hQ⟩;have n0:lS (aJ q) .none=some (.bool false):=rfl;rw[e0,iT (by dsimp![n0])];simp![nK,length_map,zr,ec]
 ·rintro ah ⟨x7,x8,rfl⟩;have Ov:=FM.yH wd p.length 0 1 (FM.bo p os) [];generalize hfs:(range' 0 p.length).foldl (FM.dj wd) (FM.bo p os,1,[])=fs at *;have hl:fs.2.2.length=p.length:=by
   have:=congrArg List.length Ov;rw[length_append,nil_append,vP]at this;exact Nat.succ.inj this
  have za:fs.2.2.length<sizeLine:=lt_of_lt_of_le (show fs.2.2.length<1000 by omega) (sz (by decide));have es:FM.bH p os=fs.2.2++[fs.1]:=by
   unfold FM.bH;rw[FP,Ov,nil_append]
  rw[es,map_append];simp![length_map,za,map_cons,map_nil]
theorem rK{l g:Option Rat}(hn:1<=n+m)(hl:∀x,l=some x->SR n x)(hg:∀x,g=some x->SR m x):SR (n+m+3) (FM.gL l g):=by
 cases l with
 |none=>
  cases g with
  |none=>exact kU (by omega)
  |some g=>exact((hg g rfl).sub (uh (c:=1) (by decide))).up (by omega)
 |some l=>
  cases g with
  |none=>exact((hl l rfl).add (uh (c:=1) (by decide))).up (by omega)
  |some g=>exact(((hl l rfl).add (hg g rfl)).div (Rn (c:=2) (by decide)) (by decide)).up (by omega)
variable {ys:List Rat}
theorem gN.app{D:Nat}(h:gN xs C)(h2:gN ys D):gN (xs++ys) (C+D):=by
 induction h with
 |nil=>rw[zero_add];exact h2
 |zero h0 _ ih=>exact .zero h0 ih
 | @cons _ C s _ hs _ ih=>rw[show C+s+1+D=(C+D)+s+1 by omega];exact .cons hs ih
theorem gN.set(h:gN xs C){v:Rat}{s:Nat}(hv:SR s v):∀{m:Nat},m<xs.length->xs.getD m 0=0->∃C',C'<=C+s+1/\gN (xs.set m v) C':=by
 induction h with
 |nil=>intro m hm;simp at hm
 | @zero xs C q h0 h ih=>
  intro m hm e;cases m with
  |zero=>exact⟨C+s+1,le_refl _,.cons hv h⟩
  |succ m=>
   obtain⟨C',h1,h2⟩:=ih (m:=m) (by rw[length_cons]at hm;omega) e;exact⟨C',h1,.zero h0 h2⟩
 | @cons xs C t q hs h ih=>
  intro m hm e;cases m with
  |zero=>exact⟨C+s+1,by omega,.cons hv h⟩
  |succ m=>
   obtain⟨C',h1,h2⟩:=ih (m:=m) (by rw[length_cons]at hm;omega) e;exact⟨C'+t+1,by omega,.cons hs h2⟩
def Bn (bs:Nat->Nat):Nat->Nat->Nat
 |0,C=>C
 |m+1,C=>Bn bs m (C+(bs m+C+(bs m+C)+3)+1)
def qN (bs:Nat->Nat):Nat->Nat->Prop
 |0,_=>True
 |m+1,C=>bs m+C<=1900/\qN bs m (C+(bs m+C+(bs m+C)+3)+1)
theorem yR(bs:Nat->Nat):∀(m:Nat) {C D:Nat},C<=D->Bn bs m C<=Bn bs m D
 |0,_,_,h=>h
 |m+1,_,_,h=>yR bs m (by omega)
theorem qM(bs:Nat->Nat):∀(m:Nat) {C D:Nat},C<=D->qN bs m D->qN bs m C
 |0,_,_,_,_=>trivial
 |m+1,_,_,h,h2=>⟨by have:=h2.1;omega,qM bs m (by omega) h2.2⟩
def oG (Ls:List (List FM.Row)) (x:List Rat) (m:Nat):List Rat:=x.set m (FM.gL (FM.gq (FM.cf (Ls.getD m []) m x (-1))) (FM.gI (FM.cf (Ls.getD m []) m x 1)))
theorem Bl(Ls:List (List FM.Row)):∀(m:Nat) (x:List Rat),(List.range m).reverse.foldl (oG Ls) x=FM.eV Ls m x
 |0,x=>rfl
 |m+1,x=>by
  rw[range_succ,List.reverse_append];show(List.range m).reverse.foldl (oG Ls) (oG Ls x m)=_;rw[Bl Ls m];rfl
theorem down_eq:∀n:Nat,jk ((n:Int)-1) n=(List.range n).reverse.map nat
 |0=>rfl
 |n+1=>by
  have ih:=down_eq n;rw[range_succ,List.reverse_append];show jk _ _=nat n::(List.range n).reverse.map nat;rw[<- ih];unfold jk;rw[List.range_succ_eq_map,map_cons,map_map];congr 1
  ·show Dat.int _=Dat.int _;congr 1
   omega
  ·refine List.map_congr_left fun i _=>?_;show Dat.int _=Dat.int _;congr 1
   show((n+1:Nat):Int)-1-((i+1:Nat):Int)=(n:Int)-1-(i:Int);omega
theorem rH(h:m<=ds.length):L3.cutD ds none (some (m:Int))=ds.take m:=by
 unfold L3.cutD;rw[HT.mB,HT.t7,Nat.min_eq_left h,drop_zero,sub_zero]
abbrev TH (F:List Dat->Option Dat):Prop:=∀(n:Nat) l g,n<=1900->(∀x,l=some x->SR n x)->(∀x,g=some x->SR n x)->F [j7 l,j7 g]=some (qD (FM.gL l g))
abbrev SI (F:List Dat->Option Dat):Prop:=∀(n:Nat) b,n<=4000->(∀x,b=some x->SR n x.2.1)->F [dC b]=some (j7 (FM.gq b))
abbrev T5 (F:List Dat->Option Dat):Prop:=∀b,F [dC b]=some (j7 (FM.gI b))
theorem vm(g:α->Dat){xs:List α}{x:α}(h:xs[n]?=some x):aO (.list (xs.map g)) (nat n)=some (g x):=by
 show gF (xs.map g) (n:Int)=_;have hl:n<xs.length:=(List.getElem?_eq_some_iff.mp h).1;unfold L2.gF L2.mX;rw[if_pos (by omega),if_pos (by rw[length_map];omega)];show(xs.map g)[((n:Int)).toNat]?=_;rw[toNat_natCast,getElem?_map,h];rfl
abbrev SV (F:List Dat->Option Dat):Prop:=∀(bs:Nat->Nat) (n M s:Nat) (Ls:List (List FM.Row)) (t:Rat),Ls.length=n+1->(∀i,i<n->1<=bs i/\∃rs,Ls[i]?=some rs/\ib M (bs i) rs)->n+1<M->M<=900->n<=90->SR s t->qN bs n (s+1)->F [.list (Ls.map cx),qD t]=some (.tuple ((FM.dY Ls n t).map qD))/\∀q∈FM.dY Ls n t,SR (Bn bs n (s+1)+1) q
theorem rX(n:Nat)(t:Rat):(List.replicate n (0:Rat)++[t]).length=n+1:=by rw[length_append,length_replicate];rfl
theorem tm(n:Nat)(t:Rat):∀c,c<n->(List.replicate n (0:Rat)++[t]).getD c 0=0:=fun c hc=>by
 rw[getD_eq_getElem?_getD,getElem?_append_left (by rw[length_replicate];exact hc),getElem?_replicate,if_pos hc];rfl
theorem vS{s:Nat}{t:Rat}(ht:SR s t):gN (List.replicate n (0:Rat)++[t]) (s+1):=by
 have:=(tP n).app (gN.cons ht .nil);rw[show 0+(0+s+1)=s+1 by omega]at this;exact this
theorem ET(Ls:List (List FM.Row)):∀(m:Nat) (x:List Rat),(FM.eV Ls m x).length=x.length
 |0,x=>rfl
 |m+1,x=>by
  show(FM.eV Ls m (x.set m _)).length=_;rw[ET Ls m,length_set]
theorem p7{x:List Rat}(iQ:way=1\/way=-1)(hR:ib m b rows)(hC:gN x C){t:FM.fO}(h:FM.cf rows j x way=some t):SR (b+C) t.2.1:=by
 obtain⟨⟨r,hr,hc,k1,k2,k3⟩,_⟩:=(FM.jW rows j x way).some t h;have pM:way*FM.ent r j≠0:=by rcases hc with hc|⟨hc,_⟩<;>omega
 have hb:=u0 iQ (d7 (j:=j) (hR.bd r hr));rw[k2];unfold FM.dQ;have:=w4 r (hR.bd r hr) x 0 0 C (FM.ent r x.length:Rat) (zt (d7 (hR.bd r hr))) hC;rw[zero_add]at this;exact BF this hb pM
theorem EU{bs:Nat->Nat}{n M:Nat}{Ls:List (List FM.Row)}(hl:Ls.length=n+1)(fm:∀i,i<n->1<=bs i/\∃rs,Ls[i]?=some rs/\ib M (bs i) rs):∀(m C:Nat) (x:List Rat),m<=n->x.length=n+1->(∀c,c<m->x.getD c 0=0)->gN x C->qN bs m C->∃C',C'<=Bn bs m C/\gN (FM.eV Ls m x) C'
 |0,C,x,_,_,_,hC,_=>⟨C,le_refl _,hC⟩
 |m+1,C,x,hm,uZ,ju,hC,hO=>by
  obtain⟨b1,rs,BO,fV⟩:=fm m (by omega);have eD:Ls.getD m []=rs:=by rw[getD_eq_getElem?_getD,BO];rfl
  have v1:∀y,FM.gq (FM.cf (Ls.getD m []) m x (-1))=some y->SR (bs m+C) y:=fun y hy=>by
   rw[eD]at hy;cases ho:FM.cf rs m x (-1)with
   |none=>rw[ho]at hy;cases hy
   |some o=>
    rw[ho]at hy;cases hy;exact gX (p7 (.inr rfl) fV hC ho)
  have v2:∀y,FM.gI (FM.cf (Ls.getD m []) m x 1)=some y->SR (bs m+C) y:=fun y hy=>by
   rw[eD]at hy;cases ho:FM.cf rs m x 1 with
   |none=>rw[ho]at hy;cases hy
   |some o=>
    rw[ho]at hy;cases hy;exact p7 (.inl rfl) fV hC ho
  have sv:=rK (by omega) v1 v2;obtain⟨C',zY,zX⟩:=hC.set sv (m:=m) (by omega) (ju m (by omega));obtain⟨C2,h1,h2⟩:=EU hl fm m C' _ (by omega) (by rw[length_set];exact uZ) (fun c hc=>by
   rw[FM.k0 (by omega),if_neg (by omega)];exact ju c (by omega)) zX (qM bs m zY hO.2)
  exact⟨C2,le_trans h1 (yR bs m zY),h2⟩
variable {Fn Fb:List Dat->Option Dat}
theorem Mb(T:TX mg)(Z1:TC K mg "ZERO_elimination" [.int 0,.int 1] a1)(o6:Dn P w K mg base 5 "tightest" ["rows","place","point","way"] 4 Ft)(hT:PB Ft)(jE:Dn P w K mg base 5 "turned_number_of" ["end"] 1 Fu)(hU:SI Fu)(q8:Dn P w K mg base 5 "number_of" ["end"] 1 Fn)(hN:T5 Fn)(tV:Dn P w K mg base 5 "between" ["least","greatest"] 2 Fb)(xD:TH Fb)(U:FnAt K mg "point_of" (top 34) ["stages","number"]):
  ∃F,Dn P w K mg base 6 "point_of" ["stages","number"] 2 F/\SV F:=by
 refine⟨_,cz ["stages","number","many","point","place","least","greatest"] U fun nd _ _ _ _ _ _ _ hr=>
  (ae (az 2 nd (kf (cI T.len (a6 (a5 0) a9)) a8))
  (ae (mP 3 nd (HE (tf (j6 (a6 (cq Z1.mg Z1.tup) a9)) (a5 2)) (j6 (a6 (a5 1) a9))))
  (ae (kb PassesOwn.never rfl (EC T.range (a6 (kf (a5 2) a8) (a6 (dr a8) (a6 (dr a8) a9 (hs:=gj)) (hs:=gj)) (hs:=d9))) (aB 4 nd)
  (ae (xg 5 nd (aw jE hr (a6 (aw o6 hr (a6 (af (a5 0) (a5 4)) (a6 (a5 4) (a6 (a5 3) (a6 (dr a8) a9 (hs:=gj)))) (hs:=aD))) a9 (hs:=aW))))
  (ae (xg 6 nd (aw q8 hr (a6 (aw o6 hr (a6 (af (a5 0) (a5 4)) (a6 (a5 4) (a6 (a5 3) (a6 a8 a9))) (hs:=aD))) a9 (hs:=aW))))
  (ag (AD 3 (aw tV hr (a6 (a5 5) (a6 (a5 6) a9))) (a5 4))))))
  (ag (ar (i8 T.tuple (a6 (jl (a5 3) lK (j5 (a5 2))) a9 (hs:=aD)))))))),?_⟩
 intro bs n M s Ls t hl fm RW BW sJ ht bw;have z1:1<=sizeLine:=sz (by decide);have lo:=ip cx Ls;have hp:((Ls.length:Nat):Int)-1=(n:Int):=by omega
 refine⟨?_,?_⟩
 ·refine bP ?_;simp!;rw[ao (ah:=[some (.a7 (.list (Ls.map cx))),some (.a7 (qD t)),some (.a7 (.int (n:Int))),none,none,none,none]) (by simp![lo,d8,hp])];have er:pT (nU (ay (fC (.tuple [.int 0,.int 1])) bp)) (aA 2) (bX [some (.a7 (.list (Ls.map cx))),some (.a7 (qD t)),some (.a7 (.int (n:Int))),none,none,none,none])=some ((List.replicate n (0:Rat)).map qD):=yL rfl (by omega);rw[ao (ah:=[some (.a7 (.list (Ls.map cx))),some (.a7 (qD t)),some (.a7 (.int (n:Int))),some (.own ((List.replicate n (0:Rat)++[t]).map qD)),none,none,none]) (by
   rw[map_append];have zl:((List.replicate n (0:Rat)).map qD).length+1<=sizeLine:=by rw[length_map,length_replicate];exact sz (by omega)
   generalize (List.replicate n (0:Rat)).map qD=zs at *;generalize pT (nU (ay (fC (.tuple [.int 0,.int 1])) bp)) (aA 2)=gr at *;simp only[bX,map_cons,map_nil]at er;simp![er,DC,zl,z1])]
  have Ox:rf CM (ay (L3.f2 oj (aA 2) (fC (.int 1))) (ay (fC (.int (-1))) (ay (fC (.int (-1))) bp))) (bx [some (.a7 (.list (Ls.map cx))),some (.a7 (qD t)),some (.a7 (.int (n:Int))),some (.own ((List.replicate n (0:Rat)++[t]).map qD)),none,none,none])=some ((List.range n).reverse.map nat):=by
   refine pL (as:=[.int ((n:Int)-1),.int (-1),.int (-1)]) (by
    generalize (List.replicate n (0:Rat)++[t]).map qD=zs;simp![d8]) ?_
   rw[<- down_eq];have e2:((n:Int)-1-(-1)).toNat=n:=by omega
   show(if(-1:Int)=-1/\(-(2^62)<=(n:Int)-1/\(n:Int)-1<2^62)/\(-(2^62)<=(-1:Int)/\(-1:Int)<2^62)then some (jk ((n:Int)-1) ((n:Int)-1-(-1)).toNat)else none)=_;rw[if_pos ⟨rfl,by omega,by omega⟩,e2]
  refine gx (I:=_) (lM (l:=(List.range n).reverse) (s:=List.replicate n (0:Rat)++[t]) nat (fun(x:List Rat) Γ=>∃x4 x5 x6,Γ=[some (.a7 (.list (Ls.map cx))),some (.a7 (qD t)),some (.a7 (.int (n:Int))),some (.own (x.map qD)),x4,x5,x6])
   (fun x l=>∃m C,l=(List.range m).reverse/\m<=n/\x.length=n+1/\(∀c,c<m->x.getD c 0=0)/\gN x C/\qN bs m C) (oG Ls) Ox ⟨n,s+1,rfl,le_refl _,rX n t,tm n t,vS ht,bw⟩ ⟨none,none,none,rfl⟩ ?_) ?_
  ·rintro x m0 l Γ ⟨m,C,OC,hmn,uZ,ju,hC,hO⟩ ⟨x4,x5,x6,rfl⟩;cases m with
   |zero=>cases OC
   |succ m=>
    rw[range_succ,List.reverse_append]at OC;obtain⟨rfl,rfl⟩:=List.cons.inj (show m0::l=m::(List.range m).reverse from OC);obtain⟨b1,rs,BO,fV⟩:=fm m0 (by omega);have WJ:=hO.1;have eD:Ls.getD m0 []=rs:=by rw[getD_eq_getElem?_getD,BO];rfl
    obtain⟨t1,s1⟩:=hT (bs m0) C M m0 rs x (-1) (.inr rfl) b1 fV (by omega) BW (by omega) (by omega) hC (by omega);obtain⟨t2,s2⟩:=hT (bs m0) C M m0 rs x 1 (.inl rfl) b1 fV (by omega) BW (by omega) (by omega) hC (by omega);have e1:=hU (bs m0+C) (FM.cf rs m0 x (-1)) (by omega) s1;have e2:=hN (FM.cf rs m0 x 1);have v1:∀y,FM.gq (FM.cf rs m0 x (-1))=some y->SR (bs m0+C) y:=fun y hy=>by
     cases ho:FM.cf rs m0 x (-1)with
     |none=>rw[ho]at hy;cases hy
     |some o=>
      rw[ho]at hy;cases hy;exact gX (s1 o ho)
    have v2:∀y,FM.gI (FM.cf rs m0 x 1)=some y->SR (bs m0+C) y:=fun y hy=>by
     cases ho:FM.cf rs m0 x 1 with
     |none=>rw[ho]at hy;cases hy
     |some o=>
      rw[ho]at hy;cases hy;exact s2 o ho
    have e3:=xD (bs m0+C) _ _ WJ v1 v2;have sv:=rK (by omega) v1 v2;have es:oG Ls x m0=x.set m0 (FM.gL (FM.gq (FM.cf rs m0 x (-1))) (FM.gI (FM.cf rs m0 x 1))):=by unfold oG;rw[eD]
    have as:=vm cx BO;have n5:∀o:Option Rat,F6 9 (j7 o)=true:=fun o=>by cases o<;>rfl
    generalize FM.gq (FM.cf rs m0 x (-1))=o1 at *;generalize FM.gI (FM.cf rs m0 x 1)=o2 at *;have Wh:mX (x.map qD).length (m0:Int)=some m0:=by
     unfold L2.mX;rw[if_pos (by omega),if_pos (by rw[length_map];omega),toNat_natCast]
    refine⟨[(4,nat m0)],rfl,?_⟩;dsimp!;refine⟨[some (.a7 (.list (Ls.map cx))),some (.a7 (qD t)),some (.a7 (.int (n:Int))),some (.own ((x.map qD).set m0 (qD (FM.gL o1 o2)))),some (.a7 (nat m0)),some (.a7 (j7 o1)),some (.a7 (j7 o2))],?_,⟨_,_,_,by rw[es,List.map_set]⟩,?_⟩
    ·rw[ao (ah:=[some (.a7 (.list (Ls.map cx))),some (.a7 (qD t)),some (.a7 (.int (n:Int))),some (.own (x.map qD)),some (.a7 (nat m0)),some (.a7 (j7 o1)),x6]) (by dsimp![yd,as,t1,e1,n5])];rw[ao (ah:=[some (.a7 (.list (Ls.map cx))),some (.a7 (qD t)),some (.a7 (.int (n:Int))),some (.own (x.map qD)),some (.a7 (nat m0)),some (.a7 (j7 o1)),some (.a7 (j7 o2))]) (by dsimp![yd,as,t2,e2,n5])];dsimp![vN,e3,nt,Wh]
    ·obtain⟨C',zY,zX⟩:=hC.set sv (m:=m0) (by omega) (ju m0 (by omega));refine⟨m0,C',rfl,by omega,by rw[es,length_set];exact uZ,fun c hc=>?_,by rw[es];exact zX,qM bs m0 zY hO.2⟩;rw[es,FM.k0 (by omega),if_neg (by omega)];exact ju c (by omega)
  ·rintro ah ⟨x4,x5,x6,rfl⟩;rw[Bl];have eP:FM.dY Ls n t=(FM.eV Ls n (List.replicate n 0++[t])).take n:=rfl;have hy:=ET Ls n (List.replicate n 0++[t]);rw[rX]at hy;rw[eP];generalize FM.eV Ls n (List.replicate n 0++[t])=y at *;have ec:xa (.list (y.map qD)) none (some (n:Int))=some (.list ((y.take n).map qD)):=by
    show some (Dat.list (L3.cutD (y.map qD) none (some (n:Int))))=_;rw[rH (by rw[length_map];omega),map_take]
   dsimp![ou,mf,nN,nt,ec,iB]
 ·intro q hq;have h1:=EU hl fm n (s+1) (List.replicate n 0++[t]) (le_refl _) (rX n t) (tm n t) (vS ht) bw;obtain⟨C',zY,zX⟩:=h1;exact(zX.mem q (List.mem_of_mem_take hq)).up (by omega)
abbrev SX (F:List Dat->Option Dat):Prop:=∀(bs:Nat->Nat) (n M b:Nat) (Ls:List (List FM.Row)) (rows:List FM.Row) (β:Rat),Ls.length=n+1->Ls[n]?=some rows->ib M b rows->1<=b->b<=1900->(∀i,i<n->1<=bs i/\∃rs,Ls[i]?=some rs/\ib M (bs i) rs)->n+1<M->M<=900->n<=90->SR b β->qN bs n (b+b+3+1)->
 F [.list (Ls.map cx),qD β]=some (.tuple ((FM.dY Ls n (FM.eZ n rows β)).map qD))/\∀q∈FM.dY Ls n (FM.eZ n rows β),SR (Bn bs n (b+b+3+1)+1) q
def JZ (β:Rat):Option Rat->Rat
 |none=>β
 |some l=>if l<β then β else l
theorem J5(T:TX mg){Fo:List Dat->Option Dat}(kT:Dn P w K mg base 7 "upper_end" ["stages"] 1 Fu)(hU:Ar 1 Fu)(lY:Dn P w K mg base 7 "opposite_end" ["stages"] 1 Fo)(hO:Ar (-1) Fo)(jE:Dn P w K mg base 7 "turned_number_of" ["end"] 1 Ft)(hT:SI Ft)(q8:Dn P w K mg base 7 "number_of" ["end"] 1 Fn)(hN:T5 Fn)(tV:Dn P w K mg base 7 "between" ["least","greatest"] 2 Fb)(xD:TH Fb)(nD:Dn P w K mg base 7 "below" ["a","b"] 2 d5)(Hi:Dn P w K mg base 7 "point_of" ["stages","number"] 2 Fp)(hP:SV Fp)(U:FnAt K mg "point_beyond" (top 35) ["stages","bound"]):
  ∃F,Dn P w K mg base 8 "point_beyond" ["stages","bound"] 2 F/\SX F:=by
 refine⟨_,cz ["stages","bound","least"] U fun nd _ _ _ _ _ _ _ hr=>
  (ae (az 2 nd (aw jE hr (a6 (aw lY hr (a6 (a5 0) a9)) a9 (hs:=aW))))
  (ae (aM (bO (c9 (cR (a5 2) bK) (cC (bb (aw nD hr (a6 (a5 2) (a6 (a5 1) a9))))))) (ag (az 2 nd (a5 1))) aH)
  (ag (ar (aw Hi hr (a6 (a5 0) (a6 (aw tV hr (a6 (a5 2) (a6 (aw q8 hr (a6 (aw kT hr (a6 (a5 0) a9)) a9 (hs:=aW))) a9 (hs:=aW)))) a9 (hs:=aW)))))))),?_⟩
 intro bs n M b Ls rows β hl hn hR hb Wq fm RW BW sJ dA bw;have eu:=hU b n M Ls rows hb hl hn hR (by omega) BW sJ (by omega);have eo:=hO b n M Ls rows hb hl hn hR (by omega) BW sJ (by omega);have s1:∀t,FM.endOf n rows 1=some t->SR b t.2.1:=fun t h=>(ni (.inl rfl) hR h).1;have s2:∀t,FM.endOf n rows (-1)=some t->SR b t.2.1:=fun t h=>(ni (.inr rfl) hR h).1;have e1:=hT b (FM.endOf n rows (-1)) (by omega) s2;have e2:=hN (FM.endOf n rows 1);have bT:FM.eZ n rows β=FM.gL (some (JZ β (FM.gq (FM.endOf n rows (-1))))) (FM.gI (FM.endOf n rows 1)):=by
  unfold FM.eZ;cases FM.gq (FM.endOf n rows (-1))<;>rfl
 have v2:∀y,FM.gI (FM.endOf n rows 1)=some y->SR b y:=fun y hy=>by
  cases ho:FM.endOf n rows 1 with
  |none=>rw[ho]at hy;cases hy
  |some o=>
   rw[ho]at hy;cases hy;exact s1 o ho
 have v1:∀y,FM.gq (FM.endOf n rows (-1))=some y->SR b y:=fun y hy=>by
  cases ho:FM.endOf n rows (-1)with
  |none=>rw[ho]at hy;cases hy
  |some o=>
   rw[ho]at hy;cases hy;exact gX (s2 o ho)
 rw[bT];generalize FM.gI (FM.endOf n rows 1)=o2 at *;generalize FM.gq (FM.endOf n rows (-1))=o1 at *;have key:∃l:Rat,SR b l/\JZ β o1=l/\∀g,dE (kW (fu (bc (L3.f2 lS (aA 2) (fC .none))) (gh (ia 2 d5 (ay (aA 2) (ay (aA 1) bp))))) (gU 2 (aA 1)) ic) g [some (.a7 (.list (Ls.map cx))),some (.a7 (qD β)),some (.a7 (j7 o1))]=g [some (.a7 (.list (Ls.map cx))),some (.a7 (qD β)),some (.a7 (qD l))]:=by
  cases o1 with
  |none=>exact⟨β,dA,rfl,fun g=>by rw[ao (ah:=[some (.a7 (.list (Ls.map cx))),some (.a7 (qD β)),some (.a7 (qD β))]) (by simp![j7,gR])]⟩
  |some l=>
   have sl:=v1 l rfl;have e3:=iL sl dA (by omega) (by omega);have eq:j7 (some l)=qD l:=rfl;rw[eq];by_cases c:l<β
   ·rw[decide_eq_true c]at e3;exact⟨β,dA,if_pos c,fun g=>by rw[ao (ah:=[some (.a7 (.list (Ls.map cx))),some (.a7 (qD β)),some (.a7 (qD β))]) (by simp![uS,e3])]⟩
   ·rw[decide_eq_false c]at e3;exact⟨l,sl,if_neg c,fun g=>by rw[ao (ah:=[some (.a7 (.list (Ls.map cx))),some (.a7 (qD β)),some (.a7 (qD l))]) (by simp![uS,e3])]⟩
 obtain⟨l,sl,el,hg⟩:=key;rw[el];have e3:=xD b (some l) o2 Wq (fun x hx=>by cases hx;exact sl) v2;have sb:SR (b+b+3) (FM.gL (some l) o2):=rK (by omega) (fun x hx=>by cases hx;exact sl) v2;obtain⟨e4,e5⟩:=hP bs n M (b+b+3) Ls _ hl fm RW BW sJ sb bw;refine⟨?_,e5⟩;have eq:j7 (some l)=qD l:=rfl;rw[eq]at e3;refine bP ?_;simp!;rw[ao (ah:=[some (.a7 (.list (Ls.map cx))),some (.a7 (qD β)),some (.a7 (j7 o1))]) (by dsimp![eo,e1])];rw[hg];dsimp![eu,e2,e3,e4]
theorem J4(T:TX mg){a4:Addr}(Z4:TC K mg "ZERO_follows" [.int 0,.int 1] a4)(jT:Dn P w K mg base 3 "minus" ["a","b"] 2 fE)(U:FnAt K mg "halves" (top 38) ["line"]):
  ∃F,Dn P w K mg base 4 "halves" ["line"] 1 F/\∀(c:Nat) (o:FM.Ol),c<=4000->o.2.1.length<=900->(∀q∈o.2.1,SR c q)->SR c o.2.2->F [aq o]=some (.list [aq (.le,o.2.1,o.2.2),aq (.le,o.2.1.map (fun q=>0-q),0-o.2.2)]):=by
 refine⟨_,cz ["line","parts"] U fun nd _ _ _ _ _ _ _ hr=>
  (ae (az 1 nd (i8 T.tuple (a6 (cS (i7 rfl (ky (N':=["part"])) (af (a5 0) a8) (fun _ _ _ _=>(aB 0 (show(["part"]:List Str).Nodup by decide +kernel))) (fun _ _ _ _=>dh) (fun _ _ _ _=>(aw jT hr (a6 (cq Z4.mg Z4.tup) (a6 (a5 0) a9)))) (dS rfl))) a9)))
  (ag (ar (gV (a6 (aS (k:=0) (a6 aT (a6 (af (a5 0) a8) (a6 (af (a5 0) a8) a9 (hs:=aD)) (hs:=aD)))) (a6 (aS (k:=0) (a6 aT (a6 (a5 1) (a6 (aw jT hr (a6 (cq Z4.mg Z4.tup) (a6 (af (a5 0) a8) a9 (hs:=aD)))) a9 (hs:=aW))))) a9 (hs:=bS)) (hs:=bS)))))),?_⟩
 intro c o hc hl hq hb;have z3:3<=sizeLine:=sz (by decide);have z2:2<=sizeLine:=sz (by decide);have zl:o.2.1.length<sizeLine:=lt_of_lt_of_le (show o.2.1.length<1000 by omega) (sz (by decide));have o1:aO (aq o) (.int 1)=some (.tuple (o.2.1.map qD)):=rfl;have o2:aO (aq o) (.int 2)=some (qD o.2.2):=rfl;have ec:c8 (aName 0) gu (ia 2 fE (ay (fC (.tuple [.int 0,.int 1])) (ay (aA 0) bp))) [none] (o.2.1.map qD)=some ((o.2.1.map fun q=>0-q).map qD):=by
  refine cZ _ _ (by rw[length_map,length_map,length_map]) fun n d o' h1 h2=>?_;rw[getElem?_map]at h1 h2;rw[getElem?_map]at h2;cases hz:o.2.1[n]? with
  |none=>rw[hz]at h1;cases h1
  |some q=>
   rw[hz]at h1 h2;cases h1;cases h2;refine⟨[(0,qD q)],rfl,?_⟩;have em:fE [.tuple [.int 0,.int 1],qD q]=some (qD (0-q)):=mI (kU (c:=1) (by decide)) (hq q (mem_of_getElem? hz)) (by decide) hc;simp![em]
 have em:fE [.tuple [.int 0,.int 1],qD o.2.2]=some (qD (0-o.2.2)):=mI (kU (c:=1) (by decide)) hb (by decide) hc;have ks:bC .le="<=":=rfl;dsimp![o1,o2,hG,length_map,zl,ec,em,iB,z2,z3,ks];rfl
abbrev Td (F:List Dat->Option Dat):Prop:=∀(c:Nat) (s:Bool) (p:List Rat) (β:Rat) (kt:Bool) (v:Rat),c<=4000->SR c β->SR c v->F [aq (if s=true then .lt else .le,p,β),.str (fk kt),qD v]=some (.bool (FM.gz s β kt v))
theorem R7(T:TX mg)(nD:Dn P w K mg base 3 "below" ["a","b"] 2 d5)(U:FnAt K mg "is_kept" (top 39) ["line","kind","bound"]):
  ∃F,Dn P w K mg base 4 "is_kept" ["line","kind","bound"] 3 F/\Td F:=by
 refine⟨_,cz ["line","kind","bound"] U fun nd _ _ _ _ _ _ _ hr=>
  (ae (aM (bV hr (a5 2) (af (a5 0) a8)) (ag (ar (oF (fH hr (af (a5 0) a8) aT) (dW (fH hr (a5 1) aT))))) aH)
  (ag (ar (aw nD hr (a6 (a5 2) (a6 (af (a5 0) a8) a9 (hs:=aD))))))),?_⟩
 intro c s p β kt v hc dA hv;have e1:=jV v β;have e2:=iL hv dA hc hc;have o0:aO (aq (if s=true then .lt else .le,p,β)) (.int 0)=some (.str (fk s)):=by cases s<;>rfl
 have o2:aO (aq (if s=true then .lt else .le,p,β)) (.int 2)=some (qD β):=rfl;have k1:cH (.str (fk s)) (.str "<=")=some (.bool (!s)):=by cases s<;>rfl
 have k2:cH (.str (fk kt)) (.str "<")=some (.bool kt):=by cases kt<;>rfl
 have eK:FM.gz s β kt v=if v=β then(!s || kt)else decide (v<β):=rfl;rw[eK];generalize aq (if s=true then .lt else .le,p,β)=dl at *;generalize fk s=a at *;generalize fk kt=c' at *;by_cases c1:v=β
 ·rw[decide_eq_true c1]at e1;rw[if_pos c1];cases s<;>cases kt<;>dsimp![o0,o2,e1,k1,k2]<;>rfl
 ·rw[decide_eq_false c1]at e1;rw[if_neg c1];dsimp![o0,o2,e1,e2]
structure Va (c e n k:Nat):Prop where
 c1:1<=c
 c3:c<=3000
 e4:e<=4000
 n5:n<=50
 k1:k<=100
 bt:FM.bt (c+e) n<=1900
 cb:FM.cb (k+1) n<sizeLine
 pt:qN (FM.bt (c+e)) n (FM.bt (c+e) n+FM.bt (c+e) n+3+1)
abbrev ko (h:Bool×List Rat):Dat:=if h.1=true then .tuple [.str "follows",.list (h.2.map qD)]else .tuple [.str "breaks",.tuple (h.2.map qD)]
structure tT (c e:Nat) (p:List Rat) (os:List FM.Ol):Prop where
 sz:Va c e p.length os.length
 sp:∀q∈p,SR c q
 dp:gf p<2^e
 ok:∀o∈os,wG c e p.length o
theorem uf(h:tT c e p os):∀i,i<=p.length->∃rs,(FM.bH p os)[i]?=some rs/\ib (p.length+2+os.length) (FM.bt (c+e) i) rs:=
 fun i hi=>Er _ p.length 0 1 (c+e) _ (A6 h.sz.c1 h.sp h.dp h.ok) i hi
theorem MW(p:List Rat)(os:List FM.Ol):(FM.bH p os).length=p.length+1:=vP _ _ _ _ _
abbrev Tg (F:List Dat->Option Dat):Prop:=∀(c e:Nat) (s:Bool) (p:List Rat) (β:Rat) (os:List FM.Ol),tT c e p os->SR (FM.bt (c+e) p.length) β->F [aq (if s=true then .lt else .le,p,β),.list (os.map aq)]=some (ko (FM.aZ s p β os))
theorem Pq(T:TX mg){Fs Fk:List Dat->Option Dat}(DX:Dn P w K mg base 9 "stages_of" ["parts","others"] 2 Fs)(hS:SO Fs)(PX:Dn P w K mg base 9 "never" ["stages"] 1 Fn)(hN:T4 Fn)(kT:Dn P w K mg base 9 "upper_end" ["stages"] 1 Fu)(hU:Ar 1 Fu)(Jl:Dn P w K mg base 9 "is_kept" ["line","kind","bound"] 3 Fk)(hK:Td Fk)(y8:Dn P w K mg base 9 "point_beyond" ["stages","bound"] 2 Fb)(xD:SX Fb)(U:FnAt K mg "half_follows" (top 40) ["line","others"]):
  ∃F,Dn P w K mg base 10 "half_follows" ["line","others"] 2 F/\Tg F:=by
 refine⟨_,cz ["line","others","stages","paper","top"] U fun nd _ _ _ _ _ _ _ hr=>
  (ae (az 2 nd (aw DX hr (a6 (af (a5 0) a8) (a6 (a5 1) a9) (hs:=aD))))
  (ae (az 3 nd (aw PX hr (a6 (a5 2) a9)))
  (ae (aM (cR (a5 3) bK) (ae (az 4 nd (aw kT hr (a6 (a5 2) a9)))
  (ae (aM (bO (c9 (cR (a5 4) bK) (cC (cW (bb (aw Jl hr (a6 (a5 0) (a6 (af (a5 4) a8) (a6 (af (a5 4) a8) a9 (hs:=aD)) (hs:=aD))))))))) (ag (ar (aS (k:=0) (a6 aT (a6 (aw y8 hr (a6 (a5 2) (a6 (af (a5 0) a8) a9 (hs:=aD)))) a9 (hs:=aW)))))) aH)
  (ag (az 3 nd (af (a5 4) a8))))) aH)
  (ag (ar (aS (k:=0) (a6 aT (a6 (a5 3) a9)))))))),?_⟩
 intro c e s p β os hL dA;have z2:2<=sizeLine:=sz (by decide);have S:=hL.sz;have xC:1<=FM.bt (c+e) p.length:=le_trans (show 1<=c+e by have:=S.c1;omega) (FM.pW _ _);have qf:=S.bt;have W4:=S.n5;have Wf:=S.k1;have eS:=hS c e p os S.c1 S.c3 S.e4 S.n5 S.k1 hL.sp hL.dp hL.ok (by omega) S.cb;obtain⟨rows,nQ,fV⟩:=uf hL p.length (le_refl _);have fm:∀i,i<p.length->1<=FM.bt (c+e) i/\∃rs,(FM.bH p os)[i]?=some rs/\ib (p.length+2+os.length) (FM.bt (c+e) i) rs:=fun i hi=>
  ⟨le_trans (show 1<=c+e by have:=S.c1;omega) (FM.pW _ _),uf hL i (Nat.le_of_lt hi)⟩
 have hlen:=MW p os;have eN:=hN _ p.length _ (FM.bH p os) rows xC hlen nQ fV (by omega) (by omega) (by omega) qf;have eU:=hU _ p.length _ (FM.bH p os) rows xC hlen nQ fV (by omega) (by omega) (by omega) (by omega);obtain⟨eB,_⟩:=xD (FM.bt (c+e)) p.length _ _ (FM.bH p os) rows β hlen nQ fV xC qf fm (by omega) (by omega) (by omega) dA S.pt;have v3:FM.aI p os=rows:=by unfold FM.aI;rw[getD_eq_getElem?_getD,nQ];rfl
 have hh:FM.aZ s p β os=(match FM.never p.length rows with
  |some w=>(true,w)
  |none=>match FM.endOf p.length rows 1 with
   |none=>(false,FM.dY (FM.bH p os) p.length (FM.eZ p.length rows β))
   |some t=>if FM.gz s β t.1 t.2.1=true then(true,t.2.2)else(false,FM.dY (FM.bH p os) p.length (FM.eZ p.length rows β))):=by
  unfold FM.aZ FM.beyond;cases v3;cases FM.never p.length (FM.aI p os)with
  |some w=>rfl
  |none=>cases FM.endOf p.length (FM.aI p os) 1<;>rfl
 rw[hh];generalize FM.dY (FM.bH p os) p.length (FM.eZ p.length rows β)=pt at *;have o1:aO (aq (if s=true then .lt else .le,p,β)) (.int 1)=some (.tuple (p.map qD)):=rfl;have o2:aO (aq (if s=true then .lt else .le,p,β)) (.int 2)=some (qD β):=rfl;have WQ:∀kt v,SR (FM.bt (c+e) p.length) v->Fk [aq (if s=true then .lt else .le,p,β),.str (fk kt),qD v]=some (.bool (FM.gz s β kt v)):=fun kt v hv=>hK _ s p β kt v (by omega) dA hv;have sE:∀t,FM.endOf p.length rows 1=some t->SR (FM.bt (c+e) p.length) t.2.1:=fun t h=>(ni (.inl rfl) fV h).1;generalize aq (if s=true then .lt else .le,p,β)=dl at *;refine bP ?_;simp!;rw[ao (ah:=[some (.a7 (dl)),some (.a7 (.list (os.map aq))),some (.a7 (.list ((FM.bH p os).map cx))),none,none]) (by dsimp![o1,eS])];rw[ao (ah:=[some (.a7 (dl)),some (.a7 (.list (os.map aq))),some (.a7 (.list ((FM.bH p os).map cx))),some (.a7 (mT (FM.never p.length rows))),none]) (by dsimp![eN])];cases hnv:FM.never p.length rows with
 |some ws=>
  have e0:mT (some ws)=.list (ws.map qD):=rfl;have n0:lS (.list (ws.map qD)) .none=some (.bool false):=rfl;rw[e0];rw[ao (ah:=[some (.a7 (dl)),some (.a7 (.list (os.map aq))),some (.a7 (.list ((FM.bH p os).map cx))),some (.a7 (.list (ws.map qD))),none]) (by dsimp![n0])];dsimp![z2];rfl
 |none=>
  have e0:mT none=.none:=rfl;rw[e0];cases n6:FM.endOf p.length rows 1 with
  |none=>
   rw[n6]at eU;have eb:dC none=.none:=rfl;rw[eb]at eU;dsimp![gR,eU,o2,eB,z2];rfl
  |some t=>
   rw[n6]at eU;have t0:aO (dC (some t)) (.int 0)=some (.str (fk t.1)):=rfl;have t1:aO (dC (some t)) (.int 1)=some (qD t.2.1):=rfl;have t2:aO (dC (some t)) (.int 2)=some (.list (t.2.2.map qD)):=rfl;have eK:=WQ t.1 t.2.1 (sE t n6);cases hk:FM.gz s β t.1 t.2.1 with
   |false=>
    rw[hk]at eK;rw[show(match some t with|none=>(false,pt)|some t=>if FM.gz s β t.1 t.2.1=true then(true,t.2.2)else(false,pt))=((false,pt):Bool×List Rat) by show(if FM.gz s β t.1 t.2.1=true then(true,t.2.2)else(false,pt))=_;rw[hk];rfl]
    dsimp![gR,mr,eU,t0,t1,eK,o2,eB,z2];rfl
   |true=>
    rw[hk]at eK;rw[show(match some t with|none=>(false,pt)|some t=>if FM.gz s β t.1 t.2.1=true then(true,t.2.2)else(false,pt))=((true,t.2.2):Bool×List Rat) by show(if FM.gz s β t.1 t.2.1=true then(true,t.2.2)else(false,pt))=_;rw[hk];rfl]
    rw[ao (ah:=[some (.a7 (dl)),some (.a7 (.list (os.map aq))),some (.a7 (.list ((FM.bH p os).map cx))),some (.a7 (.list (t.2.2.map qD))),some (.a7 (dC (some t)))]) (by dsimp![gR,mr,eU,t0,t1,t2,eK])];dsimp![z2];rfl
def xG (k:FM.Kn) (p:List Rat) (β:Rat) (os:List FM.Ol):Dat:=match k with
 | .lt=>ko (FM.aZ true p β os)
 | .le=>ko (FM.aZ false p β os)
 | .eq=>if(FM.aZ false p β os).1=true then(if(FM.aZ false (p.map fun q=>0-q) (0-β) os).1=true then .tuple [.str "follows",.tuple [.list ((FM.aZ false p β os).2.map qD),.list ((FM.aZ false (p.map fun q=>0-q) (0-β) os).2.map qD)]]else ko (FM.aZ false (p.map fun q=>0-q) (0-β) os))else ko (FM.aZ false p β os)
theorem tT.neg(h:tT c e p os):tT c e (p.map fun q=>0-q) os:=by
 refine⟨by rw[length_map];exact h.sz,fun q hq=>?_,by rw[sj];exact h.dp,by rw[length_map];exact h.ok⟩;obtain⟨x,hx,rfl⟩:=mem_map.mp hq;exact gX (h.sp x hx)
variable {gt:Dat->Option dk} {gb:aG->Option Fl} {d:Dat} {as:dk}
theorem ll{ah:aG}(h1:gt d=some as)(h2:gb (setG Γ as)=some (.nx ah)):forL gt gb (d::ds) Γ=forL gt gb ds ah:=by
 show(gt d).bind _=_;rw[h1];show(gb (setG Γ as)).bind _=_;rw[h2];rfl
theorem C8{v:Dat}(h1:gt d=some as)(h2:gb (setG Γ as)=some (.rt v)):forL gt gb (d::ds) Γ=some (.rt v):=by
 show(gt d).bind _=_;rw[h1];show(gb (setG Γ as)).bind _=_;rw[h2];rfl
theorem kE{f:ax->Option Dat}(hf:f (bx Γ)=some d)(hi:cM d=some ds):kG gt gb f Γ=forL gt gb ds Γ:=by
 unfold kG;rw[hf];show(cM d).bind _=_;rw[hi];rfl
theorem t6{g1 g2:aG->Option Fl}(h:g1 Γ=some (.rt d)):dE g1 g2 Γ=some (.rt d):=by
 unfold dE;rw[h];rfl
abbrev Yy (F:List Dat->Option Dat):Prop:=∀(c:Nat) (o:FM.Ol),c<=4000->o.2.1.length<=900->(∀q∈o.2.1,SR c q)->SR c o.2.2->F [aq o]=some (.list [aq (.le,o.2.1,o.2.2),aq (.le,o.2.1.map (fun q=>0-q),0-o.2.2)])
abbrev Th (F:List Dat->Option Dat):Prop:=∀(c e:Nat) (o:FM.Ol) (os:List FM.Ol),tT c e o.2.1 os->SR (FM.bt (c+e) o.2.1.length) o.2.2->F [aq o,.list (os.map aq)]=some (xG o.1 o.2.1 o.2.2 os)
variable {Fh:List Dat->Option Dat}
theorem GK(T:TX mg){Fv:List Dat->Option Dat}(qo:Dn P w K mg base 10 "half_follows" ["line","others"] 2 Fh)(hH:Tg Fh)(MC:Dn P w K mg base 10 "halves" ["line"] 1 Fv)(hV:Yy Fv)(U:FnAt K mg "follows" (top 41) ["line","others"]):
  ∃F,Dn P w K mg base 11 "follows" ["line","others"] 2 F/\Th F:=by
 refine⟨_,cz ["line","others","papers","half","verdict"] U fun nd _ _ _ _ _ _ _ hr=>
  (ae (aM (dm hr (af (a5 0) a8) aT) (ag (ar (aw qo hr (a6 (a5 0) (a6 (a5 1) a9))))) aH)
  (ae (mP 2 nd (j6 a9))
  (ae (dF PassesOwn.never rfl (aw MC hr (a6 (a5 0) a9)) (aB 3 nd)
  (ae (az 4 nd (aw qo hr (a6 (a5 3) (a6 (a5 1) a9))))
  (ae (aM (bV hr (af (a5 4) a8) aT) (ag (ar (a5 4))) aH)
  (ag (jJ 2 (af (a5 4) a8))))))
  (ag (ar (aS (k:=0) (a6 aT (a6 (i8 T.tuple (a6 (a5 2) a9)) a9 (hs:=aW))))))))),?_⟩
 rintro c e ⟨k,p,β⟩ os hL dA;dsimp only at hL dA ⊢;have z2:2<=sizeLine:=sz (by decide);have z0:0<=sizeLine:=zero_le _;have Rf:0<sizeLine:=lt_of_lt_of_le (show 0<1000 by decide) (sz (by decide));have Vc:1<sizeLine:=lt_of_lt_of_le (show 1<1000 by decide) (sz (by decide));have S:=hL.sz;have qf:=S.bt;have W4:=S.n5;have OI:c<=FM.bt (c+e) p.length:=le_trans (le_add_right _ _) (FM.pW _ _);have o0:aO (aq (k,p,β)) (.int 0)=some (.str (bC k)):=rfl;cases k with
 |lt=>
  have e1:=hH c e true p β os hL dA;have e1:Fh [aq (.lt,p,β),.list (os.map aq)]=some (xG .lt p β os):=e1;have k1:fI (.str (bC .lt)) (.str "=")=some (.bool true):=rfl;dsimp![o0,k1,e1]
 |le=>
  have e1:=hH c e false p β os hL dA;have e1:Fh [aq (.le,p,β),.list (os.map aq)]=some (xG .le p β os):=e1;have k1:fI (.str (bC .le)) (.str "=")=some (.bool true):=rfl;dsimp![o0,k1,e1]
 |eq=>
  have e1:=hH c e false p β os hL dA;have e1:Fh [aq (.le,p,β),.list (os.map aq)]=some (ko (FM.aZ false p β os)):=e1;have e2:=hH c e false (p.map fun q=>0-q) (0-β) os hL.neg (by rw[length_map];exact gX dA);have e2:Fh [aq (.le,p.map fun q=>0-q,0-β),.list (os.map aq)]=some (ko (FM.aZ false (p.map fun q=>0-q) (0-β) os)):=e2;have e3:=hV (FM.bt (c+e) p.length) (.eq,p,β) (by omega) (by show p.length<=900;omega) (fun q hq=>(hL.sp q hq).up OI) dA;have e3:Fv [aq (.eq,p,β)]=some (.list [aq (.le,p,β),aq (.le,p.map fun q=>0-q,0-β)]):=e3;have k1:fI (.str (bC .eq)) (.str "=")=some (.bool false):=rfl;have eF:xG .eq p β os=if(FM.aZ false p β os).1=true then(if(FM.aZ false (p.map fun q=>0-q) (0-β) os).1=true then .tuple [.str "follows",.tuple [.list ((FM.aZ false p β os).2.map qD),.list ((FM.aZ false (p.map fun q=>0-q) (0-β) os).2.map qD)]]else ko (FM.aZ false (p.map fun q=>0-q) (0-β) os))else ko (FM.aZ false p β os):=rfl;rw[eF];generalize FM.aZ false p β os=h1 at *;generalize FM.aZ false (p.map fun q=>0-q) (0-β) os=h2 at *;generalize aq (.le,p,β)=d1 at *;generalize aq (.le,p.map fun q=>0-q,0-β)=d2 at *;generalize aq (.eq,p,β)=dl at *;have kB:cH (.str "breaks") (.str "breaks")=some (.bool true):=rfl;have kF:cH (.str "follows") (.str "breaks")=some (.bool false):=rfl;refine bP ?_;simp!;rw[ao (ah:=[some (.a7 (dl)),some (.a7 (.list (os.map aq))),none,none,none]) (by dsimp![o0,k1])];rw[ao (ah:=[some (.a7 (dl)),some (.a7 (.list (os.map aq))),some (.own ([])),none,none]) (by dsimp![z0])];have hi:cM (.list [d1,d2])=some [d1,d2]:=rfl;have it:∀x:Bool×List Rat,x.1=true->ko x=.tuple [.str "follows",.list (x.2.map qD)]:=fun x h=>if_pos h;have K6:∀x:Bool×List Rat,¬x.1=true->ko x=.tuple [.str "breaks",.tuple (x.2.map qD)]:=fun x h=>if_neg h;have a0:∀(s:Str) (d:Dat),aO (.tuple [.str s,d]) (.int 0)=some (.str s):=fun _ _=>rfl;have a1:∀(s:Str) (d:Dat),aO (.tuple [.str s,d]) (.int 1)=some d:=fun _ _=>rfl;by_cases c1:h1.1=true
  ·rw[if_pos c1];rw[it h1 c1]at e1;by_cases c2:h2.1=true
   ·rw[if_pos c2];rw[it h2 c2]at e2;rw[ao (ah:=[some (.a7 (dl)),some (.a7 (.list (os.map aq))),some (.own ([.list (h1.2.map qD),.list (h2.2.map qD)])),some (.a7 (d2)),some (.a7 (.tuple [.str "follows",.list (h2.2.map qD)]))]) (by
     rw[kE (d:=.list [d1,d2]) (by dsimp![e3]) hi];rw[ll (as:=[(3,d1)]) (ah:=[some (.a7 (dl)),some (.a7 (.list (os.map aq))),some (.own ([.list (h1.2.map qD)])),some (.a7 (d1)),some (.a7 (.tuple [.str "follows",.list (h1.2.map qD)]))]) rfl (by dsimp![e1,a0,a1,kF,Rf])];rw[ll (as:=[(3,d2)]) (ah:=[some (.a7 (dl)),some (.a7 (.list (os.map aq))),some (.own ([.list (h1.2.map qD),.list (h2.2.map qD)])),some (.a7 (d2)),some (.a7 (.tuple [.str "follows",.list (h2.2.map qD)]))]) rfl (by dsimp![e2,a0,a1,kF,Vc])];rfl)]
    dsimp![iB,z2]
   ·rw[if_neg c2];have e2':=e2;rw[K6 h2 c2]at e2;rw[K6 h2 c2];refine t6 ?_;rw[kE (d:=.list [d1,d2]) (by dsimp![e3]) hi];rw[ll (as:=[(3,d1)]) (ah:=[some (.a7 (dl)),some (.a7 (.list (os.map aq))),some (.own ([.list (h1.2.map qD)])),some (.a7 (d1)),some (.a7 (.tuple [.str "follows",.list (h1.2.map qD)]))]) rfl (by dsimp![e1,a0,a1,kF,Rf])];rw[C8 (as:=[(3,d2)]) (v:=.tuple [.str "breaks",.tuple (h2.2.map qD)]) rfl (by dsimp![e2,a0,a1,kB])]
  ·rw[if_neg c1];rw[K6 h1 c1]at e1;rw[K6 h1 c1];refine t6 ?_;rw[kE (d:=.list [d1,d2]) (by dsimp![e3]) hi];rw[C8 (as:=[(3,d1)]) (v:=.tuple [.str "breaks",.tuple (h1.2.map qD)]) rfl (by dsimp![e1,a0,a1,kB])]
theorem IY(T:TX mg)(iN:Dn P w K mg base 1 "_law_make" ["n","d"] 2 iM)(U:FnAt K mg "_law_times" (top 48) ["a","b"]):Dn P w K mg base 2 "_law_times" ["a","b"] 2 gm:=by
 obtain⟨f,fd,U,hm,hB⟩:=U.ex;have nd:(["a","b"]:List Str).Nodup:=by decide +kernel
 refine iC U hm hB (N:=["a","b"]) ⟨rfl,rfl,rfl,by decide +kernel,rfl,by decide +kernel,by decide +kernel⟩ rfl (fun bG A outer s H E hr=>
  (ag (ar (aw iN hr (a6 (bQ (af (a5 0) a8) (af (a5 1) a8)) (a6 (bQ (af (a5 0) a8) (af (a5 1) a8)) a9 (hs:=d9)) (hs:=d9)))))) ?_
 intro ds d hl hF;obtain⟨p,q,r,s,rfl,g1,g2,e⟩:=fw hF;have z:=mul_pos g1.pos g2.pos;cases e;simp![lP,lO,mulM g1.mp g2.mp,mulM g1.mq g2.mq,lh z (g1.mq.mul g2.mq)]
theorem J1(T:TX mg)(U:FnAt K mg "_law_below" (top 49) ["a","b"]):Dn P w K mg base 1 "_law_below" ["a","b"] 2 d5:=by
 obtain⟨f,fd,U,hm,hB⟩:=U.ex;have nd:(["a","b"]:List Str).Nodup:=by decide +kernel
 refine iC U hm hB (N:=["a","b"]) ⟨rfl,rfl,rfl,by decide +kernel,rfl,by decide +kernel,by decide +kernel⟩ rfl (fun bG A outer s H E hr=>
  (ag (ar (uE (bQ (af (a5 0) a8) (af (a5 1) a8)) (bQ (af (a5 1) a8) (af (a5 0) a8)))))) ?_
 intro ds d hl hF;obtain⟨p,q,r,s,rfl,g1,g2,e⟩:=fw hF;cases e;simp![lP,lO,mulM g1.mp g2.mq,mulM g2.mp g1.mq,cc]
abbrev vA:=FM.Ol×Rat
abbrev Nr (p:vA):Dat:=.tuple [aq p.1,qD p.2]
theorem vG:∀(os:List FM.Ol) (ws:List Rat),dN (os.map aq) (ws.map qD)=(os.zip ws).map Nr
 |[],ws=>by simp[dN]
 |x::xs,[]=>by simp[dN]
 |x::xs,y::ys=>by simp only[map_cons,dN,zip_cons_cons,vG xs ys]
def eM (a:List Rat) (p:vA):List Rat:=zipWith (fun x q=>x+p.2*q) a (p.1.2.1++[p.1.2.2])
def jF (n:Nat) (l:List vA):List Rat:=l.foldl eM (List.replicate (n+1) 0)
structure vw (D:Int) (u c j n:Nat) (a:List Rat):Prop where
 len:a.length=n+1
 nd:∀x∈a,∃N E:Int,E≠0/\N.natAbs<2^(u+(c+1)*(j+1))/\E.natAbs<=2^(c*j)/\x=(N:Rat)/((D*E:Int):Rat)
abbrev vv (D:Int) (u:Nat) (w:Rat):Prop:=∃W:Int,W.natAbs<2^u/\w=(W:Rat)/(D:Rat)
abbrev jw (c n:Nat) (o:FM.Ol):Prop:=o.2.1.length=n/\(∀q∈o.2.1,SR c q)/\SR c o.2.2
variable {o:FM.Ol}
theorem BH(h:jw c n o):∀q∈o.2.1++[o.2.2],SR c q:=fun q hq=>by
 rcases mem_append.mp hq with h'|h'
 ·exact h.2.1 q h'
 ·rw[mem_singleton.mp h'];exact h.2.2
theorem uA(q:Rat):q=(q.num:Rat)/((q.den:Int):Rat):=by
 have:((q.den:Int):Rat)=(q.den:Rat):=rfl;rw[this,<- Rat.mkRat_eq_div,mkRat_self]
variable {D:Int} {a:List Rat}
theorem AW{w:Rat}(hD:D≠0)(h:vw D u c j n a)(ho:jw c n o)(hw:vv D u w):vw D u c (j+1) n (eM a (o,w)):=by
 refine⟨?_,fun x hx=>?_⟩
 ·unfold eM;rw[length_zipWith,h.len,length_append,ho.1];exact min_self _
 ·obtain⟨y,hy,q,hq,rfl⟩:=jK (show x∈zipWith (fun x q=>x+w*q) a (o.2.1++[o.2.2])from hx);obtain⟨N,E,hE,hN,BY,rfl⟩:=h.nd y hy;obtain⟨W,hW,rfl⟩:=hw;have sq:=BH ho q hq;have yp:=qh q;refine⟨N*(q.den:Int)+W*q.num*E,E*(q.den:Int),mul_ne_zero hE yp,?_,?_,?_⟩
  ·have h1:(N*(q.den:Int)).natAbs<2^(u+(c+1)*(j+1)+c):=d4 hN sq.dn;have h2:(W*q.num*E).natAbs<2^(u+(c+1)*(j+1)+c):=by
    have h3:=d4 hW sq.ln;rw[natAbs_mul];have p:=pow_pos (n:=c*j) (show 0<2 by decide);have h4:=lt_of_le_of_lt (mul_le_mul_left _ BY) (Nat.mul_lt_mul_of_pos_right h3 p);rw[<- pow_add]at h4;refine dM h4 ?_;rw[Nat.add_mul,one_mul,mul_add];omega
   have:=rL h1 h2;rw[show u+(c+1)*(j+1+1)=u+(c+1)*(j+1)+c+1 by rw[mul_add (c+1) (j+1) 1];omega];exact this
  ·rw[natAbs_mul,mul_add c j 1,mul_one,pow_add];exact mul_le_mul BY (Nat.le_of_lt sq.dn)
  ·have d1:((D:Int):Rat)≠0:=fun z=>hD (FM.bF.mp z);have d2:(((q.den:Int)):Rat)≠0:=fun z=>yp (FM.bF.mp z);have d3:((E:Int):Rat)≠0:=fun z=>hE (FM.bF.mp z);have e1:=uA q;rw[Rat.intCast_add,intCast_mul,intCast_mul,intCast_mul,intCast_mul,intCast_mul,intCast_mul];conv=>lhs;rw[e1]
   generalize ((q.den:Int):Rat)=dd at *;generalize (q.num:Rat)=nn at *;grind
theorem AV:vw D u c 0 n (List.replicate (n+1) 0):=by
 refine⟨length_replicate,fun x hx=>⟨0,1,by decide,pow_pos (by decide),pow_pos (by decide),?_⟩⟩;rw[(mem_replicate.mp hx).2];have:((0:Int):Rat)=0:=rfl;rw[this];grind
variable {d:Nat}
theorem Jw(hD:D≠0)(hd:D.natAbs<=2^d)(h:vw D u c j n a):∀x∈a,SR (u+d+(c+1)*(j+1)) x:=fun x hx=>by
 obtain⟨N,E,hE,hN,BY,rfl⟩:=h.nd x hx;refine l6 (mul_ne_zero hD hE) (dM hN (by omega)) ?_;rw[natAbs_mul];have:=mul_le_mul hd BY;rw[<- pow_add]at this;refine lt_of_le_of_lt this (Nat.pow_lt_pow_right (by decide) ?_);rw[Nat.add_mul,one_mul,mul_add];omega
theorem Jq{w:Rat}(hD:D≠0)(hd:D.natAbs<=2^d)(h:vv D u w):SR (u+d+1) w:=by
 obtain⟨W,hW,rfl⟩:=h;exact l6 hD (dM hW (by omega)) (lt_of_le_of_lt hd (Nat.pow_lt_pow_right (by decide) (by omega)))
theorem yz{D:Int}{u c n:Nat}(hD:D≠0):∀(l:List vA) (j:Nat) (a:List Rat),(∀p∈l,jw c n p.1/\vv D u p.2)->vw D u c j n a->vw D u c (j+l.length) n (l.foldl eM a)
 |[],j,a,_,h=>h
 |p::l,j,a,hp,h=>by
  rw[foldl_cons,length_cons,show j+(l.length+1)=j+1+l.length by omega];exact yz hD l (j+1) _ (fun q hq=>hp q (mem_cons_of_mem _ hq)) (AW hD h (hp p mem_cons_self).1 (hp p mem_cons_self).2)
theorem Aq{x:Rat}(h:xs[i]?=some x):aO (.list (xs.map qD)) (.int (0+(i:Int)))=some (qD x):=by
 rw[Int.zero_add];exact vm qD h
theorem yr{α β γ:Type}{f:α->β->γ}:∀{xs:List α} {ys:List β} {i:Nat} {z:γ},(zipWith f xs ys)[i]?=some z->∃x y,xs[i]?=some x/\ys[i]?=some y/\z=f x y
 |[],ys,i,z,h=>by simp at h
 |x::xs,[],i,z,h=>by simp at h
 |x::xs,y::ys,0,z,h=>by simp at h;exact⟨x,y,rfl,rfl,h.symm⟩
 |x::xs,y::ys,i+1,z,h=>by
  obtain⟨a,b,h1,h2,h3⟩:=yr (xs:=xs) (ys:=ys) (i:=i) (by simpa using h);exact⟨a,b,by simpa using h1,by simpa using h2,h3⟩
theorem Ld(n:Nat)(h:n<=1000):oo [.int ((n:Int)+1)]=some (iO 0 (n+1)):=by
 have e:((n:Int)+1).toNat=n+1:=by omega
 rw[N9 _ (by omega) (by omega),e]
variable {ft:ax->Option Bool}
theorem xH{bg:List (Option Nat)}{fe:ax->Option Dat}{fi:ax->Option (List Dat)}{out:List Dat}(h:fi ρ=some ds)(hl:ds.length<sizeLine)(hc:c8 gt ft fe (gi bg ρ) ds=some out):fL (hG bg gt ft fe fi) ρ=some (.list out):=by
 unfold fL hG;rw[h,Option.bind_some,if_pos hl,hc];rfl
structure xY (D:Int) (u d c n:Nat) (os:List FM.Ol) (ws:List Rat):Prop where
 D0:D≠0
 Dd:D.natAbs<=2^d
 ol:∀o∈os,jw c n o
 wt:∀w∈ws,vv D u w
 sz:u+d+(c+1)*(os.length+1)<=3900
 n1:n<=100
abbrev SJ (F:List Dat->Option Dat):Prop:=∀(D:Int) (u d c n:Nat) (os:List FM.Ol) (ws:List Rat),xY D u d c n os ws->F [.list (os.map aq),.list (ws.map qD),.int (n:Int)]=some (.tuple [.tuple (((jF n (os.zip ws)).take n).map qD),qD ((jF n (os.zip ws)).getD n 0)])
theorem Ph(T:TX mg)(oX:Dn P w K mg base 2 "_law_plus" ["a","b"] 2 iK)(k7:Dn P w K mg base 2 "_law_times" ["a","b"] 2 gm)(U:FnAt K mg "_law_together" (top 54) ["others","weights","many"]):
  ∃F,Dn P w K mg base 3 "_law_together" ["others","weights","many"] 3 F/\SJ F:=by
 refine⟨_,cz ["others","weights","many","sums","other","weight","numbers"] U fun nd _ _ _ _ _ _ _ hr=>
  (ae (az 3 nd (cS (kH rfl (ky (N':=["k"])) (lB T.range (a6 (dX (a5 2) a8) a9 (hs:=d9))) (fun _ _ _ _=>(aB 0 (show(["k"]:List Str).Nodup by decide +kernel))) (fun _ _ _ _=>dh) (fun _ _ _ _=>(aS (k:=0) (a6 a8 (a6 a8 a9)))) (dS rfl))))
  (ae (kb PassesOwn.never rfl (mQ T.zip (a6 (a5 0) (a6 (a5 1) a9))) (dG (n:=2) rfl (aY (aB 4 nd) (aY (aB 5 nd) cV)))
  (ae (az 6 nd (l9 (cS (qL T.list (a6 (af (a5 4) a8) a9 (hs:=aD)))) (gV (a6 (af (a5 4) a8) a9 (hs:=aD)))))
  (ag (az 3 nd (cS (kH rfl (fB (tn:=["k"]) (fv:=["weight","sums","numbers"]) (js:=[5,3,6]) rfl (by decide +kernel) (by decide +kernel) rfl (by decide +kernel) (by decide +kernel) rfl
   (fun x hx=>by((have f6:x="weight"\/x="sums"\/x="numbers":=(by simpa using hx));(rcases f6 with rfl|rfl|rfl<;>exact⟨_,rfl⟩)))
   (fun p hp=>by((have gA:p=(("weight" : Str),(5:Nat))\/p=(("sums" : Str),(3:Nat))\/p=(("numbers" : Str),(6:Nat)):=(by simpa using hp));(rcases gA with rfl|rfl|rfl<;>exact⟨rfl,.inr (.inl rfl),.inl rfl,fun z=>by cases z⟩)))) (lB T.range (a6 (dX (a5 2) a8) a9 (hs:=d9))) (fun _ _ _ _=>(aB 0 (show(["k","weight","sums","numbers"]:List Str).Nodup by decide +kernel))) (fun _ _ _ _=>dh) (fun _ _ _ _=>(aw oX hr (a6 (af (a5 2) (a5 0)) (a6 (aw k7 hr (a6 (a5 1) (a6 (af (a5 3) (a5 0)) a9 (hs:=aD)))) a9 (hs:=aW)) (hs:=aD)))) (dS rfl)))))))
  (ag (ar (aS (k:=0) (a6 (i8 T.tuple (a6 (jl (a5 3) lK (j5 (a5 2))) a9 (hs:=aD))) (a6 (af (a5 3) (a5 2)) a9 (hs:=aD)) (hs:=aW))))))),?_⟩
 intro D u d c m os ws hI;have hm100:=hI.n1;have z2:2<=sizeLine:=sz (by decide);have z1:1<=sizeLine:=sz (by decide);have zm:m+1<sizeLine:=lt_of_lt_of_le (show m+1<1000 by omega) (sz (by decide));have zc:m+1<=sizeLine:=Nat.le_of_lt zm;have eR:=Ld m (by omega);have Kw:c8 (aName 0) gu (dH (ay (fC (.int 0)) (ay (fC (.int 1)) bp))) [none] (iO 0 (m+1))=some ((List.replicate (m+1) (0:Rat)).map qD):=by
  refine cZ _ _ (by rw[ka,length_map,length_replicate]) fun i d o h1 h2=>⟨[(0,d)],rfl,?_⟩;have:o=qD 0:=by
   obtain⟨x,hx,rfl⟩:=mem_map.mp (mem_of_getElem? h2);rw[(mem_replicate.mp hx).2]
  rw[this,q0];simp![z2]
 have K9:∀p∈os.zip ws,jw c m p.1/\vv D u p.2:=fun p hp=>⟨hI.ol p.1 (of_mem_zip hp).1,hI.wt p.2 (of_mem_zip hp).2⟩;have VM:(os.zip ws).length<=os.length:=by rw[length_zip];exact Nat.min_le_left _ _
 have hsz:=hI.sz;refine bP ?_;simp!;generalize RP:(List.replicate (m+1) (0:Rat))=a0 at Kw;have Sa:vw D u c 0 m a0:=by rw[<- RP];exact AV
 rw[ao (ah:=[some (.a7 (.list (os.map aq))),some (.a7 (.list (ws.map qD))),some (.a7 (.int (m:Int))),some (.a7 (.list (a0.map qD))),none,none,none]) (mz (xH (pL (as:=[.int ((m:Int)+1)]) (by simp![cw]) eR) (by rw[ka];exact zm) Kw))];refine gx (I:=_) (lM (l:=os.zip ws) (s:=a0) Nr (fun(a:List Rat) Γ=>∃x4 x5 x6,Γ=[some (.a7 (.list (os.map aq))),some (.a7 (.list (ws.map qD))),some (.a7 (.int (m:Int))),some (.a7 (.list (a.map qD))),x4,x5,x6])
   (fun(a:List Rat) l=>∃j,vw D u c j m a/\j+l.length<=os.length/\∀p∈l,jw c m p.1/\vv D u p.2) eM (by rw[<- vG];rfl) ⟨0,Sa,by omega,K9⟩ ⟨none,none,none,rfl⟩ ?_) ?_
 ·rintro a ⟨o,x⟩ l Γ ⟨j,hA,Wg,iX⟩ ⟨x4,x5,x6,rfl⟩;rw[length_cons]at Wg;obtain⟨ho,hx⟩:=iX (o,x) mem_cons_self;dsimp only at ho hx;have hS:=AW hI.D0 hA ho hx;have W7:(c+1)*(j+1)<=(c+1)*os.length:=mul_le_mul_left _ (by omega);have hmm:(c+1)*(os.length+1)=(c+1)*os.length+(c+1):=by rw[mul_add,mul_one]
  have hmo:(c+1)<=(c+1)*os.length:=Nat.le_mul_of_pos_right _ (by omega);refine⟨[(4,aq o),(5,qD x)],rfl,?_⟩;dsimp!;have V0:pY (.list (o.2.1.map qD)) (.list [qD o.2.2])=some (.list ((o.2.1++[o.2.2]).map qD)):=vp o.2.1 [o.2.2] (by rw[ho.1];show m+1<=1000;omega);have R4:uO [.tuple (o.2.1.map qD)]=some (o.2.1.map qD):=rfl;have o1:aO (aq o) (.int 1)=some (.tuple (o.2.1.map qD)):=rfl;have o2:aO (aq o) (.int 2)=some (qD o.2.2):=rfl;have ec:c8 (aName 0) gu (ia 2 iK (ay (L3.f2 aO (aA 2) (aA 0)) (ay (ia 2 gm (ay (aA 1) (ay (L3.f2 aO (aA 3) (aA 0)) bp))) bp))) [none,some (qD x),some (.list (a.map qD)),some (.list ((o.2.1++[o.2.2]).map qD))] (iO 0 (m+1))=some ((eM a (o,x)).map qD):=by
   refine cZ _ _ (by rw[ka,length_map,hS.len]) fun i d' o' h1 h2=>?_;obtain⟨hi,rfl⟩:=td h1;refine⟨[(0,.int (0+(i:Int)))],rfl,?_⟩;rw[getElem?_map]at h2;cases hz:(eM a (o,x))[i]? with
   |none=>rw[hz]at h2;cases h2
   |some z=>
    rw[hz]at h2;cases h2;obtain⟨p,q,g1,g2,rfl⟩:=yr (show(zipWith (fun y q=>y+x*q) a (o.2.1++[o.2.2]))[i]?=some z from hz);have sp:=Jw hI.D0 hI.Dd hA p (mem_of_getElem? g1);have sq:=BH ho q (mem_of_getElem? g2);have sx:=Jq hI.D0 hI.Dd hx;have a1:=Aq g1;have a2:=Aq g2;have e1:=oV sx sq (by omega) (by omega);have e2:=nB sp (sx.mul sq) (by omega) (by omega);dsimp![a1,a2,e1,e2]
  rw[ao (ah:=[some (.a7 (.list (os.map aq))),some (.a7 (.list (ws.map qD))),some (.a7 (.int (m:Int))),some (.a7 (.list (a.map qD))),some (.a7 (aq o)),some (.a7 (qD x)),some (.a7 (.list ((o.2.1++[o.2.2]).map qD)))]) (by dsimp![o1,o2,R4,z1,V0])];refine⟨[some (.a7 (.list (os.map aq))),some (.a7 (.list (ws.map qD))),some (.a7 (.int (m:Int))),some (.a7 (.list ((eM a (o,x)).map qD))),some (.a7 (aq o)),some (.a7 (qD x)),some (.a7 (.list ((o.2.1++[o.2.2]).map qD)))],?_,⟨_,_,_,rfl⟩,j+1,hS,by omega,fun p hp=>iX p (mem_cons_of_mem _ hp)⟩;exact mz (xH (pL (as:=[.int ((m:Int)+1)]) (by simp![cw]) eR) (by rw[ka];exact zm) ec)
 ·rintro ah ⟨x4,x5,x6,rfl⟩;have eT:(os.zip ws).foldl eM a0=jF m (os.zip ws):=by unfold jF;rw[RP]
  have hT:=yz hI.D0 (os.zip ws) 0 a0 K9 Sa;rw[eT]at hT ⊢;generalize jF m (os.zip ws)=y at *;have hyl:=hT.len;have ec:xa (.list (y.map qD)) none (some (m:Int))=some (.list ((y.take m).map qD)):=by
   show some (Dat.list (L3.cutD (y.map qD) none (some (m:Int))))=_;rw[rH (by rw[length_map];omega),map_take]
  have ei:aO (.list (y.map qD)) (.int (m:Int))=some (qD (y.getD m 0)):=vm qD (by rw[getD_eq_getElem?_getD,getElem?_eq_getElem (by omega)];rfl);dsimp![ou,mf,nN,nt,ec,ei,iB,z2]
abbrev JN (q:Rat):Int×Int:=(q.num,(q.den:Int))
abbrev cy (xs:List Rat):Dat:=.tuple (xs.map qD)
theorem Ey(xs:List Rat):cy xs=oq (xs.map JN):=by
 show Dat.tuple (xs.map qD)=Dat.tuple ((xs.map JN).map kr);rw[map_map];rfl
theorem Lq:xs.map JN=ys.map JN↔xs=ys:=by
 constructor
 ·intro h;induction xs generalizing ys with
  |nil=>cases ys with|nil=>rfl|cons y ys=>cases h
  |cons x xs ih=>
   cases ys with
   |nil=>cases h
   |cons y ys=>
    rw[map_cons,map_cons]at h;obtain⟨h1,h2⟩:=List.cons.inj h;rw[CU.mp h1,ih h2]
 ·intro h;rw[h]
theorem Kt(xs ys:List Rat):cH (cy xs) (cy ys)=some (.bool (decide (xs=ys))):=by
 rw[Ey,Ey,M0];congr 2
 exact decide_eq_decide.mpr Lq
def DM (p:vA):Prop:=p.1.1≠.eq/\p.2<0
def wY (s:Bool) (p:vA):Bool:=s || (decide (p.1.1=.lt)&&decide (0<p.2))
def uz (s:Bool) (p:List Rat) (β:Rat) (l:List vA):Bool:=open Classical in if ∃q∈l,DM q then false else
 (decide ((jF p.length l).take p.length=p)&&(decide ((jF p.length l).getD p.length 0<β) || (decide ((jF p.length l).getD p.length 0=β)&&(!s || l.foldl wY false)))) || (decide ((jF p.length l).take p.length=List.replicate p.length 0)&&(decide ((jF p.length l).getD p.length 0<0) || (decide ((jF p.length l).getD p.length 0=0)&&l.foldl wY false)))
theorem s9(q:Rat):q.num<0↔q<0:=by
 have:=Fr.yM q 0;have e1:(0:Rat).num=0:=rfl;have e2:((0:Rat).den:Int)=1:=rfl;rw[e1,e2,Int.mul_one,Int.zero_mul]at this;exact this.symm
theorem vV(q:Rat):0<q.num↔0<q:=by
 have:=Fr.yM 0 q;have e1:(0:Rat).num=0:=rfl;have e2:((0:Rat).den:Int)=1:=rfl;rw[e1,e2,Int.mul_one,Int.zero_mul]at this;exact this.symm
theorem j9(q:Rat):q.num=0↔q=0:=Rat.num_eq_zero
theorem kY(q:Rat):aO (qD q) (.int 0)=some (.int q.num):=rfl
theorem xi(q:Rat):aO (qD q) (.int 1)=some (.int (q.den:Int)):=rfl
abbrev SQ (F:List Dat->Option Dat):Prop:=∀(D:Int) (u d c:Nat) (s:Bool) (p:List Rat) (β:Rat) (os:List FM.Ol) (ws:List Rat),xY D u d c p.length os ws->SR 3900 β->F [.str (fk s),cy p,qD β,.list (os.map aq),.list (ws.map qD)]=some (.bool (uz s p β (os.zip ws)))
theorem IZ(T:TX mg)(AK:Dn P w K mg base 3 "_law_together" ["others","weights","many"] 3 Ft)(OM:SJ Ft)(iy:Dn P w K mg base 3 "_law_below" ["a","b"] 2 d5)(U:FnAt K mg "_law_right" (top 55) ["kind","parts","bound","others","weights"]):
  ∃F,Dn P w K mg base 4 "_law_right" ["kind","parts","bound","others","weights"] 5 F/\SQ F:=by
 refine⟨_,cz ["kind","parts","bound","others","weights","strict","other","weight","found","sum_of","less","nought"] U fun nd _ _ _ _ _ _ _ hr=>
  (ae (az 5 nd cG)
  (ae (kb PassesOwn.never rfl (mQ T.zip (a6 (a5 3) (a6 (a5 4) a9))) (dG (n:=2) rfl (aY (aB 6 nd) (aY (aB 7 nd) cV)))
  (ae (aM (bO (cQ (dm hr (af (a5 6) a8) aT) (cP (kc (af (a5 7) a8) a8)))) (ag (ar cG)) aH)
  (ag (az 5 nd (oF (a5 5) (dW (fS (fH hr (af (a5 6) a8) aT) (dW (EI (af (a5 7) a8) a8)))))))))
  (ae (pg (aw AK hr (a6 (a5 3) (a6 (a5 4) (a6 (cI T.len (a6 (a5 1) a9)) a9 (hs:=aW))))) (dG (n:=2) rfl (aY (aB 8 nd) (aY (aB 9 nd) cV))))
  (ae (az 10 nd (aw iy hr (a6 (a5 9) (a6 (a5 2) a9))))
  (ae (aM (bO (cQ (bV hr (a5 8) (a5 1)) (cP (bO (c9 (bb (a5 10)) (cC (bO (cQ (bV hr (a5 9) (a5 2)) (cP (bO (c9 (bV hr (a5 0) aT) (cC (bb (a5 5)))))))))))))) (ag (ar cG)) aH)
  (ae (az 11 nd (i8 T.tuple (a6 (cS (i7 rfl (ky (N':=["part"])) (a5 1) (fun _ _ _ _=>(aB 0 (show(["part"]:List Str).Nodup by decide +kernel))) (fun _ _ _ _=>dh) (fun _ _ _ _=>(aS (k:=0) (a6 a8 (a6 a8 a9)))) (dS rfl))) a9)))
  (ag (ar (fS (fH hr (a5 8) (a5 11)) (dW (oF (uE (af (a5 9) a8) a8) (dW (fS (fH hr (af (a5 9) a8) a8) (dW (a5 5))))))))))))))),?_⟩
 intro D u d c s p β os ws hI dA;have z2:2<=sizeLine:=sz (by decide);have hn1:=hI.n1;have zl:p.length<sizeLine:=lt_of_lt_of_le (show p.length<1000 by omega) (sz (by decide));have e2:=OM D u d c p.length os ws hI;have K9:∀q∈os.zip ws,jw c p.length q.1/\vv D u q.2:=fun q hq=>⟨hI.ol q.1 (of_mem_zip hq).1,hI.wt q.2 (of_mem_zip hq).2⟩;have hT:=yz hI.D0 (os.zip ws) 0 _ K9 (AV (n:=p.length));have hT:vw D u c (0+(os.zip ws).length) p.length (jF p.length (os.zip ws)):=hT;have VM:(os.zip ws).length<=os.length:=by rw[length_zip];exact Nat.min_le_left _ _
 have hsz:=hI.sz;have W7:(c+1)*((os.zip ws).length+1)<=(c+1)*(os.length+1):=mul_le_mul_left _ (by omega);have WB:SR 3900 ((jF p.length (os.zip ws)).getD p.length 0):=by
  have hl:=hT.len;refine(Jw hI.D0 hI.Dd hT _ ?_).up (by rw[zero_add];omega);rw[getD_eq_getElem?_getD,getElem?_eq_getElem (by omega)];exact List.getElem_mem _
 have lp:kI [cy p]=some (.int p.length):=by show some (Dat.int ((p.map qD).length:Nat))=_;rw[length_map]
 have k1:cH (.str (fk s)) (.str "<=")=some (.bool (!s)):=by cases s<;>rfl
 refine bP ?_;simp!;rw[ao (ah:=[some (.a7 (.str (fk s))),some (.a7 (cy p)),some (.a7 (qD β)),some (.a7 (.list (os.map aq))),some (.a7 (.list (ws.map qD))),some (.a7 (.bool false)),none,none,none,none,none,none]) (by simp![])];refine B6 (IJ (l:=os.zip ws) (s:=false) (r:=.bool false) Nr (fun(t:Bool) Γ=>∃x6 x7,Γ=[some (.a7 (.str (fk s))),some (.a7 (cy p)),some (.a7 (qD β)),some (.a7 (.list (os.map aq))),some (.a7 (.list (ws.map qD))),some (.a7 (.bool t)),x6,x7,none,none,none,none]) wY DM (by rw[<- vG];rfl) ⟨none,none,rfl⟩ ?_ ?_) ?_ ?_
 ·rintro t ⟨o,x⟩ Γ lj ⟨x6,x7,rfl⟩;refine⟨[(6,aq o),(7,qD x)],rfl,?_⟩;dsimp!;have o0:aO (aq o) (.int 0)=some (.str (bC o.1)):=rfl;refine⟨[some (.a7 (.str (fk s))),some (.a7 (cy p)),some (.a7 (qD β)),some (.a7 (.list (os.map aq))),some (.a7 (.list (ws.map qD))),some (.a7 (.bool (wY t (o,x)))),some (.a7 (aq o)),some (.a7 (qD x)),none,none,none,none],?_,_,_,rfl⟩;rw[ao (ah:=[some (.a7 (.str (fk s))),some (.a7 (cy p)),some (.a7 (qD β)),some (.a7 (.list (os.map aq))),some (.a7 (.list (ws.map qD))),some (.a7 (.bool t)),some (.a7 (aq o)),some (.a7 (qD x)),none,none,none,none]) (by
   by_cases c1:o.1=.eq
   ·have k1:=(iq o.1).mpr c1;dsimp![o0,jZ,eq_true k1]
   ·have k1:¬bC o.1="=":=fun z=>c1 ((iq o.1).mp z);have c2:¬x.num<0:=fun z=>lj ⟨c1,(s9 x).mp z⟩;dsimp![o0,kY,jZ,cc,eq_false k1,eq_false c2])]
  have e1:cH (.str (bC o.1)) (.str "<")=some (.bool (decide (o.1=.lt))):=by rw[cY];congr 2;exact decide_eq_decide.mpr (yi o.1)
  have e2:rA (.int x.num) (.int 0)=some (.bool (decide (0<x))):=by rw[dt];congr 2;exact decide_eq_decide.mpr (vV x)
  exact mz (DA (b:=decide (o.1=.lt)&&decide (0<x)) (by simp![]) (nh (by dsimp![o0,e1]) (by dsimp![kY,e2])))
 ·rintro t ⟨o,x⟩ Γ lj ⟨x6,x7,rfl⟩;refine⟨[(6,aq o),(7,qD x)],rfl,?_⟩;dsimp!;have o0:aO (aq o) (.int 0)=some (.str (bC o.1)):=rfl;have k1:¬bC o.1="=":=fun z=>lj.1 ((iq o.1).mp z);have c2:x.num<0:=(s9 x).mpr lj.2;dsimp![o0,kY,jZ,cc,eq_false k1,eq_true c2]
 ·rintro ah Dt ⟨x6,x7,rfl⟩;have W2:¬ ∃p∈os.zip ws,DM p:=fun⟨p,hp,hb⟩=>Dt p hp hb;unfold uz;rw[if_neg W2];generalize jF p.length (os.zip ws)=y at *;generalize qa:(os.zip ws).foldl wY false=sB at *;generalize hb0:y.getD p.length 0=b0 at *;have e3:=iL WB dA (by decide) (by decide);have e5:=Kt (y.take p.length) p;have e6:=Kt (y.take p.length) (List.replicate p.length 0);have e7:=jV b0 β;have e8:zw (.int b0.num) (.int 0)=some (.bool (decide (b0<0))):=by rw[cc];congr 2;exact decide_eq_decide.mpr (s9 b0)
  have e9:cH (.int b0.num) (.int 0)=some (.bool (decide (b0=0))):=by rw[cT];congr 2;exact decide_eq_decide.mpr (j9 b0)
  rw[ao (ah:=[some (.a7 (.str (fk s))),some (.a7 (cy p)),some (.a7 (qD β)),some (.a7 (.list (os.map aq))),some (.a7 (.list (ws.map qD))),some (.a7 (.bool sB)),x6,x7,some (.a7 (cy (y.take p.length))),some (.a7 (qD b0)),none,none]) (by dsimp![lp,e2])];rw[ao (ah:=[some (.a7 (.str (fk s))),some (.a7 (cy p)),some (.a7 (qD β)),some (.a7 (.list (os.map aq))),some (.a7 (.list (ws.map qD))),some (.a7 (.bool sB)),x6,x7,some (.a7 (cy (y.take p.length))),some (.a7 (qD b0)),some (.a7 (.bool (decide (b0<β)))),none]) (by dsimp![e3])];have Ju:=mH (ft:=bc (L3.f2 cH (aA 8) (aA 1))) (gt:=fu (gh (aA 10)) (cU (bc (L3.f2 cH (aA 9) (aA 2))) (fu (bc (L3.f2 cH (aA 0) (fC (.str "<=")))) (gh (aA 5)))))
   (ρ:=bX [some (.a7 (.str (fk s))),some (.a7 (cy p)),some (.a7 (qD β)),some (.a7 (.list (os.map aq))),some (.a7 (.list (ws.map qD))),some (.a7 (.bool sB)),x6,x7,some (.a7 (cy (y.take p.length))),some (.a7 (qD b0)),some (.a7 (.bool (decide (b0<β)))),none])
   (a:=decide (y.take p.length=p)) (by dsimp![e5]) (ng (a:=decide (b0<β)) (by dsimp![]) (mH (a:=decide (b0=β)) (by dsimp![e7]) (ng (a:=!s) (b:=sB) (by dsimp![k1]) (by dsimp![]))))
  cases q:(decide (y.take p.length=p)&&(decide (b0<β) || (decide (b0=β)&&(!s || sB))))with
  |true=>
   rw[q]at Ju;rw[Bool.true_or];exact(B7 (gQ Ju)).trans rfl
  |false=>
   rw[q]at Ju;rw[Bool.false_or];refine(ao (iT Ju)).trans ?_;have ec:c8 (aName 0) gu (dH (ay (fC (.int 0)) (ay (fC (.int 1)) bp))) [none] (p.map qD)=some ((List.replicate p.length (0:Rat)).map qD):=by
    refine cZ _ _ (by rw[length_map,length_map,length_replicate]) fun i d o h1 h2=>⟨[(0,d)],rfl,?_⟩;have:o=qD 0:=by
     obtain⟨x,hx,rfl⟩:=mem_map.mp (mem_of_getElem? h2);rw[(mem_replicate.mp hx).2]
    rw[this,q0];simp![z2]
   refine(ao (ah:=[some (.a7 (.str (fk s))),some (.a7 (cy p)),some (.a7 (qD β)),some (.a7 (.list (os.map aq))),some (.a7 (.list (ws.map qD))),some (.a7 (.bool sB)),x6,x7,some (.a7 (cy (y.take p.length))),some (.a7 (qD b0)),some (.a7 (.bool (decide (b0<β)))),some (.a7 (cy (List.replicate p.length 0)))]) (by
    dsimp![hG,length_map,zl,ec,iB])).trans ?_
   refine rS (nh (by dsimp![e6]) (DA (by dsimp![kY,e8]) (nh (by dsimp![kY,e9]) (by dsimp![]))))
 ·intro lj;unfold uz;rw[if_pos lj]
theorem Dx(d:α)(x:α)(xs:List α)(i:Nat):(x::xs).getD (i+1) d=xs.getD i d:=by
 rw[getD_eq_getElem?_getD,getD_eq_getElem?_getD,getElem?_cons_succ]
theorem L4{w:Rat}(ha:a.length=n+1)(ho:o.2.1.length=n)(hc:c<=n):(eM a (o,w)).getD c 0=a.getD c 0+w*(if c<n then o.2.1.getD c 0 else o.2.2):=by
 show(zipWith (fun x q=>x+w*q) a (o.2.1++[o.2.2])).getD c 0=_;rw[getD_eq_getElem?_getD,getD_eq_getElem?_getD,List.getElem?_zipWith];have h1:c<a.length:=by omega
 have h2:c<(o.2.1++[o.2.2]).length:=by rw[length_append,ho];show c<n+1;omega
 rw[getElem?_eq_getElem h1,getElem?_eq_getElem h2];show a[c]+w*(o.2.1++[o.2.2])[c]=a[c]+_;congr 2
 by_cases BU:c<n
 ·rw[if_pos BU,List.getElem_append_left (by omega),getD_eq_getElem?_getD,getElem?_eq_getElem (by omega)];rfl
 ·rw[if_neg BU,List.getElem_append_right (by omega)];simp
theorem AU{w:Rat}(ha:a.length=n+1)(ho:o.2.1.length=n):(eM a (o,w)).length=n+1:=by
 show(zipWith _ a (o.2.1++[o.2.2])).length=_;rw[length_zipWith,ha,length_append,ho];exact min_self _
theorem yy{n c:Nat}(hc:c<=n):∀(os:List FM.Ol) (ws a:List Rat),(∀o∈os,o.2.1.length=n)->ws.length=os.length->a.length=n+1->
  ((os.zip ws).foldl eM a).getD c 0=a.getD c 0+FM.sm os.length (fun i=>ws.getD i 0*(if c<n then FM.iV os i c else FM.kx os i))
 |[],ws,a,_,_,_=>by show a.getD c 0=a.getD c 0+0;grind
 |o::os,[],a,_,h,_=>by cases h
 |o::os,w::ws,a,ho,hl,ha=>by
  rw[zip_cons_cons,foldl_cons,yy hc os ws _ (fun p hp=>ho p (mem_cons_of_mem _ hp)) (Nat.succ.inj hl) (AU ha (ho o mem_cons_self)),L4 ha (ho o mem_cons_self) hc,length_cons,FM.sZ];have e0:(w::ws).getD 0 0*(if c<n then FM.iV (o::os) 0 c else FM.kx (o::os) 0)=w*(if c<n then o.2.1.getD c 0 else o.2.2):=rfl;have e1:FM.sm os.length (fun i=>(w::ws).getD (i+1) 0*(if c<n then FM.iV (o::os) (i+1) c else FM.kx (o::os) (i+1)))=FM.sm os.length (fun i=>ws.getD i 0*(if c<n then FM.iV os i c else FM.kx os i)):=FM.aN fun i _=>by
   unfold FM.iV FM.kx;rw[Dx,Dx]
  rw[e0,e1];grind
variable {ws:List Rat}
theorem yx(ho:∀o∈os,o.2.1.length=n)(hl:ws.length=os.length)(hc:c<n):(jF n (os.zip ws)).getD c 0=FM.gw os ws c:=by
 unfold jF;rw[yy (Nat.le_of_lt hc) os ws _ ho hl length_replicate,FM.oY];unfold FM.gw;rw[FM.aN (g:=fun i=>ws.getD i 0*FM.iV os i c) (fun i _=>by rw[if_pos hc])];grind
theorem L0(ho:∀o∈os,o.2.1.length=n)(hl:ws.length=os.length):(jF n (os.zip ws)).getD n 0=FM.kD os ws:=by
 unfold jF;rw[yy (le_refl _) os ws _ ho hl length_replicate,FM.oY];unfold FM.kD;rw[FM.aN (g:=fun i=>ws.getD i 0*FM.kx os i) (fun i _=>by rw[if_neg (lt_irrefl n)])];grind
theorem KZ:∀{os:List FM.Ol} {ws:List Rat},(∀o∈os,o.2.1.length=n)->(jF n (os.zip ws)).length=n+1:=by
 have key:∀(os:List FM.Ol) (ws a:List Rat),(∀o∈os,o.2.1.length=n)->a.length=n+1->((os.zip ws).foldl eM a).length=n+1:=by
  intro os;induction os with
  |nil=>intro ws a _ h;exact h
  |cons o os ih=>
   intro ws a ho h;cases ws with
   |nil=>exact h
   |cons w ws=>exact ih ws _ (fun p hp=>ho p (mem_cons_of_mem _ hp)) (AU h (ho o mem_cons_self))
 intro os ws ho;exact key os ws _ ho length_replicate
theorem zx(hl:xs.length=ys.length)(h:∀c,c<ys.length->xs.getD c 0=ys.getD c 0):xs=ys:=by
 refine List.ext_getElem hl fun i h1 h2=>?_;have:=h i h2;rw[getD_eq_getElem?_getD,getD_eq_getElem?_getD,getElem?_eq_getElem h1,getElem?_eq_getElem h2]at this;exact this
theorem qy(h:c<n):(xs.take n).getD c 0=xs.getD c 0:=by
 rw[getD_eq_getElem?_getD,getD_eq_getElem?_getD,List.getElem?_take_of_lt h]
theorem Ej:∀(l:List vA) (s:Bool),l.foldl wY s=(s || l.any fun p=>decide (p.1.1=.lt)&&decide (0<p.2))
 |[],s=>by simp
 |p::l,s=>by rw[foldl_cons,Ej l,any_cons];unfold wY;rw[Bool.or_assoc]
theorem MF(h:i<os.length)(hl:ws.length=os.length):(os.getD i (.eq,[],0),ws.getD i 0)∈os.zip ws:=by
 have h1:(os.zip ws)[i]?=some (os[i],ws[i]):=by rw[List.getElem?_zip_eq_some];exact⟨getElem?_eq_getElem h,getElem?_eq_getElem (by omega)⟩
 have h2:=mem_of_getElem? h1;rw[getD_eq_getElem?_getD,getD_eq_getElem?_getD,getElem?_eq_getElem h,getElem?_eq_getElem (show i<ws.length by omega)];exact h2
theorem ME{q:vA}(h:q∈os.zip ws):∃i,i<os.length/\q.1=os.getD i (.eq,[],0)/\q.2=ws.getD i 0:=by
 obtain⟨i,hi⟩:=List.getElem?_of_mem h;rw[List.getElem?_zip_eq_some]at hi;refine⟨i,(List.getElem?_eq_some_iff.mp hi.1).1,?_,?_⟩
 ·rw[getD_eq_getElem?_getD,hi.1];rfl
 ·rw[getD_eq_getElem?_getD,hi.2];rfl
variable {β:Rat}
theorem qH{s:Bool}(ho:∀o∈os,o.2.1.length=p.length)(h:FM.Right os ws s p β):uz s p β (os.zip ws)=true:=by
 obtain⟨ha,h⟩:=h;have hl:=ha.len;have nb:¬ ∃q∈os.zip ws,DM q:=fun aQ=>by
  obtain⟨q,hq,hb⟩:=aQ;obtain⟨i,hi,e1,e2⟩:=ME hq;have:=ha.nn i hi (by unfold FM.knd;rw[<- e1];exact hb.1);rw[<- e2]at this;have:=hb.2;grind
 have fm:FM.sY os ws->(os.zip ws).foldl wY false=true:=fun aQ=>by
  obtain⟨i,hi,h1,h2⟩:=aQ;rw[Ej,Bool.false_or,List.any_eq_true];exact⟨_,MF hi hl,by
   show(decide ((os.getD i (.eq,[],0)).1=.lt)&&decide (0<ws.getD i 0))=true;rw[decide_eq_true h2,decide_eq_true (show(os.getD i (.eq,[],0)).1=.lt from h1)];rfl⟩
 have fq:=KZ (n:=p.length) (ws:=ws) ho;unfold uz;rw[if_neg nb,L0 ho hl];rcases h with⟨h1,h2⟩|⟨h1,h2⟩
 ·have e:(jF p.length (os.zip ws)).take p.length=p:=zx (by rw[length_take,fq];omega) fun c hc=>by rw[qy hc,yx ho hl hc];exact h1 c hc
  rw[decide_eq_true e];rcases h2 with h2|⟨h2,h3⟩
  ·rw[decide_eq_true h2];rfl
  ·rw[decide_eq_true h2];rcases h3 with h3|h3
   ·rw[h3,Bool.not_false,Bool.true_or];simp
   ·rw[fm h3,Bool.or_true];simp
 ·have e:(jF p.length (os.zip ws)).take p.length=List.replicate p.length 0:=zx (by rw[length_take,fq,length_replicate];omega) fun c hc=>by
   rw[length_replicate]at hc;rw[qy hc,yx ho hl hc,FM.oY];exact h1 c hc
  rw[decide_eq_true e];rcases h2 with h2|⟨h2,h3⟩
  ·rw[decide_eq_true h2];simp
  ·rw[decide_eq_true h2,fm h3];simp
abbrev SU (b:Nat) (ws:List Rat):Prop:=∃D:Int,D≠0/\D.natAbs<=2^(b+b)/\∀w∈ws,vv D (b+b+1) w
theorem A9(iQ:way=1\/way=-1)(hR:ib m b rows){t:FM.fO}(h:FM.endOf n rows way=some t):∃D:Int,D≠0/\D.natAbs<2^b/\∀w∈t.2.2,vv D b w:=by
 obtain⟨⟨r,hr,hc,k1,k2,k3⟩,_⟩:=(FM.jW rows n (List.replicate (n+1) 0) way).some t h;have pM:way*FM.ent r n≠0:=by rcases hc with hc|⟨hc,_⟩<;>omega
 refine⟨way*FM.ent r n,pM,u0 iQ (d7 (hR.bd r hr)),fun w hw=>?_⟩;rw[k3]at hw;unfold FM.nG at hw;obtain⟨z,hz,rfl⟩:=mem_map.mp hw;exact⟨z,hR.bd r hr z (List.mem_of_mem_drop hz),rfl⟩
theorem Ih(hR:ib m b rows)(h:FM.never n rows=some ws):SU b ws:=by
 unfold FM.never at h;cases hr:FM.fF n rows with
 |some w=>
  rw[hr]at h;cases h;unfold FM.fF at hr;rw[Option.map_eq_some_iff]at hr;obtain⟨r,hf,e⟩:=hr;have hm:=mem_of_find?_eq_some hf;refine⟨1,by decide,pow_pos (by decide),fun w hw=>?_⟩;rw[<- e]at hw;obtain⟨z,hz,rfl⟩:=mem_map.mp hw;refine⟨(if r.1=.eq/\0<FM.ent r (n+1)then -1 else 1)*z,dM (u0 ?_ (hR.bd r hm z (List.mem_of_mem_drop hz))) (by omega),?_⟩
  ·split
   ·exact .inr rfl
   ·exact .inl rfl
  ·have:((1:Int):Rat)=1:=rfl;rw[this];grind
 |none=>
  rw[hr]at h;have h:FM.fP n rows=some ws:=h;unfold FM.fP at h;cases h1:FM.endOf n rows 1 with
  |none=>rw[h1]at h;cases h
  |some t=>
   cases h2:FM.endOf n rows (-1)with
   |none=>rw[h1,h2]at h;cases h
   |some o=>
    rw[h1,h2]at h;dsimp only at h;generalize (if t.1=true\/o.1=true then FM.Kn.lt else FM.Kn.le)=kn at h;split at h
    ·cases h;obtain⟨D1,d1,e1,w1⟩:=A9 (.inl rfl) hR h1;obtain⟨D2,d2,e2,w2⟩:=A9 (.inr rfl) hR h2;refine⟨D1*D2,mul_ne_zero d1 d2,Nat.le_of_lt (d4 e1 e2),fun w hw=>?_⟩;obtain⟨x,hx,y,hy,rfl⟩:=jK hw;obtain⟨X,hX,rfl⟩:=w1 x hx;obtain⟨Y,hY,rfl⟩:=w2 y hy;refine⟨X*D2+Y*D1,rL (d4 hX e2) (d4 hY e1),?_⟩;have f1:((D1:Int):Rat)≠0:=fun z=>d1 (FM.bF.mp z);have f2:((D2:Int):Rat)≠0:=fun z=>d2 (FM.bF.mp z);rw[Rat.intCast_add,intCast_mul,intCast_mul,intCast_mul];grind
    ·cases h
def xj (bs:Nat->Nat):Nat->Nat->Nat
 |0,_=>0
 |m+1,C=>max (bs m+C+(bs m+C)+3) (xj bs m (C+(bs m+C+(bs m+C)+3)+1))
theorem yQ(bs:Nat->Nat):∀(m:Nat) {C D:Nat},C<=D->xj bs m C<=xj bs m D
 |0,_,_,_=>le_refl _
 |m+1,C,D,h=>by
  have:=yQ bs m (C:=C+(bs m+C+(bs m+C)+3)+1) (D:=D+(bs m+D+(bs m+D)+3)+1) (by omega);show max _ _<=max _ _;omega
theorem JQ{bs:Nat->Nat}{n M:Nat}{Ls:List (List FM.Row)}(fm:∀i,i<n->1<=bs i/\∃rs,Ls[i]?=some rs/\ib M (bs i) rs):∀(m C:Nat) (x:List Rat),m<=n->x.length=n+1->(∀c,c<m->x.getD c 0=0)->gN x C->∀c,c<m->SR (xj bs m C) ((FM.eV Ls m x).getD c 0)
 |0,C,x,_,_,_,hC=>fun c hc=>by omega
 |m+1,C,x,hm,uZ,ju,hC=>by
  obtain⟨b1,rs,BO,fV⟩:=fm m (by omega);have eD:Ls.getD m []=rs:=by rw[getD_eq_getElem?_getD,BO];rfl
  have v1:∀y,FM.gq (FM.cf (Ls.getD m []) m x (-1))=some y->SR (bs m+C) y:=fun y hy=>by
   rw[eD]at hy;cases ho:FM.cf rs m x (-1)with
   |none=>rw[ho]at hy;cases hy
   |some o=>
    rw[ho]at hy;cases hy;exact gX (p7 (.inr rfl) fV hC ho)
  have v2:∀y,FM.gI (FM.cf (Ls.getD m []) m x 1)=some y->SR (bs m+C) y:=fun y hy=>by
   rw[eD]at hy;cases ho:FM.cf rs m x 1 with
   |none=>rw[ho]at hy;cases hy
   |some o=>
    rw[ho]at hy;cases hy;exact p7 (.inl rfl) fV hC ho
  have sv:=rK (by omega) v1 v2;obtain⟨C',zY,zX⟩:=hC.set sv (m:=m) (by omega) (ju m (by omega));intro c hc;have ih:=JQ fm m C' _ (by omega) (by rw[length_set];exact uZ) (fun c hc=>by
   rw[FM.k0 (by omega),if_neg (by omega)];exact ju c (by omega)) zX
  show SR (max _ _) ((FM.eV Ls m (x.set m _)).getD c 0);by_cases e:c=m
  ·subst e;rw[FM.Bu Ls c _ c (le_refl _),FM.k0 (by omega),if_pos rfl];exact sv.up (Nat.le_max_left _ _)
  ·exact(ih c (by omega)).up (le_trans (yQ bs m zY) (Nat.le_max_right _ _))
theorem yh(q:Rat):qD (0-q)=.tuple [.int (-q.num),.int (q.den:Int)]:=by
 have e:(0:Rat)-q=-q:=by grind
 rw[e];show Dat.tuple [.int (-q).num,.int ((-q).den:Int)]=_;rw[Rat.neg_num,Rat.neg_den]
theorem GH(T:TX mg)(U:FnAt K mg "_law_turned" (top 56) ["parts","bound"]):
  ∃F,Dn P w K mg base 1 "_law_turned" ["parts","bound"] 2 F/\∀(p:List Rat) (β:Rat),p.length<=100->F [cy p,qD β]=some (.tuple [cy (p.map fun q=>0-q),qD (0-β)]):=by
 refine⟨_,cz ["parts","bound"] U fun nd _ _ _ _ _ _ _ hr=>
  (ag (ar (aS (k:=0) (a6 (i8 T.tuple (a6 (cS (i7 rfl (ky (N':=["part"])) (a5 0) (fun _ _ _ _=>(aB 0 (show(["part"]:List Str).Nodup by decide +kernel))) (fun _ _ _ _=>dh) (fun _ _ _ _=>(aS (k:=0) (a6 (dr (af (a5 0) a8)) (a6 (af (a5 0) a8) a9 (hs:=aD)) (hs:=gj)))) (dS rfl))) a9)) (a6 (aS (k:=0) (a6 (dr (af (a5 1) a8)) (a6 (af (a5 1) a8) a9 (hs:=aD)) (hs:=gj))) a9 (hs:=bS)) (hs:=aW))))),?_⟩
 intro p β Dw;have z2:2<=sizeLine:=sz (by decide);have zl:p.length<sizeLine:=lt_of_lt_of_le (show p.length<1000 by omega) (sz (by decide));have ec:c8 (aName 0) gu (dH (ay (L3.f1 lb (L3.f2 aO (aA 0) (fC (.int 0)))) (ay (L3.f2 aO (aA 0) (fC (.int 1))) bp))) [none] (p.map qD)=some ((p.map fun q=>0-q).map qD):=by
  refine cZ _ _ (by rw[length_map,length_map,length_map]) fun i d o h1 h2=>?_;rw[getElem?_map]at h1 h2;rw[getElem?_map]at h2;cases hp:p[i]? with
  |none=>rw[hp]at h1;cases h1
  |some x=>
   rw[hp]at h1 h2;cases h1;cases h2;refine⟨[(0,qD x)],rfl,?_⟩;have e:=yh x;dsimp![kY,xi,z2,e]
 have e:=yh β;dsimp![hG,length_map,zl,ec,kY,xi,z2,iB,e]
def CG (l:List (Rat×Rat)) (a:Rat):Rat:=l.foldl (fun a q=>a+q.1*q.2) a
theorem qz:∀(p x:List Rat) (a:Rat),x.length=p.length->CG (p.zip x) a=a+FM.aL p x
 |[],x,a,_=>by show a=a+0;grind
 |p::ps,[],a,h=>by cases h
 |p::ps,x::xs,a,h=>by
  show CG (ps.zip xs) (a+p*x)=_;rw[qz ps xs _ (Nat.succ.inj h)];unfold FM.aL;rw[length_cons,FM.sZ];have e1:FM.sm ps.length (fun i=>(p::ps).getD (i+1) 0*(x::xs).getD (i+1) 0)=FM.sm ps.length (fun c=>ps.getD c 0*xs.getD c 0):=FM.aN fun i _=>by rw[Dx,Dx]
  have e0:(p::ps).getD 0 0*(x::xs).getD 0 0=p*x:=rfl;rw[e1,e0];grind
abbrev SN (c s n:Nat):Nat:=1+n*(c+s+1)
theorem Ed{c s:Nat}:∀(l:List (Rat×Rat)) (n:Nat) (a:Rat),(∀q∈l,SR c q.1/\SR s q.2)->SR n a->SR (n+l.length*(c+s+1)) (CG l a)
 |[],n,a,_,h=>by show SR (n+0*_) a;exact h.up (by omega)
 |q::l,n,a,hq,h=>by
  show SR _ (CG l (a+q.1*q.2));have:=Ed l (n+(c+s)+1) (a+q.1*q.2) (fun y hy=>hq y (mem_cons_of_mem _ hy)) (h.add ((hq q mem_cons_self).1.mul (hq q mem_cons_self).2));rw[length_cons,succ_mul];exact this.up (by omega)
abbrev Nq (p:Rat×Rat):Dat:=.tuple [qD p.1,qD p.2]
theorem E5:∀(xs ys:List Rat),dN (xs.map qD) (ys.map qD)=(xs.zip ys).map Nq
 |[],ys=>by simp[dN]
 |x::xs,[]=>by simp[dN]
 |x::xs,y::ys=>by simp only[map_cons,dN,zip_cons_cons,E5 xs ys]
structure PC (c s:Nat) (p x:List Rat):Prop where
 len:x.length=p.length
 sp:∀q∈p,SR c q
 sx:∀q∈x,SR s q
 sz:SN c s p.length<=3900
 cs:c+s<=3900
abbrev SM (F:List Dat->Option Dat):Prop:=∀(c s:Nat) (p x:List Rat),PC c s p x->F [cy p,cy x]=some (qD (FM.aL p x))
theorem Qm{s:Nat}{x:List Rat}(h:PC c s p x):SR 3900 (FM.aL p x):=by
 have h1:=Ed (c:=c) (s:=s) (p.zip x) 1 0 (fun q hq=>⟨h.sp q.1 (of_mem_zip hq).1,h.sx q.2 (of_mem_zip hq).2⟩) (kU (by decide));have e:=qz p x 0 h.len;rw[e,length_zip,h.len,min_self]at h1;rw[show(0:Rat)+FM.aL p x=FM.aL p x by grind]at h1;exact h1.up h.sz
theorem Pj(T:TX mg)(oX:Dn P w K mg base 2 "_law_plus" ["a","b"] 2 iK)(k7:Dn P w K mg base 2 "_law_times" ["a","b"] 2 gm)(U:FnAt K mg "_law_sum" (top 59) ["parts","point"]):
  ∃F,Dn P w K mg base 3 "_law_sum" ["parts","point"] 2 F/\SM F:=by
 refine⟨_,cz ["parts","point","found","part","number"] U fun nd _ _ _ _ _ _ _ hr=>
  (ae (az 2 nd (aS (k:=0) (a6 a8 (a6 a8 a9))))
  (ae (kb PassesOwn.never rfl (mQ T.zip (a6 (a5 0) (a6 (a5 1) a9))) (dG (n:=2) rfl (aY (aB 3 nd) (aY (aB 4 nd) cV)))
  (ag (az 2 nd (aw oX hr (a6 (a5 2) (a6 (aw k7 hr (a6 (a5 3) (a6 (a5 4) a9))) a9 (hs:=aW)))))))
  (ag (ar (a5 2))))),?_⟩
 intro c s p x hI;have z2:2<=sizeLine:=sz (by decide);have hsz:=hI.sz;have zS:=hI.cs;refine bP ?_;simp!;rw[ao (ah:=[some (.a7 (cy p)),some (.a7 (cy x)),some (.a7 (qD 0)),none,none]) (by rw[q0];simp![z2])];refine gx (I:=_) (lM (l:=p.zip x) (s:=(0:Rat)) Nq (fun(a:Rat) Γ=>∃x3 x4,Γ=[some (.a7 (cy p)),some (.a7 (cy x)),some (.a7 (qD a)),x3,x4])
   (fun(a:Rat) l=>∃n,SR n a/\n+l.length*(c+s+1)<=3900/\∀q∈l,SR c q.1/\SR s q.2) (fun a q=>a+q.1*q.2) (by rw[<- E5];rfl) ⟨1,kU (by decide),by rw[length_zip,hI.len,min_self];exact hsz,fun q hq=>⟨hI.sp q.1 (of_mem_zip hq).1,hI.sx q.2 (of_mem_zip hq).2⟩⟩ ⟨none,none,rfl⟩ ?_) ?_
 ·rintro a ⟨y,z⟩ l Γ ⟨n,hn,FW,iX⟩ ⟨x3,x4,rfl⟩;rw[length_cons,succ_mul]at FW;obtain⟨hy,hz⟩:=iX (y,z) mem_cons_self;dsimp only at hy hz;refine⟨[(3,qD y),(4,qD z)],rfl,?_⟩;dsimp!;have e1:=oV hy hz (by omega) (by omega);have e2:=nB hn (hy.mul hz) (by omega) (by omega);exact⟨[some (.a7 (cy p)),some (.a7 (cy x)),some (.a7 (qD (a+y*z))),some (.a7 (qD y)),some (.a7 (qD z))],by dsimp![e1,e2],⟨_,_,rfl⟩,n+(c+s)+1,hn.add (hy.mul hz),by omega,fun q hq=>iX q (mem_cons_of_mem _ hq)⟩
 ·rintro ah ⟨x3,x4,rfl⟩;have e:=qz p x 0 hI.len;rw[show(0:Rat)+FM.aL p x=FM.aL p x by grind]at e;have e:(p.zip x).foldl (fun a q=>a+q.1*q.2) 0=FM.aL p x:=e;rw[e];simp![]
def oS (o:FM.Ol) (x:List Rat):Bool:=match o.1 with
 | .eq=>decide (FM.aL o.2.1 x=o.2.2)
 | .lt=>decide (FM.aL o.2.1 x<o.2.2)
 | .le=>decide (FM.aL o.2.1 x<o.2.2) || decide (FM.aL o.2.1 x=o.2.2)
theorem oR(o:FM.Ol)(x:List Rat):oS o x=true↔FM.bW o x:=by
 unfold oS FM.bW;cases h:o.1 with
 |eq=>show decide _=true↔_=_;rw[decide_eq_true_eq]
 |lt=>show decide _=true↔_<_;rw[decide_eq_true_eq]
 |le=>
  show(decide _ || decide _)=true↔_<=_;rw[or_eq_true,decide_eq_true_eq,decide_eq_true_eq];constructor
  ·rintro(z|z)<;>grind
  ·intro z;by_cases c:FM.aL o.2.1 x=o.2.2
   ·exact .inr c
   ·left;grind
abbrev He (F:List Dat->Option Dat):Prop:=∀(c s:Nat) (o:FM.Ol) (x:List Rat),PC c s o.2.1 x->SR 3900 o.2.2->F [aq o,cy x]=some (.bool (oS o x))
theorem J0(T:TX mg){Fs:List Dat->Option Dat}(PY:Dn P w K mg base 3 "_law_sum" ["parts","point"] 2 Fs)(hS:SM Fs)(iy:Dn P w K mg base 3 "_law_below" ["a","b"] 2 d5)(U:FnAt K mg "_law_holds" (top 60) ["line","point"]):
  ∃F,Dn P w K mg base 4 "_law_holds" ["line","point"] 2 F/\He F:=by
 refine⟨_,cz ["line","point","found"] U fun nd _ _ _ _ _ _ _ hr=>
  (ae (az 2 nd (aw PY hr (a6 (af (a5 0) a8) (a6 (a5 1) a9) (hs:=aD))))
  (ae (aM (bV hr (af (a5 0) a8) aT) (ag (ar (fH hr (a5 2) (af (a5 0) a8)))) aH)
  (ag (ar (oF (aw iy hr (a6 (a5 2) (a6 (af (a5 0) a8) a9 (hs:=aD)))) (dW (fS (fH hr (af (a5 0) a8) aT) (dW (fH hr (a5 2) (af (a5 0) a8)))))))))),?_⟩
 intro c s o x hI hb;have e1:=hS c s o.2.1 x hI;have o0:aO (aq o) (.int 0)=some (.str (bC o.1)):=rfl;have o1:aO (aq o) (.int 1)=some (cy o.2.1):=rfl;have o2:aO (aq o) (.int 2)=some (qD o.2.2):=rfl;have e2:=jV (FM.aL o.2.1 x) o.2.2;have e3:=iL (Qm hI) hb (by decide) (by decide);have eH:oS o x=(match o.1 with
  | .eq=>decide (FM.aL o.2.1 x=o.2.2)
  | .lt=>decide (FM.aL o.2.1 x<o.2.2)
  | .le=>decide (FM.aL o.2.1 x<o.2.2) || decide (FM.aL o.2.1 x=o.2.2)):=rfl
 rw[eH];generalize FM.aL o.2.1 x=v at *;generalize aq o=dl at *;cases hk:o.1 with
 |eq=>
  have k1:cH (.str (bC .eq)) (.str "=")=some (.bool true):=rfl;rw[hk]at o0;dsimp![o0,o1,o2,e1,e2,k1]
 |lt=>
  have k1:cH (.str (bC .lt)) (.str "=")=some (.bool false):=rfl;have k2:cH (.str (bC .lt)) (.str "<=")=some (.bool false):=rfl;rw[hk]at o0;by_cases c1:v<o.2.2
  ·rw[decide_eq_true c1]at e3 ⊢;dsimp![o0,o1,o2,e1,e2,e3,k1,k2]
  ·rw[decide_eq_false c1]at e3 ⊢;dsimp![o0,o1,o2,e1,e2,e3,k1,k2]
 |le=>
  have k1:cH (.str (bC .le)) (.str "=")=some (.bool false):=rfl;have k2:cH (.str (bC .le)) (.str "<=")=some (.bool true):=rfl;rw[hk]at o0;by_cases c1:v<o.2.2
  ·rw[decide_eq_true c1]at e3 ⊢;dsimp![o0,o1,o2,e1,e2,e3,k1,k2,Bool.true_or]
  ·rw[decide_eq_false c1]at e3 ⊢;dsimp![o0,o1,o2,e1,e2,e3,k1,k2,Bool.false_or]
theorem LO(q:Rat):mk q.num (q.den:Int)=qD q:=by
 obtain⟨e1,e2⟩:=Fr.jI q.num (q.den:Int) (qh q);rw[<- uA q]at e1 e2;show Dat.tuple [.int (Fr.num _ _),.int (Fr.den _ _)]=_;rw[e1,e2]
abbrev Te (F:List Dat->Option Dat):Prop:=∀q:Rat,SR 8000 q->F [qD q]=some (.bool true)
theorem Pk(T:TX mg)(iN:Dn P w K mg base 1 "_law_make" ["n","d"] 2 iM)(U:FnAt K mg "_law_is_fraction" (top 50) ["found"]):
  ∃F,Dn P w K mg base 2 "_law_is_fraction" ["found"] 1 F/\Te F:=by
 refine⟨_,cz ["found","part"] U fun nd _ _ _ _ _ _ _ hr=>
  (ae (aM (bO (c9 (cW (bb (fJ "tuple" T.isinstance T.tuple (a5 0)))) (cC (dm hr (cI T.len (a6 (a5 0) a9)) a8)))) (ag (ar cG)) aH)
  (ae (dF PassesOwn.never rfl (a5 0) (aB 1 nd)
  (ag (aM (bO (c9 (cW (bb (fJ "int" T.isinstance T.int (a5 1)))) (cC (bb (fJ "bool" T.isinstance T.bool (a5 1)))))) (ag (ar cG)) aH)))
  (ag (ar (fS (EI (af (a5 0) a8) a8) (dW (fH hr (aw iN hr (a6 (af (a5 0) a8) (a6 (af (a5 0) a8) a9 (hs:=aD)) (hs:=aD))) (a5 0)))))))),?_⟩
 intro q hq;have e1:iM [.int q.num,.int (q.den:Int)]=some (qD q):=by rw[lh (by have:=q.den_pos;omega) hq.dn,LO]
 have e2:=jV q q;rw[decide_eq_true rfl]at e2;have i1:oN "tuple" (qD q)=some (.bool true):=rfl;have i2:∀z:Int,oN "int" (.int z)=some (.bool true):=fun _=>rfl;have i3:∀z:Int,oN "bool" (.int z)=some (.bool false):=fun _=>rfl;have l1:kI [qD q]=some (.int 2):=rfl;have n1:fI (.int 2) (.int 2)=some (.bool false):=by rw[fA];rfl
 have gp:(0:Int)<(q.den:Int):=by have:=q.den_pos;omega
 have hi:cM (qD q)=some [.int q.num,.int (q.den:Int)]:=rfl;refine bP ?_;simp!;rw[ao (ah:=[some (.a7 (qD q)),none]) (by dsimp![i1,l1,n1])];rw[ao (ah:=[some (.a7 (qD q)),some (.a7 (.int (q.den:Int)))]) (by
  rw[kE (d:=qD q) (by dsimp![]) hi];rw[ll (as:=[(1,.int q.num)]) (ah:=[some (.a7 (qD q)),some (.a7 (.int q.num))]) rfl (by dsimp![i2,i3])];rw[ll (as:=[(1,.int (q.den:Int))]) (ah:=[some (.a7 (qD q)),some (.a7 (.int (q.den:Int)))]) rfl (by dsimp![i2,i3])];rfl)]
 dsimp![kY,xi,dt,eq_true gp,e1,e2]
abbrev Q8 (F:List Dat->Option Dat):Prop:=∀(dl:Dat) (ws:List Rat),kI [dl]=some (.int (ws.length:Int))->cM dl=some (ws.map qD)->(∀w∈ws,SR 8000 w)->F [dl,.int (ws.length:Int)]=some (.bool true)
theorem Po(T:TX mg)(wL:Dn P w K mg base 2 "_law_is_fraction" ["found"] 1 Fi)(hI:Te Fi)(U:FnAt K mg "_law_are_fractions" (top 51) ["found","many"]):
  ∃F,Dn P w K mg base 3 "_law_are_fractions" ["found","many"] 2 F/\Q8 F:=by
 refine⟨_,cz ["found","many","one"] U fun nd _ _ _ _ _ _ _ hr=>
  (ae (aM (dm hr (cI T.len (a6 (a5 0) a9)) (a5 1)) (ag (ar cG)) aH)
  (ae (dF PassesOwn.never rfl (a5 0) (aB 2 nd)
  (ag (aM (cW (bb (aw wL hr (a6 (a5 2) a9)))) (ag (ar cG)) aH)))
  (ag (ar cG)))),?_⟩
 intro dl ws h1 h2 VO;have n1:=fA (ws.length:Int) (ws.length:Int);rw[decide_eq_true rfl]at n1;refine bP ?_;simp!;rw[ao (ah:=[some (.a7 (dl)),some (.a7 (.int (ws.length:Int))),none]) (by dsimp![h1,n1])];refine gx (I:=_) (i9 (l:=ws) (s:=()) qD (fun _ Γ=>∃u,Γ=[some (.a7 (dl)),some (.a7 (.int (ws.length:Int))),u]) (fun _ l=>∀w∈l,SR 8000 w) (fun _ _=>()) (d:=dl) rfl h2 VO ⟨none,rfl⟩ ?_) ?_
 ·rintro _ x l Γ hl ⟨u,rfl⟩;have e:=hI x (hl x mem_cons_self);refine⟨[(2,qD x)],rfl,?_⟩;dsimp!;exact⟨[some (.a7 (dl)),some (.a7 (.int (ws.length:Int))),some (.a7 (qD x))],by dsimp![e],⟨_,rfl⟩,fun w hw=>hl w (mem_cons_of_mem _ hw)⟩
 ·rintro ah ⟨u,rfl⟩;simp![]
abbrev bL (c e n:Nat):Nat:=FM.bt (c+e) n
abbrev xL (c e n:Nat):Nat:=xj (FM.bt (c+e)) n (bL c e n+bL c e n+3+1)
structure o7 (c e:Nat) (p:List Rat) (os:List FM.Ol):Prop where
 ln:tT c e p os
 pz:(bL c e p.length+bL c e p.length+1)+(bL c e p.length+bL c e p.length)+(c+1)*(os.length+1)<=3900
 sz:SN c (xL c e p.length) p.length<=3900
 cs:c+xL c e p.length<=3900
theorem o7.neg(h:o7 c e p os):o7 c e (p.map fun q=>0-q) os:=
 ⟨h.ln.neg,by rw[length_map];exact h.pz,by rw[length_map];exact h.sz,by rw[length_map];exact h.cs⟩
theorem tJ(h:o7 c e p os){s:Bool}(h1:(FM.aZ s p β os).1=true):FM.Right os (FM.aZ s p β os).2 s p β/\∃D,xY D (bL c e p.length+bL c e p.length+1) (bL c e p.length+bL c e p.length) c p.length os (FM.aZ s p β os).2:=by
 have hlen:∀o∈os,o.2.1.length=p.length:=fun o ho=>(h.ln.ok o ho).len;have hr:FM.Right os (FM.aZ s p β os).2 s p β:=by
  rcases FM.sh hlen s β with⟨_,r⟩|⟨z,_⟩
  ·exact r
  ·rw[h1]at z;cases z
 refine⟨hr,?_⟩;obtain⟨rows,nQ,fV⟩:=uf h.ln p.length (le_refl _);have v3:FM.aI p os=rows:=by unfold FM.aI;rw[getD_eq_getElem?_getD,nQ];rfl
 have key:SU (bL c e p.length) (FM.aZ s p β os).2:=by
  unfold FM.aZ at h1 ⊢;rw[v3]at h1 ⊢;cases hn:FM.never p.length rows with
  |some w=>exact Ih fV hn
  |none=>
   rw[hn]at h1;dsimp only at h1 ⊢;cases he:FM.endOf p.length rows 1 with
   |none=>rw[he]at h1;cases h1
   |some t=>
    rw[he]at h1;dsimp only at h1 ⊢;by_cases hk:FM.gz s β t.1 t.2.1=true
    ·rw[if_pos hk];obtain⟨D,d0,d1,hw⟩:=A9 (.inl rfl) fV he;refine⟨D,d0,Nat.le_of_lt (dM d1 (le_add_right _ _)),fun w zI=>?_⟩;obtain⟨W,h2,h3⟩:=hw w zI;exact⟨W,dM h2 (le_trans (le_add_right _ _) (le_add_right _ _)),h3⟩
    ·rw[if_neg hk]at h1;cases h1
 obtain⟨D,d0,d1,hw⟩:=key;exact⟨D,d0,d1,fun o ho=>⟨(h.ln.ok o ho).len,(h.ln.ok o ho).sq,(h.ln.ok o ho).bd⟩,hw,h.pz,by have:=h.ln.sz.n5;omega⟩
theorem tK(h:o7 c e p os){s:Bool}(dA:SR (bL c e p.length) β)(h1:(FM.aZ s p β os).1=false):FM.vF os s p β (FM.aZ s p β os).2/\∀q∈(FM.aZ s p β os).2,SR (xL c e p.length) q:=by
 have hlen:∀o∈os,o.2.1.length=p.length:=fun o ho=>(h.ln.ok o ho).len;have hr:FM.vF os s p β (FM.aZ s p β os).2:=by
  rcases FM.sh hlen s β with⟨z,_⟩|⟨_,r⟩
  ·rw[h1]at z;cases z
  ·exact r
 refine⟨hr,?_⟩;obtain⟨rows,nQ,fV⟩:=uf h.ln p.length (le_refl _);have v3:FM.aI p os=rows:=by unfold FM.aI;rw[getD_eq_getElem?_getD,nQ];rfl
 have hb:(FM.aZ s p β os).2=FM.dY (FM.bH p os) p.length (FM.eZ p.length rows β):=by
  unfold FM.aZ at h1 ⊢;unfold FM.beyond;rw[v3]at h1 ⊢;cases hn:FM.never p.length rows with
  |some w=>rw[hn]at h1;cases h1
  |none=>
   rw[hn]at h1;dsimp only at h1 ⊢;cases he:FM.endOf p.length rows 1 with
   |none=>rfl
   |some t=>
    rw[he]at h1;dsimp only at h1 ⊢;by_cases hk:FM.gz s β t.1 t.2.1=true
    ·rw[if_pos hk]at h1;cases h1
    ·rw[if_neg hk]
 rw[hb];have fm:∀i,i<p.length->1<=FM.bt (c+e) i/\∃rs,(FM.bH p os)[i]?=some rs/\ib (p.length+2+os.length) (FM.bt (c+e) i) rs:=fun i hi=>
  ⟨le_trans (show 1<=c+e by have:=h.ln.sz.c1;omega) (FM.pW _ _),uf h.ln i (Nat.le_of_lt hi)⟩
 have xC:1<=bL c e p.length:=le_trans (show 1<=c+e by have:=h.ln.sz.c1;omega) (FM.pW _ _);have st:SR (bL c e p.length+bL c e p.length+3) (FM.eZ p.length rows β):=by
  have v2:∀y,FM.gI (FM.endOf p.length rows 1)=some y->SR (bL c e p.length) y:=fun y hy=>by
   cases ho:FM.endOf p.length rows 1 with
   |none=>rw[ho]at hy;cases hy
   |some o=>
    rw[ho]at hy;cases hy;exact(ni (.inl rfl) fV ho).1
  unfold FM.eZ;refine rK (by omega) (fun x hx=>?_) v2;cases hx;cases ho:FM.endOf p.length rows (-1)with
  |none=>exact dA
  |some o=>
   show SR _ (if 0-o.2.1<β then β else 0-o.2.1);split
   ·exact dA
   ·exact gX (ni (.inr rfl) fV ho).1
 intro q hq;have xx:q∈(FM.eV (FM.bH p os) p.length (List.replicate p.length 0++[FM.eZ p.length rows β])).take p.length:=hq;obtain⟨i,hi⟩:=List.getElem?_of_mem xx;have Kc:i<p.length:=by
  have:=(List.getElem?_eq_some_iff.mp hi).1;rw[length_take]at this;omega
 have:=JQ fm p.length (bL c e p.length+bL c e p.length+3+1) _ (le_refl _) (rX p.length (FM.eZ p.length rows β)) (tm _ _) (vS st) i Kc;rw[<- qy Kc,getD_eq_getElem?_getD,hi]at this;exact this
abbrev FF (k:FM.Kn):Bool:=decide (k=.lt)
theorem QJ(h:k≠.eq):bC k=fk (FF k):=by cases k<;>first|rfl|exact absurd rfl h
structure SW (F:List Dat->Option Dat):Prop where
 one:∀(D:Int) (u d c:Nat) (o:FM.Ol) (os:List FM.Ol) (ws:List Rat),o.1≠.eq->xY D u d c o.2.1.length os ws->ws.length=os.length->SR 3900 o.2.2->uz (FF o.1) o.2.1 o.2.2 (os.zip ws)=true->F [aq o,.list (os.map aq),.list (ws.map qD)]=some (.bool true)
 two:∀(D D2:Int) (u d c:Nat) (o:FM.Ol) (os:List FM.Ol) (ws vs:List Rat),o.1=.eq->xY D u d c o.2.1.length os ws->xY D2 u d c o.2.1.length os vs->ws.length=os.length->vs.length=os.length->SR 3900 o.2.2->uz false o.2.1 o.2.2 (os.zip ws)=true->uz false (o.2.1.map fun q=>0-q) (0-o.2.2) (os.zip vs)=true->F [aq o,.list (os.map aq),.tuple [.list (ws.map qD),.list (vs.map qD)]]=some (.bool true)
theorem CY(h:xY D u d c n os ws):∀w∈ws,SR 8000 w:=fun w hw=>(Jq h.D0 h.Dd (h.wt w hw)).up (by have:=h.sz;omega)
theorem Mj(T:TX mg){Fa Fr:List Dat->Option Dat}(iA:Dn P w K mg base 4 "_law_are_fractions" ["found","many"] 2 Fa)(hA:Q8 Fa)(tU:Dn P w K mg base 4 "_law_right" ["kind","parts","bound","others","weights"] 5 Fr)(hR:SQ Fr)(Hj:Dn P w K mg base 4 "_law_turned" ["parts","bound"] 2 Ft)(hT:∀(p:List Rat) (β:Rat),p.length<=100->Ft [cy p,qD β]=some (.tuple [cy (p.map fun q=>0-q),qD (0-β)]))(U:FnAt K mg "_law_paper_shows" (top 57) ["line","others","paper"]):
  ∃F,Dn P w K mg base 5 "_law_paper_shows" ["line","others","paper"] 3 F/\SW F:=by
 refine⟨_,cz ["line","others","paper","kind","parts","bound","one","less","more"] U fun nd _ _ _ _ _ _ _ hr=>
  (ae (pg (a5 0) (dG (n:=3) rfl (aY (aB 3 nd) (aY (aB 4 nd) (aY (aB 5 nd) cV)))))
  (ae (aM (dm hr (a5 3) aT) (ag (ar (fS (fJ "list" T.isinstance T.list (a5 2)) (fS (aw iA hr (a6 (a5 2) (a6 (cI T.len (a6 (a5 1) a9)) a9 (hs:=aW)))) (dW (aw tU hr (a6 (a5 3) (a6 (a5 4) (a6 (a5 5) (a6 (a5 1) (a6 (a5 2) a9))))))))))) aH)
  (ae (aM (bO (c9 (cW (bb (fJ "tuple" T.isinstance T.tuple (a5 2)))) (cC (dm hr (cI T.len (a6 (a5 2) a9)) a8)))) (ag (ar cG)) aH)
  (ae (dF PassesOwn.never rfl (a5 2) (aB 6 nd)
  (ag (aM (bO (c9 (cW (bb (fJ "list" T.isinstance T.list (a5 6)))) (cC (cW (bb (aw iA hr (a6 (a5 6) (a6 (cI T.len (a6 (a5 1) a9)) a9 (hs:=aW))))))))) (ag (ar cG)) aH)))
  (ae (pg (aw Hj hr (a6 (a5 4) (a6 (a5 5) a9))) (dG (n:=2) rfl (aY (aB 7 nd) (aY (aB 8 nd) cV))))
  (ag (ar (fS (aw tU hr (a6 aT (a6 (a5 4) (a6 (a5 5) (a6 (a5 1) (a6 (af (a5 2) a8) a9 (hs:=aD))))))) (dW (aw tU hr (a6 aT (a6 (a5 7) (a6 (a5 8) (a6 (a5 1) (a6 (af (a5 2) a8) a9 (hs:=aD)))))))))))))))),?_⟩
 have il:∀xs:List Dat,oN "list" (.list xs)=some (.bool true):=fun _=>rfl;refine⟨?_,?_⟩
 ·intro D u d c o os ws hk hI hl hb hr;have e1:=hA (.list (ws.map qD)) ws (ip qD ws) rfl (CY hI);rw[hl]at e1;have e2:=hR D u d c (FF o.1) o.2.1 o.2.2 os ws hI hb;rw[hr,<- QJ hk]at e2;have lo:=ip aq os;have k1:¬bC o.1="=":=fun z=>hk ((iq o.1).mp z);refine bP ?_;simp!;rw[ao (ah:=[some (.a7 (aq o)),some (.a7 (.list (os.map aq))),some (.a7 (.list (ws.map qD))),some (.a7 (.str (bC o.1))),some (.a7 (cy o.2.1)),some (.a7 (qD o.2.2)),none,none,none]) (by simp![])];dsimp![jZ,eq_false k1,il,lo,e1,e2]
 ·intro D D2 u d c o os ws vs hk hI BX hl sL hb hr m6;have e1:=hA (.list (ws.map qD)) ws (ip qD ws) rfl (CY hI);have Cm:=hA (.list (vs.map qD)) vs (ip qD vs) rfl (CY BX);rw[hl]at e1;rw[sL]at Cm;have e2:=hR D u d c false o.2.1 o.2.2 os ws hI hb;have e2:Fr [.str "<=",cy o.2.1,qD o.2.2,.list (os.map aq),.list (ws.map qD)]=some (.bool true):=by rw[hr]at e2;exact e2
  have e3:=hR D2 u d c false (o.2.1.map fun q=>0-q) (0-o.2.2) os vs (by rw[length_map];exact BX) (gX hb);have e3:Fr [.str "<=",cy (o.2.1.map fun q=>0-q),qD (0-o.2.2),.list (os.map aq),.list (vs.map qD)]=some (.bool true):=by rw[m6]at e3;exact e3
  have e4:=hT o.2.1 o.2.2 hI.n1;have lo:=ip aq os;have k1:=(iq o.1).mpr hk;have it:∀a b:Dat,oN "tuple" (.tuple [a,b])=some (.bool true):=fun _ _=>rfl;have l2:∀a b:Dat,kI [.tuple [a,b]]=some (.int 2):=fun _ _=>rfl;have n1:fI (.int 2) (.int 2)=some (.bool false):=by rw[fA];rfl
  have a0:∀a b:Dat,aO (.tuple [a,b]) (.int 0)=some a:=fun _ _=>rfl;have a1:∀a b:Dat,aO (.tuple [a,b]) (.int 1)=some b:=fun _ _=>rfl;generalize VQ:Dat.list (ws.map qD)=d1 at *;generalize VP:Dat.list (vs.map qD)=d2 at *;have i1:oN "list" d1=some (.bool true):=by rw[<- VQ];rfl
  have i2:oN "list" d2=some (.bool true):=by rw[<- VP];rfl
  have hi:cM (.tuple [d1,d2])=some [d1,d2]:=rfl;refine bP ?_;simp!;rw[ao (ah:=[some (.a7 (aq o)),some (.a7 (.list (os.map aq))),some (.a7 (.tuple [d1,d2])),some (.a7 (.str (bC o.1))),some (.a7 (cy o.2.1)),some (.a7 (qD o.2.2)),none,none,none]) (by simp![])];rw[ao (ah:=[some (.a7 (aq o)),some (.a7 (.list (os.map aq))),some (.a7 (.tuple [d1,d2])),some (.a7 (.str (bC o.1))),some (.a7 (cy o.2.1)),some (.a7 (qD o.2.2)),none,none,none]) (by dsimp![jZ,eq_true k1])];rw[ao (ah:=[some (.a7 (aq o)),some (.a7 (.list (os.map aq))),some (.a7 (.tuple [d1,d2])),some (.a7 (.str (bC o.1))),some (.a7 (cy o.2.1)),some (.a7 (qD o.2.2)),none,none,none]) (by dsimp![it,l2,n1])];rw[ao (ah:=[some (.a7 (aq o)),some (.a7 (.list (os.map aq))),some (.a7 (.tuple [d1,d2])),some (.a7 (.str (bC o.1))),some (.a7 (cy o.2.1)),some (.a7 (qD o.2.2)),some (.a7 (d2)),none,none]) (by
   rw[kE (d:=.tuple [d1,d2]) (by dsimp![]) hi];rw[ll (as:=[(6,d1)]) (ah:=[some (.a7 (aq o)),some (.a7 (.list (os.map aq))),some (.a7 (.tuple [d1,d2])),some (.a7 (.str (bC o.1))),some (.a7 (cy o.2.1)),some (.a7 (qD o.2.2)),some (.a7 (d1)),none,none]) rfl (by dsimp![i1,lo,e1])];rw[ll (as:=[(6,d2)]) (ah:=[some (.a7 (aq o)),some (.a7 (.list (os.map aq))),some (.a7 (.tuple [d1,d2])),some (.a7 (.str (bC o.1))),some (.a7 (cy o.2.1)),some (.a7 (qD o.2.2)),some (.a7 (d2)),none,none]) rfl (by dsimp![i2,lo,Cm])];rfl)]
  rw[ao (ah:=[some (.a7 (aq o)),some (.a7 (.list (os.map aq))),some (.a7 (.tuple [d1,d2])),some (.a7 (.str (bC o.1))),some (.a7 (cy o.2.1)),some (.a7 (qD o.2.2)),some (.a7 (d2)),some (.a7 (cy (o.2.1.map fun q=>0-q))),some (.a7 (qD (0-o.2.2)))]) (by dsimp![e4])];dsimp![a0,a1,e2,e3]
abbrev SK (F:List Dat->Option Dat):Prop:=∀(c e:Nat) (o:FM.Ol) (os:List FM.Ol),o7 c e o.2.1 os->SR (bL c e o.2.1.length) o.2.2->F [aq o,.list (os.map aq),xG o.1 o.2.1 o.2.2 os]=some (.bool true)
theorem qt(p x:List Rat):FM.aL (p.map fun q=>0-q) x=0-FM.aL p x:=by
 unfold FM.aL;rw[length_map];rw[FM.aN (g:=fun c=>(-1)*(p.getD c 0*x.getD c 0)) (fun c hc=>?_),FM.bE]
 ·grind
 ·rw[getD_eq_getElem?_getD,getElem?_map,getD_eq_getElem?_getD (l:=p),getElem?_eq_getElem hc];show(0-p[c])*_=(-1)*(p[c]*_);grind
structure Pz (Fp Fh F:List Dat->Option Dat):Prop where
 Su:∀(dl P6 pp:Dat),Fp [dl,P6,pp]=some (.bool true)->F [dl,P6,.tuple [.str "follows",pp]]=some (.bool true)
 brk:∀(o:FM.Ol) (os:List FM.Ol) (x:List Rat),x.length=o.2.1.length->(∀q∈x,SR 8000 q)->(∀q∈os,Fh [aq q,cy x]=some (.bool true))->Fh [aq o,cy x]=some (.bool false)->F [aq o,.list (os.map aq),.tuple [.str "breaks",cy x]]=some (.bool true)
theorem Mi(T:TX mg){Fa:List Dat->Option Dat}(wJ:Dn P w K mg base 5 "_law_paper_shows" ["line","others","paper"] 3 Fp)(iA:Dn P w K mg base 5 "_law_are_fractions" ["found","many"] 2 Fa)(hA:Q8 Fa)(lA:Dn P w K mg base 5 "_law_holds" ["line","point"] 2 Fh)(U:FnAt K mg "_law_told" (top 58) ["line","others","found"]):
  ∃F,Dn P w K mg base 6 "_law_told" ["line","others","found"] 3 F/\Pz Fp Fh F:=by
 refine⟨_,cz ["line","others","found","other"] U fun nd _ _ _ _ _ _ _ hr=>
  (ae (aM (bO (c9 (cW (bb (fJ "tuple" T.isinstance T.tuple (a5 2)))) (c9 (dm hr (cI T.len (a6 (a5 2) a9)) a8) (cC (cW (bb (fJ "str" T.isinstance T.str (af (a5 2) a8)))))))) (ag (ar cG)) aH)
  (ae (aM (bV hr (af (a5 2) a8) aT) (ag (ar (aw wJ hr (a6 (a5 0) (a6 (a5 1) (a6 (af (a5 2) a8) a9 (hs:=aD))))))) aH)
  (ae (aM (bO (c9 (dm hr (af (a5 2) a8) aT) (c9 (cW (bb (fJ "tuple" T.isinstance T.tuple (af (a5 2) a8)))) (cC (cW (bb (aw iA hr (a6 (af (a5 2) a8) (a6 (cI T.len (a6 (af (a5 0) a8) a9 (hs:=aD))) a9 (hs:=aW)) (hs:=aD))))))))) (ag (ar cG)) aH)
  (ae (dF PassesOwn.never rfl (a5 1) (aB 3 nd)
  (ag (aM (cW (bb (aw lA hr (a6 (a5 3) (a6 (af (a5 2) a8) a9 (hs:=aD)))))) (ag (ar cG)) aH)))
  (ag (ar (Bi (aw lA hr (a6 (a5 0) (a6 (af (a5 2) a8) a9 (hs:=aD))))))))))),?_⟩
 have i1:∀a b:Dat,oN "tuple" (.tuple [a,b])=some (.bool true):=fun _ _=>rfl;have i2:∀s:Str,oN "str" (.str s)=some (.bool true):=fun _=>rfl;have l2:∀a b:Dat,kI [.tuple [a,b]]=some (.int 2):=fun _ _=>rfl;have n1:fI (.int 2) (.int 2)=some (.bool false):=by rw[fA];rfl
 have a0:∀a b:Dat,aO (.tuple [a,b]) (.int 0)=some a:=fun _ _=>rfl;have a1:∀a b:Dat,aO (.tuple [a,b]) (.int 1)=some b:=fun _ _=>rfl;have kF:cH (.str "follows") (.str "follows")=some (.bool true):=rfl;have kB:cH (.str "breaks") (.str "follows")=some (.bool false):=rfl;have VI:fI (.str "breaks") (.str "breaks")=some (.bool false):=rfl;refine⟨?_,?_⟩
 ·intro dl P6 pp h;dsimp![i1,i2,l2,n1,a0,a1,kF,h]
 ·intro o os x hx hs ho hn;have e1:=hA (cy x) x (by show some (Dat.int ((x.map qD).length:Nat))=_;rw[length_map]) rfl hs;rw[hx]at e1;have o1:aO (aq o) (.int 1)=some (cy o.2.1):=rfl;have lp:kI [cy o.2.1]=some (.int o.2.1.length):=by show some (Dat.int ((o.2.1.map qD).length:Nat))=_;rw[length_map]
  have i3:oN "tuple" (cy x)=some (.bool true):=rfl;have hd:∀dx:Dat,dx=cy x->True:=fun _ _=>trivial;generalize cy x=dx at *;refine bP ?_;simp!;rw[ao (ah:=[some (.a7 (aq o)),some (.a7 (.list (os.map aq))),some (.a7 (.tuple [.str "breaks",dx])),none]) (by dsimp![i1,i2,l2,n1,a0])];rw[ao (ah:=[some (.a7 (aq o)),some (.a7 (.list (os.map aq))),some (.a7 (.tuple [.str "breaks",dx])),none]) (by dsimp![a0,kB])];rw[ao (ah:=[some (.a7 (aq o)),some (.a7 (.list (os.map aq))),some (.a7 (.tuple [.str "breaks",dx])),none]) (by dsimp![a0,a1,VI,i3,o1,lp,e1])];refine gx (I:=_) (i9 (l:=os) (s:=()) aq (fun _ Γ=>∃u,Γ=[some (.a7 (aq o)),some (.a7 (.list (os.map aq))),some (.a7 (.tuple [.str "breaks",dx])),u]) (fun _ l=>∀q∈l,q∈os) (fun _ _=>()) (d:=.list (os.map aq)) rfl rfl (fun _ h=>h) ⟨none,rfl⟩ ?_) ?_
  ·rintro _ q l Γ hl ⟨u,rfl⟩;have e:=ho q (hl q mem_cons_self);refine⟨[(3,aq q)],rfl,?_⟩;dsimp!;exact⟨[some (.a7 (aq o)),some (.a7 (.list (os.map aq))),some (.a7 (.tuple [.str "breaks",dx])),some (.a7 (aq q))],by dsimp![a1,e],⟨_,rfl⟩,fun w hw=>hl w (mem_cons_of_mem _ hw)⟩
  ·rintro ah ⟨u,rfl⟩;dsimp![a1,hn]
theorem Ap(hB:o7 c e o.2.1 os)(dA:SR (bL c e o.2.1.length) o.2.2){F:List Dat->Option Dat}(hH:He Fh)(hT:Pz Fp Fh F){x:List Rat}(uZ:x.length=o.2.1.length)(hx:∀q∈x,SR (xL c e o.2.1.length) q)(gY:∀q∈os,FM.bW q x)(hn:¬FM.bW o x):
  F [aq o,.list (os.map aq),.tuple [.str "breaks",cy x]]=some (.bool true):=by
 have qf:=hB.ln.sz.bt;have zS:=hB.cs;refine hT.brk o os x uZ (fun q hq=>(hx q hq).up (by omega)) (fun q hq=>?_) ?_
 ·have xx:=hB.ln.ok q hq;have:=hH c (xL c e o.2.1.length) q x ⟨by rw[uZ,xx.len],xx.sq,hx,by rw[xx.len];exact hB.sz,hB.cs⟩ (xx.bd.up (by omega));rw[(oR q x).mpr (gY q hq)]at this;exact this
 ·have:=hH c (xL c e o.2.1.length) o x ⟨uZ,hB.ln.sp,hx,hB.sz,hB.cs⟩ (dA.up (le_trans qf (by decide)));rw[eq_false_iff.mpr (fun z=>hn ((oR o x).mp z))]at this;exact this
theorem KY{F:List Dat->Option Dat}(hP:SW Fp)(hH:He Fh)(hT:Pz Fp Fh F):SK F:=by
 rintro c e ⟨k,p,β⟩ os hB dA;dsimp only at hB dA ⊢;have hlen:∀q∈os,q.2.1.length=p.length:=fun q hq=>(hB.ln.ok q hq).len;have qf:=hB.ln.sz.bt;have Oh:SR 3900 β:=dA.up (le_trans qf (by decide));have one:∀(s:Bool),k=(if s=true then .lt else .le)->F [aq (k,p,β),.list (os.map aq),ko (FM.aZ s p β os)]=some (.bool true):=fun s hk=>by
  have xA:FF k=s:=by rw[hk];cases s<;>rfl
  have We:k≠.eq:=by rw[hk];cases s<;>simp
  cases h1:(FM.aZ s p β os).1 with
  |true=>
   obtain⟨hr,D,hI⟩:=tJ hB h1;have e:ko (FM.aZ s p β os)=.tuple [.str "follows",.list ((FM.aZ s p β os).2.map qD)]:=if_pos h1;rw[e];exact hT.Su _ _ _ (hP.one D _ _ c (k,p,β) os _ We hI hr.1.len Oh (by show uz (FF k) p β _=true;rw[xA];exact qH hlen hr))
  |false=>
   obtain⟨hr,hx⟩:=tK hB dA h1;have e:ko (FM.aZ s p β os)=.tuple [.str "breaks",cy (FM.aZ s p β os).2]:=if_neg (by rw[h1];exact Bool.false_ne_true);rw[e];refine Ap (o:=(k,p,β)) hB dA hH hT hr.len hx hr.others ?_;show ¬FM.rel k _ _;rw[hk];exact hr.line
 cases k with
 |lt=>exact one true rfl
 |le=>exact one false rfl
 |eq=>
  show F [aq (.eq,p,β),.list (os.map aq),if(FM.aZ false p β os).1=true then(if(FM.aZ false (p.map fun q=>0-q) (0-β) os).1=true then .tuple [.str "follows",.tuple [.list ((FM.aZ false p β os).2.map qD),.list ((FM.aZ false (p.map fun q=>0-q) (0-β) os).2.map qD)]]else ko (FM.aZ false (p.map fun q=>0-q) (0-β) os))else ko (FM.aZ false p β os)]=_;have Ir:SR (bL c e (p.map fun q=>0-q).length) (0-β):=by rw[length_map];exact gX dA
  cases h1:(FM.aZ false p β os).1 with
  |false=>
   rw[if_neg Bool.false_ne_true];obtain⟨hr,hx⟩:=tK hB dA h1;have e:ko (FM.aZ false p β os)=.tuple [.str "breaks",cy (FM.aZ false p β os).2]:=if_neg (by rw[h1];exact Bool.false_ne_true);rw[e];refine Ap (o:=(.eq,p,β)) hB dA hH hT hr.len hx hr.others ?_;intro(z:FM.aL p _=β);exact hr.line (show FM.aL p _<=β by rw[z];grind)
  |true=>
   rw[if_pos rfl];obtain⟨hr,D,hI⟩:=tJ hB h1;cases h2:(FM.aZ false (p.map fun q=>0-q) (0-β) os).1 with
   |false=>
    rw[if_neg Bool.false_ne_true];obtain⟨m6,f6⟩:=tK hB.neg Ir h2;have e:ko (FM.aZ false (p.map fun q=>0-q) (0-β) os)=.tuple [.str "breaks",cy (FM.aZ false (p.map fun q=>0-q) (0-β) os).2]:=if_neg (by rw[h2];exact Bool.false_ne_true);rw[e];have sL:=m6.len;rw[length_map]at sL f6;refine Ap (o:=(.eq,p,β)) hB dA hH hT sL f6 m6.others ?_;intro(z:FM.aL p _=β);exact m6.line (show FM.aL (p.map fun q=>0-q) _<=0-β by rw[qt,z];grind)
   |true=>
    rw[if_pos rfl];obtain⟨m6,D2,BX⟩:=tJ hB.neg h2;have BX:xY D2 (bL c e p.length+bL c e p.length+1) (bL c e p.length+bL c e p.length) c p.length os (FM.aZ false (p.map fun q=>0-q) (0-β) os).2:=by
     have:=BX;rw[length_map]at this;exact this
    exact hT.Su _ _ _ (hP.two D D2 _ _ c (.eq,p,β) os _ _ rfl hI BX hr.1.len m6.1.len Oh (qH hlen hr) (qH (by rw[length_map];exact hlen) m6))
abbrev b9 (o:FM.Ol):Rat:=o.2.1.getD 0 0
abbrev cE (o:FM.Ol):Rat:=o.2.2*(1/b9 o)
theorem j8(h:jw c 1 o):o.2.1=[b9 o]/\SR c (b9 o):=by
 obtain⟨h1,h2,_⟩:=h;match hp:o.2.1,h1 with
 |[a],_=>
  have:b9 o=a:=by show o.2.1.getD 0 0=a;rw[hp];rfl
  rw[this];exact⟨rfl,h2 a (by rw[hp];exact mem_singleton.mpr rfl)⟩
theorem FJ{a:Rat}(h:SR c a)(h0:a≠0):SR c (1/a):=by
 have n0:a.num≠0:=fun z=>h0 ((j9 a).mp z);have e:(1:Rat)/a=(((a.den:Int)):Rat)/(a.num:Rat):=by
  have e1:=uA a;have d2:(((a.den:Int)):Rat)≠0:=fun z=>qh a (FM.bF.mp z);have d1:((a.num:Int):Rat)≠0:=fun z=>n0 (FM.bF.mp z);conv=>lhs;rw[e1]
  generalize ((a.den:Int):Rat)=dd at *;generalize (a.num:Rat)=nn at *;grind
 rw[e];exact l6 n0 h.dn h.ln
abbrev PU (F:List Dat->Option Dat):Prop:=∀(c:Nat) (o:FM.Ol),c<=3000->jw c 1 o->b9 o≠0->F [aq o]=some (qD (cE o))
theorem Mn(T:TX mg)(k7:Dn P w K mg base 2 "_law_times" ["a","b"] 2 gm)(iN:Dn P w K mg base 2 "_law_make" ["n","d"] 2 iM)(U:FnAt K mg "_law_edge" (top 61) ["line"]):
  ∃F,Dn P w K mg base 3 "_law_edge" ["line"] 1 F/\PU F:=by
 refine⟨_,cz ["line","part","sign"] U fun nd _ _ _ _ _ _ _ hr=>
  (ae (az 1 nd (af (af (a5 0) a8) a8))
  (ae (az 2 nd (af (gV (a6 a8 (a6 (dr a8) a9 (hs:=gj)))) (HG T.int (a6 (uE (af (a5 1) a8) a8) a9 (hs:=Hs)))))
  (ag (ar (aw k7 hr (a6 (af (a5 0) a8) (a6 (aw iN hr (a6 (bQ (a5 2) (af (a5 1) a8)) (a6 (kg T.abs (a6 (af (a5 1) a8) a9 (hs:=aD))) a9 (hs:=aW)) (hs:=d9))) a9 (hs:=aW)) (hs:=aD))))))),?_⟩
 intro c o hc hL h0;obtain⟨hp,sa⟩:=j8 hL;show _=some (qD (o.2.2*(1/b9 o)));generalize b9 o=a at *;have n0:a.num≠0:=fun z=>h0 ((j9 a).mp z);have o1:aO (aq o) (.int 1)=some (.tuple [qD a]):=by show some (Dat.tuple (o.2.1.map qD))=_;rw[hp];rfl
 have o2:aO (aq o) (.int 2)=some (qD o.2.2):=rfl;have t0:aO (.tuple [qD a]) (.int 0)=some (qD a):=rfl;have z2:2<=sizeLine:=sz (by decide);have s0:aO (.list [.int 1,.int (-1)]) (.int 0)=some (.int 1):=rfl;have s1:aO (.list [.int 1,.int (-1)]) (.int 1)=some (.int (-1)):=rfl;have ht:=oV hL.2.2 (FJ sa h0) (by omega) (by omega);have key:∀sg:Int,(sg=1\/sg=-1)->0<sg*a.num->iM [.int (sg*(a.den:Int)),.int (a.num.natAbs:Int)]=some (qD (1/a))/\jA (.int sg) (.int (a.den:Int))=some (.int (sg*(a.den:Int))):=fun sg K7 w6=>by
  have Wr:(a.num.natAbs:Int)=sg*a.num:=by rcases K7 with e|e<;>(subst e;omega)
  have hz:(a.num.natAbs:Int)≠0:=by omega
  refine⟨?_,mulL _ (by rcases K7 with e|e<;>(rw[e];decide)) (by rcases K7 with e|e<;>(rw[e];decide))⟩;rw[lh (by omega) (by rw[natAbs_natCast];exact dM sa.ln (by omega))];obtain⟨e1,e2⟩:=Fr.jI (sg*(a.den:Int)) (a.num.natAbs:Int) hz;have e3:(((sg*(a.den:Int):Int)):Rat)/((a.num.natAbs:Int):Rat)=1/a:=by
   rw[Wr,intCast_mul,intCast_mul];have en:=uA a;have d2:(((a.den:Int)):Rat)≠0:=fun z=>qh a (FM.bF.mp z);have d1:((a.num:Int):Rat)≠0:=fun z=>n0 (FM.bF.mp z);have d3:((sg:Int):Rat)≠0:=fun z=>by
    have:=FM.bF.mp z;rcases K7 with e|e<;>omega
   conv=>rhs;rw[en]
   generalize ((a.den:Int):Rat)=dd at *;generalize (a.num:Rat)=nn at *;generalize ((sg:Int):Rat)=ss at *;grind
  rw[e3]at e1 e2;show some (Dat.tuple [.int (Fr.num _ _),.int (Fr.den _ _)])=_;rw[e1,e2]
 refine bP ?_;simp!;rw[ao (ah:=[some (.a7 (aq o)),some (.a7 (qD a)),none]) (by dsimp![o1,t0])];by_cases cn:a.num<0
 ·obtain⟨k1,k2⟩:=key (-1) (.inr rfl) (by omega);have ei:intD [.bool true]=some (.int 1):=rfl;rw[ao (ah:=[some (.a7 (aq o)),some (.a7 (qD a)),some (.a7 (.int (-1)))]) (by dsimp![kY,cc,eq_true cn,ei,s1,z2])];dsimp![kY,xi,o2,k2,fX,k1,ht]
 ·obtain⟨k1,k2⟩:=key 1 (.inl rfl) (by omega);have ei:intD [.bool false]=some (.int 0):=rfl;rw[ao (ah:=[some (.a7 (aq o)),some (.a7 (qD a)),some (.a7 (.int 1))]) (by dsimp![kY,cc,eq_false cn,ei,s0,z2])];dsimp![kY,xi,o2,k2,fX,k1,ht]
theorem Gm{gt:ax->Option Bool}{b:Bool}(hf:ft ρ=some false)(hg:gt ρ=some b):fu ft gt ρ=some b:=by
 unfold fu;rw[hf];exact hg
theorem LX{a:Bool}(hf:ft ρ=some a):ir ft ρ=some (!a):=by
 unfold ir;rw[hf];rfl
abbrev cL:=Option (Rat×Bool)
def bN:cL->Dat
 |none=>.none
 |some (v,m)=>.tuple [qD v,.bool m]
def ly:cL->Rat->Bool->Bool
 |none,_,_=>true
 |some (v,_),e,m=>decide (e<v) || (decide (e=v)&&!m)
def lU:cL->Rat->Bool->Bool
 |none,_,_=>true
 |some (v,_),e,m=>decide (v<e) || (decide (e=v)&&!m)
abbrev fK (k:FM.Kn):Bool:=!decide (k=.lt)
def dP (s:cL×cL) (o:FM.Ol):cL×cL:=if b9 o=0 then s else
 (if(o.1=.eq\/b9 o<0)/\lU s.1 (cE o) (fK o.1)=true then some (cE o,fK o.1)else s.1,if(o.1=.eq\/0<b9 o)/\ly s.2 (cE o) (fK o.1)=true then some (cE o,fK o.1)else s.2)
def kM:cL×cL->Bool
 |(some (l,ml),some (h,mh))=>decide (h<l) || (decide (h=l)&&!(ml&&mh))
 |_=>false
def wC (o:FM.Ol):Prop:=b9 o=0/\oS o [0]=false
def fN (os:List FM.Ol):Option (cL×cL):=open Classical in if ∃o∈os,wC o then none else if kM (os.foldl dP (none,none))=true then none else some (os.foldl dP (none,none))
def dR:Option (cL×cL)->Dat
 |none=>.bool false
 |some (l,h)=>.tuple [bN l,bN h]
theorem vg(x:Rat×Bool):lS (bN (some x)) .none=some (.bool false):=rfl
theorem lu(x:Rat×Bool):mj (bN (some x)) .none=some (.bool true):=rfl
theorem qW:mj .none .none=some (.bool false):=rfl
theorem lx(x:Rat×Bool):aO (bN (some x)) (.int 0)=some (qD x.1):=rfl
theorem DF(x:Rat×Bool):aO (bN (some x)) (.int 1)=some (.bool x.2):=rfl
abbrev jD (n:Nat) (x:cL):Prop:=∀v m,x=some (v,m)->SR n v
abbrev Tj (F:List Dat->Option Dat):Prop:=∀(c:Nat) (os:List FM.Ol),1<=c->c<=1000->(∀o∈os,jw c 1 o)->F [.list (os.map aq)]=some (dR (fN os))
theorem Ac(h:jw c 1 o)(h0:b9 o≠0):SR (c+c) (cE o):=h.2.2.mul (FJ (j8 h).2 h0)
theorem Mm(T:TX mg)(lA:Dn P w K mg base 5 "_law_holds" ["line","point"] 2 Fh)(hH:He Fh)(wM:Dn P w K mg base 5 "_law_edge" ["line"] 1 Fe)(hE:PU Fe)(iy:Dn P w K mg base 5 "_law_below" ["a","b"] 2 d5)(U:FnAt K mg "_law_ends" (top 62) ["others"]):
  ∃F,Dn P w K mg base 6 "_law_ends" ["others"] 1 F/\Tj F:=by
 refine⟨_,cz ["others","low","high","line","part","end","may"] U fun nd _ _ _ _ _ _ _ hr=>
  (ae (az 1 nd bK)
  (ae (az 2 nd bK)
  (ae (dF PassesOwn.never rfl (a5 0) (aB 3 nd)
  (ae (az 4 nd (af (af (af (a5 3) a8) a8) a8))
  (ag (aM (bV hr (a5 4) a8) (ag (aM (cW (bb (aw lA hr (a6 (a5 3) (a6 (aS (k:=0) (a6 (aS (k:=0) (a6 a8 (a6 a8 a9))) a9 (hs:=bS))) a9 (hs:=bS)))))) (ag (ar cG)) aH)) (ae (az 5 nd (aw wM hr (a6 (a5 3) a9)))
  (ae (az 6 nd (EH hr (af (a5 3) a8) aT))
  (ae (aM (bO (c9 (bV hr (af (a5 3) a8) aT) (cC (l8 (a5 4) a8)))) (ag (aM (bO (c9 (cR (a5 2) bK) (c9 (bb (aw iy hr (a6 (a5 5) (a6 (af (a5 2) a8) a9 (hs:=aD))))) (cC (bO (cQ (bV hr (a5 5) (af (a5 2) a8)) (cP (cW (bb (a5 6)))))))))) (ag (az 2 nd (aS (k:=0) (a6 (a5 5) (a6 (a5 6) a9))))) aH)) aH)
  (ag (aM (bO (c9 (bV hr (af (a5 3) a8) aT) (cC (kc (a5 4) a8)))) (ag (aM (bO (c9 (cR (a5 1) bK) (c9 (bb (aw iy hr (a6 (af (a5 1) a8) (a6 (a5 5) a9) (hs:=aD)))) (cC (bO (cQ (bV hr (a5 5) (af (a5 1) a8)) (cP (cW (bb (a5 6)))))))))) (ag (az 1 nd (aS (k:=0) (a6 (a5 5) (a6 (a5 6) a9))))) aH)) aH)))))))))
  (ae (aM (bO (cQ (qK (a5 1) bK) (cP (qK (a5 2) bK)))) (ag (aM (bO (c9 (bb (aw iy hr (a6 (af (a5 2) a8) (a6 (af (a5 1) a8) a9 (hs:=aD)) (hs:=aD)))) (cC (bO (cQ (bV hr (af (a5 2) a8) (af (a5 1) a8)) (cP (cW (bO (cQ (bb (af (a5 1) a8)) (cP (bb (af (a5 2) a8)))))))))))) (ag (ar cG)) aH)) aH)
  (ag (ar (aS (k:=0) (a6 (a5 1) (a6 (a5 2) a9))))))))),?_⟩
 intro c os jM hc gY;have z2:2<=sizeLine:=sz (by decide);have z1:1<=sizeLine:=sz (by decide);have Kl:∀o∈os,Fh [aq o,.tuple [.tuple [.int 0,.int 1]]]=some (.bool (oS o [0])):=fun o ho=>by
  have hl:=gY o ho;have h1:=hl.1;refine hH c 1 o [0] ⟨h1.symm,hl.2.1,fun q hq=>by rw[mem_singleton.mp hq];exact kU (by decide),by rw[h1];show 1+1*(c+1+1)<=3900;omega,by omega⟩ (hl.2.2.up (by omega))
 have pt:∀o∈os,aO (aq o) (.int 1)=some (.tuple [qD (b9 o)]):=fun o ho=>by
  show some (Dat.tuple (o.2.1.map qD))=_;rw[(j8 (gY o ho)).1];rfl
 have t0:∀a:Rat,aO (.tuple [qD a]) (.int 0)=some (qD a):=fun _=>rfl;refine bP ?_;simp!;rw[ao (ah:=[some (.a7 (.list (os.map aq))),some (.a7 (.none)),none,none,none,none,none]) (by simp![])];rw[ao (ah:=[some (.a7 (.list (os.map aq))),some (.a7 (.none)),some (.a7 (.none)),none,none,none,none]) (by simp![])];refine B6 (IK (l:=os) (s:=((none,none):cL×cL)) (r:=.bool false) aq (fun(s:cL×cL) Γ=>jD (c+c) s.1/\jD (c+c) s.2/\∃x3 x4 x5 x6,Γ=[some (.a7 (.list (os.map aq))),some (.a7 (bN s.1)),some (.a7 (bN s.2)),x3,x4,x5,x6]) dP wC (d:=.list (os.map aq)) rfl rfl ⟨(fun v m h=>by cases h),(fun v m h=>by cases h),none,none,none,none,rfl⟩ ?_ ?_) ?_ ?_
 ·rintro⟨lo,hi⟩ o Γ ho lj ⟨s1,s2,x3,x4,x5,x6,rfl⟩;dsimp only at s1 s2;refine⟨[(3,aq o)],rfl,?_⟩;dsimp!;have p1:=pt o ho;have hl:=gY o ho;rw[ao (ah:=[some (.a7 (.list (os.map aq))),some (.a7 (bN lo)),some (.a7 (bN hi)),some (.a7 (aq o)),some (.a7 (.int (b9 o).num)),x5,x6]) (by dsimp![p1,t0,kY])];by_cases c0:b9 o=0
  ·have n0:=(j9 _).mpr c0;have hh:=Kl o ho;have hb:oS o [0]=true:=by
    cases hz:oS o [0]with
    |true=>rfl
    |false=>exact absurd ⟨c0,hz⟩ lj
   rw[hb]at hh;have es:dP (lo,hi) o=(lo,hi):=if_pos c0;refine⟨[some (.a7 (.list (os.map aq))),some (.a7 (bN lo)),some (.a7 (bN hi)),some (.a7 (aq o)),some (.a7 (.int (b9 o).num)),x5,x6],?_,by rw[es];exact⟨s1,s2,_,_,_,_,rfl⟩⟩;dsimp![cT,eq_true n0,z1,z2,hh]
  ·have n0:¬(b9 o).num=0:=fun z=>c0 ((j9 _).mp z);have ed:=hE c o (by omega) hl c0;have se:=Ac hl c0;have o0:aO (aq o) (.int 0)=some (.str (bC o.1)):=rfl;have km:fI (.str (bC o.1)) (.str "<")=some (.bool (fK o.1)):=by cases o.1<;>rfl
   have ke:cH (.str (bC o.1)) (.str "=")=some (.bool (decide (o.1=.eq))):=by cases o.1<;>rfl
   have es:dP (lo,hi) o=(if(o.1=.eq\/b9 o<0)/\lU lo (cE o) (fK o.1)=true then some (cE o,fK o.1)else lo,if(o.1=.eq\/0<b9 o)/\ly hi (cE o) (fK o.1)=true then some (cE o,fK o.1)else hi):=if_neg c0;have g1:rA (.int (b9 o).num) (.int 0)=some (.bool (decide (0<b9 o))):=by rw[dt];congr 2;exact decide_eq_decide.mpr (vV _)
   have g2:zw (.int (b9 o).num) (.int 0)=some (.bool (decide (b9 o<0))):=by rw[cc];congr 2;exact decide_eq_decide.mpr (s9 _)
   rw[es];generalize cE o=ee at *;generalize fK o.1=mm at *;generalize b9 o=a at *;generalize aq o=dl at *;rw[iT (by dsimp![cT,eq_false n0])];rw[ao (ah:=[some (.a7 (.list (os.map aq))),some (.a7 (bN lo)),some (.a7 (bN hi)),some (.a7 (dl)),some (.a7 (.int a.num)),some (.a7 (qD ee)),x6]) (by dsimp![ed])];rw[ao (ah:=[some (.a7 (.list (os.map aq))),some (.a7 (bN lo)),some (.a7 (bN hi)),some (.a7 (dl)),some (.a7 (.int a.num)),some (.a7 (qD ee)),some (.a7 (.bool mm))]) (by dsimp![o0,km])];have t1:fu (bc (L3.f2 cH (L3.f2 aO (aA 3) (fC (.int 0))) (fC (.str "=")))) (bc (L3.f2 rA (aA 4) (fC (.int 0)))) (bX [some (.a7 (.list (os.map aq))),some (.a7 (bN lo)),some (.a7 (bN hi)),some (.a7 (dl)),some (.a7 (.int a.num)),some (.a7 (qD ee)),some (.a7 (.bool mm))])=some (decide (o.1=.eq\/0<a)):=by
    rw[ng (a:=decide (o.1=.eq)) (b:=decide (0<a)) (by dsimp![o0,ke]) (by dsimp![g1])];rw[Bool.decide_or]
   have t2:fu (bc (L3.f2 lS (aA 2) (fC .none))) (fu (gh (ia 2 d5 (ay (aA 5) (ay (L3.f2 aO (aA 2) (fC (.int 0))) bp)))) (cU (bc (L3.f2 cH (aA 5) (L3.f2 aO (aA 2) (fC (.int 0))))) (ir (gh (aA 6))))) (bX [some (.a7 (.list (os.map aq))),some (.a7 (bN lo)),some (.a7 (bN hi)),some (.a7 (dl)),some (.a7 (.int a.num)),some (.a7 (qD ee)),some (.a7 (.bool mm))])=some (ly hi ee mm):=by
    cases hi with
    |none=>dsimp![bN,gR,ly]
    |some x=>
     have e1:=iL se (s2 x.1 x.2 rfl) (by omega) (by omega);have e2:=jV ee x.1;have eb:ly (some x) ee mm=(decide (ee<x.1) || (decide (ee=x.1)&&!mm)):=rfl;rw[eb];refine Gm ?_ (ng ?_ (mH ?_ ?_))
     ·dsimp![vg]
     ·dsimp![lx,e1]
     ·dsimp![lx,e2]
     ·cases mm<;>dsimp![]
   have z2':2<=sizeLine:=z2;have u1:jD (c+c) (if(o.1=.eq\/0<a)/\ly hi ee mm=true then some (ee,mm)else hi):=fun v m h=>by
    split at h
    ·cases h;exact se
    ·exact s2 v m h
   have u2:jD (c+c) (if(o.1=.eq\/a<0)/\lU lo ee mm=true then some (ee,mm)else lo):=fun v m h=>by
    split at h
    ·cases h;exact se
    ·exact s1 v m h
   rw[ao (ah:=[some (.a7 (.list (os.map aq))),some (.a7 (bN lo)),some (.a7 (bN (if(o.1=.eq\/0<a)/\ly hi ee mm=true then some (ee,mm)else hi))),some (.a7 (dl)),some (.a7 (.int a.num)),some (.a7 (qD ee)),some (.a7 (.bool mm))]) (by
    by_cases d1:o.1=.eq\/0<a
    ·rw[decide_eq_true d1]at t1;rw[gQ t1];by_cases d2:ly hi ee mm=true
     ·rw[d2]at t2;rw[gQ t2,if_pos ⟨d1,d2⟩];dsimp![bN,z2]
     ·rw[not_eq_true]at d2;rw[d2]at t2;rw[iT t2,if_neg (fun z=>by rw[d2]at z;exact Bool.false_ne_true z.2)];rfl
    ·rw[decide_eq_false d1]at t1;rw[iT t1,if_neg (fun z=>d1 z.1)];rfl)]
   generalize (if(o.1=.eq\/0<a)/\ly hi ee mm=true then some (ee,mm)else hi)=gc at *;have t3:fu (bc (L3.f2 cH (L3.f2 aO (aA 3) (fC (.int 0))) (fC (.str "=")))) (bc (L3.f2 zw (aA 4) (fC (.int 0)))) (bX [some (.a7 (.list (os.map aq))),some (.a7 (bN lo)),some (.a7 (bN gc)),some (.a7 (dl)),some (.a7 (.int a.num)),some (.a7 (qD ee)),some (.a7 (.bool mm))])=some (decide (o.1=.eq\/a<0)):=by
    rw[ng (a:=decide (o.1=.eq)) (b:=decide (a<0)) (by dsimp![o0,ke]) (by dsimp![g2])];rw[Bool.decide_or]
   have t4:fu (bc (L3.f2 lS (aA 1) (fC .none))) (fu (gh (ia 2 d5 (ay (L3.f2 aO (aA 1) (fC (.int 0))) (ay (aA 5) bp)))) (cU (bc (L3.f2 cH (aA 5) (L3.f2 aO (aA 1) (fC (.int 0))))) (ir (gh (aA 6))))) (bX [some (.a7 (.list (os.map aq))),some (.a7 (bN lo)),some (.a7 (bN gc)),some (.a7 (dl)),some (.a7 (.int a.num)),some (.a7 (qD ee)),some (.a7 (.bool mm))])=some (lU lo ee mm):=by
    cases lo with
    |none=>dsimp![bN,gR,lU]
    |some x=>
     have e1:=iL (s1 x.1 x.2 rfl) se (by omega) (by omega);have e2:=jV ee x.1;have eb:lU (some x) ee mm=(decide (x.1<ee) || (decide (ee=x.1)&&!mm)):=rfl;rw[eb];refine Gm ?_ (ng ?_ (mH ?_ ?_))
     ·dsimp![vg]
     ·dsimp![lx,e1]
     ·dsimp![lx,e2]
     ·cases mm<;>dsimp![]
   refine⟨[some (.a7 (.list (os.map aq))),some (.a7 (bN (if(o.1=.eq\/a<0)/\lU lo ee mm=true then some (ee,mm)else lo))),some (.a7 (bN gc)),some (.a7 (dl)),some (.a7 (.int a.num)),some (.a7 (qD ee)),some (.a7 (.bool mm))],?_,u2,u1,_,_,_,_,rfl⟩;by_cases d1:o.1=.eq\/a<0
   ·rw[decide_eq_true d1]at t3;rw[gQ t3];by_cases d2:lU lo ee mm=true
    ·rw[d2]at t4;rw[gQ t4,if_pos ⟨d1,d2⟩];dsimp![bN,z2]
    ·rw[not_eq_true]at d2;rw[d2]at t4;rw[iT t4,if_neg (fun z=>by rw[d2]at z;exact Bool.false_ne_true z.2)];rfl
   ·rw[decide_eq_false d1]at t3;rw[iT t3,if_neg (fun z=>d1 z.1)];rfl
 ·rintro⟨lo,hi⟩ o Γ ho lj ⟨s1,s2,x3,x4,x5,x6,rfl⟩;refine⟨[(3,aq o)],rfl,?_⟩;dsimp!;have p1:=pt o ho;have n0:=(j9 _).mpr lj.1;have hh:=Kl o ho;rw[lj.2]at hh;dsimp![p1,t0,kY,cT,eq_true n0,z1,z2,hh]
 ·rintro ah Dt ⟨s1,s2,x3,x4,x5,x6,rfl⟩;unfold fN;rw[if_neg (fun⟨p,hp,hb⟩=>Dt p hp hb)];generalize os.foldl dP (none,none)=st at *;obtain⟨lo,hi⟩:=st;dsimp only at s1 s2 ⊢;have fin:∀b:Bool,kW (cU (bc (L3.f2 mj (aA 1) (fC .none))) (bc (L3.f2 mj (aA 2) (fC .none)))) (kW (fu (gh (ia 2 d5 (ay (L3.f2 aO (aA 2) (fC (.int 0))) (ay (L3.f2 aO (aA 1) (fC (.int 0))) bp)))) (cU (bc (L3.f2 cH (L3.f2 aO (aA 2) (fC (.int 0))) (L3.f2 aO (aA 1) (fC (.int 0))))) (ir (cU (gh (L3.f2 aO (aA 1) (fC (.int 1)))) (gh (L3.f2 aO (aA 2) (fC (.int 1)))))))) (mO (fC (.bool false))) ic) ic [some (.a7 (.list (os.map aq))),some (.a7 (bN lo)),some (.a7 (bN hi)),x3,x4,x5,x6]=if kM (lo,hi)=true then some (.rt (.bool false))else some (.nx [some (.a7 (.list (os.map aq))),some (.a7 (bN lo)),some (.a7 (bN hi)),x3,x4,x5,x6]):=fun _=>by
   cases lo with
   |none=>dsimp![bN,qW,kM]
   |some l=>
    cases hi with
    |none=>
     have e0:bN none=.none:=rfl;rw[e0];dsimp![qW,lu,kM]
    |some h=>
     have e1:=iL (s2 h.1 h.2 rfl) (s1 l.1 l.2 rfl) (by omega) (by omega);have e2:=jV h.1 l.1;rw[gQ (by dsimp![lu])];have ec:kM (some l,some h)=(decide (h.1<l.1) || (decide (h.1=l.1)&&!(l.2&&h.2))):=rfl;have tt:fu (gh (ia 2 d5 (ay (L3.f2 aO (aA 2) (fC (.int 0))) (ay (L3.f2 aO (aA 1) (fC (.int 0))) bp)))) (cU (bc (L3.f2 cH (L3.f2 aO (aA 2) (fC (.int 0))) (L3.f2 aO (aA 1) (fC (.int 0))))) (ir (cU (gh (L3.f2 aO (aA 1) (fC (.int 1)))) (gh (L3.f2 aO (aA 2) (fC (.int 1))))))) (bX [some (.a7 (.list (os.map aq))),some (.a7 (bN (some l))),some (.a7 (bN (some h))),x3,x4,x5,x6])=some (kM (some l,some h)):=by
      rw[ec];refine ng ?_ (mH ?_ (LX (mH ?_ ?_)))
      ·dsimp![lx,e1]
      ·dsimp![lx,e2]
      ·dsimp![DF]
      ·dsimp![DF]
     cases hc:kM (some l,some h)with
     |true=>rw[hc]at tt;rw[gQ tt];rfl
     |false=>rw[hc]at tt;rw[iT tt];rfl
  have fin:=fin true;by_cases hc:kM (lo,hi)=true
  ·rw[if_pos hc]at fin ⊢;exact(B7 fin).trans rfl
  ·rw[if_neg hc]at fin ⊢;rw[ao fin];dsimp![z2];rfl
 ·intro lj;unfold fN;rw[if_pos lj];rfl
def qv (k:FM.Kn) (x:cL) (e:Rat):Bool:=match x with
 |none=>false
 |some (v,m)=>if v<e then true else(decide (v=e)&&(decide (k=.le) || !m))
abbrev SG (F:List Dat->Option Dat):Prop:=∀(n:Nat) (k:FM.Kn) (x:cL) (e:Rat),n<=4000->jD n x->SR n e->F [.str (bC k),bN x,qD e]=some (.bool (qv k x e))
theorem GG(T:TX mg)(iy:Dn P w K mg base 1 "_law_below" ["a","b"] 2 d5)(U:FnAt K mg "_law_is_within" (top 63) ["kind","end","edge"]):
  ∃F,Dn P w K mg base 2 "_law_is_within" ["kind","end","edge"] 3 F/\SG F:=by
 refine⟨_,cz ["kind","end","edge"] U fun nd _ _ _ _ _ _ _ hr=>
  (ae (aM (cR (a5 1) bK) (ag (ar cG)) aH)
  (ae (aM (bb (aw iy hr (a6 (af (a5 1) a8) (a6 (a5 2) a9) (hs:=aD)))) (ag (ar cG)) aH)
  (ag (ar (fS (fH hr (af (a5 1) a8) (a5 2)) (dW (oF (fH hr (a5 0) aT) (dW (Bi (af (a5 1) a8)))))))))),?_⟩
 intro n k x e hn hx he;cases x with
 |none=>dsimp![bN,gR,qv]
 |some x=>
  have e1:=iL (hx x.1 x.2 rfl) he hn hn;have e2:=jV x.1 e;have ek:cH (.str (bC k)) (.str "<=")=some (.bool (decide (k=.le))):=by cases k<;>rfl
  have ew:qv k (some x) e=if x.1<e then true else(decide (x.1=e)&&(decide (k=.le) || !x.2)):=rfl;rw[ew];refine bP ?_;simp!;rw[ao (ah:=[some (.a7 (.str (bC k))),some (.a7 (bN (some x))),some (.a7 (qD e))]) (by dsimp![vg])];by_cases c:x.1<e
  ·rw[decide_eq_true c]at e1;rw[if_pos c];dsimp![lx,e1]
  ·rw[decide_eq_false c]at e1;rw[if_neg c];rw[ao (ah:=[some (.a7 (.str (bC k))),some (.a7 (bN (some x))),some (.a7 (qD e))]) (by dsimp![lx,e1])];refine rS (nh (by dsimp![lx,e2]) (DA (by dsimp![ek]) ?_));cases f6:x.2<;>dsimp![DF,f6]
def Ad (e:Rat):cL->cL->Bool
 |some l,some h=>decide (l.1=e)&&decide (h.1=e)
 |_,_=>false
def wz (k:FM.Kn) (e:Rat):cL->Bool
 |none=>false
 |some l=>qv k (some (0-l.1,l.2)) (0-e)
def wy (o:FM.Ol):Option (cL×cL)->Bool
 |none=>true
 |some (lo,hi)=>if b9 o=0 then oS o [0]else if o.1=.eq then Ad (cE o) lo hi else if 0<b9 o then qv o.1 hi (cE o)else wz o.1 (cE o) lo
abbrev Tn (F:List Dat->Option Dat):Prop:=∀(c:Nat) (o:FM.Ol) (en:Option (cL×cL)),1<=c->c<=1000->jw c 1 o->(∀s,en=some s->jD (c+c) s.1/\jD (c+c) s.2)->F [aq o,dR en]=some (.bool (wy o en))
theorem Pn(T:TX mg)(lA:Dn P w K mg base 5 "_law_holds" ["line","point"] 2 Fh)(hH:He Fh)(wM:Dn P w K mg base 5 "_law_edge" ["line"] 1 Fe)(hE:PU Fe)(rO:Dn P w K mg base 5 "_law_is_within" ["kind","end","edge"] 3 Fw)(hW:SG Fw)(U:FnAt K mg "_law_due" (top 64) ["line","ends"]):
  ∃F,Dn P w K mg base 6 "_law_due" ["line","ends"] 2 F/\Tn F:=by
 refine⟨_,cz ["line","ends","part","edge","low","high"] U fun nd _ _ _ _ _ _ _ hr=>
  (ae (aM (HD (a5 1) cG) (ag (ar cG)) aH)
  (ae (az 2 nd (af (af (af (a5 0) a8) a8) a8))
  (ae (aM (bV hr (a5 2) a8) (ag (ar (aw lA hr (a6 (a5 0) (a6 (aS (k:=0) (a6 (aS (k:=0) (a6 a8 (a6 a8 a9))) a9 (hs:=bS))) a9 (hs:=bS)))))) aH)
  (ae (az 3 nd (aw wM hr (a6 (a5 0) a9)))
  (ae (pg (a5 1) (dG (n:=2) rfl (aY (aB 4 nd) (aY (aB 5 nd) cV))))
  (ae (aM (bV hr (af (a5 0) a8) aT) (ag (ar (fS (yO (a5 4) bK) (fS (yO (a5 5) bK) (fS (fH hr (af (a5 4) a8) (a5 3)) (dW (fH hr (af (a5 5) a8) (a5 3)))))))) aH)
  (ae (aM (l8 (a5 2) a8) (ag (ar (aw rO hr (a6 (af (a5 0) a8) (a6 (a5 5) (a6 (a5 3) a9)) (hs:=aD))))) aH)
  (ae (aM (cR (a5 4) bK) (ag (ar cG)) aH)
  (ag (ar (aw rO hr (a6 (af (a5 0) a8) (a6 (aS (k:=0) (a6 (aS (k:=0) (a6 (dr (af (af (a5 4) a8) a8)) (a6 (af (af (a5 4) a8) a8) a9 (hs:=aD)) (hs:=gj))) (a6 (af (a5 4) a8) a9 (hs:=aD)) (hs:=bS))) (a6 (aS (k:=0) (a6 (dr (af (a5 3) a8)) (a6 (af (a5 3) a8) a9 (hs:=aD)) (hs:=gj))) a9 (hs:=bS)) (hs:=bS)) (hs:=aD))))))))))))),?_⟩
 intro c o en jM hc hl n6;have z2:2<=sizeLine:=sz (by decide);have z1:1<=sizeLine:=sz (by decide);have Kl:Fh [aq o,.tuple [.tuple [.int 0,.int 1]]]=some (.bool (oS o [0])):=by
  have h1:=hl.1;refine hH c 1 o [0] ⟨h1.symm,hl.2.1,fun q hq=>by rw[mem_singleton.mp hq];exact kU (by decide),by rw[h1];show 1+1*(c+1+1)<=3900;omega,by omega⟩ (hl.2.2.up (by omega))
 have p1:aO (aq o) (.int 1)=some (.tuple [qD (b9 o)]):=by
  show some (Dat.tuple (o.2.1.map qD))=_;rw[(j8 hl).1];rfl
 have t0:∀a:Rat,aO (.tuple [qD a]) (.int 0)=some (qD a):=fun _=>rfl;have o0:aO (aq o) (.int 0)=some (.str (bC o.1)):=rfl;cases en with
 |none=>
  have eu:zC (.bool false) (.bool false)=some (.bool true):=rfl;dsimp![dR,eu,wy]
 |some s=>
  obtain⟨lo,hi⟩:=s;obtain⟨s1,s2⟩:=n6 _ rfl;dsimp only at s1 s2;have eu:zC (.tuple [bN lo,bN hi]) (.bool false)=some (.bool false):=rfl;have Xh:dR (some (lo,hi))=.tuple [bN lo,bN hi]:=rfl;have eD:wy o (some (lo,hi))=(if b9 o=0 then oS o [0]else if o.1=.eq then Ad (cE o) lo hi else if 0<b9 o then qv o.1 hi (cE o)else wz o.1 (cE o) lo):=rfl;rw[eD,Xh];refine bP ?_;simp!;rw[ao (ah:=[some (.a7 (aq o)),some (.a7 (.tuple [bN lo,bN hi])),none,none,none,none]) (by dsimp![eu])];rw[ao (ah:=[some (.a7 (aq o)),some (.a7 (.tuple [bN lo,bN hi])),some (.a7 (.int (b9 o).num)),none,none,none]) (by dsimp![p1,t0,kY])];by_cases c0:b9 o=0
  ·have n0:=(j9 _).mpr c0;rw[if_pos c0];dsimp![cT,eq_true n0,z1,z2,Kl]
  ·have n0:¬(b9 o).num=0:=fun z=>c0 ((j9 _).mp z);have ed:=hE c o (by omega) hl c0;have se:=Ac hl c0;have ke:cH (.str (bC o.1)) (.str "=")=some (.bool (decide (o.1=.eq))):=by cases o.1<;>rfl
   have g1:rA (.int (b9 o).num) (.int 0)=some (.bool (decide (0<b9 o))):=by rw[dt];congr 2;exact decide_eq_decide.mpr (vV _)
   rw[if_neg c0];generalize cE o=ee at *;generalize b9 o=a at *;generalize aq o=dl at *;rw[ao (ah:=[some (.a7 (dl)),some (.a7 (.tuple [bN lo,bN hi])),some (.a7 (.int a.num)),none,none,none]) (by dsimp![cT,eq_false n0])];rw[ao (ah:=[some (.a7 (dl)),some (.a7 (.tuple [bN lo,bN hi])),some (.a7 (.int a.num)),some (.a7 (qD ee)),none,none]) (by dsimp![ed])];rw[ao (ah:=[some (.a7 (dl)),some (.a7 (.tuple [bN lo,bN hi])),some (.a7 (.int a.num)),some (.a7 (qD ee)),some (.a7 (bN lo)),some (.a7 (bN hi))]) (by dsimp![])];by_cases ck:o.1=.eq
   ·rw[decide_eq_true ck]at ke;rw[if_pos ck];refine t6 ?_;rw[gQ (by dsimp![o0,ke])];cases lo with
    |none=>
     have e0:bN none=.none:=rfl;rw[e0];dsimp![qW,Ad]
    |some l=>
     cases hi with
     |none=>
      have e0:bN none=.none:=rfl;rw[e0];dsimp![qW,lu,Ad]
     |some h=>
      have e1:=jV l.1 ee;have e2:=jV h.1 ee;refine rS ?_;rw[nh (a:=true) (b:=decide (l.1=ee)&&decide (h.1=ee)) (by dsimp![lu]) ?_]
      ·rfl
      ·rw[nh (a:=true) (b:=decide (l.1=ee)&&decide (h.1=ee)) (by dsimp![lu]) ?_]
       ·rfl
       ·exact nh (by dsimp![lx,e1]) (by dsimp![lx,e2])
   ·rw[decide_eq_false ck]at ke;rw[if_neg ck];rw[ao (ah:=[some (.a7 (dl)),some (.a7 (.tuple [bN lo,bN hi])),some (.a7 (.int a.num)),some (.a7 (qD ee)),some (.a7 (bN lo)),some (.a7 (bN hi))]) (by dsimp![o0,ke])];by_cases ca:0<a
    ·rw[decide_eq_true ca]at g1;rw[if_pos ca];have ew:=hW (c+c) o.1 hi ee (by omega) s2 se;dsimp![g1,o0,ew]
    ·rw[decide_eq_false ca]at g1;rw[if_neg ca];rw[ao (ah:=[some (.a7 (dl)),some (.a7 (.tuple [bN lo,bN hi])),some (.a7 (.int a.num)),some (.a7 (qD ee)),some (.a7 (bN lo)),some (.a7 (bN hi))]) (by dsimp![g1])];cases lo with
     |none=>
      have e0:bN none=.none:=rfl;rw[e0];dsimp![gR,wz]
     |some l=>
      have ew:=hW (c+c) o.1 (some (0-l.1,l.2)) (0-ee) (by omega) (fun v m h=>by cases h;exact gX (s1 l.1 l.2 rfl)) (gX se);have e3:bN (some (0-l.1,l.2))=.tuple [.tuple [.int (-l.1.num),.int (l.1.den:Int)],.bool l.2]:=by
       show Dat.tuple [qD (0-l.1),.bool l.2]=_;rw[yh]
      rw[e3,yh]at ew;have eN:wz o.1 ee (some l)=qv o.1 (some (0-l.1,l.2)) (0-ee):=rfl;rw[eN];dsimp![vg,lx,DF,kY,xi,o0,z2,ew]
theorem tZ(h:o.2.1=[b9 o])(x:Rat):FM.aL o.2.1 [x]=b9 o*x:=by
 rw[h];show(0:Rat)+b9 o*x=_;grind
def iF:cL->Rat->Prop
 |none,_=>True
 |some (v,m),x=>if m=true then x<=v else x<v
def iE:cL->Rat->Prop
 |none,_=>True
 |some (v,m),x=>if m=true then v<=x else v<x
theorem LU(hi:cL)(e:Rat)(m:Bool)(x:Rat):iF (if ly hi e m=true then some (e,m)else hi) x↔iF hi x/\(if m=true then x<=e else x<e):=by
 cases hi with
 |none=>show iF (if true=true then _ else _) x↔True/\_;rw[if_pos rfl];show(if m=true then x<=e else x<e)↔_;exact⟨fun h=>⟨trivial,h⟩,fun h=>h.2⟩
 |some y=>
  obtain⟨v,k⟩:=y;have eb:ly (some (v,k)) e m=(decide (e<v) || (decide (e=v)&&!m)):=rfl;rw[eb];by_cases h1:e<v
  ·rw[decide_eq_true h1,Bool.true_or,if_pos rfl];show(if m=true then x<=e else x<e)↔(if k=true then x<=v else x<v)/\_;cases m<;>cases k<;>simp only[if_true,if_false,false_eq_true]<;>grind
  ·rw[decide_eq_false h1,Bool.false_or];by_cases h2:e=v
   ·subst h2;rw[decide_eq_true rfl,Bool.true_and];cases m<;>cases k<;>simp only[Bool.not_true,Bool.not_false,if_true,if_false,false_eq_true,iF]<;>grind
   ·rw[decide_eq_false h2,Bool.false_and,if_neg Bool.false_ne_true];show(if k=true then x<=v else x<v)↔(if k=true then x<=v else x<v)/\_;cases m<;>cases k<;>simp only[if_true,if_false,false_eq_true]<;>grind
theorem LS(lo:cL)(e:Rat)(m:Bool)(x:Rat):iE (if lU lo e m=true then some (e,m)else lo) x↔iE lo x/\(if m=true then e<=x else e<x):=by
 cases lo with
 |none=>show iE (if true=true then _ else _) x↔True/\_;rw[if_pos rfl];show(if m=true then e<=x else e<x)↔_;exact⟨fun h=>⟨trivial,h⟩,fun h=>h.2⟩
 |some y=>
  obtain⟨v,k⟩:=y;have eb:lU (some (v,k)) e m=(decide (v<e) || (decide (e=v)&&!m)):=rfl;rw[eb];by_cases h1:v<e
  ·rw[decide_eq_true h1,Bool.true_or,if_pos rfl];show(if m=true then e<=x else e<x)↔(if k=true then v<=x else v<x)/\_;cases m<;>cases k<;>simp only[if_true,if_false,false_eq_true]<;>grind
  ·rw[decide_eq_false h1,Bool.false_or];by_cases h2:e=v
   ·subst h2;rw[decide_eq_true rfl,Bool.true_and];cases m<;>cases k<;>simp only[Bool.not_true,Bool.not_false,if_true,if_false,false_eq_true,iE]<;>grind
   ·rw[decide_eq_false h2,Bool.false_and,if_neg Bool.false_ne_true];show(if k=true then v<=x else v<x)↔(if k=true then v<=x else v<x)/\_;cases m<;>cases k<;>simp only[if_true,if_false,false_eq_true]<;>grind
variable {a x:Rat}
theorem NS(h:0<a):a*x<a*y↔x<y:=by
 constructor
 ·intro z;apply Classical.byContradiction
  intro n;have n':y<=x:=by grind
  have:=Rat.mul_le_mul_of_nonneg_left n' (le_of_lt h);grind
 ·intro z;exact Rat.mul_lt_mul_of_pos_left z h
theorem NT(h:0<a):a*x<=a*y↔x<=y:=by
 constructor
 ·intro z;apply Classical.byContradiction
  intro n;have n':y<x:=by grind
  have:=Rat.mul_lt_mul_of_pos_left n' h;grind
 ·intro z;exact Rat.mul_le_mul_of_nonneg_left z (le_of_lt h)
theorem NU(h:a≠0):a*x=a*y↔x=y:=by
 constructor
 ·intro z;have:a⁻¹*(a*x)=a⁻¹*(a*y):=by rw[z]
  grind
 ·intro z;rw[z]
theorem Kv(h0:b9 o≠0):o.2.2=b9 o*cE o:=by show o.2.2=b9 o*(o.2.2*(1/b9 o));grind
theorem nR(h:o.2.1=[b9 o])(hp:0<b9 o)(x:Rat):FM.bW o [x]↔FM.rel o.1 x (cE o):=by
 have a0:b9 o≠0:=by grind
 unfold FM.bW;rw[tZ h];conv=>lhs;arg 3;rw[Kv a0]
 generalize b9 o=a at *;generalize cE o=ee at *;cases o.1 with
 |eq=>exact NU a0
 |le=>exact NT hp
 |lt=>exact NS hp
theorem nS(h:o.2.1=[b9 o])(hp:b9 o<0)(x:Rat):FM.bW o [x]↔FM.rel o.1 (cE o) x:=by
 have a0:b9 o≠0:=by grind
 unfold FM.bW;rw[tZ h];conv=>lhs;arg 3;rw[Kv a0]
 generalize b9 o=a at *;generalize cE o=ee at *;have hn:0 < -a:=by grind
 cases o.1 with
 |eq=>show a*x=a*ee↔ee=x;rw[NU a0];exact⟨Eq.symm,Eq.symm⟩
 |le=>
  show a*x<=a*ee↔ee<=x;rw[<- NT hn (x:=ee) (y:=x)];constructor<;>intro z<;>grind
 |lt=>
  show a*x<a*ee↔ee<x;rw[<- NS hn (x:=ee) (y:=x)];constructor<;>intro z<;>grind
theorem mw(h:o.2.1=[b9 o])(hp:b9 o=0)(x y:Rat):FM.bW o [x]↔FM.bW o [y]:=by
 unfold FM.bW;rw[tZ h,tZ h,hp,show(0:Rat)*x=0*y by grind]
theorem L9(h:o.2.1=[b9 o])(hb:¬wC o)(s:cL×cL)(x:Rat):(iE (dP s o).1 x/\iF (dP s o).2 x)↔(iE s.1 x/\iF s.2 x)/\FM.bW o [x]:=by
 by_cases c0:b9 o=0
 ·have es:dP s o=s:=if_pos c0;rw[es];have:FM.bW o [x]:=by
   rw[mw h c0 x 0];refine(oR o [0]).mp ?_;cases hz:oS o [0]with
   |true=>rfl
   |false=>exact absurd ⟨c0,hz⟩ hb
  exact⟨fun z=>⟨z,this⟩,fun z=>z.1⟩
 ·have es:dP s o=(if(o.1=.eq\/b9 o<0)/\lU s.1 (cE o) (fK o.1)=true then some (cE o,fK o.1)else s.1,if(o.1=.eq\/0<b9 o)/\ly s.2 (cE o) (fK o.1)=true then some (cE o,fK o.1)else s.2):=if_neg c0;rw[es];dsimp only;have uH:=LU s.2 (cE o) (fK o.1) x;have uL:=LS s.1 (cE o) (fK o.1) x;have JF:∀(p q:Prop) [Decidable p] [Decidable q] (a b:cL),p->(if p/\q then a else b)=if q then a else b:=fun p q _ _ a b hp=>by
   by_cases hq:q
   ·rw[if_pos ⟨hp,hq⟩,if_pos hq]
   ·rw[if_neg (fun z=>hq z.2),if_neg hq]
  have Ro:∀(p q:Prop) [Decidable p] [Decidable q] (a b:cL),¬p->(if p/\q then a else b)=b:=fun p q _ _ a b hp=>if_neg fun z=>hp z.1;rcases(show 0<b9 o\/b9 o<0 by grind)with hp|hp
  ·rw[nR h hp x,JF (o.1=.eq\/0<b9 o) _ _ _ (.inr hp),uH];by_cases hk:o.1=.eq
   ·rw[JF (o.1=.eq\/b9 o<0) _ _ _ (.inl hk),uL,hk];have hm:fK .eq=true:=rfl;rw[hm,if_pos rfl,if_pos rfl];show _↔_/\x=cE o;constructor
    ·rintro⟨⟨a,b⟩,c,d⟩;exact⟨⟨a,c⟩,by grind⟩
    ·rintro⟨⟨a,c⟩,d⟩;exact⟨⟨a,by grind⟩,c,by grind⟩
   ·rw[Ro (o.1=.eq\/b9 o<0) _ _ _ (fun z=>z.elim hk (fun y=>by grind))];have:(if fK o.1=true then x<=cE o else x<cE o)↔FM.rel o.1 x (cE o):=by
     cases jL:o.1 with
     |eq=>exact absurd jL hk
     |le=>exact Iff.rfl
     |lt=>exact Iff.rfl
    rw[this];exact⟨fun⟨a,b,c⟩=>⟨⟨a,b⟩,c⟩,fun⟨⟨a,b⟩,c⟩=>⟨a,b,c⟩⟩
  ·rw[nS h hp x,JF (o.1=.eq\/b9 o<0) _ _ _ (.inr hp),uL];by_cases hk:o.1=.eq
   ·rw[JF (o.1=.eq\/0<b9 o) _ _ _ (.inl hk),uH,hk];have hm:fK .eq=true:=rfl;rw[hm,if_pos rfl,if_pos rfl];show _↔_/\cE o=x;constructor
    ·rintro⟨⟨a,b⟩,c,d⟩;exact⟨⟨a,c⟩,by grind⟩
    ·rintro⟨⟨a,c⟩,d⟩;exact⟨⟨a,by grind⟩,c,by grind⟩
   ·rw[Ro (o.1=.eq\/0<b9 o) _ _ _ (fun z=>z.elim hk (fun y=>by grind))];have:(if fK o.1=true then cE o<=x else cE o<x)↔FM.rel o.1 (cE o) x:=by
     cases jL:o.1 with
     |eq=>exact absurd jL hk
     |le=>exact Iff.rfl
     |lt=>exact Iff.rfl
    rw[this];exact⟨fun⟨⟨a,b⟩,c⟩=>⟨⟨a,c⟩,b⟩,fun⟨⟨a,c⟩,b⟩=>⟨⟨a,b⟩,c⟩⟩
theorem Ca(x:Rat):∀(os:List FM.Ol) (s:cL×cL),(∀o∈os,o.2.1=[b9 o])->(∀o∈os,¬wC o)->((iE (os.foldl dP s).1 x/\iF (os.foldl dP s).2 x)↔(iE s.1 x/\iF s.2 x)/\∀o∈os,FM.bW o [x])
 |[],s,_,_=>⟨fun h=>⟨h,fun o ho=>by simp at ho⟩,fun h=>h.1⟩
 |o::os,s,h1,h2=>by
  rw[foldl_cons,Ca x os _ (fun q hq=>h1 q (mem_cons_of_mem _ hq)) (fun q hq=>h2 q (mem_cons_of_mem _ hq)),L9 (h1 o mem_cons_self) (h2 o mem_cons_self)];constructor
  ·rintro⟨⟨a,b⟩,c⟩;exact⟨a,fun q hq=>(mem_cons.mp hq).elim (fun e=>by rw[e];exact b) (c q)⟩
  ·rintro⟨a,b⟩;exact⟨⟨a,b o mem_cons_self⟩,fun q hq=>b q (mem_cons_of_mem _ hq)⟩
abbrev KO (os:List FM.Ol) (o:FM.Ol):Prop:=∀x:Rat,(∀q∈os,FM.bW q [x])->FM.bW o [x]
theorem qZ{lo:cL}(h:iE lo x)(VN:x<=y):iE lo y:=by
 cases lo with
 |none=>trivial
 |some z=>
  obtain⟨v,m⟩:=z;unfold iE at h ⊢;cases m<;>simp only[if_true,if_false,false_eq_true]at h ⊢<;>grind
theorem FK{hi:cL}(h:iF hi x)(VN:y<=x):iF hi y:=by
 cases hi with
 |none=>trivial
 |some z=>
  obtain⟨v,m⟩:=z;unfold iF at h ⊢;cases m<;>simp only[if_true,if_false,false_eq_true]at h ⊢<;>grind
variable {v:Rat} {m:Bool}
theorem uY(h:y<v):iF (some (v,m)) y:=by
 unfold iF;cases m<;>simp only[if_true,if_false,false_eq_true]<;>grind
theorem r6(h:iF (some (v,m)) y):y<=v:=by
 unfold iF at h;cases m<;>simp only[if_true,if_false,false_eq_true]at h<;>grind
theorem zF(h:v<y):iE (some (v,m)) y:=by
 unfold iE;cases m<;>simp only[if_true,if_false,false_eq_true]<;>grind
theorem zE(h:iE (some (v,m)) y):v<=y:=by
 unfold iE at h;cases m<;>simp only[if_true,if_false,false_eq_true]at h<;>grind
theorem Am(s:cL×cL):kM s=false↔∃x,iE s.1 x/\iF s.2 x:=by
 obtain⟨lo,hi⟩:=s;cases lo with
 |none=>
  refine⟨fun _=>?_,fun _=>rfl⟩;cases hi with
  |none=>exact⟨0,trivial,trivial⟩
  |some h=>exact⟨h.1-1,trivial,uY (by grind)⟩
 |some l=>
  cases hi with
  |none=>exact⟨fun _=>⟨l.1+1,zF (by grind),trivial⟩,fun _=>rfl⟩
  |some h=>
   obtain⟨l,ml⟩:=l;obtain⟨h,mh⟩:=h;have ec:kM (some (l,ml),some (h,mh))=(decide (h<l) || (decide (h=l)&&!(ml&&mh))):=rfl;rw[ec];by_cases c1:h<l
   ·rw[decide_eq_true c1,Bool.true_or];refine⟨(fun z=>by cases z),fun⟨x,h1,h2⟩=>?_⟩;have:=zE h1;have:=r6 h2;grind
   ·rw[decide_eq_false c1,Bool.false_or];by_cases c2:h=l
    ·subst c2;rw[decide_eq_true rfl,Bool.true_and];cases ml<;>cases mh
     ·refine⟨(fun z=>by cases z),fun⟨x,h1,h2⟩=>?_⟩;unfold iE at h1;unfold iF at h2;simp only[if_false,false_eq_true]at h1 h2;grind
     ·refine⟨(fun z=>by cases z),fun⟨x,h1,h2⟩=>?_⟩;unfold iE at h1;unfold iF at h2;simp only[if_true,if_false,false_eq_true]at h1 h2;grind
     ·refine⟨(fun z=>by cases z),fun⟨x,h1,h2⟩=>?_⟩;unfold iE at h1;unfold iF at h2;simp only[if_true,if_false,false_eq_true]at h1 h2;grind
     ·refine⟨fun _=>⟨h,?_,?_⟩,fun _=>rfl⟩
      ·show(if true=true then h<=h else h<h);rw[if_pos rfl];grind
      ·show(if true=true then h<=h else h<h);rw[if_pos rfl];grind
    ·rw[decide_eq_false c2,Bool.false_and];exact⟨fun _=>⟨(l+h)/2,zF (by grind),uY (by grind)⟩,fun _=>rfl⟩
theorem Js(hk:k≠.eq){lo hi:cL}{x0 e:Rat}(h1:iE lo x0)(h2:iF hi x0):qv k hi e=true↔∀x,iE lo x/\iF hi x->FM.rel k x e:=by
 cases hi with
 |none=>
  refine⟨(fun z=>by cases z),fun h=>?_⟩;exfalso;have:=h (if x0<=e then e+1 else x0+1) ⟨qZ h1 (by split<;>grind),trivial⟩;cases k with
  |eq=>exact hk rfl
  |le=>have this:(if x0<=e then e+1 else x0+1)<=e:=this;split at this<;>grind
  |lt=>have this:(if x0<=e then e+1 else x0+1)<e:=this;split at this<;>grind
 |some z=>
  obtain⟨v,m⟩:=z;have ew:qv k (some (v,m)) e=if v<e then true else(decide (v=e)&&(decide (k=.le) || !m)):=rfl;rw[ew];have Rr:∀{x:Rat},x<e->FM.rel k x e:=fun{x} hx=>by
   cases k with
   |eq=>exact absurd rfl hk
   |le=>show x<=e;grind
   |lt=>exact hx
  constructor
  ·intro h x ⟨_,hx⟩;have xw:=r6 hx;by_cases c:v<e
   ·exact Rr (by grind)
   ·rw[if_neg c,and_eq_true,decide_eq_true_eq,or_eq_true,decide_eq_true_eq]at h;obtain⟨h3,h4⟩:=h;rcases h4 with h4|h4
    ·rw[h4];show x<=e;grind
    ·have hm:m=false:=by cases m with|false=>rfl|true=>cases h4
     subst hm;have hx:(if false=true then x<=v else x<v):=hx;rw[if_neg Bool.false_ne_true]at hx;exact Rr (by grind)
  ·intro h;have re:∀{x:Rat},FM.rel k x e->x<=e:=fun{x} hx=>by
    cases k with
    |eq=>exact absurd rfl hk
    |le=>exact hx
    |lt=>have hx:x<e:=hx;grind
   by_cases c:v<e
   ·rw[if_pos c]
   ·rw[if_neg c];have Ve:=r6 h2;have x0e:=re (h x0 ⟨h1,h2⟩);by_cases c2:e<v
    ·exfalso;have:=re (h ((e+v)/2) ⟨qZ h1 (by grind),uY (by grind)⟩);grind
    ·have hv:v=e:=by grind
     rw[decide_eq_true hv,Bool.true_and];cases m with
     |false=>rw[Bool.not_false,Bool.or_true]
     |true=>
      have:=h v ⟨qZ h1 Ve,by show(if true=true then v<=v else v<v);rw[if_pos rfl];grind⟩;cases k with
      |eq=>exact absurd rfl hk
      |le=>rw[decide_eq_true rfl];rfl
      |lt=>have this:v<e:=this;grind
def JV:cL->cL
 |none=>none
 |some (v,m)=>some (0-v,m)
theorem I0(lo:cL)(x:Rat):iF (JV lo) x↔iE lo (0-x):=by
 cases lo with
 |none=>exact Iff.rfl
 |some z=>
  obtain⟨v,m⟩:=z;show(if m=true then x<=0-v else x<0-v)↔(if m=true then v<=0-x else v<0-x);cases m<;>simp only[if_true,if_false,false_eq_true]<;>grind
theorem Ie(hi:cL)(x:Rat):iE (JV hi) x↔iF hi (0-x):=by
 cases hi with
 |none=>exact Iff.rfl
 |some z=>
  obtain⟨v,m⟩:=z;show(if m=true then 0-v<=x else 0-v<x)↔(if m=true then 0-x<=v else 0-x<v);cases m<;>simp only[if_true,if_false,false_eq_true]<;>grind
theorem M6(k:FM.Kn)(e:Rat)(lo:cL):wz k e lo=qv k (JV lo) (0-e):=by
 cases lo with
 |none=>rfl
 |some z=>rfl
theorem P2(gY:∀q∈os,q.2.1=[b9 q])(ho:o.2.1=[b9 o]):wy o (fN os)=true↔KO os o:=by
 by_cases hb:∃q∈os,wC q
 ·have e:fN os=none:=by unfold fN;exact if_pos hb
  rw[e];refine⟨fun _ x hx=>?_,fun _=>rfl⟩;exfalso;obtain⟨q,hq,hb⟩:=hb;have:=hx q hq;rw[mw (gY q hq) hb.1 x 0,<- oR,hb.2]at this;cases this
 ·have hg:∀q∈os,¬wC q:=fun q hq z=>hb ⟨q,hq,z⟩;have F:=fun x=>Ca x os (none,none) gY hg;have F2:∀x,(iE (os.foldl dP (none,none)).1 x/\iF (os.foldl dP (none,none)).2 x)↔∀q∈os,FM.bW q [x]:=fun x=>by
   rw[F x];exact⟨fun z=>z.2,fun z=>⟨⟨trivial,trivial⟩,z⟩⟩
  by_cases hc:kM (os.foldl dP (none,none))=true
  ·have e:fN os=none:=by unfold fN;rw[if_neg hb,if_pos hc]
   rw[e];refine⟨fun _ x hx=>?_,fun _=>rfl⟩;exfalso;have:=(Am _).mpr ⟨x,(F2 x).mpr hx⟩;rw[hc]at this;cases this
  ·have e:fN os=some (os.foldl dP (none,none)):=by unfold fN;rw[if_neg hb,if_neg hc]
   rw[e];obtain⟨x0,ju⟩:=(Am _).mp (not_eq_true _▸hc);have key:KO os o↔∀x,(iE (os.foldl dP (none,none)).1 x/\iF (os.foldl dP (none,none)).2 x)->FM.bW o [x]:=⟨fun h x hx=>h x ((F2 x).mp hx),fun h x hx=>h x ((F2 x).mpr hx)⟩;rw[key];generalize os.foldl dP (none,none)=s at *;obtain⟨lo,hi⟩:=s;dsimp only at ju ⊢;show(if b9 o=0 then oS o [0]else if o.1=.eq then Ad (cE o) lo hi else if 0<b9 o then qv o.1 hi (cE o)else wz o.1 (cE o) lo)=true↔_;by_cases c0:b9 o=0
   ·rw[if_pos c0,oR];exact⟨fun h x _=>(mw ho c0 x 0).mpr h,fun h=>(mw ho c0 x0 0).mp (h x0 ju)⟩
   ·rw[if_neg c0];by_cases ck:o.1=.eq
    ·rw[if_pos ck];have hold:∀x,FM.bW o [x]↔x=cE o:=fun x=>by
      rcases(show 0<b9 o\/b9 o<0 by grind)with hp|hp
      ·rw[nR ho hp,ck];exact Iff.rfl
      ·rw[nS ho hp,ck];exact⟨Eq.symm,Eq.symm⟩
     simp only[hold];generalize cE o=ee at *;obtain⟨hL,hH⟩:=ju;cases lo with
     |none=>
      refine⟨(fun z=>by cases z),fun h=>?_⟩;have a:=h x0 ⟨trivial,hH⟩;have b:=h (x0-1) ⟨trivial,FK hH (by grind)⟩;grind
     |some l=>
      cases hi with
      |none=>
       refine⟨(fun z=>by cases z),fun h=>?_⟩;have a:=h x0 ⟨hL,trivial⟩;have b:=h (x0+1) ⟨qZ hL (by grind),trivial⟩;grind
      |some h=>
       obtain⟨l,ml⟩:=l;obtain⟨v,mv⟩:=h;show(decide (l=ee)&&decide (v=ee))=true↔_;rw[and_eq_true,decide_eq_true_eq,decide_eq_true_eq];constructor
       ·rintro⟨rfl,h2⟩ x ⟨a,b⟩;have:=zE a;have:=r6 b;grind
       ·intro h;have a:=h x0 ⟨hL,hH⟩;have l1:=zE hL;have l2:=r6 hH;constructor
        ·apply Classical.byContradiction
         intro n;have:=h ((l+x0)/2) ⟨zF (by grind),FK hH (by grind)⟩;grind
        ·apply Classical.byContradiction
         intro n;have:=h ((v+x0)/2) ⟨qZ hL (by grind),uY (by grind)⟩;grind
    ·rw[if_neg ck];by_cases hp:0<b9 o
     ·rw[if_pos hp,Js ck ju.1 ju.2];exact⟨fun h x hx=>(nR ho hp x).mpr (h x hx),fun h x hx=>(nR ho hp x).mp (h x hx)⟩
     ·rw[if_neg hp,M6];have fQ:b9 o<0:=by grind
      rw[Js ck (lo:=JV hi) (x0:=0-x0) (by rw[Ie,show(0:Rat)-(0-x0)=x0 by grind];exact ju.2) (by rw[I0,show(0:Rat)-(0-x0)=x0 by grind];exact ju.1)];have rl:∀x,FM.rel o.1 (0-x) (0-cE o)↔FM.rel o.1 (cE o) x:=fun x=>by
       cases o.1 with
       |eq=>show 0-x=0-cE o↔cE o=x;constructor<;>intro z<;>grind
       |le=>show 0-x<=0-cE o↔cE o<=x;constructor<;>intro z<;>grind
       |lt=>show 0-x<0-cE o↔cE o<x;constructor<;>intro z<;>grind
      constructor
      ·intro h x ⟨Om,f6⟩;rw[nS ho fQ x,<- rl];exact h (0-x) ⟨by rw[Ie,show(0:Rat)-(0-x)=x by grind];exact f6,by rw[I0,show(0:Rat)-(0-x)=x by grind];exact Om⟩
      ·intro h x ⟨Om,f6⟩;have:=h (0-x) ⟨(I0 lo x).mp f6,(Ie hi x).mp Om⟩;rw[nS ho fQ (0-x),<- rl,show(0:Rat)-(0-x)=x by grind]at this;exact this
def ot (o:FM.Ol) (os:List FM.Ol):Bool:=match o.1 with
 | .lt=>(FM.aZ true o.2.1 o.2.2 os).1
 | .le=>(FM.aZ false o.2.1 o.2.2 os).1
 | .eq=>(FM.aZ false o.2.1 o.2.2 os).1&&(FM.aZ false (o.2.1.map fun q=>0-q) (0-o.2.2) os).1
theorem Du(h:Bool×List Rat):aO (ko h) (.int 0)=some (.str (if h.1=true then "follows" else "breaks")):=by
 unfold ko;by_cases c:h.1=true
 ·rw[if_pos c,if_pos c];rfl
 ·rw[if_neg c,if_neg c];rfl
theorem UW(o:FM.Ol)(os:List FM.Ol):aO (xG o.1 o.2.1 o.2.2 os) (.int 0)=some (.str (if ot o os=true then "follows" else "breaks")):=by
 unfold xG ot;cases o.1 with
 |lt=>exact Du _
 |le=>exact Du _
 |eq=>
  dsimp only;by_cases c1:(FM.aZ false o.2.1 o.2.2 os).1=true
  ·rw[if_pos c1,c1,Bool.true_and];by_cases c2:(FM.aZ false (o.2.1.map fun q=>0-q) (0-o.2.2) os).1=true
   ·rw[if_pos c2,if_pos c2];rfl
   ·rw[if_neg c2];exact Du _
  ·rw[if_neg c1,Du];rw[not_eq_true]at c1;rw[c1];rfl
theorem pQ{s:Bool}(hp:p.length=1)(hl:∀o∈os,o.2.1.length=1):(FM.aZ s p β os).1=true↔∀x:Rat,(∀q∈os,FM.bW q [x])->FM.rel (if s=true then .lt else .le) (FM.aL p [x]) β:=by
 have iG:∀o∈os,o.2.1.length=p.length:=fun o ho=>by rw[hp];exact hl o ho
 constructor
 ·intro h x hx;rcases FM.sh iG s β with⟨_,r⟩|⟨z,_⟩
  ·exact FM.AB iG r hx
  ·rw[h]at z;cases z
 ·intro h;rcases FM.sh iG s β with⟨z,_⟩|⟨_,r⟩
  ·exact z
  ·exfalso;have h1:=r.len;rw[hp]at h1;match hx:(FM.aZ s p β os).2,h1 with
   |[x0],_=>
    have h2:=r.others;have h3:=r.line;rw[hx]at h2 h3;exact h3 (h x0 h2)
theorem LV(ho:o.2.1.length=1)(hl:∀q∈os,q.2.1.length=1):ot o os=true↔KO os o:=by
 unfold ot KO FM.bW;cases o.1 with
 |lt=>exact pQ ho hl
 |le=>exact pQ ho hl
 |eq=>
  dsimp only;rw[and_eq_true,pQ ho hl,pQ (by rw[length_map];exact ho) hl];constructor
  ·rintro⟨h1,h2⟩ x hx;have a:FM.aL o.2.1 [x]<=o.2.2:=h1 x hx;have b:FM.aL (o.2.1.map fun q=>0-q) [x]<=0-o.2.2:=h2 x hx;rw[qt]at b;show FM.aL o.2.1 [x]=o.2.2;grind
  ·intro h;refine⟨fun x hx=>?_,fun x hx=>?_⟩
   ·have a:FM.aL o.2.1 [x]=o.2.2:=h x hx;show FM.aL o.2.1 [x]<=o.2.2;grind
   ·have a:FM.aL o.2.1 [x]=o.2.2:=h x hx;show FM.aL (o.2.1.map fun q=>0-q) [x]<=0-o.2.2;rw[qt];grind
theorem MY{x:Int×Int}(h:Sm x):∃q:Rat,kr x=qD q/\SR 100 q:=by
 refine⟨⟨x.1,x.2.natAbs,by have:=h.pos;omega,h.Ai⟩,?_,⟨h.ln,h.ld⟩⟩;show Dat.tuple [.int x.1,.int x.2]=Dat.tuple [.int x.1,.int (x.2.natAbs:Int)];rw[show(x.2.natAbs:Int)=x.2 by have:=h.pos;omega]
theorem JG:∀{xs:List (Int×Int)},(∀x∈xs,Sm x)->∃qs:List Rat,oq xs=cy qs/\qs.length=xs.length/\∀q∈qs,SR 100 q
 |[],_=>⟨[],rfl,rfl,fun q hq=>by simp at hq⟩
 |x::xs,h=>by
  obtain⟨q,e,s⟩:=MY (h x mem_cons_self);obtain⟨qs,e2,hl,s2⟩:=JG (xs:=xs) fun y hy=>h y (mem_cons_of_mem _ hy);refine⟨q::qs,?_,by rw[length_cons,length_cons,hl],fun y hy=>?_⟩
  ·show Dat.tuple (kr x::xs.map kr)=Dat.tuple (qD q::qs.map qD);have:xs.map kr=qs.map qD:=by
    have e2:Dat.tuple (xs.map kr)=Dat.tuple (qs.map qD):=e2;injection e2
   rw[e,this]
  ·rcases mem_cons.mp hy with e|hy
   ·rw[e];exact s
   ·exact s2 y hy
theorem QK{k:Str}(h:Kd k):∃n:FM.Kn,k=bC n:=by
 rcases h with e|e|e
 ·exact⟨.eq,e⟩
 ·exact⟨.lt,e⟩
 ·exact⟨.le,e⟩
theorem vZ{r:R}(h:kP r)(g:Bool):∃(o:FM.Ol) (r':R),kS (rD r) [.int 1,.bool g]=some (aq o,rD r')/\kP r'/\jw 100 1 o:=by
 have o1:=gP (m:=5) h;have e:=Hh (g:=g) (m:=1) h (by decide) (by decide);obtain⟨p1,p2,p3⟩:=Ae (1:Int).toNat (g:=g) o1;obtain⟨b1,b2⟩:=wg (g:=g) p2;obtain⟨kn,hk⟩:=QK (K3 (jj r (m:=5) (by decide))).2;obtain⟨qs,e2,hl,s2⟩:=JG p1;obtain⟨q,e3,s3⟩:=MY b1;refine⟨(kn,qs,q),(FC r 1 g).2,?_,b2,by show qs.length=1;rw[hl,p3];rfl,s2,s3⟩;refine e.trans ?_;show some (Dat.tuple [.str (zA (tk r 5)),oq (oT (1:Int).toNat (tr r 5) g).1,kr (eX (oT (1:Int).toNat (tr r 5) g).2 g).1],_)=_;rw[hk,e2,e3]
theorem Mo(T:TX mg)(U:FnAt K mg "_law_cell_at" (top 43) ["script","k"]):
  ∃F,Dn P w K mg base 1 "_law_cell_at" ["script","k"] 2 F/\∀ns:List Int,∃c:Int,F [.list (ns.map .int),.int 0]=some (.int c):=by
 refine⟨_,cz ["script","k"] U fun nd _ _ _ _ _ _ _ hr=>
  (ae (aM (kc (a5 1) (cI T.len (a6 (a5 0) a9))) (ag (ar (af (a5 0) (a5 1)))) aH)
  (ag (ar a8))),?_⟩
 intro ns;have lo:=ip Dat.int ns;by_cases hn:(0:Int)<(ns.length:Int)
 ·have kZ:0<ns.length:=by omega
  refine⟨ns[0],?_⟩;have a0:aO (.list (ns.map .int)) (.int 0)=some (.int ns[0]):=vm (n:=0) Dat.int (getElem?_eq_getElem kZ);generalize Dat.list (ns.map .int)=dl at *;dsimp![lo,cc,eq_true hn,a0]
 ·refine⟨0,?_⟩;generalize Dat.list (ns.map .int)=dl at *;dsimp![lo,cc,eq_false hn]
abbrev R9 (o:FM.Ol):Prop:=o.2.1.length=1/\(∀q∈o.2.1,SR 100 q)/\SR 400 o.2.2
theorem Lc{N:List Str}{g:aG->Option Fl}{es f9:List Dat}{d:Dat}(h:g (startM N ds es)=some (.rm d Γ))(h0:Γ[0]?=some (some (.own f9))):runM N g ds es=some (d,f9):=by
 unfold runM;rw[h];show(match (Γ[0]? : Option (Option Slot))with|some (some (.own f9))=>some (d,f9)|_=>none)=_
 rw[h0]
abbrev TL (F:List Dat->List Dat->Option (Dat×List Dat)):Prop:=∀(r:R) (en:Option (cL×cL)),kP r->(∀s,en=some s->jD 200 s.1/\jD 200 s.2)->∃(o:FM.Ol) (r':R),F (rD r) [dR en]=some (aq o,rD r')/\R9 o
theorem Qt:ph (.int 10) (.int 6)=some (.int 1000000):=iW (by unfold wO;decide)
def Xs:List Dat:=[.tuple [.int 0,.int 1],.tuple [.int 0,.int 1],.tuple [.int 1,.int 1000000],.tuple [.int (-1),.int 1000000]]
theorem R8{t:Int}(h:0<=t/\t<4):∃q:Rat,aO (.list Xs) (.int t)=some (qD q)/\SR 30 q:=by
 rcases(show t=0\/t=1\/t=2\/t=3 by omega)with e|e|e|e
 ·subst e;exact⟨0,rfl,by decide,by decide⟩
 ·subst e;exact⟨0,rfl,by decide,by decide⟩
 ·subst e;exact⟨⟨1,1000000,by decide,by decide⟩,rfl,by decide,by decide⟩
 ·subst e;exact⟨⟨-1,1000000,by decide,by decide⟩,rfl,by decide,by decide⟩
theorem J2(T:TX mg)(wK:jS P w K mg base 3 "_law_line" ["reel","many","great"] 3 kS)(eh:jS P w K mg base 3 "_law_take" ["reel","many"] 2 jR)(k7:Dn P w K mg base 3 "_law_times" ["a","b"] 2 gm)(oX:Dn P w K mg base 3 "_law_plus" ["a","b"] 2 iK)(U:FnAt K mg "_law_asked" (top 65) ["reel","ends"]):
  ∃F,jS P w K mg base 4 "_law_asked" ["reel","ends"] 2 F/\TL F:=by
 refine⟨_,Qr ["reel","ends","kind","parts","bound","way","by"] U fun nd _ _ _ _ _ _ _ hr=>
  (ae (EB (dU 0 wK hr (bB (bf a8) (bB (bf cG) cv))) (dG (n:=3) rfl (aY (aB 2 nd) (aY (aB 3 nd) (aY (aB 4 nd) cV)))))
  (ae (i5 5 nd (dU 0 eh hr (bB (bf a8) cv)))
  (ae (aM (bO (cQ (l8 (a5 5) a8) (cQ (EG (a5 1) cG) (cQ (qK (af (a5 1) (kf (a5 5) a8)) bK) (cP (dm hr (af (a5 3) a8) (aS (k:=0) (a6 a8 (a6 a8 a9))))))))) (ae (i5 6 nd (yN (bf (gV (a6 (aS (k:=0) (a6 a8 (a6 a8 a9))) (a6 (aS (k:=0) (a6 a8 (a6 a8 a9))) (a6 (aS (k:=0) (a6 a8 (a6 (mD a8 a8) a9 (hs:=d9)))) (a6 (aS (k:=0) (a6 (dr a8) (a6 (mD a8 a8) a9 (hs:=d9)) (hs:=gj))) a9 (hs:=bS)) (hs:=bS)) (hs:=bS)) (hs:=bS)))) (dU 0 eh hr (bB (bf a8) cv))))
  (ag (az 4 nd (aw k7 hr (a6 (af (a5 3) a8) (a6 (aw oX hr (a6 (af (af (a5 1) (kf (a5 5) a8)) a8) (a6 (a5 6) a9) (hs:=aD))) a9 (hs:=aW)) (hs:=aD)))))) aH)
  (ag (i6 (bf (aS (k:=0) (a6 (a5 2) (a6 (a5 3) (a6 (a5 4) a9)))))))))),?_⟩
 intro r en hR n6;have z2:2<=sizeLine:=sz (by decide);have z3:3<=sizeLine:=sz (by decide);have z4:4<=sizeLine:=sz (by decide);obtain⟨o,r1,e1,R1,hL⟩:=vZ hR false;have f3:=dI (m:=3) R1 (by decide) (by decide);have b3:=jj r1 (m:=3) (by decide);have R2:=gP (m:=3) R1;generalize tk r1 3=t3 at f3 b3;generalize tr r1 3=r2 at f3 R2;obtain⟨hp,sa⟩:=j8 hL;obtain⟨k,p,β⟩:=o;dsimp only at hp;generalize b9 (k,p,β)=a at hp sa;subst hp;have dA:SR 100 β:=hL.2.2;have f4:=dI (m:=4) R2 (by decide) (by decide);have b4:=jj r2 (m:=4) (by decide);generalize tk r2 4=t4 at f4 b4;generalize tr r2 4=r3 at f4;obtain⟨Ct,Xk,N4⟩:=R8 b4;have key:∃(nF:Rat) (rr:R) (x6:Option Slot),SR 400 nF/\∀g2:aG->Option Fl,dE (kW (cU (bc (L3.f2 rA (aA 5) (fC (.int 0)))) (cU (bc (L3.f2 nO (aA 1) (fC (.bool false)))) (cU (bc (L3.f2 mj (L3.f2 aO (aA 1) (L3.f2 oj (aA 5) (fC (.int 1)))) (fC .none))) (bc (L3.f2 fI (L3.f2 aO (aA 3) (fC (.int 0))) (dH (ay (fC (.int 0)) (ay (fC (.int 1)) bp)))))))) (dE (uk 6 (L3.h2 aO (kK (lr (ay (dH (ay (fC (.int 0)) (ay (fC (.int 1)) bp))) (ay (dH (ay (fC (.int 0)) (ay (fC (.int 1)) bp))) (ay (dH (ay (fC (.int 1)) (ay (L3.f2 ph (fC (.int 10)) (fC (.int 6))) bp))) (ay (dH (ay (L3.f1 lb (fC (.int 1))) (ay (L3.f2 ph (fC (.int 10)) (fC (.int 6))) bp))) bp)))))) (rz 0 2 jR (pR (kK (fC (.int 4))) tL)))) (gU 4 (ia 2 gm (ay (L3.f2 aO (aA 3) (fC (.int 0))) (ay (ia 2 iK (ay (L3.f2 aO (L3.f2 aO (aA 1) (L3.f2 oj (aA 5) (fC (.int 1)))) (fC (.int 0))) (ay (aA 6) bp))) bp))))) ic) g2 [some (.own (rD r2)),some (.a7 (dR en)),some (.a7 (.str (bC k))),some (.a7 (.tuple [qD a])),some (.a7 (qD β)),some (.a7 (.int t3)),none]=g2 [some (.own (rD rr)),some (.a7 (dR en)),some (.a7 (.str (bC k))),some (.a7 (.tuple [qD a])),some (.a7 (qD nF)),some (.a7 (.int t3)),x6]:=by
  have no:∀b:Bool,b=false->cU (bc (L3.f2 rA (aA 5) (fC (.int 0)))) (cU (bc (L3.f2 nO (aA 1) (fC (.bool false)))) (cU (bc (L3.f2 mj (L3.f2 aO (aA 1) (L3.f2 oj (aA 5) (fC (.int 1)))) (fC .none))) (bc (L3.f2 fI (L3.f2 aO (aA 3) (fC (.int 0))) (dH (ay (fC (.int 0)) (ay (fC (.int 1)) bp))))))) (bX [some (.own (rD r2)),some (.a7 (dR en)),some (.a7 (.str (bC k))),some (.a7 (.tuple [qD a])),some (.a7 (qD β)),some (.a7 (.int t3)),none])=some b->∃(nF:Rat) (rr:R) (x6:Option Slot),SR 400 nF/\∀g2:aG->Option Fl,dE (kW (cU (bc (L3.f2 rA (aA 5) (fC (.int 0)))) (cU (bc (L3.f2 nO (aA 1) (fC (.bool false)))) (cU (bc (L3.f2 mj (L3.f2 aO (aA 1) (L3.f2 oj (aA 5) (fC (.int 1)))) (fC .none))) (bc (L3.f2 fI (L3.f2 aO (aA 3) (fC (.int 0))) (dH (ay (fC (.int 0)) (ay (fC (.int 1)) bp)))))))) (dE (uk 6 (L3.h2 aO (kK (lr (ay (dH (ay (fC (.int 0)) (ay (fC (.int 1)) bp))) (ay (dH (ay (fC (.int 0)) (ay (fC (.int 1)) bp))) (ay (dH (ay (fC (.int 1)) (ay (L3.f2 ph (fC (.int 10)) (fC (.int 6))) bp))) (ay (dH (ay (L3.f1 lb (fC (.int 1))) (ay (L3.f2 ph (fC (.int 10)) (fC (.int 6))) bp))) bp)))))) (rz 0 2 jR (pR (kK (fC (.int 4))) tL)))) (gU 4 (ia 2 gm (ay (L3.f2 aO (aA 3) (fC (.int 0))) (ay (ia 2 iK (ay (L3.f2 aO (L3.f2 aO (aA 1) (L3.f2 oj (aA 5) (fC (.int 1)))) (fC (.int 0))) (ay (aA 6) bp))) bp))))) ic) g2 [some (.own (rD r2)),some (.a7 (dR en)),some (.a7 (.str (bC k))),some (.a7 (.tuple [qD a])),some (.a7 (qD β)),some (.a7 (.int t3)),none]=g2 [some (.own (rD rr)),some (.a7 (dR en)),some (.a7 (.str (bC k))),some (.a7 (.tuple [qD a])),some (.a7 (qD nF)),some (.a7 (.int t3)),x6]:=fun b hb ht=>by
   subst hb;exact⟨β,r2,none,dA.up (by decide),fun g2=>by rw[ao (iT ht)]⟩
  have p0:aO (.tuple [qD a]) (.int 0)=some (qD a):=rfl;have Ku:fI (qD a) (.tuple [.int 0,.int 1])=some (.bool (!decide (a=0))):=JW a 0;by_cases c1:0<t3
  ·cases en with
   |none=>
    have eu:nO (dR none) (.bool false)=some (.bool false):=rfl;exact no false rfl (by dsimp![dt,eq_true c1,eu])
   |some s=>
    obtain⟨lo,hi⟩:=s;obtain⟨s1,s2⟩:=n6 _ rfl;dsimp only at s1 s2;have eu:nO (dR (some (lo,hi))) (.bool false)=some (.bool true):=rfl;obtain⟨x,hx,sx⟩:∃x:cL,aO (dR (some (lo,hi))) (.int (t3-1))=some (bN x)/\jD 200 x:=by
     rcases(show t3=1\/t3=2 by omega)with e|e
     ·subst e;exact⟨lo,rfl,s1⟩
     ·subst e;exact⟨hi,rfl,s2⟩
    generalize dR (some (lo,hi))=de at *;cases x with
    |none=>
     have e0:bN none=.none:=rfl;rw[e0]at hx;exact no false rfl (by dsimp![dt,eq_true c1,eu,d8,hx,qW])
    |some y=>
     by_cases ca:a=0
     ·rw[decide_eq_true ca]at Ku;exact no false rfl (by dsimp![dt,eq_true c1,eu,d8,hx,lu,p0,z2,Ku])
     ·rw[decide_eq_false ca]at Ku;have sy:=sx y.1 y.2 rfl;have ep:=nB sy N4 (by decide) (by decide);have et:=oV sa (sy.add N4) (by decide) (by decide);refine⟨a*(y.1+Ct),r3,some (.a7 (qD Ct)),(sa.mul (sy.add N4)).up (by decide),fun g2=>?_⟩;rw[ao (ah:=[some (.own (rD r3)),some (.a7 (de)),some (.a7 (.str (bC k))),some (.a7 (.tuple [qD a])),some (.a7 (qD (a*(y.1+Ct)))),some (.a7 (.int t3)),some (.a7 (qD Ct))])];rw[gQ (by dsimp![dt,eq_true c1,eu,d8,hx,lu,p0,z2,Ku])];have V1:aO (.list [.tuple [.int 0,.int 1],.tuple [.int 0,.int 1],.tuple [.int 1,.int 1000000],.tuple [.int (-1),.int 1000000]]) (.int t4)=some (qD Ct):=Xk
      rw[ao (ah:=[some (.own (rD r3)),some (.a7 (de)),some (.a7 (.str (bC k))),some (.a7 (.tuple [qD a])),some (.a7 (qD β)),some (.a7 (.int t3)),some (.a7 (qD Ct))]) (by dsimp![Qt,z2,z4,f4,V1])];dsimp![p0,d8,hx,lx,ep,et]
  ·exact no false rfl (by dsimp![dt,eq_false c1])
 obtain⟨nF,rr,x6,Ir,hg⟩:=key;refine⟨(k,[a],nF),rr,Lc (Γ:=[some (.own (rD rr)),some (.a7 (dR en)),some (.a7 (.str (bC k))),some (.a7 (.tuple [qD a])),some (.a7 (qD nF)),some (.a7 (.int t3)),x6]) ?_ rfl,rfl,fun q hq=>by rw[mem_singleton.mp hq];exact sa,Ir⟩;simp only[startM,map_cons,map_nil,length_cons,length_nil,cons_append,nil_append,List.replicate];rw[ao (ah:=[some (.own (rD r1)),some (.a7 (dR en)),some (.a7 (.str (bC k))),some (.a7 (.tuple [qD a])),some (.a7 (qD β)),none,none]) (by simp![e1])];rw[ao (ah:=[some (.own (rD r2)),some (.a7 (dR en)),some (.a7 (.str (bC k))),some (.a7 (.tuple [qD a])),some (.a7 (qD β)),some (.a7 (.int t3)),none]) (by simp![f3])];rw[hg];simp![z3];rfl
theorem Ah(ns:List Int)(lo hi:Option Int):∃ms:List Int,L3.cutD (ns.map Dat.int) lo hi=ms.map Dat.int/\ms.length<=ns.length:=by
 unfold L3.cutD;refine⟨(ns.drop (HT.c7 (ns.map Dat.int).length 0 lo)).take (HT.c7 (ns.map Dat.int).length (ns.map Dat.int).length hi-HT.c7 (ns.map Dat.int).length 0 lo),by rw[map_take,List.map_drop],?_⟩;rw[length_take,length_drop];omega
theorem LZ:cH (.list []) (.list [])=some (.bool true):=by
 unfold cH;rw[IP rfl (fun b h=>by cases h) (fun b h=>by cases h)];rfl
theorem IL(c:Int)(cs:List Int)(h:kqdOk 9 (.list ((c::cs).map .int))=true):cH (.list ((c::cs).map .int)) (.list [])=some (.bool false):=by
 have e:eqB (.list ((c::cs).map .int)) (.list [])=if kqdOk 9 (.list ((c::cs).map .int))=true/\kqdOk 9 (.list [])=true then some (lT (.list ((c::cs).map .int)) (.list []))else none:=rfl;unfold cH;rw[e,if_pos ⟨h,rfl⟩,nk (fun z=>by cases z)];rfl
def oE (c:Int):R:=((c.natAbs:Int),((c.fmod 2147483647+1)*742938285).fmod 2147483647)
theorem uw(c:Int):kP (oE c):=by
 have:=mG ((c.fmod 2147483647+1)*742938285) (b:=2147483647) (by decide);exact⟨this.1,by show((c.fmod 2147483647+1)*742938285).fmod 2147483647<_;omega⟩
abbrev Hg:List Dat->Option (List Dat):=fun ds=>match ds with|[.int c]=>some (rD ((c.natAbs:Int),((c.fmod 2147483647+1)*742938285).fmod 2147483647))|_=>none
def DV:List Dat->Option Dat:=open Classical in fun ds=>if ∃ns:List Int,ds=[.list (ns.map .int)]/\ns.length<=63 then some (.bool true)else none
theorem LK(cs:List Int)(h:cs.length<=63):kqdOk 9 (.list (cs.map .int))=true:=by
 show(cs.map Dat.int).all (kqdOk 8)=true;rw[all_map,all_eq_true];exact fun x _=>rfl
theorem KW{d:Dat}{I:aG->Prop}(h:gt d=some as)(h2:∃ah,gb (setG Γ as)=some (.nx ah)/\I ah):∃as ah,gt d=some as/\gb (setG Γ as)=some (.nx ah)/\I ah:=⟨as,h2.choose,h,h2.choose_spec⟩
theorem C9{c:Nat}:∀(os:List FM.Ol) (s:cL×cL),(∀o∈os,jw c 1 o)->jD (c+c) s.1/\jD (c+c) s.2->jD (c+c) (os.foldl dP s).1/\jD (c+c) (os.foldl dP s).2
 |[],s,_,h=>h
 |o::os,s,ho,h=>by
  rw[foldl_cons];refine C9 os _ (fun q hq=>ho q (mem_cons_of_mem _ hq)) ?_;by_cases c0:b9 o=0
  ·have es:dP s o=s:=if_pos c0;rw[es];exact h
  ·have es:dP s o=(if(o.1=.eq\/b9 o<0)/\lU s.1 (cE o) (fK o.1)=true then some (cE o,fK o.1)else s.1,if(o.1=.eq\/0<b9 o)/\ly s.2 (cE o) (fK o.1)=true then some (cE o,fK o.1)else s.2):=if_neg c0;have se:=Ac (ho o mem_cons_self) c0;rw[es];refine⟨fun v m e=>?_,fun v m e=>?_⟩
   ·dsimp only at e;split at e
    ·cases e;exact se
    ·exact h.1 v m e
   ·dsimp only at e;split at e
    ·cases e;exact se
    ·exact h.2 v m e
theorem M3(ho:∀o∈os,jw c 1 o):∀s,fN os=some s->jD (c+c) s.1/\jD (c+c) s.2:=fun s hs=>by
 unfold fN at hs;split at hs
 ·cases hs
 ·split at hs
  ·cases hs
  ·cases hs;exact C9 os _ ho ⟨(fun v m e=>by cases e),(fun v m e=>by cases e)⟩
theorem QD(h:jw 100 1 o):wG 100 200 1 o:=by
 refine⟨h.1,h.2.1,h.2.2,?_⟩;obtain⟨hp,sa⟩:=j8 h;rw[hp];show(b9 o).den*1*o.2.2.den<2^200;rw[mul_one];exact Fq sa.ld h.2.2.ld
theorem Pw(hl:o.2.1.length=1)(hs:∀q∈o.2.1,SR 100 q)(gY:∀q∈os,jw 100 1 q)(hk:os.length<=12):o7 100 200 o.2.1 os:=by
 have e0:FM.bt (100+200) 0=300:=rfl;have e1:FM.bt (100+200) 1=601:=rfl;have ex:xj (FM.bt (100+200)) 1 (601+601+3+1)=3015:=rfl;refine⟨⟨⟨by decide,by decide,by decide,by rw[hl];decide,by omega,by rw[hl,e1];decide,?_,?_⟩,hs,?_,fun q hq=>by rw[hl];exact QD (gY q hq)⟩,?_,?_,?_⟩
 ·rw[hl];show os.length+1+(os.length+1)*(os.length+1)/4<sizeLine;have:(os.length+1)*(os.length+1)<=13*13:=mul_le_mul (by omega) (by omega);have:(os.length+1)*(os.length+1)/4<=13*13/4:=Nat.div_le_div_right this;exact lt_of_lt_of_le (show os.length+1+(os.length+1)*(os.length+1)/4<1000 by omega) (sz (by decide))
 ·rw[hl];show 300+(601+601+3+1)<=1900/\True;exact⟨by decide,trivial⟩
 ·match hp:o.2.1,hl with
  |[a],_=>
   show a.den*1<2^200;rw[mul_one];exact dM (hs a (by rw[hp];exact mem_singleton.mpr rfl)).ld (by decide)
 ·rw[hl];show(601+601+1)+(601+601)+(100+1)*(os.length+1)<=3900;omega
 ·rw[hl];show 1+1*(100+xj (FM.bt (100+200)) 1 (601+601+3+1)+1)<=3900;rw[ex];decide
 ·rw[hl];show 100+xj (FM.bt (100+200)) 1 (601+601+3+1)<=3900;rw[ex];decide
theorem NQ(h:(if(q.den:Int)>(q.num.natAbs:Int)then(q.den:Int)else(q.num.natAbs:Int))<10^30):SR 100 q:=by
 have hb:(10:Nat)^30<2^100:=by decide
 split at h
 ·exact⟨lt_trans (show q.num.natAbs<10^30 by omega) hb,lt_trans (show q.den<10^30 by omega) hb⟩
 ·exact⟨lt_trans (show q.num.natAbs<10^30 by omega) hb,lt_trans (show q.den<10^30 by omega) hb⟩
def qX (g:Bool) (c:Int):FM.Ol:=(vZ (uw c) g).choose
theorem BI(g:Bool)(c:Int):(∃r',kS (rD (oE c)) [.int 1,.bool g]=some (aq (qX g c),rD r'))/\jw 100 1 (qX g c):=by
 obtain⟨r',h1,h2,h3⟩:=(vZ (uw c) g).choose_spec;exact⟨⟨r',h1⟩,h3⟩
theorem Mv{m:Nat}:(L3.cutD ds (some 1) (some (1+(m:Int)))).length<=m:=by
 unfold L3.cutD;have e:(1+(m:Int))=((1+m:Nat):Int):=by omega
 have e1:(1:Int)=((1:Nat):Int):=rfl;rw[e,e1,HT.mB,HT.mB,length_take,length_drop];omega
theorem OX{g1 g2:aG->Option Fl}{Γ1:aG}{I:aG->Prop}(h:g1 Γ=some (.nx Γ1))(h2:∃ah,g2 Γ1=some (.nx ah)/\I ah):∃ah,dE g1 g2 Γ=some (.nx ah)/\I ah:=by
 obtain⟨ah,e,i⟩:=h2;exact⟨ah,by rw[ao h];exact e,i⟩
abbrev pC:FM.Ol:=(.le,[1],((30:Int):Rat))
abbrev pB:FM.Ol:=(.lt,[((-1:Int):Rat)],((30:Int):Rat))
theorem NK:∀o∈[pC,pB],jw 100 1 o:=fun o ho=>by
 have Rq:SR 100 ((30:Int):Rat):=B2 (by decide) (by decide);have Vt:SR 100 ((-1:Int):Rat):=B2 (by decide) (by decide);rcases mem_cons.mp ho with e|e
 ·rw[e];exact⟨rfl,fun q hq=>by rw[mem_singleton.mp hq];exact uh (by decide),Rq⟩
 ·rw[mem_singleton.mp e];exact⟨rfl,fun q hq=>by rw[mem_singleton.mp hq];exact Vt,Rq⟩
theorem Py(a b:List FM.Ol)(h:a.length+b.length<=1000):pY (.list (a.map aq)) (.list (b.map aq))=some (.list ((a++b).map aq)):=by
 show(if(a.map aq).length+(b.map aq).length<=sizeLine then some (Dat.list (a.map aq++b.map aq))else none)=_;rw[if_pos (by rw[length_map,length_map];exact sz h),map_append]
variable {f:Addr} {fd:FuncData}
theorem R6(T:TX mg){Fc Ff Fd:List Dat->Option Dat}{Fa:List Dat->List Dat->Option (Dat×List Dat)}(E1:Dn P w K mg base 11 "_law_cell_at" ["script","k"] 2 Fc)(hC:∀ns:List Int,∃c:Int,Fc [.list (ns.map .int),.int 0]=some (.int c))(wI:y0 P w K mg base 11 "_law_reel" ["cell"] 1 Hg)(eh:jS P w K mg base 11 "_law_take" ["reel","many"] 2 jR)(wK:jS P w K mg base 11 "_law_line" ["reel","many","great"] 3 kS)(MA:Dn P w K mg base 11 "_law_ends" ["others"] 1 Fe)(hE:Tj Fe)(Jk:jS P w K mg base 11 "_law_asked" ["reel","ends"] 2 Fa)(hA:TL Fa)(Jm:Dn P w K mg base 11 "follows" ["line","others"] 2 Ff)(hF:Th Ff)(Mz:Dn P w K mg base 11 "_law_told" ["line","others","found"] 3 Ft)(hT:SK Ft)(PZ:Dn P w K mg base 11 "_law_due" ["line","ends"] 2 Fd)(hD:Tn Fd)(U:nZ K "law" "law" (top 66) f fd):
  gJ P w K mg base jy 12 f fd ["script"] (Eh K 1 DV):=by
 have nd:(["script","reel","great","cells","others","ends","rest","cell","line","found"]:List Str).Nodup:=by decide +kernel
 refine Nj U (N:=["script","reel","great","cells","others","ends","rest","cell","line","found"]) ⟨rfl,rfl,rfl,by decide +kernel,rfl,by decide +kernel,by decide +kernel⟩ rfl (fun bG A outer s H E hr=>
  (ae (mP 1 nd (tj wI hr (a6 (aw E1 hr (a6 (a5 0) (a6 a8 a9))) a9 (hs:=aW))))
  (ae (i5 2 nd (Ni hr (dU 1 eh hr (bB (bf a8) cv)) (bf a8)))
  (ae (i5 3 nd (CT (a5 0) a8 (vR (bf a8) (dU 1 eh hr (bB (bf a8) cv)))))
  (ae (nL 4 nd rfl (fB (tn:=["cell"]) (fv:=["great"]) (js:=[2]) rfl (by decide +kernel) (by decide +kernel) rfl (by decide +kernel) (by decide +kernel) rfl
   (fun x hx=>by((have f6:x="great":=(by simpa using hx));(rcases f6 with rfl<;>exact⟨_,rfl⟩)))
   (fun p hp=>by((have gA:p=(("great" : Str),(2:Nat)):=(by simpa using hp));(rcases gA with rfl<;>exact⟨rfl,.inr (.inl rfl),.inl rfl,fun z=>by cases z⟩)))) (a5 3) (fun _ _ _ _=>(aB 0 (show(["cell","great"]:List Str).Nodup by decide +kernel))) (fun _ _ _ _=>dh) (fun _ _ _ _=>(yP wK hr (tj wI hr (a6 (a5 0) a9)) (a6 a8 (a6 (a5 1) a9)) (he:=aW))) (dS rfl))
  (ae (HA (Lf hr (dU 1 eh hr (bB (bf a8) cv)) (bf a8)) (ag (az 4 nd (l9 (a5 4) (jl (gV (a6 (aS (k:=0) (a6 aT (a6 (aS (k:=0) (a6 (aS (k:=0) (a6 a8 (a6 a8 a9))) a9 (hs:=bS))) (a6 (aS (k:=0) (a6 a8 (a6 a8 a9))) a9 (hs:=bS)) (hs:=bS)))) (a6 (aS (k:=0) (a6 aT (a6 (aS (k:=0) (a6 (aS (k:=0) (a6 (dr a8) (a6 a8 a9) (hs:=gj))) a9 (hs:=bS))) (a6 (aS (k:=0) (a6 a8 (a6 a8 a9))) a9 (hs:=bS)) (hs:=bS)))) a9 (hs:=bS)) (hs:=bS))) lK (j5 (kf a8 (cI T.len (a6 (a5 4) a9)))))))) aH)
  (ae (az 5 nd (aw MA hr (a6 (a5 4) a9)))
  (ae (az 6 nd (jl (a5 0) (j5 (dX a8 (cI T.len (a6 (a5 3) a9)))) (j5 (dX a8 (cI T.len (a6 (a5 3) a9))))))
  (ae (aM (bV hr (a5 6) (gV a9)) (ag (az 6 nd (gV (a6 a8 (a6 a8 a9))))) aH)
  (ae (dF PassesOwn.never rfl (a5 6) (aB 7 nd)
  (ae (az 8 nd (yP Jk hr (tj wI hr (a6 (a5 7) a9)) (a6 (a5 5) a9) (he:=aW)))
  (ag (aM (kc (Lj rfl T.max (a6 (kg T.abs (a6 (af (af (a5 8) a8) a8) a9 (hs:=aD))) (a6 (af (af (a5 8) a8) a8) a9 (hs:=aD)) (hs:=aW))) (mD a8 a8)) (ae (az 9 nd (aw Jm hr (a6 (a5 8) (a6 (cS (qL T.list (a6 (a5 4) a9))) a9 (hs:=aW)))))
  (ag (aM (bO (c9 (cW (bb (aw Mz hr (a6 (a5 8) (a6 (a5 4) (a6 (a5 9) a9)))))) (cC (dm hr (fH hr (af (a5 9) a8) aT) (aw PZ hr (a6 (a5 8) (a6 (a5 5) a9))))))) (ag (ar cG)) aH))) aH))))
  (ag (ar cG)))))))))))) ?_
 intro ds d hl Km;unfold DV at Km;split at Km
 ·rename_i h;obtain⟨ns,rfl,h63⟩:=h;cases Km;have z0:0<=sizeLine:=zero_le _;have z1:1<=sizeLine:=sz (by decide);have z2:2<=sizeLine:=sz (by decide);have z3:3<=sizeLine:=sz (by decide);obtain⟨c0,Kw⟩:=hC ns;have hR:=uw c0;have f8:=dI (m:=8) hR (by decide) (by decide);have R1:=gP (m:=8) hR;generalize tk (oE c0) 8=t8 at f8;generalize tr (oE c0) 8=r1 at f8 R1;have Cb:=dI (m:=12) R1 (by decide) (by decide);have SD:=jj r1 (m:=12) (by decide);have R2:=gP (m:=12) R1;generalize tk r1 12=Rl at Cb SD;generalize tr r1 12=r2 at Cb R2;obtain⟨RG,rfl⟩:∃m:Nat,Rl=(m:Int):=⟨Rl.toNat,by omega⟩;obtain⟨cs,zS,sM⟩:=Ah ns (some 1) (some (1+(RG:Int)));have UK:cs.length<=11:=by
   have:=Mv (ds:=ns.map Dat.int) (m:=RG);rw[zS,length_map]at this;omega
  have f2:=dI (m:=2) R2 (by decide) (by decide);generalize tk r2 2=t2 at f2;generalize tr r2 2=r3 at f2;refine bP ?_;simp!;rw[ao (ah:=[some (.a7 (.list (ns.map .int))),some (.own (rD (oE c0))),none,none,none,none,none,none,none,none]) (by simp![Kw,oE])];rw[ao (ah:=[some (.a7 (.list (ns.map .int))),some (.own (rD r1)),some (.a7 (.bool (decide (t8=0)))),none,none,none,none,none,none,none]) (by simp![f8,cT])];generalize decide (t8=0)=g at *;rw[ao (ah:=[some (.a7 (.list (ns.map .int))),some (.own (rD r2)),some (.a7 (.bool g)),some (.a7 (.list (cs.map .int))),none,none,none,none,none,none]) (by simp![ON,nt,Cb,cw,zS])];have zc:cs.length<sizeLine:=lt_of_lt_of_le (show cs.length<1000 by omega) (sz (by decide));have ec:c8 (aName 0) gu (vc 3 kS (DB 1 Hg (ay (aA 0) bp)) (ay (fC (.int 1)) (ay (aA 1) bp))) [none,some (.bool g)] (cs.map .int)=some ((cs.map (qX g)).map aq):=by
   refine cZ _ _ (by rw[length_map,length_map,length_map]) fun i d o h1 h2=>?_;rw[getElem?_map]at h1 h2;rw[getElem?_map]at h2;cases hp:cs[i]? with
   |none=>rw[hp]at h1;cases h1
   |some c=>
    rw[hp]at h1 h2;cases h1;cases h2;refine⟨[(0,.int c)],rfl,?_⟩;obtain⟨⟨r',e⟩,_⟩:=BI g c;have e':kS [.int (oE c).1,.int (oE c).2] [.int 1,.bool g]=some (aq (qX g c),rD r'):=e;unfold oE at e';simp![vc,e']
  rw[ao (ah:=[some (.a7 (.list (ns.map .int))),some (.own (rD r2)),some (.a7 (.bool g)),some (.a7 (.list (cs.map .int))),some (.a7 (.list ((cs.map (qX g)).map aq))),none,none,none,none,none]) (by simp![nK,length_map,zc,ec])];have OA:∀o∈cs.map (qX g),jw 100 1 o:=fun o ho=>by
   obtain⟨c,_,rfl⟩:=mem_map.mp ho;exact(BI g c).2
  have hol0:(cs.map (qX g)).length<=11:=by rw[length_map];exact UK
  generalize cs.map (qX g)=uK at *;have key:∃os:List FM.Ol,os.length<=12/\(∀o∈os,jw 100 1 o)/\∀g2:aG->Option Fl,dE (CJ (v8 (L3.h2 cH (rz 1 2 jR (pR (kK (fC (.int 2))) tL)) (kK (fC (.int 0))))) (gU 4 (L3.f2 pY (aA 4) (ou (lr (ay (dH (ay (fC (.str "<=")) (ay (dH (ay (dH (ay (fC (.int 1)) (ay (fC (.int 1)) bp))) bp)) (ay (dH (ay (fC (.int 30)) (ay (fC (.int 1)) bp))) bp)))) (ay (dH (ay (fC (.str "<")) (ay (dH (ay (dH (ay (L3.f1 lb (fC (.int 1))) (ay (fC (.int 1)) bp))) bp)) (ay (dH (ay (fC (.int 30)) (ay (fC (.int 1)) bp))) bp)))) bp))) nN (mf (L3.f2 oj (fC (.int 12)) (fZ kI (ay (aA 4) bp))))))) ic) g2 [some (.a7 (.list (ns.map .int))),some (.own (rD r2)),some (.a7 (.bool g)),some (.a7 (.list (cs.map .int))),some (.a7 (.list (uK.map aq))),none,none,none,none,none]=g2 [some (.a7 (.list (ns.map .int))),some (.own (rD r3)),some (.a7 (.bool g)),some (.a7 (.list (cs.map .int))),some (.a7 (.list (os.map aq))),none,none,none,none,none]:=by
   by_cases ct:t2=0
   ·have lo:=ip aq uK;obtain⟨k,hk⟩:∃k:Nat,12-(uK.length:Int)=(k:Int):=⟨12-uK.length,by omega⟩;refine⟨uK++[pC,pB].take k,by rw[length_append,length_take];omega,fun o ho=>?_,fun g2=>?_⟩
    ·rcases mem_append.mp ho with h|h
     ·exact OA o h
     ·exact NK o (List.mem_of_mem_take h)
    ·have FT:xa (.list [aq pC,aq pB]) none (some (k:Int))=some (.list (([pC,pB].take k).map aq)):=by
      have Wf:1<=k:=by omega
      show some (Dat.list (L3.cutD ([pC,pB].map aq) none (some (k:Int))))=_;by_cases BR:k<=2
      ·rw[rH (by simpa using BR),map_take]
      ·unfold L3.cutD;rw[HT.mB,HT.t7,drop_zero,sub_zero,<- map_take];rw[List.take_of_length_le (by simp;omega),List.take_of_length_le (by simp;omega)]
     have ha:=Py uK ([pC,pB].take k) (by rw[length_take];omega);have d1:aq pC=.tuple [.str "<=",.tuple [.tuple [.int 1,.int 1]],.tuple [.int 30,.int 1]]:=rfl;have d2:aq pB=.tuple [.str "<",.tuple [.tuple [.int (-1),.int 1]],.tuple [.int 30,.int 1]]:=rfl;rw[d1,d2]at FT;generalize Dat.list (([pC,pB].take k).map aq)=dsl at *;generalize uK++[pC,pB].take k=VB at *;rw[ao (ah:=[some (.a7 (.list (ns.map .int))),some (.own (rD r3)),some (.a7 (.bool g)),some (.a7 (.list (cs.map .int))),some (.a7 (.list (VB.map aq))),none,none,none,none,none]) (by
      simp![f2,cT,eq_true ct,ou,mf,nN,nt,lo,d8,hk,z1,z2,z3,FT,ha])]
   ·exact⟨uK,by omega,OA,fun g2=>by rw[ao (ah:=[some (.a7 (.list (ns.map .int))),some (.own (rD r3)),some (.a7 (.bool g)),some (.a7 (.list (cs.map .int))),some (.a7 (.list (uK.map aq))),none,none,none,none,none]) (by simp![f2,cT,eq_false ct])]⟩
  obtain⟨os,UG,gY,hg⟩:=key;rw[hg];have ee:=hE 100 os (by decide) (by decide) gY;have S3:=M3 gY;rw[ao (ah:=[some (.a7 (.list (ns.map .int))),some (.own (rD r3)),some (.a7 (.bool g)),some (.a7 (.list (cs.map .int))),some (.a7 (.list (os.map aq))),some (.a7 (dR (fN os))),none,none,none,none]) (by dsimp![ee])];obtain⟨ms,W6,hml⟩:=Ah ns (some (1+(cs.length:Int))) (some (31+(cs.length:Int)));have lc:=ip Dat.int cs;have Xc:xa (.list (ns.map .int)) (some (1+(cs.length:Int))) (some (31+(cs.length:Int)))=some (.list (ms.map .int)):=by
   show some (Dat.list (L3.cutD (ns.map Dat.int) (some (1+(cs.length:Int))) (some (31+(cs.length:Int)))))=_;rw[W6]
  rw[ao (ah:=[some (.a7 (.list (ns.map .int))),some (.own (rD r3)),some (.a7 (.bool g)),some (.a7 (.list (cs.map .int))),some (.a7 (.list (os.map aq))),some (.a7 (dR (fN os))),some (.a7 (.list (ms.map .int))),none,none,none]) (by dsimp![ou,mf,nt,lc,cw,Xc])];have hc:∃qs:List Int,∀g2:aG->Option Fl,dE (kW (bc (L3.f2 cH (aA 6) (lr bp))) (gU 6 (lr (ay (fC (.int 3)) (ay (fC (.int 8)) bp)))) ic) g2 [some (.a7 (.list (ns.map .int))),some (.own (rD r3)),some (.a7 (.bool g)),some (.a7 (.list (cs.map .int))),some (.a7 (.list (os.map aq))),some (.a7 (dR (fN os))),some (.a7 (.list (ms.map .int))),none,none,none]=g2 [some (.a7 (.list (ns.map .int))),some (.own (rD r3)),some (.a7 (.bool g)),some (.a7 (.list (cs.map .int))),some (.a7 (.list (os.map aq))),some (.a7 (dR (fN os))),some (.a7 (.list (qs.map .int))),none,none,none]:=by
   cases ms with
   |nil=>exact⟨[3,8],fun g2=>by rw[ao (ah:=[some (.a7 (.list (ns.map .int))),some (.own (rD r3)),some (.a7 (.bool g)),some (.a7 (.list (cs.map .int))),some (.a7 (.list (os.map aq))),some (.a7 (dR (fN os))),some (.a7 (.list (([3,8]:List Int).map .int))),none,none,none]) (by dsimp![LZ,z0,z2])]⟩
   |cons c ms=>
    refine⟨c::ms,fun g2=>?_⟩;have en:=IL c ms (LK (c::ms) (by omega));rw[ao (ah:=[some (.a7 (.list (ns.map .int))),some (.own (rD r3)),some (.a7 (.bool g)),some (.a7 (.list (cs.map .int))),some (.a7 (.list (os.map aq))),some (.a7 (dR (fN os))),some (.a7 (.list ((c::ms).map .int))),none,none,none]) (by
     rw[map_cons]at en;dsimp![en,z0])]
  obtain⟨qs,hq⟩:=hc;rw[hq];generalize n6:fN os=en at *;refine gx (I:=fun Γ=>∃x7 x8 x9,Γ=[some (.a7 (.list (ns.map .int))),some (.own (rD r3)),some (.a7 (.bool g)),some (.a7 (.list (cs.map .int))),some (.a7 (.list (os.map aq))),some (.a7 (dR en)),some (.a7 (.list (qs.map .int))),x7,x8,x9]) (OU _ (d:=.list (qs.map .int)) (ds:=qs.map .int) rfl rfl ⟨_,_,_,rfl⟩ ?_) ?_
  ·rintro d hd Γ ⟨x7,x8,x9,rfl⟩;obtain⟨c,_,rfl⟩:=mem_map.mp hd;refine KW (as:=[(7,.int c)]) rfl ?_;dsimp!;obtain⟨o,r',eA,bw⟩:=hA (oE c) en (uw c) S3;have Sx:Fa [.int (oE c).1,.int (oE c).2] [dR en]=some (aq o,rD r'):=eA;unfold oE at Sx;refine OX (Γ1:=[some (.a7 (.list (ns.map .int))),some (.own (rD r3)),some (.a7 (.bool g)),some (.a7 (.list (cs.map .int))),some (.a7 (.list (os.map aq))),some (.a7 (dR en)),some (.a7 (.list (qs.map .int))),some (.a7 (.int c)),some (.a7 (aq o)),x9]) (by simp![vc,Sx]) ?_;have o2:aO (aq o) (.int 2)=some (qD o.2.2):=rfl;have em:maxD [.int (o.2.2.num.natAbs:Int),.int (o.2.2.den:Int)]=some (.int (if(o.2.2.den:Int)>(o.2.2.num.natAbs:Int)then(o.2.2.den:Int)else(o.2.2.num.natAbs:Int))):=rfl;by_cases cm:(if(o.2.2.den:Int)>(o.2.2.num.natAbs:Int)then(o.2.2.den:Int)else(o.2.2.num.natAbs:Int))<10^30
   ·have sb:=NQ cm;have Se:jw 100 1 o:=⟨bw.1,bw.2.1,sb⟩;have hB:=Pw bw.1 bw.2.1 gY UG;have S7:SR (bL 100 200 o.2.1.length) o.2.2:=by
     rw[bw.1];exact sb.up (by show 100<=601;decide)
    have eF:=hF 100 200 o os hB.ln S7;have eT:=hT 100 200 o os hB S7;have eD:=hD 100 o en (by decide) (by decide) Se S3;have zQ:ot o os=wy o en:=by
     have h1:=LV (o:=o) (os:=os) bw.1 fun q hq=>(gY q hq).1;have h2:=P2 (o:=o) (os:=os) (fun q hq=>(j8 (gY q hq)).1) (j8 Se).1;rw[n6]at h2;cases ha:ot o os with
     |true=>exact(h2.mpr (h1.mp ha)).symm
     |false=>
      cases hb:wy o en with
      |false=>rfl
      |true=>rw[h1.mpr (h2.mp hb)]at ha;cases ha
    have f0:=UW o os;have ek:cH (.str (if ot o os=true then "follows" else "breaks")) (.str "follows")=some (.bool (ot o os)):=by cases ot o os<;>rfl
    rw[<- zQ]at eD;have Xf:=Ii (ot o os);generalize xG o.1 o.2.1 o.2.2 os=fo at *;refine⟨[some (.a7 (.list (ns.map .int))),some (.own (rD r3)),some (.a7 (.bool g)),some (.a7 (.list (cs.map .int))),some (.a7 (.list (os.map aq))),some (.a7 (dR en)),some (.a7 (.list (qs.map .int))),some (.a7 (.int c)),some (.a7 (aq o)),some (.a7 (fo))],?_,_,_,_,rfl⟩;rw[gQ (by
     generalize (if(o.2.2.den:Int)>(o.2.2.num.natAbs:Int)then(o.2.2.den:Int)else(o.2.2.num.natAbs:Int))=mx at *;dsimp![o2,kY,xi,fX,em,CZ,cc,eq_true cm])]
    have li:uO [.list (os.map aq)]=some (os.map aq):=rfl;rw[ao (ah:=[some (.a7 (.list (ns.map .int))),some (.own (rD r3)),some (.a7 (.bool g)),some (.a7 (.list (cs.map .int))),some (.a7 (.list (os.map aq))),some (.a7 (dR en)),some (.a7 (.list (qs.map .int))),some (.a7 (.int c)),some (.a7 (aq o)),some (.a7 (fo))]) (by dsimp![li,eF])];dsimp![eT,f0,ek,eD,Xf]
   ·refine⟨[some (.a7 (.list (ns.map .int))),some (.own (rD r3)),some (.a7 (.bool g)),some (.a7 (.list (cs.map .int))),some (.a7 (.list (os.map aq))),some (.a7 (dR en)),some (.a7 (.list (qs.map .int))),some (.a7 (.int c)),some (.a7 (aq o)),x9],?_,_,_,_,rfl⟩;rw[iT (by
     generalize (if(o.2.2.den:Int)>(o.2.2.num.natAbs:Int)then(o.2.2.den:Int)else(o.2.2.num.natAbs:Int))=mx at *;dsimp![o2,kY,xi,fX,em,CZ,cc,eq_false cm])]
    rfl
  ·rintro ah ⟨x7,x8,x9,rfl⟩;simp![]
 ·cases Km
theorem all_mk{lw:PySem.W.OpenLaw}{h:Heap}{fa:Addr}{od an:Option Addr}{sl:Array (Option Value)}{oc kV dc pm cd ct:Value}(X:K.In h)(G:h.Ns mainGlobals mg)(Wj:mg "law"=some (.ref fa))(U1:FnAt K mg "common_divisor" (top 1) ["a","b"])(U2:FnAt K mg "make" (top 2) ["n","d"])(U3:FnAt K mg "plus" (top 3) ["a","b"])(U4:FnAt K mg "minus" (top 4) ["a","b"])(U5:FnAt K mg "times" (top 5) ["a","b"])(U6:FnAt K mg "over" (top 6) ["a","b"])(U7:FnAt K mg "below" (top 7) ["a","b"])(U8:FnAt K mg "lowered" (top 12) ["numbers"])(U9:FnAt K mg "whole_row" (top 13) ["kind","fractions"])(Yr:FnAt K mg "first_rows" (top 14) ["parts","others"])(Yq:FnAt K mg "mixed" (top 15) ["one","much","other","more"])(Yp:FnAt K mg "equal_row" (top 16) ["rows","place"])(Yo:FnAt K mg "without" (top 17) ["row","equal","place"])(Yn:FnAt K mg "joined" (top 18) ["upper","lower","place"])(Ym:FnAt K mg "drawn_on" (top 19) ["one","other","weighed"])(Yl:FnAt K mg "paired" (top 20) ["rows","place","weighed","most"])(Yk:FnAt K mg "stages_of" (top 21) ["parts","others"])(Yj:FnAt K mg "left_over" (top 22) ["row","point"])(Yi:FnAt K mg "tightest" (top 23) ["rows","place","point","way"])(Yh:FnAt K mg "end_of" (top 24) ["stages","way"])(Yg:FnAt K mg "upper_end" (top 25) ["stages"])(Yf:FnAt K mg "opposite_end" (top 26) ["stages"])(Ye:FnAt K mg "is_never" (top 27) ["kind","bound"])(Yd:FnAt K mg "never_by_a_row" (top 28) ["stages"])(Yc:FnAt K mg "never_by_ends" (top 29) ["stages"])(Yb:FnAt K mg "never" (top 30) ["stages"])(Ya:FnAt K mg "number_of" (top 31) ["end"])(Y9:FnAt K mg "turned_number_of" (top 32) ["end"])(Y8:FnAt K mg "between" (top 33) ["least","greatest"])(Y7:FnAt K mg "point_of" (top 34) ["stages","number"])(Y6:FnAt K mg "point_beyond" (top 35) ["stages","bound"])(Y5:FnAt K mg "halves" (top 38) ["line"])(Y0:FnAt K mg "is_kept" (top 39) ["line","kind","bound"])(XZ:FnAt K mg "half_follows" (top 40) ["line","others"])(XY:FnAt K mg "follows" (top 41) ["line","others"])(XX:FnAt K mg "_law_cell_at" (top 43) ["script","k"])(XW:FnAt K mg "_law_reel" (top 44) ["cell"])(XU:FnAt K mg "_law_take" (top 45) ["reel","many"])(XT:FnAt K mg "_law_make" (top 46) ["n","d"])(XS:FnAt K mg "_law_plus" (top 47) ["a","b"])(XR:FnAt K mg "_law_times" (top 48) ["a","b"])(XQ:FnAt K mg "_law_below" (top 49) ["a","b"])(XO:FnAt K mg "_law_is_fraction" (top 50) ["found"])(XN:FnAt K mg "_law_are_fractions" (top 51) ["found","many"])(XM:FnAt K mg "_law_fraction" (top 52) ["reel","great"])(XJ:FnAt K mg "_law_line" (top 53) ["reel","many","great"])(XI:FnAt K mg "_law_together" (top 54) ["others","weights","many"])(XH:FnAt K mg "_law_right" (top 55) ["kind","parts","bound","others","weights"])(XG:FnAt K mg "_law_turned" (top 56) ["parts","bound"])(XF:FnAt K mg "_law_paper_shows" (top 57) ["line","others","paper"])(XE:FnAt K mg "_law_told" (top 58) ["line","others","found"])(XD:FnAt K mg "_law_sum" (top 59) ["parts","point"])(XC:FnAt K mg "_law_holds" (top 60) ["line","point"])(XB:FnAt K mg "_law_edge" (top 61) ["line"])(XA:FnAt K mg "_law_ends" (top 62) ["others"])(Xz:FnAt K mg "_law_is_within" (top 63) ["kind","end","edge"])(Xy:FnAt K mg "_law_due" (top 64) ["line","ends"])(Xx:FnAt K mg "_law_asked" (top 65) ["reel","ends"])(Y1:∃a,TC K mg "ZERO_elimination" [.int (0),.int (1)] a)(Y2:∃a,TC K mg "ONE" [.int (1),.int (1)] a)(Y3:∃a,TC K mg "TWO" [.int (2),.int (1)] a)(Y4:∃a,TC K mg "ZERO_follows" [.int (0),.int (1)] a)(a:nsIn K mainGlobals "law"=some (some (.ref f)))(l:K.lookup f=some ⟨oc,od,.func (fnOf "law" "law" (kv (top 66)) (dw (top 66)) (ba (top 66)) .none kV dc pm an cd ct),sl⟩)(c:codeIn K cd "law"=true)(k:keepIn K (.ref f)=true)(T:TX mg)
  : ∃fd:FuncData,(∀(s:Shared) (v:Value),BindsTo s fd ⟨[v],[]⟩ [("script",v)])/\∀base:Heap,K.In base->base.Ns mainGlobals mg->gJ lw.prog w K mg base jy 100 fa fd ["script"] (yc K):=by
 have e:=Wj.symm.trans (mg_of X G a);cases e;obtain⟨_,Z1⟩:=Y1;obtain⟨_,Z2⟩:=Y2;obtain⟨_,Z3⟩:=Y3;obtain⟨_,Z4⟩:=Y4;refine⟨fnOf "law" "law" (kv (top 66)) (dw (top 66)) (ba (top 66)) .none kV dc pm an cd ct,fun s v=>.of_eq rfl,fun base _ _=>?_⟩;have UL:=A1 (st:=top 66) l c k;have D1:=V3 (P:=lw.prog) (w:=w) (base:=base) T U1;have D2:=Pg T D1 U2;have D3:=Pd T D2 U3;have D4:=Mh T D2 U4;have D5:=M9 T D2 U5;have D6:=Pe T D2 U6;have D7:=Mt T D2 U7;obtain⟨G8,D8,UR⟩:=GI T D1 U8;obtain⟨G9,D9,Wv⟩:=M7 T D1 U9;obtain⟨G10,Zb,WX⟩:=Mp T Z1 Z2 (D9.up (by decide)) Wv (D4.up (by decide)) Yr;obtain⟨G11,TB,OO⟩:=Mg T D8 UR Yq;obtain⟨G12,Za,WZ⟩:=Mq (P:=lw.prog) (w:=w) (base:=base) T Yp;obtain⟨G13,Z9,Wt⟩:=GF T TB OO Yo;obtain⟨G14,Z8,WR⟩:=J3 T TB OO Yn;obtain⟨G15,Z7,X1⟩:=Ms (P:=lw.prog) (w:=w) (base:=base) T Ym;obtain⟨G16,Z6,WI⟩:=IW T (Z7.up (by decide)) X1 (Z8.up (by decide)) WR Yl;obtain⟨G17,Z5,WA⟩:=IV T (Zb.up (by decide)) WX (Za.up (by decide)) WZ (Z6.up (by decide)) WI (Z9.up (by decide)) Wt Yk;obtain⟨G18,Z0,WN⟩:=Pm T (D4.up (by decide)) (D5.up (by decide)) Yj;obtain⟨G19,Tz,S9⟩:=Ma T (Z0.up (by decide)) WN (D6.up (by decide)) (D7.up (by decide)) (D2.up (by decide)) Yi;obtain⟨G20,Tx,Sh⟩:=Mr T Z1 (Tz.up (by decide)) S9 Yh;obtain⟨YA,Q3,UM⟩:=M8 T (Tx.up (by decide)) Yg;obtain⟨Yz,Tw,UQ⟩:=Pf T (Tx.up (by decide)) Yf;have OL:Ar 1 YA:=fun b n m Ls rows h1 h2 h3 h4 h5 h6 h7 h8=>UM _ _ (Sh b n m Ls rows 1 (.inl rfl) h1 h2 h3 h4 h5 h6 h7 (by omega)).1;have Sb:Ar (-1) Yz:=fun b n m Ls rows h1 h2 h3 h4 h5 h6 h7 h8=>UQ _ _ (Sh b n m Ls rows (-1) (.inr rfl) h1 h2 h3 h4 h5 h6 h7 (by omega)).1;obtain⟨G23,Tv,hIn⟩:=GJ T Z1 (D7.up (by decide)) Ye;obtain⟨G24,YZ,WM⟩:=Mf T (Tv.up (by decide)) hIn Yd;obtain⟨G25,YY,WL⟩:=IX T (Q3.up (by decide)) OL (Tw.up (by decide)) Sb (Tv.up (by decide)) hIn (D3.up (by decide)) Yc;obtain⟨G26,YX,WK⟩:=Me T (YZ.up (by decide)) WM (YY.up (by decide)) WL Yb;obtain⟨G27,Tu,Sd⟩:=Mc (P:=lw.prog) (w:=w) (base:=base) T Ya;obtain⟨G28,Tt,S8⟩:=IU T Z1 (D4.up (by decide)) Y9;obtain⟨G29,Ts,xD⟩:=GL T Z1 Z2 Z3 (D3.up (by decide)) (D4.up (by decide)) (D6.up (by decide)) Y8;obtain⟨G30,YW,WE⟩:=Mb T Z1 (Tz.up (by decide)) S9 (Tt.up (by decide)) S8 (Tu.up (by decide)) Sd (Ts.up (by decide)) xD Y7;obtain⟨G31,YV,WH⟩:=J5 T (Q3.up (by decide)) OL (Tw.up (by decide)) Sb (Tt.up (by decide)) S8 (Tu.up (by decide)) Sd (Ts.up (by decide)) xD (D7.up (by decide)) (YW.up (by decide)) WE Y6;obtain⟨G32,YU,WU⟩:=J4 T Z4 (D4.up (by decide)) Y5;obtain⟨G33,YT,WS⟩:=R7 T (D7.up (by decide)) Y0;obtain⟨G34,YS,WV⟩:=Pq T (Z5.up (by decide)) WA (YX.up (by decide)) WK (Q3.up (by decide)) OL (YT.up (by decide)) WS (YV.up (by decide)) WH XZ
 obtain⟨G35,YR,WW⟩:=GK T (YS.up (by decide)) WV (YU.up (by decide)) WU XY;obtain⟨G36,YQ,X2⟩:=Mo (P:=lw.prog) (w:=w) (base:=base) T XX;have YO:=Pc (P:=lw.prog) (w:=w) (base:=base) T XW;have KR:=Pa (P:=lw.prog) (w:=w) (base:=base) T XU;have Hl:=Ml (P:=lw.prog) (w:=w) (base:=base) T XT;have Q2:=Mk T Hl XS;have KQ:=IY T Hl XR;have KP:=J1 (P:=lw.prog) (w:=w) (base:=base) T XQ;obtain⟨G43,YN,WT⟩:=Pk T Hl XO;obtain⟨G44,Tr,Sn⟩:=Po T YN WT XN;have YM:=Pr T KR Hl XM;have Tq:=Pl T (KR.up (by decide)) YM XJ;obtain⟨G47,YL,OM⟩:=Ph T Q2 KQ XI;obtain⟨G48,YK,WC⟩:=IZ T YL OM (KP.up (by decide)) XH;obtain⟨G49,YJ,Wx⟩:=GH (P:=lw.prog) (w:=w) (base:=base) T XG;obtain⟨G50,YI,WG⟩:=Mj T (Tr.up (by decide)) Sn (YK.up (by decide)) WC (YJ.up (by decide)) Wx XF;obtain⟨G52,YG,Wz⟩:=Pj T Q2 KQ XD;obtain⟨G53,Q1,OP⟩:=J0 T YG Wz (KP.up (by decide)) XC;obtain⟨G51,YH,UN⟩:=Mi T YI (Tr.up (by decide)) Sn (Q1.up (by decide)) XE;have Wy:=KY WG OP UN;obtain⟨G54,Tp,Si⟩:=Mn T KQ (Hl.up (by decide)) XB;obtain⟨G55,YF,WY⟩:=Mm T (Q1.up (by decide)) OP (Tp.up (by decide)) Si (KP.up (by decide)) XA;obtain⟨G56,YE,Wu⟩:=GG T KP Xz;obtain⟨G57,YD,X0⟩:=Pn T (Q1.up (by decide)) OP (Tp.up (by decide)) Si (YE.up (by decide)) Wu Xy;obtain⟨G58,YC,X6⟩:=J2 T (Tq.up (by decide)) (KR.up (by decide)) (KQ.up (by decide)) (Q2.up (by decide)) Xx;have DL:=R6 T (YQ.up (by decide)) X2 (YO.up (by decide)) (KR.up (by decide)) (Tq.up (by decide)) (YF.up (by decide)) WY (YC.up (by decide)) X6 (YR.up (by decide)) WW (YH.up (by decide)) Wy (YD.up (by decide)) X0 UL;exact(O6 DL fun ns hl=>by unfold DV;exact if_pos ⟨ns,rfl,hl⟩).mono (by decide)
end
end K19
namespace PySem.W.Fast
def tw11473855607135352177:=0
def tw11452051823205269213:=0
def tw13227535590852567424:=0
def tw15123714281171137272:=0
def tw5503611966170945598:=0
def tw7978993480612692397:=0
def tw6451931234486510816:=0
def tw13471602213858478154:=0
def tw13267886869197865218:=0
def tw2071926879539075521:=0
def tw16810227203420116078:=0
def tw7856875955892273942:=0
def tw14303789434191391665:=0
def tw17239067039915627676:=0
def tw15601526840753647613:=0
def tw359539117441651315:=0
def tw12143658053689117795:=0
def tw13421716646970128762:=0
def tw9397364875486824640:=0
def tw10307780306298045051:=0
def tw7977534209697423462:=0
def tw10971988467075295942:=0
def tw4884562664632450069:=0
def tw15947648629620024499:=0
def tw2319738848215549739:=0
def tw7496764774676141523:=0
def tw4375473332358178319:=0
def tw10538176122699754670:=0
def tw10707349551279717389:=0
def tw15473749903199089956:=0
def tw13516687276403941232:=0
def tw15067800839769151502:=0
def tw15990545526518511441:=0
def tw477992732730851291:=0
def tw17816744145936495468:=0
def tw3782964691312557019:=0
def tw4619665540019623776:=0
def tw17678554644474487759:=0
def tw6207533390790006468:=0
def tw11347791723041737241:=0
def tw17594709475112606500:=0
def tw6091925010665023301:=0
def tw12313305457535344448:=0
def tw4333853966844460852:=0
def tw5942179880576284456:=0
def tw11798920431259351553:=0
def tw3345130446179061514:=0
def tw9741663629280940539:=0
def tw14776657091221538040:=0
def tw12995543849596852040:=0
def tw8952927418377790426:=0
def tw9291353647284511762:=0
def tw2994748852619375687:=0
def tw4895635920822185645:=0
def tw16725397275451838882:=0
def tw7441758000364851806:=0
def tw12921139470758565086:=0
def tw5342901773263234453:=0
end PySem.W.Fast
open PySem PySem.W PyProof.Rows
local macro_rules | `(tactic| simp_all!) => `(tactic| (refine' L3.UX (by assumption) (by assumption) ?a ?l ?c ?k ?b; (case a => k_is); (case l => k_is); (case c => k_is); (case k => k_is); (case b => intro _ _ _ _ _ _ us hl; rcases us with _ | ⟨_, _ | ⟨_, _ | ⟨_, _ | ⟨_, _ | ⟨_, _ | ⟨_, _⟩⟩⟩⟩⟩⟩ <;> first | rfl | cases hl)))
set_option maxRecDepth 100000 in
set_option maxHeartbeats 0 in
theorem PySem.Challenge.cw_stepjudge_k19_one_unknown_holds : PySem.Challenge.rw_stepjudge_k19_one_unknown.Holds := by
 w_on;o_law;k_head;(case hw=>w_witness2)
 k_fill
 refine L3.Qc (k:=1) (by decide) (l:=PySem.Challenge.rw_stepjudge_k19_one_unknown) rfl rfl (fun w h Y=>PySem.W.kIn_of Y) ?F;case F=>
  intro w mg fa h KX G FX;refine' K19.all_mk KX G FX ?u1 ?u2 ?u3 ?u4 ?u5 ?u6 ?u7 ?u8 ?u9 ?u10 ?u11 ?u12 ?u13 ?u14 ?u15 ?u16 ?u17 ?u18 ?u19 ?u20 ?u21 ?u22 ?u23 ?u24 ?u25 ?u26 ?u27 ?u28 ?u29 ?u30 ?u31 ?u32 ?u33 ?u34 ?u35 ?u36 ?u37 ?u38 ?u39 ?u40 ?u41 ?u42 ?u43 ?u44 ?u45 ?u46 ?u47 ?u48 ?u49 ?u50 ?u51 ?u52 ?u53 ?u54 ?u55 ?u56 ?u57 ?u58 ?t1 ?t2 ?t3 ?t4 ?a ?l ?c ?k ⟨mg_none_of KX G ?z1,mg_none_of KX G ?z2,mg_none_of KX G ?z3,mg_none_of KX G ?z4,mg_none_of KX G ?z5,mg_none_of KX G ?z6,mg_none_of KX G ?z7,mg_none_of KX G ?z8,mg_none_of KX G ?z9,mg_none_of KX G ?z10,mg_none_of KX G ?z11,mg_none_of KX G ?z12,mg_none_of KX G ?z13⟩
  case u1|u2|u3|u4|u5|u6|u7|u8|u9|u10|u11|u12|u13|u14|u15|u16|u17|u18|u19|u20|u21|u22|u23|u24|u25|u26|u27|u28|u29|u30|u31|u32|u33|u34|u35|u36|u37|u38|u39|u40|u41|u42|u43|u44|u45|u46|u47|u48|u49|u50|u51|u52|u53|u54|u55|u56|u57|u58=>simp_all!
  case t1|t2|t3|t4=>refine' L3.y9 KX G ?ta ?tl;(case ta=>k_is);(case tl=>k_is)
  case a|l|c|k=>k_is
  case z1|z2|z3|z4|z5|z6|z7|z8|z9|z10|z11|z12|z13=>k_is
