import PyProof.Rows.All
import Wide.All
import OpenK.AllK
import Wide.FinOn
import Lean
import PyProof.EqAt
import PyProof.EqKinds
import PyProof.TupleCall
import KE.KDictList
import OpenK.XHead
import PySem.Challenge.RW_stepjudge_k18_whole_either_paper_or_poin
open PySem.W (methodObj Frag keepIn fnOf codeIn kia_one nsIn mg_of ns_none_of mg_none_of)
open PySem.Heap (lt_size SameBut get?_push_of_some get?_push_size size_push IsTuple IsList)
open Nat (lt_of_lt_of_le lt_irrefl ne_of_lt le_trans mul_one le_refl succ_mul add_comm le_of_eq lt_of_le_of_lt lt_trans zero_le le_add_right zero_add min_self mul_le_mul_left dvd_trans one_mul lcm sub_zero add_le_add mul_le_mul le_of_dvd add_sub_cancel reduceAdd reduceSub reduceEqDiff reduceLeDiff pow_add pow_le_pow_right pow_pos one_lt_two_pow mul_add)
open List (mem_filter mem_cons_self mem_cons_of_mem mem_cons append_assoc mem_append mem_append_left getElem?_set_self getElem?_set_ne mem_append_right size_toArray append_nil nodup_cons of_mem_zip length_take getElem?_append_right getElem?_replicate getElem?_append_left getElem?_map mem_of_getElem? length_append length_map length_replicate length_drop length_set all_cons any_cons replicate_succ flatten_cons foldl foldl_cons length_singleton nil_append map_nil map_cons getElem?_cons_succ getElem?_cons_zero drop_zero drop_eq_nil_of_le length_range getElem?_eq_getElem not_mem_nil mem_map cons_append length_cons zip_cons_cons all_map all_eq_true map_map length_zip map_congr_left map_append mem_singleton zipWith getD_eq_getElem?_getD length_zipWith range_succ mem_of_find?_eq_some find?_some filter_cons length_filter_le length_nil range' set_cons_zero set_cons_succ foldl_nil isEmpty mem_replicate map_drop map_take)
open Rat (le_of_lt mkRat_self intCast_mul inv_pos mul_eq_zero)
open Array (length_toList toList forIn_toList)
open Int (ne_of_gt toNat_natCast mul_comm gcd gcd_dvd_left gcd_dvd_right natAbs_mul mul_zero natAbs_natCast mul_ne_zero mul_pos natAbs_neg)
open Bool (and_eq_true eq_false_iff or_eq_true false_eq_true)
open Option (map_some map_none bind_none)
set_option Elab.async false
set_option linter.all false
set_option maxRecDepth 100000
namespace L2
noncomputable section
open PySem PySem.Spec PyProof.Rows
abbrev Key:=Sum Int Str
def JL:Key->Value->Bool
 | .inl k,v=>Value.isInt k v
 | .inr x,v=>Value.isStrOf x v
def U3 (w:World):Key->Int
 | .inl k=>hashInt k
 | .inr x=>hashStr w x
theorem dY:∀{k:Key} {v:Value},JL k v=true->(∃i t,k=Sum.inl i/\v=Value.int i t)\/(∃x t,k=Sum.inr x/\v=Value.str x t)
 | .inl i,v,h=>by
  obtain⟨t,e⟩:=Value.isInt_shape (k:=i) (v:=v) h;exact .inl ⟨i,t,rfl,e⟩
 | .inr x,v,h=>by
  obtain⟨t,e⟩:=Value.isStrOf_shape (x:=x) (v:=v) h;exact .inr ⟨x,t,rfl,e⟩
theorem NN(a b:Int):decide ((Sum.inl a:Key)=Sum.inl b)=(a==b):=by
 by_cases e:a=b
 ·subst e;simp
 ·have h:¬(Sum.inl a:Key)=Sum.inl b:=fun q=>e (Sum.inl.inj q);rw[decide_eq_false h];exact(beq_eq_false_iff_ne.mpr e).symm
theorem NK(a b:Str):decide ((Sum.inr a:Key)=Sum.inr b)=decide (a=b):=by
 by_cases e:a=b
 ·subst e;simp
 ·have h:¬(Sum.inr a:Key)=Sum.inr b:=fun q=>e (Sum.inr.inj q);rw[decide_eq_false h,decide_eq_false e]
theorem NM(a:Int)(b:Str):decide ((Sum.inl a:Key)=Sum.inr b)=false:=decide_eq_false (fun q=>nomatch q)
theorem NL(a:Str)(b:Int):decide ((Sum.inr a:Key)=Sum.inl b)=false:=decide_eq_false (fun q=>nomatch q)
def vh (prog:Program) (w:World):PySem.KeyKind prog w Key where
 is:=JL
 hash:=U3 w
 inj:=fun v a b ha hb=>by
  rcases dY ha with⟨i,t,rfl,rfl⟩|⟨x,t,rfl,rfl⟩
  ·rcases dY hb with⟨j,u,rfl,e⟩|⟨y,u,rfl,e⟩
   ·injection e with e1 _;rw[e1]
   ·exact nomatch e
  ·rcases dY hb with⟨j,u,rfl,e⟩|⟨y,u,rfl,e⟩
   ·exact nomatch e
   ·injection e with e1 _;rw[e1]
 byValue:=fun k v h=>by
  rcases dY h with⟨i,t,rfl,rfl⟩|⟨x,t,rfl,rfl⟩<;>rfl
 pyHash:=fun hv h=>by
  rcases dY hv with⟨i,t,rfl,rfl⟩|⟨x,t,rfl,rfl⟩
  ·exact wpAny_pyHash_int h
  ·exact wpAny_pyHash_str h
 eqBool:=fun hu hv h=>by
  rcases dY hu with⟨i,t,rfl,rfl⟩|⟨x,t,rfl,rfl⟩
  ·rcases dY hv with⟨j,u,rfl,rfl⟩|⟨y,u,rfl,rfl⟩
   ·rw[NN]at h;exact wpAny_eqBool_int h
   ·rw[NM]at h;exact SeqAt.EqAt.int_str i t y u _ _ _ _ h
  ·rcases dY hv with⟨j,u,rfl,rfl⟩|⟨y,u,rfl,rfl⟩
   ·rw[NL]at h;exact SeqAt.EqAt.str_int x t j u _ _ _ _ h
   ·rw[NK]at h;exact wpAny_eqBool_str h
 «strs»:=fun k x t v h=>by
  rcases dY h with⟨i,u,rfl,e⟩|⟨y,u,rfl,e⟩
  ·exact nomatch e
  ·injection e with e1 _;subst e1;cases v<;>rfl
open PySem PySem.Spec PyProof.Rows
inductive V where
 |bM|bl (b:Bool)|int (i:Int)|str (x:Str)|mC (b:Array UInt8)|Ox (b:UInt64)|ref (a:Addr)|ty (n:String)
 deriving DecidableEq
def RelV:V->Value->Prop
 | .bM,u=>u=Value.none
 | .bl b,u=>u=Value.bool b
 | .int i,u=>∃t,u=Value.int i t
 | .str x,u=>∃t,u=Value.str x t
 | .mC b,u=>∃t,u=Value.bytes b t
 | .Ox b,u=>∃t,u=Value.float b t
 | .ref a,u=>u=Value.ref a
 | .ty n,u=>u=Value.type n
abbrev Vals:List V->List Value->Prop:=Paired RelV
variable {xs:List V} {us:List Value}
theorem Vals.length(r:Vals xs us):xs.length=us.length:=Paired.length r
theorem Vals.get:∀{xs:List V} {us:List Value} {i:Nat} {x:V},Vals xs us->xs[i]?=some x->∃u,us[i]?=some u/\RelV x u
 |_,_,_,_,.nil,e=>by simp at e
 |_,_,0,_,.cons r _,e=>by simp at e;subst e;exact⟨_,rfl,r⟩
 |_,_,i+1,x,.cons _ t,e=>by
  obtain⟨u,h1,h2⟩:=Vals.get (i:=i) (x:=x) t (by simpa using e);exact⟨u,by simpa using h1,h2⟩
theorem Vals.set{x:V}{u:Value}(r:RelV x u):∀{xs:List V} {us:List Value} (i:Nat),Vals xs us->Vals (xs.set i x) (us.set i u)
 |_,_,_,.nil=>.nil
 |_,_,0,.cons _ t=>.cons r t
 |_,_,i+1,.cons q t=>.cons q (Vals.set r i t)
theorem Vals.append:∀{xs ys:List V} {us ws:List Value},Vals xs us->Vals ys ws->Vals (xs++ys) (us++ws)
 |_,_,_,_,.nil,s=>s
 |_,_,_,_,.cons r t,s=>.cons r (Vals.append t s)
theorem Vals.take:∀{xs:List V} {us:List Value} (n:Nat),Vals xs us->Vals (xs.take n) (us.take n)
 |_,_,0,_=>.nil
 |_,_,_+1,.nil=>.nil
 |_,_,n+1,.cons r t=>.cons r (Vals.take n t)
theorem Vals.drop:∀{xs:List V} {us:List Value} (n:Nat),Vals xs us->Vals (xs.drop n) (us.drop n)
 |_,_,0,r=>r
 |_,_,_+1,.nil=>.nil
 |_,_,n+1,.cons _ t=>Vals.drop n t
def Pe:Option V->Option Value->Prop
 |some v,some u=>RelV v u
 |none,none=>True
 |_,_=>False
def KV {κ:Type}:List (κ×V)->List (κ×Value)->Prop:=Paired fun(p:κ×V) (q:κ×Value)=>p.1=q.1/\RelV p.2 q.2
def kV:Key->V
 | .inl i=>.int i
 | .inr x=>.str x
inductive HO where
 /-- a list -/
 |lst (xs:List V)
 /-- a tuple (never changes) -/
 |tup (xs:List V)
 /-- a dict PD keys are ints and texts;one PD keys are tuples of ints and texts (AJ empty one is both) -/
 |dK (fN:List (Key×V))|dT (fN:List (List Key×V))
 /-- a set of ints: ak members,ak size -/
 |set (S:Int->Bool) (n:Nat)
 /-- an instance of AJ class at C,ak dict at dx,ak attributes -/
 |ins (C dx:Addr) (fs:List (Str×V))
 /-- AJ dict of AJ instance at x -/
 |own (x:Addr)
 /-- AJ dict of an exception -/
 |xd (fs:List (Str×V))
 /-- a bound method,f of x -/
 |met (f x:Addr)
 /-- a range object lo,lo+1,.. below hi -/
 |MW (lo hi:Int)
 /-- a PL that is known to AJ object (AJ script;a dict PJ a loop walks it): read,never written PJ it is so -/
 |rH (o:Obj) (u:HO)
 /-- a code object's table -/
 |xT (ps:Array Value)
 /-- any other PL,by what is true of ak one object (a def of one's own: SetO a S n:=HO.ext fun h=>..) -/
 |ext (φ:Heap->Prop)
abbrev Hp:=Addr->Option HO
def upd (H:Hp) (a:Addr) (o:HO):Hp:=fun b=>if b=a then some o else H b
variable {H:Hp} {a:Addr} {o:HO}
theorem dR:upd H a o a=some o:=by unfold upd;rw[if_pos rfl]
variable {b:Addr}
theorem bz(h:b≠a):upd H a o b=H b:=by unfold upd;rw[if_neg h]
theorem bo(h:H a=some o)(h':H b=none):a≠b:=by
 intro e;subst e;rw[h]at h';cases h'
section
variable (P:Program) (w:World)
def gj (H:Hp) (h:Heap) (a:Addr):HO->Prop
 | .lst xs=>xs.length<=sizeLine/\∃(ak:List Value) (n:Nat),Vals xs ak/\h.get? a=some {cls:=.type "list",data:=.seq ak.toArray n}
 | .tup xs=>xs.length<=sizeLine/\∃ak:List Value,Vals xs ak/\IsTup h a ak.toArray
 | .dK fN=>fN.length<=sizeLine/\(a==sysModules)=false/\∃vs,KV fN vs/\h.DictOf (vh P w) a vs
 | .dT fN=>fN.length<=sizeLine/\(a==sysModules)=false/\∃xs:List (List Key×Addr×Value),
   Paired (fun(p:List Key×V) (q:List Key×Addr×Value)=>p.1=q.1/\H q.2.1=some (.tup (p.1.map kV))/\RelV p.2 q.2.2) fN xs/\
   ∃o es ep,h.get? a=some o/\o.ExactDict/\o.data=.dict es ep/\es.toList=xs.map (entryOfKey (tupleKind (vh P w)))/\(xs.map (·.1)).Nodup
 | .set S n=>h.SetOf (intKind P w) a S n
 | .ins C dx fs=>H dx=some (.own a)/\fs.length<=1000/\dx≠a/\h.get? a=some (PySem.W.instObj C dx)/\
   ∃mA,h.Ns1 dx mA/\(∀f,Pe (fs.lookup f) (mA f))/\PySem.Within mA (fs.map (·.1))
 | .own _=>∃o,h.get? a=some o
 | .xd fs=>∃mA,h.Ns1 a mA/\∀f,Pe (fs.lookup f) (mA f)
 | .MW lo hi=>∃t u v,h.get? a=some {cls:=.type "range",data:=.fields #[.int lo t,.int hi u,.int 1 v]}
 | .rH o u=>h.get? a=some o/\gj H h a u
 | .xT ps=>h.get? a=some {cls:=.none,data:=.fields ps}
 | .met f x=>h.get? a=some (methodObj (.ref f) (.ref x))
 | .ext φ=>φ h/\(∃o,h.get? a=some o)/\∀h1 h2:Heap,φ h1->(∀o,h1.get? a=some o->h2.get? a=some o)->φ h2
def i6 (H:Hp) (h:Heap):Prop:=∀a o,H a=some o->gj P w H h a o
end
variable {P:Program} {w:World} {h:Heap}
theorem gj.lt(x:gj P w H h a o):a<h.objs.size:=by
 cases o with
 |lst xs=>obtain⟨_,_,_,_,e⟩:=x;exact lt_size e
 |tup xs=>obtain⟨_,_,_,p⟩:=x;exact p.lt
 |dK fN=>obtain⟨_,_,_,_,o,_,_,e,_⟩:=x;exact lt_size e
 |dT fN=>obtain⟨_,_,_,_,o,_,_,e,_⟩:=x;exact lt_size e
 |set S n=>obtain⟨o,_,_,_,e,_⟩:=x;exact lt_size e
 |ins C dx fs=>obtain⟨_,_,_,e,_⟩:=x;exact lt_size e
 |own y=>obtain⟨_,e⟩:=x;exact lt_size e
 |xd fs=>obtain⟨_,⟨_,_,_,e,_⟩,_⟩:=x;exact lt_size e
 |MW lo hi=>obtain⟨_,_,_,e⟩:=x;exact lt_size e
 |rH ob u=>obtain⟨e,_⟩:=x;exact lt_size e
 |xT ps=>exact lt_size (show h.get? a=some _ from x)
 |met f y=>exact lt_size (show h.get? a=some _ from x)
 |ext φ=>obtain⟨_,⟨_,e⟩,_⟩:=x;exact lt_size e
theorem Paired.Nw{α β:Type}{F G:α->β->Prop}:∀{l₁:List α} {l₂:List β},Paired F l₁ l₂->(∀a b,F a b->G a b)->Paired G l₁ l₂
 |_,_,.nil,_=>.nil
 |_,_,.cons r t,f=>.cons (f _ _ r) (Paired.Nw t f)
variable {h':Heap} {H':Hp}
theorem gj.nB(x:gj P w H h a o)(k:∀b u,(b=a\/H b=some (.own a))->h.get? b=some u->h'.get? b=some u)(ho:∀b,H b=some (.own a)->H' b=some (.own a))(ht:∀b xs,H b=some (.tup xs)->H' b=some (.tup xs)):gj P w H' h' a o:=by
 induction o with
 |lst xs=>obtain⟨z,ak,n,r,e⟩:=x;exact⟨z,ak,n,r,k _ _ (.inl rfl) e⟩
 |tup xs=>obtain⟨z,ak,r,ob,e,c⟩:=x;exact⟨z,ak,r,ob,k _ _ (.inl rfl) e,c⟩
 |dK fN=>obtain⟨z,y,vs,r,ob,es,ep,e,c⟩:=x;exact⟨z,y,vs,r,ob,es,ep,k _ _ (.inl rfl) e,c⟩
 |dT fN=>
  obtain⟨z,y,xs,r,ob,es,ep,e,c⟩:=x;exact⟨z,y,xs,Paired.Nw r fun p q z=>⟨z.1,ht _ _ z.2.1,z.2.2⟩,ob,es,ep,k _ _ (.inl rfl) e,c⟩
 |set S n=>obtain⟨ob,es,ep,t,e,c⟩:=x;exact⟨ob,es,ep,t,k _ _ (.inl rfl) e,c⟩
 |ins C dx fs=>
  obtain⟨d,z,ne,e,mA,⟨od,es,ep,e2,c⟩,r⟩:=x;exact⟨ho _ d,z,ne,k _ _ (.inl rfl) e,mA,⟨od,es,ep,k _ _ (.inr d) e2,c⟩,r⟩
 |own y=>obtain⟨ob,e⟩:=x;exact⟨ob,k _ _ (.inl rfl) e⟩
 |xd fs=>obtain⟨mA,⟨od,es,ep,e,c⟩,r⟩:=x;exact⟨mA,⟨od,es,ep,k _ _ (.inl rfl) e,c⟩,r⟩
 |MW lo hi=>obtain⟨t,u,v,e⟩:=x;exact⟨t,u,v,k _ _ (.inl rfl) e⟩
 |rH ob u ih=>obtain⟨e,q⟩:=x;exact⟨k _ _ (.inl rfl) e,ih q⟩
 |xT ps=>
  have e:h.get? a=some {cls:=.none,data:=.fields ps}:=x;show h'.get? a=some {cls:=.none,data:=.fields ps};exact k a _ (.inl rfl) e
 |met f y=>
  have e:h.get? a=some (methodObj (.ref f) (.ref y)):=x;show h'.get? a=some (methodObj (.ref f) (.ref y));exact k a _ (.inl rfl) e
 |ext φ=>obtain⟨p,⟨o,e⟩,st⟩:=x;exact⟨st _ _ p fun o q=>k _ _ (.inl rfl) q,⟨o,k _ _ (.inl rfl) e⟩,st⟩
theorem i6.lt(x:i6 P w H h)(e:H a=some o):a<h.objs.size:=(x a o e).lt
theorem i6.fresh(x:i6 P w H h)(e:h.objs.size<=a):H a=none:=by
 cases q:H a with
 |none=>rfl
 |some u=>exact absurd (lt_of_lt_of_le (x.lt q) e) (lt_irrefl _)
theorem i6.kept(x:i6 P w H h)(k:∀b u,h.get? b=some u->h'.get? b=some u):i6 P w H h':=fun a o e=>
 (x a o e).nB (fun b u _ q=>k b u q) (fun _ q=>q) fun _ _ q=>q
theorem i6.laid(x:i6 P w H h)(k:∀b u,h.get? b=some u->h'.get? b=some u)(hp:h.objs.size<=a)(new:gj P w (upd H a o) h' a o):i6 P w (upd H a o) h':=fun b u e=>by
 have hn:=x.fresh hp;by_cases hb:b=a
 ·subst hb;rw[dR]at e;cases e;exact new
 ·rw[bz hb]at e;exact(x b u e).nB (fun c v _ q=>k c v q) (fun c q=>by rw[bz (bo q hn)];exact q) fun c xs q=>by rw[bz (bo q hn)];exact q
def Rd (H:Hp) (a:Addr) (u:HO):Prop:=H a=some u\/∃o,H a=some (.rH o u)
theorem Rd.ok{u:HO}(r:Rd H a u)(x:i6 P w H h):gj P w H h a u:=by
 rcases r with r|⟨o,r⟩
 ·exact x a u r
 ·obtain⟨_,q⟩:=x a _ r;exact q
def Kv:Option HO->Prop
 |some (.lst _)=>True
 |some (.dK _)=>True
 |some (.dT _)=>True
 |some (.set _ _)=>True
 |some (.ins _ _ _)=>True
 |some (.ext _)=>True
 |_=>False
variable {o':HO} {e x:Addr}
theorem i6.write(ok:i6 P w H h)(mu:Kv (H x))(he:e=x\/H e=some (.own x))(k:∀b u,b≠e->h.get? b=some u->h'.get? b=some u)(BC:∃u,h'.get? e=some u)(new:gj P w (upd H x o') h' x o'):i6 P w (upd H x o') h':=fun b u q=>by
 have Nt:∀c y,H c=some (.own y)->c≠x:=fun c y r z=>by subst z;rw[r]at mu;exact mu
 have TU:∀c xs,H c=some (.tup xs)->c≠x:=fun c xs r z=>by subst z;rw[r]at mu;exact mu
 by_cases hb:b=x
 ·subst hb;rw[dR]at q;cases q;exact new
 ·rw[bz hb]at q;by_cases zh:b=e
  ·have q':H b=some (.own x):=by
    rcases he with z|z
    ·exact absurd (zh.trans z) hb
    ·rw[zh];exact z
   rw[q]at q';cases q';obtain⟨v,hv⟩:=BC;exact⟨v,by rw[zh];exact hv⟩
  ·refine(ok b u q).nB (fun c v hc r=>k c v ?_ r) (fun c r=>by rw[bz (Nt c b r)];exact r) fun c xs r=>by rw[bz (TU c xs r)];exact r
   rcases hc with rfl|hc
   ·exact zh
   ·rintro rfl;rcases he with z|z
    ·exact Nt c b hc z
    ·rw[hc]at z;cases z;exact hb rfl
structure Un (fs ex:List Addr) (H H':Hp) (h h':Heap):Prop where
 keep:∀b o,h.get? b=some o->H b=none->b∉fs->b∉ex->h'.get? b=some o
 slot:∀b o,h.get? b=some o->H b=none->b∈fs->b∉ex->∃sl,h'.get? b=some {o with slots:=sl}
 free:∀b o,h.get? b=some o->H b=none->b∉ex->H' b=none
 there:∀b o,h.get? b=some o->b∉ex->∃o',h'.get? b=some o'
 ny:∀b xs,H b=some (.tup xs)->H' b=some (.tup xs)
 mw:∀b o u,H b=some (.rH o u)->H' b=some (.rH o u)
 nA:∀b ps,H b=some (.xT ps)->∃more,H' b=some (.xT (ps++more))
variable {H1:Hp} {ex:List Addr} {h1:Heap}
variable {fs:List Addr} in
theorem Un.any(u:Un fs ex H H1 h h1){ob:Obj}(q:h.get? b=some ob)(n:H b=none)(hx:b∉ex):∃sl,h1.get? b=some {ob with slots:=sl}:=by
 by_cases hb:b∈fs
 ·exact u.slot b ob q n hb hx
 ·exact⟨ob.slots,u.keep b ob q n hb hx⟩
variable {fs:List Addr} in
theorem Un.kept(k:∀b u,h.get? b=some u->h'.get? b=some u):Un fs ex H H h h':=
 ⟨fun b ob q _ _ _=>k b ob q,fun b ob q _ _ _=>⟨ob.slots,k b ob q⟩,fun _ _ _ n _=>n,fun b ob q _=>⟨ob,k b ob q⟩,fun _ _ q=>q,fun _ _ _ q=>q,fun _ ps q=>⟨#[],by rw[q];simp⟩⟩
variable {fs:List Addr} in
theorem Un.refl:Un fs ex H H h h:=Un.kept fun _ _ q=>q
variable {fs:List Addr} in
theorem Un.laid(k:∀b u,h.get? b=some u->h'.get? b=some u)(hp:h.objs.size<=a)(hn:H a=none):Un fs ex H (upd H a o) h h' where
 keep:=fun b u q _ _ _=>k b u q
 slot:=fun b u q _ _ _=>⟨u.slots,k b u q⟩
 free:=fun b u q n _=>by rw[bz (ne_of_lt (lt_of_lt_of_le (lt_size q) hp))];exact n
 there:=fun b u q _=>⟨u,k b u q⟩
 ny:=fun b xs q=>by rw[bz (bo q hn)];exact q
 mw:=fun b u xs q=>by rw[bz (bo q hn)];exact q
 nA:=fun b ps q=>⟨#[],by rw[bz (bo q hn),q];simp⟩
variable {fs:List Addr} in
theorem Un.write(mu:Kv (H x))(he:e=x\/H e=some (.own x))(k:∀b u,b≠e->h.get? b=some u->h'.get? b=some u)(BC:∃u,h'.get? e=some u):Un fs ex H (upd H x o) h h':=by
 have hx:∀b,H b=none->b≠x:=fun b n z=>by subst z;rw[n]at mu;exact mu
 have hb:∀b,H b=none->b≠e:=fun b n z=>by
  subst z;rcases he with r|r
  ·exact hx b n r
  ·rw[n]at r;cases r
 have hm:∀b u,H b=some u->¬Kv (some u)->b≠x:=fun b u q nm z=>by subst z;rw[q]at mu;exact nm mu
 refine⟨fun b u q n _ _=>k b u (hb b n) q,fun b u q n _ _=>⟨u.slots,k b u (hb b n) q⟩,fun b u q n _=>by rw[bz (hx b n)];exact n,fun b u q _=>?_,
  fun b xs q=>by rw[bz (hm b _ q fun z=>z)];exact q,fun b u xs q=>by rw[bz (hm b _ q fun z=>z)];exact q,fun b ps q=>⟨#[],by rw[bz (hm b _ q fun z=>z),q];simp⟩⟩
 by_cases zh:b=e
 ·subst zh;exact BC
 ·exact⟨u,k b u zh q⟩
def Jc (h:Heap) (H:Hp):List Addr:=(List.range h.objs.size).filter fun a=>(H a).isSome
def oP (h:Heap) (H:Hp):Heap:=PySem.W.hideAll h (Jc h H)
theorem FH(h:Heap)(H:Hp):(oP h H).objs.size=h.objs.size:=PySem.W.hideAll_size _ _
variable {o:Obj}
theorem I0(e:h.get? b=some o)(n:H b=none):(oP h H).get? b=some o:=
 PySem.W.hideAll_get _ e fun hm=>by
  have q:(H b).isSome=true:=(mem_filter.mp hm).2;rw[n]at q;simp at q
theorem Lv(e:(oP h H).get? b=some o):h.get? b=some o/\H b=none:=by
 have e':h.get? b=some o:=PySem.W.of_hideAll (Jc h H) e;refine⟨e',?_⟩;cases q:H b with
 |none=>rfl
 |some x=>
  have hm:b∈Jc h H:=mem_filter.mpr ⟨List.mem_range.mpr (lt_size e'),by simp[q]⟩;have z:(oP h H).get? b=none:=PySem.W.hideAll_none (Jc h H) hm;rw[z]at e;cases e
def Mc (g h:Heap) (L:Addr):List (Addr×Obj):=(List.range h.objs.size).filterMap fun a=>if a=L\/(g.get? a).isSome=true then none else(h.get? a).map fun o=>(a,o)
def rest (g h:Heap) (L d:Addr):List (Addr×Obj):=(Mc g h L).filter fun p=>decide (p.1≠d)
open PySem PySem.Spec PyProof.Rows
structure Mod (K:Frag) (mg:Str->Option Value) (base:Heap):Prop where
 tY:K.In base
 glob:base.Ns mainGlobals mg
 blt:∃mb,base.Ns builtinsNs mb/\∀x:Str,x≠"__name__"->mb x=bootBuiltins x
 nolimit:base.NoLimit
structure Cx where
 prog:Program
 w:World
 K:Frag
 mg:Str->Option Value
 base:Heap
 A:Around
 N:List Str
 aL:Shared
 aj:Hp
 env:Env
 outer:List Env
 stack:List Env
 ex:List Addr
 fn:Str->Bool
 calm:Bool
 pn:List (Addr×Obj)
 xe:Value->Shared->Prop
def kR (l:List Env):List Addr:=l.filterMap (·.frame)
abbrev Cx.fs (X:Cx):List Addr:=kR X.outer
def mE (sc:Scope) (x:Str):Prop:=sc.names.lookup x=some .local\/sc.names.lookup x=some .cell\/sc.names.lookup x=some .free
def Loc (sc:Scope) (x:Str):Prop:=sc.names.lookup x=some .local\/sc.names.lookup x=some .cell
def Look (env:Env) (h:Heap) (m:Str->Option Value) (x:Str) (u:Value):Prop:=
 (env.kindOf x=some .local/\m x=some u)\/((env.kindOf x=some .cell\/env.kindOf x=some .free)/\∃c,env.cells.lookup x=some c/\h.IsCell c (some u))
structure Cx.Ok (X:Cx):Prop where
 mod:Mod X.K X.mg X.base
 kind:X.env.scope.kind=.function
 glob:X.env.globals=mainGlobals
 blt:X.env.builtins=builtinsNs
 above:X.aL.heap.objs.size<=X.env.locals
 inj:∀x y c,X.env.cells.lookup x=some c->X.env.cells.lookup y=some c->x=y
 has:∀x,(X.env.kindOf x=some .cell\/X.env.kindOf x=some .free)->∃c,X.env.cells.lookup x=some c
 GF:∀x c,X.fn x=true->X.env.cells.lookup x=some c->X.aL.heap.objs.size<=c
 hd:X.calm=true->X.A.handled=none
 frames:X.A.frames=some X.stack
 Jo:X.stack=X.outer\/(X.stack=X.env::X.outer/\X.env.frame=some X.env.locals)
 BU:∀b∈X.ex,b≠X.env.locals/\∀x c,X.env.cells.lookup x=some c->c≠b
 bs:∀b o,X.base.get? b=some o->X.aL.heap.get? b=some o/\X.aj b=none
 xi:X.base.objs.size<=X.aL.heap.objs.size
 vf:∀b o,X.base.get? b=some o->b∉X.ex
 vv:∀b∈X.ex,b∉X.fs
 mv:X.aL.heap.FunFrames X.base X.outer
 BN:∀b∈X.fs,X.aj b=none
structure Inv (X:Cx) (pins:List (Addr×Obj)) (σ:List (Option V)) (H:Hp) (s:Shared):Prop where
 ok:X.Ok
 os:s.os=X.aL.os
 bare:AllBare s.gens
 base:Un X.fs X.ex X.aj H X.aL.heap s.heap
 loc:∃m,s.heap.Ns X.env.locals m/\∀(i:Nat) (x:Str) (v:V),X.N[i]?=some x->σ[i]?=some (some v)->mE X.env.scope x->∃u,RelV v u/\Look X.env s.heap m x u
 cell:∀x c,X.env.cells.lookup x=some c->∃v,s.heap.IsCell c v
 free:H X.env.locals=none
 jk:∀x c,X.env.cells.lookup x=some c->H c=none
 pin:∀p∈X.pn++pins,s.heap.get? p.1=some p.2/\H p.1=none/\p.1≠X.env.locals/\p.1∉X.fs/\∀v,p.2.data≠.cell v
 bh:i6 X.prog X.w H s.heap
 len:σ.length=X.N.length
variable {X:Cx}
theorem Cx.Ok.TZ(ok:X.Ok)(e:X.base.get? b=some o):b∉X.fs:=fun hb=>by
 have:=(ok.mv.mem hb).1;rw[e]at this;cases this
variable {pins:List (Addr×Obj)} {σ:List (Option V)}
variable {s:Shared} in
theorem Inv.bs(I:Inv X pins σ H s):∀b o,X.base.get? b=some o->s.heap.get? b=some o/\H b=none:=fun b o e=>
 ⟨I.base.keep b o (I.ok.bs b o e).1 (I.ok.bs b o e).2 (I.ok.TZ e) (I.ok.vf b o e),I.base.free b o (I.ok.bs b o e).1 (I.ok.bs b o e).2 (I.ok.vf b o e)⟩
variable {s:Shared} in
theorem Inv.bk(I:Inv X pins σ H s):∀b o,X.base.get? b=some o->s.heap.get? b=some o:=fun b o e=>(I.bs b o e).1
variable {s:Shared} in
theorem Inv.mod(I:Inv X pins σ H s):Mod X.K X.mg X.base:=I.ok.mod
variable {s:Shared} in
theorem Inv.p7(I:Inv X pins σ H s):X.K.In s.heap:=I.ok.mod.tY.keeps I.bk
variable {s:Shared} in
theorem Inv.nolimit(I:Inv X pins σ H s):s.heap.NoLimit:=I.ok.mod.nolimit.keeps I.bk
variable {s:Shared} in
theorem Inv.lt(I:Inv X pins σ H s):X.env.locals<s.heap.objs.size:=let ⟨_,hn,_⟩:=I.loc;hn.lt
variable {s:Shared} in
theorem Inv.sz(I:Inv X pins σ H s):X.aL.heap.objs.size<=s.heap.objs.size:=le_trans I.ok.above (Nat.le_of_lt I.lt)
variable {s:Shared} in
theorem Inv.TY(I:Inv X pins σ H s)(h:s.heap.objs.size<=a):a∉X.fs:=fun hb=>by
 obtain⟨_,o,ho,_⟩:=I.ok.mv.mem hb;exact absurd (lt_of_lt_of_le (lt_size ho) (le_trans I.sz h)) (lt_irrefl _)
variable {s:Shared} in
theorem Inv.zP(I:Inv X pins σ H s):∀x c,X.env.cells.lookup x=some c->c≠X.env.locals:=fun x c e z=>by
 obtain⟨v,o,ho,hd⟩:=I.cell x c e;obtain⟨m,⟨o',es,ep,mW,dF,_⟩,_⟩:=I.loc;rw[z,mW]at ho;cases ho;rw[dF]at hd;cases hd
variable {s:Shared} in
theorem Inv.mv(I:Inv X pins σ H s):s.heap.FunFrames X.base X.outer:=by
 have all:∀(l:List Env),(∀b∈kR l,b∈X.fs)->X.aL.heap.FunFrames X.base l->s.heap.FunFrames X.base l:=by
  intro l;induction l with
  |nil=>intro _ _;trivial
  |cons env r ih=>
   intro hs hl;obtain⟨hk,⟨L,o,hf,hn,ho,hd⟩,hr⟩:=hl;have hL:L∈X.fs:=hs L (by unfold kR;rw[List.filterMap_cons,hf];exact mem_cons_self);obtain⟨sl,e⟩:=I.base.slot L o ho (I.ok.BN L hL) hL fun z=>I.ok.vv L z hL;exact⟨hk,⟨L,_,hf,hn,e,hd⟩,ih (fun b hb=>hs b (by unfold kR;rw[List.filterMap_cons,hf];exact mem_cons_of_mem _ hb)) hr⟩
 exact all X.outer (fun _ hb=>hb) I.ok.mv
variable {s:Shared} in
theorem Inv.stack(I:Inv X pins σ H s):s.heap.FunFrames X.base X.stack:=by
 rcases I.ok.Jo with e|⟨e,hf⟩
 ·rw[e];exact I.mv
 ·rw[e];obtain⟨m,hn,_⟩:=I.loc;refine .cons (by rw[I.ok.kind];decide) hf hn ?_ I.mv;exact Heap.get?_none_of_le (le_trans I.ok.xi I.ok.above)
variable {s:Shared} in
theorem Inv.tw(I:Inv X pins σ H s):∀b∈kR X.stack,b∈X.env.locals::X.fs:=fun b hb=>by
 rcases I.ok.Jo with e|⟨e,hf⟩
 ·rw[e]at hb;exact mem_cons_of_mem _ hb
 ·rw[e]at hb;unfold kR at hb;rw[List.filterMap_cons,hf]at hb;exact hb
variable {s:Shared} in
theorem Inv.uV(I:Inv X pins σ H s):∀b∈kR X.stack,H b=none:=fun b hb=>by
 rcases mem_cons.mp (I.tw b hb)with e|hb
 ·rw[e];exact I.free
 ·obtain⟨_,o,ho,_⟩:=I.ok.mv.mem hb;exact I.base.free b o ho (I.ok.BN b hb) fun z=>I.ok.vv b z hb
variable {t':Nat} {ch:List Addr}
variable {s:Shared} in
theorem Inv.step{g':Array GenState}{d':Drawn}(I:Inv X pins σ H s)(pd:∀b∈ch,(b∈X.ex\/X.aL.heap.objs.size<=b)/\b≠X.env.locals/\(∀x c,X.env.cells.lookup x=some c->c≠b)/\∀p∈X.pn++pins,p.1≠b)(keep:∀b o,b≠X.env.locals->b∉X.fs->b∉ch->s.heap.get? b=some o->H b=none->h'.get? b=some o)(slot:∀b o,b≠X.env.locals->b∈X.fs->b∉ch->s.heap.get? b=some o->H b=none->∃sl,h'.get? b=some {o with slots:=sl})(free:∀b o,b∉ch->s.heap.get? b=some o->H b=none->H' b=none)(there:∀b o,b∉ch->s.heap.get? b=some o->∃o',h'.get? b=some o')(ny:∀b xs,H b=some (.tup xs)->H' b=some (.tup xs))(mw:∀b o u,H b=some (.rH o u)->H' b=some (.rH o u))(nA:∀b ps,H b=some (.xT ps)->∃more,H' b=some (.xT (ps++more)))(ns:∀m,s.heap.Ns X.env.locals m->h'.Ns X.env.locals m)(bh:i6 X.prog X.w H' h')(hg:AllBare g'):
  Inv X pins σ H' {s with heap:=h',gens:=g',drawn:=d',toks:=t'}:=by
 have Ro:∀b o,X.aL.heap.get? b=some o->b≠X.env.locals:=fun b o e=>ne_of_lt (lt_of_lt_of_le (lt_size e) I.ok.above);have wz:∀b o,X.aL.heap.get? b=some o->b∉X.ex->b∉ch:=fun b o e hx hb=>by
  rcases(pd b hb).1 with z|z
  ·exact hx z
  ·exact absurd (lt_of_lt_of_le (lt_size e) z) (lt_irrefl _)
 have cellK:∀x c,X.env.cells.lookup x=some c->∀v,s.heap.IsCell c v->h'.IsCell c v:=fun x c e v aM=>by
  obtain⟨o,ho,hd⟩:=aM;have EW:c∉ch:=fun z=>(pd c z).2.2.1 x c e rfl;by_cases hc:c∈X.fs
  ·obtain⟨sl,q⟩:=slot c o (I.zP x c e) hc EW ho (I.jk x c e);exact⟨_,q,hd⟩
  ·exact⟨o,keep c o (I.zP x c e) hc EW ho (I.jk x c e),hd⟩
 refine⟨I.ok,I.os,hg,⟨fun b o e n hb hx=>?_,fun b o e n hb hx=>?_,fun b o e n hx=>?_,fun b o e hx=>?_,fun b xs e=>ny b xs (I.base.ny b xs e),fun b o xs e=>mw b o xs (I.base.mw b o xs e),fun b ps e=>?_⟩,?_,fun x c e=>?_,?_,fun x c e=>?_,fun p hp=>?_,bh,I.len⟩
 ·exact keep b o (Ro b o e) hb (wz b o e hx) (I.base.keep b o e n hb hx) (I.base.free b o e n hx)
 ·obtain⟨sl,e1⟩:=I.base.slot b o e n hb hx;obtain⟨Rb,e2⟩:=slot b _ (Ro b o e) hb (wz b o e hx) e1 (I.base.free b o e n hx);exact⟨Rb,e2⟩
 ·obtain⟨o',e1⟩:=I.base.there b o e hx;exact free b o' (wz b o e hx) e1 (I.base.free b o e n hx)
 ·obtain⟨o',e1⟩:=I.base.there b o e hx;exact there b o' (wz b o e hx) e1
 ·obtain⟨m1,e1⟩:=I.base.nA b ps e;obtain⟨m2,e2⟩:=nA b _ e1;exact⟨m1++m2,by rw[e2,Array.append_assoc]⟩
 ·obtain⟨m,hn,hl⟩:=I.loc;refine⟨m,ns m hn,fun i x v e1 e2 e3=>?_⟩;obtain⟨u,r,l⟩:=hl i x v e1 e2 e3;refine⟨u,r,?_⟩;rcases l with l|⟨k,c,e,z⟩
  ·exact .inl l
  ·exact .inr ⟨k,c,e,cellK x c e _ z⟩
 ·obtain⟨v,z⟩:=I.cell x c e;exact⟨v,cellK x c e v z⟩
 ·obtain⟨m,⟨o,_,_,ho,_⟩,_⟩:=I.loc;exact free _ o (fun z=>(pd _ z).2.1 rfl) ho I.free
 ·obtain⟨v,o,ho,hd⟩:=I.cell x c e;exact free c o (fun z=>(pd c z).2.2.1 x c e rfl) ho (I.jk x c e)
 ·obtain⟨e,n,ne,nf,d⟩:=I.pin p hp;have EW:p.1∉ch:=fun z=>(pd p.1 z).2.2.2 p hp rfl;exact⟨keep p.1 p.2 ne nf EW e n,free p.1 p.2 EW e n,ne,nf,d⟩
variable {s:Shared} in
theorem Inv.un(I:Inv X pins σ H s)(u:Un X.fs [] H H' s.heap h')(bh:i6 X.prog X.w H' h'):Inv X pins σ H' {s with heap:=h',toks:=t'}:=by
 obtain⟨m,⟨o,es,ep,ho,r⟩,_⟩:=id I.loc;obtain⟨sl,hL⟩:=u.any ho I.free (by simp);exact I.step (g':=s.gens) (d':=s.drawn) (ch:=[]) (fun _ z=>nomatch z) (fun b o _ hb _ e n=>u.keep b o e n hb (by simp)) (fun b o _ hb _ e n=>u.slot b o e n hb (by simp)) (fun b o _ e n=>u.free b o e n (by simp)) (fun b o _ e=>u.there b o e (by simp)) u.ny u.mw u.nA (fun m' hm=>by
  obtain⟨o',BV,G0,mW,r'⟩:=hm;rw[ho]at mW;cases mW;exact⟨_,BV,G0,hL,r'⟩) bh I.bare
variable {s:Shared} in
theorem Inv.call{g':Array GenState}{d':Drawn}(I:Inv X pins σ H s)(u:Un (kR X.stack) ch H H' s.heap h')(bh:i6 X.prog X.w H' h')(hg:AllBare g')(pd:∀b∈ch,(b∈X.ex\/X.aL.heap.objs.size<=b)/\b≠X.env.locals/\(∀x c,X.env.cells.lookup x=some c->c≠b)/\∀p∈X.pn++pins,p.1≠b):
  Inv X pins σ H' {s with heap:=h',gens:=g',drawn:=d',toks:=t'}:=by
 obtain⟨m,⟨o,es,ep,ho,r⟩,_⟩:=id I.loc;obtain⟨sl,hL⟩:=u.any ho I.free fun z=>(pd _ z).2.1 rfl;exact I.step (ch:=ch) pd (fun b o hL hb hc e n=>u.keep b o e n (fun z=>(mem_cons.mp (I.tw b z)).elim hL hb) hc) (fun b o _ _ hc e n=>u.any e n hc) (fun b o hc e n=>u.free b o e n hc) (fun b o hc e=>u.there b o e hc) u.ny u.mw u.nA (fun m' hm=>by
  obtain⟨o',BV,G0,mW,r'⟩:=hm;rw[ho]at mW;cases mW;exact⟨_,BV,G0,hL,r'⟩) bh hg
variable {s:Shared} in
theorem Inv.turned{it:Addr}(I:Inv X pins σ H s)(k:∀b o,b≠it->s.heap.get? b=some o->h'.get? b=some o)(hn:H it=none)(hL:it≠X.env.locals)(h1:it∈X.ex\/X.aL.heap.objs.size<=it)(h2:∀x c,X.env.cells.lookup x=some c->c≠it)(h3:∀p∈X.pn++pins,p.1≠it):Inv X pins σ H {s with heap:=h',toks:=t'}:=by
 have Rn:∀b u,H b=some u->b≠it:=fun b u e z=>by rw[z,hn]at e;cases e
 refine I.step (g':=s.gens) (d':=s.drawn) (ch:=[it]) (fun b hb=>?_) (fun b o _ _ hc e _=>k b o (fun z=>hc (by simp[z])) e) (fun b o _ _ hc e _=>⟨o.slots,k b o (fun z=>hc (by simp[z])) e⟩) (fun _ _ _ _ n=>n)
  (fun b o hc e=>⟨o,k b o (fun z=>hc (by simp[z])) e⟩) (fun _ _ e=>e) (fun _ _ _ e=>e) (fun b ps e=>⟨#[],by rw[e];simp⟩) (fun m hm=>?_) (fun b u e=>?_) I.bare
 ·have e:b=it:=by simpa using hb
  subst e;exact⟨h1,hL,h2,h3⟩
 ·obtain⟨o,es,ep,ho,r⟩:=hm;exact⟨o,es,ep,k _ o (Ne.symm hL) ho,r⟩
 ·refine(I.bh b u e).nB (fun c v hc q=>k c v ?_ q) (fun _ q=>q) fun _ _ q=>q;rcases hc with z|z
  ·rw[z];exact Rn b u e
  ·exact Rn c _ z
variable {s:Shared} in
theorem Inv.tok(I:Inv X pins σ H s)(t:Nat):Inv X pins σ H {s with toks:=t}:=I.un (h':=s.heap) (t':=t) Un.refl I.bh
variable {s:Shared} in
theorem Inv.kept(I:Inv X pins σ H s)(k:∀b u,s.heap.get? b=some u->h'.get? b=some u):Inv X pins σ H {s with heap:=h',toks:=t'}:=I.un (Un.kept k) (I.bh.kept k)
variable {s:Shared} in
theorem Inv.laid{o:HO}(I:Inv X pins σ H s)(k:∀b u,s.heap.get? b=some u->h'.get? b=some u)(hp:s.heap.objs.size<=a)(new:gj X.prog X.w (upd H a o) h' a o):
  Inv X pins σ (upd H a o) {s with heap:=h',toks:=t'}:=I.un (Un.laid k hp (I.bh.fresh hp)) (I.bh.laid k hp new)
variable {s:Shared} in
theorem Inv.write{o:HO}(I:Inv X pins σ H s)(mu:Kv (H x))(he:e=x\/H e=some (.own x))(k:∀b u,b≠e->s.heap.get? b=some u->h'.get? b=some u)(BC:∃u,h'.get? e=some u)(new:gj X.prog X.w (upd H x o) h' x o):Inv X pins σ (upd H x o) {s with heap:=h',toks:=t'}:=I.un (Un.write mu he k BC) (I.bh.write mu he k BC new)
variable {s:Shared} in
theorem Inv.weak{bC:List (Option V)}(I:Inv X pins σ H s)(hl:bC.length=σ.length)(w:∀(i:Nat) v,bC[i]?=some (some v)->σ[i]?=some (some v)):Inv X pins bC H s:=
 ⟨I.ok,I.os,I.bare,I.base,let ⟨m,hn,jb⟩:=I.loc;⟨m,hn,fun i x v e1 e2 e3=>jb i x v e1 (w i v e2) e3⟩,I.cell,I.free,I.jk,I.pin,I.bh,hl.trans I.len⟩
variable {s:Shared} in
theorem Inv.jB{pins':List (Addr×Obj)}(I:Inv X pins σ H s)(h:∀p∈pins',s.heap.get? p.1=some p.2/\H p.1=none/\p.1≠X.env.locals/\p.1∉X.fs/\∀v,p.2.data≠.cell v):Inv X pins' σ H s:=
 ⟨I.ok,I.os,I.bare,I.base,I.loc,I.cell,I.free,I.jk,fun p hp=>(mem_append.mp hp).elim (fun z=>I.pin p (mem_append_left _ z)) (h p),I.bh,I.len⟩
variable {N:List Str} {i:Nat} {x:Str}
theorem yD(hN:N.Nodup){j:Nat}(a:N[i]?=some x)(b:N[j]?=some x):i=j:=by
 obtain⟨h1,e1⟩:=List.getElem?_eq_some_iff.mp a;obtain⟨h2,e2⟩:=List.getElem?_eq_some_iff.mp b;exact(List.getElem_inj hN).mp (e1.trans e2.symm)
variable {M:Model} {A:Around} {E:Value->Shared->Prop} {v:V} {u:Value}
variable {s:Shared} in
theorem vX{Q:Unit->Shared->Prop}(I:Inv X pins σ H s)(hN:X.N.Nodup)(hi:X.N[i]?=some x)(hx:Loc X.env.scope x)(r:RelV v u)(h:∀s',Inv X pins (σ.set i (some v)) H s'->(∃a,SameBut a s.heap s'.heap/\(a=X.env.locals\/X.env.cells.lookup x=some a))->Q () s')(hf:X.fn x=true\/X.env.scope.names.lookup x=some .local:=by first|exact .inl rfl|exact .inr rfl|assumption):wpAny M A (storeName X.env x u) Q E s:=by
 obtain⟨m,hn,hl⟩:=id I.loc;have Ul:(X.env.scope.kind == .class || (X.env.scope.kind == .module&&X.env.locals !=X.env.globals))=false:=by rw[I.ok.kind];rfl
 have Oc:i<σ.length:=by rw[I.len];exact(List.getElem?_eq_some_iff.mp hi).1
 have zP:=I.zP;have tracked:∀{a:Addr} {h':Heap},(∃o,s.heap.get? a=some o/\H a=none)->SameBut a s.heap h'->i6 X.prog X.w H h':=fun{a h'} ha hs b ob e=>by
  obtain⟨_,_,JX⟩:=ha;refine(I.bh b ob e).nB (fun c w' hc q=>(hs.2 c ?_).trans q) (fun _ q=>q) fun _ _ q=>q;rintro rfl;rcases hc with rfl|hc
  ·rw[JX]at e;cases e
  ·rw[JX]at hc;cases hc
 rcases hx with hk|hk
 ·refine wpAny_storeName_local hk hn (fun h' lj hs=>?_) Ul;obtain⟨oL,_,_,Vu,_⟩:=id hn;refine h _ ⟨I.ok,I.os,I.bare,⟨fun b o e n hb hx=>?_,fun b o e n hb hx=>?_,I.base.free,fun b o e hx=>?_,I.base.ny,I.base.mw,I.base.nA⟩,⟨_,lj,fun j y v' e1 e2 e3=>?_⟩,fun y c e=>?_,I.free,I.jk,fun p hp=>?_,tracked ⟨oL,Vu,I.free⟩ hs,by simpa using I.len⟩ ⟨_,hs,.inl rfl⟩
  ·exact(hs.2 b (ne_of_lt (lt_of_lt_of_le (lt_size e) I.ok.above))).trans (I.base.keep b o e n hb hx)
  ·obtain⟨sl,e1⟩:=I.base.slot b o e n hb hx;exact⟨sl,(hs.2 b (ne_of_lt (lt_of_lt_of_le (lt_size e) I.ok.above))).trans e1⟩
  ·obtain⟨o',e1⟩:=I.base.there b o e hx;exact⟨o',(hs.2 b (ne_of_lt (lt_of_lt_of_le (lt_size e) I.ok.above))).trans e1⟩
  ·by_cases hj:j=i
   ·subst hj;rw[hi]at e1;cases e1;rw[getElem?_set_self Oc]at e2;cases e2;exact⟨u,r,.inl ⟨hk,by simp⟩⟩
   ·rw[getElem?_set_ne (Ne.symm hj)]at e2;obtain⟨u',r',q⟩:=hl j y v' e1 e2 e3;refine⟨u',r',?_⟩;rcases q with⟨k,e⟩|⟨k,c,e,z⟩
    ·refine .inl ⟨k,?_⟩;have:y≠x:=fun e=>hj (yD hN e1 (e▸hi));simp[this,e]
    ·exact .inr ⟨k,c,e,z.sameBut hs (zP y c e)⟩
  ·obtain⟨w',z⟩:=I.cell y c e;exact⟨w',z.sameBut hs (zP y c e)⟩
  ·obtain⟨e,n,ne,nf,d⟩:=I.pin p hp;exact⟨(hs.2 p.1 ne).trans e,n,ne,nf,d⟩
 ·have ui:X.fn x=true:=by
   rcases hf with z|z
   ·exact z
   ·rw[z]at hk;cases hk
  obtain⟨c,hc⟩:=I.ok.has x (.inl hk);obtain⟨w',z⟩:=I.cell x c hc;refine wpAny_storeName_cell I.ok.kind hk hc z (fun h' ir hs=>?_);obtain⟨oc,RF,Ud⟩:=id z;refine h {s with heap:=h'} ⟨I.ok,I.os,I.bare,⟨fun b o e n hb hx=>?_,fun b o e n hb hx=>?_,I.base.free,fun b o e hx=>?_,I.base.ny,I.base.mw,I.base.nA⟩,⟨m,hn.sameBut hs (Ne.symm (zP x c hc)),fun j y v' e1 e2 e3=>?_⟩,fun y c' e=>?_,I.free,I.jk,fun p hp=>?_,tracked ⟨oc,RF,I.jk x c hc⟩ hs,by simpa using I.len⟩ ⟨c,hs,.inr hc⟩
  ·exact(hs.2 b (ne_of_lt (lt_of_lt_of_le (lt_size e) (I.ok.GF x c ui hc)))).trans (I.base.keep b o e n hb hx)
  ·obtain⟨sl,e1⟩:=I.base.slot b o e n hb hx;exact⟨sl,(hs.2 b (ne_of_lt (lt_of_lt_of_le (lt_size e) (I.ok.GF x c ui hc)))).trans e1⟩
  ·obtain⟨o',e1⟩:=I.base.there b o e hx;exact⟨o',(hs.2 b (ne_of_lt (lt_of_lt_of_le (lt_size e) (I.ok.GF x c ui hc)))).trans e1⟩
  ·by_cases hj:j=i
   ·subst hj;rw[hi]at e1;cases e1;rw[getElem?_set_self Oc]at e2;cases e2;exact⟨u,r,.inr ⟨.inl hk,c,hc,ir⟩⟩
   ·rw[getElem?_set_ne (Ne.symm hj)]at e2;obtain⟨u',r',q⟩:=hl j y v' e1 e2 e3;refine⟨u',r',?_⟩;rcases q with q|⟨k,c',e,z'⟩
    ·exact .inl q
    ·refine .inr ⟨k,c',e,z'.sameBut hs ?_⟩;rintro rfl;exact hj (yD hN e1 (I.ok.inj _ _ _ e hc▸hi))
  ·by_cases FK:c'=c
   ·subst FK;exact⟨_,ir⟩
   ·obtain⟨w2,z2⟩:=I.cell y c' e;exact⟨w2,z2.sameBut hs FK⟩
  ·obtain⟨e,n,ne,nf,d⟩:=I.pin p hp;refine⟨(hs.2 p.1 ?_).trans e,n,ne,nf,d⟩;intro q;rw[q,RF]at e;have q':oc=p.2:=Option.some.inj e;exact d w' (by rw[<- q'];exact Ud)
variable {s:Shared} in
theorem oz{Q:Unit->Shared->Prop}(I:Inv X pins σ H s)(hN:X.N.Nodup)(hi:X.N[i]?=some x)(hx:Loc X.env.scope x)(r:RelV v u)(h:∀s',Inv X pins (σ.set i (some v)) H s'->Q () s')(hf:X.fn x=true\/X.env.scope.names.lookup x=some .local:=by first|exact .inl rfl|exact .inr rfl|assumption):wpAny M A (storeName X.env x u) Q E s:=
 vX I hN hi hx r (fun s' I' _=>h s' I') hf
variable {s':Shared}
variable {s:Shared} in
theorem Inv.Kl(I:Inv X pins σ H s)(ho:s'.os=s.os)(u:Un (kR X.stack) ch H H' s.heap s'.heap)(bh:i6 X.prog X.w H' s'.heap)(hg:AllBare s'.gens)(pd:∀b∈ch,(b∈X.ex\/X.aL.heap.objs.size<=b)/\b≠X.env.locals/\(∀x c,X.env.cells.lookup x=some c->c≠b)/\∀p∈X.pn++pins,p.1≠b):Inv X pins σ H' s':=by
 obtain⟨h',g',d',t',o'⟩:=s';have e:o'=s.os:=ho;subst e;exact I.call (g':=g') (t':=t') (d':=d') u bh hg pd
abbrev XK:=Value->Option Addr->Hp->Prop
abbrev St:=List (Option V)
abbrev VK:=V->Hp->Prop
abbrev TE:=St->Hp->VK->Prop
abbrev TT:=St->Hp->(Bool->Hp->Prop)->Prop
abbrev TA:=St->Hp->(List V->Hp->Prop)->Prop
structure Ends where
 nx:St->Hp->Prop
 rt:VK
 bk:St->Hp->Prop:=fun _ _=>False
 ct:St->Hp->Prop:=fun _ _=>False
abbrev TS:=Ends->St->Hp->Prop
def EP (X:Cx) (pins:List (Addr×Obj)) (σ:St) (Q:VK) (u:Value) (s':Shared):Prop:=∃v H',Inv X pins σ H' s'/\RelV v u/\Q v H'
def TP (X:Cx) (pins:List (Addr×Obj)) (σ:St) (Q:Bool->Hp->Prop) (b:Bool) (s':Shared):Prop:=∃H',Inv X pins σ H' s'/\Q b H'
def AP (X:Cx) (pins:List (Addr×Obj)) (σ:St) (Q:List V->Hp->Prop) (us:List Value) (s':Shared):Prop:=∃vs H',Inv X pins σ H' s'/\Vals vs us/\Q vs H'
def SP (X:Cx) (pins:List (Addr×Obj)) (D:Ends) (f:Flow) (s':Shared):Prop:=
 match f with
 | .next=>∃bC H',Inv X pins bC H' s'/\D.nx bC H'
 | .brk=>∃bC H',Inv X pins bC H' s'/\D.bk bC H'
 | .cont=>∃bC H',Inv X pins bC H' s'/\D.ct bC H'
 | .ret u=>∃v bC H',Inv X pins bC H' s'/\RelV v u/\D.rt v H'
def PE (X:Cx) (e:Expr) (t:TE):Prop:=
 ∀(pins:List (Addr×Obj)) (s:Shared) (σ:St) (H:Hp) (Q:VK),Inv X pins σ H s->t σ H Q->wpAny (model X.prog X.w) X.A (eval e X.env) (EP X pins σ Q) X.xe s
def PT (X:Cx) (e:Expr) (t:TT):Prop:=
 ∀(pins:List (Addr×Obj)) (s:Shared) (σ:St) (H:Hp) (Q:Bool->Hp->Prop),Inv X pins σ H s->t σ H Q->wpAny (model X.prog X.w) X.A (isTrue e X.env (eval e X.env)) (TP X pins σ Q) X.xe s
def PW (X:Cx) (e:Expr) (t:TT):Prop:=
 ∀(whole:Sem Value) (pins:List (Addr×Obj)) (s:Shared) (σ:St) (H:Hp) (Q:Bool->Hp->Prop),Inv X pins σ H s->t σ H Q->wpAny (model X.prog X.w) X.A (isTrue e X.env whole) (TP X pins σ Q) X.xe s
variable {e:Expr}
theorem PW.pt{t:TT}(h:PW X e t):PT X e t:=h _
def PA (X:Cx) (es:List Expr) (t:TA):Prop:=
 ∀(pos:Pos) (pins:List (Addr×Obj)) (s:Shared) (σ:St) (H:Hp) (Q:List V->Hp->Prop),Inv X pins σ H s->t σ H Q->wpAny (model X.prog X.w) X.A (spliced (backTo pos (starEach es X.env))) (AP X pins σ Q) X.xe s
def PS (X:Cx) (st:Stmt) (t:TS):Prop:=
 ∀(pins:List (Addr×Obj)) (s:Shared) (σ:St) (H:Hp) (D:Ends),Inv X pins σ H s->t D σ H->wpAny (model X.prog X.w) X.A (exec st X.env) (SP X pins D) X.xe s
def kY (X:Cx) (st:List Stmt) (t:TS):Prop:=
 ∀(pins:List (Addr×Obj)) (s:Shared) (σ:St) (H:Hp) (D:Ends),Inv X pins σ H s->t D σ H->wpAny (model X.prog X.w) X.A (execs st X.env) (SP X pins D) X.xe s
variable {α:Type}
theorem bZ{t:Sem α}{Q Q':α->Shared->Prop}{s:Shared}(h:wpAny M A t Q E s)(hQ:∀a s,Q a s->Q' a s):wpAny M A t Q' E s:=wpAny_mono h hQ fun _ _ x=>x
open PySem PySem.Spec PyProof.Rows
def Tq (i:Nat):TE:=fun σ H Q=>∃v,σ[i]?=some (some v)/\Q v H
def tC (v:V):TE:=fun _ H Q=>Q v H
variable {pos:Pos}
theorem lY(hN:X.N[i]?=some x)(hv:mE X.env.scope x)(hd:(x==("__debug__" : Str))=false:=by decide)(gf:(x==("__classdict__" : Str))=false:=by decide):PE X (.Name x pos) (Tq i):=by
 intro pins s σ H Q I h;obtain⟨v,e,h⟩:=h;obtain⟨m,hn,hl⟩:=I.loc;obtain⟨u,r,l⟩:=hl i x v hN e hv;have fin:EP X pins σ Q u s:=⟨v,H,I,r,h⟩;rcases l with⟨hk,hm⟩|⟨hk,c,hc,K0⟩
 ·exact wpAny_Name (wpAny_loadName_local I.ok.kind hk hn hm fin) hd
 ·rcases hk with hk|hk
  ·exact wpAny_Name (wpAny_loadName_cell I.ok.kind hk hc K0 fin) hd
  ·exact wpAny_Name (wpAny_loadName_free I.ok.kind hk hc K0 fin gf) hd
theorem EC{i j pos}:PE X (.Constant (.int i) j pos) (tC (.int i)):=fun _ _ _ H _ I h=>wpAny_Constant_int ⟨.int i,H,I.tok _,⟨_,rfl⟩,h⟩
theorem Qd{b j pos}:PE X (.Constant (.bool b) j pos) (tC (.bl b)):=fun _ _ _ H _ I h=>Constant_bool ⟨.bl b,H,I,rfl,h⟩
theorem Nh{j pos}:PE X (.Constant .none j pos) (tC .bM):=fun _ _ _ H _ I h=>Constant_none ⟨.bM,H,I,rfl,h⟩
theorem Nc{x j pos}:PE X (.Constant (.str x) j pos) (tC (.str x)):=fun _ _ _ H _ I h=>Calls.Constant_str ⟨.str x,H,I.tok _,⟨_,rfl⟩,h⟩
def Gl (X:Cx) (x:Str):Prop:=X.env.kindOf x=some .globalImplicit
theorem Bx{s:Shared}{σ:St}{Q:Value->Shared->Prop}(I:Inv X pins σ H s)(hg:Gl X x)(hm:X.mg x=some u)(h:Q u s)(hd:(x==("__debug__" : Str))=false:=by decide):wpAny (model X.prog X.w) X.A (eval (.Name x pos) X.env) Q E s:=
 Calls.Name_function_global I.ok.kind hg (Calls.loadGlobal_global (by rw[I.ok.glob];exact I.mod.glob.keeps I.bk) hm h) hd
theorem mf{s:Shared}{σ:St}{Q:Value->Shared->Prop}(I:Inv X pins σ H s)(hg:Gl X x)(hm:X.mg x=none)(hv:bootBuiltins x=some u)(h:Q u s)(hn:x≠"__name__":=by decide)(hd:(x==("__debug__" : Str))=false:=by decide):wpAny (model X.prog X.w) X.A (eval (.Name x pos) X.env) Q E s:=by
 obtain⟨mb,h1,h2⟩:=I.mod.blt;exact Calls.Name_function_global I.ok.kind hg (Calls.loadGlobal_builtin (by rw[I.ok.glob];exact I.mod.glob.keeps I.bk) hm (by rw[I.ok.blt];exact h1.keeps I.bk) ((h2 x hn).trans hv) h) hd
theorem Lo(hg:Gl X x)(hm:X.mg x=some u)(r:RelV v u)(hd:(x==("__debug__" : Str))=false:=by decide):PE X (.Name x pos) (tC v):=
 fun _ _ _ H _ I h=>Bx I hg hm ⟨v,H,I,r,h⟩ hd
theorem Lq(hg:Gl X x)(hm:X.mg x=none)(hv:bootBuiltins x=some u)(r:RelV v u)(hn:x≠"__name__":=by decide)(hd:(x==("__debug__" : Str))=false:=by decide):PE X (.Name x pos) (tC v):=
 fun _ _ _ H _ I h=>mf I hg hm hv ⟨v,H,I,r,h⟩ hn hd
def TH (t u:TT):TT:=fun σ H Q=>t σ H fun c H1=>if c=true then u σ H1 Q else Q false H1
def UX (t u:TT):TT:=fun σ H Q=>t σ H fun c H1=>if c=true then Q true H1 else u σ H1 Q
def Tw (t:TT):TT:=fun σ H Q=>t σ H fun c H1=>Q (!c) H1
variable {a:Expr} {tA:TT}
theorem L9(ha:PT X a tA):PW X (.BoolOp .And [a] pos) tA:=by
 intro wh pins s σ H Q I h;refine isTrue_and (bZ (ha pins s σ H Q I h) fun c s1 e=>?_);cases c with
 |true=>exact isTrue_and_nil e
 |false=>exact e
theorem N5(ha:PT X a tA):PW X (.BoolOp .Or [a] pos) tA:=by
 intro wh pins s σ H Q I h;refine isTrue_or (bZ (ha pins s σ H Q I h) fun c s1 e=>?_);cases c with
 |false=>exact isTrue_or_nil e
 |true=>exact e
variable {Jl:TT} {b:Expr}
variable {rest:List Expr} in
theorem N6(ha:PT X a tA)(hb:PW X (.BoolOp .And (b::rest) pos) Jl):PW X (.BoolOp .And (a::b::rest) pos) (TH tA Jl):=by
 intro wh pins s σ H Q I h;refine isTrue_and (bZ (ha pins s σ H _ I h) fun c s1 ⟨H1,I1,q1⟩=>?_);cases c with
 |true=>exact hb wh pins s1 σ H1 Q I1 q1
 |false=>exact⟨H1,I1,q1⟩
variable {rest:List Expr} in
theorem Q6(ha:PT X a tA)(hb:PW X (.BoolOp .Or (b::rest) pos) Jl):PW X (.BoolOp .Or (a::b::rest) pos) (UX tA Jl):=by
 intro wh pins s σ H Q I h;refine isTrue_or (bZ (ha pins s σ H _ I h) fun c s1 ⟨H1,I1,q1⟩=>?_);cases c with
 |true=>exact⟨H1,I1,q1⟩
 |false=>exact hb wh pins s1 σ H1 Q I1 q1
theorem Et(ha:PT X a tA):PT X (.UnaryOp .Not a pos) (Tw tA):=by
 intro pins s σ H Q I h;exact isTrue_not (ha pins s σ H (fun c H1=>Q (!c) H1) I h)
variable {ta tb:TE}
def PY (ta tb:TE):TE:=fun σ H Q=>ta σ H fun x H1=>∃c,x=.bl c/\if c=true then tb σ H1 Q else Q (.bl false) H1
def Tv (ta tb:TE):TE:=fun σ H Q=>ta σ H fun x H1=>∃c,x=.bl c/\if c=true then Q (.bl true) H1 else tb σ H1 Q
def PN (ta:TE):TE:=fun σ H Q=>ta σ H fun x H1=>∃c,x=.bl c/\Q (.bl (!c)) H1
theorem Nf{op}{t:TE}(h:PE X a t):PE X (.BoolOp op [a] pos) t:=fun pins s σ H Q I hw=>BoolOp_one (h pins s σ H Q I hw)
variable {rest:List Expr} in
theorem Ni(ha:PE X a ta)(hb:PE X (.BoolOp .And (b::rest) pos) tb):PE X (.BoolOp .And (a::b::rest) pos) (PY ta tb):=by
 intro pins s σ H Q I h;refine BoolOp_and (bZ (ha pins s σ H _ I h) fun v s1 ⟨x,H1,I1,r1,q1⟩=>?_);obtain⟨c,rfl,q1⟩:=q1;cases r1;refine wpAny_truthy_bool ?_;cases c with
 |true=>exact hb pins s1 σ H1 Q I1 q1
 |false=>exact⟨.bl false,H1,I1,rfl,q1⟩
variable {rest:List Expr} in
theorem Qb(ha:PE X a ta)(hb:PE X (.BoolOp .Or (b::rest) pos) tb):PE X (.BoolOp .Or (a::b::rest) pos) (Tv ta tb):=by
 intro pins s σ H Q I h;refine BoolOp_or (bZ (ha pins s σ H _ I h) fun v s1 ⟨x,H1,I1,r1,q1⟩=>?_);obtain⟨c,rfl,q1⟩:=q1;cases r1;refine wpAny_truthy_bool ?_;cases c with
 |false=>exact hb pins s1 σ H1 Q I1 q1
 |true=>exact⟨.bl true,H1,I1,rfl,q1⟩
theorem Ng(ha:PE X a ta):PE X (.UnaryOp .Not a pos) (PN ta):=by
 intro pins s σ H Q I h;refine UnaryOp_ (bZ (ha pins s σ H _ I h) fun v s1 ⟨x,H1,I1,r1,q1⟩=>?_);obtain⟨c,rfl,q1⟩:=q1;cases r1;exact not_of (wpAny_truthy_bool ⟨.bl (!c),H1,I1,rfl,q1⟩)
def UY (t:TT) (ta tb:TE):TE:=fun σ H Q=>t σ H fun c H1=>if c=true then ta σ H1 Q else tb σ H1 Q
variable {c:Expr}
theorem HA(hc:PT X c tA)(ha:PE X a ta)(hb:PE X b tb):PE X (.IfExp c a b pos) (UY tA ta tb):=by
 intro pins s σ H Q I h;refine wpAny_IfExp (bZ (hc pins s σ H _ I h) fun d s1 ⟨H1,I1,q1⟩=>?_);cases d with
 |true=>exact ha pins s1 σ H1 Q I1 q1
 |false=>exact hb pins s1 σ H1 Q I1 q1
open PySem PySem.Spec PyProof.Rows
def fw (K:Frag) (H:Hp) (a:Addr) (xs:List V):Prop:=
 Rd H a (.lst xs)\/
  ∃(o:Obj) (ak:Array Value) (n:Nat),K.lookup a=some o/\o.cls=.type "list"/\o.dict=none/\o.data=.seq ak n/\ak.size<=sizeLine/\Vals xs ak.toList
def iT (K:Frag) (H:Hp) (a:Addr) (xs:List V):Prop:=
 Rd H a (.tup xs)\/
  ∃(o:Obj) (ak:Array Value) (n:Nat),K.lookup a=some o/\o.cls=.type "tuple"/\o.data=.seq ak n/\ak.size<=sizeLine/\Vals xs ak.toList
def UI:Value->Option V
 | .none=>some .bM
 | .bool b=>some (.bl b)
 | .int i _=>some (.int i)
 | .str x _=>some (.str x)
 | .bytes b _=>some (.mC b)
 | .float b _=>some (.Ox b)
 | .ref a=>some (.ref a)
 | .type n=>some (.ty n)
 |_=>none
theorem RelV.abs{x:V}(r:RelV x u):UI u=some x:=by
 cases x with
 |bM=>cases r;rfl
 |bl _=>cases r;rfl
 |int _=>obtain⟨t,rfl⟩:=r;rfl
 |str _=>obtain⟨t,rfl⟩:=r;rfl
 |mC _=>obtain⟨t,rfl⟩:=r;rfl
 |Ox _=>obtain⟨t,rfl⟩:=r;rfl
 |ref _=>cases r;rfl
 |ty _=>cases r;rfl
theorem RelV.inj{x y:V}(r:RelV x u)(q:RelV y u):x=y:=Option.some.inj (r.abs.symm.trans q.abs)
theorem Vals.inj:∀{xs ys:List V} {us:List Value},Vals xs us->Vals ys us->xs=ys
 |_,_,_,.nil,.nil=>rfl
 |_,_,_,.cons r t,.cons r' t'=>by rw[r.inj r',Vals.inj t t']
variable {a:Addr} {K:Frag}
theorem fw.of(h:H a=some (.lst xs)):fw K H a xs:=.inl (.inl h)
variable {σ:St}
variable {s:Shared} in
theorem Inv.list(I:Inv X pins σ H s)(h:fw X.K H a xs):∃ak:List Value,Vals xs ak/\PlainL s.heap a ak.toArray/\xs.length<=sizeLine:=by
 rcases h with h|⟨o,ak,n,hk,hc,hd,hs,hz,r⟩
 ·obtain⟨z,ak,n,r,e⟩:=h.ok I.bh;exact⟨ak,r,⟨_,n,e,rfl,rfl,rfl⟩,z⟩
 ·refine⟨ak.toList,r,⟨o,n,I.p7 a o hk,hc,hd,by simpa using hs⟩,?_⟩;have e:=r.length;simp only[length_toList]at e;omega
variable {s:Shared} in
theorem Inv.tuple(I:Inv X pins σ H s)(h:iT X.K H a xs):∃ak:List Value,Vals xs ak/\IsTup s.heap a ak.toArray/\xs.length<=sizeLine:=by
 rcases h with h|⟨o,ak,n,hk,hc,hs,hz,r⟩
 ·obtain⟨z,ak,r,p⟩:=h.ok I.bh;exact⟨ak,r,p,z⟩
 ·refine⟨ak.toList,r,⟨o,I.p7 a o hk,hc,n,by simpa using hs⟩,?_⟩;have e:=r.length;simp only[length_toList]at e;omega
variable {ys:List V}
variable {s:Shared} in
theorem Inv.sI(I:Inv X pins σ H s)(h:fw X.K H a xs)(h':fw X.K H a ys):xs=ys:=by
 obtain⟨ak,r,⟨o,n,e,_,_,d⟩,_⟩:=I.list h;obtain⟨its',r',⟨o',n',e',_,_,d'⟩,_⟩:=I.list h';rw[e]at e';cases e';rw[d]at d';injection d' with d1 _;have:ak=its':=by simpa using congrArg toList d1
 subst this;exact r.inj r'
variable {s:Shared} in
theorem Inv.vV(I:Inv X pins σ H s)(h:iT X.K H a xs)(h':iT X.K H a ys):xs=ys:=by
 obtain⟨ak,r,⟨o,e,_,n,d⟩,_⟩:=I.tuple h;obtain⟨its',r',⟨o',e',_,n',d'⟩,_⟩:=I.tuple h';rw[e]at e';cases e';rw[d]at d';injection d' with d1 _;have:ak=its':=by simpa using congrArg toList d1
 subst this;exact r.inj r'
abbrev Cx.nv (X:Cx) (E:Value->Shared->Prop):Cx:={X with xe:=E}
abbrev Cx.nV (X:Cx):Cx:=X.nv fun _ _=>False
theorem Cx.Ok.nv(ok:X.Ok)(E:Value->Shared->Prop):(X.nv E).Ok:=
 ⟨ok.mod,ok.kind,ok.glob,ok.blt,ok.above,ok.inj,ok.has,ok.GF,ok.hd,ok.frames,ok.Jo,ok.BU,ok.bs,ok.xi,ok.vf,ok.vv,ok.mv,ok.BN⟩
theorem Cx.Ok.kM(ok:(X.nv E).Ok):X.Ok:=
 ⟨ok.mod,ok.kind,ok.glob,ok.blt,ok.above,ok.inj,ok.has,ok.GF,ok.hd,ok.frames,ok.Jo,ok.BU,ok.bs,ok.xi,ok.vf,ok.vv,ok.mv,ok.BN⟩
variable {s:Shared} in
theorem Inv.nv(I:Inv X pins σ H s)(E:Value->Shared->Prop):Inv (X.nv E) pins σ H s:=⟨I.ok.nv E,I.os,I.bare,I.base,I.loc,I.cell,I.free,I.jk,I.pin,I.bh,I.len⟩
variable {s:Shared} in
theorem Inv.kM(I:Inv (X.nv E) pins σ H s):Inv X pins σ H s:=⟨I.ok.kM,I.os,I.bare,I.base,I.loc,I.cell,I.free,I.jk,I.pin,I.bh,I.len⟩
variable {D:Ends}
theorem SP.kM{f:Flow}(h:SP (X.nv E) pins D f s'):SP X pins D f s':=by
 cases f with
 |next=>obtain⟨bC,H',I,q⟩:=h;exact⟨bC,H',I.kM,q⟩
 |brk=>obtain⟨bC,H',I,q⟩:=h;exact⟨bC,H',I.kM,q⟩
 |cont=>obtain⟨bC,H',I,q⟩:=h;exact⟨bC,H',I.kM,q⟩
 |ret u=>obtain⟨v,bC,H',I,r,q⟩:=h;exact⟨v,bC,H',I.kM,r,q⟩
variable {t:TS}
theorem kY.nV{st:List Stmt}(h:kY X.nV st t):kY X st t:=fun pins s σ H D I hw=>
 wpAny_mono (h pins s σ H D (I.nv _) hw) (fun _ _ q=>q.kM) fun _ _ z=>False.elim z
def PQ:TS:=fun D σ H=>D.nx σ H
variable {u:TS}
def Ts (t u:TS):TS:=fun D σ H=>t {D with nx:=u D} σ H
theorem Ld:kY X [] PQ:=fun _ _ σ H _ I h=>wpAny_execs_nil ⟨σ,H,I,h⟩
variable {st:Stmt}
variable {rest:List Stmt} in
theorem Hr(h1:PS X st t)(h2:kY X rest u):kY X (st::rest) (Ts t u):=by
 intro pins s σ H D I h;refine wpAny_execs_cons (bZ (h1 pins s σ H {D with nx:=u D} I h) fun f s1 q=>?_);cases f with
 |next=>
  obtain⟨bC,H',I',q⟩:=q;exact h2 pins s1 bC H' D I' q
 |ret v=>exact q
 |brk=>exact q
 |cont=>exact q
theorem Ba(h1:PS X st t):kY X [st] t:=by
 intro pins s σ H D I h;refine wpAny_execs_cons (bZ (h1 pins s σ H D I h) fun f s1 q=>?_);cases f with
 |next=>exact wpAny_execs_nil q
 |ret v=>exact q
 |brk=>exact q
 |cont=>exact q
theorem Inv.quiet{σ:St}{s:Shared}(I:Inv X pins σ H s):interactive X.env=false:=by simp[interactive,I.ok.kind]
variable {te:TE}
def PV (te:TE):TS:=fun D σ H=>te σ H fun _ H1=>D.nx σ H1
theorem Le(he:PE X e te)(hs:swapsWith e none pos.line X.env=pure false:=by rfl):PS X (.Expr e pos) (PV te):=by
 intro pins s σ H D I h;exact wpAny_Expr_any (bZ (he pins s σ H _ I h) fun v s1 ⟨x,H1,I1,r1,q1⟩=>⟨σ,H1,I1,q1⟩) I.quiet hs
def Tt (te:TE):TS:=fun D σ H=>te σ H D.rt
theorem tR(he:PE X e te):PS X (.Return (some e) pos) (Tt te):=by
 intro pins s σ H D I h;exact wpAny_Return_some (bZ (he pins s σ H _ I h) fun v s1 ⟨x,H1,I1,r1,q1⟩=>⟨x,σ,H1,I1,r1,q1⟩)
def TB (c:TT) (t u:TS):TS:=fun D σ H=>c σ H fun b H1=>if b=true then t D σ H1 else u D σ H1
theorem Jv{a b:List Stmt}{tc:TT}(hc:PT X c tc)(ha:kY X a t)(hb:kY X b u):PS X (.If c a b pos) (TB tc t u):=by
 intro pins s σ H D I h;refine wpAny_If (bZ (hc pins s σ H _ I h) fun d s1 ⟨H1,I1,q1⟩=>?_);cases d with
 |true=>exact ha pins s1 σ H1 D I1 q1
 |false=>exact hb pins s1 σ H1 D I1 q1
abbrev TG:=V->St->Hp->(St->Hp->Prop)->Prop
abbrev rN:=List V->St->Hp->(St->Hp->Prop)->Prop
def PG (X:Cx) (target:Expr) (t:TG):Prop:=
 ∀(pins:List (Addr×Obj)) (s:Shared) (σ:St) (H:Hp) (v:V) (u:Value) (Q:St->Hp->Prop),Inv X pins σ H s->RelV v u->t v σ H Q->
  wpAny (model X.prog X.w) X.A (assign target X.env u) (fun _ s'=>∃bC H',Inv X pins bC H' s'/\Q bC H') X.xe s
def A8 (X:Cx) (ts:List Expr) (t:rN):Prop:=
 ∀(pins:List (Addr×Obj)) (s:Shared) (σ:St) (H:Hp) (vs:List V) (us:List Value) (Q:St->Hp->Prop),Inv X pins σ H s->Vals vs us->t vs σ H Q->
  wpAny (model X.prog X.w) X.A (assignInOrder ((assignEach ts X.env).map (·.2)) us) (fun _ s'=>∃bC H',Inv X pins bC H' s'/\Q bC H') X.xe s
abbrev DA:=V->V->V->Hp->(Hp->Prop)->Prop
def IW (X:Cx) (t:DA):Prop:=
 ∀(pins:List (Addr×Obj)) (s:Shared) (σ:St) (H:Hp) (o i v:V) (ov iv u:Value) (Q:Hp->Prop),Inv X pins σ H s->RelV o ov->RelV i iv->RelV v u->t o i v H Q->
  wpAny (model X.prog X.w) X.A (setItem ov iv u) (fun _ s'=>∃H',Inv X pins σ H' s'/\Q H') X.xe s
def Df (i:Nat):TG:=fun v σ H Q=>Q (σ.set i (some v)) H
theorem Ll(hN:X.N.Nodup)(hi:X.N[i]?=some x)(hx:Loc X.env.scope x)(hf:X.fn x=true\/X.env.scope.names.lookup x=some .local:=by first|exact .inl rfl|exact .inr rfl|assumption):PG X (.Name x pos) (Df i):=by
 intro pins s σ H v u Q I r h;exact wpAny_assign_Name (oz I hN hi hx r (fun s' I'=>⟨_,H,I',h⟩) hf)
def Uv:rN:=fun vs σ H Q=>vs=[]/\Q σ H
def Qy (t:TG) (u:rN):rN:=fun vs σ H Q=>∃v r,vs=v::r/\t v σ H fun bC H'=>u r bC H' Q
theorem Lk:A8 X [] Uv:=by
 intro pins s σ H vs us Q I r h;obtain⟨e,h⟩:=h;subst e;cases r;exact assignInOrder_nil ⟨σ,H,I,h⟩
variable {es:List Expr}
theorem Hy{t:TG}{u:rN}(h1:PG X e t)(h2:A8 X es u)(hs:(assignEach (e::es) X.env).map (·.2)=assign e X.env::(assignEach es X.env).map (·.2):=by rfl):A8 X (e::es) (Qy t u):=by
 intro pins s σ H vs us Q I r h;obtain⟨v,vr,e1,h⟩:=h;subst e1;cases r with
 |cons r rr=>
  rw[hs];refine assignInOrder_cons (bZ (h1 pins s σ H _ _ _ I r h) fun _ s1 ⟨AF,H1,I1,q1⟩=>?_);exact h2 pins s1 AF H1 _ _ Q I1 rr q1
def Ut (K:Frag) (n:Nat) (t:rN):TG:=fun v σ H Q=>∃a xs,v=.ref a/\iT K H a xs/\xs.length=n/\t xs σ H Q
theorem Nb{k:Nat}{t:rN}{n:Nat}(hc:X.calm=true)(h:A8 X es t)(hn:(assignEach es X.env).length=n:=by rfl)(hst:(assignEach es X.env).findIdx? (·.1)=none:=by rfl):PG X (.Tuple es k pos) (Ut X.K n t):=by
 intro pins s σ H v u Q I r hw;obtain⟨a,xs,e1,hq,hl,hw⟩:=hw;subst e1;cases r;obtain⟨ak,rv,ht,hz⟩:=I.tuple hq;refine assign_Tuple_tuple (I.ok.hd hc) ht (by simp[hn,<- hl,rv.length]) hst fun h' hx=>?_;have I1:Inv X pins σ H {s with heap:=h'}:=I.kept (t':=s.toks) fun b o e=>hx b o (ne_of_lt (lt_size e)) e;exact h pins _ σ H xs _ Q I1 (by simpa using rv) hw
def Uu (to ti:TE) (t:DA):TG:=fun v σ H Q=>to σ H fun o H1=>ti σ H1 fun i H2=>t o i v H2 fun H3=>Q σ H3
theorem yu{o i:Expr}{to ti:TE}{t:DA}(ho:PE X o to)(hi:PE X i ti)(hs:IW X t)(ha:∀v,assign (.Subscript o i pos) X.env v=(do
   let ov <- holding [v] (eval o X.env);let iv <- holding [v,ov] (eval i X.env);standAt pos
   holding [v,ov,iv] (setItem ov iv v)
   release [v,ov,iv] []):=by intro _;rfl):PG X (.Subscript o i pos) (Uu to ti t):=by
 intro pins s σ H v u Q I r h;rw[ha];refine wpAny_bind (wpAny_holding (bZ (ho pins s σ H _ I h) fun ov s1 ⟨x,H1,I1,r1,q1⟩=>?_));refine wpAny_bind (wpAny_holding (bZ (hi pins s1 σ H1 _ I1 q1) fun iv s2 ⟨y,H2,I2,r2,q2⟩=>?_));refine wpAny_bind (wpAny_standAt (wpAny_bind (wpAny_holding (bZ (hs pins s2 σ H2 x y v ov iv u _ I2 r1 r2 r q2) fun _ s3 ⟨H3,I3,q3⟩=>?_))));exact wpAny_release ⟨σ,H3,I3,q3⟩
def Hc (te:TE) (g:TG):TS:=fun D σ H=>te σ H fun x H1=>g x σ H1 D.nx
variable {tg:Expr}
theorem tT{g:TG}(he:PE X e te)(hg:PG X tg g)(hs:swapsWithSole [tg] e pos.line X.env=pure false:=by rfl)(hw:swappedStores [tg] e X.env=pure none:=by rfl)(h1:(assignEach [tg] X.env).map (·.2)=[assign tg X.env]:=by rfl):PS X (.Assign [tg] e pos) (Hc te g):=by
 intro pins s σ H D I h;refine wpAny_Assign_stores (bZ (he pins s σ H _ I h) fun v s1 ⟨x,H1,I1,r1,q1⟩=>?_) hs hw;rw[h1];exact bZ (hg pins s1 σ H1 x v _ I1 r1 q1) fun _ s2 q=>q
variable {pos':Pos}
theorem q8(hN:X.N.Nodup)(hi:X.N[i]?=some x)(hx:Loc X.env.scope x)(he:PE X e te)(hs:swapsWith e (some (.Name x pos')) pos.line X.env=pure false:=by rfl)(hf:X.fn x=true\/X.env.scope.names.lookup x=some .local:=by first|exact .inl rfl|exact .inr rfl|assumption):
  PS X (.Assign [.Name x pos'] e pos) (Hc te (Df i)):=by
 intro pins s σ H D I h;refine wpAny_Assign_Name (bZ (he pins s σ H _ I h) fun v s1 ⟨y,H1,I1,r1,q1⟩=>?_) hs;exact oz I1 hN hi hx r1 (fun s2 I2=>⟨_,H1,I2,q1⟩) hf
def Tu (i j:Nat) (ta:TA):TS:=fun D σ H=>ta σ H fun vs H1=>∃v w,vs=[v,w]/\D.nx ((σ.set i (some v)).set j (some w)) H1
variable {a:Expr} {px:Pos}
theorem N7{j:Nat}{y:Str}{ta:TA}{py pt:Pos}{kt k2 yn}(hc:X.calm=true)(hN:X.N.Nodup)(hi:X.N[i]?=some x)(hj:X.N[j]?=some y)(Od:i≠j)(hx:X.env.scope.names.lookup x=some .local)(hy:X.env.scope.names.lookup y=some .local)(ha:PA X [a,b] ta)(hw:swappedStores [.Tuple [.Name x px,.Name y py] kt pt] (.Tuple [a,b] k2 yn) X.env=pure (some [x,y]))(hs:swapsWithSole [.Tuple [.Name x px,.Name y py] kt pt] (.Tuple [a,b] k2 yn) pos.line X.env=pure false:=by rfl):
  PS X (.Assign [.Tuple [.Name x px,.Name y py] kt pt] (.Tuple [a,b] k2 yn) pos) (Tu i j ta):=by
 intro pins s σ H D I h;rw[exec_Assign_arm];refine wpAny_bind (wpAny_standAt ?_);rw[hs];refine wpAny_bind (wpAny_pure ?_);rw[if_neg (by decide)];refine wpAny_bind (Tuple_ (bZ (ha _ pins s σ H _ I h) fun us s1 ⟨vs,H1,I1,r1,q1⟩=>?_));obtain⟨v,w,e1,q1⟩:=q1;subst e1;obtain⟨u1,u2,rfl,rv,pU⟩:∃u1 u2,us=[u1,u2]/\RelV v u1/\RelV w u2:=by
  cases r1 with
  |cons p q=>
   cases q with
   |cons p' q'=>
    cases q';exact⟨_,_,rfl,p,p'⟩
 refine wpAny_newObj_type ?_ (by show 2<=sizeLine;decide);have I2:Inv X pins σ H1 {s1 with heap:=s1.heap.push {cls:=.type "tuple",data:=.seq [u1,u2].toArray}}:=I1.kept (t':=s1.toks) fun b o e=>get?_push_of_some _ e;rw[hw];refine wpAny_bind (wpAny_pure ?_);show wpAny (model X.prog X.w) X.A (do rule "assign.swapped-stores";let items <- unpackItems (.ref s1.heap.objs.size) 2 none;assignInOrder [fun v=>bindName X.env y v,fun v=>bindName X.env x v] items.reverse;pure Flow.next) _ _ _
 refine wpAny_bind (wpAny_rule (wpAny_bind (unpackItems_tuple (items:=#[u1,u2]) (I.ok.hd hc) (IsTup.new s1.heap _) fun h' yP=>?_)));have I3:=I2.kept (h':=h') (t':=s1.toks) fun b o e=>yP b o (ne_of_lt (lt_size e)) e;show wpAny _ _ (assignInOrder [fun v=>bindName X.env y v,fun v=>bindName X.env x v] [u2,u1] >>= fun _=>pure Flow.next) _ _ _
 refine wpAny_bind (assignInOrder_cons (wpAny_bindName (oz I3 hN hj (.inl hy) pU (fun s2 I4=>?_) (.inr hy))));refine assignInOrder_cons (wpAny_bindName (oz I4 hN hi (.inl hx) rv (fun s3 I5=>assignInOrder_nil (wpAny_pure ?_)) (.inr hx)));rw[List.set_comm _ _ (Ne.symm Od)]at I5;exact⟨_,H1,I5,q1⟩
def MC (c:TT) (tb:TS):TS:=fun D σ H=>∃W:Nat->St->Hp->Prop,(∃m,W m σ H)/\∀m σ H,W m σ H->
 c σ H fun b H1=>if b=true then ∃N:St->Hp->Prop,(∀bC H',N bC H'->∃m',m'<m/\W m' bC H')/\tb {D with nx:=N,ct:=N,bk:=D.nx} σ H1 else D.nx σ H1
variable {body:List Stmt}
theorem Ht{tc:TT}{tb:TS}(hp:PassesOwn (model X.prog X.w) X.A X.env X.xe)(hc:PT X c tc)(hb:kY X body tb):PS X (.While c body [] pos) (MC tc tb):=by
 intro pins s σ H D I h;obtain⟨W,⟨m0,w0⟩,turn⟩:=h;refine wpAny_While (codeAny_whileLoop (fun n s'=>∃bC H',Inv X pins bC H' s'/\W n bC H') ?_ m0 ⟨σ,H,I,w0⟩);rintro n s1 ⟨AF,H1,I1,w1⟩;refine wpAny_passesOwn hp (bZ (hc pins s1 AF H1 _ I1 (turn n AF H1 w1)) fun b s2 ⟨H2,I2,q2⟩=>?_);cases b with
 |true=>
  obtain⟨N,hN,q2⟩:=q2;rw[if_pos rfl];refine wpAny_passesOwn hp (bZ (hb pins s2 AF H2 _ I2 q2) fun f s3 q3=>?_);cases f with
  |next=>
   obtain⟨pF,H3,I3,n3⟩:=q3;obtain⟨m',hm,w3⟩:=hN pF H3 n3;exact⟨m',hm,pF,H3,I3,w3⟩
  |cont=>
   obtain⟨pF,H3,I3,n3⟩:=q3;obtain⟨m',hm,w3⟩:=hN pF H3 n3;exact⟨m',hm,pF,H3,I3,w3⟩
  |brk=>exact q3
  |ret v=>exact q3
 |false=>
  rw[if_neg Bool.false_ne_true];exact wpAny_execs_nil ⟨AF,H2,I2,q2⟩
structure It where
 go:Nat->Hp->Prop
 vS:Nat->Hp->V->Hp->Prop
 stop:Nat->Hp->Prop
def p0 (X:Cx) (pins:List (Addr×Obj)) (H:Hp) (b:Addr):Prop:=
 H b=none/\b≠X.env.locals/\b∉X.fs/\(b∈X.ex\/X.aL.heap.objs.size<=b)/\(∀x c,X.env.cells.lookup x=some c->c≠b)/\∀p∈X.pn++pins,p.1≠b
theorem Inv.vt{σ:St}{s:Shared}{b:Addr}(I:Inv X pins σ H s)(hb:s.heap.objs.size<=b)(hn:H' b=none):p0 X pins H' b:=by
 refine⟨hn,Nat.ne_of_gt (lt_of_lt_of_le I.lt hb),I.TY hb,.inr (le_trans I.sz hb),fun x c e z=>?_,fun p hp z=>?_⟩
 ·obtain⟨v,q⟩:=I.cell x c e;exact absurd (lt_of_lt_of_le q.lt (by rw[z];exact hb)) (lt_irrefl _)
 ·exact absurd (lt_of_lt_of_le (lt_size (I.pin p hp).1) (by rw[z];exact hb)) (lt_irrefl _)
structure Turn (P:Program) (w:World) (K:Frag) (tg:Expr) (J:It) (fp:List Addr) (it:Addr) (tn:Nat->Heap->Prop):Prop where
 mem:it∈fp
 obj:∀i h,tn i h->∀b∈fp,∃o,h.get? b=some o/\∀v,o.data≠.cell v
 keep:∀i h h',tn i h->(∀b∈fp,∀o,h.get? b=some o->h'.get? b=some o)->tn i h'
 item:∀(X:Cx),X.prog=P->X.w=w->X.K=K->X.calm=true->∀(i:Nat) (pins:List (Addr×Obj)) (s:Shared) (σ:St) (H:Hp) (E:Value->Shared->Prop),Inv X pins σ H s->(∀b∈fp,p0 X pins H b)->tn i s.heap->J.go i H->
  wpAny (model P w) X.A (pyNext (.ref it)) (fun r s1=>∃u,r=some u/\
   wpAny (model P w) X.A (letOwnedTupleGo tg (.ref it) u) (fun _ s2=>∃x H',Inv X pins σ H' s2/\RelV x u/\J.vS i H x H'/\tn (i+1) s2.heap/\∀b∈fp,H' b=none) E s1) E s
 done:∀(X:Cx),X.prog=P->X.w=w->X.K=K->X.calm=true->∀(i:Nat) (pins:List (Addr×Obj)) (s:Shared) (σ:St) (H:Hp) (E:Value->Shared->Prop),Inv X pins σ H s->(∀b∈fp,p0 X pins H b)->tn i s.heap->J.stop i H->
  wpAny (model P w) X.A (pyNext (.ref it)) (fun r s1=>r=none/\Inv X pins σ H s1) E s
 self:∀(A:Around) (i:Nat) (s:Shared) (Q:Value->Shared->Prop) (E:Value->Shared->Prop),tn i s.heap->Q (.ref it) s->wpAny (model P w) A (pyIter (.ref it)) Q E s
abbrev TI:=St->Hp->(It->Hp->Prop)->Prop
def Ph (X:Cx) (pins:List (Addr×Obj)) (σ:St) (tg:Expr) (R:It->Hp->Prop) (JO:Value) (s2:Shared):Prop:=
 ∃(it:Addr) (fp:List Addr) (tn:Nat->Heap->Prop) (J:It) (H':Hp),JO=.ref it/\Inv X pins σ H' s2/\Turn X.prog X.w X.K tg J fp it tn/\tn 0 s2.heap/\(∀b∈fp,p0 X pins H' b)/\R J H'
def PI (X:Cx) (tg iter:Expr) (wi:TI):Prop:=
 ∀(pins:List (Addr×Obj)) (s:Shared) (σ:St) (H:Hp) (R:It->Hp->Prop),Inv X pins σ H s->wi σ H R->
  wpAny (model X.prog X.w) X.A (eval iter X.env) (fun v s1=>wpAny (model X.prog X.w) X.A (pyIter v) (Ph X pins σ tg R) X.xe s1) X.xe s
theorem xI{s:Shared}{it:Addr}{u:Value}{n:String}{vs:Array Value}{Q:Unit->Shared->Prop}(ho:s.heap.get? it=some o)(hc:o.cls=.type n)(hd:o.data=.fields vs)(hn:["enumerate","zip","dict_itemiterator","dict_reverseitemiterator","odict_iterator","itertools.zip_longest","itertools.pairwise"].contains n=false)(hQ:Q () s):wpAny M A (letOwnedTupleGo tg (.ref it) u) Q E s:=by
 unfold letOwnedTupleGo;cases tg<;>first
  |exact wpAny_pure hQ
  |(cases u<;>first
    |exact wpAny_pure hQ
    |(refine wpAny_bind (wpAny_load ho ?_)
      rw[hc,hd];show wpAny M A (if(["enumerate","zip","dict_itemiterator","dict_reverseitemiterator","odict_iterator","itertools.zip_longest","itertools.pairwise"].contains n&&vs[0]? == some (rawInt _))=true then _ else _) Q E s;rw[if_neg (by intro h;rw[hn,Bool.false_and]at h;cases h)];exact wpAny_pure hQ))
def Pm (K:Frag) (a:Addr):It:=
 ⟨fun i H=>∃xs x,fw K H a xs/\xs[i]?=some x,fun i H x H'=>H'=H/\∀xs,fw K H a xs->xs[i]?=some x,fun i H=>∃xs,fw K H a xs/\xs.length<=i⟩
def Pl (K:Frag) (a:Addr):It:=
 ⟨fun i H=>∃xs x,iT K H a xs/\xs[i]?=some x,fun i H x H'=>H'=H/\∀xs,iT K H a xs->xs[i]?=some x,fun i H=>∃xs,iT K H a xs/\xs.length<=i⟩
def Kw (lo:Int) (n:Nat):It:=⟨fun i _=>i<n,fun i H x H'=>H'=H/\x=.int (lo+i),fun i _=>n<=i⟩
theorem DT(a it:Addr):Turn P w K tg (Pm K a) [it] it (fun i h=>h.IsListIter it a i) where
 mem:=by simp
 obj:=fun i h st b hb=>by
  have e:b=it:=by simpa using hb
  subst e;obtain⟨o,e,c,d⟩:=st;exact⟨o,e,fun v z=>by rw[d]at z;cases z⟩
 keep:=fun i h h' st k=>st.at fun o e=>k it (by simp) o e
 item:=by
  intro X hP hw hK hc i pins s σ H E I hf st hg;subst hP hw hK;obtain⟨xs,x,hq,hx⟩:=hg;obtain⟨ak,rv,p,hz⟩:=I.list hq;obtain⟨u,hu,ru⟩:=rv.get hx;obtain⟨f0,f1,f2,f3,f4,f5⟩:=hf it (by simp);refine wpAny_pyNext_list_item st p.isList (x:=u) (by simpa using hu) fun h' vY sb=>?_;have I1:Inv X pins σ H {s with heap:=h'}:=I.turned (t':=s.toks) (fun b o hb e=>(sb.2 b hb).trans e) f0 f1 f3 f4 f5;obtain⟨o,e,c,d⟩:=id vY;exact⟨u,rfl,xI (s:={s with heap:=h'}) e c d (by decide) ⟨x,H,I1,ru,⟨rfl,fun ys hy=>by rw[I.sI hy hq];exact hx⟩,vY,fun b hb=>(hf b hb).1⟩⟩
 done:=by
  intro X hP hw hK hc i pins s σ H E I hf st hg;subst hP hw hK;obtain⟨xs,hq,hx⟩:=hg;obtain⟨ak,rv,p,hz⟩:=I.list hq;obtain⟨f0,f1,f2,f3,f4,f5⟩:=hf it (by simp);have hl:=rv.length;exact wpAny_pyNext_list_end (I.ok.hd hc) st p.isList (by simp;omega) fun h' eb=>⟨rfl,I.turned (t':=s.toks) (fun b o hb e=>eb b o hb e) f0 f1 f3 f4 f5⟩
 self:=fun _ _ _ _ _ st h=>wpAny_pyIter_listiter st h
theorem Cp(a it:Addr):Turn P w K tg (Pl K a) [it] it (fun i h=>h.IsTupleIter it a i) where
 mem:=by simp
 obj:=fun i h st b hb=>by
  have e:b=it:=by simpa using hb
  subst e;obtain⟨o,e,c,d⟩:=st;exact⟨o,e,fun v z=>by rw[d]at z;cases z⟩
 keep:=fun i h h' st k=>st.at fun o e=>k it (by simp) o e
 item:=by
  intro X hP hw hK hc i pins s σ H E I hf st hg;subst hP hw hK;obtain⟨xs,x,hq,hx⟩:=hg;obtain⟨ak,rv,p,hz⟩:=I.tuple hq;obtain⟨u,hu,ru⟩:=rv.get hx;obtain⟨f0,f1,f2,f3,f4,f5⟩:=hf it (by simp);refine wpAny_pyNext_tuple_item st (show s.heap.IsTuple a ak.toArray from p) (x:=u) (by simpa using hu) fun h' vY sb=>?_;have I1:Inv X pins σ H {s with heap:=h'}:=I.turned (t':=s.toks) (fun b o hb e=>(sb.2 b hb).trans e) f0 f1 f3 f4 f5;obtain⟨o,e,c,d⟩:=id vY;exact⟨u,rfl,xI (s:={s with heap:=h'}) e c d (by decide) ⟨x,H,I1,ru,⟨rfl,fun ys hy=>by rw[I.vV hy hq];exact hx⟩,vY,fun b hb=>(hf b hb).1⟩⟩
 done:=by
  intro X hP hw hK hc i pins s σ H E I hf st hg;subst hP hw hK;obtain⟨xs,hq,hx⟩:=hg;obtain⟨ak,rv,p,hz⟩:=I.tuple hq;obtain⟨f0,f1,f2,f3,f4,f5⟩:=hf it (by simp);have hl:=rv.length;exact wpAny_pyNext_tuple_end (I.ok.hd hc) st (show s.heap.IsTuple a ak.toArray from p) (by simp;omega) fun h' eb=>⟨rfl,I.turned (t':=s.toks) (fun b o hb e=>eb b o hb e) f0 f1 f3 f4 f5⟩
 self:=fun _ _ _ _ _ st h=>wpAny_pyIter_tupleiter st h
theorem Cq(it:Addr)(lo:Int)(n:Nat):Turn P w K tg (Kw lo n) [it] it (fun i h=>IsRangeIter h it (lo+(i:Nat)*1) ((n:Int)-(i:Nat)) 1) where
 mem:=by simp
 obj:=fun i h st b hb=>by
  have e:b=it:=by simpa using hb
  subst e;exact⟨_,st,fun v z=>by
   have z':Data.fields _=Data.cell v:=z;cases z'⟩
 keep:=fun i h h' st k=>k it (by simp) _ st
 item:=by
  intro X hP hw hK hc i pins s σ H E I hf st hg;subst hP hw hK;obtain⟨f0,f1,f2,f3,f4,f5⟩:=hf it (by simp);have W:=Walks.range (prog:=X.prog) (w:=X.w) (I.ok.hd hc) it lo 1 n;refine W.item i s _ _ hg st fun v h' tk hv vY kk=>?_;obtain⟨t,rfl⟩:=hv;have I1:Inv X pins σ H {s with heap:=h',toks:=tk}:=I.turned (fun b o hb e=>kk b o (by simpa using hb) e) f0 f1 f3 f4 f5;refine⟨_,rfl,xI (s:={s with heap:=h',toks:=tk}) (n:="range_iterator") vY rfl rfl (by decide) ⟨.int (lo+i),H,I1,⟨t,?_⟩,⟨rfl,rfl⟩,vY,fun b hb=>(hf b hb).1⟩⟩;rw[Int.mul_one]
 done:=by
  intro X hP hw hK hc i pins s σ H E I hf st hg;subst hP hw hK;obtain⟨f0,f1,f2,f3,f4,f5⟩:=hf it (by simp);exact wpAny_pyNext_range_end (I.ok.hd hc) st (by have:n<=i:=hg;omega) fun h' eb=>⟨rfl,I.turned (t':=s.toks) (fun b o hb e=>eb b o hb e) f0 f1 f3 f4 f5⟩
 self:=fun _ _ _ _ _ st h=>wpAny_pyIter_rangeiter st h
open PySem PySem.Spec PyProof.Rows
theorem Hk{σ:St}{s:Shared}{R:It->Hp->Prop}{lo hi:Int}{t u v:Tok}{tk:Nat}(I:Inv X pins σ H s)(h1: -(2^62)<=lo)(h2:lo<2^62)(h3: -(2^62)<=hi)(h4:hi<2^62)(q:R (Kw lo (hi-lo).toNat) H):wpAny (model X.prog X.w) X.A (pyIter (.ref s.heap.objs.size)) (Ph X pins σ tg R) E {s with heap:=s.heap.push {cls:=.type "range",data:=.fields #[.int lo t,.int hi u,.int 1 v]},toks:=tk}:=by
 refine wpAny_pyIter_range (IsRange.new ..) (small_one h1 h2 h3 h4) ?_;have I1:Inv X pins σ H {s with heap:=s.heap.push {cls:=.type "range",data:=.fields #[.int lo t,.int hi u,.int 1 v]},toks:=tk}:=I.kept fun b o e=>get?_push_of_some _ e;refine⟨(s.heap.push {cls:=.type "range",data:=.fields #[.int lo t,.int hi u,.int 1 v]}).objs.size,[(s.heap.push {cls:=.type "range",data:=.fields #[.int lo t,.int hi u,.int 1 v]}).objs.size],_,_,H,rfl,
  I1.kept (t':=tk) fun b o e=>get?_push_of_some _ e,Cq _ lo (hi-lo).toNat,?_,fun b hb=>?_,q⟩
 ·have e1:lo+((0:Nat):Int)*1=lo:=by simp
  have e2:(((hi-lo).toNat:Nat):Int)-((0:Nat):Int)=Builtin.Range.rangeSize lo hi 1:=by rw[rangeSize_one];split<;>omega
  show IsRangeIter _ _ (lo+((0:Nat):Int)*1) ((((hi-lo).toNat:Nat):Int)-((0:Nat):Int)) 1;rw[e1,e2];exact get?_push_size _ rfl
 ·have e:b=(s.heap.push {cls:=.type "range",data:=.fields #[.int lo t,.int hi u,.int 1 v]}).objs.size:=by simpa using hb
  subst e;exact I1.vt (le_refl _) (I1.bh.fresh (le_refl _))
def Qn (ta:TA):TI:=fun σ H R=>ta σ H fun vs H1=>∃j:Int,vs=[.int j]/\-(2^62)<=j/\j<2^62/\R (Kw 0 j.toNat) H1
theorem wy{ta:TA}{p:Pos}(hg:Gl X "range")(hm:X.mg "range"=none)(ha:PA X [a] ta)(hs:starEach [a] X.env=[(false,eval a X.env)]:=by rfl):PI X tg (.Call (.Name "range" p) [a] [] pos) (Qn ta):=by
 intro pins s σ H R I h;refine Call_ (mf I hg hm boot_range (PyProof.Rows.callWith_type1 (bZ (ha pos pins s σ H _ I h) fun us s1 ⟨vs,H1,I1,r1,q1⟩=>?_) hs rfl));obtain⟨j,e,q1,q2,q⟩:=q1;subst e;cases r1 with
 |cons r rr=>
  cases rr;obtain⟨t,rfl⟩:=r;exact call_range_1 (Hk I1 (by omega) (by omega) q1 q2 (by simpa using q))
def TF (wi:TI) (g:TG) (tb:TS):TS:=fun D σ H=>wi σ H fun J H1=>∃W:Nat->Nat->St->Hp->Prop,(∃m,W 0 m σ H1)/\∀i m σ H,W i m σ H->
 (J.stop i H/\D.nx σ H)\/(J.go i H/\∃N:St->Hp->Prop,(∀bC H',N bC H'->∃m',m'<m/\W (i+1) m' bC H')/\∀x H',J.vS i H x H'->g x σ H' fun fS H2=>tb {D with nx:=N,ct:=N,bk:=D.nx} fS H2)
def nS (fp:List Addr) (h:Heap):List (Addr×Obj):=fp.filterMap fun b=>(h.get? b).map fun o=>(b,o)
variable {fp:List Addr}
theorem iO{b:Addr}(hb:b∈fp)(e:h.get? b=some o):(b,o)∈nS fp h:=List.mem_filterMap.mpr ⟨b,hb,by rw[e];rfl⟩
theorem ER{p:Addr×Obj}(hp:p∈nS fp h):p.1∈fp/\h.get? p.1=some p.2:=by
 obtain⟨b,hb,e⟩:=List.mem_filterMap.mp hp;cases q:h.get? b with
 |none=>rw[q]at e;cases e
 |some o=>
  rw[q]at e;have e':(b,o)=p:=Option.some.inj e;subst e';exact⟨hb,q⟩
theorem Inv.pinned{σ:St}{s:Shared}(I:Inv X pins σ H s)(hf:∀b∈fp,p0 X pins H b)(ho:∀b∈fp,∃o,s.heap.get? b=some o/\∀v,o.data≠.cell v):Inv X (pins++nS fp s.heap) σ H s:=
 I.jB fun p hp=>(mem_append.mp hp).elim (fun z=>I.pin p (mem_append_right _ z)) fun z=>by
  obtain⟨hb,e⟩:=ER z;obtain⟨f0,f1,f2,_⟩:=hf p.1 hb;obtain⟨o,e',d⟩:=ho p.1 hb;rw[e]at e';cases e';exact⟨e,f0,f1,f2,d⟩
theorem Inv.rV{pl:List (Addr×Obj)}{σ:St}{s:Shared}(I:Inv X (pins++pl) σ H s):Inv X pins σ H s:=I.jB fun p hp=>I.pin p (mem_append_right _ (mem_append_left _ hp))
variable {iter:Expr} {wi:TI}
theorem yq{g:TG}{tb:TS}(hp:PassesOwn (model X.prog X.w) X.A X.env X.xe)(hc:X.calm=true)(hi:PI X tg iter wi)(hg:PG X tg g)(hb:kY X body tb)(hs:∀x,foldedSetIterable iter X.env x=pure x:=by intro _;rfl):PS X (.For tg iter body [] pos) (TF wi g tb):=by
 intro pins s σ H D I h;refine wpAny_For (bZ (hi pins s σ H _ I h) fun v s1 h1=>bZ h1 fun JO s2 h2=>?_) hs;obtain⟨it,fp,tn,J,H2,e,I2,T,jP,f2,W,⟨m0,w0⟩,turn⟩:=h2;subst e

 have lU:∀{H':Hp},(∀b∈fp,H' b=none)->∀b∈fp,p0 X pins H' b:=fun hn b hb=>⟨hn b hb,(f2 b hb).2⟩;refine codeAny_forLoop_any (fun n s'=>∃i bC H',Inv X pins bC H' s'/\tn i s'.heap/\(∀b∈fp,H' b=none)/\W i n bC H') ?_ m0 ⟨0,σ,H2,I2,jP,fun b hb=>(f2 b hb).1,w0⟩;rintro n s3 ⟨i,pF,H3,I3,R8,S9,w3⟩;rcases turn i n pF H3 w3 with⟨stop,qn⟩|⟨go,N,hN,step⟩
 ·refine wpAny_passesOwn hp (bZ (T.done X rfl rfl rfl hc i pins s3 pF H3 X.xe I3 (lU S9) R8 stop) fun r s4 ⟨hr,I4⟩=>?_);subst hr;exact wpAny_execs_nil ⟨pF,H3,I4,qn⟩
 ·refine wpAny_passesOwn hp (bZ (T.item X rfl rfl rfl hc i pins s3 pF H3 X.xe I3 (lU S9) R8 go) fun r s4 ⟨u,hr,h4⟩=>?_);subst hr;refine wpAny_passesOwn hp (bZ h4 fun _ s5 ⟨x,H5,I5,r5,y5,pN,FU⟩=>?_);have GR:=I5.pinned (lU FU) (T.obj _ _ pN);refine wpAny_passesOwn hp (bZ (hg _ s5 pF H5 x u _ GR r5 (step x H5 y5)) fun _ s6 ⟨tf,H6,I6,q6⟩=>?_);refine wpAny_passesOwn hp (bZ (hb _ s6 tf H6 _ I6 q6) fun f s7 q7=>?_);have again:∀{pE:St} {H7:Hp},Inv X (pins++nS fp s5.heap) pE H7 s7->N pE H7->∃m,m<n/\∃i bC H',Inv X pins bC H' s7/\tn i s7.heap/\(∀b∈fp,H' b=none)/\W i m bC H':=fun{pE H7} I7 n7=>by
   obtain⟨m',hm,w7⟩:=hN pE H7 n7;refine⟨m',hm,i+1,pE,H7,I7.rV,T.keep _ _ _ pN fun b hb o e=>(I7.pin (b,o) (mem_append_right _ (mem_append_right _ (iO hb e)))).1,fun b hb=>?_,w7⟩;obtain⟨o,e,d⟩:=T.obj _ _ pN b hb;exact(I7.pin (b,o) (mem_append_right _ (mem_append_right _ (iO hb e)))).2.1
  cases f with
  |next=>obtain⟨pE,H7,I7,n7⟩:=q7;exact again I7 n7
  |cont=>obtain⟨pE,H7,I7,n7⟩:=q7;exact again I7 n7
  |brk=>obtain⟨pE,H7,I7,q7⟩:=q7;exact⟨pE,H7,I7.rV,q7⟩
  |ret v=>obtain⟨x7,pE,H7,I7,r7,q7⟩:=q7;exact⟨x7,pE,H7,I7.rV,r7,q7⟩
open PySem PySem.Spec PyProof.Rows
abbrev R2:=V->V->Hp->VK->Prop
def eC (X:Cx) (f:Value->Value->Sem Value) (r:R2):Prop:=
 ∀(pins:List (Addr×Obj)) (s:Shared) (σ:St) (H:Hp) (x y:V) (v u:Value) (Q:VK),Inv X pins σ H s->RelV x v->RelV y u->r x y H Q->
  wpAny (model X.prog X.w) X.A (f v u) (EP X pins σ Q) X.xe s
def Kp (X:Cx) (f:Value->Sem Value) (r:V->Hp->VK->Prop):Prop:=
 ∀(pins:List (Addr×Obj)) (s:Shared) (σ:St) (H:Hp) (x:V) (v:Value) (Q:VK),Inv X pins σ H s->RelV x v->r x H Q->
  wpAny (model X.prog X.w) X.A (f v) (EP X pins σ Q) X.xe s
def k8 (X:Cx) (f:Value) (r:List V->Hp->VK->Prop):Prop:=
 ∀(pins:List (Addr×Obj)) (s:Shared) (σ:St) (H:Hp) (xs:List V) (us:List Value) (Q:VK),Inv X pins σ H s->Vals xs us->r xs H Q->
  wpAny (model X.prog X.w) X.A (call f us) (EP X pins σ Q) X.xe s
def UJ (X:Cx) (r:V->Hp->(Bool->Hp->Prop)->Prop):Prop:=
 ∀(pins:List (Addr×Obj)) (s:Shared) (σ:St) (H:Hp) (x:V) (v:Value) (Q:Bool->Hp->Prop),Inv X pins σ H s->RelV x v->r x H Q->
  wpAny (model X.prog X.w) X.A (truthy v) (TP X pins σ Q) X.xe s
def AN (r:R2) (ta tb:TE):TE:=fun σ H Q=>ta σ H fun x H1=>tb σ H1 fun y H2=>r x y H2 Q
def UU (r:V->Hp->VK->Prop) (ta:TE):TE:=fun σ H Q=>ta σ H fun x H1=>r x H1 Q
def rI (C:Int->Int->Prop) (g:Int->Int->V):R2:=fun x y H Q=>∃i j,x=.int i/\y=.int j/\C i j/\Q (g i j) H
def wc (g:Int->Int->V):R2:=fun x y H Q=>∃i j,x=.int i/\y=.int j/\Q (g i j) H
def rU (g:Int->V):V->Hp->VK->Prop:=fun x H Q=>∃i,x=.int i/\Q (g i) H
variable {f:Value->Value->Sem Value}
theorem IP(ha:PE X a ta)(hb:PE X b tb){s:Shared}{σ:St}{R:V->V->Hp->Prop}(I:Inv X pins σ H s)(h:ta σ H fun x H1=>tb σ H1 fun y H2=>R x y H2){Q:Value->Shared->Prop}(hf:∀v u s2 x y H2,Inv X pins σ H2 s2->RelV x v->RelV y u->R x y H2->wpAny (model X.prog X.w) X.A (f v u) Q X.xe s2):
  wpAny (model X.prog X.w) X.A (eval a X.env) (fun v bS=>wpAny (model X.prog X.w) X.A (eval b X.env) (fun u bx=>wpAny (model X.prog X.w) X.A (f v u) Q X.xe bx) X.xe bS) X.xe s:=by
 refine bZ (ha pins s σ H _ I h) fun v s1 ⟨x,H1,I1,r1,q1⟩=>?_;refine bZ (hb pins s1 σ H1 _ I1 q1) fun u s2 ⟨y,H2,I2,r2,q2⟩=>?_;exact hf v u s2 x y H2 I2 r1 r2 q2
theorem xE{op:Operator}{r:R2}(ho:eC X (binaryOp op) r)(ha:PE X a ta)(hb:PE X b tb):PE X (.BinOp a op b pos) (AN r ta tb):=by
 intro pins s σ H Q I h;exact wpAny_BinOp (IP ha hb I h fun v u s2 x y H2 I2 rx ry q=>ho pins s2 σ H2 x y v u Q I2 rx ry q)
theorem Qa{op:UnaryOp}{r:V->Hp->VK->Prop}(ho:Kp X (unaryOp op) r)(ha:PE X a ta):PE X (.UnaryOp op a pos) (UU r ta):=by
 intro pins s σ H Q I h;exact UnaryOp_ (bZ (ha pins s σ H _ I h) fun v s1 ⟨x,H1,I1,r1,q1⟩=>ho pins s1 σ H1 x v Q I1 r1 q1)
variable {C:Int->Int->Prop}
theorem JE{g:Int->Int->Int}(rule:∀(i j:Int) (t u:Tok) (s:Shared) (Q:Value->Shared->Prop) (E:Value->Shared->Prop),C i j->Q (.int (g i j) s.toks) {s with toks:=s.toks+1}->wpAny (model X.prog X.w) X.A (f (.int i t) (.int j u)) Q E s):
  eC X f (rI C fun i j=>.int (g i j)):=by
 intro pins s σ H x y v u Q I rx ry h;obtain⟨i,j,rfl,rfl,hc,q⟩:=h;obtain⟨t,rfl⟩:=rx;obtain⟨t',rfl⟩:=ry;exact rule i j t t' s _ _ hc ⟨.int (g i j),H,I.tok _,⟨_,rfl⟩,q⟩
theorem TR{g:Int->Int->Int}(rule:∀(i j:Int) (t u:Tok) (s:Shared) (Q:Value->Shared->Prop) (E:Value->Shared->Prop),Q (.int (g i j) s.toks) {s with toks:=s.toks+1}->wpAny (model X.prog X.w) X.A (f (.int i t) (.int j u)) Q E s):
  eC X f (wc fun i j=>.int (g i j)):=by
 intro pins s σ H x y v u Q I rx ry h;obtain⟨i,j,rfl,rfl,q⟩:=h;obtain⟨t,rfl⟩:=rx;obtain⟨t',rfl⟩:=ry;exact rule i j t t' s _ _ ⟨.int (g i j),H,I.tok _,⟨_,rfl⟩,q⟩
theorem CL{g:Int->Int->Bool}(rule:∀(i j:Int) (t u:Tok) (s:Shared) (Q:Value->Shared->Prop) (E:Value->Shared->Prop),Q (.bool (g i j)) s->wpAny (model X.prog X.w) X.A (f (.int i t) (.int j u)) Q E s):
  eC X f (wc fun i j=>.bl (g i j)):=by
 intro pins s σ H x y v u Q I rx ry h;obtain⟨i,j,rfl,rfl,q⟩:=h;obtain⟨t,rfl⟩:=rx;obtain⟨t',rfl⟩:=ry;exact rule i j t t' s _ _ ⟨.bl (g i j),H,I,rfl,q⟩
def Ae (i j:Int):Prop:=0<=j/\j<=1000000/\i.natAbs<2^64
theorem yz:eC X (binaryOp .Add) (wc fun i j=>.int (i+j)):=TR fun _ _ _ _ _ _ _ q=>add_int q
theorem Nl:eC X (binaryOp .Pow) (rI Ae fun i j=>.int (i^j.toNat)):=JE fun _ _ _ _ _ _ _ hc q=>pow_int_small hc.1 hc.2.1 hc.2.2 q
theorem UT{f:Value->Sem Value}{g:Int->Int}(rule:∀(i:Int) (t:Tok) (s:Shared) (Q:Value->Shared->Prop) (E:Value->Shared->Prop),Q (.int (g i) s.toks) {s with toks:=s.toks+1}->wpAny (model X.prog X.w) X.A (f (.int i t)) Q E s):
  Kp X f (rU fun i=>.int (g i)):=by
 intro pins s σ H x v Q I rx h;obtain⟨i,rfl,q⟩:=h;obtain⟨t,rfl⟩:=rx;exact rule i t s _ _ ⟨.int (g i),H,I.tok _,⟨_,rfl⟩,q⟩
theorem Mx:Kp X (unaryOp .USub) (rU fun i=>.int (-i)):=UT fun _ _ _ _ _ q=>neg_int q
def MR:V->V->Bool
 | .bM,.bM=>true| .bM,.int _=>true| .int _,.bM=>true| .bM,.bl _=>true| .bl _,.bM=>true| .bM,.str _=>true| .str _,.bM=>true
 | .int _,.int _=>true| .bl _,.bl _=>true| .str _,.str _=>true| .mC _,.mC _=>true
 | .int _,.str _=>true| .str _,.int _=>true| .bl _,.str _=>true| .str _,.bl _=>true
 |_,_=>false
def Rh:R2:=fun x y H Q=>MR x y=true/\Q (.bl (decide (x=y))) H
def Rf:R2:=fun x y H Q=>MR x y=true/\Q (.bl (!decide (x=y))) H
theorem C9{i j:Int}:decide (V.int i=V.int j)=(i==j):=by
 rw[Bool.eq_iff_iff];simp
theorem uv{i j:Bool}:decide (V.bl i=V.bl j)=(i==j):=by
 rw[Bool.eq_iff_iff];simp
theorem C8{i j:Str}:decide (V.str i=V.str j)=(i==j):=by
 rw[Bool.eq_iff_iff];simp
theorem Ca{i j:Array UInt8}:decide (V.mC i=V.mC j)=(i.toList==j.toList):=by
 rw[Bool.eq_iff_iff];cases i;cases j;simp
variable {Q:VK}
theorem bR{σ:St}{s:Shared}{k k':Bool}(I:Inv X pins σ H s)(q:Q (.bl k) H)(e:k=k'):EP X pins σ Q (.bool k') s:=by
 subst e;exact⟨.bl k,H,I,rfl,q⟩
theorem JD:eC X (compareOp .Eq) Rh:=by
 intro pins s σ H x y v u Q I rx ry h;obtain⟨hs,q⟩:=h;cases x with
 |bM=>
  cases rx;cases y with
  |bM=>cases ry;exact PySem.EqNone.eq_none_none (bR I q (by simp))
  |bl j=>cases ry;exact PySem.EqNone.eq_none_bool (bR I q (by simp))
  |int j=>obtain⟨t',rfl⟩:=ry;exact PySem.EqNone.eq_none_int (bR I q (by simp))
  |str j=>obtain⟨t',rfl⟩:=ry;exact PySem.EqNone.eq_none_str (bR I q (by simp))
  |_=>exact absurd (show false=true from hs) Bool.false_ne_true
 |bl i=>
  cases rx;cases y with
  |bM=>cases ry;exact PySem.EqNone.eq_bool_none (bR I q (by simp))
  |bl j=>cases ry;exact eq_bool (bR I q uv)
  |str j=>obtain⟨t',rfl⟩:=ry;exact PySem.EqMixed.eq_bool_str (bR I q (by simp))
  |_=>exact absurd (show false=true from hs) Bool.false_ne_true
 |int i=>
  obtain⟨t,rfl⟩:=rx;cases y with
  |bM=>cases ry;exact PySem.EqNone.eq_int_none (bR I q (by simp))
  |int j=>obtain⟨t',rfl⟩:=ry;exact eq_int (bR I q C9)
  |str j=>obtain⟨t',rfl⟩:=ry;exact PySem.EqMixed.eq_int_str (bR I q (by simp))
  |_=>exact absurd (show false=true from hs) Bool.false_ne_true
 |str i=>
  obtain⟨t,rfl⟩:=rx;cases y with
  |bM=>cases ry;exact PySem.EqNone.eq_str_none (bR I q (by simp))
  |bl j=>cases ry;exact PySem.EqMixed.eq_str_bool (bR I q (by simp))
  |int j=>obtain⟨t',rfl⟩:=ry;exact PySem.EqMixed.eq_str_int (bR I q (by simp))
  |str j=>obtain⟨t',rfl⟩:=ry;exact eq_str (bR I q C8)
  |_=>exact absurd (show false=true from hs) Bool.false_ne_true
 |mC i=>
  obtain⟨t,rfl⟩:=rx;cases y with
  |mC j=>obtain⟨t',rfl⟩:=ry;exact PySem.W.eq_bytes (bR I q Ca)
  |_=>exact absurd (show false=true from hs) Bool.false_ne_true
 |_=>cases y<;>exact absurd (show false=true from hs) Bool.false_ne_true
theorem JA:eC X (compareOp .NotEq) Rf:=by
 intro pins s σ H x y v u Q I rx ry h;obtain⟨hs,q⟩:=h;cases x with
 |bM=>
  cases rx;cases y with
  |bM=>cases ry;exact PySem.EqNone.ne_none_none (bR I q (by simp))
  |bl j=>cases ry;exact PySem.EqNone.ne_none_bool (bR I q (by simp))
  |int j=>obtain⟨t',rfl⟩:=ry;exact PySem.EqNone.ne_none_int (bR I q (by simp))
  |str j=>obtain⟨t',rfl⟩:=ry;exact PySem.EqNone.ne_none_str (bR I q (by simp))
  |_=>exact absurd (show false=true from hs) Bool.false_ne_true
 |bl i=>
  cases rx;cases y with
  |bM=>cases ry;exact PySem.EqNone.ne_bool_none (bR I q (by simp))
  |bl j=>cases ry;exact ne_bool (bR I q (congrArg not uv))
  |str j=>obtain⟨t',rfl⟩:=ry;exact PySem.EqMixed.ne_bool_str (bR I q (by simp))
  |_=>exact absurd (show false=true from hs) Bool.false_ne_true
 |int i=>
  obtain⟨t,rfl⟩:=rx;cases y with
  |bM=>cases ry;exact PySem.EqNone.ne_int_none (bR I q (by simp))
  |int j=>obtain⟨t',rfl⟩:=ry;exact ne_int (bR I q (congrArg not C9))
  |str j=>obtain⟨t',rfl⟩:=ry;exact PySem.EqMixed.ne_int_str (bR I q (by simp))
  |_=>exact absurd (show false=true from hs) Bool.false_ne_true
 |str i=>
  obtain⟨t,rfl⟩:=rx;cases y with
  |bM=>cases ry;exact PySem.EqNone.ne_str_none (bR I q (by simp))
  |bl j=>cases ry;exact PySem.EqMixed.ne_str_bool (bR I q (by simp))
  |int j=>obtain⟨t',rfl⟩:=ry;exact PySem.EqMixed.ne_str_int (bR I q (by simp))
  |str j=>obtain⟨t',rfl⟩:=ry;exact ne_str (bR I q (congrArg not C8))
  |_=>exact absurd (show false=true from hs) Bool.false_ne_true
 |mC i=>
  obtain⟨t,rfl⟩:=rx;cases y with
  |mC j=>obtain⟨t',rfl⟩:=ry;exact PySem.W.ne_bytes (bR I q (congrArg not Ca))
  |_=>exact absurd (show false=true from hs) Bool.false_ne_true
 |_=>cases y<;>exact absurd (show false=true from hs) Bool.false_ne_true
theorem JB:eC X (compareOp .Lt) (wc fun i j=>.bl (decide (i<j))):=CL fun _ _ _ _ _ _ _ q=>lt_int q
theorem Qe:eC X (compareOp .LtE) (wc fun i j=>.bl (decide (i<=j))):=CL fun _ _ _ _ _ _ _ q=>le_int q
theorem JC:eC X (compareOp .Gt) (wc fun i j=>.bl (decide (j<i))):=CL fun _ _ _ _ _ _ _ q=>gt_int q
theorem Qf:eC X (compareOp .GtE) (wc fun i j=>.bl (decide (j<=i))):=CL fun _ _ _ _ _ _ _ q=>ge_int q
theorem EJ:eC X (compareOp .In) (fun x y H Q=>∃i j,x=.str i/\y=.str j/\Q (.bl (!(Builtin.Str.occurrences j i 0 j.length 1).isEmpty)) H):=by
 intro pins s σ H x y v u Q I rx ry h;obtain⟨i,j,rfl,rfl,q⟩:=h;obtain⟨t,rfl⟩:=rx;obtain⟨t',rfl⟩:=ry;exact in_str (bR I q rfl)
theorem EI:eC X (compareOp .Is) (fun x y H Q=>y=.bM/\Q (.bl (decide (x=.bM))) H):=by
 intro pins s σ H x y v u Q I rx ry h;obtain⟨rfl,q⟩:=h;cases ry;refine is_none_gen (bR I q ?_);cases x<;>first
  |(cases rx;rfl)
  |(obtain⟨t,rfl⟩:=rx;rfl)
variable {r:R2}
theorem eC.or{r':R2}(h:eC X f r)(h':eC X f r'):eC X f (fun x y H Q=>r x y H Q\/r' x y H Q):=by
 intro pins s σ H x y v u Q I rx ry q;rcases q with q|q
 ·exact h pins s σ H x y v u Q I rx ry q
 ·exact h' pins s σ H x y v u Q I rx ry q
variable {op:CmpOp}
theorem i4(b:Expr)(h:op≠.In:=by decide)(h2:op≠.NotIn:=by decide):behindInMarks op b=false:=by
 have e1:(op==CmpOp.In)=false:=by cases op<;>first|rfl|exact absurd rfl h
 have e2:(op==CmpOp.NotIn)=false:=by cases op<;>first|rfl|exact absurd rfl h2
 cases b<;>simp[behindInMarks,e1,e2]
theorem Lp(ho:eC X (compareOp op) r)(ha:PE X a ta)(hb:PE X b tb)(hm:behindInMarks op b=false):PE X (.Compare a [op] [b] pos) (AN r ta tb):=by
 intro pins s σ H Q I h;exact wpAny_Compare1 (IP ha hb I h fun v u s2 x y H2 I2 rx ry q=>ho pins s2 σ H2 x y v u Q I2 rx ry q) hm
def Jf (t:TE):TT:=fun σ H Q=>t σ H fun x H'=>∃k,x=.bl k/\Q k H'
theorem Lc(ho:eC X (compareOp op) r)(ha:PE X a ta)(hb:PE X b tb)(hm:behindInMarks op b=false):PT X (.Compare a [op] [b] pos) (Jf (AN r ta tb)):=by
 intro pins s σ H Q I h;refine wpAny_isTrue_Compare1 (bZ (ha pins s σ H _ I h) fun v s1 ⟨x,H1,I1,r1,q1⟩=>bZ (hb pins s1 σ H1 _ I1 q1) fun u s2 ⟨y,H2,I2,r2,q2⟩=>
  bZ (ho pins s2 σ H2 x y v u _ I2 r1 r2 q2) fun c s3 ⟨z,H3,I3,r3,k,e,q3⟩=>?_) hm
 subst e;cases r3;exact wpAny_truthy_bool ⟨H3,I3,q3⟩
def IV (K:Frag) (x:V) (H:Hp) (k:Bool):Prop:=
 match x with
 | .bM=>k=false
 | .bl b=>k=b
 | .int i=>k=(i !=0)
 | .str y=>y.length<=sizeLine/\k=((y.length:Int) !=0)
 | .mC y=>y.size<=sizeLine/\k=((y.size:Int) !=0)
 | .ref p=>(∃xs,fw K H p xs/\k=!xs.isEmpty)\/(∃xs,iT K H p xs/\k=!xs.isEmpty)\/∃fN,H p=some (.dK fN)/\k=!fN.isEmpty
 |_=>False
theorem CQ{κ:Type}{fN:List (κ×V)}{vs:List (κ×Value)}(r:KV fN vs):(!vs.isEmpty)=!fN.isEmpty:=by
 cases r<;>rfl
variable {ak:List Value}
theorem ua(r:Vals xs ak):(!ak.toArray.isEmpty)=!xs.isEmpty:=by
 cases r<;>simp
theorem qi:(sizeLine:Nat)<2^63:=by rw[sizeLine_eq];decide
theorem MA:UJ X (fun x H Q=>∃k,IV X.K x H k/\Q k H):=by
 intro pins s σ H x v Q I rx h;obtain⟨k,e,q⟩:=h;have hl:=qi;have hs:sizeLine=16777216:=sizeLine_eq;cases x with
 |bM=>
  cases rx;have e':k=false:=e;subst e';exact truthy_none ⟨H,I,q⟩
 |bl b=>
  cases rx;have e':k=b:=e;subst e';exact wpAny_truthy_bool ⟨H,I,q⟩
 |int i=>
  obtain⟨t,rfl⟩:=rx;have e':k=(i !=0):=e;subst e';exact PySem.P.truthy_int ⟨H,I,q⟩
 |str y=>
  obtain⟨t,rfl⟩:=rx;obtain⟨hy,e'⟩:y.length<=sizeLine/\k=((y.length:Int) !=0):=e;subst e';exact PySem.P.truthy_str (by omega) ⟨H,I.tok _,q⟩
 |mC y=>
  obtain⟨t,rfl⟩:=rx;obtain⟨hy,e'⟩:y.size<=sizeLine/\k=((y.size:Int) !=0):=e;subst e';exact PySem.W.truthy_bytes (by omega) ⟨H,I.tok _,q⟩
 |ref p=>
  cases rx;have e':(∃xs,fw X.K H p xs/\k=!xs.isEmpty)\/(∃xs,iT X.K H p xs/\k=!xs.isEmpty)\/∃fN,H p=some (.dK fN)/\k=!fN.isEmpty:=e;rcases e' with⟨xs,hx,e'⟩|⟨xs,hx,e'⟩|⟨fN,hx,e'⟩
  ·subst e';obtain⟨ak,r,pl,hz⟩:=I.list hx;have hlen:=r.length;exact wpAny_truthy_list pl.isList (by simp only[size_toArray];omega) ⟨H,I.tok _,by rw[ua r];exact q⟩
  ·subst e';obtain⟨ak,r,pl,hz⟩:=I.tuple hx;have hlen:=r.length;exact truthy_tuple pl (by simp only[size_toArray];omega) ⟨H,I.tok _,by rw[ua r];exact q⟩
  ·subst e';obtain⟨hz,hS,vs,r,m⟩:fN.length<=sizeLine/\(p==sysModules)=false/\∃vs,KV fN vs/\s.heap.DictOf (vh X.prog X.w) p vs:=I.bh p _ hx;have hlen:fN.length=vs.length:=Paired.length r;exact wpAny_truthy_dict hS m (by omega) ⟨H,I.tok _,by rw[CQ r];exact q⟩
 |_=>exact(show False from e).elim
theorem yj(ha:PE X a ta)(he:∀whole,isTrue a X.env whole=(do let v <- whole;standAt a.pos;holding [v] (truthy v))):
  PT X a (fun σ H Q=>ta σ H fun x H'=>∃k,IV X.K x H' k/\Q k H'):=by
 intro pins s σ H Q I h;exact isTrue_plain (bZ (ha pins s σ H _ I h) fun v s1 ⟨x,H1,I1,r1,q1⟩=>MA pins s1 σ H1 x v Q I1 r1 q1) (he _)
theorem oG:eC X (binaryOp .Add) (fun x y H Q=>∃i j,x=.str i/\y=.str j/\i.length+j.length<=sizeLine/\Q (.str (i++j)) H):=by
 intro pins s σ H x y v u Q I rx ry h;obtain⟨i,j,rfl,rfl,hz,q⟩:=h;obtain⟨t,rfl⟩:=rx;obtain⟨t',rfl⟩:=ry;exact add_str (fun t' tk=>⟨.str (i++j),H,I.tok _,⟨_,rfl⟩,q⟩) hz
theorem vals1{x:V}(r:Vals [x] us):∃u,us=[u]/\RelV x u:=by
 cases r with
 |cons r1 r2=>cases r2;exact⟨_,rfl,r1⟩
variable {y:V}
theorem vals2{x:V}(r:Vals [x,y] us):∃u w',us=[u,w']/\RelV x u/\RelV y w':=by
 cases r with
 |cons r1 r2=>
  cases r2 with
  |cons r3 r4=>cases r4;exact⟨_,_,rfl,r1,r3⟩
theorem IM:k8 X (.builtin "abs") (fun xs H Q=>∃i,xs=[.int i]/\Q (.int (if i<0 then -i else i)) H):=by
 intro pins s σ H xs us Q I r h;obtain⟨i,rfl,q⟩:=h;obtain⟨u,rfl,t,rfl⟩:=vals1 r;exact call_abs_int fun u tk=>⟨.int (if i<0 then -i else i),H,I.tok _,⟨_,rfl⟩,q⟩
def Pk (K:Frag) (x:V) (H:Hp) (n:Nat):Prop:=
 match x with
 | .str y=>y.length<=sizeLine/\n=y.length
 | .mC y=>y.size<=sizeLine/\n=y.size
 | .ref p=>(∃xs,fw K H p xs/\n=xs.length)\/∃xs,iT K H p xs/\n=xs.length
 |_=>False
theorem IL:k8 X (.builtin "len") (fun xs H Q=>∃x n,xs=[x]/\Pk X.K x H n/\Q (.int n) H):=by
 intro pins s σ H xs us Q I r h;obtain⟨x,n,rfl,e,q⟩:=h;obtain⟨u,rfl,rx⟩:=vals1 r;have hl:=qi;have hs:sizeLine=16777216:=sizeLine_eq;cases x with
 |str y=>
  obtain⟨t,rfl⟩:=rx;obtain⟨hy,e'⟩:y.length<=sizeLine/\n=y.length:=e;subst e';exact len_str (by omega) ⟨.int _,H,I.tok _,⟨_,rfl⟩,q⟩
 |mC y=>
  obtain⟨t,rfl⟩:=rx;obtain⟨hy,e'⟩:y.size<=sizeLine/\n=y.size:=e;subst e';exact PySem.W.len_bytes (by omega) ⟨.int _,H,I.tok _,⟨_,rfl⟩,q⟩
 |ref p=>
  cases rx;have e':(∃xs,fw X.K H p xs/\n=xs.length)\/∃xs,iT X.K H p xs/\n=xs.length:=e;rcases e' with⟨xs,hx,e'⟩|⟨xs,hx,e'⟩
  ·subst e';obtain⟨ak,r',pl,hz⟩:=I.list hx;have hlen:=r'.length;exact Calls.call_len_list pl.isList (by simp only[size_toArray];omega) ⟨.int xs.length,H,I.tok _,⟨_,by simp only[size_toArray];rw[hlen]⟩,q⟩
  ·subst e';obtain⟨ak,r',pl,hz⟩:=I.tuple hx;have hlen:=r'.length;exact len_tuple pl (by simp only[size_toArray];omega) ⟨.int xs.length,H,I.tok _,⟨_,by simp only[size_toArray];rw[hlen]⟩,q⟩
 |_=>exact(show False from e).elim
open PySem PySem.Spec PyProof.Rows
structure cv (k:Nat) (A:Around):Prop where
 hd:A.handled=none
 dp:A.depth+3*k+5<recursionLimit
 un:A.units+16*k+200<cLine
variable {j k:Nat}
theorem cv.mono(r:cv k A)(h:j<=k):cv j A:=⟨r.hd,by have:=r.dp;omega,by have:=r.un;omega⟩
theorem cv.deeper(r:cv (k+1) A)(env:Env):cv k (A.deeper env):=
 ⟨r.hd,by have:=r.dp;show A.depth+1+3*k+5<_;omega,by have:=r.un;show A.units+3+16*k+200<_;omega⟩
theorem cv.depth(r:cv k A):A.depth<recursionLimit:=by have:=r.dp;omega
theorem cv.units(r:cv k A):A.units+64<cLine:=by have:=r.un;omega
def Tx:TA:=fun _ H Q=>Q [] H
def PX (ta:TE) (tr:TA):TA:=fun σ H Q=>ta σ H fun x H1=>tr σ H1 fun xs H2=>Q (x::xs) H2
theorem qb:PA X [] Tx:=fun _ _ _ _ H Q I h=>Calls.spliced_nil ⟨[],H,I,.nil,h⟩
variable {t:TA}
theorem kx(ha:PE X e te)(hr:PA X es t)(hs:starEach (e::es) X.env=(false,eval e X.env)::starEach es X.env:=by rfl):PA X (e::es) (PX te t):=by
 intro pos pins s σ H Q I h;rw[hs];show wpAny _ _ (spliced ((false,eval e X.env)::backTo pos (starEach es X.env))) _ _ s;refine Calls.spliced_cons (bZ (ha pins s σ H _ I h) fun u s1 ⟨x,H1,I1,r1,q1⟩=>?_);exact bZ (hr pos pins s1 σ H1 _ I1 q1) fun us s2 ⟨xs,H2,I2,r2,q2⟩=>⟨x::xs,H2,I2,.cons r1 r2,q2⟩
def Tr (t:TA):TE:=fun σ H Q=>t σ H fun xs H1=>xs.length<=sizeLine/\∀p,H1 p=none->Q (.ref p) (upd H1 p (.tup xs))
def Tz (t:TA):TE:=fun σ H Q=>t σ H fun xs H1=>xs.length<=sizeLine/\∀p,H1 p=none->Q (.ref p) (upd H1 p (.lst xs))
theorem EA{x1}(h:PA X es t):PE X (.Tuple es x1 pos) (Tr t):=by
 intro pins s σ H Q I hq;refine wpAny_Tuple_spliced (bZ (h pos pins s σ H _ I hq) fun us s1 ⟨xs,H1,I1,r,z,q⟩=>⟨by rw[<- r.length];exact z,?_⟩);have hf:H1 s1.heap.objs.size=none:=I1.bh.fresh (le_refl _);refine⟨.ref s1.heap.objs.size,upd H1 s1.heap.objs.size (.tup xs),I1.laid (t':=s1.toks) (fun b u e=>get?_push_of_some _ e) (le_refl _) ?_,rfl,q _ hf⟩;exact⟨z,us,r,⟨_,get?_push_size _ rfl,rfl,_,rfl⟩⟩
theorem EB(h:PA X es t):PE X (.List es pos) (Tz t):=by
 intro pins s σ H Q I hq;refine wpAny_List_spliced (bZ (h pos pins s σ H _ I hq) fun us s1 ⟨xs,H1,I1,r,z,q⟩=>⟨by rw[<- r.length];exact z,?_⟩);have hf:H1 s1.heap.objs.size=none:=I1.bh.fresh (le_refl _);refine⟨.ref s1.heap.objs.size,upd H1 s1.heap.objs.size (.lst xs),I1.laid (t':=s1.toks) (fun b u e=>get?_push_of_some _ e) (le_refl _) ?_,rfl,q _ hf⟩;exact⟨z,us,0,r,get?_push_size _ rfl⟩
abbrev Sp:=List V->Hp->VK->XK->Prop
abbrev xr:=List Env->Hp->Shared->XK->Value->Shared->Prop
structure DI (P:Program) (w:World) (K:Frag) (mg:Str->Option Value) (base:Heap) (A:Around) (outer:List Env) (s:Shared) (H:Hp):Prop where
 frames:A.frames=some outer
 mod:Mod K mg base
 bs:∀b o,base.get? b=some o->s.heap.get? b=some o/\H b=none
 xi:base.objs.size<=s.heap.objs.size
 mv:s.heap.FunFrames base outer
 BN:∀b∈kR outer,H b=none
 bh:i6 P w H s.heap
 bare:AllBare s.gens
def CE (outer:List Env) (P:Program) (w:World) (H:Hp) (s:Shared) (Q:VK) (u:Value) (s':Shared):Prop:=
 ∃v H',s'.os=s.os/\AllBare s'.gens/\Un (kR outer) [] H H' s.heap s'.heap/\i6 P w H' s'.heap/\RelV v u/\Q v H'
def CR (CX:xr) (outer:List Env) (P:Program) (w:World) (H:Hp) (s:Shared) (Q:VK) (E:XK) (r:Result) (s':Shared):Prop:=
 match r with
 | .ok (.ret u)=>CE outer P w H s Q u s'
 | .ok _=>False
 | .error e=>CX outer H s E e s'
structure gu (P:Program) (w:World) (K:Frag) (mg:Str->Option Value) (base:Heap) (CX:xr) (k:Nat) (f:Addr) (fd:FuncData) (ps:List Str) (sp:Sp):Prop where
 len:∀vs H Q E,sp vs H Q E->vs.length=ps.length
 run:∀(A:Around) (outer:List Env) (s:Shared) (H:Hp) (args:Args) (us:List Value) (vs:List V) (Q:VK) (E:XK),cv k A->DI P w K mg base A outer s H->BindsTo s fd args (ps.zip us)->Vals vs us->sp vs H Q E->
  codeAny (model P w) A (.call (.ref f) args) (CR CX outer P w H s Q E) s
variable {mg:Str->Option Value} {base:Heap} {CX:xr} {f:Addr} {fd:FuncData} {ps:List Str} {sp:Sp}
theorem gu.mono(F:gu P w K mg base CX j f fd ps sp)(h:j<=k):
  gu P w K mg base CX k f fd ps sp:=⟨F.len,fun A outer s H args us vs Q E hr=>F.run A outer s H args us vs Q E (hr.mono h)⟩
theorem gu.imp{Ra:Sp}(F:gu P w K mg base CX k f fd ps sp)(h:∀vs H Q E,Ra vs H Q E->sp vs H Q E):gu P w K mg base CX k f fd ps Ra:=
 ⟨fun vs H Q E q=>F.len vs H Q E (h _ _ _ _ q),fun A outer s H args us vs Q E hr he hb hv hs=>F.run A outer s H args us vs Q E hr he hb hv (h _ _ _ _ hs)⟩
variable {s:Shared} in
theorem Inv.Uy(I:Inv X pins σ H s):DI X.prog X.w X.K X.mg X.base X.A X.stack s H:=
 ⟨I.ok.frames,I.ok.mod,I.bs,le_trans I.ok.xi I.sz,I.stack,I.uV,I.bh,I.bare⟩
variable {u:Value}
variable {s:Shared} in
theorem Inv.after(I:Inv X pins σ H s)(h:CE X.stack X.prog X.w H s Q u s'):EP X pins σ Q u s':=by
 obtain⟨v,H',os,bare,un,bh,r,q⟩:=h;obtain⟨hh,g,d,t,V9⟩:=s';obtain rfl:V9=s.os:=os;exact⟨v,H',I.call (h':=hh) (g':=g) (d':=d) (t':=t) (ch:=[]) un bh bare (fun b z=>absurd z (by simp)),r,q⟩
def Jj (sp:Sp) (xa:List V) (E:XK) (t:TA):TE:=fun σ H Q=>t σ H fun vs H1=>sp (vs++xa) H1 Q E
def Binds (K:Frag) (fd:FuncData) (ps:List Str) (ds:List Value):Prop:=
 ∀(s:Shared) (us:List Value),K.In s.heap->(us++ds).length=ps.length->BindsTo s fd ⟨us,[]⟩ (ps.zip (us++ds))
theorem Binds.all(h:∀us:List Value,us.length=ps.length->bindArgs fd ⟨us,[]⟩=pure (ps.zip us)):Binds K fd ps []:=fun s us _ hl=>by
 rw[append_nil]at hl ⊢;exact .of_eq (h us hl)
def Passes (CX:xr) (X:Cx) (E:XK):Prop:=∀(pins:List (Addr×Obj)) (σ:St) (H:Hp) (s:Shared) (e:Value) (s':Shared),Inv X pins σ H s->CX X.stack H s E e s'->X.xe e s'
variable {E:XK} {ds:List Value} {xa:List V}
theorem MU{σ:St}{s:Shared}{vs:List V}(F:gu X.prog X.w X.K X.mg X.base CX k f fd ps sp)(hr:cv k X.A)(hb:Binds X.K fd ps ds)(hd:Vals xa ds)(hx:Passes CX X E)(I:Inv X pins σ H s)(r:Vals vs us)(h:sp (vs++xa) H Q E):wpAny (model X.prog X.w) X.A (call (.ref f) us) (EP X pins σ Q) X.xe s:=by
 have r2:Vals (vs++xa) (us++ds):=r.append hd;have hl:(us++ds).length=ps.length:=by rw[<- r2.length];exact F.len _ _ _ _ h
 refine wpAny_call (codeAny_mono (F.run X.A X.stack s H ⟨us,[]⟩ (us++ds) (vs++xa) Q E hr I.Uy (hb s us I.p7 hl) r2 h) fun r s' hq=>?_);cases r with
 |error e=>exact hx pins σ H s e s' I hq
 |ok fl=>
  cases fl with
  |ret u=>exact I.after hq
  |next=>exact False.elim hq
  |brk=>exact False.elim hq
  |cont=>exact False.elim hq
variable {p:Pos}
theorem qU(F:gu X.prog X.w X.K X.mg X.base CX k f fd ps sp)(hr:cv k X.A)(hg:Gl X x)(hm:X.mg x=some (.ref f))(hk:keepIn X.K (.ref f)=true)(hb:Binds X.K fd ps ds)(hd:Vals xa ds)(hx:Passes CX X E)(ha:PA X (e::es) t)(jc:(x==("__debug__" : Str))=false:=by decide)(he:starEach (e::es) X.env=(false,eval e X.env)::starEach es X.env:=by rfl)(ey:(backTo pos (starEach es X.env)).any (·.1)=false:=by rfl):
  PE X (.Call (.Name x p) (e::es) [] pos) (Jj sp xa E t):=by
 intro pins s σ H Q I h;refine wpAny_Call_Name_kw (Bx I hg hm ?_ jc);refine PySem.W.callWith_K (h₀:=X.base) I.ok.mod.tY hk (bZ (ha pos pins s σ H _ I h) fun us s1 ⟨vs,H1,I1,r,q⟩=>⟨I1.p7,?_⟩) he ey;exact MU F hr hb hd hx I1 r q
structure fR (N P:List Str) (sc:Scope):Prop where
 kind:sc.kind=.function
 co:sc.isCoroutine=false
 gen:sc.isGenerator=false
 nd:N.Nodup
 pre:N.take P.length=P
 par:∀x∈P,sc.names.lookup x=some .local\/sc.names.lookup x=some .cell
 Nu:∀y∈sc.names,y.2≠.free
theorem xj{kindOf:Str->Option NameKind}{x:Str}:∀{binds:List (Str×Value)} {m:Str->Option Value},(∀v,(x,v)∉binds)->bindL kindOf binds m x=m x
 |[],_,_=>rfl
 |(n,v)::r,m,h=>by
  unfold bindL;rw[xj fun w hw=>h w (mem_cons_of_mem _ hw)];split
  ·have:x≠n:=by rintro rfl;exact h v mem_cons_self
   simp[this]
  ·rfl
theorem xm{kindOf:Str->Option NameKind}{x:Str}:∀{binds:List (Str×Value)} {m:Str->Option Value},(∀v,(x,v)∉binds)->bindC kindOf binds m x=m x
 |[],_,_=>rfl
 |(n,v)::r,m,h=>by
  unfold bindC;rw[xm fun w hw=>h w (mem_cons_of_mem _ hw)];split
  ·rfl
  ·have:x≠n:=by rintro rfl;exact h v mem_cons_self
   simp[this]
theorem xk{kindOf:Str->Option NameKind}{x:Str}{v:Value}:∀{P:List Str} {vs:List Value} {i:Nat} {m:Str->Option Value},P.Nodup->P[i]?=some x->vs[i]?=some v->kindOf x=some .local->
  bindL kindOf (P.zip vs) m x=some v
 |[],_,_,_,_,h,_,_=>by simp at h
 |_::_,[],_,_,_,_,h,_=>by simp at h
 |p::P,w::vs,0,m,nd,h1,h2,hk=>by
  simp at h1 h2;subst h1;subst h2;show bindL kindOf ((p,w)::P.zip vs) m p=_;unfold bindL;rw[xj fun v hv=>(nodup_cons.mp nd).1 (of_mem_zip hv).1,if_pos hk];simp
 |p::P,w::vs,i+1,m,nd,h1,h2,hk=>by
  show bindL kindOf ((p,w)::P.zip vs) m x=_;unfold bindL;exact xk (i:=i) (nodup_cons.mp nd).2 (by simpa using h1) (by simpa using h2) hk
theorem xn{kindOf:Str->Option NameKind}{x:Str}{v:Value}:∀{P:List Str} {vs:List Value} {i:Nat} {m:Str->Option Value},P.Nodup->P[i]?=some x->vs[i]?=some v->kindOf x≠some .local->
  bindC kindOf (P.zip vs) m x=some v
 |[],_,_,_,_,h,_,_=>by simp at h
 |_::_,[],_,_,_,_,h,_=>by simp at h
 |p::P,w::vs,0,m,nd,h1,h2,hk=>by
  simp at h1 h2;subst h1;subst h2;show bindC kindOf ((p,w)::P.zip vs) m p=_;unfold bindC;rw[xm fun v hv=>(nodup_cons.mp nd).1 (of_mem_zip hv).1,if_neg hk];simp
 |p::P,w::vs,i+1,m,nd,h1,h2,hk=>by
  show bindC kindOf ((p,w)::P.zip vs) m x=_;unfold bindC;exact xn (i:=i) (nodup_cons.mp nd).2 (by simpa using h1) (by simpa using h2) hk
def start (N:List Str) (vs:List V):St:=vs.map some++List.replicate (N.length-vs.length) none
def jv (CX:xr) (P:Program) (w:World) (K:Frag) (mg:Str->Option Value) (base:Heap) (N:List Str) (qual:Str) (scope:Scope) (f:Addr) (cd:Value) (A:Around) (outer:List Env) (s:Shared) (H:Hp) (E:XK):Cx where
 prog:=P
 w:=w
 K:=K
 mg:=mg
 base:=base
 A:=A.deeper (envOfC qual scope s.heap.objs.size f cd)
 N:=N
 aL:=s
 aj:=H
 env:=envOfC qual scope s.heap.objs.size f cd
 outer:=outer
 stack:=envOfC qual scope s.heap.objs.size f cd::outer
 ex:=[]
 calm:=true
 fn:=fun _=>true
 pn:=[]
 xe:=fun e s'=>wpAny (model P w) (A.deeper (envOfC qual scope s.heap.objs.size f cd)) (leaving (envOfC qual scope s.heap.objs.size f cd) e) (fun _ nN=>CX outer H s E e nN) (fun e' nN=>CX outer H s E e' nN) s'
variable {n:Nat}
theorem zQ{sc:Scope}(h:sc.names.lookup x=some .cell):∃c,(cellsFrom n sc.names []).lookup x=some c:=by
 have q:=PySem.W.cellsFrom_some sc.names n [] (.inl h);exact Option.isSome_iff_exists.mp q
variable {qual:Str} {scope:Scope}
theorem F8{cd:Value}{outer:List Env}{s s1:Shared}{vs:List V}(S:fR N ps scope)(hd:A.handled=none)(e0:DI P w K mg base A outer s H)(hl:vs.length=ps.length)(r:Vals vs us)(x:InCallC s s.heap.objs.size (bindL (envOfC qual scope s.heap.objs.size f cd).kindOf (ps.zip us) fun _=>none) (cellsFrom (s.heap.objs.size+1) scope.names []) (bindC (envOfC qual scope s.heap.objs.size f cd).kindOf (ps.zip us) fun _=>none) s1):
  Inv (jv CX P w K mg base N qual scope f cd A outer s H E) [] (start N vs) H s1:=by
 have ey:ps.length<=N.length:=by have:=congrArg List.length S.pre;rw[length_take]at this;omega
 obtain⟨h1,tk,rfl,hk⟩:=x.done;have EU:∀b:Addr,b∉(jv CX P w K mg base N qual scope f cd A outer s H E).ex:=fun b z=>absurd (show b∈([]:List Addr)from z) (by simp);refine⟨⟨e0.mod,S.kind,rfl,rfl,le_refl _,fun y z c h1 h2=>?_,fun y hy=>?_,fun y c _ h=>?_,fun _=>hd,Around.frames_deeper e0.frames,.inr ⟨rfl,rfl⟩,fun b z=>absurd z (EU b),e0.bs,e0.xi,fun b _ _=>EU b,fun b z=>absurd z (EU b),e0.mv,e0.BN⟩,
  rfl,e0.bare,Un.kept hk,⟨_,x.toInCall.ns,fun i y v h1 h2 h3=>?_⟩,fun y c h=>⟨_,x.cell y c h⟩,e0.bh.fresh (le_refl _),fun y c h=>?_,fun p hp=>absurd (show p∈([]:List (Addr×Obj))from hp) (by simp),e0.bh.kept hk,?_⟩
 ·exact name_of_addr x.apart (PySem.mem_of_lookup h1) (PySem.mem_of_lookup h2)
 ·have hy:scope.names.lookup y=some .cell\/scope.names.lookup y=some .free:=hy;rcases hy with hy|hy
  ·exact zQ hy
  ·exact absurd rfl (S.Nu _ (PySem.mem_of_lookup hy))
 ·exact Nat.le_of_lt (x.above y c (PySem.mem_of_lookup h))
 ·have hi:i<vs.length:=by
   unfold start at h2;by_cases hi:i<vs.length
   ·exact hi
   ·rw[getElem?_append_right (by simpa using hi)]at h2;rw[getElem?_replicate]at h2;split at h2<;>cases h2
  have ha:vs[i]?=some v:=by
   unfold start at h2;rw[getElem?_append_left (by simpa using hi),getElem?_map]at h2;cases e:vs[i]? with
   |none=>rw[e]at h2;cases h2
   |some a=>rw[e]at h2;cases h2;rfl
  obtain⟨u,hu,rv⟩:=r.get ha;have hp:ps[i]?=some y:=by
   rw[<- S.pre,List.getElem?_take_of_lt (by omega)];exact h1
  have Rp:ps.Nodup:=by rw[<- S.pre];exact S.nd.sublist (List.take_sublist _ _)
  refine⟨u,rv,?_⟩;rcases S.par y (mem_of_getElem? hp)with k|k
  ·exact .inl ⟨k,xk Rp hp hu k⟩
  ·obtain⟨c,e⟩:=zQ (n:=s.heap.objs.size+1) k;refine .inr ⟨.inl k,c,e,?_⟩;have q:=x.cell y c e;rw[xn Rp hp hu (by show scope.names.lookup y≠_;rw[k];decide)]at q;exact q
 ·exact e0.bh.fresh (Nat.le_of_lt (x.above y c (PySem.mem_of_lookup h)))
 ·unfold start;show _=N.length;rw[length_append,length_map,length_replicate];omega
variable {doc pm bA ct oc:Value} {an od:Option Addr} {rA:Array (Option Value)}
theorem QB{name:Str}{params:Arguments}{dV kV:Value}(lk:K.lookup f=some ⟨oc,od,.func (fnOf name qual params body scope dV kV doc pm an bA ct),rA⟩)(gf:codeIn K bA qual=true)(S:fR N ps scope)(len:∀vs H Q E,sp vs H Q E->vs.length=ps.length)(hbody:∀(A:Around) (outer:List Env) (s:Shared) (H:Hp) (vs:List V) (Q:VK) (E:XK),cv k (A.deeper (envOfC qual scope s.heap.objs.size f bA))->sp vs H Q E->
   ∃t,kY (jv CX P w K mg base N qual scope f bA A outer s H E) body t/\t {nx:=fun _ H'=>Q .bM H',rt:=Q} (start N vs) H):
  gu P w K mg base CX (k+1) f (fnOf name qual params body scope dV kV doc pm an bA ct) ps sp:=by
 refine⟨len,fun A outer s H args us vs Q E hr e0 hb r l9=>?_⟩;have hl:=len _ _ _ _ l9;have KX:K.In s.heap:=e0.mod.tY.keeps fun b o e=>(e0.bs b o e).1;have lim:s.heap.NoLimit:=e0.mod.nolimit.keeps fun b o e=>(e0.bs b o e).1;have Qs:∀y∈ps.zip us,scope.names.lookup y.1=some .local\/(scope.names.lookup y.1=some .cell/\((cellsFrom (s.heap.objs.size+1) scope.names []).lookup y.1).isSome=true):=fun⟨n,v⟩ hy=>by
  rcases S.par n (of_mem_zip hy).1 with q|q
  ·exact .inl q
  ·exact .inr ⟨q,PySem.W.cellsFrom_some _ _ _ (.inl q)⟩
 refine codeAny_call_function hr.depth (KX _ _ lk) rfl S.co S.gen rfl (PySem.W.codeRec_of KX gf) (hb _ _ _ _ ?_);refine wpAny_newFunctionEnv_cells S.kind Qs fun env he s1 x=>?_;subst he;refine⟨lim.keeps x.toInCall.keep,codeAny_func ?_⟩;obtain⟨t,ht,hq⟩:=hbody A outer s H vs Q E (hr.deeper _) l9;have I:Inv (jv CX P w K mg base N qual scope f bA A outer s H E) [] (start N vs) H s1:=F8 S hr.hd e0 hl r x;refine wpAny_mono (ht [] s1 (start N vs) H _ I hq) (fun fl s' hs=>?_) fun e s' hs=>hs;have fin:∀{bC:St} {H':Hp} {v:V} {u:Value},Inv (jv CX P w K mg base N qual scope f bA A outer s H E) [] bC H' s'->RelV v u->Q v H'->CE outer P w H s Q u s':=
  fun{bC H' v u} J rv q=>⟨v,H',J.os,J.bare,J.base,J.bh,rv,q⟩
 cases fl with
 |ret u=>
  obtain⟨v,bC,H',J,rv,q⟩:=hs;exact fin J rv q
 |next=>
  obtain⟨bC,H',J,q⟩:=hs;exact fin (v:=V.bM) (u:=Value.none) J rfl q
 |brk=>
  obtain⟨_,_,_,q⟩:=hs;exact False.elim q
 |cont=>
  obtain⟨_,_,_,q⟩:=hs;exact False.elim q
open PySem PySem.Spec PyProof.Rows
variable {r:List V->Hp->VK->Prop}
def Jk (r:List V->Hp->VK->Prop) (t:TA):TE:=fun σ H Q=>t σ H fun vs H1=>r vs H1 Q
variable {id:String}
theorem yw(hc:k8 X (.builtin id) r)(hg:Gl X x)(hm:X.mg x=none)(hv:bootBuiltins x=some (.builtin id))(ha:PA X (e::es) t)(hn:x≠"__name__":=by decide)(jc:(x==("__debug__" : Str))=false:=by decide)(he:starEach (e::es) X.env=(false,eval e X.env)::starEach es X.env:=by rfl)(ey:(backTo pos (starEach es X.env)).any (·.1)=false:=by rfl):PE X (.Call (.Name x p) (e::es) [] pos) (Jk r t):=by
 intro pins s σ H Q I h;refine wpAny_Call_Name_kw (mf I hg hm hv ?_ hn jc);exact PyProof.Rows.callWith_builtin1 (bZ (ha pos pins s σ H _ I h) fun us s1 ⟨vs,H1,I1,r1,q1⟩=>hc pins s1 σ H1 vs us Q I1 r1 q1) he ey
variable {T:String}
theorem mS(hc:k8 X (.type T) r)(hg:Gl X x)(hm:X.mg x=none)(hv:bootBuiltins x=some (.type T))(ha:PA X (e::es) t)(hn:x≠"__name__":=by decide)(jc:(x==("__debug__" : Str))=false:=by decide)(he:starEach (e::es) X.env=(false,eval e X.env)::starEach es X.env:=by rfl)(ey:(backTo pos (starEach es X.env)).any (·.1)=false:=by rfl):PE X (.Call (.Name x p) (e::es) [] pos) (Jk r t):=by
 intro pins s σ H Q I h;refine wpAny_Call_Name_kw (mf I hg hm hv ?_ hn jc);exact PyProof.Rows.callWith_type1 (bZ (ha pos pins s σ H _ I h) fun us s1 ⟨vs,H1,I1,r1,q1⟩=>hc pins s1 σ H1 vs us Q I1 r1 q1) he ey
end
end L2
namespace HT
noncomputable section
open PySem PyProof.Rows
def bX (n d:Nat):Option Int->Nat
 |none=>d
 |some v=>if v<0 then(v+(n:Int)).toNat else min v.toNat n
theorem oC(n d:Nat):bX n d none=d:=rfl
theorem nM(n d k:Nat):bX n d (some (k:Int))=min k n:=by
 show(if(k:Int)<0 then((k:Int)+(n:Int)).toNat else min (k:Int).toNat n)=min k n;rw[if_neg (by omega),toNat_natCast]
theorem MS(n d:Nat)(hd:d<=n)(o:Option Int):bX n d o<=n:=by
 cases o with
 |none=>exact hd
 |some v=>
  show(if v<0 then(v+(n:Int)).toNat else min v.toNat n)<=n;by_cases hv:v<0
  ·rw[if_pos hv];omega
  ·rw[if_neg hv];exact Nat.min_le_right _ _
theorem Cd(v:Int)(n d:Nat):(if v<0 then max (v+(n:Int)) 0 else min v (n:Int))=((bX n d (some v):Nat):Int):=by
 show(if v<0 then max (v+(n:Int)) 0 else min v (n:Int))=(((if v<0 then(v+(n:Int)).toNat else min v.toNat n):Nat):Int);by_cases hv:v<0
 ·simp only[if_pos hv];omega
 ·simp only[if_neg hv];omega
theorem Dt(lo hi:Option Int)(n:Nat):Builtin.Slice.sliceAdjust lo hi 1 (n:Int)=(((bX n 0 lo:Nat):Int),((bX n n hi:Nat):Int)):=by
 have h1:¬((1:Int)<0):=by omega
 unfold Builtin.Slice.sliceAdjust;simp only[h1,if_false];refine Prod.ext ?_ ?_
 ·cases lo with
  |none=>rfl
  |some v=>exact Cd v n 0
 ·cases hi with
  |none=>rfl
  |some v=>exact Cd v n n
theorem CJ(i j:Nat):Builtin.Slice.slicePlaces (i:Int) (j:Int) 1=j-i:=by
 unfold Builtin.Slice.slicePlaces;have h1:(1:Int)>0:=by omega
 simp only[h1,if_true,Int.ediv_one];split<;>omega
variable {prog:Program} {E:Value->Shared->Prop} {A:Around} {w:World} {v:Value}
variable {s:Shared} in
theorem tE{o:Option Int}{Q:Option Int->Shared->Prop}(p:IsPart v o)(h:Q o s):wpAny (model prog w) A (Builtin.Slice.slicePartIndex v) Q E s:=by
 cases p with
 |none=>exact slicePart_none h
 |int i t=>exact slicePart_int h
variable {n:Nat}
variable {s:Shared} in
theorem rY{sl:Addr}{vl vu:Value}{lo hi:Option Int}{Q:Int×Int×Nat->Shared->Prop}(hs:s.heap.IsSliceOf sl vl vu .none)(pl:IsPart vl lo)(pu:IsPart vu hi)(h:Q (((bX n 0 lo:Nat):Int),1,bX n n hi-bX n 0 lo) s):wpAny (model prog w) A (Builtin.Slice.sliceApplied (.ref sl) (pure (n:Int))) Q E s:=by
 obtain⟨os,ke,ze,JZ⟩:=id hs;unfold Builtin.Slice.sliceApplied Builtin.Slice.sliceFields;refine wpAny_bind (wpAny_bind (wpAny_field ke JZ (x:=vl) rfl (wpAny_bind (wpAny_field ke JZ (x:=vu) rfl (wpAny_bind (wpAny_field ke JZ (x:=.none) rfl (wpAny_pure ?_)))))));refine wpAny_bind (slicePart_none ?_);show wpAny _ _ (if((1:Int)==0)=true then _ else _) _ _ s;rw[if_neg (by decide)];refine wpAny_bind (tE pl (wpAny_bind (tE pu (wpAny_bind (wpAny_pure ?_)))));show wpAny _ _ (match Builtin.Slice.sliceAdjust lo hi 1 (n:Int)with|(lo,hi)=>pure (lo,(1:Int),Builtin.Slice.slicePlaces lo hi 1)) _ _ s
 rw[Dt lo hi n];show wpAny _ _ (pure (((bX n 0 lo:Nat):Int),(1:Int),Builtin.Slice.slicePlaces ((bX n 0 lo:Nat):Int) ((bX n n hi:Nat):Int) 1)) _ _ s;rw[CJ];exact wpAny_pure h
theorem Hx(xs:Array Value)(i k:Nat):((List.range k).filterMap fun(m:Nat)=>xs[((i:Int)+(m:Int)*1).toNat]?).toArray=((xs.toList.drop i).take k).toArray:=by
 have e:(fun(m:Nat)=>xs[((i:Int)+(m:Int)*1).toNat]?)=fun m=>xs[i+m]?:=by
  funext m
  have:((i:Int)+(m:Int)*1).toNat=i+m:=by omega
  rw[this]
 rw[e];have:=pick_run xs i k;rw[List.filterMap_map]at this;have e2:((fun x=>xs[x]?) ∘ fun x=>i+x)=fun m=>xs[i+m]?:=rfl;rw[e2]at this;rw[this]
variable {Q:Value->Shared->Prop}
variable {s:Shared} in
theorem rq{t sl:Addr}{items:Array Value}{vl vu:Value}{lo hi:Option Int}(ht:IsTup s.heap t items)(hs:s.heap.IsSliceOf sl vl vu .none)(pl:IsPart vl lo)(pu:IsPart vu hi)(hw:¬(bX items.size 0 lo=0/\bX items.size items.size hi=items.size))(h:Q (.ref s.heap.objs.size) {s with heap:=s.heap.push {cls:=.type "tuple",data:=.seq ((items.toList.drop (bX items.size 0 lo)).take (bX items.size items.size hi-bX items.size 0 lo)).toArray}})(hsz:items.size<=sizeLine):wpAny (model prog w) A (getItem (.ref t) (.ref sl)) Q E s:=by
 have xH:sizeOk (.seq ((items.toList.drop (bX items.size 0 lo)).take (bX items.size items.size hi-bX items.size 0 lo)).toArray):=by
  show((items.toList.drop (bX items.size 0 lo)).take (bX items.size items.size hi-bX items.size 0 lo)).toArray.size<=sizeLine;rw[size_toArray,length_take,length_drop,length_toList];omega
 have hj:bX items.size items.size hi<=items.size:=MS _ _ (le_refl _) hi;obtain⟨os,ke,ze,JZ⟩:=id hs;have VV:s.TypeIs (.ref sl) "slice":=⟨os,ke,ze⟩;unfold getItem;try with_reducible refine wpAny_holding ?_
 first|refine wpAny_bind (wpAny_pure ?_)|skip
 refine wpAny_bind (wpAny_sequenceKey ht.typeIs (by decide) ?_);refine wpAny_bind (wpAny_callSpecial?_slot (name:=Str.ofString "__getitem__") ht.typeIs PyProof.Rows.slot_tuple_getitem
  (wpAny_call_entry PyProof.Rows.slot_tuple_getitem ht.typeIs entry_tuple_getitem ?_ (args_tuple_getitem _ _)))
 show wpAny _ _ (Builtin.Tuple.tupleItemsOf (.ref t) >>= _) _ _ s;refine wpAny_bind (tupleItemsOf_ ht ?_);refine wpAny_bind (wpAny_typeOf VV ?_);rw[if_pos (by decide)];refine wpAny_bind (rY hs pl pu ?_);have yW:¬((((bX items.size 0 lo:Nat):Int)==0&&(1:Int)==1&&(bX items.size items.size hi-bX items.size 0 lo)==items.size)=true):=by
  intro q;rw[and_eq_true,and_eq_true]at q;have q1:((bX items.size 0 lo:Nat):Int)=0:=eq_of_beq q.1.1;have q2:bX items.size items.size hi-bX items.size 0 lo=items.size:=eq_of_beq q.2;exact hw ⟨by omega,by omega⟩
 show wpAny _ _ (if(((bX items.size 0 lo:Nat):Int)==0&&(1:Int)==1&&(bX items.size items.size hi-bX items.size 0 lo)==items.size)=true then _ else _) _ _ s;rw[if_neg yW,Hx];first
  |exact wpAny_bind (m:=Builtin.Tuple.tupleExact _) (wpAny_newObj_type (wpAny_pure ⟨_,rfl,wpAny_pure h⟩) xH)
  |exact wpAny_bind (m:=Builtin.Tuple.tupleExact _) (wpAny_newObj_type (wpAny_bind (wpAny_pure (wpAny_pure ⟨_,rfl,wpAny_pure h⟩))) xH)
  |exact wpAny_bind (wpAny_bind (m:=Builtin.Tuple.tupleExact _) (wpAny_newObj_type (wpAny_pure (wpAny_pure ⟨_,rfl,wpAny_pure h⟩)) xH))
  |exact wpAny_bind (wpAny_bind (m:=Builtin.Tuple.tupleExact _) (wpAny_newObj_type (wpAny_pure ⟨_,rfl,wpAny_pure h⟩) xH))
end
end HT
namespace L2
noncomputable section
open PySem PySem.Spec PyProof.Rows
abbrev TO:=St->Hp->(Option Int->Hp->Prop)->Prop
def PO (X:Cx) (e:Option Expr) (t:TO):Prop:=
 ∀(pins:List (Addr×Obj)) (s:Shared) (σ:St) (H:Hp) (Q:Option Int->Hp->Prop),Inv X pins σ H s->t σ H Q->
  wpAny (model X.prog X.w) X.A (evalPart e X.env) (fun u s'=>∃o H',Inv X pins σ H' s'/\IsPart u o/\Q o H') X.xe s
def KL:TO:=fun _ H Q=>Q none H
def PM (t:TE):TO:=fun σ H Q=>t σ H fun x H1=>∃i,x=.int i/\Q (some i) H1
variable {X:Cx}
theorem Lh:PO X none KL:=by
 intro pins s σ H Q I h;rw[evalPart_none];exact wpAny_pure ⟨none,H,I,.none,h⟩
variable {e:Expr} {te:TE}
theorem Lg(h:PE X e te):PO X (some e) (PM te):=by
 intro pins s σ H Q I hw;rw[evalPart_some];refine bZ (h pins s σ H _ I hw) fun u s1 ⟨x,H1,I1,r1,q1⟩=>?_;obtain⟨i,rfl,q⟩:=q1;obtain⟨t,rfl⟩:=r1;exact⟨some i,H1,I1,.int i t,q⟩
variable {lo hi:Option Expr}
def A5 (X:Cx) (r:V->Option Int->Option Int->Hp->VK->Prop):Prop:=
 ∀(pins:List (Addr×Obj)) (s:Shared) (σ:St) (H:Hp) (x:V) (v vl vu:Value) (lo hi:Option Int) (sl:Addr) (Q:VK),Inv X pins σ H s->RelV x v->s.heap.IsSliceOf sl vl vu .none->IsPart vl lo->IsPart vu hi->r x lo hi H Q->
  ∃T id,typeLookup (.type T) "__getitem__"=pure (some (.builtin id))/\s.TypeIs v T/\wpAny (model X.prog X.w) X.A (getItem v (.ref sl)) (EP X pins σ Q) X.xe s
theorem A5.or{r r':V->Option Int->Option Int->Hp->VK->Prop}(h:A5 X r)(h':A5 X r'):A5 X (fun x lo hi H Q=>r x lo hi H Q\/r' x lo hi H Q):=by
 intro pins s σ H x v vl vu lo hi sl Q I rx hs pl pu q;rcases q with q|q
 ·exact h pins s σ H x v vl vu lo hi sl Q I rx hs pl pu q
 ·exact h' pins s σ H x v vl vu lo hi sl Q I rx hs pl pu q
variable {th tl:TO}
def UW (r:V->Option Int->Option Int->Hp->VK->Prop) (te:TE) (tl th:TO):TE:=fun σ H Q=>te σ H fun x H1=>tl σ H1 fun l H2=>th σ H2 fun u H3=>r x l u H3 Q
variable {pos p2:Pos}
theorem Hz{r:V->Option Int->Option Int->Hp->VK->Prop}(hr:A5 X r)(he:PE X e te)(hl:PO X lo tl)(hu:PO X hi th):PE X (.Subscript e (.Slice lo hi none p2) pos) (UW r te tl th):=by
 intro pins s σ H Q I h;refine Subscript_ (bZ (he pins s σ H _ I h) fun v s1 ⟨x,H1,I1,r1,q1⟩=>?_);refine wpAny_Slice (bZ (hl pins s1 σ H1 _ I1 q1) fun vl s2 ⟨l,H2,I2,pl,q2⟩=>bZ (hu pins s2 σ H2 _ I2 q2) fun vu s3 ⟨u,H3,I3,pu,q3⟩=>?_);rw[evalPart_none];refine wpAny_pure ?_;have I4:Inv X pins σ H3 {s3 with heap:=s3.heap.push {cls:=.type "slice",data:=.fields #[vl,vu,.none]}}:=I3.kept (t':=s3.toks) fun b ob q=>get?_push_of_some _ q;obtain⟨T,id,hT,ht,hg⟩:=hr pins {s3 with heap:=s3.heap.push {cls:=.type "slice",data:=.fields #[vl,vu,.none]}} σ H3 x v vl vu l u s3.heap.objs.size Q I4 r1 (Heap.IsSliceOf.new ..) pl pu q3;show wpAny (model X.prog X.w) X.A (subscriptTail e (.Slice lo hi none p2) v (.ref s3.heap.objs.size)) (EP X pins σ Q) X.xe {s3 with heap:=s3.heap.push {cls:=.type "slice",data:=.fields #[vl,vu,.none]}};exact tail_any (ops:=[.ref s3.heap.objs.size,v]) ht hT hg (by with_unfolding_all rfl)
def qx (xs:List V) (lo hi:Option Int):List V:=(xs.drop (HT.bX xs.length 0 lo)).take (HT.bX xs.length xs.length hi-HT.bX xs.length 0 lo)
theorem rL(xs:List V)(lo hi:Option Int):(qx xs lo hi).length<=xs.length:=by
 unfold qx;rw[length_take,length_drop];omega
def TM (K:Frag):V->Option Int->Option Int->Hp->VK->Prop:=fun x lo hi H Q=>∃a xs,x=.ref a/\iT K H a xs/\
 ¬(HT.bX xs.length 0 lo=0/\HT.bX xs.length xs.length hi=xs.length)/\∀p,H p=none->Q (.ref p) (upd H p (.tup (qx xs lo hi)))
theorem MN:A5 X (TM X.K):=by
 intro pins s σ H x v vl vu lo hi sl Q I rx hs pl pu h;obtain⟨a,xs,rfl,hx,hw,q⟩:=h;cases rx;obtain⟨ak,r,ht,hz⟩:=I.tuple hx;have hlen:ak.toArray.size=xs.length:=by rw[size_toArray];exact r.length.symm
 refine⟨"tuple",_,PyProof.Rows.slot_tuple_getitem.lookup,ht.typeIs,?_⟩;refine HT.rq ht hs pl pu (by rw[hlen];exact hw) ?_ (by rw[hlen];exact hz);rw[hlen];refine⟨.ref s.heap.objs.size,_,I.laid (t':=s.toks) (o:=.tup (qx xs lo hi)) (fun b ob q=>get?_push_of_some _ q) (le_refl _) ?_,rfl,q _ (I.bh.fresh (le_refl _))⟩;exact⟨le_trans (rL xs lo hi) hz,_,(r.drop (HT.bX xs.length 0 lo)).take (HT.bX xs.length xs.length hi-HT.bX xs.length 0 lo),IsTup.new _ _⟩
variable {xs:List V}
theorem Vals.qX{us:List Value}(r:Vals xs us):us=[]↔xs=[]:=by
 cases r with
 |nil=>simp
 |cons _ _=>simp
open PySem PySem.Spec PyProof.Rows
def l8 (n:Nat) (i:Int):Option Nat:=if 0<=i then(if i<n then some i.toNat else none)else if -(n:Int)<=i then some (i+n).toNat else none
def fK {α:Type} (xs:List α) (i:Int):Option α:=(l8 xs.length i).bind fun j=>xs[j]?
variable {n j:Nat}
theorem Bz{i:Int}(h:l8 n i=some j):seqIndex? i n=some j/\j<n/\-(n:Int)<=i/\i<n:=by
 unfold l8 at h;by_cases h0:0<=i
 ·rw[if_pos h0]at h;by_cases h1:i<n
  ·rw[if_pos h1]at h;have e:i.toNat=j:=Option.some.inj h;exact⟨by rw[seqIndex_of h0 h1,e],by omega,by omega,h1⟩
  ·rw[if_neg h1]at h;cases h
 ·rw[if_neg h0]at h;by_cases h1: -(n:Int)<=i
  ·rw[if_pos h1]at h;have e:(i+n).toNat=j:=Option.some.inj h;exact⟨by rw[seqIndex_neg (by omega) h1,e],by omega,h1,by omega⟩
  ·rw[if_neg h1]at h;cases h
variable {α:Type}
theorem Ci{xs:List α}{i:Int}{v:α}(h:fK xs i=some v):∃j,seqIndex? i xs.length=some j/\xs[j]?=some v/\j<xs.length/\-(xs.length:Int)<=i/\i<xs.length:=by
 unfold fK at h;cases e:l8 xs.length i with
 |none=>rw[e]at h;cases h
 |some j=>
  rw[e]at h;obtain⟨h1,h2,h3,h4⟩:=Bz e;exact⟨j,h1,h,h2,h3,h4⟩
def vK (b:Expr):Prop:=∀o i,subscripted b false o i=operate [o,i] (getItem o i)
def A9 (X:Cx) (r:R2):Prop:=
 ∀(value slice:Expr) (pins:List (Addr×Obj)) (s:Shared) (σ:St) (H:Hp) (x y:V) (v u:Value) (Q:VK),Inv X pins σ H s->RelV x v->RelV y u->r x y H Q->
  subscripted slice false v u=operate [v,u] (getItem v u)->wpAny (model X.prog X.w) X.A (subscriptTail value slice v u) (EP X pins σ Q) X.xe s
def WZ (X:Cx) (id:String) (r:V->List V->Hp->VK->Prop):Prop:=
 ∀(pins:List (Addr×Obj)) (s:Shared) (σ:St) (H:Hp) (x:V) (xs:List V) (v:Value) (us:List Value) (Q:VK),Inv X pins σ H s->RelV x v->Vals xs us->r x xs H Q->
  wpAny (model X.prog X.w) X.A (call (.builtin id) (v::us)) (EP X pins σ Q) X.xe s
theorem A9.or{r r':R2}(h:A9 X r)(h':A9 X r'):A9 X (fun x y H Q=>r x y H Q\/r' x y H Q):=by
 intro value slice pins s σ H x y v u Q I rx ry q hs;rcases q with q|q
 ·exact h value slice pins s σ H x y v u Q I rx ry q hs
 ·exact h' value slice pins s σ H x y v u Q I rx ry q hs
variable {a b:Expr} {ta tb:TE}
theorem Jy{r:R2}(hr:A9 X r)(ha:PE X a ta)(hb:PE X b tb)(hs:vK b):PE X (.Subscript a b pos) (AN r ta tb):=by
 intro pins s σ H Q I h;exact Subscript_ (IP ha hb I h fun v u s2 x y H2 I2 rx ry q=>hr a b pins s2 σ H2 x y v u Q I2 rx ry q (hs _ _))
def N0 (K:Frag):R2:=fun x y H Q=>∃p xs i v,x=.ref p/\y=.int i/\fw K H p xs/\fK xs i=some v/\Q v H
def MZ (K:Frag):R2:=fun x y H Q=>∃p xs i v,x=.ref p/\y=.int i/\iT K H p xs/\fK xs i=some v/\Q v H
theorem By:A9 X (N0 X.K):=by
 intro value slice pins s σ H x y v u Q I rx ry h hs;obtain⟨p,xs,i,z,rfl,rfl,hq,he,q⟩:=h;cases rx;obtain⟨t,rfl⟩:=ry;obtain⟨ak,r,pl,hz⟩:=I.list hq;obtain⟨j,h1,h2,h3,h4,h5⟩:=Ci he;obtain⟨w,ew,pU⟩:=r.get h2;have hl:=r.length;have hn:=qi;have fin:EP X pins σ Q w s:=⟨z,H,I,pU,q⟩;by_cases h0:0<=i
 ·have hj:i.toNat=j:=by
   rw[seqIndex_of h0 h5]at h1;exact Option.some.inj h1
  exact item_listR pl.isList h0 (by omega) (by rw[hj];simpa using ew) fin hs
 ·have hj:(i+(ak.toArray.size:Int)).toNat=j:=by
   rw[seqIndex_neg (by omega) h4]at h1;rw[size_toArray,<- hl];exact Option.some.inj h1
  exact subscriptTail_builtinR (x:=w) pl.isList.typeIs slot_list_getitem.lookup
   (wpAny_getItem_list_neg (Q:=fun r s'=>r=w/\EP X pins σ Q r s') pl.isList (by omega) (by rw[size_toArray]<;>omega) (by omega) (by rw[hj];simpa using ew) ⟨rfl,fin⟩) hs
theorem F7:A9 X (MZ X.K):=by
 intro value slice pins s σ H x y v u Q I rx ry h hs;obtain⟨p,xs,i,z,rfl,rfl,hq,he,q⟩:=h;cases rx;obtain⟨t,rfl⟩:=ry;obtain⟨ak,r,pl,hz⟩:=I.tuple hq;obtain⟨j,h1,h2,h3,h4,h5⟩:=Ci he;obtain⟨w,ew,pU⟩:=r.get h2;have hl:=r.length;have hn:=qi;have fin:EP X pins σ Q w s:=⟨z,H,I,pU,q⟩;exact subscriptTail_builtinR (x:=w) pl.typeIs slot_tuple_getitem.lookup
  (getItem_tuple (j:=j) (Q:=fun r s'=>r=w/\EP X pins σ Q r s') pl (by omega) (by omega) (by rw[size_toArray,<- hl];exact h1) (by simpa using ew) ⟨rfl,fin⟩) hs
theorem CN(ak:List Value)(n j:Nat)(u:Value):Obj.mapSeq (·.setIfInBounds j u) {cls:=.type "list",data:=.seq ak.toArray n}={cls:=.type "list",data:=.seq (ak.set j u).toArray n}:=by
 simp[Obj.mapSeq]
theorem Inv.lst{pins:List (Addr×Obj)}{σ:St}{H:Hp}{s:Shared}{p:Addr}{xs:List V}(I:Inv X pins σ H s)(h:H p=some (.lst xs)):
  ∃(ak:List Value) (n:Nat),Vals xs ak/\s.heap.get? p=some {cls:=.type "list",data:=.seq ak.toArray n}/\xs.length<=sizeLine:=by
 obtain⟨z,ak,n,r,e⟩:=I.bh p _ h;exact⟨ak,n,r,e,z⟩
variable {pins:List (Addr×Obj)} {H:Hp} {p:Addr} {ys:List V} {ak:List Value}
theorem Inv.Nz{σ:St}{s:Shared}{its':List Value}{n':Nat}{f:Obj->Obj}(I:Inv X pins σ H s)(h:H p=some (.lst xs))(ho:s.heap.get? p=some {cls:=.type "list",data:=.seq ak.toArray n})(hf:f {cls:=.type "list",data:=.seq ak.toArray n}={cls:=.type "list",data:=.seq its'.toArray n'})(r:Vals ys its')(hz:ys.length<=sizeLine)(t:Nat):
  Inv X pins σ (upd H p (.lst ys)) {s with heap:=s.heap.update p f,toks:=t}:=by
 have e:(s.heap.update p f).get? p=some {cls:=.type "list",data:=.seq its'.toArray n'}:=by
  rw[Heap.get?_update_self f ho (by rw[hf]<;>rfl),hf]
 refine I.write (x:=p) (e:=p) (by rw[h];trivial) (.inl rfl) (fun b u hb q=>(Heap.get?_update_other _ _ (Ne.symm hb)).trans q) ⟨_,e⟩ ?_;exact⟨hz,its',n',r,e⟩
def Q3:V->V->V->Hp->(Hp->Prop)->Prop:=fun o i v H Q=>∃p xs k j,o=.ref p/\i=.int k/\H p=some (.lst xs)/\l8 xs.length k=some j/\Q (upd H p (.lst (xs.set j v)))
theorem set_list:IW X Q3:=by
 intro pins s σ H o i v ov iv u Q I ro ri rv h;obtain⟨p,xs,k,j,rfl,rfl,hp,hj,q⟩:=h;cases ro;obtain⟨t,rfl⟩:=ri;obtain⟨ak,n,r,ho,hz⟩:=I.lst hp;obtain⟨h1,h2,h3,h4⟩:=Bz hj;have hl:=r.length;have hn:=qi;have I':Inv X pins σ (upd H p (.lst (xs.set j v))) {s with heap:=s.heap.update p (Obj.mapSeq (·.setIfInBounds j u))}:=
  I.Nz hp ho (CN ak n j u) (r.set rv j) (by rw[length_set];exact hz) s.toks
 by_cases h0:0<=k
 ·have hk:k.toNat=j:=by
   rw[seqIndex_of h0 h4]at h1;exact Option.some.inj h1
  exact PySem.W.ki_setAt ho h0 (by omega) (by rw[size_toArray,<- hl];exact h4) (by rw[hk];exact⟨_,I',q⟩)
 ·have hk:(k+(ak.toArray.size:Int)).toNat=j:=by
   rw[seqIndex_neg (by omega) h3]at h1;rw[size_toArray,<- hl];exact Option.some.inj h1
  exact PySem.W.ki_setBack ho (by omega) (by rw[size_toArray,<- hl];exact h3) (by omega) (by rw[hk];exact⟨_,I',q⟩)
theorem y0(lo hi:Option Int)(n:Nat):(sliceBounds lo hi none n).1=((HT.bX n 0 lo:Nat):Int)/\(sliceBounds lo hi none n).2.1=((HT.bX n n hi:Nat):Int)/\(sliceBounds lo hi none n).2.2=1:=by
 refine⟨?_,?_,rfl⟩
 ·cases lo with
  |none=>simp[sliceBounds,HT.bX]
  |some i=>
   simp only[sliceBounds,HT.bX,Option.getD_none,show(1:Int)>0 by decide,if_true];by_cases h:i<0
   ·simp only[h,if_true]<;>omega
   ·simp only[h,if_false]<;>omega
 ·cases hi with
  |none=>simp[sliceBounds,HT.bX]
  |some i=>
   simp only[sliceBounds,HT.bX,Option.getD_none,show(1:Int)>0 by decide,if_true];by_cases h:i<0
   ·simp only[h,if_true]<;>omega
   ·simp only[h,if_false]<;>omega
theorem xt(ak:List Value)(lo hi:Option Int):slicePick ak.toArray lo hi none=((ak.drop (HT.bX ak.length 0 lo)).take (HT.bX ak.length ak.length hi-HT.bX ak.length 0 lo)).toArray:=by
 obtain⟨h1,h2,h3⟩:=y0 lo hi ak.toArray.size;unfold slicePick;rw[h1,h2,h3];simp only[sliceRange_one,pick_run,size_toArray]<;>rfl
def TN (K:Frag):V->Option Int->Option Int->Hp->VK->Prop:=fun x lo hi H Q=>∃a xs,x=.ref a/\fw K H a xs/\∀p,H p=none->Q (.ref p) (upd H p (.lst (qx xs lo hi)))
theorem KP:A5 X (TN X.K):=by
 intro pins s σ H x v vl vu lo hi sl Q I rx hs pl pu h;obtain⟨a,xs,rfl,hx,q⟩:=h;cases rx;obtain⟨ak,r,ht,hz⟩:=I.list hx;have hlen:=r.length;refine⟨"list",_,slot_list_getitem.lookup,ht.isList.typeIs,?_⟩;refine wpAny_getItem_list_slice ht.isList hs pl pu .none (by simp) ?_ (by rw[size_toArray]<;>omega);rw[xt,<- hlen];refine⟨.ref s.heap.objs.size,_,I.laid (t':=s.toks) (o:=.lst (qx xs lo hi)) (fun b ob q=>get?_push_of_some _ q) (le_refl _) ?_,rfl,q _ (I.bh.fresh (le_refl _))⟩;exact⟨le_trans (rL xs lo hi) hz,_,0,(r.drop (HT.bX xs.length 0 lo)).take (HT.bX xs.length xs.length hi-HT.bX xs.length 0 lo),get?_push_size _ rfl⟩
def kI:V->Bool
 | .bM=>true
 | .bl _=>true
 | .int _=>true
 | .str _=>true
 |_=>false
def uq:V->V->Bool
 | .bM,.bM=>true
 | .bl a,.bl b=>a==b
 | .bl a,.int b=>(if a then 1 else 0)==b
 | .int a,.bl b=>a==(if b then 1 else 0)
 | .int a,.int b=>a==b
 | .str a,.str b=>a==b
 |_,_=>false
variable {A:Around} {x:V}
theorem OB{s:Shared}{y:V}{u v:Value}(ry:RelV y u)(rx:RelV x v)(fy:kI y=true)(fx:kI x=true):SeqAt.EqAt A s u v (uq y x):=by
 cases y with
 |bM=>
  cases ry;cases x with
  |bM=>cases rx;exact SeqAt.EqAt.same _
  |bl b=>cases rx;exact SeqAt.EqAt.none_bool b
  |int b=>obtain⟨t,rfl⟩:=rx;exact SeqAt.EqAt.none_int b t
  |str b=>obtain⟨t,rfl⟩:=rx;exact SeqAt.EqAt.none_str b t
  |_=>exact absurd (show false=true from fx) Bool.false_ne_true
 |bl a=>
  cases ry;cases x with
  |bM=>cases rx;exact SeqAt.EqAt.bool_none a
  |bl b=>cases rx;exact SeqAt.EqAt.bool_bool a b
  |int b=>obtain⟨t,rfl⟩:=rx;exact SeqAt.EqAt.bool_int a b t
  |str b=>obtain⟨t,rfl⟩:=rx;exact SeqAt.EqAt.bool_str a b t
  |_=>exact absurd (show false=true from fx) Bool.false_ne_true
 |int a=>
  obtain⟨t',rfl⟩:=ry;cases x with
  |bM=>cases rx;exact SeqAt.EqAt.int_none a t'
  |bl b=>cases rx;exact SeqAt.EqAt.int_bool a t' b
  |int b=>obtain⟨t,rfl⟩:=rx;exact SeqAt.EqAt.int_int a t' b t
  |str b=>obtain⟨t,rfl⟩:=rx;exact SeqAt.EqAt.int_str a t' b t
  |_=>exact absurd (show false=true from fx) Bool.false_ne_true
 |str a=>
  obtain⟨t',rfl⟩:=ry;cases x with
  |bM=>cases rx;exact SeqAt.EqAt.str_none a t'
  |bl b=>cases rx;exact SeqAt.EqAt.str_bool a t' b
  |int b=>obtain⟨t,rfl⟩:=rx;exact SeqAt.EqAt.str_int a t' b t
  |str b=>obtain⟨t,rfl⟩:=rx;exact SeqAt.EqAt.str_str a t' b t
  |_=>exact absurd (show false=true from fx) Bool.false_ne_true
 |_=>exact absurd (show false=true from fy) Bool.false_ne_true
def ur (x:V) (u:Value):Bool:=match u with
 | .none=>uq .bM x
 | .bool b=>uq (.bl b) x
 | .int i _=>uq (.int i) x
 | .str z _=>uq (.str z) x
 |_=>false
theorem FZ{y:V}{u:Value}(r:RelV y u)(f:kI y=true):ur x u=uq y x:=by
 cases y with
 |bM=>cases r;rfl
 |bl b=>cases r;rfl
 |int i=>obtain⟨t,rfl⟩:=r;rfl
 |str z=>obtain⟨t,rfl⟩:=r;rfl
 |_=>exact absurd (show false=true from f) Bool.false_ne_true
theorem vC{x:V}:∀{xs:List V} {us:List Value},Vals xs us->xs.all kI=true->us.any (ur x)=xs.any fun y=>uq y x
 |_,_,.nil,_=>rfl
 |y::xs,u::us,.cons r t,f=>by
  rw[all_cons,and_eq_true]at f;rw[any_cons,any_cons,FZ r f.1,vC t f.2]
theorem sF{A:Around}{s:Shared}{x:V}{v:Value}(rx:RelV x v)(fx:kI x=true):∀{xs:List V} {us:List Value},Vals xs us->xs.all kI=true->∀u∈us,SeqAt.EqAt A s u v (ur x u)
 |_,_,.nil,_=>fun u hu=>by cases hu
 |y::xs,u::us,.cons r t,f=>fun u' hu=>by
  rw[all_cons,and_eq_true]at f;rcases mem_cons.mp hu with rfl|hu
  ·rw[FZ r f.1];exact OB r rx f.1 fx
  ·exact sF rx fx t f.2 u' hu
def yM (x:V) (xs:List V):Bool:=xs.any fun y=>uq y x
def Rg (K:Frag) (neg:Bool):R2:=fun x y H Q=>∃p xs,y=.ref p/\(fw K H p xs\/iT K H p xs)/\kI x=true/\xs.all kI=true/\Q (.bl (if neg then !yM x xs else yM x xs)) H
theorem EK:eC X (compareOp .In) (Rg X.K false):=by
 intro pins s σ H x y v u Q I rx ry h;obtain⟨p,xs,rfl,hq,fx,fs,q⟩:=h;cases ry;rcases hq with hq|hq
 ·obtain⟨ak,r,pl,hz⟩:=I.list hq;refine SeqAt.in_listAt (ur x) pl.isList (fun w hw=>sF rx fx r fs w (by simpa using hw)) ⟨.bl _,H,I,rfl,?_⟩;rw[show ak.toArray.any (ur x)=ak.any (ur x) by simp,vC r fs];exact q
 ·obtain⟨ak,r,pl,hz⟩:=I.tuple hq;refine SeqAt.in_tupleAt (ur x) pl (fun w hw=>sF rx fx r fs w (by simpa using hw)) ⟨.bl _,H,I,rfl,?_⟩;rw[show ak.toArray.any (ur x)=ak.any (ur x) by simp,vC r fs];exact q
theorem zR:k8 X (.type "list") (fun xs H Q=>∃p ys,xs=[.ref p]/\(fw X.K H p ys\/iT X.K H p ys)/\∀l,H l=none->Q (.ref l) (upd H l (.lst ys))):=by
 intro pins s σ H xs us Q I r h;obtain⟨p,ys,rfl,hq,q⟩:=h;obtain⟨u,rfl,rx⟩:=vals1 r;cases rx;have fin:∀(ak:List Value),Vals ys ak->ys.length<=sizeLine->∀(h':Heap) (c':Nat),(∀b o',s.heap.get? b=some o'->h'.get? b=some o')->
   h'.get? s.heap.objs.size=some {cls:=.type "list",dict:=none,data:=.seq ak.toArray c',slots:=#[]}->EP X pins σ Q (.ref s.heap.objs.size) {s with heap:=h'}:=fun ak r' hz h' c' kp e=>
  ⟨.ref s.heap.objs.size,_,I.laid (t':=s.toks) kp (le_refl _) (show gj X.prog X.w _ h' _ (.lst ys)from⟨hz,ak,c',r',e⟩),rfl,q _ (I.bh.fresh (le_refl _))⟩
 rcases hq with hq|hq
 ·obtain⟨ak,r',pl,hz⟩:=I.list hq;have hlen:=r'.length;obtain⟨o,ho,hc,n,hd⟩:=pl.isList;exact call_list_seq p (.inl rfl) ho hc hd (fun h' c' kp e=>fin ak r' hz h' c' kp e) (by simp only[size_toArray]<;>omega)
 ·obtain⟨ak,r',pl,hz⟩:=I.tuple hq;have hlen:=r'.length;obtain⟨o,ho,hc,n,hd⟩:=pl;exact call_list_seq p (.inr rfl) ho hc hd (fun h' c' kp e=>fin ak r' hz h' c' kp e) (by simp only[size_toArray]<;>omega)
theorem pv:k8 X (.type "tuple") (fun xs H Q=>∃p ys,xs=[.ref p]/\((fw X.K H p ys/\∀l,H l=none->Q (.ref l) (upd H l (.tup ys)))\/(iT X.K H p ys/\Q (.ref p) H))):=by
 intro pins s σ H xs us Q I r h;obtain⟨p,ys,rfl,h⟩:=h;obtain⟨u,rfl,rx⟩:=vals1 r;cases rx;rcases h with⟨hq,q⟩|⟨hq,q⟩
 ·obtain⟨ak,r',pl,hz⟩:=I.list hq;have hlen:=r'.length;refine call_tuple_list pl.isList (fun h' kp=>?_) (by simp only[size_toArray]<;>omega);have I1:Inv X pins σ H {s with heap:=h'}:=I.kept (t':=s.toks) kp;have I2:Inv X pins σ (upd H h'.objs.size (.tup ys)) {s with heap:=h'.push {cls:=.type "tuple",data:=.seq ak.toArray}}:=
   I1.laid (t':=s.toks) (fun b o e=>get?_push_of_some _ e) (le_refl _) (show gj X.prog X.w _ _ _ (.tup ys)from⟨hz,ak,r',IsTup.new _ _⟩)
  exact⟨.ref h'.objs.size,_,I2,rfl,q _ (I1.bh.fresh (le_refl _))⟩
 ·obtain⟨ak,r',pl,hz⟩:=I.tuple hq;exact call_tuple_same pl ⟨.ref p,H,I,rfl,q⟩
def R5 (K:Frag) (T:String) (x:V) (H:Hp):Prop:=match x with
 | .str _=>T="str"
 | .int _=>T="int"
 | .ref p=>(T="list"/\∃xs,fw K H p xs)\/(T="tuple"/\∃o,K.lookup p=some o/\o.cls=.type "tuple"/\o.dict=none)\/
   (T="dict"/\((∃fN,H p=some (.dK fN))\/∃fN,H p=some (.dT fN)))\/(T="set"/\∃S n,H p=some (.set S n))
 |_=>False
variable {T:String}
theorem My{σ:St}{s:Shared}{v:Value}(I:Inv X pins σ H s)(r:RelV x v)(ty:R5 X.K T x H):
  s.TypeIs v T/\∀a,v=.ref a->∃ob,s.heap.get? a=some ob/\ob.dict=none:=by
 cases x with
 |str z=>
  obtain⟨t,rfl⟩:=r;cases(show T="str" from ty);exact⟨typeIs_str s z t,fun _ e=>nomatch e⟩
 |int i=>
  obtain⟨t,rfl⟩:=r;cases(show T="int" from ty);exact⟨typeIs_int s i t,fun _ e=>nomatch e⟩
 |ref p=>
  cases r;rcases ty with⟨rfl,xs,hq⟩|⟨rfl,o,hk,hc,hd⟩|⟨rfl,hk⟩|⟨rfl,S,n,hk⟩
  ·obtain⟨ak,_,pl,_⟩:=I.list hq;refine⟨pl.isList.typeIs,fun a e=>?_⟩;cases e;obtain⟨o,n,e,c,hd,_⟩:=pl;exact⟨o,e,hd⟩
  ·refine⟨⟨o,I.p7 p o hk,hc⟩,fun a e=>?_⟩;cases e;exact⟨o,I.p7 _ o hk,hd⟩
  ·have z:∃o,s.heap.get? p=some o/\o.ExactDict:=by
    rcases hk with⟨fN,hk⟩|⟨fN,hk⟩
    ·obtain⟨_,_,_,_,o,_,_,e,ex,_⟩:=I.bh p _ hk;exact⟨o,e,ex⟩
    ·obtain⟨_,_,_,_,o,_,_,e,ex,_⟩:=I.bh p _ hk;exact⟨o,e,ex⟩
   obtain⟨o,e,ex⟩:=z;refine⟨⟨o,e,ex.1⟩,fun a e2=>?_⟩;cases e2;exact⟨o,e,ex.2.1⟩
  ·obtain⟨o,_,_,_,e,ex,_⟩:=I.bh p _ hk;refine⟨⟨o,e,ex.1⟩,fun a e2=>?_⟩;cases e2;exact⟨o,e,ex.2.1⟩
 |_=>exact False.elim ty
def UZ (K:Frag) (T:String) (r:V->List V->Hp->VK->Prop) (to:TE) (t:TA):TE:=fun σ H Q=>to σ H fun x H1=>R5 K T x H1/\t σ H1 fun xs H2=>r x xs H2 Q
variable {to:TE} {o:Expr} {es:List Expr} {t:TA} {sT apos:Pos} {name:Str} {r:V->List V->Hp->VK->Prop} {id:String}
theorem Qc(pa:PlainAttrs T)(slot:Slot T name id)(Vo:typeOf (.builtin id)=pure (.type "method_descriptor"))(hm:WZ X id r)(ho:PE X o to)(ha:PA X (e::es) t)(CY:attributeBase o name X.env (eval o X.env)=eval o X.env:=by rfl)(Ie:((backTo sT (starEach (e::es) X.env)).all (fun x=>!x.1)&&(backToKw sT (keywordEach [] X.env)).all (fun x=>x.1.isSome)
   &&decide ((e::es).length+([]:List Keyword).length+(if([]:List Keyword).isEmpty then 0 else 1)<30))=true:=by rfl)(ug:(apos.endLine==sT.line)=true:=by rfl)(hs:starEach (e::es) X.env=(false,eval e X.env)::starEach es X.env:=by rfl)(yV:(backTo sT (starEach es X.env)).any (·.1)=false:=by rfl):
  PE X (.Call (.Attribute o name apos) (e::es) [] sT) (UZ X.K T r to t):=by
 intro pins s σ H Q I h;refine wpAny_Call_method_late CY Ie ug rfl (bZ (ho pins s σ H _ I h) fun v s1 ⟨x,H1,I1,r1,ty,q1⟩=>?_);obtain⟨h1,h2⟩:=My I1 r1 ty;refine⟨T,id,pa,slot,Vo,h1,h2,?_⟩;have hA:=ha sT pins s1 σ H1 _ I1 q1;rw[hs]at hA ⊢;refine Calls.callWith_builtin (by show(false || (backTo sT (starEach es X.env)).any (·.1))=false;rw[yV]<;>rfl) (Calls.evalArgs_plain ?_);exact bZ hA fun us s2 ⟨vs,H2,I2,r2,q2⟩=>hm pins s2 σ H2 x vs v us Q I2 r1 r2 q2
open PySem PySem.Spec PyProof.Rows
def X0 (X:Cx) (id:String) (r:V->List V->Hp->VK->Prop):Prop:=
 ∀(pins:List (Addr×Obj)) (s:Shared) (σ:St) (H:Hp) (x:V) (xs:List V) (v:Value) (us:List Value) (Q:VK),Inv X pins σ H s->RelV x v->Vals xs us->r x xs H Q->
  wpAny (model X.prog X.w) X.A (call (.builtin id) (v::us)) (EP X pins σ Q) X.xe s
theorem Vals.one:∀{x:V} {us:List Value},Vals [x] us->∃u,us=[u]/\RelV x u
 |_,_,.cons r .nil=>⟨_,rfl,r⟩
theorem Vals.rep{xs:List V}{us:List Value}(h:Vals xs us):∀k:Nat,Vals (List.replicate k xs).flatten (List.replicate k us).flatten
 |0=>.nil
 |k+1=>by
  rw[replicate_succ,replicate_succ,flatten_cons,flatten_cons];exact Vals.append h (Vals.rep h k)
theorem foldl_rep(ak:List Value):∀(k:Nat) (acc:List Value),
  foldl (fun x1 x2=>x1++x2) acc.toArray (List.replicate k ak.toArray)=(acc++(List.replicate k ak).flatten).toArray
 |0,acc=>by simp
 |k+1,acc=>by
  have e:acc.toArray++ak.toArray=(acc++ak).toArray:=by simp
  have e2:(acc++ak)++(List.replicate k ak).flatten=acc++(List.replicate (k+1) ak).flatten:=by
   rw[replicate_succ,flatten_cons,append_assoc]
  rw[<- e2,<- foldl_rep ak k (acc++ak),<- e,replicate_succ,foldl_cons]
variable {l:Addr} {σ:St}
variable {s:Shared} in
theorem Inv.U1{its':List Value}{f:Array Value->Array Value}{t':Nat}(I:Inv X pins σ H s)(hH:H l=some (.lst xs))(e:s.heap.get? l=some {cls:=.type "list",data:=.seq ak.toArray n})(hf:f ak.toArray=its'.toArray)(hv:Vals ys its')(hz:ys.length<=sizeLine):
  Inv X pins σ (upd H l (.lst ys)) {s with heap:=s.heap.update l (Obj.mapSeq f),toks:=t'}:=by
 have q:=PySem.IsL.update e f;rw[hf]at q;refine I.write (x:=l) (e:=l) (by rw[hH];exact trivial) (.inl rfl) (fun b' u hb hu=>(Heap.get?_update_other s.heap (Obj.mapSeq f) (Ne.symm hb)).trans hu) ⟨_,q⟩ ?_;exact⟨hz,its',_,hv,q⟩
variable {s:Shared} in
theorem Inv.ND{t':Nat}(I:Inv X pins σ H s)(hv:Vals ys ak)(hz:ys.length<=sizeLine):
  Inv X pins σ (upd H s.heap.objs.size (.lst ys)) {s with heap:=s.heap.push {cls:=.type "list",data:=.seq ak.toArray},toks:=t'}:=
 I.laid (fun _ _ q=>get?_push_of_some _ q) (le_refl _) ⟨hz,ak,0,hv,get?_push_size _ rfl⟩
variable {s:Shared} in
theorem Inv.fresh(I:Inv X pins σ H s):H s.heap.objs.size=none:=I.bh.fresh (le_refl _)
variable {s:Shared} in
theorem Inv.NA(I:Inv X pins σ H s)(hH:H l=some (.lst xs)):xs.length<=sizeLine/\∃(ak:List Value) (n:Nat),Vals xs ak/\xs.length=ak.length/\s.heap.get? l=some {cls:=.type "list",data:=.seq ak.toArray n}:=by
 obtain⟨z,ak,n,r,e⟩:=I.bh l _ hH;exact⟨z,ak,n,r,r.length,e⟩
theorem HI(h:n<=sizeLine):Builtin.List.listTooLong n=false:=by
 unfold Builtin.List.listTooLong;exact decide_eq_false (by omega)
def L0:V->List V->Hp->VK->Prop:=fun x vs H Q=>∃l xs y,x=.ref l/\vs=[y]/\H l=some (.lst xs)/\xs.length<sizeLine/\Q .bM (upd H l (.lst (xs++[y])))
theorem EX:X0 X "list.append" L0:=by
 intro pins s σ H x vs v us Q I rx rv h;obtain⟨l,xs,y,rfl,rfl,hH,hz,q⟩:=h;cases rx;obtain⟨u,rfl,ru⟩:=rv.one;obtain⟨z,ak,n,r,hl,e⟩:=I.NA hH;refine call_meets F.slot_list_append ⟨_,e,rfl⟩ F.entry_list_append (F.args_list_append_2 _ _) (PySem.list_append l ak.toArray n u (by rw[size_toArray];omega)) ⟨e,?_⟩;refine⟨.bM,_,I.U1 (its':=ak++[u]) hH e (by simp) (r.append (.cons ru .nil)) ?_,rfl,q⟩;rw[length_append,length_singleton];omega
def TQ:R2:=fun x y H Q=>∃l k xs,x=.ref l/\y=.int k/\H l=some (.lst xs)/\-(2^63)<=k/\k<2^63/\xs.length*k.toNat<=sizeLine/\
 ∀p,H p=none->Q (.ref p) (upd H p (.lst (List.replicate k.toNat xs).flatten))
theorem len_rep(xs:List α)(k:Nat):(List.replicate k xs).flatten.length=k*xs.length:=by
 induction k with
 |zero=>simp
 |succ k ih=>rw[replicate_succ,flatten_cons,length_append,ih,succ_mul,add_comm]
theorem Nk:eC X (binaryOp .Mult) TQ:=by
 intro pins s σ H x y v u Q I rx ry h;obtain⟨l,k,xs,rfl,rfl,hH,h1,h2,hz,q⟩:=h;cases rx;obtain⟨t,rfl⟩:=ry;obtain⟨z,ak,n,r,hl,e⟩:=I.NA hH;have hlen:ak.toArray.size*k.toNat<=sizeLine:=by rw[size_toArray,<- hl];exact hz
 have oQ:¬ak.toArray.size*k.toNat>(2^63-1)/8:=by
  have:(sizeLine:Nat)<=(2^63-1)/8:=by decide
  omega
 have Uj:¬(!Builtin.List.listFitsIndex k)=true:=by
  rw[fitsIndex_both h1 h2];exact Bool.false_ne_true
 have Qr:¬Builtin.List.listTooLong (ak.toArray.size*k.toNat)=true:=by
  rw[HI hlen];exact Bool.false_ne_true
 have Ug:foldl (fun x1 x2=>x1++x2) #[] (List.replicate (if ak.toArray.isEmpty=true then 0 else k.toNat) ak.toArray)=(List.replicate k.toNat ak).flatten.toArray:=by
  have f0:∀m:Nat,foldl (fun x1 x2=>x1++x2) #[] (List.replicate m ak.toArray)=(List.replicate m ak).flatten.toArray:=fun m=>by
   have:=foldl_rep ak m [];rw[nil_append]at this;exact this
  rw[f0];cases ak with
  |nil=>simp
  |cons a r'=>rw[if_neg (by simp)]
 refine wpAny_binaryOp_repeat_ref (T:="list") (U:="int") (by decide) ⟨_,e,rfl⟩ (fun s'=>typeIs_int s' k t) noFill_list_mul F.fills_int_mul F.slot_int_rmul repeat_list F.slot_int_index.lookup
  (call_meets F.slot_int_rmul (typeIs_int s k t) F.entry_int_rmul (F.args_int_rmul_2 _ _) (int___rmul___int_list k t l ak.toArray n)
   ⟨e,rfl,⟨_,e,rfl⟩,call_meets F.slot_list_mul ⟨_,e,rfl⟩ F.entry_list_mul (F.args_list_mul_2 _ _) (AutoListH.list___mul___list_int_3 l ak.toArray n k t Uj oQ Qr) ⟨e,?_⟩⟩)
 rw[Ug];exact⟨.ref _,_,I.ND (t':=s.toks) (r.rep k.toNat) (by rw[len_rep,Nat.mul_comm];exact hz),rfl,q _ I.fresh⟩
end
end L2
namespace To
noncomputable section
open PySem PySem.W PySem.Calls PyProof.Rows
variable {h:Heap}
theorem uc{P:Params}:∀(ns:List Int) (vs:List Value),WellAll P h vs (ns.map WData.int)->IntsAre vs ns:=by
 intro ns;induction ns with
 |nil=>
  intro vs w;rw[map_nil]at w;cases w;exact .nil
 |cons n ns ih=>
  intro vs w;rw[map_cons]at w;cases w with
  |cons a b=>
   cases a;exact .cons _ _ (ih _ b)
variable {n:Nat}
theorem Eb{l:OpenLaw}(hn:l.most=some n){P:Params}{args:List WData}{vals:List Value}(CT:l.row.toRowW.claim.pre args=true)(Fq:WellAll P h vals args):
  ∃a vs ns,vals=[Value.ref a]/\args=[WData.list (ns.map WData.int)]/\h.get? a=some {cls:=.type "list",data:=.seq vs.toArray}/\IntsAre vs ns/\ns.length<=n:=by
 have Vq:WShape.hasAll [] args [.list .int]=true:=(pre_splitW CT).1;have hc:l.pre.holds [] {args:=args}=true:=(pre_splitW CT).2;obtain⟨d,r,rfl,h1,h2⟩:=hasAllW_cons Vq;obtain rfl:=hasAllW_nil h2;obtain⟨xs,rfl,h3⟩:=hasW_list h1;obtain⟨ns,rfl⟩:=items_int h3;have hlen:ns.length<=n:=by
  unfold OpenLaw.pre at hc;have h4:(WTm.not (.lt (.lit (.int (n:Int))) (.len (.arg 0)))).holds [] {args:=[.list (ns.map .int)]}=true:=by
   have h4:=(holds_andW hc).1;rw[hn]at h4;exact h4
  have h5:=condW_of h4 (w_not (w_lt w_lit (w_len_list (w_arg rfl))));rw[length_map]at h5;refine Nat.le_of_not_lt fun q=>?_;have q':(n:Int)<((ns.length:Nat):Int):=by omega
  first
   |(rw[decide_eq_true q']at h5;exact absurd h5 (by decide))
   |(simp at h5;omega)
 cases Fq with
 |cons w1 w2=>
  cases w2;cases w1 with
  |list ho oR=>exact⟨_,_,ns,rfl,rfl,ho,uc ns _ oR,hlen⟩
theorem Ew(l:OpenLaw)(args:List WData):l.row.toRowW.claim.post args (.bool true) args=true:=
 postW_of (r:=l.row.toRowW) (X:=(true==true))
  (show WShape.has [] (.bool true) .bool=true by first|rfl|decide|simp[WShape.has,WShape.arms,WShape.armsAll])
  (show(WTm.eq .res (.lit (.bool true))).value [] {args:=args,res:=some (.bool true),after:=args}=some (.bool (true==true))from w_eq_bool (w_res rfl) w_lit) rfl
variable {q:Program} {loose:List Str} {XP:(Str->Option Value)->Heap->Prop} {YP:World->Heap->Prop}
theorem Am{l:OpenLaw}{d:DefRec}(hn:l.most=some n)(FJ:d.params.defaults=[])(call:∀(w:World) (aL bS:Shared) (mg mb:Str->Option Value) (fa:Addr) (o:Obj) (pm cd doc:Value) (a:Addr) (vs:List Value) (ns:List Int),
   Ground q loose [] XP w aL mg mb bS.heap->YP w bS.heap->
   bS.heap.get? fa=some o->o.data=.func (docDef d.name d.params d.body d.scope pm cd doc)->bS.heap.CodeRec cd d.name->mg d.name=some (.ref fa)->
   bS.heap.get? a=some {cls:=.type "list",data:=.seq vs.toArray}->IntsAre vs ns->ns.length<=n->bS.gens=#[]->
   codeAny (model l.prog w) callerA (.call (.ref fa) ⟨[.ref a],[]⟩) (fun r s'=>r=.ok (.ret (.bool true))/\OldK bS.heap s'.heap/\s'.os=bS.os/\AllBare s'.gens) bS):
  WalkO q loose XP YP l.row.toRowW d [] (fun f vs=>PySem.call f vs):=by
 intro w aL bS mg mb G Y fa o pm cd doc dV kV ho hd gf hD FF hg args vals as CT hlay hrd Fq gE;obtain rfl:dV=.none:=Dflts.none hD FJ;obtain rfl:kV=.none:=Dflts.noKw hD;obtain⟨a,vs,ns,rfl,rfl,HX,hints,hlen⟩:=Eb hn CT Fq;refine enter_call (codeAny_mono (call w aL bS mg mb fa o pm cd doc a vs ns G Y ho (fd_plain hd) gf FF HX hints hlen hg) fun r s' hq=>?_);obtain⟨rfl,h2,h3,h4⟩:=hq;exact⟨.inl ⟨.bool true,.bool true,[],rfl,fun _=>rfl,.bool true,Ew l _,fun _=>⟨List.Pairwise.nil,fun _ hm=>(nomatch hm)⟩⟩,h2,h3,h4⟩
end
end To
namespace L2
noncomputable section
open PySem PySem.Spec PyProof.Rows
theorem vU:∀{vs:List Value} {ns:List Int},IntsAre vs ns->Vals (ns.map V.int) vs
 |_,_,.nil=>.nil
 |_,_,.cons n t h=>.cons ⟨t,rfl⟩ (vU h)
def IX (H:Hp):Prop:=∀b,H b=none\/∃o xs,H b=some (.rH o (.lst xs))
variable {P:Program} {w:World} {mg:Str->Option Value} {k:Nat} {a:Addr} {fd:FuncData} {x:Str}
theorem HR{K:Frag}{mb:Str->Option Value}{CX:xr}{fa:Addr}{sp:Sp}{bS:Shared}{vs:List Value}{ns:List Int}(KX:K.In bS.heap)(RH:bS.heap.Ns mainGlobals mg)(hb:bS.heap.Ns builtinsNs mb)(wN:∀x:Str,x≠"__name__"->mb x=bootBuiltins x)(Ui:bS.heap.NoLimit)(hg:bS.gens=#[])(ha:bS.heap.get? a=some {cls:=.type "list",data:=.seq vs.toArray})(hi:IntsAre vs ns)(hl:ns.length<=sizeLine)(hr:cv k callerA)(F:∀base:Heap,K.In base->base.Ns mainGlobals mg->gu P w K mg base CX k fa fd [x] sp)(Qw:∀(s:Shared) (u:Value),BindsTo s fd ⟨[u],[]⟩ [(x,u)])(l9:∀H:Hp,IX H->fw K H a (ns.map V.int)->sp [.ref a] H (fun v _=>v=.bl true) fun _ _ _=>False)(Ov:∀H e s',CX [] H bS (fun _ _ _=>False) e s'->False):
  codeAny (model P w) callerA (.call (.ref fa) ⟨[.ref a],[]⟩) (fun r s'=>r=.ok (.ret (.bool true))/\OldK bS.heap s'.heap/\s'.os=bS.os/\AllBare s'.gens) bS:=by
 have rv:=vU hi;have U2:=hi.length

 have core:∀H:Hp,IX H->fw K H a (ns.map V.int)->i6 P w H bS.heap->(∀b,H b≠none->b=a)->(H a≠none->K.lookup a=none)->
   codeAny (model P w) callerA (.call (.ref fa) ⟨[.ref a],[]⟩) (fun r s'=>r=.ok (.ret (.bool true))/\OldK bS.heap s'.heap/\s'.os=bS.os/\AllBare s'.gens) bS:=by
  intro H hO hS bh hA hK;have Cf:∀{b:Addr} {o:Obj},bS.heap.get? b=some o->H b=none->(oP bS.heap H).get? b=some o:=fun e n=>I0 e n;have EU:∀{b:Addr} {o:Obj} {es:Array DictEntry} {ep:Nat},bS.heap.get? b=some o->o.data=.dict es ep->H b=none:=fun{b o es ep} e d=>by
   cases q:H b with
   |none=>rfl
   |some u=>
    have e':b=a:=hA b (by rw[q];simp);subst e';rw[ha]at e;cases e;have d':Data.seq vs.toArray _=Data.dict es ep:=d;cases d'
  have JF:∀{b:Addr} {m:Str->Option Value},bS.heap.Ns b m->(oP bS.heap H).Ns b m:=fun{b m} ⟨o,es,ep,e,d,r⟩=>⟨o,es,ep,Cf e (EU e d),d,r⟩;have S1:K.In (oP bS.heap H):=fun b o e=>Cf (KX b o e) (by
   cases q:H b with
   |none=>rfl
   |some u=>
    have e':b=a:=hA b (by rw[q];simp);subst e';rw[hK (by rw[q];simp)]at e;cases e)
  have hM:Mod K mg (oP bS.heap H):=⟨S1,JF RH,⟨mb,JF hb,wN⟩,let ⟨mc,h1,h2⟩:=Ui;⟨mc,JF h1,h2⟩⟩;have e0:DI P w K mg (oP bS.heap H) callerA [] bS H:=⟨rfl,hM,fun b o e=>Lv e,le_of_eq (FH _ _),trivial,fun b hb=>absurd (show b∈([]:List Addr)from hb) (by simp),bh,.of_eq hg⟩;refine codeAny_mono ((F _ S1 (JF RH)).run callerA [] bS H ⟨[.ref a],[]⟩ [.ref a] [.ref a] _ _ hr e0 (Qw bS (.ref a)) (.cons rfl .nil) (l9 H hO hS)) fun r s' h=>?_;cases r with
  |error e=>exact(Ov H e s' h).elim
  |ok fl=>
   cases fl with
   |next=>exact False.elim h
   |brk=>exact False.elim h
   |cont=>exact False.elim h
   |ret u=>
    obtain⟨v,H',os,bare,un,Uc,r',q⟩:=h;have q':v=.bl true:=q;subst q';obtain rfl:u=Value.bool true:=r';refine⟨rfl,OldK.of_keep fun b o e=>?_,os,bare⟩;cases q:H b with
    |none=>exact un.keep b o e q (by intro z;exact absurd (show b∈([]:List Addr)from z) (by simp)) (by simp)
    |some u=>
     rcases hO b with z|⟨ob,xs,z⟩
     ·rw[q]at z;cases z
     ·have z2:=un.mw b ob _ z;obtain⟨e1,_⟩:=bh b _ z;obtain⟨e2,_⟩:=Uc b _ z2;rw[e]at e1;cases e1;exact e2
 cases hk:K.lookup a with
 |some o=>

  have e:=KX a o hk;rw[ha]at e;cases e;refine core (fun _=>none) (fun _=>.inl rfl) (.inr ⟨_,vs.toArray,_,hk,rfl,rfl,rfl,by rw[size_toArray,U2];exact hl,by simpa using rv⟩) (fun b u z=>by have z':(none:Option HO)=some u:=z;cases z') (fun b z=>absurd rfl z) fun z=>absurd rfl z
 |none=>
  refine core (fun b=>if b=a then some (.rH {cls:=.type "list",data:=.seq vs.toArray} (.lst (ns.map V.int)))else none) (fun b=>?_) (.inl (.inr ⟨{cls:=.type "list",data:=.seq vs.toArray},if_pos rfl⟩)) (fun b u z=>?_) (fun b z=>?_) fun _=>hk
  ·by_cases hb:b=a
   ·exact .inr ⟨_,_,if_pos hb⟩
   ·exact .inl (if_neg hb)
  ·by_cases hb:b=a
   ·have z':=(if_pos hb).symm.trans z;cases z';subst hb;exact⟨ha,by rw[length_map];exact hl,vs,_,rv,ha⟩
   ·have z':=(if_neg hb).symm.trans z;cases z'
  ·by_cases hb:b=a
   ·exact hb
   ·exact absurd (if_neg hb) z
open PySem PySem.Spec PyProof.Rows
variable {n:Nat}
theorem KC{l:PySem.W.OpenLaw}{q:Program}{loose:List Str}{XP:(Str->Option Value)->Heap->Prop}{YP:World->Heap->Prop}{d:DefRec}{K:Params->Frag}{CX:World->xr}{sp:World->Sp}(hn:l.most=some n)(RL:n<=sizeLine)(FJ:d.params.defaults=[])(hr:cv k callerA)(hY:∀(w:World) (h:Heap),YP w h->(K w.params).In h)(F:∀(w:World) (mg:Str->Option Value) (fa:Addr) (h:Heap),(K w.params).In h->h.Ns mainGlobals mg->mg d.name=some (.ref fa)->
   ∃fd:FuncData,(∀(s:Shared) (u:Value),BindsTo s fd ⟨[u],[]⟩ [(x,u)])/\
    ∀base:Heap,(K w.params).In base->base.Ns mainGlobals mg->gu l.prog w (K w.params) mg base (CX w) k fa fd [x] (sp w))(l9:∀(w:World) (H:Hp) (a:Addr) (ns:List Int),ns.length<=n->IX H->fw (K w.params) H a (ns.map V.int)->sp w [.ref a] H (fun v _=>v=.bl true) fun _ _ _=>False)(Ov:∀(w:World) (H:Hp) (s:Shared) (e:Value) (s':Shared),CX w [] H s (fun _ _ _=>False) e s'->False):
  PySem.W.WalkO q loose XP YP l.row.toRowW d [] (fun f vs=>PySem.call f vs):=by
 refine To.Am hn FJ fun w aL bS mg mb fa o pm cd doc a vs ns G Y ho hd gf FF HX hints hlen hg=>?_;have KX:=hY w _ Y;obtain⟨fd,hb,hF⟩:=F w mg fa _ KX G.T.g FF;exact HR KX G.T.g G.T.b G.T.builtins G.T.nolimit hg HX hints (le_trans hlen RL) hr hF hb (fun H hO hS=>l9 w H a ns hlen hO hS) fun H e s'=>Ov w H bS e s'
open PySem PySem.Spec PyProof.Rows
def jG (s:Stmt):Arguments:=match s with
 | .FunctionDef _ a _ _ _ _ _ _ _ _=>a
 |_=>{posonlyargs:=[],args:=[],vararg:=none,kwonlyargs:=[],kw_defaults:=[],kwarg:=none,defaults:=[]}
def cT (s:Stmt):List Stmt:=match s with
 | .FunctionDef _ _ b _ _ _ _ _ _ _=>b
 |_=>[]
def aU (s:Stmt):Scope:=match s with
 | .FunctionDef _ _ _ _ _ _ sc _ _ _=>sc
 |_=>{kind:=.function,names:=[],isGenerator:=false,isCoroutine:=false}
abbrev iV:xr:=fun _ _ _ _ _ _=>False
abbrev E0:XK:=fun _ _ _=>False
variable {X:Cx}
theorem xF:Passes iV X E0:=fun _ _ _ _ _ _ _ h=>h.elim
structure mH (K:Frag) (x qual:Str) (st:Stmt) (f:Addr) (fd:FuncData):Prop where
 ex:∃(oc:Value) (od:Option Addr) (kV doc pm:Value) (an:Option Addr) (bA ct:Value) (rA:Array (Option Value)),
  fd=fnOf x qual (jG st) (cT st) (aU st) .none kV doc pm an bA ct/\K.lookup f=some ⟨oc,od,.func fd,rA⟩/\codeIn K bA qual=true
 kp:keepIn K (.ref f)=true
variable {K:Frag} {base:Heap} {qual:Str} {st:Stmt} {f:Addr} {N ps:List Str}
theorem mH.ok{sp:Sp}(F:mH K x qual st f fd)(S:fR N ps (aU st))(len:∀vs H Q E,sp vs H Q E->vs.length=ps.length)(hbody:∀(bA:Value) (A:Around) (outer:List Env) (s:Shared) (H:Hp) (vs:List V) (Q:VK) (E:XK),cv k (A.deeper (envOfC qual (aU st) s.heap.objs.size f bA))->sp vs H Q E->
   ∃t,kY (jv iV P w K mg base N qual (aU st) f bA A outer s H E).nV (cT st) t/\t {nx:=fun _ H'=>Q .bM H',rt:=Q} (start N vs) H):gu P w K mg base iV (k+1) f fd ps sp:=by
 obtain⟨oc,od,kV,doc,pm,an,bA,ct,rA,rfl,lk,gf⟩:=F.ex;refine QB lk gf S len fun A outer s H vs Q E hr l9=>?_;obtain⟨t,h,q⟩:=hbody bA A outer s H vs Q E hr l9;exact⟨t,h.nV,q⟩
theorem mH.binds(F:mH K x qual st f fd)(h:∀(kV doc pm:Value) (an:Option Addr) (bA ct:Value) (us:List Value),us.length=ps.length->bindArgs (fnOf x qual (jG st) (cT st) (aU st) .none kV doc pm an bA ct) ⟨us,[]⟩=pure (ps.zip us)):Binds K fd ps []:=by
 obtain⟨oc,od,kV,doc,pm,an,bA,ct,rA,rfl,lk,gf⟩:=F.ex;exact .all (h kV doc pm an bA ct)
variable {oc pm ct:Value} {od an:Option Addr}
theorem zv{rA:Array (Option Value)}{kV doc bA:Value}(l:K.lookup f=some ⟨oc,od,.func (fnOf x qual (jG st) (cT st) (aU st) .none kV doc pm an bA ct),rA⟩)(c:codeIn K bA qual=true)(k:keepIn K (.ref f)=true):mH K x qual st f (fnOf x qual (jG st) (cT st) (aU st) .none kV doc pm an bA ct):=⟨⟨oc,od,kV,doc,pm,an,bA,ct,rA,rfl,l,c⟩,k⟩
theorem w5(h:n<=1000):n<sizeLine:=lt_of_le_of_lt h (by decide)
def aW (H H':Hp):Prop:=∀b o,H b=some o->H' b=some o
theorem aW.refl(H:Hp):aW H H:=fun _ _ h=>h
variable {H H1:Hp}
theorem aW.trans{H2:Hp}(a:aW H H1)(b:aW H1 H2):aW H H2:=fun c o h=>b c o (a c o h)
open PySem PySem.Spec PyProof.Rows
variable {pins:List (Addr×Obj)} {σ:St}
variable {s:Shared} in
theorem Inv.big(I:Inv X pins σ H s):sysModules<s.heap.objs.size:=by
 have h:mainGlobals<s.heap.objs.size:=(I.mod.glob.keeps I.bk).lt;exact lt_trans (by decide) h
open PySem PySem.Spec PyProof.Rows
variable {prog:Program} {A:Around} {elt iter:Expr} {ifs:List Expr} {scope:Scope} {pos:Pos} {env:Env}
theorem qy{R:Result->Shared->Prop}{s:Shared}{target:Expr}{it acc:Value}(I:Nat->Shared->Prop)(turn:∀n s,I n s->wpAny (model prog w) A (pyNext it) (fun r bS=>match r with
   |none=>R (.ok .next) bS
   |some v=>wpAny (model prog w) A (letOwnedTupleGo target it v) (fun _ Jn=>wpAny (model prog w) A (assign target env v) (fun _ bx=>
     wpAny (model prog w) A (forIn ifs true fun c r=>if r=true then do let ok <- isTrue c env (eval c env);pure (ForInStep.yield ok)else pure (ForInStep.yield r)) (fun ok lR=>
      if ok=true then wpAny (model prog w) A (eval elt env) (fun x MI=>
       wpAny (model prog w) A (call (.builtin "list.append") [acc,x]) (fun _ MH=>∃m,m<n/\I m MH) (notedBy (model prog w) A env fun e s'=>R (.error e) s') MI) (notedBy (model prog w) A env fun e s'=>R (.error e) s') lR
      else ∃m,m<n/\I m lR) (notedBy (model prog w) A env fun e s'=>R (.error e) s') bx) (notedBy (model prog w) A env fun e s'=>R (.error e) s') Jn) (notedBy (model prog w) A env fun e s'=>R (.error e) s') bS) (notedBy (model prog w) A env fun e s'=>R (.error e) s') s)(n:Nat)(h:I n s):
  codeAny (model prog w) A (.compLoop (.ListComp elt [⟨target,iter,ifs,0⟩] scope pos) 0 it acc env) R s:=by
 refine codeAny_loop rfl I (fun n s hI=>?_) n h;show wpAny _ A ((compTurn (.ListComp elt [⟨target,iter,ifs,0⟩] scope pos) 0 it acc env).onRaise (fun x=>do noteFrame x env;theTreesLotGoes x)) _ _ s
 refine wpAny_noted ?_;rw[compTurn_list];refine wpAny_bind (wpAny_standAt (wpAny_bind (wpAny_mono (turn n s hI) (fun r bS iZ=>?_) fun _ _ h'=>h')));cases r with
 |none=>exact wpAny_pure iZ
 |some v=>
  refine wpAny_bind (wpAny_mono iZ (fun _ Jn Qq=>?_) fun _ _ h'=>h');refine wpAny_bind (wpAny_mono Qq (fun _ bx yN=>wpAny_bind (wpAny_mono yN (fun ok lR NU=>?_) fun _ _ h'=>h')) fun _ _ h'=>h');cases ok with
  |false=>exact wpAny_pure ⟨rfl,NU⟩
  |true=>
   exact wpAny_bind (wpAny_bind (wpAny_mono NU (fun x MI U6=>wpAny_bind (wpAny_mono U6 (fun _ MH U5=>wpAny_pure (wpAny_pure ⟨rfl,U5⟩)) fun _ _ h'=>h')) fun _ _ h'=>h'))
abbrev dG (X:Cx) (scope:Scope) (cl:List (Str×Addr)) (N':List Str) (C:Addr) (aL:Shared) (aj:Hp) (ex:List Addr):Cx:=
 {prog:=X.prog,w:=X.w,K:=X.K,mg:=X.mg,base:=X.base,A:=X.A,N:=N',aL:=aL,aj:=aj,env:=compEnvC scope cl C X.env,outer:=X.stack,stack:=X.stack,ex:=ex,fn:=fun _=>false,calm:=X.calm,pn:=[],xe:=fun _ _=>False}
def GQ (X:Cx) (ifs:List Expr) (t:TT):Prop:=
 ∀(pins:List (Addr×Obj)) (s:Shared) (σ:St) (H:Hp) (Q:Bool->Hp->Prop),Inv X pins σ H s->t σ H Q->
  wpAny (model X.prog X.w) X.A (forIn ifs true fun c r=>if r=true then do let ok <- isTrue c X.env (eval c X.env);pure (ForInStep.yield ok)else pure (ForInStep.yield r)) (TP X pins σ Q) X.xe s
def Hb:TT:=fun _ H Q=>Q true H
theorem B7:GQ X [] Hb:=fun _ _ _ H _ I h=>wpAny_tests_nil ⟨H,I,h⟩
variable {c:Expr}
theorem Lb{t:TT}(h:PT X c t):GQ X [c] t:=fun pins s σ H Q I hw=>wpAny_tests_one (h pins s σ H Q I hw)
def cB (aX:List (Option Nat)) (σ:St):St:=aX.map fun o=>o.bind fun j=>(σ[j]?).join
structure rR (X:Cx) (scope:Scope) (cl:List (Str×Addr)) (N':List Str) (aX:List (Option Nat)):Prop where
 IK:closureFor scope X.env=pure cl
 cells:∀y∈scope.names,y.2≠.cell
 kind:scope.kind=.function
 names:∀y∈scope.names,y.2=.local->scope.names.lookup y.1=some .local
 nd:N'.Nodup
 len:aX.length=N'.length
 sub:∀x c,cl.lookup x=some c->X.env.cells.lookup x=some c
 has:∀x,((relabel scope X.env).names.lookup x=some .cell\/(relabel scope X.env).names.lookup x=some .free)->∃c,cl.lookup x=some c
 aX:∀(i:Nat) (x:Str) (j:Nat),N'[i]?=some x->aX[i]?=some (some j)->X.N[j]?=some x/\mE X.env.scope x/\((relabel scope X.env).names.lookup x=some .cell\/(relabel scope X.env).names.lookup x=some .free)/\X.env.scope.names.lookup x≠some .local
def eV:St->St->Prop
 |[],[]=>True
 |none::a,_::b=>eV a b
 |some v::a,u::b=>u=some v/\eV a b
 |_,_=>False
theorem eV.len:∀{a b:St},eV a b->a.length=b.length
 |[],[],_=>rfl
 |none::a,_::b,h=>congrArg (· + 1) (eV.len (a:=a) (b:=b) h)
 |some v::a,u::b,h=>congrArg (· + 1) (eV.len (a:=a) (b:=b) h.2)
 |[],_::_,h=>h.elim
 |none::_,[],h=>h.elim
 |some _::_,[],h=>h.elim
theorem eV.get:∀{a b:St},eV a b->∀(i:Nat) (v:V),a[i]?=some (some v)->b[i]?=some (some v)
 |[],[],_,i,v,e=>by simp at e
 |none::a,_::b,h,0,v,e=>by simp at e
 |none::a,_::b,h,i+1,v,e=>by
  rw[getElem?_cons_succ]at e ⊢;exact eV.get (a:=a) (b:=b) h i v e
 |some x::a,u::b,h,0,v,e=>by
  rw[getElem?_cons_zero]at e ⊢;rw[h.1];exact e
 |some x::a,u::b,h,i+1,v,e=>by
  rw[getElem?_cons_succ]at e ⊢;exact eV.get (a:=a) (b:=b) h.2 i v e
 |[],_::_,h,_,_,_=>h.elim
 |none::_,[],h,_,_,_=>h.elim
 |some _::_,[],h,_,_,_=>h.elim
def tv (aX:List (Option Nat)) (wi:TI) (g:TG) (tp:TT) (te:TE):TE:=fun σ H Q=>wi σ H fun J H1=>∃W:Nat->Nat->List V->Hp->Prop,(∃m,W 0 m [] H1)/\∀i m ys H,W i m ys H->ys.length<sizeLine/\
 ((J.stop i H/\∀D,H D=none->Q (.ref D) (upd H D (.lst ys)))\/
  (J.go i H/\∀x H',J.vS i H x H'->g x (cB aX σ) H' fun fS H2=>eV (cB aX σ) fS/\tp fS H2 fun b H3=>if b=true then te fS H3 fun v H4=>∃m',m'<m/\W (i+1) m' (ys++[v]) H4 else ∃m',m'<m/\W (i+1) m' ys H3))
variable {tg:Expr} {cl:List (Str×Addr)} {N':List Str}
theorem vd{aX:List (Option Nat)}{wi:TI}{g:TG}{tp:TT}{te:TE}(hc:X.calm=true)(B:rR X scope cl N' aX)(hi:PI X tg iter wi)(hg:∀C aL aj ex,PG (dG X scope cl N' C aL aj ex) tg g)(ht:∀C aL aj ex,GQ (dG X scope cl N' C aL aj ex) ifs tp)(he:∀C aL aj ex,PE (dG X scope cl N' C aL aj ex) elt te)(hs:∀x,foldedSetIterable iter X.env x=pure x:=by intro _;rfl):
  PE X (.ListComp elt [⟨tg,iter,ifs,0⟩] scope pos) (tv aX wi g tp te):=by
 intro pins s σ H Q I h;rw[eval_ListComp];refine wpAny_comprehension_free (use:=none) rfl hs B.IK B.kind B.names (bZ (hi pins s σ H _ I h) fun xv bS iZ=>bZ iZ fun JO bx yN=>?_);obtain⟨it,fp,tn,J,H2,e,I2,T,jP,f2,W,⟨m0,w0⟩,turn⟩:=yN;subst e;refine wpAny_newObj_type (wpAny_newFunctionEnv B.cells (by intro y hy;simp at hy) (fun iZ mm jV=>?_) B.kind);dsimp only at mm jV ⊢;generalize zj:bx.heap.push {cls:=.type "list",dict:=none,data:=.seq ([]:List Value).toArray}=HH at mm jV ⊢;have hC:HH.objs.size=bx.heap.objs.size+1:=by rw[<- zj,size_push]
 have FN:bx.heap.objs.size≠HH.objs.size:=by rw[hC];exact ne_of_lt (Nat.lt_succ_self _)
 have below:∀b,b<bx.heap.objs.size->b≠HH.objs.size/\b≠bx.heap.objs.size:=fun b hb=>⟨by rw[hC];exact ne_of_lt (Nat.lt_succ_of_lt hb),ne_of_lt hb⟩;have old:∀b o,bx.heap.get? b=some o->iZ.get? b=some o:=fun b o e=>jV.extBut b o (below b (lt_size e)).1 (get?_push_of_some _ (zj▸get?_push_of_some _ e));have vp:iZ.get? bx.heap.objs.size=some {cls:=.type "list",data:=.seq ([]:List Value).toArray}:=jV.extBut _ _ FN (get?_push_of_some _ (zj▸get?_push_size _ rfl));have pg:bx.heap.objs.size<=HH.objs.size:=by rw[hC];exact Nat.le_succ _
 generalize hD:bx.heap.objs.size=D at *;generalize Wu:HH.objs.size=C at *

 have zw:∀b∈fp,b<D:=fun b hb=>by
  obtain⟨o,e,_⟩:=T.obj _ _ jP b hb;rw[<- hD];exact lt_size e
 have Dq:∀x c,cl.lookup x=some c->c<D:=fun x c e=>by
  obtain⟨v,q⟩:=I2.cell x c (B.sub x c e);rw[<- hD];exact q.lt
 have Ow:∀b∈kR X.stack,b∈X.env.locals::X.fs:=fun b hb=>I2.tw b hb;have ok:(dG X scope cl N' C bx H2 fp).Ok:=by
  refine⟨I2.mod,B.kind,I2.ok.glob,I2.ok.blt,?_,fun x y c h1 h2=>I2.ok.inj x y c (B.sub x c h1) (B.sub y c h2),fun x hx=>B.has x hx,fun x c hf=>absurd hf (by simp),I2.ok.hd,I2.ok.frames,.inl rfl,fun b hb=>⟨?_,fun x c e z=>?_⟩,I2.bs,le_trans I2.ok.xi I2.sz,fun b o e hb=>?_,fun b hb hf=>?_,I2.stack,I2.uV⟩
  ·show bx.heap.objs.size<=C;rw[hD];exact pg
  ·exact ne_of_lt (lt_of_lt_of_le (zw b hb) pg)
  ·exact(f2 b hb).2.2.2.2.1 x c (B.sub x c e) z
  ·have h1:=f2 b hb;rcases h1.2.2.2.1 with z|z
   ·exact I2.ok.vf b o e z
   ·have h2:=(I2.ok.bs b o e).1;exact absurd (lt_of_lt_of_le (lt_size h2) z) (lt_irrefl _)
  ·rcases mem_cons.mp (Ow b hf)with z|z
   ·exact(f2 b hb).2.1 z
   ·exact(f2 b hb).2.2.1 z
 have qq:∀a,D<=a->H2 a=none:=fun a ha=>I2.bh.fresh (by rw[hD];exact ha);have I4:Inv (dG X scope cl N' C bx H2 fp) [] (cB aX σ) H2 {bx with heap:=iZ,toks:=bx.toks+([]:List (Str×Value)).length}:=by
  refine⟨ok,rfl,I2.bare,Un.kept old,⟨_,mm,fun i x v e1 e2 e3=>?_⟩,fun x c e=>?_,qq C pg,fun x c e=>I2.jk x c (B.sub x c e),fun p hp=>absurd (show p∈([]:List (Addr×Obj))from hp) (by simp),I2.bh.kept old,?_⟩
  ·have C6:N'[i]?=some x:=e1;unfold cB at e2;rw[getElem?_map]at e2;cases oQ:aX[i]? with
   |none=>rw[oQ]at e2;cases e2
   |some o=>
    rw[oQ]at e2;cases o with
    |none=>cases e2
    |some j=>
     obtain⟨hN,hv,hk,FE⟩:=B.aX i x j C6 oQ;have e4:σ[j]?=some (some v):=by
      have e5:some ((σ[j]?).join)=some (some v):=e2;cases hq:σ[j]? with
      |none=>rw[hq]at e5;cases e5
      |some q=>rw[hq]at e5;exact e5
     obtain⟨m,hn,hl⟩:=I2.loc;obtain⟨u,r,l⟩:=hl j x v hN e4 hv;refine⟨u,r,.inr ⟨hk,?_⟩⟩;rcases l with⟨k,_⟩|⟨k,c,mX,o,ho,hd⟩
     ·exact absurd k FE
     ·obtain⟨c',ir⟩:=B.has x hk;have e6:=B.sub x c' ir;rw[mX]at e6;cases e6;exact⟨c,ir,o,old c o ho,hd⟩
  ·obtain⟨v,o,ho,hd⟩:=I2.cell x c (B.sub x c e);exact⟨v,o,old c o ho,hd⟩
  ·show(cB aX σ).length=N'.length;unfold cB;rw[length_map];exact B.len
 have sD:D≠C:=FN;have OJ:D∉kR X.stack:=fun hb=>by
  obtain⟨_,o,ho,_⟩:=I2.stack.mem hb;have:=lt_size ho;rw[hD]at this;exact absurd this (lt_irrefl _)
 have lU:∀{P:List (Addr×Obj)} {H':Hp},(∀p∈P,p.1=D)->(∀b∈fp,H' b=none)->∀b∈fp,p0 (dG X scope cl N' C bx H2 fp) P H' b:=fun hP hn b hb=>
  ⟨hn b hb,(ok.BU b hb).1,ok.vv b hb,.inl hb,(ok.BU b hb).2,fun p hp z=>by
   have gc:p∈_:=hp;rw[hP p (by simpa using gc)]at z;exact Nat.ne_of_gt (zw b hb) z⟩
 have loop:∀lR:Shared,lR={bx with heap:=iZ,toks:=bx.toks+([]:List (Str×Value)).length}->
   codeAny (model X.prog X.w) X.A (.compLoop (.ListComp elt [⟨tg,iter,ifs,0⟩] scope pos) 0 (.ref it) (.ref D) (compEnvC scope cl C X.env))
    (compPost (model X.prog X.w) X.A X.xe none (EP X pins σ Q) (.ref D) C) lR:=by
  rintro lR rfl;refine qy (fun n s'=>∃i ys ak H' k,Inv (dG X scope cl N' C bx H2 fp) [] (cB aX σ) H' s'/\tn i s'.heap/\(∀b∈fp,H' b=none)/\H' D=none/\s'.heap.get? D=some {cls:=.type "list",data:=.seq (ak:List Value).toArray k}/\Vals ys ak/\W i n ys H') ?_ m0
   ⟨0,[],[],H2,0,I4,T.keep _ _ _ jP fun b _ o e=>old b o e,fun b hb=>(f2 b hb).1,qq D (le_refl _),vp,.nil,w0⟩
  rintro n s' ⟨i,ys,ak,H',k,Ia,E1,FT,mr,Ou,rv,wa⟩;obtain⟨hsz,tu⟩:=turn i n ys H' wa;have Ib:Inv (dG X scope cl N' C bx H2 fp) [(D,{cls:=.type "list",data:=.seq ak.toArray k})] (cB aX σ) H' s':=Ia.jB fun p hp=>by
   have gc:p=(D,{cls:=.type "list",data:=.seq ak.toArray k}):=by simpa using hp
   subst gc;exact⟨Ou,mr,sD,OJ,fun v z=>nomatch z⟩
  have zi:∀p∈[((D,{cls:=.type "list",data:=.seq ak.toArray k}):Addr×Obj)],p.1=D:=fun p hp=>by
   have gc:p=(D,{cls:=.type "list",data:=.seq ak.toArray k}):=by simpa using hp
   rw[gc]
  rcases tu with⟨stop,qn⟩|⟨go,step⟩
  ·refine wpAny_mono (T.done (dG X scope cl N' C bx H2 fp) rfl rfl rfl hc i _ s' (cB aX σ) H' (fun _ _=>False) Ib (lU zi FT) E1 stop) (fun r s4 yT=>?_) fun _ _ z=>z.elim;obtain⟨hr,Ic⟩:=yT;subst hr;obtain⟨m,hn,_⟩:=Ic.loc;refine⟨m,hn,fun h' p8=>?_⟩;have Ih:s4.heap.get? D=some {cls:=.type "list",data:=.seq ak.toArray k}:=(Ic.pin (D,_) (by simp)).1;have K8:H' C=none:=Ic.free;have un:Un (kR X.stack) fp H2 (upd H' D (.lst ys)) bx.heap h':=by
    have bs:=Ic.base;have wz:∀b o,bx.heap.get? b=some o->h'.get? b=s4.heap.get? b:=fun b o e=>by
     have:b<D:=by rw[<- hD];exact lt_size e
     exact p8.2 b (ne_of_lt (lt_of_lt_of_le this pg))
    refine⟨fun b o e n h1 h2=>(wz b o e).trans (bs.keep b o e n h1 h2),fun b o e n h1 h2=>?_,fun b o e n h2=>?_,fun b o e h2=>?_,fun b xs e=>?_,fun b o u e=>?_,fun b ps e=>?_⟩
    ·obtain⟨sl,q⟩:=bs.slot b o e n h1 h2;exact⟨sl,(wz b o e).trans q⟩
    ·have:b<D:=by rw[<- hD];exact lt_size e
     rw[bz (ne_of_lt this)];exact bs.free b o e n h2
    ·obtain⟨o',q⟩:=bs.there b o e h2;exact⟨o',(wz b o e).trans q⟩
    ·have q:=bs.ny b xs e;rw[bz (bo q mr)];exact q
    ·have q:=bs.mw b o u e;rw[bz (bo q mr)];exact q
    ·obtain⟨more,q⟩:=bs.nA b ps e;exact⟨more,by rw[bz (bo q mr)];exact q⟩
   have bh:i6 X.prog X.w (upd H' D (.lst ys)) h':=fun b u e=>by
    by_cases hb:b=D
    ·subst hb;rw[dR]at e;cases e;exact⟨Nat.le_of_lt hsz,ak,k,rv,(p8.2 _ (by show _≠C;exact sD)).trans Ih⟩
    ·rw[bz hb]at e;refine(Ic.bh b u e).nB (fun c v FK q=>(p8.2 c ?_).trans q) (fun c q=>by rw[bz (bo q mr)];exact q) fun c xs q=>by rw[bz (bo q mr)];exact q
     rcases FK with z|z
     ·rw[z];exact bo e K8
     ·exact bo z K8
   have If:=I2.Kl (s':={s4 with heap:=h'}) (H':=upd H' D (.lst ys)) (ch:=fp) Ic.os un bh Ic.bare fun b hb=>⟨(f2 b hb).2.2.2.1,(f2 b hb).2.1,(f2 b hb).2.2.2.2.1,(f2 b hb).2.2.2.2.2⟩;exact⟨.ref D,_,If,rfl,qn D mr⟩
  ·refine wpAny_mono (T.item (dG X scope cl N' C bx H2 fp) rfl rfl rfl hc i _ s' (cB aX σ) H' (fun _ _=>False) Ib (lU zi FT) E1 go) (fun r s4 yT=>?_) fun _ _ z=>z.elim;obtain⟨u,hr,h4⟩:=yT;subst hr;refine wpAny_mono h4 (fun _ s5 h5=>?_) fun _ _ z=>z.elim;obtain⟨x,H5,I5,r5,y5,pN,FU⟩:=h5;have GR:=I5.pinned (lU zi FU) (T.obj _ _ pN);refine wpAny_mono (hg C bx H2 fp _ s5 (cB aX σ) H5 x u _ GR r5 (step x H5 y5)) (fun _ s6 h6=>?_) fun _ _ z=>z.elim;obtain⟨tf,H6,I6,tX,q6⟩:=h6;refine wpAny_mono (ht C bx H2 fp _ s6 tf H6 _ I6 q6) (fun b s7 h7=>?_) fun _ _ z=>z.elim;obtain⟨H7,I7,q7⟩:=h7

   have back:∀{bC:St} {uL:Hp} {nN:Shared},Inv (dG X scope cl N' C bx H2 fp) ([((D,{cls:=.type "list",data:=.seq ak.toArray k}):Addr×Obj)]++nS fp s5.heap) bC uL nN->
     nN.heap.get? D=some {cls:=.type "list",data:=.seq ak.toArray k}/\uL D=none/\(∀b∈fp,uL b=none)/\tn (i+1) nN.heap:=fun{bC uL nN} Iz=>by
    have pz:=fun p hp=>Iz.pin p (mem_append_right _ hp);have pD:=pz (D,{cls:=.type "list",data:=.seq ak.toArray k}) (mem_append_left _ mem_cons_self);refine⟨pD.1,pD.2.1,fun b hb=>?_,T.keep _ _ _ pN fun b hb o e=>(pz (b,o) (mem_append_right _ (iO hb e))).1⟩;obtain⟨o,e,_⟩:=T.obj _ _ pN b hb;exact(pz (b,o) (mem_append_right _ (iO hb e))).2.1
   have hits:ak.length=ys.length:=rv.length.symm;cases b with
   |false=>
    rw[if_neg Bool.false_ne_true]at q7 ⊢;obtain⟨m',hm,w7⟩:=q7;obtain⟨b1,b2,b3,b4⟩:=back I7;exact⟨m',hm,i+1,ys,ak,H7,k,(I7.jB (pins':=[]) fun p hp=>absurd hp (by simp)).weak tX.len tX.get,b4,b3,b2,b1,rv,w7⟩
   |true=>
    rw[if_pos rfl]at q7 ⊢;refine wpAny_mono (he C bx H2 fp _ s7 tf H7 _ I7 q7) (fun y s8 h8=>?_) fun _ _ z=>z.elim;obtain⟨v,H8,I8,r8,m',hm,w8⟩:=h8;obtain⟨b1,b2,b3,b4⟩:=back I8;refine wpAny_list_append_plain (l:=D) (items:=ak.toArray) (hsz:=by rw[size_toArray];omega) ⟨k,b1⟩ fun h' jb p8=>?_;obtain⟨k',e'⟩:=jb;have I9:Inv (dG X scope cl N' C bx H2 fp) [] tf H8 {s8 with heap:=h',toks:=s8.toks}:=(I8.jB (pins':=[]) fun p hp=>absurd hp (by simp)).turned (it:=D) (fun b o hb e=>(p8.2 b hb).trans e) b2 sD (.inr (le_of_eq hD))
     (fun x c e=>ne_of_lt (Dq x c e)) (fun p hp=>absurd (show p∈([]:List (Addr×Obj))from hp) (by simp))
    refine⟨m',hm,i+1,ys++[v],ak++[y],H8,k',I9.weak tX.len tX.get,T.keep _ _ _ b4 fun b hb o e=>(p8.2 b (ne_of_lt (zw b hb))).trans e,b3,b2,?_,rv.append (.cons r8 .nil),w8⟩;have Gg:h'.get? D=_:=e';rw[List.push_toArray]at Gg;exact Gg
 exact codeAny_compStart_list (loop _ rfl) (T.self X.A 0 _ _ _ (T.keep _ _ _ jP fun b _ o e=>old b o e) (loop _ rfl))
open PySem PySem.Spec PyProof.Rows
def MG (i:Nat) (aX:List (Option Nat)) (wi:TI) (g:TG) (tp:TT) (te:TE):TS:=fun D σ H=>tv aX wi g tp te σ H fun v H'=>D.nx (σ.set i (some v)) H'
variable {pO pos':Pos}
theorem Bb{aX:List (Option Nat)}{wi:TI}{g:TG}{tp:TT}{te:TE}{iz:Nat}(hc:X.calm=true)(B:rR X scope cl N' aX)(hi:PI X tg iter wi)(hg:∀C aL aj ex,PG (dG X scope cl N' C aL aj ex) tg g)(ht:∀C aL aj ex,GQ (dG X scope cl N' C aL aj ex) ifs tp)(he:∀C aL aj ex,PE (dG X scope cl N' C aL aj ex) elt te)(hN:X.N.Nodup)(Fc:X.N[iz]?=some x)(hx:Loc X.env.scope x)(FA:swapsWith (.ListComp elt [⟨tg,iter,ifs,0⟩] scope pos) (some (.Name x pos')) pO.line X.env=pure true)(FI:X.fn x=true\/X.env.scope.names.lookup x=some .local)(hs:∀x,foldedSetIterable iter X.env x=pure x:=by intro _;rfl):
  PS X (.Assign [.Name x pos'] (.ListComp elt [⟨tg,iter,ifs,0⟩] scope pos) pO) (MG iz aX wi g tp te):=by
 intro pins s σ H DD I h;rw[exec_Assign_Name_used _ _ _ _ FA];refine wpAny_bind (wpAny_standAt (wpAny_bind ?_));show wpAny _ X.A (do let _ <- comprehension (.ListComp elt [⟨tg,iter,ifs,0⟩] scope pos) scope X.env _ (newList []) false (eval iter X.env) (some (assign (.Name x pos') X.env))) _ _ s
 refine wpAny_bind (wpAny_mono (wpAny_comprehension_free (use:=some (assign (.Name x pos') X.env)) (Q:=fun _ s'=>SP X pins DD .next s') rfl hs B.IK B.kind B.names (bZ (hi pins s σ H _ I h) fun xv bS iZ=>bZ iZ fun JO bx yN=>?_)) (fun _ s' hq=>wpAny_pure (wpAny_pure hq)) fun _ _ e=>e)
 obtain⟨it,fp,tn,J,H2,e,I2,T,jP,f2,W,⟨m0,w0⟩,turn⟩:=yN;subst e;refine wpAny_newObj_type (wpAny_newFunctionEnv B.cells (by intro y hy;simp at hy) (fun iZ mm jV=>?_) B.kind);dsimp only at mm jV ⊢;generalize zj:bx.heap.push {cls:=.type "list",dict:=none,data:=.seq ([]:List Value).toArray}=HH at mm jV ⊢;have hC:HH.objs.size=bx.heap.objs.size+1:=by rw[<- zj,size_push]
 have FN:bx.heap.objs.size≠HH.objs.size:=by rw[hC];exact ne_of_lt (Nat.lt_succ_self _)
 have below:∀b,b<bx.heap.objs.size->b≠HH.objs.size/\b≠bx.heap.objs.size:=fun b hb=>⟨by rw[hC];exact ne_of_lt (Nat.lt_succ_of_lt hb),ne_of_lt hb⟩;have old:∀b o,bx.heap.get? b=some o->iZ.get? b=some o:=fun b o e=>jV.extBut b o (below b (lt_size e)).1 (get?_push_of_some _ (zj▸get?_push_of_some _ e));have vp:iZ.get? bx.heap.objs.size=some {cls:=.type "list",data:=.seq ([]:List Value).toArray}:=jV.extBut _ _ FN (get?_push_of_some _ (zj▸get?_push_size _ rfl));have pg:bx.heap.objs.size<=HH.objs.size:=by rw[hC];exact Nat.le_succ _
 generalize hD:bx.heap.objs.size=D at *;generalize Wu:HH.objs.size=C at *

 have zw:∀b∈fp,b<D:=fun b hb=>by
  obtain⟨o,e,_⟩:=T.obj _ _ jP b hb;rw[<- hD];exact lt_size e
 have Dq:∀x c,cl.lookup x=some c->c<D:=fun x c e=>by
  obtain⟨v,q⟩:=I2.cell x c (B.sub x c e);rw[<- hD];exact q.lt
 have Ow:∀b∈kR X.stack,b∈X.env.locals::X.fs:=fun b hb=>I2.tw b hb;have ok:(dG X scope cl N' C bx H2 fp).Ok:=by
  refine⟨I2.mod,B.kind,I2.ok.glob,I2.ok.blt,?_,fun x y c h1 h2=>I2.ok.inj x y c (B.sub x c h1) (B.sub y c h2),fun x hx=>B.has x hx,fun x c hf=>absurd hf (by simp),I2.ok.hd,I2.ok.frames,.inl rfl,fun b hb=>⟨?_,fun x c e z=>?_⟩,I2.bs,le_trans I2.ok.xi I2.sz,fun b o e hb=>?_,fun b hb hf=>?_,I2.stack,I2.uV⟩
  ·show bx.heap.objs.size<=C;rw[hD];exact pg
  ·exact ne_of_lt (lt_of_lt_of_le (zw b hb) pg)
  ·exact(f2 b hb).2.2.2.2.1 x c (B.sub x c e) z
  ·have h1:=f2 b hb;rcases h1.2.2.2.1 with z|z
   ·exact I2.ok.vf b o e z
   ·have h2:=(I2.ok.bs b o e).1;exact absurd (lt_of_lt_of_le (lt_size h2) z) (lt_irrefl _)
  ·rcases mem_cons.mp (Ow b hf)with z|z
   ·exact(f2 b hb).2.1 z
   ·exact(f2 b hb).2.2.1 z
 have qq:∀a,D<=a->H2 a=none:=fun a ha=>I2.bh.fresh (by rw[hD];exact ha);have I4:Inv (dG X scope cl N' C bx H2 fp) [] (cB aX σ) H2 {bx with heap:=iZ,toks:=bx.toks+([]:List (Str×Value)).length}:=by
  refine⟨ok,rfl,I2.bare,Un.kept old,⟨_,mm,fun i x v e1 e2 e3=>?_⟩,fun x c e=>?_,qq C pg,fun x c e=>I2.jk x c (B.sub x c e),fun p hp=>absurd (show p∈([]:List (Addr×Obj))from hp) (by simp),I2.bh.kept old,?_⟩
  ·have C6:N'[i]?=some x:=e1;unfold cB at e2;rw[getElem?_map]at e2;cases oQ:aX[i]? with
   |none=>rw[oQ]at e2;cases e2
   |some o=>
    rw[oQ]at e2;cases o with
    |none=>cases e2
    |some j=>
     obtain⟨hN,hv,hk,FE⟩:=B.aX i x j C6 oQ;have e4:σ[j]?=some (some v):=by
      have e5:some ((σ[j]?).join)=some (some v):=e2;cases hq:σ[j]? with
      |none=>rw[hq]at e5;cases e5
      |some q=>rw[hq]at e5;exact e5
     obtain⟨m,hn,hl⟩:=I2.loc;obtain⟨u,r,l⟩:=hl j x v hN e4 hv;refine⟨u,r,.inr ⟨hk,?_⟩⟩;rcases l with⟨k,_⟩|⟨k,c,mX,o,ho,hd⟩
     ·exact absurd k FE
     ·obtain⟨c',ir⟩:=B.has x hk;have e6:=B.sub x c' ir;rw[mX]at e6;cases e6;exact⟨c,ir,o,old c o ho,hd⟩
  ·obtain⟨v,o,ho,hd⟩:=I2.cell x c (B.sub x c e);exact⟨v,o,old c o ho,hd⟩
  ·show(cB aX σ).length=N'.length;unfold cB;rw[length_map];exact B.len
 have sD:D≠C:=FN;have OJ:D∉kR X.stack:=fun hb=>by
  obtain⟨_,o,ho,_⟩:=I2.stack.mem hb;have:=lt_size ho;rw[hD]at this;exact absurd this (lt_irrefl _)
 have lU:∀{P:List (Addr×Obj)} {H':Hp},(∀p∈P,p.1=D)->(∀b∈fp,H' b=none)->∀b∈fp,p0 (dG X scope cl N' C bx H2 fp) P H' b:=fun hP hn b hb=>
  ⟨hn b hb,(ok.BU b hb).1,ok.vv b hb,.inl hb,(ok.BU b hb).2,fun p hp z=>by
   have gc:p∈_:=hp;rw[hP p (by simpa using gc)]at z;exact Nat.ne_of_gt (zw b hb) z⟩
 have loop:∀lR:Shared,lR={bx with heap:=iZ,toks:=bx.toks+([]:List (Str×Value)).length}->
   codeAny (model X.prog X.w) X.A (.compLoop (.ListComp elt [⟨tg,iter,ifs,0⟩] scope pos) 0 (.ref it) (.ref D) (compEnvC scope cl C X.env))
    (compPost (model X.prog X.w) X.A X.xe (some (assign (.Name x pos') X.env)) (fun _ s'=>SP X pins DD .next s') (.ref D) C) lR:=by
  rintro lR rfl;refine qy (fun n s'=>∃i ys ak H' k,Inv (dG X scope cl N' C bx H2 fp) [] (cB aX σ) H' s'/\tn i s'.heap/\(∀b∈fp,H' b=none)/\H' D=none/\s'.heap.get? D=some {cls:=.type "list",data:=.seq (ak:List Value).toArray k}/\Vals ys ak/\W i n ys H') ?_ m0
   ⟨0,[],[],H2,0,I4,T.keep _ _ _ jP fun b _ o e=>old b o e,fun b hb=>(f2 b hb).1,qq D (le_refl _),vp,.nil,w0⟩
  rintro n s' ⟨i,ys,ak,H',k,Ia,E1,FT,mr,Ou,rv,wa⟩;obtain⟨hsz,tu⟩:=turn i n ys H' wa;have Ib:Inv (dG X scope cl N' C bx H2 fp) [(D,{cls:=.type "list",data:=.seq ak.toArray k})] (cB aX σ) H' s':=Ia.jB fun p hp=>by
   have gc:p=(D,{cls:=.type "list",data:=.seq ak.toArray k}):=by simpa using hp
   subst gc;exact⟨Ou,mr,sD,OJ,fun v z=>nomatch z⟩
  have zi:∀p∈[((D,{cls:=.type "list",data:=.seq ak.toArray k}):Addr×Obj)],p.1=D:=fun p hp=>by
   have gc:p=(D,{cls:=.type "list",data:=.seq ak.toArray k}):=by simpa using hp
   rw[gc]
  rcases tu with⟨stop,qn⟩|⟨go,step⟩
  ·refine wpAny_mono (T.done (dG X scope cl N' C bx H2 fp) rfl rfl rfl hc i _ s' (cB aX σ) H' (fun _ _=>False) Ib (lU zi FT) E1 stop) (fun r s4 yT=>?_) fun _ _ z=>z.elim;obtain⟨hr,Ic⟩:=yT;subst hr;obtain⟨m,hn,_⟩:=Ic.loc;have Ih:s4.heap.get? D=some {cls:=.type "list",data:=.seq ak.toArray k}:=(Ic.pin (D,_) (by simp)).1;have K8:H' C=none:=Ic.free;have un:Un (kR X.stack) fp H2 (upd H' D (.lst ys)) bx.heap s4.heap:=by
    have bs:=Ic.base;refine⟨fun b o e n h1 h2=>bs.keep b o e n h1 h2,fun b o e n h1 h2=>bs.slot b o e n h1 h2,fun b o e n h2=>?_,fun b o e h2=>bs.there b o e h2,fun b xs e=>?_,fun b o u e=>?_,fun b ps e=>?_⟩
    ·have:b<D:=by rw[<- hD];exact lt_size e
     rw[bz (ne_of_lt this)];exact bs.free b o e n h2
    ·have q:=bs.ny b xs e;rw[bz (bo q mr)];exact q
    ·have q:=bs.mw b o u e;rw[bz (bo q mr)];exact q
    ·obtain⟨more,q⟩:=bs.nA b ps e;exact⟨more,by rw[bz (bo q mr)];exact q⟩
   have bh:i6 X.prog X.w (upd H' D (.lst ys)) s4.heap:=fun b u e=>by
    by_cases hb:b=D
    ·subst hb;rw[dR]at e;cases e;exact⟨Nat.le_of_lt hsz,ak,k,rv,Ih⟩
    ·rw[bz hb]at e;exact(Ic.bh b u e).nB (fun c v FK q=>q) (fun c q=>by rw[bz (bo q mr)];exact q) fun c xs q=>by rw[bz (bo q mr)];exact q
   have If:=I2.Kl (s':=s4) (H':=upd H' D (.lst ys)) (ch:=fp) Ic.os un bh Ic.bare fun b hb=>⟨(f2 b hb).2.2.2.1,(f2 b hb).2.1,(f2 b hb).2.2.2.2.1,(f2 b hb).2.2.2.2.2⟩;have S4:C≠X.env.locals:=Nat.ne_of_gt (lt_of_lt_of_le (by rw[<- hD];exact I2.lt) pg);have S5:∀y c,X.env.cells.lookup y=some c->c≠C:=fun y c e=>by
    obtain⟨v,q⟩:=I2.cell y c e;exact ne_of_lt (lt_of_lt_of_le (by rw[<- hD];exact q.lt) pg)
   refine wpAny_assign_Name (vX If hN Fc hx (v:=.ref D) rfl (fun s5 I5 pd=>?_) FI);obtain⟨aa,Ub,VS⟩:=pd;have Ws:C≠aa:=by
    rcases VS with z|z
    ·rw[z];exact S4
    ·exact Ne.symm (S5 x aa z)
   refine⟨m,hn.sameBut Ub Ws,fun h' p8=>?_⟩;have Wt:upd H' D (.lst ys) C=none:=by rw[bz (Ne.symm sD)];exact K8
   have I6:Inv X pins (σ.set iz (some (.ref D))) (upd H' D (.lst ys)) {s5 with heap:=h',toks:=s5.toks}:=I5.turned (it:=C) (fun b o hb e=>(p8.2 b hb).trans e) Wt S4 (.inr (le_trans I2.sz (by rw[hD];exact pg))) S5 (fun p hp z=>by
    have h1:=(I2.pin p hp).1;have h2:p.1<D:=by rw[<- hD];exact lt_size h1
    exact absurd z (ne_of_lt (lt_of_lt_of_le h2 pg)))
   exact⟨_,_,I6,qn D mr⟩
  ·refine wpAny_mono (T.item (dG X scope cl N' C bx H2 fp) rfl rfl rfl hc i _ s' (cB aX σ) H' (fun _ _=>False) Ib (lU zi FT) E1 go) (fun r s4 yT=>?_) fun _ _ z=>z.elim;obtain⟨u,hr,h4⟩:=yT;subst hr;refine wpAny_mono h4 (fun _ s5 h5=>?_) fun _ _ z=>z.elim;obtain⟨x,H5,I5,r5,y5,pN,FU⟩:=h5;have GR:=I5.pinned (lU zi FU) (T.obj _ _ pN);refine wpAny_mono (hg C bx H2 fp _ s5 (cB aX σ) H5 x u _ GR r5 (step x H5 y5)) (fun _ s6 h6=>?_) fun _ _ z=>z.elim;obtain⟨tf,H6,I6,tX,q6⟩:=h6;refine wpAny_mono (ht C bx H2 fp _ s6 tf H6 _ I6 q6) (fun b s7 h7=>?_) fun _ _ z=>z.elim;obtain⟨H7,I7,q7⟩:=h7

   have back:∀{bC:St} {uL:Hp} {nN:Shared},Inv (dG X scope cl N' C bx H2 fp) ([((D,{cls:=.type "list",data:=.seq ak.toArray k}):Addr×Obj)]++nS fp s5.heap) bC uL nN->
     nN.heap.get? D=some {cls:=.type "list",data:=.seq ak.toArray k}/\uL D=none/\(∀b∈fp,uL b=none)/\tn (i+1) nN.heap:=fun{bC uL nN} Iz=>by
    have pz:=fun p hp=>Iz.pin p (mem_append_right _ hp);have pD:=pz (D,{cls:=.type "list",data:=.seq ak.toArray k}) (mem_append_left _ mem_cons_self);refine⟨pD.1,pD.2.1,fun b hb=>?_,T.keep _ _ _ pN fun b hb o e=>(pz (b,o) (mem_append_right _ (iO hb e))).1⟩;obtain⟨o,e,_⟩:=T.obj _ _ pN b hb;exact(pz (b,o) (mem_append_right _ (iO hb e))).2.1
   have hits:ak.length=ys.length:=rv.length.symm;cases b with
   |false=>
    rw[if_neg Bool.false_ne_true]at q7 ⊢;obtain⟨m',hm,w7⟩:=q7;obtain⟨b1,b2,b3,b4⟩:=back I7;exact⟨m',hm,i+1,ys,ak,H7,k,(I7.jB (pins':=[]) fun p hp=>absurd hp (by simp)).weak tX.len tX.get,b4,b3,b2,b1,rv,w7⟩
   |true=>
    rw[if_pos rfl]at q7 ⊢;refine wpAny_mono (he C bx H2 fp _ s7 tf H7 _ I7 q7) (fun y s8 h8=>?_) fun _ _ z=>z.elim;obtain⟨v,H8,I8,r8,m',hm,w8⟩:=h8;obtain⟨b1,b2,b3,b4⟩:=back I8;refine wpAny_list_append_plain (l:=D) (items:=ak.toArray) (hsz:=by rw[size_toArray];omega) ⟨k,b1⟩ fun h' jb p8=>?_;obtain⟨k',e'⟩:=jb;have I9:Inv (dG X scope cl N' C bx H2 fp) [] tf H8 {s8 with heap:=h',toks:=s8.toks}:=(I8.jB (pins':=[]) fun p hp=>absurd hp (by simp)).turned (it:=D) (fun b o hb e=>(p8.2 b hb).trans e) b2 sD (.inr (le_of_eq hD))
     (fun x c e=>ne_of_lt (Dq x c e)) (fun p hp=>absurd (show p∈([]:List (Addr×Obj))from hp) (by simp))
    refine⟨m',hm,i+1,ys++[v],ak++[y],H8,k',I9.weak tX.len tX.get,T.keep _ _ _ b4 fun b hb o e=>(p8.2 b (ne_of_lt (zw b hb))).trans e,b3,b2,?_,rv.append (.cons r8 .nil),w8⟩;have Gg:h'.get? D=_:=e';rw[List.push_toArray]at Gg;exact Gg
 exact codeAny_compStart_list (loop _ rfl) (T.self X.A 0 _ _ _ (T.keep _ _ _ jP fun b _ o e=>old b o e) (loop _ rfl))
end
end L2
namespace L3
noncomputable section
open PySem PySem.Spec PyProof.Rows L2
open PySem.W (Dat kqdOk kqdP kqdPs kqd_lay kqd_eqv)
abbrev Fg:=Frag
abbrev fP:=Addr->Prop
abbrev aw:=List (Option Dat)
def DC (K:Fg) (H:Hp) (Av:fP) (a:Addr) (xs:List V):Prop:=
 (Rd H a (.tup xs)/\¬Av a)\/∃(o:Obj) (ak:Array Value) (n:Nat),K.lookup a=some o/\o.cls=.type "tuple"/\o.data=.seq ak n/\ak.size<=sizeLine/\Vals xs ak.toList
def DE (K:Fg) (H:Hp) (Av:fP) (a:Addr) (xs:List V):Prop:=
 (Rd H a (.lst xs)/\¬Av a)\/∃(o:Obj) (ak:Array Value) (n:Nat),K.lookup a=some o/\o.cls=.type "list"/\o.dict=none/\o.data=.seq ak n/\ak.size<=sizeLine/\Vals xs ak.toList
variable {K:Fg} {H:Hp} {Av:fP} {a:Addr} {xs:List V}
theorem DC.sq(h:DC K H Av a xs):iT K H a xs:=h.elim (fun z=>.inl z.1) .inr
theorem DE.sq(h:DE K H Av a xs):fw K H a xs:=h.elim (fun z=>.inl z.1) .inr
mutual
inductive aK (K:Fg) (H:Hp) (Av:fP):V->Dat->Prop
 |bM:aK K H Av .bM .none
 |bl (b:Bool):aK K H Av (.bl b) (.bool b)
 |int (i:Int):aK K H Av (.int i) (.int i)
 |str (x:Str):aK K H Av (.str x) (.str x)
 |tup {a:Addr} {xs:List V} {ds:List Dat}:DC K H Av a xs->ax K H Av xs ds->aK K H Av (.ref a) (.tuple ds)
 |lst {a:Addr} {xs:List V} {ds:List Dat}:DE K H Av a xs->ax K H Av xs ds->aK K H Av (.ref a) (.list ds)
inductive ax (K:Fg) (H:Hp) (Av:fP):List V->List Dat->Prop
 |nil:ax K H Av [] []
 |cons {v:V} {vs:List V} {d:Dat} {ds:List Dat}:aK K H Av v d->ax K H Av vs ds->ax K H Av (v::vs) (d::ds)
end
variable {iA:fP} {H':Hp}
def mG (H:Hp) (Av:fP) (H':Hp) (iA:fP):Prop:=∀b o,H b=some o->¬Av b->H' b=some o/\¬iA b
theorem AZ(k:mG H Av H' iA){u:HO}(h:Rd H a u/\¬Av a):Rd H' a u/\¬iA a:=by
 obtain⟨h,n⟩:=h;rcases h with h|⟨o,h⟩
 ·exact⟨.inl (k _ _ h n).1,(k _ _ h n).2⟩
 ·exact⟨.inr ⟨o,(k _ _ h n).1⟩,(k _ _ h n).2⟩
mutual
theorem aK.mono(k:mG H Av H' iA):∀{v:V} {d:Dat},aK K H Av v d->aK K H' iA v d
 |_,_,.bM=>.bM
 |_,_,.bl b=>.bl b
 |_,_,.int i=>.int i
 |_,_,.str x=>.str x
 |_,_,.tup h r=>.tup (h.elim (fun z=>.inl (AZ k z)) .inr) (ax.mono k r)
 |_,_,.lst h r=>.lst (h.elim (fun z=>.inl (AZ k z)) .inr) (ax.mono k r)
theorem ax.mono (k:mG H Av H' iA):∀{vs:List V} {ds:List Dat},ax K H Av vs ds->ax K H' iA vs ds
 |_,_,.nil=>.nil
 |_,_,.cons h r=>.cons (aK.mono k h) (ax.mono k r)
end
theorem wG(e:aW H H'):mG H Av H' Av:=fun b o h n=>⟨e b o h,n⟩
theorem wF(w:∀a,iA a->Av a):mG H Av H iA:=fun b o h n=>⟨h,fun z=>n (w _ z)⟩
theorem aK.same(e:aW H H'){v:V}{d:Dat}(r:aK K H Av v d):aK K H' Av v d:=r.mono (wG e)
theorem ax.same(e:aW H H'){v:List V}{d:List Dat}(r:ax K H Av v d):ax K H' Av v d:=r.mono (wG e)
theorem aK.weak(w:∀a,iA a->Av a){v:V}{d:Dat}(r:aK K H Av v d):aK K H iA v d:=r.mono (wF w)
theorem ax.weak(w:∀a,iA a->Av a){v:List V}{d:List Dat}(r:ax K H Av v d):ax K H iA v d:=r.mono (wF w)
theorem ax.length:∀{vs:List V} {ds:List Dat},ax K H Av vs ds->vs.length=ds.length
 |_,_,.nil=>rfl
 |_,_,.cons _ r=>congrArg (· + 1) (ax.length r)
theorem ax.get:∀{vs:List V} {ds:List Dat} {i:Nat} {d:Dat},ax K H Av vs ds->ds[i]?=some d->∃v,vs[i]?=some v/\aK K H Av v d
 |_,_,_,_,.nil,e=>by simp at e
 |_,_,0,_,.cons h _,e=>by simp at e;subst e;exact⟨_,rfl,h⟩
 |_,_,i+1,d,.cons _ r,e=>by
  obtain⟨v,h1,h2⟩:=ax.get (i:=i) (d:=d) r (by simpa using e);exact⟨v,by simpa using h1,h2⟩
theorem ax.append:∀{vs ws:List V} {ds es:List Dat},ax K H Av vs ds->ax K H Av ws es->ax K H Av (vs++ws) (ds++es)
 |_,_,_,_,.nil,s=>s
 |_,_,_,_,.cons h r,s=>.cons h (ax.append r s)
theorem ax.take:∀{vs:List V} {ds:List Dat} (n:Nat),ax K H Av vs ds->ax K H Av (vs.take n) (ds.take n)
 |_,_,0,_=>.nil
 |_,_,_+1,.nil=>.nil
 |_,_,n+1,.cons r t=>.cons r (ax.take n t)
theorem ax.drop:∀{vs:List V} {ds:List Dat} (n:Nat),ax K H Av vs ds->ax K H Av (vs.drop n) (ds.drop n)
 |_,_,0,r=>r
 |_,_,_+1,.nil=>.nil
 |_,_,n+1,.cons _ t=>ax.drop n t
theorem ax.ints(ns:List Int):ax K H Av (ns.map V.int) (ns.map Dat.int):=by
 induction ns with
 |nil=>exact .nil
 |cons n ns ih=>exact .cons (.int n) ih
variable {p:Addr}
theorem bV(h:H p=none)(o:HO):aW H (upd H p o):=fun b u q=>by rw[bz (bo q h)];exact q
def gK (H:Hp) (Av:fP):Prop:=∀a,Av a->∃o,H a=some o
theorem gK.same(e:aW H H')(h:gK H Av):gK H' Av:=fun a z=>let ⟨o,q⟩:=h a z;⟨o,e a o q⟩
theorem gK.new(h:gK H Av)(e:H p=none):¬Av p:=fun z=>by
 obtain⟨o,q⟩:=h p z;rw[e]at q;cases q
variable {ds:List Dat}
theorem aK.sC(h:gK H Av)(e:H p=none)(r:ax K H Av xs ds):aK K (upd H p (.tup xs)) Av (.ref p) (.tuple ds):=
 .tup (.inl ⟨.inl dR,h.new e⟩) (r.same (bV e _))
theorem aK.qg(h:gK H Av)(e:H p=none)(r:ax K H Av xs ds):aK K (upd H p (.lst xs)) Av (.ref p) (.list ds):=
 .lst (.inl ⟨.inl dR,h.new e⟩) (r.same (bV e _))
def fj (K:Fg) (H:Hp) (Av:fP) (σ:L2.St) (ρ:aw):Prop:=∀(i:Nat) (d:Dat),ρ[i]?=some (some d)->∃v,σ[i]?=some (some v)/\aK K H Av v d
variable {ρ:aw}
theorem fj.same{σ:L2.St}(e:aW H H')(h:fj K H Av σ ρ):fj K H' Av σ ρ:=fun i d q=>let ⟨v,a,r⟩:=h i d q;⟨v,a,r.same e⟩
def tF (K:Fg) (f:aw->Option Dat):TE:=fun σ H Q=>∃Av ρ d,gK H Av/\fj K H Av σ ρ/\f ρ=some d/\∀v H',aW H H'->aK K H' Av v d->Q v H'
def mM (K:Fg) (f:aw->Option Bool):TT:=fun σ H Q=>∃Av ρ b,gK H Av/\fj K H Av σ ρ/\f ρ=some b/\∀H',aW H H'->Q b H'
def Ji (K:Fg) (f:aw->Option (List Dat)):TA:=fun σ H Q=>∃Av ρ ds,gK H Av/\fj K H Av σ ρ/\f ρ=some ds/\∀vs H',aW H H'->ax K H' Av vs ds->Q vs H'
abbrev PF (X:Cx) (e:Expr) (f:aw->Option Dat):Prop:=PE X e (tF X.K f)
abbrev WY (X:Cx) (e:Expr) (f:aw->Option Bool):Prop:=PT X e (mM X.K f)
abbrev Ku (X:Cx) (e:List Expr) (f:aw->Option (List Dat)):Prop:=PA X e (Ji X.K f)
variable {e:Expr} {X:Cx}
theorem bj{t t':TE}(h:PE X e t)(m:∀σ H Q,t' σ H Q->t σ H Q):PE X e t':=fun pins s σ H Q I q=>h pins s σ H Q I (m σ H Q q)
theorem nQ{t t':TT}(h:PT X e t)(m:∀σ H Q,t' σ H Q->t σ H Q):PT X e t':=fun pins s σ H Q I q=>h pins s σ H Q I (m σ H Q q)
theorem B6{t t':TT}(h:PW X e t)(m:∀σ H Q,t' σ H Q->t σ H Q):PW X e t':=fun w pins s σ H Q I q=>h w pins s σ H Q I (m σ H Q q)
variable {es:List Expr}
theorem qV{t t':TA}(h:PA X es t)(m:∀σ H Q,t' σ H Q->t σ H Q):PA X es t':=fun p pins s σ H Q I q=>h p pins s σ H Q I (m σ H Q q)
def aI (i:Nat):aw->Option Dat:=fun ρ=>(ρ[i]?).join
def fC (d:Dat):aw->Option Dat:=fun _=>some d
variable {d:Dat}
theorem join_some{o:Option (Option Dat)}(h:o.join=some d):o=some (some d):=by
 cases o with
 |none=>cases h
 |some q=>exact congrArg some h
variable {fb fa:aw->Option Dat} {a b:Expr}
def f2 (g:Dat->Dat->Option Dat) (fa fb:aw->Option Dat):aw->Option Dat:=fun ρ=>(fa ρ).bind fun a=>(fb ρ).bind fun b=>g a b
def nh (K:Fg) (r:R2) (g:Dat->Dat->Option Dat):Prop:=∀(H:Hp) (Av:fP) (x y:V) (dx dy d:Dat) (Q:VK),gK H Av->aK K H Av x dx->aK K H Av y dy->g dx dy=some d->(∀v H',aW H H'->aK K H' Av v d->Q v H')->r x y H Q
variable {α:Type}
theorem bind_some{β:Type}{o:Option α}{g:α->Option β}{b:β}(h:o.bind g=some b):∃a,o=some a/\g a=some b:=by
 cases o with
 |none=>cases h
 |some a=>exact⟨a,rfl,h⟩
variable {r:R2} {g:Dat->Dat->Option Dat}
theorem xy(hr:nh K r g):∀σ H Q,tF K (f2 g fa fb) σ H Q->AN r (tF K fa) (tF K fb) σ H Q:=by
 rintro σ H Q ⟨Av,ρ,d,hA,hE,hf,q⟩;obtain⟨dx,e1,hf⟩:=bind_some hf;obtain⟨dy,e2,hf⟩:=bind_some hf;refine⟨Av,ρ,dx,hA,hE,e1,fun x H1 s1 r1=>⟨Av,ρ,dy,hA.same s1,hE.same s1,e2,fun y H2 s2 r2=>?_⟩⟩;exact hr H2 Av x y dx dy d Q (hA.same (s1.trans s2)) (r1.same s2) r2 hf fun v H' s3 r3=>q v H' (s1.trans (s2.trans s3)) r3
variable {pos:Pos}
theorem lX{op:Operator}(ho:eC X (binaryOp op) r)(hd:nh X.K r g)(ha:PF X a fa)(hb:PF X b fb):PF X (.BinOp a op b pos) (f2 g fa fb):=bj (xE ho ha hb) (xy hd)
theorem q9{op:CmpOp}(ho:eC X (compareOp op) r)(hd:nh X.K r g)(ha:PF X a fa)(hb:PF X b fb)(hm:behindInMarks op b=false):PF X (.Compare a [op] [b] pos) (f2 g fa fb):=bj (Lp ho ha hb hm) (xy hd)
def lu:Dat->Option Bool
 | .bool b=>some b
 |_=>none
variable {f:aw->Option Dat}
def c9 (f:aw->Option Dat):aw->Option Bool:=fun ρ=>(f ρ).bind lu
theorem oY{b:Bool}(h:lu d=some b):d=.bool b:=by
 cases d<;>first|(cases h;done)|(simp only[lu,Option.some.injEq]at h;rw[h])
variable {v:V}
theorem aK.lE{b:Bool}(h:aK K H Av v (.bool b)):v=.bl b:=by cases h;rfl
theorem aK.cY{b:Int}(h:aK K H Av v (.int b)):v=.int b:=by cases h;rfl
theorem aK.ig{b:Str}(h:aK K H Av v (.str b)):v=.str b:=by cases h;rfl
theorem aK.Qi(h:aK K H Av v .none):v=.bM:=by cases h;rfl
theorem aK.fM(h:aK K H Av v (.tuple ds)):∃a xs,v=.ref a/\DC K H Av a xs/\ax K H Av xs ds:=by cases h with|tup h r=>exact⟨_,_,rfl,h,r⟩
theorem aK.fY(h:aK K H Av v (.list ds)):∃a xs,v=.ref a/\DE K H Av a xs/\ax K H Av xs ds:=by cases h with|lst h r=>exact⟨_,_,rfl,h,r⟩
theorem KJ{t:TE}(m:∀σ H Q,tF K f σ H Q->t σ H Q):∀σ H Q,mM K (c9 f) σ H Q->Jf t σ H Q:=by
 rintro σ H Q ⟨Av,ρ,b,hA,hE,hf,q⟩;obtain⟨d,e1,hf⟩:=bind_some hf;have e2:=oY hf;subst e2;exact m σ H _ ⟨Av,ρ,.bool b,hA,hE,e1,fun v H' s r=>⟨b,r.lE,q H' s⟩⟩
theorem jC{op:CmpOp}(ho:eC X (compareOp op) r)(hd:nh X.K r g)(ha:PF X a fa)(hb:PF X b fb)(hm:behindInMarks op b=false):WY X (.Compare a [op] [b] pos) (c9 (f2 g fa fb)):=nQ (Lc ho ha hb hm) (KJ (xy hd))
def lQ:Dat->Option Bool
 | .none=>some false
 | .bool b=>some b
 | .int i=>some (i !=0)
 | .str y=>if y.length<=sizeLine then some ((y.length:Int) !=0)else none
 | .list ds=>some (!ds.isEmpty)
 | .tuple ds=>some (!ds.isEmpty)
 |_=>none
def ju (f:aw->Option Dat):aw->Option Bool:=fun ρ=>(f ρ).bind lQ
variable {vs:List V}
theorem ax.emp(h:ax K H Av vs ds):ds.isEmpty=vs.isEmpty:=by cases h<;>rfl
theorem DW{k:Bool}(r:aK K H Av v d)(h:lQ d=some k):IV K v H k:=by
 cases r with
 |bM=>cases h;exact rfl
 |bl b=>cases h;exact rfl
 |int i=>cases h;exact rfl
 |str x=>
  simp only[lQ]at h;split at h
  ·rename_i hz;cases h;exact⟨hz,rfl⟩
  ·cases h
 |tup hq rs=>cases h;exact .inr (.inl ⟨_,hq.sq,by rw[rs.emp]⟩)
 |lst hq rs=>cases h;exact .inl ⟨_,hq.sq,by rw[rs.emp]⟩
variable {c:Expr}
def jl (f g:aw->Option Bool):aw->Option Bool:=fun ρ=>(f ρ).bind fun c=>if c=true then g ρ else some false
def j1 (f g:aw->Option Bool):aw->Option Bool:=fun ρ=>(f ρ).bind fun c=>if c=true then some true else g ρ
def jX (f:aw->Option Bool):aw->Option Bool:=fun ρ=>(f ρ).map (!·)
abbrev XA (X:Cx) (e:Expr) (f:aw->Option Bool):Prop:=PW X e (mM X.K f)
def nH (f g:aw->Option Dat):aw->Option Dat:=fun ρ=>(f ρ).bind fun d=>(lu d).bind fun c=>if c=true then g ρ else some (.bool false)
def rJ (f g:aw->Option Dat):aw->Option Dat:=fun ρ=>(f ρ).bind fun d=>(lu d).bind fun c=>if c=true then some (.bool true)else g ρ
def qv (f:aw->Option Dat):aw->Option Dat:=fun ρ=>(f ρ).bind fun d=>(lu d).map fun c=>.bool (!c)
variable {ft:aw->Option Bool}
def uk (ft:aw->Option Bool) (f g:aw->Option Dat):aw->Option Dat:=fun ρ=>(ft ρ).bind fun c=>if c=true then f ρ else g ρ
def f1 (g:Dat->Option Dat) (fa:aw->Option Dat):aw->Option Dat:=fun ρ=>(fa ρ).bind g
def WV (K:Fg) (r:V->Hp->VK->Prop) (g:Dat->Option Dat):Prop:=∀(H:Hp) (Av:fP) (x:V) (dx d:Dat) (Q:VK),gK H Av->aK K H Av x dx->g dx=some d->(∀v H',aW H H'->aK K H' Av v d->Q v H')->r x H Q
theorem Q9{op:UnaryOp}{r:V->Hp->VK->Prop}{g:Dat->Option Dat}(ho:Kp X (unaryOp op) r)(hd:WV X.K r g)(ha:PF X a fa):PF X (.UnaryOp op a pos) (f1 g fa):=bj (Qa ho ha) fun σ H Q aM=>by
 obtain⟨Av,ρ,d,hA,hE,hf,q⟩:=aM;obtain⟨dx,e1,hf⟩:=bind_some hf;exact⟨Av,ρ,dx,hA,hE,e1,fun x H1 s1 r1=>hd H1 Av x dx d Q (hA.same s1) r1 hf fun v H2 s2 r2=>q v H2 (s1.trans s2) r2⟩
def bW:aw->Option (List Dat):=fun _=>some []
def aT (f:aw->Option Dat) (g:aw->Option (List Dat)):aw->Option (List Dat):=fun ρ=>(f ρ).bind fun d=>(g ρ).map (d::·)
theorem bg{β:Type}{o:Option α}{g:α->β}{b:β}(h:o.map g=some b):∃a,o=some a/\g a=b:=by
 cases o with
 |none=>cases h
 |some a=>exact⟨a,rfl,Option.some.inj h⟩
def l5 (g:aw->Option (List Dat)):aw->Option Dat:=fun ρ=>(g ρ).bind fun ds=>if ds.length<=sizeLine then some (.tuple ds)else none
def nG (g:aw->Option (List Dat)):aw->Option Dat:=fun ρ=>(g ρ).bind fun ds=>if ds.length<=sizeLine then some (.list ds)else none
variable {fs:aw->Option (List Dat)} in
def gi (g:List Dat->Option Dat) (fs:aw->Option (List Dat)):aw->Option Dat:=fun ρ=>(fs ρ).bind g
def nq (K:Fg) (r:List V->Hp->VK->Prop) (g:List Dat->Option Dat):Prop:=∀(H:Hp) (Av:fP) (xs:List V) (ds:List Dat) (d:Dat) (Q:VK),gK H Av->ax K H Av xs ds->g ds=some d->(∀v H',aW H H'->aK K H' Av v d->Q v H')->r xs H Q
variable {r:List V->Hp->VK->Prop} {g:List Dat->Option Dat}
variable {fs:aw->Option (List Dat)} in
theorem AO(hr:nq K r g):∀σ H Q,tF K (gi g fs) σ H Q->Jk r (Ji K fs) σ H Q:=by
 rintro σ H Q ⟨Av,ρ,d,hA,hE,hf,q⟩;obtain⟨ds,e1,hf⟩:=bind_some hf;exact⟨Av,ρ,ds,hA,hE,e1,fun xs H1 s1 r1=>hr H1 Av xs ds d Q (hA.same s1) r1 hf fun v H2 s2 r2=>q v H2 (s1.trans s2) r2⟩
variable {x:Str}
variable {fs:aw->Option (List Dat)} in
theorem yv{p:Pos}{id:String}(hc:k8 X (.builtin id) r)(hd:nq X.K r g)(hm:X.mg x=none)(ha:Ku X (e::es) fs)(hg:Gl X x:=by rfl)(hv:bootBuiltins x=some (.builtin id):=by rfl)(hn:x≠"__name__":=by decide)(jc:(x==("__debug__" : Str))=false:=by decide)(he:starEach (e::es) X.env=(false,eval e X.env)::starEach es X.env:=by rfl)(ey:(backTo pos (starEach es X.env)).any (·.1)=false:=by rfl):PF X (.Call (.Name x p) (e::es) [] pos) (gi g fs):=bj (yw hc hg hm hv ha hn jc he ey) (AO hd)
variable {T:String}
variable {fs:aw->Option (List Dat)} in
theorem Ez{p:Pos}(hc:k8 X (.type T) r)(hd:nq X.K r g)(hm:X.mg x=none)(ha:Ku X (e::es) fs)(hg:Gl X x:=by rfl)(hv:bootBuiltins x=some (.type T):=by rfl)(hn:x≠"__name__":=by decide)(jc:(x==("__debug__" : Str))=false:=by decide)(he:starEach (e::es) X.env=(false,eval e X.env)::starEach es X.env:=by rfl)(ey:(backTo pos (starEach es X.env)).any (·.1)=false:=by rfl):PF X (.Call (.Name x p) (e::es) [] pos) (gi g fs):=bj (mS hc hg hm hv ha hn jc he ey) (AO hd)
def E5 (K:Fg) (n:Nat) (F:List Dat->Option Dat):Sp:=fun vs H Q _=>∃Av ds d,gK H Av/\ax K H Av vs ds/\ds.length=n/\F ds=some d/\∀v H',aW H H'->aK K H' Av v d->Q v H'
variable {fs:aw->Option (List Dat)} in
def jF (n:Nat) (F:List Dat->Option Dat) (fs:aw->Option (List Dat)):aw->Option Dat:=fun ρ=>(fs ρ).bind fun ds=>if ds.length=n then F ds else none
variable {n:Nat} {F:List Dat->Option Dat}
variable {fs:aw->Option (List Dat)} in
theorem PU{E:XK}:∀σ H Q,tF K (jF n F fs) σ H Q->Jj (E5 K n F) [] E (Ji K fs) σ H Q:=by
 rintro σ H Q ⟨Av,ρ,d,hA,hE,hf,q⟩;obtain⟨ds,e1,hf⟩:=bind_some hf;split at hf
 ·rename_i hl;exact⟨Av,ρ,ds,hA,hE,e1,fun xs H1 s1 r1=>⟨Av,ds,d,hA.same s1,by rw[append_nil];exact r1,hl,hf,fun v H2 s2 r2=>q v H2 (s1.trans s2) r2⟩⟩
 ·cases hf
structure Dn (P:Program) (w:World) (K:Fg) (mg:Str->Option Value) (base:Heap) (k:Nat) (x:Str) (ps:List Str) (n:Nat) (F:List Dat->Option Dat):Prop where
 ex:∃(f:Addr) (fd:FuncData),gu P w K mg base iV k f fd ps (E5 K n F)/\mg x=some (.ref f)/\keepIn K (.ref f)=true/\Binds K fd ps []
variable {P:Program} {w:World} {mg:Str->Option Value} {base:Heap} {ps:List Str}
theorem Dn.up{j k:Nat}(D:Dn P w K mg base j x ps n F)(h:j<=k):Dn P w K mg base k x ps n F:=by
 obtain⟨f,fd,h1,h2⟩:=D.ex;exact⟨f,fd,h1.mono h,h2⟩
open PySem PySem.Spec PyProof.Rows L2
open PySem.W (Dat)
inductive Slot where
 |a7 (d:Dat)
 |own (ds:List Dat)
 |obj (O:Addr->List V->Heap->Prop) (ds:List Dat)
def Slot.mt:Slot->Bool
 | .a7 _=>false
 |_=>true
abbrev aD:=List (Option Slot)
def bw (Γ:aD):aw:=Γ.map fun o=>match o with|some (.a7 d)=>some d|_=>none
def bU (Γ:aD):aw:=Γ.map fun o=>match o with|some (.a7 d)=>some d|some (.own ds)=>some (.list ds)|_=>none
def aS (Av:fP) (Γ:aD) (ad:Nat->Addr):fP:=fun a=>Av a\/∃(i:Nat) (s:Slot),Γ[i]?=some (some s)/\s.mt=true/\ad i=a
abbrev Hid:=List (V×Dat)
structure GA (K:Fg) (aj:Hp) (Av:fP) (pn:Option Addr) (aH:Hid) (H:Hp) (σ:L2.St) (Γ:aD) (ad:Nat->Addr):Prop where
 same:aW aj H
 jf:gK aj Av
 len:σ.length=Γ.length
 a7:∀(i:Nat) (d:Dat),Γ[i]?=some (some (.a7 d))->∃v,σ[i]?=some (some v)/\aK K H (aS Av Γ ad) v d
 own:∀(i:Nat) (ds:List Dat),Γ[i]?=some (some (.own ds))->∃xs,σ[i]?=some (some (.ref (ad i)))/\H (ad i)=some (.lst xs)/\ax K H (aS Av Γ ad) xs ds/\aj (ad i)=none
 inj:∀(i j:Nat) (s t:Slot),Γ[i]?=some (some s)->Γ[j]?=some (some t)->s.mt=true->t.mt=true->ad i=ad j->i=j
 aH:∀p∈aH,aK K H (aS Av Γ ad) p.1 p.2
 pin:∀a ds,pn=some a->Γ[0]?=some (some (.own ds))->ad 0=a
 obj:∀(i:Nat) (O:Addr->List V->Heap->Prop) (ds:List Dat),Γ[i]?=some (some (.obj O ds))->∃xs,σ[i]?=some (some (.ref (ad i)))/\H (ad i)=some (.ext (O (ad i) xs))/\ax K H (aS Av Γ ad) xs ds/\aj (ad i)=none
def l6 (K:Fg) (aj:Hp) (Av:fP) (pn:Option Addr) (aH:Hid) (H:Hp) (σ:L2.St) (Γ:aD):Prop:=∃ad,GA K aj Av pn aH H σ Γ ad
variable {Γ:aD} {aj:Hp} {pn:Option Addr} {aH:Hid} {σ:L2.St} {ad:Nat->Addr} {i:Nat}
theorem GA.mt(G:GA K aj Av pn aH H σ Γ ad){s:Slot}(h:Γ[i]?=some (some s))(m:s.mt=true):(∃o,H (ad i)=some o)/\aj (ad i)=none:=by
 cases s with
 |a7 d=>cases m
 |own ds=>obtain⟨xs,_,a,_,b⟩:=G.own i ds h;exact⟨⟨_,a⟩,b⟩
 |obj O ds=>obtain⟨xs,_,a,_,b⟩:=G.obj i O ds h;exact⟨⟨_,a⟩,b⟩
theorem GA.NQ(G:GA K aj Av pn aH H σ Γ ad)(i j:Nat)(ds es:List Dat)(h1:Γ[i]?=some (some (.own ds)))(h2:Γ[j]?=some (some (.own es)))(e:ad i=ad j):i=j:=G.inj i j _ _ h1 h2 rfl rfl e
theorem GA.gR(G:GA K aj Av pn aH H σ Γ ad):gK H (aS Av Γ ad):=by
 rintro a (z|⟨i,s,e,m,rfl⟩)
 ·exact(G.jf.same G.same) a z
 ·exact(G.mt e m).1
theorem GA.j3(G:GA K aj Av pn aH H σ Γ ad):fj K H (aS Av Γ ad) σ (bw Γ):=fun i d e=>by
 unfold bw at e;rw[getElem?_map]at e;cases h:Γ[i]? with
 |none=>rw[h]at e;cases e
 |some o=>
  rw[h]at e;cases o with
  |none=>cases e
  |some s=>
   cases s with
   |a7 d'=>cases e;exact G.a7 i d h
   |own ds=>cases e
   |obj O ds=>cases e
theorem GA.qw(G:GA K aj Av pn aH H σ Γ ad):fj K H Av σ (bU Γ):=fun i d e=>by
 unfold bU at e;rw[getElem?_map]at e;cases h:Γ[i]? with
 |none=>rw[h]at e;cases e
 |some o=>
  rw[h]at e;cases o with
  |none=>cases e
  |some s=>
   cases s with
   |a7 d'=>
    cases e;obtain⟨v,h1,h2⟩:=G.a7 i d h;exact⟨v,h1,h2.weak fun _ z=>.inl z⟩
   |own ds=>
    cases e;obtain⟨xs,h1,h2,h3,h4⟩:=G.own i ds h;refine⟨_,h1,.lst (.inl ⟨.inl h2,fun z=>?_⟩) (h3.weak fun _ z=>.inl z)⟩;obtain⟨o,q⟩:=G.jf _ z;rw[h4]at q;cases q
   |obj O ds=>cases e
theorem GA.grow(G:GA K aj Av pn aH H σ Γ ad)(e:aW H H'):GA K aj Av pn aH H' σ Γ ad:=
 ⟨G.same.trans e,G.jf,G.len,fun i d h=>let ⟨v,a,r⟩:=G.a7 i d h;⟨v,a,r.same e⟩,fun i ds h=>let ⟨xs,a,b,r,c⟩:=G.own i ds h;⟨xs,a,e _ _ b,r.same e,c⟩,G.inj,fun p hp=>(G.aH p hp).same e,G.pin,fun i O ds h=>let ⟨xs,a,b,r,c⟩:=G.obj i O ds h;⟨xs,a,e _ _ b,r.same e,c⟩⟩
theorem aQ{l:List α}{j:Nat}{a b:α}(h:(l.set i a)[j]?=some b):(j=i/\b=a)\/(j≠i/\l[j]?=some b):=by
 by_cases e:j=i
 ·subst e;left
  refine⟨rfl,?_⟩;by_cases hl:j<l.length
  ·rw[getElem?_set_self hl]at h;exact(Option.some.inj h).symm
  ·rw[List.getElem?_eq_none (by rw[length_set];omega)]at h;cases h
 ·right
  rw[getElem?_set_ne (Ne.symm e)]at h;exact⟨e,h⟩
theorem fI{l:List α}{a:α}(h:l[i]?=some a):i<l.length:=(List.getElem?_eq_some_iff.mp h).1
theorem aS.jz:∀a,aS Av (Γ.set i (some (.a7 d))) ad a->aS Av Γ ad a:=by
 rintro a (z|⟨j,s,e,m,r⟩)
 ·exact .inl z
 ·rcases aQ e with⟨_,q⟩|⟨_,q⟩
  ·cases q;cases m
  ·exact .inr ⟨j,s,q,m,r⟩
theorem GA.set(G:GA K aj Av pn aH H σ Γ ad)(i:Nat)(r:aK K H (aS Av Γ ad) v d):GA K aj Av pn aH H (σ.set i (some v)) (Γ.set i (some (.a7 d))) ad:=by
 refine⟨G.same,G.jf,by rw[length_set,length_set];exact G.len,fun j d' h=>?_,fun j ds h=>?_,fun j k s t h1 h2 m1 m2 e=>?_,fun p hp=>(G.aH p hp).weak aS.jz,fun a ds e h=>?_,fun j O ds h=>?_⟩
 ·have fu:=fI h;rw[length_set]at fu;rcases aQ h with⟨e,q⟩|⟨e,q⟩
  ·subst e;cases q;exact⟨v,getElem?_set_self (by rw[G.len];exact fu),r.weak aS.jz⟩
  ·obtain⟨u,a,b⟩:=G.a7 j d' q;exact⟨u,by rw[getElem?_set_ne (Ne.symm e)];exact a,b.weak aS.jz⟩
 ·rcases aQ h with⟨e,q⟩|⟨e,q⟩
  ·cases q
  ·obtain⟨xs,a,b,c,e'⟩:=G.own j ds q;exact⟨xs,by rw[getElem?_set_ne (Ne.symm e)];exact a,b,c.weak aS.jz,e'⟩
 ·rcases aQ h1 with⟨_,q⟩|⟨_,q1⟩
  ·cases q;cases m1
  rcases aQ h2 with⟨_,q⟩|⟨_,q2⟩
  ·cases q;cases m2
  exact G.inj j k s t q1 q2 m1 m2 e
 ·rcases aQ h with⟨_,q⟩|⟨_,q⟩
  ·cases q
  ·exact G.pin a ds e q
 ·rcases aQ h with⟨e,q⟩|⟨e,q⟩
  ·cases q
  ·obtain⟨xs,a,b,c,e'⟩:=G.obj j O ds q;exact⟨xs,by rw[getElem?_set_ne (Ne.symm e)];exact a,b,c.weak aS.jz,e'⟩
theorem GA.MP(G:GA K aj Av pn aH H σ Γ ad)(i:Nat)(nZ:i≠0)(hp:H p=none)(r:ax K H (aS Av Γ ad) xs ds):
  GA K aj Av pn aH (upd H p (.lst xs)) (σ.set i (some (.ref p))) (Γ.set i (some (.own ds))) (fun j=>if j=i then p else ad j):=by
 have sm:aW H (upd H p (.lst xs)):=bV hp _;have ES:∀j s,Γ[j]?=some (some s)->Slot.mt s=true->ad j≠p:=fun j s h m=>by
  obtain⟨⟨o,b⟩,_⟩:=G.mt h m;exact bo b hp
 have kp:mG H (aS Av Γ ad) (upd H p (.lst xs)) (aS Av (Γ.set i (some (.own ds))) (fun j=>if j=i then p else ad j)):=by
  intro b o h n;refine⟨sm b o h,?_⟩;rintro(z|⟨j,es,e,m,r⟩)
  ·exact n (.inl z)
  ·rcases aQ e with⟨e1,_⟩|⟨e1,q⟩
   ·have r':p=b:=by simpa [e1]using r
    exact bo h hp r'.symm
   ·have r':ad j=b:=by simpa [e1]using r
    exact n (.inr ⟨j,es,q,m,r'⟩)
 have HE:∀{vs:List V} {d:List Dat},ax K H (aS Av Γ ad) vs d->ax K (upd H p (.lst xs)) (aS Av (Γ.set i (some (.own ds))) (fun j=>if j=i then p else ad j)) vs d:=fun h=>h.mono kp
 ·refine⟨G.same.trans sm,G.jf,by rw[length_set,length_set];exact G.len,fun j d' h=>?_,fun j es h=>?_,fun j l es fs h1 h2 m1 m2 e=>?_,fun q hq=>(G.aH q hq).mono kp,fun a es e h=>?_,fun j O es h=>?_⟩
  ·rcases aQ h with⟨e,q⟩|⟨e,q⟩
   ·cases q
   ·obtain⟨u,a,b⟩:=G.a7 j d' q;exact⟨u,by rw[getElem?_set_ne (Ne.symm e)];exact a,b.mono kp⟩
  ·have fu:=fI h;rw[length_set]at fu;rcases aQ h with⟨e,q⟩|⟨e,q⟩
   ·subst e;cases q;refine⟨xs,?_,?_,HE r,?_⟩
    ·rw[if_pos rfl];exact getElem?_set_self (by rw[G.len];exact fu)
    ·rw[if_pos rfl];exact dR
    ·rw[if_pos rfl];cases e0:aj p with
     |none=>rfl
     |some o=>have:=G.same p o e0;rw[hp]at this;cases this
   ·obtain⟨ys,a,b,c,e'⟩:=G.own j es q;refine⟨ys,?_,?_,HE c,?_⟩
    ·rw[if_neg e,getElem?_set_ne (Ne.symm e)];exact a
    ·rw[if_neg e];exact sm _ _ b
    ·rw[if_neg e];exact e'
  ·rcases aQ h1 with⟨e1,q1⟩|⟨e1,q1⟩
   ·rcases aQ h2 with⟨e2,q2⟩|⟨e2,q2⟩
    ·rw[e1,e2]
    ·rw[if_pos e1,if_neg e2]at e;exact absurd e.symm (ES l fs q2 m2)
   ·rcases aQ h2 with⟨e2,q2⟩|⟨e2,q2⟩
    ·rw[if_neg e1,if_pos e2]at e;exact absurd e (ES j es q1 m1)
    ·rw[if_neg e1,if_neg e2]at e;exact G.inj j l es fs q1 q2 m1 m2 e
  ·rcases aQ h with⟨z,_⟩|⟨_,q⟩
   ·exact absurd z.symm nZ
   ·show(if 0=i then p else ad 0)=a;rw[if_neg (Ne.symm nZ)];exact G.pin a es e q
  ·rcases aQ h with⟨e,q⟩|⟨e,q⟩
   ·cases q
   ·obtain⟨ys,a,b,c,e'⟩:=G.obj j O es q;refine⟨ys,?_,?_,HE c,?_⟩
    ·rw[if_neg e,getElem?_set_ne (Ne.symm e)];exact a
    ·rw[if_neg e];exact sm _ _ b
    ·rw[if_neg e];exact e'
variable {es:List Dat}
theorem GA.change(G:GA K aj Av pn aH H σ Γ ad){ys:List V}(hi:Γ[i]?=some (some (.own ds)))(r:ax K H (aS Av Γ ad) ys es):
  GA K aj Av pn aH (upd H (ad i) (.lst ys)) σ (Γ.set i (some (.own es))) ad:=by
 have fu:i<Γ.length:=fI hi;have av:∀a,aS Av (Γ.set i (some (.own es))) ad a->aS Av Γ ad a:=by
  rintro a (z|⟨j,fs,e,m,q⟩)
  ·exact .inl z
  ·rcases aQ e with⟨e1,_⟩|⟨e1,q1⟩
   ·subst e1;exact .inr ⟨j,_,hi,rfl,q⟩
   ·exact .inr ⟨j,fs,q1,m,q⟩
 have kp:mG H (aS Av Γ ad) (upd H (ad i) (.lst ys)) (aS Av (Γ.set i (some (.own es))) ad):=by
  intro b o h n;refine⟨?_,fun z=>n (av b z)⟩;rw[bz fun z=>n (.inr ⟨i,_,hi,rfl,z.symm⟩)];exact h
 obtain⟨Mu,g1,g2,g3,g4⟩:=G.own i ds hi;refine⟨fun b o h=>?_,G.jf,by rw[length_set];exact G.len,fun j d' h=>?_,fun j fs h=>?_,fun j l fs gs h1 h2 m1 m2 e=>?_,fun p hp=>(G.aH p hp).mono kp,fun a fs e h=>?_,fun j O fs h=>?_⟩
 ·rw[bz (bo h g4)];exact G.same b o h
 ·rcases aQ h with⟨e,q⟩|⟨e,q⟩
  ·cases q
  ·obtain⟨u,a,b⟩:=G.a7 j d' q;exact⟨u,a,b.mono kp⟩
 ·rcases aQ h with⟨e,q⟩|⟨e,q⟩
  ·subst e;cases q;exact⟨ys,g1,dR,r.mono kp,g4⟩
  ·obtain⟨zs,a,b,c,e'⟩:=G.own j fs q;refine⟨zs,a,?_,c.mono kp,e'⟩;rw[bz fun z=>e (G.NQ j i fs ds q hi z)];exact b
 ·rcases aQ h1 with⟨e1,q1⟩|⟨e1,q1⟩
  ·rcases aQ h2 with⟨e2,q2⟩|⟨e2,q2⟩
   ·rw[e1,e2]
   ·subst e1;exact G.inj j l _ gs hi q2 rfl m2 e
  ·rcases aQ h2 with⟨e2,q2⟩|⟨e2,q2⟩
   ·subst e2;exact G.inj j l fs _ q1 hi m1 rfl e
   ·exact G.inj j l fs gs q1 q2 m1 m2 e
 ·rcases aQ h with⟨z,_⟩|⟨_,q⟩
  ·subst z;exact G.pin a ds e hi
  ·exact G.pin a fs e q
 ·rcases aQ h with⟨e,q⟩|⟨e,q⟩
  ·cases q
  ·obtain⟨zs,a,b,c,e'⟩:=G.obj j O fs q;refine⟨zs,a,?_,c.mono kp,e'⟩;rw[bz fun z=>e (G.inj j i _ _ q hi rfl rfl z)];exact b
theorem GA.hide(G:GA K aj Av pn aH H σ Γ ad)(r:aK K H (aS Av Γ ad) v d):GA K aj Av pn ((v,d)::aH) H σ Γ ad:=
 ⟨G.same,G.jf,G.len,G.a7,G.own,G.inj,fun p hp=>by
  rcases mem_cons.mp hp with e|h
  ·subst e;exact r
  ·exact G.aH p h,G.pin,G.obj⟩
theorem GA.pI(G:GA K aj Av pn ((v,d)::aH) H σ Γ ad):GA K aj Av pn aH H σ Γ ad:=
 ⟨G.same,G.jf,G.len,G.a7,G.own,G.inj,fun p hp=>G.aH p (mem_cons_of_mem _ hp),G.pin,G.obj⟩
inductive Fl where
 |nx (Γ:aD)|rt (d:Dat)|bk (Γ:aD)|ct (Γ:aD)|rm (d:Dat) (Γ:aD)
def Iq (K:Fg) (aj:Hp) (Av:fP) (pn:Option Addr) (aH:Hid) (D:Ends):Fl->Prop
 | .nx Γ=>∀σ H,l6 K aj Av pn aH H σ Γ->D.nx σ H
 | .rt d=>∀v H,aW aj H->aK K H Av v d->D.rt v H
 | .bk Γ=>∀σ H,l6 K aj Av pn aH H σ Γ->D.bk σ H
 | .ct Γ=>∀σ H,l6 K aj Av pn aH H σ Γ->D.ct σ H
 | .rm d Γ=>∀σ v H ad,GA K aj Av pn aH H σ Γ ad->aK K H (aS Av Γ ad) v d->D.rt v H
def xU (K:Fg) (g:aD->Option Fl):TS:=fun D σ H=>∃aj Av pn aH Γ fl,l6 K aj Av pn aH H σ Γ/\g Γ=some fl/\Iq K aj Av pn aH D fl
abbrev SD (X:Cx) (st:Stmt) (g:aD->Option Fl):Prop:=PS X st (xU X.K g)
abbrev Pg (X:Cx) (st:List Stmt) (g:aD->Option Fl):Prop:=kY X st (xU X.K g)
variable {st:Stmt}
theorem cz{t t':TS}(h:PS X st t)(m:∀D σ H,t' D σ H->t D σ H):PS X st t':=fun pins s σ H D I q=>h pins s σ H D I (m D σ H q)
variable {rest:List Stmt} in
theorem yo{t t':TS}(h:kY X rest t)(m:∀D σ H,t' D σ H->t D σ H):kY X rest t':=fun pins s σ H D I q=>h pins s σ H D I (m D σ H q)
def ij:aD->Option Fl:=fun Γ=>some (.nx Γ)
variable {g1 g2:aD->Option Fl}
def dr (g1 g2:aD->Option Fl):aD->Option Fl:=fun Γ=>(g1 Γ).bind fun fl=>match fl with
 | .nx ag=>g2 ag
 | .rt d=>some (.rt d)
 | .bk ag=>some (.bk ag)
 | .ct ag=>some (.ct ag)
 | .rm d ag=>some (.rm d ag)
def kr (f:aw->Option Dat):aD->Option Fl:=fun Γ=>(f (bU Γ)).map .rt
def kb (ft:aw->Option Bool) (g1 g2:aD->Option Fl):aD->Option Fl:=fun Γ=>(ft (bU Γ)).bind fun c=>if c=true then g1 Γ else g2 Γ
def Ec:Dat->Bool
 | .none=>true| .bool _=>true| .int _=>true| .str _=>true
 |_=>false
theorem aK.sc(h:aK K H Av v d)(s:Ec d=true):aK K H iA v d:=by
 cases h with
 |bM=>exact .bM
 |bl b=>exact .bl b
 |int i=>exact .int i
 |str x=>exact .str x
 |tup _ _=>cases s
 |lst _ _=>cases s
def iB (i:Nat) (f:aw->Option Dat):aD->Option Fl:=fun Γ=>match f (bw Γ)with
 |some d=>some (.nx (Γ.set i (some (.a7 d))))
 |none=>(f (bU Γ)).bind fun d=>if Ec d=true then some (.nx (Γ.set i (some (.a7 d))))else none
theorem MD:∀D σ H,xU K (iB i f) D σ H->Hc (tF K f) (Df i) D σ H:=by
 rintro D σ H ⟨aj,Av,pn,aH,Γ,fl,⟨ad,G⟩,hf,q⟩;unfold iB at hf;split at hf
 ·rename_i d e1;cases hf;exact⟨aS Av Γ ad,bw Γ,d,G.gR,G.j3,e1,fun v H' s r=>q _ _ ⟨ad,(G.grow s).set i r⟩⟩
 ·obtain⟨d,e1,hf⟩:=bind_some hf;split at hf
  ·rename_i hs;cases hf;exact⟨Av,bU Γ,d,G.jf.same G.same,G.qw,e1,fun v H' s r=>q _ _ ⟨ad,(G.grow s).set i (r.sc hs)⟩⟩
  ·cases hf
abbrev cX:=List (Nat×Dat)
inductive k0 (K:Fg) (H:Hp) (Av:fP):List (Nat×V)->cX->Prop
 |nil:k0 K H Av [] []
 |cons {i:Nat} {v:V} {d:Dat} {vs:List (Nat×V)} {ds:cX}:aK K H Av v d->k0 K H Av vs ds->k0 K H Av ((i,v)::vs) ((i,d)::ds)
def oA (σ:L2.St) (ws:List (Nat×V)):L2.St:=ws.foldl (fun σ p=>σ.set p.1 (some p.2)) σ
def setG (Γ:aD) (ws:cX):aD:=ws.foldl (fun Γ p=>Γ.set p.1 (some (.a7 p.2))) Γ
def ko (ρ:aw) (ws:cX):aw:=ws.foldl (fun ρ p=>ρ.set p.1 (some p.2)) ρ
theorem k0.append{K:Fg}{H:Hp}{Av:fP}:∀{a b:List (Nat×V)} {c d:cX},k0 K H Av a c->k0 K H Av b d->k0 K H Av (a++b) (c++d)
 |_,_,_,_,.nil,s=>s
 |_,_,_,_,.cons h r,s=>.cons h (k0.append r s)
def k9 (K:Fg) (gt:Dat->Option cX):TG:=fun v σ H Q=>∃Av d as,aK K H Av v d/\gt d=some as/\∀ws,k0 K H Av ws as->Q (oA σ ws) H
def Cr (K:Fg) (gt:List Dat->Option cX):rN:=fun vs σ H Q=>∃Av ds as,ax K H Av vs ds/\gt ds=some as/\∀ws,k0 K H Av ws as->Q (oA σ ws) H
theorem Be{t t':TG}{tg:Expr}(h:PG X tg t)(m:∀v σ H Q,t' v σ H Q->t v σ H Q):PG X tg t':=fun pins s σ H v u Q I r q=>h pins s σ H v u Q I r (m v σ H Q q)
theorem yt{t t':rN}{tg:List Expr}(h:A8 X tg t)(m:∀v σ H Q,t' v σ H Q->t v σ H Q):A8 X tg t':=fun pins s σ H v u Q I r q=>h pins s σ H v u Q I r (m v σ H Q q)
def aName (i:Nat):Dat->Option cX:=fun d=>some [(i,d)]
def mD:List Dat->Option cX:=fun ds=>match ds with|[]=>some []|_=>none
variable {g:aD->Option Fl}
def gB (g:Dat->Option cX) (gs:List Dat->Option cX):List Dat->Option cX:=fun ds=>match ds with
 |[]=>none
 |d::r=>(g d).bind fun a=>(gs r).map (a++·)
def kC (n:Nat) (gs:List Dat->Option cX):Dat->Option cX:=fun d=>match d with
 | .tuple ds=>if ds.length=n then gs ds else none
 |_=>none
variable {ws:List (Nat×V)} {as:cX}
theorem GA.j6{QX:aD}{σ:L2.St}(h:k0 K H (aS Av QX ad) ws as)(hw:∀a,aS Av Γ ad a->aS Av QX ad a)(G:GA K aj Av pn aH H σ Γ ad):
  GA K aj Av pn aH H (oA σ ws) (setG Γ as) ad:=by
 induction h generalizing σ Γ with
 |nil=>exact G
 | @cons i v d vs ds h r ih=>exact ih (σ:=σ.set i (some v)) (Γ:=Γ.set i (some (.a7 d))) (fun a z=>hw a (aS.jz a z)) (G.set i (h.weak hw))
def pS (gt:Dat->Option cX) (f:aw->Option Dat):aD->Option Fl:=fun Γ=>(f (bw Γ)).bind fun d=>(gt d).map fun as=>.nx (setG Γ as)
open PySem PySem.Spec PyProof.Rows L2
open PySem.W (Dat)
def NT (K:Fg) (tl:TE):TI:=fun σ H R=>tl σ H fun x H1=>∃a,x=.ref a/\(((∃xs,fw K H1 a xs)/\R (Pm K a) H1)\/((∃xs,iT K H1 a xs)/\R (Pl K a) H1))
variable {tg:Expr}
theorem tU{l:Expr}{tl:TE}(hl:PE X l tl):PI X tg l (NT X.K tl):=by
 intro pins s σ H R I h;refine bZ (hl pins s σ H _ I h) fun v s1 ⟨x,H1,I1,r1,q1⟩=>?_;obtain⟨a,e,q⟩:=q1;subst e;cases r1;rcases q with⟨⟨xs,hq⟩,q⟩|⟨⟨xs,hq⟩,q⟩
 ·obtain⟨ak,rv,p,hz⟩:=I1.list hq;refine wpAny_pyIter_list p.isList ?_;refine⟨s1.heap.objs.size,[s1.heap.objs.size],_,_,H1,rfl,I1.kept (t':=s1.toks) fun b o e=>get?_push_of_some _ e,DT a _,⟨_,get?_push_size _ rfl,rfl,rfl⟩,fun b hb=>?_,q⟩;have e:b=s1.heap.objs.size:=by simpa using hb
  subst e;exact I1.vt (le_refl _) (I1.bh.fresh (le_refl _))
 ·obtain⟨ak,rv,p,hz⟩:=I1.tuple hq;refine wpAny_pyIter_tuple (show s1.heap.IsTuple a ak.toArray from p) ?_;refine⟨s1.heap.objs.size,[s1.heap.objs.size],_,_,H1,rfl,I1.kept (t':=s1.toks) fun b o e=>get?_push_of_some _ e,Cp a _,⟨_,get?_push_size _ rfl,rfl,rfl⟩,fun b hb=>?_,q⟩;have e:b=s1.heap.objs.size:=by simpa using hb
  subst e;exact I1.vt (le_refl _) (I1.bh.fresh (le_refl _))
def cW:Dat->Option (List Dat)
 | .list ds=>some ds
 | .tuple ds=>some ds
 |_=>none
def Over (K:Fg) (J:It) (x:V) (d:Dat) (ds:List Dat):Prop:=∀(i:Nat) (H:Hp) (Av:fP),aK K H Av x d->(ds.length<=i->J.stop i H)/\(∀di,ds[i]?=some di->J.go i H/\∀y H',J.vS i H y H'->H'=H/\aK K H Av y di)
theorem qc{a:Addr}:Over K (Pm K a) (.ref a) (.list ds) ds:=by
 intro i H Av r;obtain⟨b,xs,e,hq,rs⟩:=r.fY;cases e;refine⟨fun h=>⟨xs,hq.sq,by rw[rs.length];exact h⟩,fun di hd=>?_⟩;obtain⟨v,hv,rv⟩:=rs.get hd;refine⟨⟨xs,v,hq.sq,hv⟩,fun y H' hy=>?_⟩;obtain⟨e,hy⟩:=hy;have:=hy xs hq.sq;rw[hv]at this;cases this;exact⟨e,rv⟩
theorem sk{a:Addr}:Over K (Pl K a) (.ref a) (.tuple ds) ds:=by
 intro i H Av r;obtain⟨b,xs,e,hq,rs⟩:=r.fM;cases e;refine⟨fun h=>⟨xs,hq.sq,by rw[rs.length];exact h⟩,fun di hd=>?_⟩;obtain⟨v,hv,rv⟩:=rs.get hd;refine⟨⟨xs,v,hq.sq,hv⟩,fun y H' hy=>?_⟩;obtain⟨e,hy⟩:=hy;have:=hy xs hq.sq;rw[hv]at this;cases this;exact⟨e,rv⟩
theorem drop_cons{l:List α}{a:α}(h:l[i]?=some a):l.drop i=a::l.drop (i+1):=by
 obtain⟨hl,e⟩:=List.getElem?_eq_some_iff.mp h;rw[List.drop_eq_getElem_cons hl,e]
def forL (gt:Dat->Option cX) (gb:aD->Option Fl):List Dat->aD->Option Fl
 |[],Γ=>some (.nx Γ)
 |d::r,Γ=>(gt d).bind fun as=>(gb (setG Γ as)).bind fun fl=>match fl with
  | .nx ag=>forL gt gb r ag
  | .ct ag=>forL gt gb r ag
  | .bk ag=>some (.nx ag)
  | .rt v=>some (.rt v)
  | .rm v ag=>some (.rm v ag)
def pR (gt:Dat->Option cX) (gb:aD->Option Fl) (f:aw->Option Dat):aD->Option Fl:=fun Γ=>(f (bw Γ)).bind fun d=>(cW d).bind fun ds=>forL gt gb ds Γ
variable {gt:Dat->Option cX} {gb:aD->Option Fl} {J:It}
theorem qr{D:Ends}{x:V}{σ:L2.St}{H1:Hp}{fl:Fl}(ov:Over K J x d ds)(G:l6 K aj Av pn ((x,d)::aH) H1 σ Γ)(hf:forL gt gb ds Γ=some fl)(q:Iq K aj Av pn aH D fl):
  ∃W:Nat->Nat->L2.St->Hp->Prop,(∃m,W 0 m σ H1)/\∀i m σ H,W i m σ H->
   (J.stop i H/\D.nx σ H)\/(J.go i H/\∃N:L2.St->Hp->Prop,(∀bC H',N bC H'->∃m',m'<m/\W (i+1) m' bC H')/\∀x H',J.vS i H x H'->k9 K gt x σ H' fun fS H2=>xU K gb {D with nx:=N,ct:=N,bk:=D.nx} fS H2):=by
 refine⟨fun i m σ H=>m=ds.length-i/\i<=ds.length/\∃Γ,l6 K aj Av pn ((x,d)::aH) H σ Γ/\forL gt gb (ds.drop i) Γ=some fl,⟨_,rfl,zero_le _,Γ,G,by rw[drop_zero];exact hf⟩,?_⟩;rintro i m σ H ⟨rfl,hi,Γ,⟨ad,G⟩,hf⟩;have rx:=G.aH (x,d) mem_cons_self;cases iq:ds[i]? with
 |none=>
  have hl:ds.length<=i:=List.getElem?_eq_none_iff.mp iq;rw[drop_eq_nil_of_le hl]at hf;cases hf;exact .inl ⟨(ov i H _ rx).1 hl,q σ H ⟨ad,G.pI⟩⟩
 |some di=>
  have fu:=fI iq;rw[drop_cons iq]at hf;obtain⟨as,e1,hf⟩:=bind_some (show(gt di).bind _=some fl from hf);obtain⟨qt,e2,hf⟩:=bind_some hf;obtain⟨go,yl⟩:=(ov i H _ rx).2 di iq;refine .inr ⟨go,fun bC H'=>∃ag,l6 K aj Av pn ((x,d)::aH) H' bC ag/\forL gt gb (ds.drop (i+1)) ag=some fl,fun bC H' ⟨ag,G',h'⟩=>⟨ds.length-(i+1),by omega,rfl,by omega,ag,G',h'⟩,fun y H' hy=>?_⟩;obtain⟨eH,ry⟩:=yl y H' hy;subst eH;refine⟨aS Av Γ ad,di,as,ry,e1,fun ws hw=>⟨aj,Av,pn,(x,d)::aH,setG Γ as,qt,⟨ad,GA.j6 hw (fun _ z=>z) G⟩,e2,?_⟩⟩;cases qt with
  |nx ag=>exact fun fS H2 G2=>⟨ag,G2,hf⟩
  |ct ag=>exact fun fS H2 G2=>⟨ag,G2,hf⟩
  |bk ag=>cases hf;exact fun fS H2 ⟨pA,G2⟩=>q fS H2 ⟨pA,G2.pI⟩
  |rt v=>cases hf;exact q
  |rm v ag=>cases hf;exact fun fS v2 H2 pA G2 r2=>q fS v2 H2 pA G2.pI r2
def gm (lo:Int) (n:Nat):List Dat:=(List.range n).map fun(i:Nat)=>Dat.int (lo+(i:Int))
theorem sd{lo:Int}{di:Dat}(h:(gm lo n)[i]?=some di):i<n/\di=.int (lo+(i:Int)):=by
 unfold gm at h;rw[getElem?_map]at h;cases e:(List.range n)[i]? with
 |none=>rw[e]at h;cases h
 |some k=>
  rw[e]at h;cases h;obtain⟨hl,e2⟩:=List.getElem?_eq_some_iff.mp e;rw[length_range]at hl;rw[List.getElem_range]at e2;subst e2;exact⟨hl,rfl⟩
theorem tV{lo:Int}:Over K (Kw lo n) .bM .none (gm lo n):=by
 intro i H Av _;refine⟨fun h=>?_,fun di hd=>?_⟩
 ·have:(gm lo n).length=n:=by unfold gm;rw[length_map,length_range]
  show n<=i;omega
 ·obtain⟨hl,e⟩:=sd hd;refine⟨hl,fun y H' hy=>?_⟩;obtain⟨e1,e2⟩:=hy;subst e2;rw[e];exact⟨e1,.int _⟩
def jS:List Dat->Option (List Dat)
 |[.int j]=>if -(2^62)<=j/\j<2^62 then some (gm 0 j.toNat)else none
 |_=>none
variable {fs:aw->Option (List Dat)} in
def xC (rg:List Dat->Option (List Dat)) (gt:Dat->Option cX) (gb:aD->Option Fl) (fs:aw->Option (List Dat)):aD->Option Fl:=fun Γ=>(fs (bU Γ)).bind fun as=>(rg as).bind fun ds=>forL gt gb ds Γ
theorem ax.eM(h:ax K H Av vs [d]):∃v,vs=[v]/\aK K H Av v d:=by
 cases h with|cons a r=>cases r;exact⟨_,rfl,a⟩
variable {e:Dat}
theorem ax.fz(h:ax K H Av vs [d,e]):∃v u,vs=[v,u]/\aK K H Av v d/\aK K H Av u e:=by
 cases h with|cons a r=>obtain⟨u,rfl,b⟩:=r.eM;exact⟨_,u,rfl,a,b⟩
def dM (ft:aw->Option Bool) (gb:aD->Option Fl):Nat->aD->Option Fl
 |0,_=>none
 |n+1,Γ=>(ft (bU Γ)).bind fun c=>if c=true then(gb Γ).bind fun fl=>match fl with
   | .nx ag=>dM ft gb n ag
   | .ct ag=>dM ft gb n ag
   | .bk ag=>some (.nx ag)
   | .rt v=>some (.rt v)
   | .rm v ag=>some (.rm v ag)
  else some (.nx Γ)
def lV (fuel:aD->Nat) (ft:aw->Option Bool) (gb:aD->Option Fl):aD->Option Fl:=fun Γ=>dM ft gb (fuel Γ) Γ
def jN (K:Fg) (f:aw->Option (List Dat)):TE:=fun σ H Q=>∃Av ρ ds,gK H Av/\fj K H Av σ ρ/\f ρ=some ds/\∀H1 p xs,aW H H1->H1 p=none->ax K H1 Av xs ds->Q (.ref p) (upd H1 p (.lst xs))
def gd {α:Type} (c:Prop) [Decidable c] (o:Option α):Option α:=if c then o else none
theorem BM{c:Prop}[Decidable c]{o:Option α}{a:α}(h:gd c o=some a):c/\o=some a:=by
 unfold gd at h;split at h
 ·rename_i hc;exact⟨hc,h⟩
 ·cases h
variable {fs:aw->Option (List Dat)} in
def mZ (fs:aw->Option (List Dat)):aw->Option (List Dat):=fun ρ=>(fs ρ).bind fun ds=>gd (ds.length<=sizeLine) (some ds)
def rZ (i:Nat) (f:aw->Option (List Dat)):aD->Option Fl:=fun Γ=>(f (bw Γ)).map fun ds=>.nx (Γ.set i (some (.own ds)))
def pT (i:Nat) (f:aw->Option Dat):aD->Option Fl:=fun Γ=>match Γ[i]? with
 |some (some (.own ds))=>(f (bw Γ)).bind fun d=>gd (ds.length<sizeLine) (some (.nx (Γ.set i (some (.own (ds++[d]))))))
 |_=>none
def cF (N:List Str) (ds:List Dat):aD:=ds.map (fun d=>some (.a7 d))++List.replicate (N.length-ds.length) none
def iW (N:List Str) (g:aD->Option Fl):List Dat->Option Dat:=fun ds=>match g (cF N ds)with
 |some (.rt d)=>some d
 |some (.nx _)=>some .none
 |_=>none
variable {N:List Str}
theorem sP(hA:gK H Av)(r:ax K H Av vs ds)(hl:ds.length<=N.length):l6 K H Av none [] H (start N vs) (cF N ds):=by
 have oI:∀(i:Nat) (s:Slot),(cF N ds)[i]?=some (some s)->s.mt=false:=fun i s h=>by
  unfold cF at h;by_cases hi:i<ds.length
  ·rw[getElem?_append_left (by rw[length_map];exact hi),getElem?_map,getElem?_eq_getElem hi]at h;cases h;rfl
  ·rw[getElem?_append_right (by rw[length_map];omega),getElem?_replicate]at h;split at h<;>cases h
 refine⟨fun _=>0,aW.refl H,hA,?_,fun i d h=>?_,fun i es h=>absurd (oI i _ h) (by simp[Slot.mt]),fun i j s _ h _ m=>absurd (oI i s h) (by rw[m];decide),fun p hp=>absurd hp (by simp),fun a es e=>(by cases e),fun i O es h=>absurd (oI i _ h) (by simp[Slot.mt])⟩
 ·unfold L2.start cF;rw[length_append,length_append,length_map,length_map,length_replicate,length_replicate,r.length]
 ·unfold cF at h;by_cases hi:i<ds.length
  ·rw[getElem?_append_left (by rw[length_map];exact hi),getElem?_map,getElem?_eq_getElem hi]at h;cases h;obtain⟨v,hv,rv⟩:=r.get (getElem?_eq_getElem hi);refine⟨v,?_,rv.weak ?_⟩
   ·unfold L2.start;rw[getElem?_append_left (by rw[length_map,r.length];exact hi),getElem?_map,hv];rfl
   ·rintro a (z|⟨j,s,e,m,_⟩)
    ·exact z
    ·exact absurd (oI j s e) (by rw[m];decide)
  ·rw[getElem?_append_right (by rw[length_map];omega),getElem?_replicate]at h;split at h<;>cases h
variable {qual:Str} {fa:Addr} {fd:FuncData}
theorem QJ{k:Nat}(U:mH K x qual st fa fd)(hm:mg x=some (.ref fa))(hB:Binds K fd ps [])(S:fR N ps (aU st))(hn:ps.length=n)(hbody:∀(bA:Value) (A:Around) (outer:List Env) (s:Shared) (H:Hp) (E:XK),cv k (A.deeper (envOfC qual (aU st) s.heap.objs.size fa bA))->Pg (jv iV P w K mg base N qual (aU st) fa bA A outer s H E).nV (cT st) g)(hF:∀ds d,ds.length=n->F ds=some d->iW N g ds=some d):Dn P w K mg base (k+1) x ps n F:=by
 have ey:ps.length<=N.length:=by have:=congrArg List.length S.pre;rw[length_take]at this;omega
 refine⟨fa,fd,U.ok S (fun vs H Q E h=>?_) (fun bA A outer s H vs Q E hr h=>?_),hm,U.kp,hB⟩
 ·obtain⟨Av,ds,d,_,r,hl,_⟩:=h;rw[r.length,hl,hn]
 ·obtain⟨Av,ds,d,hA,r,hl,hd,q⟩:=h;have dF:=hF ds d hl hd;unfold iW at dF;refine⟨_,hbody bA A outer s H E hr,?_⟩;cases hg:g (cF N ds)with
  |none=>rw[hg]at dF;cases dF
  |some fl=>
   refine⟨H,Av,none,[],cF N ds,fl,sP hA r (by omega),hg,?_⟩;rw[hg]at dF;cases fl with
   |nx Γ=>cases dF;exact fun bC H' ⟨ad,G⟩=>q _ H' G.same .bM
   |rt d'=>cases dF;exact fun v H' s r=>q v H' s r
   |bk Γ=>cases dF
   |ct Γ=>cases dF
   |rm d' Γ=>cases dF
open PySem PySem.Spec PyProof.Rows L2
open PySem.W (Dat kqdOk kqdP kqdPs kqd_lay kqd_eqv)
def kz (d e:Dat):Bool:=@decide (d=e) (Classical.propDecidable _)
theorem zK:kz d e=true↔d=e:=@decide_eq_true_iff _ (Classical.propDecidable _)
theorem mz(h:d=e):kz d e=true:=zK.mpr h
theorem kU(h:d≠e):kz d e=false:=eq_false_iff.mpr fun z=>h (zK.mp z)
def iD (C:Int->Int->Prop) (g:Int->Int->Dat):Dat->Dat->Option Dat:=open Classical in fun x y=>match x,y with
 | .int i,.int j=>if C i j then some (g i j)else none
 |_,_=>none
variable {C:Int->Int->Prop}
theorem iQ{g:Int->Int->Dat}{i j:Int}(h:C i j):iD C g (.int i) (.int j)=some (g i j):=by
 unfold iD;exact if_pos h
theorem F9{g:Int->Int->Dat}{x y:Dat}(h:iD C g x y=some d):∃i j,x=.int i/\y=.int j/\C i j/\d=g i j:=by
 unfold iD at h;split at h
 ·split at h
  ·rename_i i j hc;cases h;exact⟨i,j,rfl,rfl,hc,rfl⟩
  ·cases h
 ·cases h
theorem oH{g:Int->Int->Int}:nh K (rI C fun i j=>.int (g i j)) (iD C fun i j=>.int (g i j)):=by
 intro H Av x y dx dy d Q hA rx ry h q;obtain⟨i,j,rfl,rfl,hc,rfl⟩:=F9 h;exact⟨i,j,rx.cY,ry.cY,hc,q _ H (aW.refl H) (.int _)⟩
theorem qW{g:Int->Int->Bool}:nh K (wc fun i j=>.bl (g i j)) (iD (fun _ _=>True) fun i j=>.bool (g i j)):=by
 intro H Av x y dx dy d Q hA rx ry h q;obtain⟨i,j,rfl,rfl,hc,rfl⟩:=F9 h;exact⟨i,j,rx.cY,ry.cY,q _ H (aW.refl H) (.bl _)⟩
def kA:Dat->Dat->Option Dat
 | .int i,.int j=>some (.int (i+j))
 | .str x,.str y=>if x.length+y.length<=sizeLine then some (.str (x++y))else none
 |_,_=>none
def Px (_ _:Int):Prop:=True
def Kz (_ j:Int):Prop:=j≠0
theorem Bg:eC X (binaryOp .Sub) (rI Px fun i j=>.int (i-j)):=JE fun _ _ _ _ _ _ _ _ q=>sub_int q
theorem Bh:eC X (binaryOp .Mult) (rI IntMulOk fun i j=>.int (i*j)):=JE fun _ _ _ _ _ _ _ hc q=>mul_int q hc
theorem HB:eC X (binaryOp .Mod) (rI Kz fun i j=>.int (i.fmod j)):=JE fun _ _ _ _ _ _ _ hc q=>mod_int' hc q
abbrev xX:Dat->Dat->Option Dat:=iD Px fun i j=>.int (i-j)
abbrev jr:Dat->Dat->Option Dat:=iD IntMulOk fun i j=>.int (i*j)
abbrev vg:Dat->Dat->Option Dat:=iD Kz fun i j=>.int (i.fmod j)
abbrev CI:Dat->Dat->Option Dat:=iD Ae fun i j=>.int (i^j.toNat)
abbrev EZ:Dat->Dat->Option Dat:=iD (fun _ _=>True) fun i j=>.bool (decide (i<j))
abbrev Rv:Dat->Dat->Option Dat:=iD (fun _ _=>True) fun i j=>.bool (decide (i<=j))
abbrev FP:Dat->Dat->Option Dat:=iD (fun _ _=>True) fun i j=>.bool (decide (j<i))
abbrev S8:Dat->Dat->Option Dat:=iD (fun _ _=>True) fun i j=>.bool (decide (j<=i))
def nC:Dat->Option Dat
 | .int i=>some (.int (-i))
 |_=>none
mutual
theorem aK.reads{pins:List (Addr×Obj)}{σ:L2.St}{H:Hp}{s:Shared}{Av:fP}(I:Inv X pins σ H s):∀{v:V} {d:Dat} (n:Nat),aK X.K H Av v d->kqdOk n d=true->∀u,RelV v u->∃as,Reads s.heap u (kqdP d) as
 |_,_,n,.bM,_,u,r=>by cases(show u=Value.none from r);rw[kqdP];exact⟨_,.none⟩
 |_,_,n,.bl b,_,u,r=>by cases(show u=Value.bool b from r);rw[kqdP];exact⟨_,.bool b⟩
 |_,_,n,.int i,_,u,r=>by obtain⟨t,q⟩:=(show ∃t,u=Value.int i t from r);subst q;rw[kqdP];exact⟨_,.int i t⟩
 |_,_,n,.str x,_,u,r=>by obtain⟨t,q⟩:=(show ∃t,u=Value.str x t from r);subst q;rw[kqdP];exact⟨_,.str x t⟩
 |_,_,0,.tup _ _,hk,_,_=>by simp[kqdOk]at hk
 |_,_,0,.lst _ _,hk,_,_=>by simp[kqdOk]at hk
 |_,_,n+1,.tup (a:=a) hq rs,hk,u,r=>by
  cases(show u=Value.ref a from r);obtain⟨ak,rv,⟨o,h1,h2,m,h3⟩,_⟩:=I.tuple hq.sq;obtain⟨as,q⟩:=ax.reads I n rs (by simpa [kqdOk]using hk) ak rv;rw[kqdP];exact⟨as,.tuple h1 h2 h3 (by simpa using q)⟩
 |_,_,n+1,.lst (a:=a) hq rs,hk,u,r=>by
  cases(show u=Value.ref a from r);obtain⟨ak,rv,⟨o,m,h1,h2,_,h3⟩,_⟩:=I.list hq.sq;obtain⟨as,q⟩:=ax.reads I n rs (by simpa [kqdOk]using hk) ak rv;rw[kqdP];exact⟨_,.list h1 h2 h3 (by simpa using q)⟩
theorem ax.reads {pins:List (Addr×Obj)} {σ:L2.St} {H:Hp} {s:Shared} {Av:fP} (I:Inv X pins σ H s):∀{vs:List V} {ds:List Dat} (n:Nat),ax X.K H Av vs ds->(∀d∈ds,kqdOk n d=true)->∀us,Vals vs us->∃as,ReadsAll s.heap us (kqdPs ds) as
 |_,_,n,.nil,_,us,r=>by cases r;rw[kqdPs];exact⟨_,.nil⟩
 |_,_,n,.cons h t,hk,us,r=>by
  cases r with
  |cons r1 r2=>
   obtain⟨as,q⟩:=aK.reads I n h (hk _ (.head _)) _ r1;obtain⟨bs,p⟩:=ax.reads I n t (fun d hm=>hk d (.tail _ hm)) _ r2;rw[kqdPs];exact⟨_,.cons q p⟩
end
theorem vw(d e:Dat)(h1:kqdOk 9 d=true)(h2:kqdOk 9 e=true):PyData.eqv (kqdP d) (kqdP e)=(kz d e):=by
 have q:=kqd_eqv 9 d e 9 h1 h2;by_cases hq:d=e
 ·rw[mz hq];exact q.mpr hq
 ·rw[kU hq];exact eq_false_iff.mpr fun x=>hq (q.mp x)
theorem mP(d:Dat)(h:kqdOk 9 d=true):SeqAt.shaped (kqdP d)=true:=by
 have l:=kqd_lay 9 d h;unfold SeqAt.shaped;rw[l.1,Bool.true_and];exact decide_eq_true (le_trans l.2 (by decide))
variable {e:Expr}
def N1 (K:Fg):R2:=fun x y H Q=>∃Av d e,aK K H Av x d/\aK K H Av y e/\kqdOk 9 d=true/\kqdOk 9 e=true/\Q (.bl (kz d e)) H
def MY (K:Fg):R2:=fun x y H Q=>∃Av d e,aK K H Av x d/\aK K H Av y e/\kqdOk 9 d=true/\kqdOk 9 e=true/\Q (.bl (!(kz d e))) H
theorem EL(hu:X.A.units+64<cLine):eC X (compareOp .Eq) (N1 X.K):=by
 intro pins s σ H x y v u Q I rx ry h;obtain⟨Av,d,e,r1,r2,k1,k2,q⟩:=h;obtain⟨as,ra⟩:=r1.reads I 9 k1 v rx;obtain⟨bs,rb⟩:=r2.reads I 9 k2 u ry;exact eq_dataH ra rb (mP d k1) (mP e k2) hu ⟨.bl _,H,I,by rw[vw d e k1 k2];rfl,q⟩
theorem EH(hu:X.A.units+64<cLine):eC X (compareOp .NotEq) (MY X.K):=by
 intro pins s σ H x y v u Q I rx ry h;obtain⟨Av,d,e,r1,r2,k1,k2,q⟩:=h;obtain⟨as,ra⟩:=r1.reads I 9 k1 v rx;obtain⟨bs,rb⟩:=r2.reads I 9 k2 u ry;exact ne_dataH ra rb (mP d k1) (mP e k2) hu ⟨.bl _,H,I,by rw[vw d e k1 k2];rfl,q⟩
def eqB:Dat->Dat->Option Bool:=open Classical in fun x y=>match x,y with
 | .bool a,.bool b=>some (a==b)
 | .str a,.str b=>some (decide (a=b))
 |d,e=>if kqdOk 9 d=true/\kqdOk 9 e=true then some (kz d e)else none
def cZ:Dat->Dat->Option Dat:=fun x y=>(eqB x y).map .bool
def fF:Dat->Dat->Option Dat:=fun x y=>(eqB x y).map fun k=>.bool (!k)
theorem wX{x y:Dat}{k:Bool}(h:eqB x y=some k):(∃a b,x=.bool a/\y=.bool b/\k=(a==b))\/(∃a b,x=.str a/\y=.str b/\k=decide (a=b))\/(kqdOk 9 x=true/\kqdOk 9 y=true/\k=(kz x y)):=by
 unfold eqB at h;split at h
 ·cases h;exact .inl ⟨_,_,rfl,rfl,rfl⟩
 ·cases h;exact .inr (.inl ⟨_,_,rfl,rfl,by congr⟩)
 ·split at h
  ·rename_i hk;cases h;exact .inr (.inr ⟨hk.1,hk.2,rfl⟩)
  ·cases h
theorem EN:nh K (fun x y H Q=>Rh x y H Q\/N1 K x y H Q) cZ:=by
 intro H Av x y dx dy d Q hA rx ry h q;obtain⟨k,e1,rfl⟩:=bg h;rcases wX e1 with⟨a,b,rfl,rfl,rfl⟩|⟨a,b,rfl,rfl,rfl⟩|⟨k1,k2,rfl⟩
 ·rw[rx.lE,ry.lE];exact .inl ⟨rfl,by rw[uv];exact q _ H (aW.refl H) (.bl _)⟩
 ·rw[rx.ig,ry.ig];exact .inl ⟨rfl,by
   have:decide (V.str a=V.str b)=decide (a=b):=by simp
   rw[this];exact q _ H (aW.refl H) (.bl _)⟩
 ·exact .inr ⟨Av,dx,dy,rx,ry,k1,k2,q _ H (aW.refl H) (.bl _)⟩
theorem EM:nh K (fun x y H Q=>Rf x y H Q\/MY K x y H Q) fF:=by
 intro H Av x y dx dy d Q hA rx ry h q;obtain⟨k,e1,rfl⟩:=bg h;rcases wX e1 with⟨a,b,rfl,rfl,rfl⟩|⟨a,b,rfl,rfl,rfl⟩|⟨k1,k2,rfl⟩
 ·rw[rx.lE,ry.lE];exact .inl ⟨rfl,by rw[uv];exact q _ H (aW.refl H) (.bl _)⟩
 ·rw[rx.ig,ry.ig];exact .inl ⟨rfl,by
   have:decide (V.str a=V.str b)=decide (a=b):=by simp
   rw[this];exact q _ H (aW.refl H) (.bl _)⟩
 ·exact .inr ⟨Av,dx,dy,rx,ry,k1,k2,q _ H (aW.refl H) (.bl _)⟩
def Du:List Dat->Option Dat
 |[.int i]=>some (.int (if i<0 then -i else i))
 |_=>none
theorem GD:nq K (fun xs H Q=>∃i,xs=[.int i]/\Q (.int (if i<0 then -i else i)) H) Du:=by
 intro H Av xs ds d Q hA r h q;unfold Du at h;split at h
 ·cases h;obtain⟨v,rfl,rv⟩:=r.eM;rw[rv.cY];exact⟨_,rfl,q _ H (aW.refl H) (.int _)⟩
 ·cases h
def ib:List Dat->Option Dat
 |[.str z]=>if z.length<=sizeLine then some (.int z.length)else none
 |[.list ds]=>some (.int ds.length)
 |[.tuple ds]=>some (.int ds.length)
 |_=>none
theorem GC:nq K (fun xs H Q=>∃x n,xs=[x]/\Pk K x H n/\Q (.int n) H) ib:=by
 intro H Av xs ds d Q hA r h q;unfold ib at h;split at h
 ·split at h
  ·rename_i hz;cases h;obtain⟨v,rfl,rv⟩:=r.eM;rw[rv.ig];exact⟨_,_,rfl,⟨hz,rfl⟩,q _ H (aW.refl H) (.int _)⟩
  ·cases h
 ·cases h;obtain⟨v,rfl,rv⟩:=r.eM;obtain⟨a,ys,rfl,hq,rs⟩:=rv.fY;exact⟨_,_,rfl,.inl ⟨ys,hq.sq,rfl⟩,by rw[rs.length];exact q _ H (aW.refl H) (.int _)⟩
 ·cases h;obtain⟨v,rfl,rv⟩:=r.eM;obtain⟨a,ys,rfl,hq,rs⟩:=rv.fM;exact⟨_,_,rfl,.inr ⟨ys,hq.sq,rfl⟩,by rw[rs.length];exact q _ H (aW.refl H) (.int _)⟩
 ·cases h
def Mz:Dat->Option String
 | .none=>some "NoneType"| .bool _=>some "bool"| .int _=>some "int"| .str _=>some "str"| .tuple _=>some "tuple"| .list _=>some "list"
 | .bytes _=>none
theorem lK(K:Fg)(t T:String)(ht:t∈["NoneType","bool","int","str","tuple","list"])(hT:T∈["bool","int","str","tuple","list"]):PySem.W.kitOne K (.type t) (.type T)=some (decide (t=T) || (decide (t="bool")&&decide (T="int"))):=by
 simp only[mem_cons,not_mem_nil,or_false]at ht hT;rcases ht with rfl|rfl|rfl|rfl|rfl|rfl<;>rcases hT with rfl|rfl|rfl|rfl|rfl<;>rfl
def gD (T:String):Dat->Option Dat:=fun d=>(Mz d).bind fun t=>if T∈["bool","int","str","tuple","list"]then some (.bool (decide (t=T) || (decide (t="bool")&&decide (T="int"))))else none
theorem Ak(T:String):k8 X (.builtin "isinstance") (fun xs H Q=>∃Av x d dd,xs=[x,.ty T]/\aK X.K H Av x d/\gD T d=some (.bool dd)/\Q (.bl dd) H):=by
 intro pins s σ H xs us Q I r h;obtain⟨Av,x,d,dd,rfl,rd,hi,q⟩:=h;obtain⟨u,t,rfl,ru,rt⟩:=vals2 r;cases(show t=Value.type T from rt);obtain⟨ty,e1,hi⟩:=bind_some (show(Mz d).bind _=some (Dat.bool dd)from hi);split at hi
 ·rename_i hT;have gP:=(Option.some.inj hi).symm;injection gP with vm;have fin:∀tk,EP X pins σ Q (.bool dd) {s with toks:=tk}:=fun tk=>⟨.bl dd,H,I.tok tk,rfl,q⟩;cases rd with
  |bM=>cases e1;cases(show u=Value.none from ru);exact kia_one PySem.W.kitx_none I.p7 True.intro (by rw[lK _ _ _ (by simp) hT,vm]) (fun z=>nomatch z) fin
  |bl y=>cases e1;cases(show u=Value.bool y from ru);exact kia_one PySem.W.kitx_bool I.p7 True.intro (by rw[lK _ _ _ (by simp) hT,vm]) (fun z=>nomatch z) fin
  |int i=>cases e1;obtain⟨t,z⟩:=(show ∃t,u=Value.int i t from ru);cases z;exact kia_one PySem.W.kitx_int I.p7 True.intro (by rw[lK _ _ _ (by simp) hT,vm]) (fun z=>nomatch z) fin
  |str y=>cases e1;obtain⟨t,z⟩:=(show ∃t,u=Value.str y t from ru);cases z;exact kia_one PySem.W.kitx_str I.p7 True.intro (by rw[lK _ _ _ (by simp) hT,vm]) (fun z=>nomatch z) fin
  | @lst a xs ds hq rs=>
   cases e1;cases(show u=Value.ref a from ru);obtain⟨ak,_,⟨o,m,h1,h2,_⟩,_⟩:=I.list hq.sq;exact kia_one PySem.W.kitx_list I.p7 ⟨o,h1,h2⟩ (by rw[lK _ _ _ (by simp) hT,vm]) (fun z=>nomatch z) fin
  | @tup a xs ds hq rs=>
   cases e1;cases(show u=Value.ref a from ru);obtain⟨ak,_,⟨o,h1,h2,_⟩,_⟩:=I.tuple hq.sq;exact kia_one PySem.W.kitx_tuple I.p7 ⟨o,h1,h2⟩ (by rw[lK _ _ _ (by simp) hT,vm]) (fun z=>nomatch z) fin
 ·cases hi
theorem HS{r:Dat}(h:gD T d=some r):∃k,r=.bool k:=by
 obtain⟨t,e1,h⟩:=bind_some (show(Mz d).bind _=some r from h);split at h
 ·cases h;exact⟨_,rfl⟩
 ·cases h
def bp:Dat->Dat->Option Dat:=fun x y=>match x,y with
 | .list ds,.int i=>fK ds i
 | .tuple ds,.int i=>fK ds i
 |_,_=>none
theorem ax.fK{i:Int}(r:ax K H Av vs ds)(h:L2.fK ds i=some d):∃v,L2.fK vs i=some v/\aK K H Av v d:=by
 unfold L2.fK at h ⊢;rw[r.length];obtain⟨j,e1,h⟩:=bind_some h;obtain⟨v,hv,rv⟩:=r.get h;exact⟨v,by rw[e1];exact hv,rv⟩
def cutD (ds:List Dat) (lo hi:Option Int):List Dat:=(ds.drop (HT.bX ds.length 0 lo)).take (HT.bX ds.length ds.length hi-HT.bX ds.length 0 lo)
def R7 (K:Fg) (f:aw->Option (Option Int)):TO:=fun σ H Q=>∃Av ρ o,gK H Av/\fj K H Av σ ρ/\f ρ=some o/\∀H',aW H H'->Q o H'
abbrev SF (X:Cx) (e:Option Expr) (f:aw->Option (Option Int)):Prop:=PO X e (R7 X.K f)
theorem Bc{o:Option Expr}{t t':TO}(h:PO X o t)(m:∀σ H Q,t' σ H Q->t σ H Q):PO X o t':=fun pins s σ H Q I q=>h pins s σ H Q I (m σ H Q q)
def nc:Dat->Option Int
 | .int i=>some i
 |_=>none
theorem zV{b:Int}(h:nc d=some b):d=.int b:=by
 cases d<;>first|(cases h;done)|(simp only[nc,Option.some.injEq]at h;rw[h])
def kG:aw->Option (Option Int):=fun _=>some none
def kE (f:aw->Option Dat):aw->Option (Option Int):=fun ρ=>(f ρ).bind fun d=>(nc d).map some
def fJ (aX:List (Option Nat)) (ρ:aw):aw:=aX.map fun o=>o.bind fun j=>(ρ[j]?).join
def cc (gt:Dat->Option cX) (ft:aw->Option Bool) (fe:aw->Option Dat) (pG:aw):List Dat->Option (List Dat)
 |[]=>some []
 |d::r=>(gt d).bind fun as=>(ft (ko pG as)).bind fun c=>if c=true then(fe (ko pG as)).bind fun v=>(cc gt ft fe pG r).map (v::·)else cc gt ft fe pG r
def n6 (aX:List (Option Nat)) (gt:Dat->Option cX) (ft:aw->Option Bool) (fe:aw->Option Dat) (fi:aw->Option Dat):aw->Option (List Dat):=fun ρ=>(fi ρ).bind fun d=>(cW d).bind fun ds=>if ds.length<sizeLine then cc gt ft fe (fJ aX ρ) ds else none
theorem fj.aX{σ:L2.St}(h:fj K H Av σ ρ)(aX:List (Option Nat)):fj K H Av (cB aX σ) (fJ aX ρ):=fun i d e=>by
 unfold fJ at e;rw[getElem?_map]at e;cases hc:aX[i]? with
 |none=>rw[hc]at e;cases e
 |some o=>
  rw[hc]at e;cases o with
  |none=>cases e
  |some j=>
   have e2:some ((ρ[j]?).join)=some (some d):=e;obtain⟨v,hv,r⟩:=h j d (join_some (Option.some.inj e2));refine⟨v,?_,r⟩;unfold cB;rw[getElem?_map,hc];show some ((σ[j]?).join)=_;rw[hv];rfl
theorem fj.j6{σ:L2.St}(h:k0 K H Av ws as)(hl:σ.length=ρ.length)(E:fj K H Av σ ρ):fj K H Av (oA σ ws) (ko ρ as):=by
 induction h generalizing σ ρ with
 |nil=>exact E
 | @cons i v d vs ds h r ih=>
  refine ih (σ:=σ.set i (some v)) (ρ:=ρ.set i (some d)) (by rw[length_set,length_set];exact hl) fun j d' e=>?_;have fu:=fI e;rw[length_set]at fu;rcases aQ e with⟨e1,q⟩|⟨e1,q⟩
  ·subst e1;cases q;exact⟨v,getElem?_set_self (by rw[hl];exact fu),h⟩
  ·obtain⟨u,a,b⟩:=E j d' q;exact⟨u,by rw[getElem?_set_ne (Ne.symm e1)];exact a,b⟩
theorem eV.refl:∀(a:L2.St),eV a a
 |[]=>trivial
 |none::a=>eV.refl a
 |some v::a=>⟨rfl,eV.refl a⟩
theorem eV.set:∀{a b:L2.St} {i:Nat} {x:Option V},eV a b->a[i]?=some none->eV a (b.set i x)
 |none::a,_::b,0,x,h,_=>h
 |some v::a,_::b,0,x,h,e=>by simp at e
 |none::a,_::b,i+1,x,h,e=>eV.set (a:=a) (b:=b) (i:=i) h (by simpa using e)
 |some v::a,_::b,i+1,x,h,e=>⟨h.1,eV.set (a:=a) (b:=b) (i:=i) h.2 (by simpa using e)⟩
 |[],_,_,_,_,e=>by simp at e
 |none::_,[],_,_,h,_=>h.elim
 |some _::_,[],_,_,h,_=>h.elim
theorem eV.j6{a b:L2.St}(h:k0 K H Av ws as)(hs:∀p∈as,a[p.1]?=some none)(l:eV a b):eV a (oA b ws):=by
 induction h generalizing b with
 |nil=>exact l
 | @cons i v d vs ds h r ih=>exact ih (fun p hp=>hs p (mem_cons_of_mem _ hp)) (eV.set l (hs _ mem_cons_self))
def nJ (gt:Dat->Option cX) (aX:List (Option Nat)):Prop:=∀d as,gt d=some as->∀p∈as,aX[p.1]?=some none
theorem dA{aX:List (Option Nat)}(h:aX[i]?=some none):nJ (aName i) aX:=fun d as e p hp=>by
 cases e;have:p=(i,d):=by simpa using hp
 subst this;exact h
theorem AR{aX:List (Option Nat)}{fe fi:aw->Option Dat}(ht:nJ gt aX):∀σ H Q,jN K (n6 aX gt ft fe fi) σ H Q->tv aX (NT K (tF K fi)) (k9 K gt) (mM K ft) (tF K fe) σ H Q:=by
 rintro σ H Q ⟨Av,ρ,out,hA,hE,hf,q⟩;obtain⟨d,e1,hf⟩:=bind_some hf;obtain⟨ds,e2,hf⟩:=bind_some hf;split at hf
 ·rename_i hz;refine⟨Av,ρ,d,hA,hE,e1,fun x H1 s1 r=>?_⟩;have main:∀J:It,Over K J x d ds->∃W:Nat->Nat->List V->Hp->Prop,(∃m,W 0 m [] H1)/\∀i m ys H,W i m ys H->ys.length<sizeLine/\
    ((J.stop i H/\∀D,H D=none->Q (.ref D) (upd H D (.lst ys)))\/
     (J.go i H/\∀x H',J.vS i H x H'->k9 K gt x (cB aX σ) H' fun fS H2=>eV (cB aX σ) fS/\mM K ft fS H2 fun b H3=>if b=true then tF K fe fS H3 fun v H4=>∃m',m'<m/\W (i+1) m' (ys++[v]) H4 else ∃m',m'<m/\W (i+1) m' ys H3)):=by
   intro J ov;refine⟨fun i m ys H2=>m=ds.length-i/\i<=ds.length/\aW H1 H2/\∃o1 o2,ax K H2 Av ys o1/\o1.length<=i/\cc gt ft fe (fJ aX ρ) (ds.drop i)=some o2/\out=o1++o2,
    ⟨_,rfl,zero_le _,aW.refl _,[],out,.nil,le_refl _,by rw[drop_zero];exact hf,rfl⟩,?_⟩
   rintro i m ys H2 ⟨rfl,hi,s2,o1,o2,ro,hl,hc,rfl⟩;refine⟨by have:=ro.length;omega,?_⟩;have rx:=r.same s2;cases iq:ds[i]? with
   |none=>
    have hle:ds.length<=i:=List.getElem?_eq_none_iff.mp iq;rw[drop_eq_nil_of_le hle]at hc;cases hc;refine .inl ⟨(ov i H2 _ rx).1 hle,fun D hD=>q H2 D ys (s1.trans s2) hD (by rw[append_nil];exact ro)⟩
   |some di=>
    have fu:=fI iq;rw[drop_cons iq]at hc;obtain⟨as,a1,hc⟩:=bind_some (show(gt di).bind _=some o2 from hc);obtain⟨k,a2,hc⟩:=bind_some hc;obtain⟨go,yl⟩:=(ov i H2 _ rx).2 di iq;refine .inr ⟨go,fun y H' hy=>?_⟩;obtain⟨eH,ry⟩:=yl y H' hy;subst eH;refine⟨Av,di,as,ry,a1,fun ws hw=>?_⟩;have cs:∀p∈as,(cB aX σ)[p.1]?=some none:=fun p hp=>by
     unfold cB;rw[getElem?_map,ht di as a1 p hp];rfl
    have A2:=hA.same (s1.trans s2);have E2:fj K H' Av (oA (cB aX σ) ws) (ko (fJ aX ρ) as):=fj.j6 hw (by unfold cB fJ;rw[length_map,length_map]) ((hE.same (s1.trans s2)).aX aX);refine⟨eV.j6 hw cs (eV.refl _),Av,_,k,A2,E2,a2,fun H3 s3=>?_⟩;cases k with
    |false=>
     rw[if_neg Bool.false_ne_true]at hc ⊢;exact⟨ds.length-(i+1),by omega,rfl,by omega,s2.trans s3,o1,o2,ro.same s3,by omega,hc,rfl⟩
    |true=>
     rw[if_pos rfl]at hc ⊢;obtain⟨dv,a3,hc⟩:=bind_some hc;obtain⟨o3,a4,hc⟩:=bg hc;subst hc;refine⟨Av,_,dv,A2.same s3,E2.same s3,a3,fun v H4 s4 rv=>⟨ds.length-(i+1),by omega,rfl,by omega,s2.trans (s3.trans s4),o1++[dv],o3,(ro.same (s3.trans s4)).append (.cons rv .nil),?_,a4,?_⟩⟩
     ·rw[length_append,length_singleton];omega
     ·rw[append_assoc];rfl
  cases d with
  |list dQ=>
   cases e2;obtain⟨a,xs,rfl,hq,rs⟩:=r.fY;exact⟨a,rfl,.inl ⟨⟨xs,hq.sq⟩,main _ qc⟩⟩
  |tuple dQ=>
   cases e2;obtain⟨a,xs,rfl,hq,rs⟩:=r.fM;exact⟨a,rfl,.inr ⟨⟨xs,hq.sq⟩,main _ sk⟩⟩
  |_=>cases e2
 ·cases hf
def fL (f:aw->Option (List Dat)):aw->Option Dat:=fun ρ=>(f ρ).map .list
def gA:aw->Option Bool:=fun _=>some true
open PySem PySem.Spec PyProof.Rows L2
open PySem.W (Dat kqdOk)
variable {fs:aw->Option (List Dat)} in
def Hf (i j:Nat) (fs:aw->Option (List Dat)):aD->Option Fl:=fun Γ=>(fs (bw Γ)).bind fun ds=>match ds with
 |[d,d']=>some (.nx ((Γ.set i (some (.a7 d))).set j (some (.a7 d'))))
 |_=>none
variable {scope:Scope} {N':List Str}
theorem jH(hf:∀y∈scope.names,y.2≠.free:=by decide +kernel)(hc:∀y∈scope.names,y.2≠.cell:=by decide +kernel)(hk:scope.kind=.function:=by rfl)(hn:∀y∈scope.names,y.2=.local->scope.names.lookup y.1=some .local:=by decide +kernel)(nd:N'.Nodup:=by decide +kernel):rR X scope [] N' (N'.map fun _=>none):=by
 have rl:(relabel scope X.env).names=scope.names:=by
  unfold relabel;exact map_eq_self (l:=scope.names) fun x hx=>by
   obtain⟨n,k⟩:=x;have:(k==NameKind.free)=false:=by simpa using hf _ hx
   simp[this]
 refine⟨closureFor_none hf,hc,hk,hn,nd,by rw[length_map],fun x c h=>(by cases h),fun x h=>?_,fun i x j e1 e2=>?_⟩
 ·rw[rl]at h;rcases h with h|h
  ·exact absurd rfl (hc _ (PySem.mem_of_lookup h))
  ·exact absurd rfl (hf _ (PySem.mem_of_lookup h))
 ·rw[getElem?_map]at e2;cases h:N'[i]? with
  |none=>rw[h]at e2;cases e2
  |some y=>rw[h]at e2;cases e2
def xA (K:Fg):Sp:=fun vs H Q _=>∃(a:Addr) (ns:List Int),vs=[.ref a]/\fw K H a (ns.map V.int)/\ns.length<=63/\∀H',Q (.bl true) H'
variable {k:Nat}
theorem NJ{f:Addr}(h:gu P w K mg base iV k f fd ps (E5 K 1 F))(hF:∀ns:List Int,ns.length<=63->F [.list (ns.map .int)]=some (.bool true)):gu P w K mg base iV k f fd ps (xA K):=
 h.imp fun vs H Q E aM=>by
  obtain⟨a,ns,e,hS,hl,q⟩:=aM;subst e;refine⟨fun _=>False,[.list (ns.map .int)],.bool true,fun _ z=>z.elim,.cons (.lst ?_ (ax.ints ns)) .nil,rfl,hF ns hl,fun v H' _ r=>by rw[r.lE];exact q H'⟩;rcases hS with h|h
  ·exact .inl ⟨h,fun z=>z⟩
  ·exact .inr h
theorem PK{l:PySem.W.OpenLaw}{q:Program}{loose:List Str}{XP:(Str->Option Value)->Heap->Prop}{YP:World->Heap->Prop}{d:DefRec}{K:Params->Fg}(hk:k<=100)(hn:l.most=some 63)(FJ:d.params.defaults=[])(hY:∀(w:World) (h:Heap),YP w h->(K w.params).In h)(F:∀(w:World) (mg:Str->Option Value) (fa:Addr) (h:Heap),(K w.params).In h->h.Ns mainGlobals mg->mg d.name=some (.ref fa)->
   ∃fd:FuncData,(∀(s:Shared) (u:Value),BindsTo s fd ⟨[u],[]⟩ [("script",u)])/\∀base:Heap,(K w.params).In base->base.Ns mainGlobals mg->gu l.prog w (K w.params) mg base iV 100 fa fd ["script"] (xA (K w.params))):
  PySem.W.WalkO q loose XP YP l.row.toRowW d [] (fun f vs=>PySem.call f vs):=
 L2.KC (n:=63) (k:=100) (x:="script") (CX:=fun _=>iV) (sp:=fun w=>xA (K w.params)) hn (by decide) FJ ⟨rfl,by decide,by decide⟩ hY F (fun _ _ a ns hl _ hS=>⟨a,ns,rfl,hS,hl,fun _=>rfl⟩) fun _ _ _ _ _ z=>z
open PySem PySem.Spec PyProof.Rows L2
open PySem.W (Dat kqdOk)
def Jt (K:Fg):R2:=fun x y H Q=>∃l b xs zs,x=.ref l/\y=.ref b/\fw K H l xs/\fw K H b zs/\xs.length+zs.length<=sizeLine/\∀p,H p=none->Q (.ref p) (upd H p (.lst (xs++zs)))
theorem Bi:eC X (binaryOp .Add) (Jt X.K):=by
 intro pins s σ H x y v u Q I rx ry h;obtain⟨l,b,xs,zs,rfl,rfl,hH,hB,hz,q⟩:=h;cases rx;cases ry;obtain⟨ak,r,⟨⟨cls,dd,data,sl⟩,n,ho,hc,RS,hd⟩,_⟩:=I.list hH;obtain⟨iY,r2,⟨⟨UD,Gj,data2,E9⟩,n2,qo,zg,hd02,hd2⟩,_⟩:=I.list hB;simp only at hc hd zg hd2;subst hc hd zg hd2;have h1:=r.length;have h2:=r2.length;have e:ak.toArray++iY.toArray=(ak++iY).toArray:=by simp
 refine PySem.concat_meets ⟨_,ho,rfl⟩ ⟨_,qo,rfl⟩ PySem.noFill_list_add PySem.seq_list_add PySem.F.slot_list_add PySem.F.entry_list_add (PySem.F.args_list_add_2 _ _) (list_addW l b ak.toArray iY.toArray n n2 dd Gj sl E9 (by rw[size_toArray,size_toArray];omega)) ⟨ho,qo,?_⟩;rw[e];exact⟨.ref _,_,I.ND (t':=s.toks) (r.append r2) (by rw[length_append];omega),rfl,q _ I.fresh⟩
open PySem PySem.Spec PyProof.Rows L2
open PySem.W (Dat kqdOk)
def oB (i:Nat) (f:aw->Option (List Dat)):aD->Option Fl:=fun Γ=>(f (bw Γ)).map fun ds=>.nx (Γ.set i (some (.a7 (.list ds))))
theorem wB{f:Str->Addr}:∀{fv:List Str} {y:Str},y∈fv->(fv.map fun x=>(x,f x)).lookup y=some (f y)
 |x::r,y,h=>by
  rw[map_cons,List.lookup_cons];by_cases e:y=x
  ·subst e;simp
  ·have:(y==x)=false:=by simpa using e
   rw[this];exact wB (by simpa [e]using h)
theorem qd{f:Str->Addr}:∀{fv:List Str} {y:Str} {c:Addr},(fv.map fun x=>(x,f x)).lookup y=some c->y∈fv/\c=f y
 |[],y,c,h=>by simp at h
 |x::r,y,c,h=>by
  rw[map_cons,List.lookup_cons]at h;by_cases e:y=x
  ·subst e;simp at h;exact⟨mem_cons_self,h.symm⟩
  ·have:(y==x)=false:=by simpa using e
   rw[this]at h;obtain⟨h1,h2⟩:=qd h;exact⟨mem_cons_of_mem _ h1,h2⟩
theorem fA{tn fv:List Str}{js:List Nat}(mX:closureFor scope X.env=pure (fv.map fun x=>(x,(X.env.cells.lookup x).getD 0)))(hf:∀y∈scope.names,y.2=.free->y.1∈fv)(hc:∀y∈scope.names,y.2≠.cell)(hk:scope.kind=.function)(hn:∀y∈scope.names,y.2=.local->scope.names.lookup y.1=some .local)(nd:(tn++fv).Nodup)(hl:fv.length=js.length)(hs:∀x∈fv,∃c,X.env.cells.lookup x=some c)(hj:∀p∈fv.zip js,X.N[p.2]?=some p.1/\mE X.env.scope p.1/\((relabel scope X.env).names.lookup p.1=some .cell\/(relabel scope X.env).names.lookup p.1=some .free)/\X.env.scope.names.lookup p.1≠some .local):
  rR X scope (fv.map fun x=>(x,(X.env.cells.lookup x).getD 0)) (tn++fv) ((tn.map fun _=>none)++js.map some):=by
 refine⟨mX,hc,hk,hn,nd,by rw[length_append,length_append,length_map,length_map,hl],fun y c h=>?_,fun y h=>?_,fun i x j e1 e2=>?_⟩
 ·obtain⟨h1,h2⟩:=qd h;obtain⟨c',e⟩:=hs y h1;rw[h2,e];rfl
 ·have hm:(y,NameKind.cell)∈(relabel scope X.env).names\/(y,NameKind.free)∈(relabel scope X.env).names:=h.elim (fun z=>.inl (PySem.mem_of_lookup z)) fun z=>.inr (PySem.mem_of_lookup z);have:y∈fv:=by
   rcases hm with hm|hm;all_goals
    obtain⟨⟨n,k⟩,hp,e⟩:=mem_map.mp hm;dsimp only at e;split at e
    ·rename_i Qv;have hk:k=.free:=by
      cases k<;>first|rfl|(simp at Qv)
     first
      |(cases e;done)
      |(cases e;exact hf _ hp hk)
    ·first
      |(cases e;done)
      |(cases e;exact absurd rfl (hc _ hp))
      |(cases e;exact hf _ hp rfl)
  exact⟨_,wB this⟩
 ·by_cases hi:i<tn.length
  ·rw[getElem?_append_left (by rw[length_map];exact hi),getElem?_map,getElem?_eq_getElem hi]at e2;cases e2
  ·rw[getElem?_append_right (by omega)]at e1;rw[getElem?_append_right (by rw[length_map];omega),length_map,getElem?_map]at e2;cases ej:js[i-tn.length]? with
   |none=>rw[ej]at e2;cases e2
   |some j'=>
    rw[ej]at e2;cases e2;refine hj (x,j) ?_;have h1:=(List.getElem?_eq_some_iff.mp e1);have h2:=(List.getElem?_eq_some_iff.mp ej);have h3:(fv.zip js)[i-tn.length]?=some (x,j):=by rw[List.getElem?_zip_eq_some];exact⟨e1,ej⟩
    exact mem_of_getElem? h3
open PySem PySem.Spec PyProof.Rows L2
open PySem.W (Dat kqdOk)
def kJ:Dat->Bool
 | .none=>true| .bool _=>true| .int _=>true| .str _=>true
 |_=>false
def BW:Dat->Dat->Bool
 | .none,.none=>true
 | .bool a,.bool b=>a==b
 | .bool a,.int b=>(if a then 1 else 0)==b
 | .int a,.bool b=>a==(if b then 1 else 0)
 | .int a,.int b=>a==b
 | .str a,.str b=>a==b
 |_,_=>false
theorem aK.flat(r:aK K H Av v d)(h:kJ d=true):kI v=true:=by
 cases r<;>first|rfl|cases h
theorem aK.BW{u:V}{e:Dat}(r:aK K H Av v d)(q:aK K H Av u e)(h:kJ d=true)(k:kJ e=true):uq v u=L3.BW d e:=by
 cases r<;>cases q<;>first|rfl|cases h|cases k
theorem ax.flat{K:Fg}{H:Hp}{Av:fP}:∀{vs:List V} {ds:List Dat},ax K H Av vs ds->ds.all kJ=true->vs.all kI=true
 |_,_,.nil,_=>rfl
 |_,_,.cons r t,h=>by
  simp only[all_cons,and_eq_true]at h ⊢;exact⟨r.flat h.1,t.flat h.2⟩
theorem ax.NR{K:Fg}{H:Hp}{Av:fP}{x:V}{dx:Dat}(rx:aK K H Av x dx)(hx:kJ dx=true):∀{vs:List V} {ds:List Dat},ax K H Av vs ds->ds.all kJ=true->yM x vs=ds.any fun y=>BW y dx
 |_,_,.nil,_=>rfl
 |_,_,.cons r t,h=>by
  simp only[all_cons,and_eq_true]at h;unfold yM;rw[any_cons,any_cons,r.BW rx h.1 hx];have:=ax.NR rx hx t h.2;unfold yM at this;rw[this]
def RB:Dat->Dat->Option Bool:=fun x y=>match y with
 | .list ds=>if kJ x=true/\ds.all kJ=true then some (ds.any fun z=>BW z x)else none
 | .tuple ds=>if kJ x=true/\ds.all kJ=true then some (ds.any fun z=>BW z x)else none
 | .str j=>match x with
  | .str i=>some (!(Builtin.Str.occurrences j i 0 j.length 1).isEmpty)
  |_=>none
 |_=>none
def inD:Dat->Dat->Option Dat:=fun x y=>(RB x y).map .bool
theorem Np:nh K (fun x y H Q=>Rg K false x y H Q\/(∃i j,x=.str i/\y=.str j/\Q (.bl (!(Builtin.Str.occurrences j i 0 j.length 1).isEmpty)) H)) inD:=by
 intro H Av x y dx dy d Q hA rx ry h q;obtain⟨k,e1,rfl⟩:=bg h;unfold RB at e1;split at e1
 ·split at e1
  ·rename_i ds hc;cases e1;obtain⟨p,xs,rfl,hq,rs⟩:=ry.fY;refine .inl ⟨p,xs,rfl,.inl hq.sq,rx.flat hc.1,rs.flat hc.2,?_⟩;show Q (.bl (yM x xs)) H;rw[ax.NR rx hc.1 rs hc.2];exact q _ H (aW.refl H) (.bl _)
  ·cases e1
 ·split at e1
  ·rename_i ds hc;cases e1;obtain⟨p,xs,rfl,hq,rs⟩:=ry.fM;refine .inl ⟨p,xs,rfl,.inr hq.sq,rx.flat hc.1,rs.flat hc.2,?_⟩;show Q (.bl (yM x xs)) H;rw[ax.NR rx hc.1 rs hc.2];exact q _ H (aW.refl H) (.bl _)
  ·cases e1
 ·split at e1
  ·cases e1;exact .inr ⟨_,_,rx.ig,ry.ig,q _ H (aW.refl H) (.bl _)⟩
  ·cases e1
 ·cases e1
def oM:Dat->Bool
 | .none=>true
 |_=>false
theorem aK.TV(r:aK K H Av v d):decide (v=.bM)=oM d:=by cases r<;>rfl
theorem Bj:nh K (fun x y H Q=>y=.bM/\Q (.bl (decide (x=.bM))) H) (fun x y=>if oM y=true then some (.bool (oM x))else none):=by
 intro H Av x y dx dy d Q hA rx ry h q;dsimp only at h;split at h
 ·rename_i hy;cases h;have e:dy=.none:=by cases dy<;>first|rfl|cases hy
  subst e;exact⟨ry.Qi,by rw[rx.TV];exact q _ H (aW.refl H) (.bl _)⟩
 ·cases h
def jU:Dat->Dat->Option Dat:=fun x y=>if oM y=true then some (.bool (oM x))else none
def qY:List Dat->Option (List Dat)
 |[.list ds]=>some ds
 |[.tuple ds]=>some ds
 |_=>none
def gC:List Dat->Option Dat
 |[.list ds]=>some (.tuple ds)
 |[.tuple ds]=>some (.tuple ds)
 |_=>none
theorem rM:nq K (fun xs H Q=>∃p ys,xs=[.ref p]/\((fw K H p ys/\∀l,H l=none->Q (.ref l) (upd H l (.tup ys)))\/(iT K H p ys/\Q (.ref p) H))) gC:=by
 intro H Av xs ds d Q hA r h q;unfold gC at h;split at h
 ·cases h;obtain⟨v,rfl,rv⟩:=r.eM;obtain⟨p,xs,rfl,hq,rs⟩:=rv.fY;exact⟨p,xs,rfl,.inl ⟨hq.sq,fun l hl=>q _ _ (bV hl _) (.sC hA hl rs)⟩⟩
 ·cases h;obtain⟨v,rfl,rv⟩:=r.eM;have Ed:=rv;obtain⟨p,xs,rfl,hq,rs⟩:=rv.fM;exact⟨p,xs,rfl,.inr ⟨hq.sq,q _ H (aW.refl H) Ed⟩⟩
 ·cases h
open PySem PySem.Spec PyProof.Rows L2
open PySem.W (Dat kqdOk)
def ModT (K:Fg) (a:Addr) (ds:List Dat):Prop:=∃(xs:List V) (o:Obj) (ak:Array Value) (n:Nat),K.lookup a=some o/\o.cls=.type "tuple"/\o.data=.seq ak n/\ak.size<=sizeLine/\Vals xs ak.toList/\∀H Av,ax K H Av xs ds
open PySem PySem.Spec PyProof.Rows L2
open PySem.W (Dat kqdOk)
theorem aS.set_own(hi:Γ[i]?=some (some (.own ds))):∀a,aS Av (Γ.set i (some (.own es))) ad a->aS Av Γ ad a:=by
 rintro a (z|⟨j,fs,e,m,q⟩)
 ·exact .inl z
 ·rcases aQ e with⟨e1,_⟩|⟨e1,q1⟩
  ·subst e1;exact .inr ⟨j,_,hi,rfl,q⟩
  ·exact .inr ⟨j,fs,q1,m,q⟩
theorem aS.lA(hi:Γ[i]?=some (some (.own ds))):∀a,aS Av Γ ad a->aS Av (Γ.set i (some (.own es))) ad a:=by
 rintro a (z|⟨j,fs,e,m,q⟩)
 ·exact .inl z
 ·by_cases e1:j=i
  ·subst e1;exact .inr ⟨j,.own es,getElem?_set_self (fI hi),rfl,q⟩
  ·exact .inr ⟨j,fs,by rw[getElem?_set_ne (Ne.symm e1)];exact e,m,q⟩
theorem HQ(hi:Γ[i]?=some (some (.own ds)))(k:∀b o,H b=some o->b≠ad i->H' b=some o):mG H (aS Av Γ ad) H' (aS Av (Γ.set i (some (.own es))) ad):=
 fun b o h n=>⟨k b o h fun z=>n (.inr ⟨i,_,hi,rfl,z.symm⟩),fun z=>n (aS.set_own hi b z)⟩
variable {ys:List V}
theorem GA.lend(G:GA K aj Av pn aH H σ Γ ad)(hi:Γ[i]?=some (some (.own ds)))(k:∀b o,H b=some o->b≠ad i->H' b=some o)(hn:H' (ad i)=some (.lst ys))(r:ax K H' (aS Av Γ ad) ys es):
  GA K aj Av pn aH H' σ (Γ.set i (some (.own es))) ad:=by
 have fu:i<Γ.length:=fI hi;have kp:=HQ (Av:=Av) (es:=es) hi k;obtain⟨Mu,g1,g2,g3,g4⟩:=G.own i ds hi;refine⟨fun b o h=>k b o (G.same b o h) (bo h g4),G.jf,by rw[length_set];exact G.len,fun j d' h=>?_,fun j fs h=>?_,fun j l fs gs h1 h2 m1 m2 e=>?_,fun p hp=>(G.aH p hp).mono kp,fun a fs e h=>?_,fun j O fs h=>?_⟩
 ·rcases aQ h with⟨_,q⟩|⟨_,q⟩
  ·cases q
  ·obtain⟨u,a,b⟩:=G.a7 j d' q;exact⟨u,a,b.mono kp⟩
 ·rcases aQ h with⟨e,q⟩|⟨e,q⟩
  ·subst e;cases q;exact⟨ys,g1,hn,r.weak (aS.set_own hi),g4⟩
  ·obtain⟨zs,a,b,c,e'⟩:=G.own j fs q;exact⟨zs,a,k _ _ b fun z=>e (G.NQ j i fs ds q hi z),c.mono kp,e'⟩
 ·rcases aQ h1 with⟨e1,q1⟩|⟨e1,q1⟩
  ·rcases aQ h2 with⟨e2,q2⟩|⟨e2,q2⟩
   ·rw[e1,e2]
   ·subst e1;exact G.inj j l _ gs hi q2 rfl m2 e
  ·rcases aQ h2 with⟨e2,q2⟩|⟨e2,q2⟩
   ·subst e2;exact G.inj j l fs _ q1 hi m1 rfl e
   ·exact G.inj j l fs gs q1 q2 m1 m2 e
 ·rcases aQ h with⟨z,_⟩|⟨_,q⟩
  ·subst z;exact G.pin a ds e hi
  ·exact G.pin a fs e q
 ·rcases aQ h with⟨e,q⟩|⟨e,q⟩
  ·cases q
  ·obtain⟨zs,a,b,c,e'⟩:=G.obj j O fs q;exact⟨zs,a,k _ _ b fun z=>e (G.inj j i _ _ q hi rfl rfl z),c.mono kp,e'⟩
abbrev HF:=aD->Option (Dat×aD)
def tH (K:Fg) (f:HF):TE:=fun σ H Q=>∃aj Av pn aH Γ ad d ag,GA K aj Av pn aH H σ Γ ad/\f Γ=some (d,ag)/\∀v H' iJ,GA K aj Av pn aH H' σ ag iJ->aK K H' (aS Av ag iJ) v d->Q v H'
def R6 (K:Fg) (f:aD->Option (Bool×aD)):TT:=fun σ H Q=>∃aj Av pn aH Γ ad d ag,GA K aj Av pn aH H σ Γ ad/\f Γ=some (d,ag)/\∀H' iJ,GA K aj Av pn aH H' σ ag iJ->Q d H'
def MF (K:Fg) (f:aD->Option (List Dat×aD)):TA:=fun σ H Q=>∃aj Av pn aH Γ ad d ag,GA K aj Av pn aH H σ Γ ad/\f Γ=some (d,ag)/\∀vs H' iJ,GA K aj Av pn aH H' σ ag iJ->ax K H' (aS Av ag iJ) vs d->Q vs H'
abbrev PH (X:Cx) (e:Expr) (f:HF):Prop:=PE X e (tH X.K f)
abbrev Xz (X:Cx) (e:Expr) (f:aD->Option (Bool×aD)):Prop:=PT X e (R6 X.K f)
abbrev WX (X:Cx) (es:List Expr) (f:aD->Option (List Dat×aD)):Prop:=PA X es (MF X.K f)
def iw (f:aw->Option Dat):HF:=fun Γ=>match f (bw Γ)with
 |some d=>some (d,Γ)
 |none=>(f (bU Γ)).bind fun d=>if Ec d=true then some (d,Γ)else none
def h2 (g:Dat->Dat->Option Dat) (fa fb:HF):HF:=fun Γ=>(fa Γ).bind fun p=>(fb p.2).bind fun r=>(g p.1 r.1).map fun d=>(d,r.2)
variable {ha hb:HF}
theorem Jh{r:R2}{g:Dat->Dat->Option Dat}(hr:nh K r g):∀σ H Q,tH K (h2 g ha hb) σ H Q->AN r (tH K ha) (tH K hb) σ H Q:=by
 rintro σ H Q ⟨aj,Av,pn,aH,Γ,ad,d,ag,G,hf,q⟩;obtain⟨⟨dx,cU⟩,e1,hf⟩:=bind_some hf;obtain⟨⟨dy,pH⟩,e2,hf⟩:=bind_some hf;obtain⟨d',e3,hf⟩:=bg hf;cases hf;refine⟨aj,Av,pn,aH,Γ,ad,dx,cU,G,e1,fun x H1 jZ G1 r1=>⟨aj,Av,pn,(x,dx)::aH,cU,jZ,dy,pH,G1.hide r1,e2,fun y H2 pA G2 r2=>?_⟩⟩;exact hr H2 (aS Av pH pA) x y dx dy _ Q G2.gR (G2.aH (x,dx) mem_cons_self) r2 e3 fun v H3 s3 r3=>q v H3 pA (G2.pI.grow s3) r3
theorem yr{op:Operator}{r:R2}{g:Dat->Dat->Option Dat}(ho:eC X (binaryOp op) r)(hd:nh X.K r g)(pa:PH X a ha)(pb:PH X b hb):PH X (.BinOp a op b pos) (h2 g ha hb):=bj (xE ho pa pb) (Jh hd)
theorem Nn:nh K (fun x y H Q=>N0 K x y H Q\/MZ K x y H Q) bp:=by
 intro H Av x y dx dy d Q hA rx ry h q;unfold bp at h;split at h
 ·obtain⟨p,xs,rfl,hq,rs⟩:=rx.fY;obtain⟨v,hv,rv⟩:=rs.fK h;exact .inl ⟨p,xs,_,v,rfl,ry.cY,hq.sq,hv,q v H (aW.refl H) rv⟩
 ·obtain⟨p,xs,rfl,hq,rs⟩:=rx.fM;obtain⟨v,hv,rv⟩:=rs.fK h;exact .inr ⟨p,xs,_,v,rfl,ry.cY,hq.sq,hv,q v H (aW.refl H) rv⟩
 ·cases h
def mn:aD->Option (List Dat×aD):=fun Γ=>some ([],Γ)
def iy (f:HF) (g:aD->Option (List Dat×aD)):aD->Option (List Dat×aD):=fun Γ=>(f Γ).bind fun p=>(g p.2).map fun r=>(p.1::r.1,r.2)
def CZ (g:aD->Option (List Dat×aD)):HF:=fun Γ=>(g Γ).bind fun p=>if p.1.length<=sizeLine then some (.tuple p.1,p.2)else none
def oT (g:List Dat->Option Dat) (fs:aD->Option (List Dat×aD)):HF:=fun Γ=>(fs Γ).bind fun p=>(g p.1).map fun d=>(d,p.2)
variable {hs:aD->Option (List Dat×aD)}
theorem KN{g:List Dat->Option Dat}(hr:nq K r g):∀σ H Q,tH K (oT g hs) σ H Q->Jk r (MF K hs) σ H Q:=by
 rintro σ H Q ⟨aj,Av,pn,aH,Γ,ad,d,ag,G,hf,q⟩;obtain⟨⟨ds,cU⟩,e1,hf⟩:=bind_some hf;obtain⟨d',e2,hf⟩:=bg hf;cases hf;exact⟨aj,Av,pn,aH,Γ,ad,ds,cU,G,e1,fun xs H1 jZ G1 r1=>hr H1 _ xs ds _ Q G1.gR r1 e2 fun v H2 s2 r2=>q v H2 jZ (G1.grow s2) r2⟩
variable {es:List Expr} {p:Pos}
theorem Ex{g:List Dat->Option Dat}(hc:k8 X (.type T) r)(hd:nq X.K r g)(hm:X.mg x=none)(pa:WX X (e::es) hs)(hg:Gl X x:=by rfl)(hv:bootBuiltins x=some (.type T):=by rfl)(hn:x≠"__name__":=by decide)(jc:(x==("__debug__" : Str))=false:=by decide)(he:starEach (e::es) X.env=(false,eval e X.env)::starEach es X.env:=by rfl)(ey:(backTo pos (starEach es X.env)).any (·.1)=false:=by rfl):PH X (.Call (.Name x p) (e::es) [] pos) (oT g hs):=bj (mS hc hg hm hv pa hn jc he ey) (KN hd)
def Ot (n:Nat) (F:List Dat->Option Dat) (fs:aD->Option (List Dat×aD)):HF:=fun Γ=>(fs Γ).bind fun p=>if p.1.length=n then(F p.1).map fun d=>(d,p.2)else none
def V2 (K:Fg) (n:Nat) (F:List Dat->List Dat->Option (Dat×List Dat)):Sp:=fun vs H Q _=>∃Av a ws xs ds es d dQ,vs=.ref a::ws/\gK H Av/\Av a/\H a=some (.lst xs)/\ax K H Av xs ds/\ax K H Av ws es/\es.length+1=n/\F ds es=some (d,dQ)/\
 ∀v H' ys,(∀b o,H b=some o->b≠a->H' b=some o)->H' a=some (.lst ys)->ax K H' Av ys dQ->aK K H' Av v d->Q v H'
structure k7 (P:Program) (w:World) (K:Fg) (mg:Str->Option Value) (base:Heap) (k:Nat) (x:Str) (ps:List Str) (n:Nat) (F:List Dat->List Dat->Option (Dat×List Dat)):Prop where
 ex:∃(f:Addr) (fd:FuncData),gu P w K mg base iV k f fd ps (V2 K n F)/\mg x=some (.ref f)/\keepIn K (.ref f)=true/\Binds K fd ps []
variable {j:Nat}
theorem k7.up{F:List Dat->List Dat->Option (Dat×List Dat)}(D:k7 P w K mg base j x ps n F)(h:j<=k):k7 P w K mg base k x ps n F:=by
 obtain⟨f,fd,h1,h2⟩:=D.ex;exact⟨f,fd,h1.mono h,h2⟩
def oS (i n:Nat) (F:List Dat->List Dat->Option (Dat×List Dat)) (fs:aD->Option (List Dat×aD)):HF:=fun Γ=>match Γ[i]? with
 |some (some (.own _))=>(fs Γ).bind fun p=>match p.2[i]? with
  |some (some (.own ds))=>if p.1.length+1=n then(F ds p.1).map fun r=>(r.1,p.2.set i (some (.own r.2)))else none
  |_=>none
 |_=>none
def startM (N:List Str) (ds es:List Dat):aD:=some (.own ds)::(es.map (fun d=>some (.a7 d))++List.replicate (N.length-(es.length+1)) none)
theorem FR{a:Addr}{ws:List V}{es:List Dat}(hA:gK H Av)(ha:Av a)(hx:H a=some (.lst xs))(rx:ax K H Av xs ds)(pU:ax K H Av ws es):
  GA K (fun b=>if b=a then none else H b) (fun b=>Av b/\b≠a) (some a) [] H (start N (.ref a::ws)) (startM N ds es) (fun _=>a):=by
 have oI:∀(i:Nat) (s:Slot),(startM N ds es)[i+1]?=some (some s)->s.mt=false:=fun i s h=>by
  unfold startM at h;rw[getElem?_cons_succ]at h;by_cases hi:i<es.length
  ·rw[getElem?_append_left (by rw[length_map];exact hi),getElem?_map,getElem?_eq_getElem hi]at h;cases h;rfl
  ·rw[getElem?_append_right (by rw[length_map];omega),getElem?_replicate]at h;split at h<;>cases h
 have wk:∀b,aS (fun b=>Av b/\b≠a) (startM N ds es) (fun _=>a) b->Av b:=by
  rintro b (z|⟨i,fs,_,_,rfl⟩)
  ·exact z.1
  ·exact ha
 refine⟨fun b o h=>?_,fun b z=>?_,?_,fun i d h=>?_,fun i fs h=>?_,fun i j fs gs h1 h2 m1 m2 _=>?_,fun p hp=>absurd hp (by simp),(fun a' fs e _=>by cases e;rfl),fun i O fs h=>?_⟩
 ·split at h
  ·cases h
  ·exact h
 ·obtain⟨o,e⟩:=hA b z.1;exact⟨o,by rw[if_neg z.2];exact e⟩
 ·unfold L2.start startM;simp only[map_cons,cons_append,length_cons,length_append,length_map,length_replicate,pU.length]
 ·cases i with
  |zero=>cases h
  |succ i=>
   unfold startM at h;rw[getElem?_cons_succ]at h;by_cases hi:i<es.length
   ·rw[getElem?_append_left (by rw[length_map];exact hi),getElem?_map,getElem?_eq_getElem hi]at h;cases h;obtain⟨v,hv,rv⟩:=pU.get (getElem?_eq_getElem hi);refine⟨v,?_,rv.weak wk⟩;unfold L2.start;rw[map_cons,cons_append,getElem?_cons_succ,getElem?_append_left (by rw[length_map,pU.length];exact hi),getElem?_map,hv];rfl
   ·rw[getElem?_append_right (by rw[length_map];omega),getElem?_replicate]at h;split at h<;>cases h
 ·cases i with
  |zero=>cases h;exact⟨xs,rfl,hx,rx.weak wk,by rw[if_pos rfl]⟩
  |succ i=>exact absurd (oI i _ h) (by simp[Slot.mt])
 ·cases i with
  |succ i=>exact absurd (oI i _ h1) (by rw[m1];decide)
  |zero=>
   cases j with
   |succ j=>exact absurd (oI j _ h2) (by rw[m2];decide)
   |zero=>rfl
 ·cases i with
  |zero=>cases h
  |succ i=>exact absurd (oI i _ h) (by simp[Slot.mt])
def runM (N:List Str) (g:aD->Option Fl) (ds es:List Dat):Option (Dat×List Dat):=match g (startM N ds es)with
 |some (.rm d ag)=>match (ag[0]? : Option (Option Slot))with
  |some (some (.own dQ))=>some (d,dQ)
  |_=>none
 |_=>none
theorem OI{F:List Dat->List Dat->Option (Dat×List Dat)}(U:mH K x qual st fa fd)(hm:mg x=some (.ref fa))(hB:Binds K fd ps [])(S:fR N ps (aU st))(hn:ps.length=n)(hbody:∀(bA:Value) (A:Around) (outer:List Env) (s:Shared) (H:Hp) (E:XK),cv k (A.deeper (envOfC qual (aU st) s.heap.objs.size fa bA))->Pg (jv iV P w K mg base N qual (aU st) fa bA A outer s H E).nV (cT st) g)(hF:∀ds es d dQ,es.length+1=n->F ds es=some (d,dQ)->runM N g ds es=some (d,dQ)):k7 P w K mg base (k+1) x ps n F:=by
 refine⟨fa,fd,U.ok S (fun vs H Q E h=>?_) (fun bA A outer s H vs Q E hr h=>?_),hm,U.kp,hB⟩
 ·obtain⟨Av,a,ws,xs,ds,es,d,dQ,rfl,_,_,_,_,r,hl,_⟩:=h;rw[length_cons,r.length,hl,hn]
 ·obtain⟨Av,a,ws,xs,ds,es,d,dQ,rfl,hA,ha,hx,rx,pU,hl,hd,q⟩:=h;have dF:=hF ds es d dQ hl hd;unfold runM at dF;refine⟨_,hbody bA A outer s H E hr,?_⟩;split at dF
  ·rename_i d1 cU hg;split at dF
   ·rename_i ds1 h0;cases dF;refine⟨_,_,some a,[],startM N ds es,_,⟨_,FR hA ha hx rx pU⟩,hg,fun bC v H' iJ G' rv=>?_⟩;obtain⟨ys,y1,y2,y3,y4⟩:=G'.own 0 _ h0;have ea:iJ 0=a:=G'.pin a _ rfl h0;have wk:∀b,Av b->aS (fun b=>Av b/\b≠a) cU iJ b:=fun b z=>by
     by_cases eb:b=a
     ·exact .inr ⟨0,_,h0,rfl,ea.trans eb.symm⟩
     ·exact .inl ⟨z,eb⟩
    exact q v H' ys (fun b o h ne=>G'.same b o (by rw[if_neg ne];exact h)) (by rw[<- ea];exact y2) (y3.weak wk) (rv.weak wk)
   ·cases dF
  ·cases dF
def mQ (i:Nat) (f:HF):aD->Option Fl:=fun Γ=>(f Γ).map fun p=>.nx (p.2.set i (some (.a7 p.1)))
def Cu (f:HF):aD->Option Fl:=fun Γ=>(f Γ).map fun p=>.rm p.1 p.2
def Hg (ft:aD->Option (Bool×aD)) (g1 g2:aD->Option Fl):aD->Option Fl:=fun Γ=>(ft Γ).bind fun p=>if p.1=true then g1 p.2 else g2 p.2
theorem ax.set{K:Fg}{H:Hp}{Av:fP}:∀{vs:List V} {ds:List Dat} {j:Nat} {v:V} {d:Dat},ax K H Av vs ds->aK K H Av v d->ax K H Av (vs.set j v) (ds.set j d)
 |_,_,_,_,_,.nil,_=>.nil
 |_,_,0,_,_,.cons _ r,h=>.cons h r
 |_,_,j+1,_,_,.cons a r,h=>.cons a (ax.set (j:=j) r h)
def y7 (i:Nat) (k:Int) (f:HF):aD->Option Fl:=fun Γ=>(f Γ).bind fun p=>match p.2[i]? with
 |some (some (.own ds))=>(l8 ds.length k).map fun j=>.nx (p.2.set i (some (.own (ds.set j p.1))))
 |_=>none
def V1 (K:Fg) (n:Nat) (F:List Dat->Option (List Dat)):Sp:=fun vs H Q _=>∃Av ds out,gK H Av/\ax K H Av vs ds/\ds.length=n/\F ds=some out/\∀H1 p xs,aW H H1->H1 p=none->ax K H1 Av xs out->Q (.ref p) (upd H1 p (.lst xs))
structure uP (P:Program) (w:World) (K:Fg) (mg:Str->Option Value) (base:Heap) (k:Nat) (x:Str) (ps:List Str) (n:Nat) (F:List Dat->Option (List Dat)):Prop where
 ex:∃(f:Addr) (fd:FuncData),gu P w K mg base iV k f fd ps (V1 K n F)/\mg x=some (.ref f)/\keepIn K (.ref f)=true/\Binds K fd ps []
theorem uP.up{F:List Dat->Option (List Dat)}(D:uP P w K mg base j x ps n F)(h:j<=k):uP P w K mg base k x ps n F:=by
 obtain⟨f,fd,h1,h2⟩:=D.ex;exact⟨f,fd,h1.mono h,h2⟩
def Di (n:Nat) (F:List Dat->Option (List Dat)) (fs:aw->Option (List Dat)):aw->Option (List Dat):=fun ρ=>(fs ρ).bind fun ds=>if ds.length=n then F ds else none
variable {px:Pos}
theorem OH{fs:aw->Option (List Dat)}{F:List Dat->Option (List Dat)}(U:mH K x qual st fa fd)(hm:mg x=some (.ref fa))(hB:Binds K fd ps [])(S:fR N ps (aU st))(hn:ps.length=n){ex:Expr}(hb:cT st=[.Return (some ex) px])(hbody:∀(bA:Value) (A:Around) (outer:List Env) (s:Shared) (H:Hp) (E:XK),cv k (A.deeper (envOfC qual (aU st) s.heap.objs.size fa bA))->PE (jv iV P w K mg base N qual (aU st) fa bA A outer s H E).nV ex (jN K fs))(hF:∀ds out,ds.length=n->F ds=some out->fs (bU (cF N ds))=some out):uP P w K mg base (k+1) x ps n F:=by
 have ey:ps.length<=N.length:=by have:=congrArg List.length S.pre;rw[length_take]at this;omega
 refine⟨fa,fd,U.ok S (fun vs H Q E h=>?_) (fun bA A outer s H vs Q E hr h=>?_),hm,U.kp,hB⟩
 ·obtain⟨Av,ds,d,_,r,hl,_⟩:=h;rw[r.length,hl,hn]
 ·obtain⟨Av,ds,out,hA,r,hl,hd,q⟩:=h;obtain⟨ad,G⟩:=sP (K:=K) (N:=N) hA r (by omega);rw[hb];exact⟨_,Ba (tR (hbody bA A outer s H E hr)),Av,bU (cF N ds),out,hA,G.qw,hF ds out hl hd,fun H1 p xs s1 hp r1=>q H1 p xs s1 hp r1⟩
open PySem PySem.Spec PyProof.Rows L2
open PySem.W (Dat kqdOk)
def DF (K:Fg) (J:It) (xs:List V) (n8:List Dat) (ds:List Dat):Prop:=∀(i:Nat) (H:Hp) (Av:fP),ax K H Av xs n8->(ds.length<=i->J.stop i H)/\(∀di,ds[i]?=some di->J.go i H/\∀y H',gK H Av->J.vS i H y H'->aW H H'/\aK K H' Av y di)
theorem Over.s{x:V}(o:Over K J x d ds):DF K J [x] [d] ds:=fun i H Av r=>by
 obtain⟨v,e,rv⟩:=r.eM;cases e;obtain⟨h1,h2⟩:=o i H Av rv;refine⟨h1,fun di hd=>?_⟩;obtain⟨g,y⟩:=h2 di hd;refine⟨g,fun z H' _ hz=>?_⟩;obtain⟨e,r'⟩:=y z H' hz;subst e;exact⟨aW.refl _,r'⟩
def Jg (K:Fg) (fi:aw->Option (List Dat)):TI:=fun σ H R=>∃Av ρ ds,gK H Av/\fj K H Av σ ρ/\fi ρ=some ds/\∀J xs n8 H1,aW H H1->ax K H1 Av xs n8->DF K J xs n8 ds->R J H1
abbrev SE (X:Cx) (tg iter:Expr) (fi:aw->Option (List Dat)):Prop:=PI X tg iter (Jg X.K fi)
variable {iter:Expr}
theorem nU{t t':TI}(h:PI X tg iter t)(m:∀σ H R,t' σ H R->t σ H R):PI X tg iter t':=fun pins s σ H R I q=>h pins s σ H R I (m σ H R q)
def NS (f:aw->Option Dat):aw->Option (List Dat):=fun ρ=>(f ρ).bind cW
variable {fs:aw->Option (List Dat)} in
def qk (rg:List Dat->Option (List Dat)) (fs:aw->Option (List Dat)):aw->Option (List Dat):=fun ρ=>(fs ρ).bind rg
variable {fi:aw->Option (List Dat)}
def ly (gt:Dat->Option cX) (gb:aD->Option Fl) (fi:aw->Option (List Dat)):aD->Option Fl:=fun Γ=>(fi (bw Γ)).bind fun ds=>forL gt gb ds Γ
theorem Dh{D:Ends}{n8:List Dat}{σ:L2.St}{H1:Hp}{fl:Fl}(ov:DF K J xs n8 ds)(G:GA K aj Av pn aH H1 σ Γ ad)(rx:ax K H1 (aS Av Γ ad) xs n8)(hf:forL gt gb ds Γ=some fl)(q:Iq K aj Av pn aH D fl):
  ∃W:Nat->Nat->L2.St->Hp->Prop,(∃m,W 0 m σ H1)/\∀i m σ H,W i m σ H->
   (J.stop i H/\D.nx σ H)\/(J.go i H/\∃N:L2.St->Hp->Prop,(∀bC H',N bC H'->∃m',m'<m/\W (i+1) m' bC H')/\∀x H',J.vS i H x H'->k9 K gt x σ H' fun fS H2=>xU K gb {D with nx:=N,ct:=N,bk:=D.nx} fS H2):=by
 have Qt:∀{vs:List V} {us:List Dat} {aH:Hid} {H:Hp} {σ:L2.St} {Γ:aD} {ad:Nat->Addr},GA K aj Av pn aH H σ Γ ad->ax K H (aS Av Γ ad) vs us->GA K aj Av pn (vs.zip us++aH) H σ Γ ad:=by
  intro vs us aH H σ Γ ad G r;refine⟨G.same,G.jf,G.len,G.a7,G.own,G.inj,fun p hp=>?_,G.pin,G.obj⟩;rcases mem_append.mp hp with h|h
  ·clear G hp;induction vs generalizing us with
   |nil=>simp at h
   |cons v vs ih=>
    cases r with
    |cons r1 r2=>
     rw[zip_cons_cons]at h;rcases mem_cons.mp h with e|h
     ·subst e;exact r1
     ·exact ih r2 h
  ·exact G.aH p h
 have uT:∀{vs:List V} {us:List Dat} {aH:Hid} {H:Hp} {σ:L2.St} {Γ:aD} {ad:Nat->Addr},GA K aj Av pn (vs.zip us++aH) H σ Γ ad->GA K aj Av pn aH H σ Γ ad:=fun G=>⟨G.same,G.jf,G.len,G.a7,G.own,G.inj,fun p hp=>G.aH p (mem_append_right _ hp),G.pin,G.obj⟩;have back:∀{vs:List V} {us:List Dat} {aH:Hid} {H:Hp} {σ:L2.St} {Γ:aD} {ad:Nat->Addr},vs.length=us.length->GA K aj Av pn (vs.zip us++aH) H σ Γ ad->ax K H (aS Av Γ ad) vs us:=by
  intro vs us aH H σ Γ ad hl G;have hp:∀p∈vs.zip us,aK K H (aS Av Γ ad) p.1 p.2:=fun p hp=>G.aH p (mem_append_left _ hp);clear G;induction vs generalizing us with
  |nil=>cases us with|nil=>exact .nil|cons _ _=>simp at hl
  |cons v vs ih=>
   cases us with
   |nil=>simp at hl
   |cons u us=>
    rw[zip_cons_cons]at hp;exact .cons (hp (v,u) mem_cons_self) (ih (by simpa using hl) fun p h=>hp p (mem_cons_of_mem _ h))
 have VC:=rx.length;refine⟨fun i m σ H=>m=ds.length-i/\i<=ds.length/\∃Γ,l6 K aj Av pn (xs.zip n8++aH) H σ Γ/\forL gt gb (ds.drop i) Γ=some fl,⟨_,rfl,zero_le _,Γ,⟨ad,Qt G rx⟩,by rw[drop_zero];exact hf⟩,?_⟩;rintro i m σ H ⟨rfl,hi,Γ,⟨ad,G⟩,hf⟩;have rx:=back VC G;cases iq:ds[i]? with
 |none=>
  have hl:ds.length<=i:=List.getElem?_eq_none_iff.mp iq;rw[drop_eq_nil_of_le hl]at hf;cases hf;exact .inl ⟨(ov i H _ rx).1 hl,q σ H ⟨ad,uT G⟩⟩
 |some di=>
  have fu:=fI iq;rw[drop_cons iq]at hf;obtain⟨as,e1,hf⟩:=bind_some (show(gt di).bind _=some fl from hf);obtain⟨qt,e2,hf⟩:=bind_some hf;obtain⟨go,yl⟩:=(ov i H _ rx).2 di iq;refine .inr ⟨go,fun bC H'=>∃ag,l6 K aj Av pn (xs.zip n8++aH) H' bC ag/\forL gt gb (ds.drop (i+1)) ag=some fl,fun bC H' ⟨ag,G',h'⟩=>⟨ds.length-(i+1),by omega,rfl,by omega,ag,G',h'⟩,fun y H' hy=>?_⟩;obtain⟨sH,ry⟩:=yl y H' G.gR hy;refine⟨aS Av Γ ad,di,as,ry,e1,fun ws hw=>⟨aj,Av,pn,xs.zip n8++aH,setG Γ as,qt,⟨ad,GA.j6 hw (fun _ z=>z) (G.grow sH)⟩,e2,?_⟩⟩;cases qt with
  |nx ag=>exact fun fS H2 G2=>⟨ag,G2,hf⟩
  |ct ag=>exact fun fS H2 G2=>⟨ag,G2,hf⟩
  |bk ag=>cases hf;exact fun fS H2 ⟨pA,G2⟩=>q fS H2 ⟨pA,uT G2⟩
  |rt v=>cases hf;exact q
  |rm v ag=>cases hf;exact fun fS v2 H2 pA G2 r2=>q fS v2 H2 pA (uT G2) r2
def gG (aX:List (Option Nat)) (gt:Dat->Option cX) (ft:aw->Option Bool) (fe:aw->Option Dat) (fi:aw->Option (List Dat)):aw->Option (List Dat):=fun ρ=>(fi ρ).bind fun ds=>if ds.length<sizeLine then cc gt ft fe (fJ aX ρ) ds else none
theorem AQ{aX:List (Option Nat)}{fe:aw->Option Dat}(ht:nJ gt aX):∀σ H Q,jN K (gG aX gt ft fe fi) σ H Q->tv aX (Jg K fi) (k9 K gt) (mM K ft) (tF K fe) σ H Q:=by
 rintro σ H Q ⟨Av,ρ,out,hA,hE,hf,q⟩;obtain⟨ds,e1,hf⟩:=bind_some hf;split at hf
 ·rename_i hz;refine⟨Av,ρ,ds,hA,hE,e1,fun J xs n8 H1 s1 r ov=>?_⟩;refine⟨fun i m ys H2=>m=ds.length-i/\i<=ds.length/\aW H1 H2/\∃o1 o2,ax K H2 Av ys o1/\o1.length<=i/\cc gt ft fe (fJ aX ρ) (ds.drop i)=some o2/\out=o1++o2,
   ⟨_,rfl,zero_le _,aW.refl _,[],out,.nil,le_refl _,by rw[drop_zero];exact hf,rfl⟩,?_⟩
  rintro i m ys H2 ⟨rfl,hi,s2,o1,o2,ro,hl,hc,rfl⟩;refine⟨by have:=ro.length;omega,?_⟩;have rx:=r.same s2;cases iq:ds[i]? with
  |none=>
   have hle:ds.length<=i:=List.getElem?_eq_none_iff.mp iq;rw[drop_eq_nil_of_le hle]at hc;cases hc;refine .inl ⟨(ov i H2 _ rx).1 hle,fun D hD=>q H2 D ys (s1.trans s2) hD (by rw[append_nil];exact ro)⟩
  |some di=>
   have fu:=fI iq;rw[drop_cons iq]at hc;obtain⟨as,a1,hc⟩:=bind_some (show(gt di).bind _=some o2 from hc);obtain⟨k,a2,hc⟩:=bind_some hc;obtain⟨go,yl⟩:=(ov i H2 _ rx).2 di iq;refine .inr ⟨go,fun y H' hy=>?_⟩;obtain⟨sH,ry⟩:=yl y H' (hA.same (s1.trans s2)) hy;refine⟨Av,di,as,ry,a1,fun ws hw=>?_⟩;have cs:∀p∈as,(cB aX σ)[p.1]?=some none:=fun p hp=>by
    unfold cB;rw[getElem?_map,ht di as a1 p hp];rfl
   have A2:=hA.same (s1.trans (s2.trans sH));have E2:fj K H' Av (oA (cB aX σ) ws) (ko (fJ aX ρ) as):=fj.j6 hw (by unfold cB fJ;rw[length_map,length_map]) ((hE.same (s1.trans (s2.trans sH))).aX aX);refine⟨eV.j6 hw cs (eV.refl _),Av,_,k,A2,E2,a2,fun H3 s3=>?_⟩;cases k with
   |false=>
    rw[if_neg Bool.false_ne_true]at hc ⊢;exact⟨ds.length-(i+1),by omega,rfl,by omega,s2.trans (sH.trans s3),o1,o2,ro.same (sH.trans s3),by omega,hc,rfl⟩
   |true=>
    rw[if_pos rfl]at hc ⊢;obtain⟨dv,a3,hc⟩:=bind_some hc;obtain⟨o3,a4,hc⟩:=bg hc;subst hc;refine⟨Av,_,dv,A2.same s3,E2.same s3,a3,fun v H4 s4 rv=>⟨ds.length-(i+1),by omega,rfl,by omega,s2.trans (sH.trans (s3.trans s4)),o1++[dv],o3,(ro.same (sH.trans (s3.trans s4))).append (.cons rv .nil),?_,a4,?_⟩⟩
    ·rw[length_append,length_singleton];omega
    ·rw[append_assoc];rfl
 ·cases hf
def ME (K:Fg) (f:aD->Option (List Dat×aD)):TE:=fun σ H Q=>∃aj Av pn aH Γ ad d ag,GA K aj Av pn aH H σ Γ ad/\f Γ=some (d,ag)/\∀H1 p xs jZ,GA K aj Av pn aH H1 σ ag jZ->H1 p=none->ax K H1 (aS Av ag jZ) xs d->Q (.ref p) (upd H1 p (.lst xs))
def hL (f:aD->Option (List Dat×aD)):HF:=fun Γ=>(f Γ).map fun p=>(.list p.1,p.2)
def nD:aw->aD:=fun ρ=>ρ.map fun o=>o.map Slot.a7
def n9 (gt:Dat->Option cX) (fe:HF) (tl:aD):List Dat->List Dat->Option (List Dat×List Dat)
 |[],ds=>some ([],ds)
 |x::r,ds=>(gt x).bind fun as=>(fe (setG (some (.own ds)::tl) as)).bind fun p=>match (p.2[0]? : Option (Option Slot))with
  |some (some (.own dQ))=>(n9 gt fe tl r dQ).map fun q=>(p.1::q.1,q.2)
  |_=>none
def mY (i:Nat) (fQ:List (Option Nat)) (gt:Dat->Option cX) (fe:HF) (fi:aw->Option (List Dat)):aD->Option (List Dat×aD):=fun Γ=>match Γ[i]? with
 |some (some (.own ds))=>(fi (bw Γ)).bind fun ak=>if ak.length<sizeLine then(n9 gt fe (nD (fJ fQ (bw Γ))) ak ds).map fun q=>(q.1,Γ.set i (some (.own q.2)))else none
 |_=>none
theorem HU{es:List Dat}(hi:Γ[i]?=some (some (.own ds))):bw (Γ.set i (some (.own es)))=bw Γ:=by
 unfold bw;apply List.ext_getElem?
 intro j;rw[getElem?_map,getElem?_map];by_cases e:j=i
 ·subst e;rw[getElem?_set_self (fI hi),hi];rfl
 ·rw[getElem?_set_ne (Ne.symm e)]
theorem mh{s:Slot}(h:(nD ρ)[j]?=some (some s)):∃d,s=.a7 d/\ρ[j]?=some (some d):=by
 unfold nD at h;rw[getElem?_map]at h;cases e:ρ[j]? with
 |none=>rw[e]at h;cases h
 |some o=>
  rw[e]at h;cases o with
  |none=>cases h
  |some d=>cases h;exact⟨d,rfl,rfl⟩
theorem Ik{a:Addr}{Mq:L2.St}{J5:aw}(hA:gK H Av)(ha:Av a)(hx:H a=some (.lst xs))(rx:ax K H Av xs ds)(E:fj K H Av Mq J5)(hl:Mq.length=J5.length):
  GA K (fun b=>if b=a then none else H b) (fun b=>Av b/\b≠a) (some a) [] H (some (.ref a)::Mq) (some (.own ds)::nD J5) (fun _=>a):=by
 have wk:∀b,aS (fun b=>Av b/\b≠a) (some (.own ds)::nD J5) (fun _=>a) b->Av b:=by
  rintro b (z|⟨i,fs,_,_,rfl⟩)
  ·exact z.1
  ·exact ha
 refine⟨fun b o h=>?_,fun b z=>?_,?_,fun i d h=>?_,fun i fs h=>?_,fun i j fs gs h1 h2 m1 m2 _=>?_,fun p hp=>absurd hp (by simp),(fun a' fs e _=>by cases e;rfl),fun i O fs h=>?_⟩
 ·split at h
  ·cases h
  ·exact h
 ·obtain⟨o,e⟩:=hA b z.1;exact⟨o,by rw[if_neg z.2];exact e⟩
 ·unfold nD;rw[length_cons,length_cons,length_map,hl]
 ·cases i with
  |zero=>cases h
  |succ i=>
   rw[getElem?_cons_succ]at h;obtain⟨d',e,h⟩:=mh h;cases e;obtain⟨v,hv,rv⟩:=E i d h;exact⟨v,by rw[getElem?_cons_succ];exact hv,rv.weak wk⟩
 ·cases i with
  |zero=>cases h;exact⟨xs,rfl,hx,rx.weak wk,by rw[if_pos rfl]⟩
  |succ i=>
   rw[getElem?_cons_succ]at h;obtain⟨_,e,_⟩:=mh h;cases e
 ·cases i with
  |succ i=>
   rw[getElem?_cons_succ]at h1;obtain⟨_,e,_⟩:=mh h1;rw[e]at m1;cases m1
  |zero=>
   cases j with
   |succ j=>
    rw[getElem?_cons_succ]at h2;obtain⟨_,e,_⟩:=mh h2;rw[e]at m2;cases m2
   |zero=>rfl
 ·cases i with
  |zero=>cases h
  |succ i=>
   rw[getElem?_cons_succ]at h;obtain⟨_,e,_⟩:=mh h;cases e
theorem GA.KR{Tn:fP}{σ:L2.St}(h:k0 K H Tn ws as)(hw:∀a,aS Av Γ ad a->Tn a)(G:GA K aj Av pn aH H σ Γ ad):
  GA K aj Av pn aH H (oA σ ws) (setG Γ as) ad:=by
 induction h generalizing σ Γ with
 |nil=>exact G
 | @cons i v d vs ds h r ih=>exact ih (σ:=σ.set i (some v)) (Γ:=Γ.set i (some (.a7 d))) (fun a z=>hw a (aS.jz a z)) (G.set i (h.weak hw))
variable {fQ:List (Option Nat)}
theorem KO{fe:HF}(ht:nJ gt (some i::fQ)):∀σ H Q,ME K (mY i fQ gt fe fi) σ H Q->tv (some i::fQ) (Jg K fi) (k9 K gt) Hb (tH K fe) σ H Q:=by
 rintro σ H Q ⟨aj,Av,pn,aH,Γ,ad,out,ag,G,hf,q⟩;unfold mY at hf;split at hf
 ·rename_i Kj hi;obtain⟨ak,e1,hf⟩:=bind_some hf;split at hf
  ·rename_i hz;obtain⟨⟨Nj,OF⟩,e2,hf⟩:=bg hf;obtain⟨h1,h2⟩:=Prod.mk.inj hf;subst h1 h2;clear hf;dsimp only at q;refine⟨aS Av Γ ad,bw Γ,ak,G.gR,G.j3,e1,fun J xs n8 H1 s1 rx ov=>?_⟩;refine⟨fun k m ys H2=>m=ak.length-k/\k<=ak.length/\∃xb o1 o2 df,GA K aj Av pn aH H2 σ (Γ.set i (some (.own xb))) ad/\ax K H2 (aS Av Γ ad) xs n8/\ax K H2 (aS Av Γ ad) ys o1/\o1.length<=k/\n9 gt fe (nD (fJ fQ (bw Γ))) (ak.drop k) xb=some (o2,df)/\Nj=o1++o2/\OF=df,
    ⟨_,rfl,zero_le _,Kj,[],Nj,OF,?_,rx,.nil,le_refl _,by rw[drop_zero];exact e2,rfl,rfl⟩,?_⟩
   ·have:Γ.set i (some (.own Kj))=Γ:=by
     apply List.ext_getElem?
     intro j;by_cases e:j=i
     ·subst e;rw[getElem?_set_self (fI hi),hi]
     ·rw[getElem?_set_ne (Ne.symm e)]
    rw[this];exact G.grow s1
   rintro k m ys H2 ⟨rfl,hk,xb,o1,o2,df,G2,rx,ro,hl,hc,rfl,rfl⟩;have RP:(Γ.set i (some (Slot.own xb)))[i]?=some (some (.own xb)):=getElem?_set_self (fI hi);refine⟨by have:=ro.length;omega,?_⟩;have WU:gK H2 (aS Av Γ ad):=fun b z=>G2.gR b (aS.lA hi b z);cases iq:ak[k]? with
   |none=>
    have hle:ak.length<=k:=List.getElem?_eq_none_iff.mp iq;rw[drop_eq_nil_of_le hle]at hc;cases hc;refine .inl ⟨(ov k H2 _ rx).1 hle,fun D hD=>q H2 D ys ad G2 hD ?_⟩;rw[append_nil];exact ro.weak (aS.set_own hi)
   |some di=>
    have fu:=fI iq;rw[drop_cons iq]at hc;obtain⟨as,a1,hc⟩:=bind_some (show(gt di).bind _=some (o2,OF)from hc);obtain⟨⟨dv,QV⟩,a2,hc⟩:=bind_some hc;dsimp only at hc;split at hc
    ·rename_i OG h0;obtain⟨⟨o3,WL⟩,a3,hc⟩:=bg hc;cases hc;obtain⟨go,yl⟩:=(ov k H2 _ rx).2 di iq;refine .inr ⟨go,fun y H' hy=>?_⟩;obtain⟨sH,ry⟩:=yl y H' WU hy;refine⟨aS Av Γ ad,di,as,ry,a1,fun ws hw=>?_⟩;have cs:∀p∈as,(cB (some i::fQ) σ)[p.1]?=some none:=fun p hp=>by
      unfold cB;rw[getElem?_map,ht di as a1 p hp];rfl
     have G3:=G2.grow sH;obtain⟨zs,g1,g2,g3,g4⟩:=G3.own i xb RP;have RT:cB (some i::fQ) σ=some (.ref (ad i))::cB fQ σ:=by
      unfold cB;rw[map_cons];show((σ[i]?).join)::_=_;rw[g1];rfl
     have E3:fj K H' (aS Av Γ ad) (cB fQ σ) (fJ fQ (bw Γ)):=by
      have:=G3.j3;rw[HU hi]at this;exact fj.aX (fun j d h=>let ⟨v,e,r⟩:=this j d h;⟨v,e,r.weak (aS.lA hi)⟩) fQ
     have WT:gK H' (aS Av Γ ad):=fun b z=>G3.gR b (aS.lA hi b z);have Gb:=Ik (K:=K) (a:=ad i) WT (.inr ⟨i,_,hi,rfl,rfl⟩) g2 (g3.weak (aS.lA hi)) E3 (by unfold cB fJ;rw[length_map,length_map]);have UN:∀b,aS (fun b=>aS Av Γ ad b/\b≠ad i) (some (.own xb)::nD (fJ fQ (bw Γ))) (fun _=>ad i) b->aS Av Γ ad b:=by
      rintro b (z|⟨_,_,_,_,rfl⟩)
      ·exact z.1
      ·exact .inr ⟨i,_,hi,rfl,rfl⟩
     rw[RT];rw[RT]at cs;refine⟨eV.j6 hw cs (eV.refl _),?_⟩;simp only[Hb,if_true];refine⟨_,_,some (ad i),[],_,_,dv,QV,GA.KR hw UN Gb,a2,fun v H4 Sk G4 r4=>?_⟩;obtain⟨us,u1,u2,u3,u4⟩:=G4.own 0 OG h0;have ea:Sk 0=ad i:=G4.pin _ _ rfl h0;have R0:∀b,aS Av Γ ad b->aS (fun b=>aS Av Γ ad b/\b≠ad i) QV Sk b:=fun b z=>by
      by_cases eb:b=ad i
      ·exact .inr ⟨0,_,h0,rfl,ea.trans eb.symm⟩
      ·exact .inl ⟨z,eb⟩
     have kk:∀b o,H' b=some o->b≠ad i->H4 b=some o:=fun b o h ne=>G4.same b o (by rw[if_neg ne];exact h);have kp:mG H' (aS Av Γ ad) H4 (aS Av Γ ad):=fun b o h n=>⟨kk b o h fun z=>n (.inr ⟨i,_,hi,rfl,z.symm⟩),n⟩;have G5:=G3.lend (es:=OG) RP kk (by rw[<- ea];exact u2) (u3.weak fun b z=>R0 b (aS.set_own (es:=xb) hi b z));rw[List.set_set]at G5;refine⟨ak.length-(k+1),by omega,rfl,by omega,OG,o1++[dv],o3,WL,G5,(rx.same sH).mono kp,((ro.same sH).mono kp).append (.cons (r4.weak R0) .nil),?_,a3,?_,rfl⟩
     ·rw[length_append,length_singleton];omega
     ·rw[append_assoc];rfl
    ·cases hc
  ·cases hf
 ·cases hf
theorem zT{tn fv:List Str}{js:List Nat}(mX:closureFor scope X.env=pure (fv.map fun x=>(x,(X.env.cells.lookup x).getD 0)))(hf:∀y∈scope.names,y.2=.free->y.1∈fv)(hc:∀y∈scope.names,y.2≠.cell)(hk:scope.kind=.function)(hn:∀y∈scope.names,y.2=.local->scope.names.lookup y.1=some .local)(nd:(tn++fv).Nodup)(hl:fv.length=js.length)(hs:∀x∈fv,∃c,X.env.cells.lookup x=some c)(hj:∀p∈fv.zip js,X.N[p.2]?=some p.1/\mE X.env.scope p.1/\((relabel scope X.env).names.lookup p.1=some .cell\/(relabel scope X.env).names.lookup p.1=some .free)/\X.env.scope.names.lookup p.1≠some .local):
  rR X scope (fv.map fun x=>(x,(X.env.cells.lookup x).getD 0)) (fv++tn) (js.map some++(tn.map fun _=>none)):=by
 have B:=fA (X:=X) (tn:=tn) (js:=js) mX hf hc hk hn nd hl hs hj;refine⟨B.IK,B.cells,B.kind,B.names,?_,by rw[length_append,length_append,length_map,length_map,hl],B.sub,B.has,fun i x j e1 e2=>?_⟩
 ·exact(List.perm_append_comm (l₁:=tn) (l₂:=fv)).nodup_iff.mp nd
 ·by_cases hi:i<fv.length
  ·rw[getElem?_append_left hi]at e1;rw[getElem?_append_left (by rw[length_map,<- hl];exact hi),getElem?_map]at e2;cases ej:js[i]? with
   |none=>rw[ej]at e2;cases e2
   |some j'=>
    rw[ej]at e2;cases e2;refine hj (x,j) (mem_of_getElem? (i:=i) ?_);rw[List.getElem?_zip_eq_some];exact⟨e1,ej⟩
  ·rw[getElem?_append_right (by rw[length_map,<- hl];omega),getElem?_map]at e2;cases ej:tn[i-(js.map some).length]? with
   |none=>rw[ej]at e2;cases e2
   |some j'=>rw[ej]at e2;cases e2
set_option maxHeartbeats 4000000
open PySem PySem.Spec PyProof.Rows L2
open PySem.W (Dat kqdOk)
def lx:Bool->Heap->Addr->Array Value->Prop
 |true,h,a,ak=>h.IsList a ak
 |false,h,a,ak=>h.IsTuple a ak
def iU:Bool->Heap->Addr->Addr->Nat->Prop
 |true,h,it,a,i=>h.IsListIter it a i
 |false,h,it,a,i=>h.IsTupleIter it a i
variable {k:Bool} {h h':Heap} {a:Addr} {ak:Array Value}
theorem lx.on(x:lx k h a ak)(e:∀o,h.get? a=some o->h'.get? a=some o):lx k h' a ak:=by
 cases k<;>exact let ⟨o,ho,r⟩:=x;⟨o,e o ho,r⟩
variable {it:Addr}
theorem iU.on(x:iU k h it a i)(e:∀o,h.get? it=some o->h'.get? it=some o):iU k h' it a i:=by
 cases k<;>exact let ⟨o,ho,r⟩:=x;⟨o,e o ho,r⟩
theorem iU.obj(x:iU k h it a i):∃o,h.get? it=some o/\∀v,o.data≠.cell v:=by
 cases k<;>exact let ⟨o,ho,_,hd⟩:=x;⟨o,ho,fun v z=>by rw[hd]at z;cases z⟩
theorem lx.obj(x:lx k h a ak):∃o,h.get? a=some o:=by
 cases k<;>exact let ⟨o,ho,_⟩:=x;⟨o,ho⟩
variable {prog:Program} {E Q:Value->Shared->Prop} {A:Around}
variable {s:Shared} in
theorem Dl{ii la:Addr}{x:Value}(hit:iU k s.heap ii la i)(hq:lx k s.heap la ak)(hx:ak[i]?=some x)(hQ:∀h',iU k h' ii la (i+1)->SameBut ii s.heap h'->Q x {s with heap:=h'}):wpAny (model prog w) A (Builtin.SmallTypes.nextOf (.ref ii)) Q E s:=by
 cases k with
 |true=>exact wpAny_nextOf_list_item hit hq hx hQ
 |false=>
  have sL:s.heap.IsTupleIter ii la i:=hit;obtain⟨oi,pi,ci,di⟩:=id sL;obtain⟨oa,pa,_,na,da⟩:=(show s.heap.IsTuple la ak from hq);unfold Builtin.SmallTypes.nextOf;refine wpAny_bind (wpAny_callSpecial?_slot (name:=Str.ofString "__next__") sL.typeIs F.slot_tuple_iterator_next (wpAny_call_entry F.slot_tuple_iterator_next sL.typeIs F.entry_tuple_iterator_next ?_ (F.args_tuple_iterator_next_1 _)));show wpAny _ _ (field (.ref ii) 0 >>= _) _ _ s;refine wpAny_bind (wpAny_field pi di (x:=.ref la) rfl ?_);show wpAny _ _ (if(Value.ref la==Value.none)=true then _ else _) _ _ s;rw[if_neg (show ¬((Value.ref la==Value.none)=true)from Bool.false_ne_true)];show wpAny _ _ (field (.ref ii) 1 >>= _) _ _ s;refine wpAny_bind (wpAny_field pi di (x:=.int i 0) rfl ?_);show wpAny _ _ (seqItems? (.ref la) >>= _) _ _ s;refine wpAny_bind (wpAny_seqItems pa da ?_);simp only[hx,toNat_natCast];exact wpAny_bind (wpAny_setField pi di (by simp) (wpAny_pure ⟨x,rfl,wpAny_pure (hQ _ ⟨_,Heap.get?_update_self _ pi (Obj.isFreed_of_fields (Obj.data_mapFields di _)),(Obj.cls_mapFields ..).trans ci,by rw[Obj.data_mapFields di];simp[rawInt]⟩ (SameBut.update ..))⟩))
variable {s:Shared} in
theorem xc{ii la:Addr}(hh:A.handled=none)(hit:iU k s.heap ii la i)(hq:lx k s.heap la ak)(hx:ak[i]?=none)(hE:∀h' e,Heap.ExtBut ii s.heap h'->(∃o,h'.get? e=some o/\o.cls=.type "StopIteration")->E (.ref e) {s with heap:=h'}):wpAny (model prog w) A (Builtin.SmallTypes.nextOf (.ref ii)) Q E s:=by
 cases k with
 |true=>exact wpAny_nextOf_list_end hh hit hq hx hE
 |false=>
  have sL:s.heap.IsTupleIter ii la i:=hit;obtain⟨oi,pi,ci,di⟩:=id sL;obtain⟨oa,pa,_,na,da⟩:=(show s.heap.IsTuple la ak from hq);unfold Builtin.SmallTypes.nextOf;refine wpAny_bind (wpAny_callSpecial?_slot (name:=Str.ofString "__next__") sL.typeIs F.slot_tuple_iterator_next (wpAny_call_entry F.slot_tuple_iterator_next sL.typeIs F.entry_tuple_iterator_next ?_ (F.args_tuple_iterator_next_1 _)));show wpAny _ _ (field (.ref ii) 0 >>= _) _ _ s;refine wpAny_bind (wpAny_field pi di (x:=.ref la) rfl ?_);show wpAny _ _ (if(Value.ref la==Value.none)=true then _ else _) _ _ s;rw[if_neg (show ¬((Value.ref la==Value.none)=true)from Bool.false_ne_true)];show wpAny _ _ (field (.ref ii) 1 >>= _) _ _ s;refine wpAny_bind (wpAny_field pi di (x:=.int i 0) rfl ?_);show wpAny _ _ (seqItems? (.ref la) >>= _) _ _ s;refine wpAny_bind (wpAny_seqItems pa da ?_);simp only[hx,toNat_natCast];refine wpAny_bind (wpAny_rule (wpAny_bind (wpAny_setField pi di (by simp) (?_:wpAny _ _ (newExc (.type "StopIteration") [] >>= _) _ _ _))));refine wpAny_bind (by
   simp only[newExc,newTuple];exact wpAny_bind (wpAny_newObj_type (wpAny_bind (m:=firstArgMember _ _) (wpAny_of_eq (a:=Value.none) (by first|rfl|(simp only[firstArgMember];rfl)) (wpAny_newObj_type (by
    simp only[raiseNew];exact wpAny_bind (wpAny_handled (by
     (first|rw[show A.in1.handled=none from hh]|rw[hh])
     exact wpAny_bind (wpAny_pure (wpAny_throw (hE _ _ (((SameBut.update ..).extBut.push _).push _) ⟨_,get?_push_size _ rfl,rfl⟩)))))) (by size_fits)))) (by size_fits)))
abbrev Ko (h:Heap) (z TI TO i1 i2:Addr) (f0:Value) (x y:Value):Prop:=IsZip h z TI TO f0/\IsPair h TI (.ref i1) (.ref i2)/\IsPair h TO x y
variable {k1 k2:Bool} {z i1 i2 l1 l2:Addr} {n1 n2:Nat} {xs ys:Array Value}
variable {s:Shared} in
theorem DQ{TI TO:Addr}{x y a b:Value}(D:ZipApart z TI TO i1 i2 l1 l2)(Z:Ko s.heap z TI TO i1 i2 .none a b)(w1:iU k1 s.heap i1 l1 n1)(w2:iU k2 s.heap i2 l2 n2)(q1:lx k1 s.heap l1 xs)(q2:lx k2 s.heap l2 ys)(hx:xs[n1]?=some x)(hy:ys[n2]?=some y)(hQ:∀h',IsZip h' z TI TO (rawInt s.heap.objs.size)->IsPair h' TO x y->iU k1 h' i1 l1 (n1+1)->iU k2 h' i2 l2 (n2+1)->IsPair h' s.heap.objs.size x y->
   (∀c o,c≠z->c≠TO->c≠i1->c≠i2->s.heap.get? c=some o->h'.get? c=some o)->Q (.ref s.heap.objs.size) {s with heap:=h'}):
  wpAny (model prog w) A (Builtin.«zip.__next__» ⟨[.ref z],[]⟩) (fun fin s'=>∃v,fin=.done (.ret v)/\Q v s') E s:=by
 obtain⟨Zz,ZI,ZO⟩:=Z;refine(?_:wpAny _ _ (field (.ref z) 2 >>= _) _ _ _);refine wpAny_bind (wpAny_field Zz rfl (x:=.bool false) rfl (?_:wpAny _ _ (field (.ref z) 3 >>= _) _ _ _));refine wpAny_bind (wpAny_field Zz rfl (x:=.ref TI) rfl (wpAny_bind (wpAny_seqItems ZI rfl ?_)));refine(?_:wpAny _ _ (Builtin.SmallTypes.ownedTupleIsFree (.ref z) >>= _) _ _ _);refine wpAny_bind (by
  unfold Builtin.SmallTypes.ownedTupleIsFree;exact wpAny_bind (wpAny_field Zz rfl (x:=.none) rfl (wpAny_pure (by
   simp only[if_true];refine wpAny_bind (wpAny_rule (wpAny_bind (wpAny_field Zz rfl (x:=.ref TO) rfl (wpAny_bind (wpAny_setField_rec Zz (by simp) fun g1 z1 m1=>?_)))));have J6:IsZip g1 z TI TO .ellipsis:=z1;refine wpAny_bind ?_;simp only[List.forIn_cons,List.forIn_nil,List.zipIdx_cons,List.zipIdx_nil];refine wpAny_bind (wpAny_bind (wpAny_onRaise (?_:wpAny _ _ (Builtin.SmallTypes.nextOf (.ref i1) >>= _) _ _ _)));refine wpAny_bind (Dl (w1.on fun o e=>m1.extBut _ _ D.i1z e) (q1.on fun o e=>m1.extBut _ _ D.l1z e) hx fun g2 v2 m2=>wpAny_pure ?_);have o2:IsPair g2 TO a b:=m2.extBut _ _ D.TOi1 (m1.extBut _ _ D.TOz ZO);refine wpAny_bind (wpAny_seqItems o2 rfl (wpAny_bind (wpAny_updateSeq_pair o2 fun g3 p3 m3=>wpAny_bind (wpAny_letGo (wpAny_pure ?_)))));have o3:IsPair g3 TO x b:=p3;refine wpAny_bind (wpAny_bind (wpAny_onRaise (?_:wpAny _ _ (Builtin.SmallTypes.nextOf (.ref i2) >>= _) _ _ _)));refine wpAny_bind (Dl (w2.on fun o e=>m3.extBut _ _ D.TOi2.symm (m2.extBut _ _ D.i12.symm (m1.extBut _ _ D.i2z e))) (q2.on fun o e=>m3.extBut _ _ D.l2TO (m2.extBut _ _ D.l2i1 (m1.extBut _ _ D.l2z e))) hy fun g4 v4 m4=>wpAny_pure ?_);have o4:IsPair g4 TO x b:=m4.extBut _ _ D.TOi2 o3;refine wpAny_bind (wpAny_seqItems o4 rfl (wpAny_bind (wpAny_updateSeq_pair o4 fun g5 p5 m5=>wpAny_bind (wpAny_letGo (wpAny_pure (wpAny_pure ?_))))));have o5:IsPair g5 TO x y:=p5;refine wpAny_bind (wpAny_seqItems o5 rfl (wpAny_bind (wpAny_newTuple ?_)));have sz:g5.objs.size=s.heap.objs.size:=by rw[m5.1,m4.1,m3.1,m2.1,m1.1]
   have z5:IsZip g5 z TI TO .ellipsis:=m5.extBut _ _ D.TOz.symm (m4.extBut _ _ D.i2z.symm (m3.extBut _ _ D.TOz.symm (m2.extBut _ _ D.i1z.symm J6)));have k5:∀c o,c≠z->c≠TO->c≠i1->c≠i2->s.heap.get? c=some o->g5.get? c=some o:=fun c o a1 a2 a3 a4 e=>m5.extBut _ _ a2 (m4.extBut _ _ a4 (m3.extBut _ _ a2 (m2.extBut _ _ a3 (m1.extBut _ _ a1 e))));have v5:iU k1 g5 i1 l1 (n1+1):=v2.on fun o e=>m5.extBut _ _ D.TOi1.symm (m4.extBut _ _ D.i12 (m3.extBut _ _ D.TOi1.symm e));have v6:iU k2 g5 i2 l2 (n2+1):=v4.on fun o e=>m5.extBut _ _ D.TOi2.symm e;have zl:z<g5.objs.size:=lt_size z5;refine(?_:wpAny _ _ (Builtin.SmallTypes.ownedTupleHandOut (.ref z) (.ref g5.objs.size) >>= _) _ _ _);refine wpAny_bind (by
    unfold Builtin.SmallTypes.ownedTupleHandOut;have z6:IsZip (g5.push {cls:=.type "tuple",data:=.seq #[x,y]}) z TI TO .ellipsis:=get?_push_of_some _ z5;refine wpAny_bind (wpAny_setField_rec z6 (by simp) fun g7 z7 m7=>?_);have UK:IsZip g7 z TI TO (rawInt g5.objs.size):=z7;refine wpAny_setField_rec UK (by simp) fun g8 z8 m8=>?_;have QY:IsZip g8 z TI TO (rawInt g5.objs.size):=z8;have up:∀c o,c≠z->g5.get? c=some o->g8.get? c=some o:=fun c o c1 e=>m8.extBut _ _ c1 (m7.extBut _ _ c1 (get?_push_of_some _ e));have t8:IsPair g8 g5.objs.size x y:=m8.extBut _ _ (Nat.ne_of_gt zl) (m7.extBut _ _ (Nat.ne_of_gt zl) (get?_push_size _ rfl));rw[sz]at QY t8;refine wpAny_pure ⟨_,rfl,(?_:Q (.ref g5.objs.size) _)⟩;rw[sz];exact hQ g8 QY (up _ _ D.TOz o5) (v5.on fun o e=>up _ o D.i1z e) (v6.on fun o e=>up _ o D.i2z e) t8 fun c o c1 c2 c3 c4 e=>up c o c1 (k5 c o c1 c2 c3 c4 e)))))
  )
variable {s:Shared} in
theorem DP{TI TO:Addr}{a b:Value}{Q:Fin->Shared->Prop}(hh:A.handled=none)(D:ZipApart z TI TO i1 i2 l1 l2)(Z:Ko s.heap z TI TO i1 i2 .none a b)(w1:iU k1 s.heap i1 l1 n1)(w2:iU k2 s.heap i2 l2 n2)(q1:lx k1 s.heap l1 xs)(q2:lx k2 s.heap l2 ys)(Ig:xs[n1]?=none\/ys[n2]?=none)(hE:∀h' e,(∀c o,c≠z->c≠TO->c≠i1->c≠i2->s.heap.get? c=some o->h'.get? c=some o)->(∃o,h'.get? e=some o/\o.cls=.type "StopIteration")->E (.ref e) {s with heap:=h'}):
  wpAny (model prog w) A (Builtin.«zip.__next__» ⟨[.ref z],[]⟩) Q E s:=by
 obtain⟨Zz,ZI,ZO⟩:=Z;refine(?_:wpAny _ _ (field (.ref z) 2 >>= _) _ _ _);refine wpAny_bind (wpAny_field Zz rfl (x:=.bool false) rfl (?_:wpAny _ _ (field (.ref z) 3 >>= _) _ _ _));refine wpAny_bind (wpAny_field Zz rfl (x:=.ref TI) rfl (wpAny_bind (wpAny_seqItems ZI rfl ?_)));refine(?_:wpAny _ _ (Builtin.SmallTypes.ownedTupleIsFree (.ref z) >>= _) _ _ _);refine wpAny_bind (by
  unfold Builtin.SmallTypes.ownedTupleIsFree;exact wpAny_bind (wpAny_field Zz rfl (x:=.none) rfl (wpAny_pure (by
   simp only[if_true];refine wpAny_bind (wpAny_rule (wpAny_bind (wpAny_field Zz rfl (x:=.ref TO) rfl (wpAny_bind (wpAny_setField_rec Zz (by simp) fun g1 z1 m1=>?_)))));have J6:IsZip g1 z TI TO .ellipsis:=z1;refine wpAny_bind ?_;simp only[List.forIn_cons,List.forIn_nil,List.zipIdx_cons,List.zipIdx_nil];refine wpAny_bind (wpAny_bind (wpAny_onRaise (?_:wpAny _ _ (Builtin.SmallTypes.nextOf (.ref i1) >>= _) _ _ _)));cases hx:xs[n1]? with
   |none=>
    refine wpAny_bind (xc hh (w1.on fun o e=>m1.extBut _ _ D.i1z e) (q1.on fun o e=>m1.extBut _ _ D.l1z e) hx fun g2 e m2 he=>?_);obtain⟨oe,pe,ce⟩:=he;have z2:IsZip g2 z TI TO .ellipsis:=m2 _ _ D.i1z.symm J6;have ez:e≠z:=fun x=>by subst x;rw[z2]at pe;cases pe;simp at ce
    exact wpAny_setField_rec z2 (by simp) fun g3 _ m3=>hE g3 e (fun c o c1 _ c3 _ x=>m3.extBut _ _ c1 (m2 _ _ c3 (m1.extBut _ _ c1 x))) ⟨oe,m3.extBut _ _ ez pe,ce⟩
   |some x=>
    have hy:ys[n2]?=none:=Ig.elim (fun h=>by rw[hx]at h;cases h) id;refine wpAny_bind (Dl (w1.on fun o e=>m1.extBut _ _ D.i1z e) (q1.on fun o e=>m1.extBut _ _ D.l1z e) hx fun g2 v2 m2=>wpAny_pure ?_);have o2:IsPair g2 TO a b:=m2.extBut _ _ D.TOi1 (m1.extBut _ _ D.TOz ZO);refine wpAny_bind (wpAny_seqItems o2 rfl (wpAny_bind (wpAny_updateSeq_pair o2 fun g3 p3 m3=>wpAny_bind (wpAny_letGo (wpAny_pure ?_)))));refine wpAny_bind (wpAny_bind (wpAny_onRaise (?_:wpAny _ _ (Builtin.SmallTypes.nextOf (.ref i2) >>= _) _ _ _)));refine wpAny_bind (xc hh (w2.on fun o e=>m3.extBut _ _ D.TOi2.symm (m2.extBut _ _ D.i12.symm (m1.extBut _ _ D.i2z e))) (q2.on fun o e=>m3.extBut _ _ D.l2TO (m2.extBut _ _ D.l2i1 (m1.extBut _ _ D.l2z e))) hy fun g4 e m4 he=>?_);obtain⟨oe,pe,ce⟩:=he;have z4:IsZip g4 z TI TO .ellipsis:=m4 _ _ D.i2z.symm (m3.extBut _ _ D.TOz.symm (m2.extBut _ _ D.i1z.symm J6));have ez:e≠z:=fun x=>by subst x;rw[z4]at pe;cases pe;simp at ce
    exact wpAny_setField_rec z4 (by simp) fun g5 _ m5=>hE g5 e (fun c o c1 c2 c3 c4 x=>m5.extBut _ _ c1 (m4 _ _ c4 (m3.extBut _ _ c2 (m2.extBut _ _ c3 (m1.extBut _ _ c1 x))))) ⟨oe,m5.extBut _ _ ez pe,ce⟩))))
def kH (k:Bool) (l:Addr):Obj:={cls:=.type (if k then "list_iterator" else "tuple_iterator"),data:=.fields #[.ref l,.int 0 0]}
def tj (k1 k2:Bool) (h:Heap) (l1 l2:Addr):Heap:=(h.push (kH k1 l1)).push (kH k2 l2)
def AG (k1 k2:Bool) (h:Heap) (l1 l2:Addr):Heap:=((tj k1 k2 h l1 l2).push {cls:=.type "tuple",data:=.seq #[.ref h.objs.size,.ref (h.push (kH k1 l1)).objs.size]}).push {cls:=.type "tuple",data:=.seq #[.none,.none]}
def rz (k1 k2:Bool) (h:Heap) (l1 l2:Addr):Heap:=(AG k1 k2 h l1 l2).push {cls:=.type "zip",data:=.fields #[.none,.bool false,.bool false,.ref (tj k1 k2 h l1 l2).objs.size,.ref ((tj k1 k2 h l1 l2).push {cls:=.type "tuple",data:=.seq #[.ref h.objs.size,.ref (h.push (kH k1 l1)).objs.size]}).objs.size]}
variable {s:Shared} in
theorem GZ(k1 k2:Bool)(l1 l2:Addr)(xs ys:Array Value):
  Meets (Builtin.«zip.__new__» ⟨[.type "zip",.ref l1,.ref l2],[]⟩) (fun _ R s=>lx k1 s.heap l1 xs/\lx k2 s.heap l2 ys/\R (.ok (.ret (.ref (AG k1 k2 s.heap l1 l2).objs.size))) {s with heap:=rz k1 k2 s.heap l1 l2}):=
 .of_wp fun prog w A R s h=>by
  obtain⟨hp,g,d,tk,os⟩:=s;obtain⟨c1,c2,h⟩:=h;have Ua:=sub_zip;cases k1<;>cases k2
  ·have e1:IsTuple (Shared.heap ⟨hp,g,d,tk,os⟩) l1 xs:=c1;have e2:IsTuple (Shared.heap ⟨hp.push {cls:=.type "tuple_iterator",data:=.fields #[.ref l1,.int 0 0]},g,d,tk,os⟩) l2 ys:=IsTuple.push c2 _;wp_walk using wpAny_pyIter_tuple e1,wpAny_pyIter_tuple e2
   exact⟨_,rfl,h⟩
  ·have e1:IsTuple (Shared.heap ⟨hp,g,d,tk,os⟩) l1 xs:=c1;have e2:IsList (Shared.heap ⟨hp.push {cls:=.type "tuple_iterator",data:=.fields #[.ref l1,.int 0 0]},g,d,tk,os⟩) l2 ys:=IsList.push c2 _;wp_walk using wpAny_pyIter_tuple e1,wpAny_pyIter_list e2
   exact⟨_,rfl,h⟩
  ·have e1:IsList (Shared.heap ⟨hp,g,d,tk,os⟩) l1 xs:=c1;have e2:IsTuple (Shared.heap ⟨hp.push {cls:=.type "list_iterator",data:=.fields #[.ref l1,.int 0 0]},g,d,tk,os⟩) l2 ys:=IsTuple.push c2 _;wp_walk using wpAny_pyIter_list e1,wpAny_pyIter_tuple e2
   exact⟨_,rfl,h⟩
  ·have e1:IsList (Shared.heap ⟨hp,g,d,tk,os⟩) l1 xs:=c1;have e2:IsList (Shared.heap ⟨hp.push {cls:=.type "list_iterator",data:=.fields #[.ref l1,.int 0 0]},g,d,tk,os⟩) l2 ys:=IsList.push c2 _;wp_walk using wpAny_pyIter_list e1,wpAny_pyIter_list e2
   exact⟨_,rfl,h⟩
variable {s:Shared} in
theorem Gz(c1:lx k1 s.heap l1 xs)(c2:lx k2 s.heap l2 ys)(h:∀h' z TI TO i1 i2,ZipApart z TI TO i1 i2 l1 l2->Ko h' z TI TO i1 i2 .none .none .none->iU k1 h' i1 l1 0->iU k2 h' i2 l2 0->(∀c o,s.heap.get? c=some o->h'.get? c=some o)->(∀b∈[z,TI,TO,i1,i2],s.heap.objs.size<=b)->Q (.ref z) {s with heap:=h'}):
  wpAny (model prog w) A (call (.type "zip") [.ref l1,.ref l2]) Q E s:=by
 obtain⟨o1,p1⟩:=c1.obj;obtain⟨o2,p2⟩:=c2.obj;refine callType_new F.called_zip (by decide) (F.typeCall_zip_2 _ _) (F.newCall_zip_2 _ _) (fun obj=>F.args_object_init_3 obj _ _) F.entry_zip_new (GZ k1 k2 l1 l2 xs ys) ⟨c1,c2,?_⟩;generalize hn:s.heap.objs.size=n;have Vb:l1<n:=hn▸lt_size p1;have Ny:l2<n:=hn▸lt_size p2;have y1:(s.heap.push (kH k1 l1)).objs.size=n+1:=by rw[size_push,hn]
 have y2:(tj k1 k2 s.heap l1 l2).objs.size=n+2:=by unfold tj;rw[size_push,y1]
 have y3:((tj k1 k2 s.heap l1 l2).push {cls:=.type "tuple",data:=.seq #[.ref s.heap.objs.size,.ref (s.heap.push (kH k1 l1)).objs.size]}).objs.size=n+3:=by rw[size_push,y2]
 have y4:(AG k1 k2 s.heap l1 l2).objs.size=n+4:=by unfold AG;rw[size_push,y3]
 have Mv:∀c o,(AG k1 k2 s.heap l1 l2).get? c=some o->(rz k1 k2 s.heap l1 l2).get? c=some o:=fun c o e=>get?_push_of_some _ e;have Mw:∀c o,(tj k1 k2 s.heap l1 l2).get? c=some o->(rz k1 k2 s.heap l1 l2).get? c=some o:=fun c o e=>Mv c o (get?_push_of_some _ (get?_push_of_some _ e));have f5:(rz k1 k2 s.heap l1 l2).get? (AG k1 k2 s.heap l1 l2).objs.size=some _:=get?_push_size _ rfl;have f4:(rz k1 k2 s.heap l1 l2).get? ((tj k1 k2 s.heap l1 l2).push {cls:=.type "tuple",data:=.seq #[.ref s.heap.objs.size,.ref (s.heap.push (kH k1 l1)).objs.size]}).objs.size=some _:=Mv _ _ (get?_push_size _ rfl);have f3:(rz k1 k2 s.heap l1 l2).get? (tj k1 k2 s.heap l1 l2).objs.size=some _:=Mv _ _ (get?_push_of_some _ (get?_push_size _ rfl));have f2:(rz k1 k2 s.heap l1 l2).get? (s.heap.push (kH k1 l1)).objs.size=some (kH k2 l2):=Mw _ _ (get?_push_size _ (by cases k2<;>rfl));have f1:(rz k1 k2 s.heap l1 l2).get? s.heap.objs.size=some (kH k1 l1):=Mw _ _ (get?_push_of_some _ (get?_push_size _ (by cases k1<;>rfl)));rw[y2,y3,y4]at f5;rw[y3]at f4;rw[y2,y1,hn]at f3;rw[y1]at f2;rw[hn]at f1;have r1:iU k1 (rz k1 k2 s.heap l1 l2) n l1 0:=by cases k1<;>exact⟨_,f1,rfl,rfl⟩
 have r2:iU k2 (rz k1 k2 s.heap l1 l2) (n+1) l2 0:=by cases k2<;>exact⟨_,f2,rfl,rfl⟩
 refine(?_:_/\_);rw[y4];refine⟨⟨_,f5,rfl⟩,h _ (n+4) (n+2) (n+3) n (n+1) (zipApart_new Vb Ny) ⟨f5,f3,f4⟩ r1 r2 (fun c o e=>Mw _ _ (get?_push_of_some _ (get?_push_of_some _ e))) fun b hb=>?_⟩;rw[hn];simp only[mem_cons,not_mem_nil,or_false]at hb;rcases hb with e|e|e|e|e<;>(rw[e];first|exact le_refl _|exact le_add_right _ _)
open PySem PySem.Spec PyProof.Rows L2
open PySem.W (Dat kqdOk)
variable {pins:List (Addr×Obj)}
variable {s:Shared} in
theorem qN{t':Nat}{ch:List Addr}(I:Inv X pins σ H s)(k:∀b o,b∉ch->s.heap.get? b=some o->h'.get? b=some o)(hf:∀b∈ch,p0 X pins H b):Inv X pins σ H {s with heap:=h',toks:=t'}:=by
 have out:∀b u,H b=some u->b∉ch:=fun b u e z=>by rw[(hf b z).1]at e;cases e
 refine I.step (g':=s.gens) (d':=s.drawn) (ch:=ch) (fun b hb=>?_) (fun b o _ _ hc e _=>k b o hc e) (fun b o _ _ hc e _=>⟨o.slots,k b o hc e⟩) (fun _ _ _ _ n=>n)
  (fun b o hc e=>⟨o,k b o hc e⟩) (fun _ _ e=>e) (fun _ _ _ e=>e) (fun b ps e=>⟨#[],by rw[e];simp⟩) (fun m hm=>?_) (fun b u e=>?_) I.bare
 ·obtain⟨_,f1,_,f3,f4,f5⟩:=hf b hb;exact⟨f3,f1,f4,f5⟩
 ·obtain⟨o,es,ep,ho,r⟩:=hm;exact⟨o,es,ep,k _ o (fun z=>(hf _ z).2.1 rfl) ho,r⟩
 ·refine(I.bh b u e).nB (fun c v hc q=>k c v (hc.elim (fun z=>by rw[z];exact out b u e) fun z=>out c _ z) q) (fun _ q=>q) fun _ _ q=>q
def pB (K:Fg):Bool->Hp->Addr->List V->Prop
 |true,H,a,xs=>fw K H a xs
 |false,H,a,xs=>iT K H a xs
variable {xs:List V}
theorem uX{σ:L2.St}{s:Shared}(I:Inv X pins σ H s)(h:pB X.K k H a xs):∃ak:List Value,Vals xs ak/\lx k s.heap a ak.toArray:=by
 cases k with
 |true=>obtain⟨ak,r,p,_⟩:=I.list h;exact⟨ak,r,p.isList⟩
 |false=>obtain⟨ak,r,p,_⟩:=I.tuple h;exact⟨ak,r,show s.heap.IsTuple a ak.toArray from p⟩
theorem y6{σ:L2.St}{s:Shared}{ys:List V}(I:Inv X pins σ H s)(h:pB X.K k H a xs)(h':pB X.K k H a ys):xs=ys:=by
 cases k with
 |true=>exact I.sI h h'
 |false=>exact I.vV h h'
def SS (K:Fg) (k1 k2:Bool) (a1 a2:Addr):It:=
 ⟨fun i H=>∃xs ys x y,pB K k1 H a1 xs/\pB K k2 H a2 ys/\xs[i]?=some x/\ys[i]?=some y,
  fun i H v H'=>∃T x y,v=.ref T/\H T=none/\H'=upd H T (.tup [x,y])/\∀xs ys,pB K k1 H a1 xs->pB K k2 H a2 ys->xs[i]?=some x/\ys[i]?=some y,
  fun i H=>∃xs ys,pB K k1 H a1 xs/\pB K k2 H a2 ys/\(xs.length<=i\/ys.length<=i)⟩
variable {kt:Nat} {a1 a2:Addr}
theorem Ha{dN:List Expr}{pt:Pos}{TI TO:Addr}(D:ZipApart z TI TO i1 i2 a1 a2):
  Turn P w K (.Tuple dN kt pt) (SS K k1 k2 a1 a2) [z,TI,TO,i1,i2] z (fun i h=>(∃a b,Ko h z TI TO i1 i2 .none a b)/\iU k1 h i1 a1 i/\iU k2 h i2 a2 i) where
 mem:=mem_cons_self
 obj:=fun i h st b hb=>by
  obtain⟨⟨u,v,Z1,Z2,Z3⟩,w1,w2⟩:=st;simp only[mem_cons,not_mem_nil,or_false]at hb;rcases hb with e|e|e|e|e
  ·rw[e];exact⟨_,Z1,fun v z=>nomatch z⟩
  ·rw[e];exact⟨_,Z2,fun v z=>nomatch z⟩
  ·rw[e];exact⟨_,Z3,fun v z=>nomatch z⟩
  ·rw[e];exact w1.obj
  ·rw[e];exact w2.obj
 keep:=fun i h h' st k=>by
  obtain⟨⟨u,v,Z1,Z2,Z3⟩,w1,w2⟩:=st;exact⟨⟨u,v,k z (by simp) _ Z1,k TI (by simp) _ Z2,k TO (by simp) _ Z3⟩,w1.on (k i1 (by simp)),w2.on (k i2 (by simp))⟩
 item:=by
  intro X hP hw hK hc i pins s σ H E I hf st hg;subst hP hw hK;obtain⟨⟨u,v,Z⟩,w1,w2⟩:=st;obtain⟨xs,ys,x,y,c1,c2,hx,hy⟩:=hg;obtain⟨CP,r1,p1⟩:=uX I c1;obtain⟨iY,r2,p2⟩:=uX I c2;obtain⟨ux,O0,rx⟩:=r1.get hx;obtain⟨uy,Vm,ry⟩:=r2.get hy;have hT:s.TypeIs (.ref z) "zip":=⟨_,Z.1,rfl⟩;have lt:∀b∈[z,TI,TO,i1,i2],b<s.heap.objs.size:=fun b hb=>by
   simp only[mem_cons,not_mem_nil,or_false]at hb;rcases hb with e|e|e|e|e
   ·rw[e];exact lt_size Z.1
   ·rw[e];exact lt_size Z.2.1
   ·rw[e];exact lt_size Z.2.2
   ·rw[e];obtain⟨o,q,_⟩:=w1.obj;exact lt_size q
   ·rw[e];obtain⟨o,q,_⟩:=w2.obj;exact lt_size q
  unfold pyNext;refine wpAny_bind (wpAny_attempt (wpAny_callSpecial?_slot (name:=Str.ofString "__next__") hT F.slot_zip_next (wpAny_call_entry F.slot_zip_next hT F.entry_zip_next (DQ D Z w1 w2 p1 p2 (x:=ux) (y:=uy) (by simpa using O0) (by simpa using Vm) fun g b1 b2 b3 b4 b5 b6=>wpAny_pure ?_) (F.args_zip_next_1 _))));refine⟨_,rfl,wpAny_letOwnedTupleGo_zip (s:={s with heap:=g}) b1 fun g' b7 b8=>?_⟩;have In:Inv X pins σ (upd H s.heap.objs.size (.tup [x,y])) {s with heap:=s.heap.push {cls:=.type "tuple",data:=.seq #[ux,uy]},toks:=s.toks}:=
   I.laid (t':=s.toks) (fun b u e=>get?_push_of_some _ e) (le_refl _) ⟨by show 2<=sizeLine;decide,[ux,uy],.cons rx (.cons ry .nil),⟨_,get?_push_size _ rfl,rfl,_,rfl⟩⟩
  have ui:∀b∈[z,TI,TO,i1,i2],(upd H s.heap.objs.size (.tup [x,y])) b=none:=fun b hb=>by
   rw[bz (ne_of_lt (lt b hb))];exact(hf b hb).1
  have cn:∀b,b∉[z,TI,TO,i1,i2]->b≠z/\b≠TO/\b≠i1/\b≠i2:=fun b h=>by
   simp only[mem_cons,not_mem_nil,or_false,not_or]at h;exact⟨h.1,h.2.2.1,h.2.2.2.1,h.2.2.2.2⟩
  have nT:s.heap.objs.size≠z:=Nat.ne_of_gt (lt z (by simp));have I3:Inv X pins σ (upd H s.heap.objs.size (.tup [x,y])) {s with heap:=g',toks:=s.toks}:=qN (s:={s with heap:=s.heap.push {cls:=.type "tuple",data:=.seq #[ux,uy]},toks:=s.toks}) (h':=g') (t':=s.toks) (ch:=[z,TI,TO,i1,i2]) In (fun b o hb e=>by
   obtain⟨n1,n2,n3,n4⟩:=cn b hb;refine b8.extBut _ _ n1 ?_;rcases Heap.get?_push_cases (show(s.heap.push {cls:=.type "tuple",data:=.seq #[ux,uy]}).get? b=some o from e)with⟨e1,e2⟩|e1
   ·rw[e1,e2];exact b5
   ·exact b6 b o n1 n2 n3 n4 e1) fun b hb=>⟨ui b hb,(hf b hb).2⟩
  refine⟨.ref s.heap.objs.size,upd H s.heap.objs.size (.tup [x,y]),I3,rfl,⟨_,x,y,rfl,I.bh.fresh (le_refl _),rfl,fun xs' ys' d1 d2=>?_⟩,⟨⟨_,_,b7,b8.extBut _ _ D.TIz (b6 _ _ D.TIz D.TITO D.TIi1 D.TIi2 Z.2.1),b8.extBut _ _ D.TOz b2⟩,b3.on fun o e=>b8.extBut _ _ D.i1z e,b4.on fun o e=>b8.extBut _ _ D.i2z e⟩,ui⟩;rw[y6 I d1 c1,y6 I d2 c2];exact⟨hx,hy⟩
 done:=by
  intro X hP hw hK hc i pins s σ H E I hf st hg;subst hP hw hK;obtain⟨⟨u,v,Z⟩,w1,w2⟩:=st;obtain⟨xs,ys,c1,c2,hl⟩:=hg;obtain⟨CP,r1,p1⟩:=uX I c1;obtain⟨iY,r2,p2⟩:=uX I c2;have l1:=r1.length;have l2:=r2.length;have hT:s.TypeIs (.ref z) "zip":=⟨_,Z.1,rfl⟩;have Ig:CP.toArray[i]?=none\/iY.toArray[i]?=none:=hl.elim (fun h=>.inl (by simp;omega)) fun h=>.inr (by simp;omega);unfold pyNext;refine wpAny_bind (wpAny_attempt (wpAny_callSpecial?_slot (name:=Str.ofString "__next__") hT F.slot_zip_next (wpAny_call_entry F.slot_zip_next hT F.entry_zip_next (DP (I.ok.hd hc) D Z w1 w2 p1 p2 Ig fun g e k he=>?_) (F.args_zip_next_1 _))));obtain⟨o,ho,mX⟩:=he;refine wpAny_bind (wpAny_isInstance (T:="StopIteration") (b:=true) ⟨o,ho,mX⟩ isSubtype_stop (wpAny_pure ⟨rfl,?_⟩));exact qN (h':=g) (t':=s.toks) (ch:=[z,TI,TO,i1,i2]) I (fun b o hb e=>by
   simp only[mem_cons,not_mem_nil,or_false,not_or]at hb;exact k b o hb.1 hb.2.2.1 hb.2.2.2.1 hb.2.2.2.2 e) hf
 self:=fun A i s Q E st h=>wpAny_pyIter_zip st.1.choose_spec.choose_spec.1 h
def U4 (K:Fg) (ta:TA):TI:=fun σ H R=>ta σ H fun vs H1=>∃k1 k2 a1 a2,vs=[.ref a1,.ref a2]/\(∃xs,pB K k1 H1 a1 xs)/\(∃ys,pB K k2 H1 a2 ys)/\R (SS K k1 k2 a1 a2) H1
variable {a:Expr} {ta:TA}
theorem Na{dN:List Expr}{pt:Pos}(hg:Gl X "zip")(hm:X.mg "zip"=none)(ha:PA X [a,b] ta)(hs:starEach [a,b] X.env=[(false,eval a X.env),(false,eval b X.env)]:=by rfl)(p9:starEach [b] X.env=[(false,eval b X.env)]:=by rfl):
  PI X (.Tuple dN kt pt) (.Call (.Name "zip" p) [a,b] [] pos) (U4 X.K ta):=by
 intro pins s σ H R I h;refine Call_ (mf I hg hm boot_zip (PyProof.Rows.callWith_type1 (bZ (ha pos pins s σ H _ I h) fun us s1 ⟨vs,H1,I1,r1,q1⟩=>?_) (by rw[hs,p9]) (by rw[p9];rfl)));obtain⟨k1,k2,a1,a2,e,⟨xs,c1⟩,⟨ys,c2⟩,q⟩:=q1;subst e;cases r1 with
 |cons r rr=>
  cases rr with
  |cons r' rr=>
   cases rr;cases r;cases r';obtain⟨CP,_,p1⟩:=uX I1 c1;obtain⟨iY,_,p2⟩:=uX I1 c2;exact Gz p1 p2 fun h' z TI TO i1 i2 D Z w1 w2 kk new=>wpAny_pyIter_zip Z.1 ⟨z,[z,TI,TO,i1,i2],_,_,H1,rfl,I1.kept (t':=s1.toks) kk,Ha D,⟨⟨_,_,Z⟩,w1,w2⟩,fun b hb=>I1.vt (new b hb) (I1.bh.fresh (new b hb)),q⟩
def dm:List Dat->List Dat->List Dat
 |x::xs,y::ys=>.tuple [x,y]::dm xs ys
 |_,_=>[]
variable {fs:aw->Option (List Dat)} in
def CS (fs:aw->Option (List Dat)):aw->Option (List Dat):=fun ρ=>(fs ρ).bind fun ds=>match ds with
 |[d1,d2]=>(cW d1).bind fun x=>(cW d2).map fun y=>dm x y
 |_=>none
theorem lP:∀{xs ys:List Dat} {i:Nat},(dm xs ys).length=min xs.length ys.length/\∀d,(dm xs ys)[i]?=some d->∃x y,xs[i]?=some x/\ys[i]?=some y/\d=.tuple [x,y]
 |[],ys,i=>⟨by simp[dm],fun d h=>by simp[dm]at h⟩
 |x::xs,[],i=>⟨by simp[dm],fun d h=>by simp[dm]at h⟩
 |x::xs,y::ys,0=>⟨by
   have:=(lP (xs:=xs) (ys:=ys) (i:=0)).1;simp only[dm,length_cons,this];omega,fun d h=>by simp[dm]at h;exact⟨x,y,rfl,rfl,h.symm⟩⟩
 |x::xs,y::ys,i+1=>⟨by
   have:=(lP (xs:=xs) (ys:=ys) (i:=i)).1;simp only[dm,length_cons,this];omega,fun d h=>by
   obtain⟨a,b,h1,h2,h3⟩:=(lP (xs:=xs) (ys:=ys) (i:=i)).2 d (by simpa [dm]using h);exact⟨a,b,by simpa using h1,by simpa using h2,h3⟩⟩
theorem yL(r:aK K H Av v d)(h:cW d=some ds):∃k a,v=.ref a/\∀H' iA,aK K H' iA (.ref a) d->∃xs,pB K k H' a xs/\ax K H' iA xs ds:=by
 cases d with
 |list dQ=>
  cases h;obtain⟨a,xs,rfl,_,_⟩:=r.fY;refine⟨true,a,rfl,fun H' iA r'=>?_⟩;obtain⟨_,xs,e,hq,rs⟩:=r'.fY;cases e;exact⟨xs,hq.sq,rs⟩
 |tuple dQ=>
  cases h;obtain⟨a,xs,rfl,_,_⟩:=r.fM;refine⟨false,a,rfl,fun H' iA r'=>?_⟩;obtain⟨_,xs,e,hq,rs⟩:=r'.fM;cases e;exact⟨xs,hq.sq,rs⟩
 |_=>cases h
open PySem PySem.Spec PyProof.Rows L2
open PySem.W (Dat kqdOk)
theorem tq{aX:List (Option Nat)}(hi:aX[i]?=some none)(hj:aX[j]?=some none):nJ (kC 2 (gB (aName i) (gB (aName j) mD))) aX:=fun d as e p hp=>by
 unfold kC at e;split at e
 ·split at e
  ·rename_i ds hl;match ds,hl with
   |[a,b],_=>
    cases e;rcases mem_cons.mp hp with e|hp
    ·rw[e];exact hi
    ·rcases mem_cons.mp hp with e|hp
     ·rw[e];exact hj
     ·simp at hp
  ·cases e
 ·cases e
open PySem PySem.Spec PyProof.Rows L2
open PySem.W (Dat kqdOk)
theorem ax.rep{K:Fg}{H:Hp}{Av:fP}{vs:List V}{ds:List Dat}(h:ax K H Av vs ds):∀k:Nat,ax K H Av (List.replicate k vs).flatten (List.replicate k ds).flatten
 |0=>.nil
 |k+1=>by
  rw[replicate_succ,replicate_succ,flatten_cons,flatten_cons];exact h.append (ax.rep h k)
variable {fs:aw->Option (List Dat)} in
def oV (fs:aw->Option (List Dat)) (fb:aw->Option Dat):aw->Option (List Dat):=fun ρ=>(fs ρ).bind fun ds=>(fb ρ).bind fun d=>match d with
 | .int k=>if(-(2^63)<=k/\k<2^63)/\ds.length*k.toNat<=sizeLine then some (List.replicate k.toNat ds).flatten else none
 |_=>none
variable {k:Nat}
theorem LO(U:mH K x qual st fa fd)(hm:mg x=some (.ref fa))(hB:Binds K fd ps []):Dn P w K mg base k x ps n (fun _=>none):=
 ⟨fa,fd,⟨fun vs H Q E ⟨_,_,_,_,_,_,h,_⟩=>(by cases h),fun A outer s H args us vs Q E _ _ _ _ ⟨_,_,_,_,_,_,h,_⟩=>(by cases h)⟩,hm,U.kp,hB⟩
open PySem PySem.Spec PyProof.Rows L2
open PySem.W (Dat kqdOk)
variable {env:Env} {ts:List Expr}
theorem fD{k}:starEach (.Tuple ts k p::es) env=(false,eval (.Tuple ts k p) env)::starEach es env:=by rw[starEach];intro _ _ h;cases h
theorem cP{op}:starEach (.BinOp a op b p::es) env=(false,eval (.BinOp a op b p) env)::starEach es env:=by rw[starEach];intro _ _ h;cases h
theorem jy{op}:starEach (.UnaryOp op a p::es) env=(false,eval (.UnaryOp op a p) env)::starEach es env:=by rw[starEach];intro _ _ h;cases h
theorem aE:starEach (.Subscript a b p::es) env=(false,eval (.Subscript a b p) env)::starEach es env:=by rw[starEach];intro _ _ h;cases h
theorem aY{ks}:starEach (.Call a ts ks p::es) env=(false,eval (.Call a ts ks p) env)::starEach es env:=by rw[starEach];intro _ _ h;cases h
theorem xY{os}:starEach (.Compare a os ts p::es) env=(false,eval (.Compare a os ts p) env)::starEach es env:=by rw[starEach];intro _ _ h;cases h
open PySem PySem.Spec PyProof.Rows L2
open PySem.W (Dat kqdOk)
structure QE (X:Cx) (e:Expr) (t:TE):Prop where
 o:PE X e t
structure QT (X:Cx) (e:Expr) (t:TT):Prop where
 o:PT X e t
structure QW (X:Cx) (e:Expr) (t:TT):Prop where
 o:PW X e t
structure QA (X:Cx) (e:List Expr) (t:TA):Prop where
 o:PA X e t
structure QS (X:Cx) (e:Stmt) (t:TS):Prop where
 o:PS X e t
structure WW (X:Cx) (e:List Stmt) (t:TS):Prop where
 o:kY X e t
structure QG (X:Cx) (e:Expr) (t:TG):Prop where
 o:PG X e t
structure Ks (X:Cx) (e:List Expr) (t:rN):Prop where
 o:A8 X e t
structure QI (X:Cx) (tg e:Expr) (t:TI):Prop where
 o:PI X tg e t
structure QO (X:Cx) (e:Option Expr) (t:TO):Prop where
 o:PO X e t
structure Cj (X:Cx) (e:List Expr) (t:TT):Prop where
 o:GQ X e t
abbrev QF (X:Cx) (e:Expr) (f:aw->Option Dat):Prop:=QE X e (tF X.K f)
abbrev jI (X:Cx) (e:Expr) (f:aw->Option Bool):Prop:=QT X e (mM X.K f)
abbrev A7 (X:Cx) (e:Expr) (f:aw->Option Bool):Prop:=QW X e (mM X.K f)
abbrev kh (X:Cx) (e:List Expr) (f:aw->Option (List Dat)):Prop:=QA X e (Ji X.K f)
abbrev gJ (X:Cx) (e:Stmt) (f:aD->Option Fl):Prop:=QS X e (xU X.K f)
abbrev iK (X:Cx) (e:List Stmt) (f:aD->Option Fl):Prop:=WW X e (xU X.K f)
abbrev QH (X:Cx) (e:Expr) (f:HF):Prop:=QE X e (tH X.K f)
abbrev Kr (X:Cx) (e:Expr) (f:aD->Option (Bool×aD)):Prop:=QT X e (R6 X.K f)
abbrev A6 (X:Cx) (e:List Expr) (f:aD->Option (List Dat×aD)):Prop:=QA X e (MF X.K f)
abbrev uI (X:Cx) (tg e:Expr) (f:aw->Option (List Dat)):Prop:=QI X tg e (Jg X.K f)
abbrev Kt (X:Cx) (e:Option Expr) (f:aw->Option (Option Int)):Prop:=QO X e (R7 X.K f)
theorem a5(i:Nat)(hN:X.N[i]?=some x:=by rfl)(hv:mE X.env.scope x:=by first|exact Or.inl rfl|exact Or.inr (Or.inl rfl)|exact Or.inr (Or.inr rfl))(hd:(x==("__debug__" : Str))=false:=by decide)(gf:(x==("__classdict__" : Str))=false:=by decide):
  QF X (.Name x pos) (aI i):=⟨bj (lY hN hv hd gf) fun σ H Q aM=>by
 obtain⟨Av,ρ,d,hA,hE,hf,q⟩:=aM;obtain⟨v,e1,r⟩:=hE i d (join_some hf);exact⟨v,e1,q v H (aW.refl H) r⟩⟩
theorem a8{i j pos}:
  QF X (.Constant (.int i) j pos) (fC (.int i)):=⟨bj EC fun σ H Q ⟨Av,ρ,d,hA,hE,hf,q⟩=>by cases hf;exact q _ H (aW.refl H) (.int i)⟩
theorem cN{i j pos}:
  QF X (.Constant (.bool i) j pos) (fC (.bool i)):=⟨bj Qd fun σ H Q ⟨Av,ρ,d,hA,hE,hf,q⟩=>by cases hf;exact q _ H (aW.refl H) (.bl i)⟩
theorem cm{j pos}:
  QF X (.Constant .none j pos) (fC .none):=⟨bj Nh fun σ H Q ⟨Av,ρ,d,hA,hE,hf,q⟩=>by cases hf;exact q _ H (aW.refl H) .bM⟩
theorem aZ{i j pos}:
  QF X (.Constant (.str i) j pos) (fC (.str i)):=⟨bj Nc fun σ H Q ⟨Av,ρ,d,hA,hE,hf,q⟩=>by cases hf;exact q _ H (aW.refl H) (.str i)⟩
variable {fa:aw->Option Dat}
theorem ba(ha:QF X a fa)(he:∀whole,isTrue a X.env whole=(do let v <- whole;standAt a.pos;holding [v] (truthy v)):=by intro _;rfl):
  jI X a (ju fa):=⟨nQ (yj ha.o he) fun σ H Q aM=>by
 obtain⟨Av,ρ,b,hA,hE,hf,q⟩:=aM;obtain⟨d,e1,hf⟩:=bind_some hf;exact⟨Av,ρ,d,hA,hE,e1,fun v H' s r=>⟨b,DW r hf,q H' s⟩⟩⟩
theorem fm(ha:jI X a ft):
  A7 X (.BoolOp .And [a] pos) ft:=⟨L9 ha.o⟩
theorem dw(ha:jI X a ft):
  A7 X (.BoolOp .Or [a] pos) ft:=⟨N5 ha.o⟩
variable {gt:aw->Option Bool}
variable {rest:List Expr} in
theorem gn(ha:jI X a ft)(hb:A7 X (.BoolOp .And (b::rest) pos) gt):
  A7 X (.BoolOp .And (a::b::rest) pos) (jl ft gt):=⟨B6 (N6 ha.o hb.o) fun σ H Q aM=>by
 obtain⟨Av,ρ,k,hA,hE,hf,q⟩:=aM;obtain⟨c,e1,hf⟩:=bind_some hf;refine⟨Av,ρ,c,hA,hE,e1,fun H1 s1=>?_⟩;cases c with
 |true=>rw[if_pos rfl]at hf ⊢;exact⟨Av,ρ,k,hA.same s1,hE.same s1,hf,fun H2 s2=>q H2 (s1.trans s2)⟩
 |false=>rw[if_neg Bool.false_ne_true]at hf ⊢;cases hf;exact q H1 s1⟩
variable {rest:List Expr} in
theorem d9(ha:jI X a ft)(hb:A7 X (.BoolOp .Or (b::rest) pos) gt):
  A7 X (.BoolOp .Or (a::b::rest) pos) (j1 ft gt):=⟨B6 (Q6 ha.o hb.o) fun σ H Q aM=>by
 obtain⟨Av,ρ,k,hA,hE,hf,q⟩:=aM;obtain⟨c,e1,hf⟩:=bind_some hf;refine⟨Av,ρ,c,hA,hE,e1,fun H1 s1=>?_⟩;cases c with
 |false=>rw[if_neg Bool.false_ne_true]at hf ⊢;exact⟨Av,ρ,k,hA.same s1,hE.same s1,hf,fun H2 s2=>q H2 (s1.trans s2)⟩
 |true=>rw[if_pos rfl]at hf ⊢;cases hf;exact q H1 s1⟩
theorem cE(h:A7 X e ft):
  jI X e ft:=⟨h.o.pt⟩
theorem d5(ha:jI X a ft):
  jI X (.UnaryOp .Not a pos) (jX ft):=⟨nQ (Et ha.o) fun σ H Q aM=>by
 obtain⟨Av,ρ,k,hA,hE,hf,q⟩:=aM;unfold jX at hf;cases e:ft ρ with
 |none=>rw[e]at hf;cases hf
 |some c=>rw[e]at hf;cases hf;exact⟨Av,ρ,c,hA,hE,e,q⟩⟩
theorem de{op}(h:QF X a fa):
  QF X (.BoolOp op [a] pos) fa:=⟨Nf h.o⟩
variable {rest:List Expr} in
theorem eJ(ha:QF X a fa)(hb:QF X (.BoolOp .And (b::rest) pos) fb):
  QF X (.BoolOp .And (a::b::rest) pos) (nH fa fb):=⟨bj (Ni ha.o hb.o) fun σ H Q aM=>by
 obtain⟨Av,ρ,k,hA,hE,hf,q⟩:=aM;obtain⟨d,e1,yY⟩:=bind_some hf;clear hf;obtain⟨c,e2,hf⟩:=bind_some yY;clear yY;have e3:=oY e2;subst e3;refine⟨Av,ρ,_,hA,hE,e1,fun x H1 s1 r=>⟨c,r.lE,?_⟩⟩;cases c with
 |true=>rw[if_pos rfl]at hf ⊢;exact⟨Av,ρ,k,hA.same s1,hE.same s1,hf,fun v H2 s2 r2=>q v H2 (s1.trans s2) r2⟩
 |false=>rw[if_neg Bool.false_ne_true]at hf ⊢;cases hf;exact q _ H1 s1 (.bl false)⟩
variable {rest:List Expr} in
theorem pY(ha:QF X a fa)(hb:QF X (.BoolOp .Or (b::rest) pos) fb):
  QF X (.BoolOp .Or (a::b::rest) pos) (rJ fa fb):=⟨bj (Qb ha.o hb.o) fun σ H Q aM=>by
 obtain⟨Av,ρ,k,hA,hE,hf,q⟩:=aM;obtain⟨d,e1,yY⟩:=bind_some hf;clear hf;obtain⟨c,e2,hf⟩:=bind_some yY;clear yY;have e3:=oY e2;subst e3;refine⟨Av,ρ,_,hA,hE,e1,fun x H1 s1 r=>⟨c,r.lE,?_⟩⟩;cases c with
 |false=>rw[if_neg Bool.false_ne_true]at hf ⊢;exact⟨Av,ρ,k,hA.same s1,hE.same s1,hf,fun v H2 s2 r2=>q v H2 (s1.trans s2) r2⟩
 |true=>rw[if_pos rfl]at hf ⊢;cases hf;exact q _ H1 s1 (.bl true)⟩
theorem B5(ha:QF X a fa):
  QF X (.UnaryOp .Not a pos) (qv fa):=⟨bj (Ng ha.o) fun σ H Q aM=>by
 obtain⟨Av,ρ,k,hA,hE,hf,q⟩:=aM;obtain⟨d,e1,hf⟩:=bind_some hf;cases e2:lu d with
 |none=>rw[e2]at hf;cases hf
 |some c=>
  rw[e2]at hf;cases hf;have e3:=oY e2;subst e3;exact⟨Av,ρ,_,hA,hE,e1,fun x H1 s1 r=>⟨c,r.lE,q _ H1 s1 (.bl _)⟩⟩⟩
theorem fX(hc:jI X c ft)(ha:QF X a fa)(hb:QF X b fb):
  QF X (.IfExp c a b pos) (uk ft fa fb):=⟨bj (HA hc.o ha.o hb.o) fun σ H Q aM=>by
 obtain⟨Av,ρ,k,hA,hE,hf,q⟩:=aM;obtain⟨c',e1,hf⟩:=bind_some hf;refine⟨Av,ρ,c',hA,hE,e1,fun H1 s1=>?_⟩;cases c' with
 |true=>rw[if_pos rfl]at hf ⊢;exact⟨Av,ρ,k,hA.same s1,hE.same s1,hf,fun v H2 s2 r2=>q v H2 (s1.trans s2) r2⟩
 |false=>rw[if_neg Bool.false_ne_true]at hf ⊢;exact⟨Av,ρ,k,hA.same s1,hE.same s1,hf,fun v H2 s2 r2=>q v H2 (s1.trans s2) r2⟩⟩
theorem a9:
  kh X [] bW:=⟨qV qb fun σ H Q ⟨Av,ρ,d,hA,hE,hf,q⟩=>by cases hf;exact q _ H (aW.refl H) .nil⟩
variable {fs:aw->Option (List Dat)} in
theorem a6(ha:QF X e fa)(hr:kh X es fs)(hs:starEach (e::es) X.env=(false,eval e X.env)::starEach es X.env:=by rfl):
  kh X (e::es) (aT fa fs):=⟨qV (kx ha.o hr.o hs) fun σ H Q aM=>by
 obtain⟨Av,ρ,d,hA,hE,hf,q⟩:=aM;obtain⟨dx,e1,hf⟩:=bind_some hf;obtain⟨ds,e2,hf⟩:=bg hf;subst hf;exact⟨Av,ρ,dx,hA,hE,e1,fun x H1 s1 r1=>⟨Av,ρ,ds,hA.same s1,hE.same s1,e2,fun xs H2 s2 r2=>q _ H2 (s1.trans s2) (.cons (r1.same s2) r2)⟩⟩⟩
variable {fs:aw->Option (List Dat)} in
theorem bF{k:Nat}(h:kh X es fs){x1}:
  QF X (.Tuple es x1 pos) (l5 fs):=⟨bj (EA h.o) fun σ H Q aM=>by
 obtain⟨Av,ρ,d,hA,hE,hf,q⟩:=aM;obtain⟨ds,e1,hf⟩:=bind_some hf;split at hf
 ·rename_i hz;cases hf;exact⟨Av,ρ,ds,hA,hE,e1,fun xs H1 s1 r1=>⟨by rw[r1.length];exact hz,fun p hp=>q _ _ (s1.trans (bV hp _)) (.sC (hA.same s1) hp r1)⟩⟩
 ·cases hf⟩
variable {fs:aw->Option (List Dat)} in
theorem ia(h:kh X es fs):
  QF X (.List es pos) (nG fs):=⟨bj (EB h.o) fun σ H Q aM=>by
 obtain⟨Av,ρ,d,hA,hE,hf,q⟩:=aM;obtain⟨ds,e1,hf⟩:=bind_some hf;split at hf
 ·rename_i hz;cases hf;exact⟨Av,ρ,ds,hA,hE,e1,fun xs H1 s1 r1=>⟨by rw[r1.length];exact hz,fun p hp=>q _ _ (s1.trans (bV hp _)) (.qg (hA.same s1) hp r1)⟩⟩
 ·cases hf⟩
variable {fs:aw->Option (List Dat)} in
theorem ay(D:Dn X.prog X.w X.K X.mg X.base k x ps n F)(hr:cv k X.A)(ha:kh X (e::es) fs)(hg:Gl X x:=by rfl)(jc:(x==("__debug__" : Str))=false:=by decide)(he:starEach (e::es) X.env=(false,eval e X.env)::starEach es X.env:=by rfl)(ey:(backTo pos (starEach es X.env)).any (·.1)=false:=by rfl):
  QF X (.Call (.Name x p) (e::es) [] pos) (jF n F fs):=⟨by
 obtain⟨f,fd,h1,h2,h3,h4⟩:=D.ex;exact bj (qU h1 hr hg h2 h3 h4 .nil xF ha.o jc he ey) PU⟩
theorem aJ:
  iK X [] ij:=⟨yo Ld fun D σ H ⟨aj,Av,pn,aH,Γ,fl,G,hf,q⟩=>by cases hf;exact q σ H G⟩
theorem af(h:gJ X st g):
  iK X [st] g:=⟨Ba h.o⟩
variable {rest:List Stmt} in
theorem ae(h1:gJ X st g1)(h2:iK X rest g2):
  iK X (st::rest) (dr g1 g2):=⟨yo (Hr h1.o h2.o) fun D σ H aM=>by
 obtain⟨aj,Av,pn,aH,Γ,fl,G,hf,q⟩:=aM;obtain⟨qt,e1,hf⟩:=bind_some hf;refine⟨aj,Av,pn,aH,Γ,qt,G,e1,?_⟩;cases qt with
 |nx ag=>exact fun bC H' G'=>⟨aj,Av,pn,aH,ag,fl,G',hf,q⟩
 |rt d=>cases hf;exact q
 |bk ag=>cases hf;exact q
 |ct ag=>cases hf;exact q
 |rm d ag=>cases hf;exact q⟩
theorem aq(h:QF X e f):
  gJ X (.Return (some e) pos) (kr f):=⟨cz (tR h.o) fun D σ H aM=>by
 obtain⟨aj,Av,pn,aH,Γ,fl,⟨ad,G⟩,hf,q⟩:=aM;obtain⟨d,e1,hf⟩:=bg hf;subst hf;exact⟨Av,bU Γ,d,G.jf.same G.same,G.qw,e1,fun v H' s r=>q v H' (G.same.trans s) r⟩⟩
theorem aN{a b:List Stmt}(hc:jI X c ft)(ha:iK X a g1)(hb:iK X b g2):
  gJ X (.If c a b pos) (kb ft g1 g2):=⟨cz (Jv hc.o ha.o hb.o) fun D σ H aM=>by
 obtain⟨aj,Av,pn,aH,Γ,fl,⟨ad,G⟩,hf,q⟩:=aM;obtain⟨k,e1,hf⟩:=bind_some hf;refine⟨Av,bU Γ,k,G.jf.same G.same,G.qw,e1,fun H' s=>?_⟩;cases k with
 |true=>rw[if_pos rfl]at hf ⊢;exact⟨aj,Av,pn,aH,Γ,fl,⟨ad,G.grow s⟩,hf,q⟩
 |false=>rw[if_neg Bool.false_ne_true]at hf ⊢;exact⟨aj,Av,pn,aH,Γ,fl,⟨ad,G.grow s⟩,hf,q⟩⟩
variable {pos':Pos}
theorem aA(i:Nat)(hN:X.N.Nodup)(h:QF X e f)(hi:X.N[i]?=some x:=by rfl)(hx:Loc X.env.scope x:=by first|exact .inl rfl|exact .inr rfl)(hs:swapsWith e (some (.Name x pos')) pos.line X.env=pure false:=by rfl)(hf:X.fn x=true\/X.env.scope.names.lookup x=some .local:=by first|exact .inl rfl|exact .inr rfl):
  gJ X (.Assign [.Name x pos'] e pos) (iB i f):=⟨cz (q8 hN hi hx h.o hs hf) MD⟩
theorem az(i:Nat)(hN:X.N.Nodup)(hi:X.N[i]?=some x:=by rfl)(hx:Loc X.env.scope x:=by first|exact .inl rfl|exact .inr rfl)(hf:X.fn x=true\/X.env.scope.names.lookup x=some .local:=by first|exact .inl rfl|exact .inr rfl):
  QG X (.Name x pos) (k9 X.K (aName i)):=⟨Be (Ll hN hi hx hf) fun v σ H Q ⟨Av,d,as,r,e,q⟩=>by cases e;exact q [(i,v)] (.cons r .nil)⟩
theorem d8:
  Ks X [] (Cr X.K mD):=⟨yt Lk fun vs σ H Q aM=>by
 obtain⟨Av,ds,as,r,e,q⟩:=aM;cases r with
 |nil=>cases e;exact⟨rfl,q [] .nil⟩
 |cons _ _=>cases e⟩
variable {gt:Dat->Option cX}
theorem bf{dN:List Expr}{FO:List Dat->Option cX}(h1:QG X tg (k9 X.K gt))(h2:Ks X dN (Cr X.K FO))(hs:(assignEach (tg::dN) X.env).map (·.2)=assign tg X.env::(assignEach dN X.env).map (·.2):=by rfl):
  Ks X (tg::dN) (Cr X.K (gB gt FO)):=⟨yt (Hy h1.o h2.o hs) fun vs σ H Q aM=>by
 obtain⟨Av,ds,as,r,e,q⟩:=aM;cases r with
 |nil=>cases e
 | @cons v UP d dQ rd rr=>
  obtain⟨a,e1,e⟩:=bind_some (show(gt d).bind _=some as from e);obtain⟨b,e2,e⟩:=bg e;subst e;refine⟨v,UP,rfl,Av,d,a,rd,e1,fun ws hw=>⟨Av,dQ,b,rr,e2,fun us hu=>?_⟩⟩;have:=q (ws++us) (hw.append hu);unfold oA at this ⊢;rw[List.foldl_append]at this;exact this⟩
theorem dS{dN:List Expr}{FO:List Dat->Option cX}(hc:X.calm=true)(h:Ks X dN (Cr X.K FO))(hn:(assignEach dN X.env).length=n:=by rfl)(hst:(assignEach dN X.env).findIdx? (·.1)=none:=by rfl):
  QG X (.Tuple dN k pos) (k9 X.K (kC n FO)):=⟨Be (Nb hc h.o hn hst) fun v σ H Q aM=>by
 obtain⟨Av,d,as,r,e,q⟩:=aM;unfold kC at e;split at e
 ·split at e
  ·rename_i ds hl;obtain⟨a,xs,rfl,hq,rs⟩:=r.fM;exact⟨a,xs,rfl,hq.sq,by rw[rs.length];exact hl,Av,ds,as,rs,e,q⟩
  ·cases e
 ·cases e⟩
theorem sf(h:QF X e f)(hg:QG X tg (k9 X.K gt))(hs:swapsWithSole [tg] e pos.line X.env=pure false:=by rfl)(hw:swappedStores [tg] e X.env=pure none:=by rfl)(h1:(assignEach [tg] X.env).map (·.2)=[assign tg X.env]:=by rfl):
  gJ X (.Assign [tg] e pos) (pS gt f):=⟨cz (tT h.o hg.o hs hw h1) fun D σ H aM=>by
 obtain⟨aj,Av,pn,aH,Γ,fl,⟨ad,G⟩,hf,q⟩:=aM;obtain⟨d,e1,hf⟩:=bind_some hf;obtain⟨as,e2,hf⟩:=bg hf;subst hf;exact⟨aS Av Γ ad,bw Γ,d,G.gR,G.j3,e1,fun v H' s r=>⟨aS Av Γ ad,d,as,r,e2,fun ws hw=>q _ _ ⟨ad,GA.j6 hw (fun _ z=>z) (G.grow s)⟩⟩⟩⟩
variable {body:List Stmt}
theorem du(hp:PassesOwn (model X.prog X.w) X.A X.env X.xe)(hc:X.calm=true)(hi:QF X iter f)(hg:QG X tg (k9 X.K gt))(hb:iK X body gb)(hs:∀x,foldedSetIterable iter X.env x=pure x:=by intro _;rfl):
  gJ X (.For tg iter body [] pos) (pR gt gb f):=⟨cz (yq hp hc (tU hi.o) hg.o hb.o hs) fun D σ H aM=>by
 obtain⟨aj,Av,pn,aH,Γ,fl,⟨ad,G⟩,hf,q⟩:=aM;obtain⟨d,e1,hf⟩:=bind_some hf;obtain⟨ds,e2,hf⟩:=bind_some hf;refine⟨aS Av Γ ad,bw Γ,d,G.gR,G.j3,e1,fun x H1 s1 r=>?_⟩;cases d with
 |list dQ=>
  cases e2;obtain⟨a,xs,rfl,hq,rs⟩:=r.fY;exact⟨a,rfl,.inl ⟨⟨xs,hq.sq⟩,qr qc ⟨ad,(G.grow s1).hide r⟩ hf q⟩⟩
 |tuple dQ=>
  cases e2;obtain⟨a,xs,rfl,hq,rs⟩:=r.fM;exact⟨a,rfl,.inr ⟨⟨xs,hq.sq⟩,qr sk ⟨ad,(G.grow s1).hide r⟩ hf q⟩⟩
 |_=>cases e2⟩
variable {fs:aw->Option (List Dat)} in
theorem tP(hp:PassesOwn (model X.prog X.w) X.A X.env X.xe)(hc:X.calm=true)(hm:X.mg "range"=none)(ha:kh X [a] fs)(hg:QG X tg (k9 X.K gt))(hb:iK X body gb)(Oe:Gl X "range":=by rfl)(hst:starEach [a] X.env=[(false,eval a X.env)]:=by rfl)(hs:∀x,foldedSetIterable (.Call (.Name "range" p) [a] [] pos') X.env x=pure x:=by intro _;rfl):
  gJ X (.For tg (.Call (.Name "range" p) [a] [] pos') body [] pos) (xC jS gt gb fs):=⟨cz (yq hp hc (wy Oe hm ha.o hst) hg.o hb.o hs) fun D σ H aM=>by
 obtain⟨aj,Av,pn,aH,Γ,fl,⟨ad,G⟩,hf,q⟩:=aM;obtain⟨as,e1,hf⟩:=bind_some hf;obtain⟨ds,e2,hf⟩:=bind_some hf;refine⟨Av,bU Γ,as,G.jf.same G.same,G.qw,e1,fun vs H1 s1 r=>?_⟩;unfold jS at e2;split at e2
 ·rename_i j;split at e2
  ·rename_i hj;cases e2;obtain⟨v,rfl,rv⟩:=r.eM;rw[rv.cY];exact⟨j,rfl,hj.1,hj.2,qr tV ⟨ad,(G.grow s1).hide .bM⟩ hf q⟩
  ·cases e2
 ·cases e2⟩
theorem oF(fuel:aD->Nat)(hp:PassesOwn (model X.prog X.w) X.A X.env X.xe)(hc:jI X c ft)(hb:iK X body gb):
  gJ X (.While c body [] pos) (lV fuel ft gb):=⟨cz (Ht hp hc.o hb.o) fun D σ H aM=>by
 obtain⟨aj,Av,pn,aH,Γ,fl,G,hf,q⟩:=aM;refine⟨fun m σ H=>∃Γ,l6 X.K aj Av pn aH H σ Γ/\dM ft gb m Γ=some fl,⟨_,Γ,G,hf⟩,?_⟩;rintro m σ H ⟨Γ,⟨ad,G⟩,hf⟩;cases m with
 |zero=>cases hf
 |succ m=>
  obtain⟨k,e1,hf⟩:=bind_some (show(ft (bU Γ)).bind _=some fl from hf);refine⟨Av,bU Γ,k,G.jf.same G.same,G.qw,e1,fun H1 s1=>?_⟩;cases k with
  |false=>
   rw[if_neg Bool.false_ne_true]at hf ⊢;cases hf;exact q σ H1 ⟨ad,G.grow s1⟩
  |true=>
   rw[if_pos rfl]at hf ⊢;obtain⟨qt,e2,hf⟩:=bind_some hf;refine⟨fun bC H'=>∃ag,l6 X.K aj Av pn aH H' bC ag/\dM ft gb m ag=some fl,fun bC H' ⟨ag,G',h'⟩=>⟨m,Nat.lt_succ_self m,ag,G',h'⟩,aj,Av,pn,aH,Γ,qt,⟨ad,G.grow s1⟩,e2,?_⟩;cases qt with
   |nx ag=>exact fun fS H2 G2=>⟨ag,G2,hf⟩
   |ct ag=>exact fun fS H2 G2=>⟨ag,G2,hf⟩
   |bk ag=>cases hf;exact fun fS H2 G2=>q fS H2 G2
   |rt v=>cases hf;exact q
   |rm v ag=>cases hf;exact q⟩
variable {fs:aw->Option (List Dat)} in
theorem gT(h:kh X es fs):
  QE X (.List es pos) (jN X.K (mZ fs)):=⟨bj (EB h.o) fun σ H Q aM=>by
 obtain⟨Av,ρ,d,hA,hE,hf,q⟩:=aM;obtain⟨ds,e1,hf⟩:=bind_some hf;obtain⟨hz,e2⟩:=BM hf;cases e2;exact⟨Av,ρ,d,hA,hE,e1,fun xs H1 s1 r1=>⟨by rw[r1.length];exact hz,fun p hp=>q H1 p xs s1 hp r1⟩⟩⟩
variable {fs:aw->Option (List Dat)} in
theorem iC(i:Nat)(hN:X.N.Nodup)(h:QE X e (jN X.K fs))(nZ:i≠0:=by decide)(hi:X.N[i]?=some x:=by rfl)(hx:Loc X.env.scope x:=by first|exact .inl rfl|exact .inr rfl)(hs:swapsWith e (some (.Name x pos')) pos.line X.env=pure false:=by rfl)(hf:X.fn x=true\/X.env.scope.names.lookup x=some .local:=by first|exact .inl rfl|exact .inr rfl):
  gJ X (.Assign [.Name x pos'] e pos) (rZ i fs):=⟨cz (q8 hN hi hx h.o hs hf) fun D σ H aM=>by
 obtain⟨aj,Av,pn,aH,Γ,fl,⟨ad,G⟩,hf,q⟩:=aM;obtain⟨ds,e1,hf⟩:=bg hf;subst hf;exact⟨aS Av Γ ad,bw Γ,ds,G.gR,G.j3,e1,fun H1 p xs s hp r=>q _ _ ⟨_,(G.grow s).MP i nZ hp r⟩⟩⟩
variable {p1 p2 p3:Pos}
theorem i9(i:Nat)(h:QF X e f)(hN:X.N[i]?=some x:=by rfl)(hv:mE X.env.scope x:=by first|exact Or.inl rfl|exact Or.inr (Or.inl rfl)|exact Or.inr (Or.inr rfl))(hd:(x==("__debug__" : Str))=false:=by decide)(gf:(x==("__classdict__" : Str))=false:=by decide)(CY:attributeBase (.Name x p1) "append" X.env (eval (.Name x p1) X.env)=eval (.Name x p1) X.env:=by rfl)(Ie:((backTo p3 (starEach [e] X.env)).all (fun x=>!x.1)&&(backToKw p3 (keywordEach [] X.env)).all (fun x=>x.1.isSome)&&decide (([e]:List Expr).length+([]:List Keyword).length+(if([]:List Keyword).isEmpty then 0 else 1)<30))=true:=by rfl)(ug:(p2.endLine==p3.line)=true:=by rfl)(O3:starEach [e] X.env=(false,eval e X.env)::starEach [] X.env:=by rfl)(yV:(backTo p3 (starEach [] X.env)).any (·.1)=false:=by rfl)(hs:swapsWith (.Call (.Attribute (.Name x p1) "append" p2) [e] [] p3) none pos.line X.env=pure false:=by rfl):
  gJ X (.Expr (.Call (.Attribute (.Name x p1) "append" p2) [e] [] p3) pos) (pT i f):=⟨cz (Le (Qc PySem.F.plainAttrs_list PySem.F.slot_list_append PySem.F.type_list_append EX (lY hN hv hd gf) (kx h.o qb O3) CY Ie ug O3 yV) hs) fun D σ H aM=>by
 obtain⟨aj,Av,pn,aH,Γ,fl,⟨ad,G⟩,hf,q⟩:=aM;unfold pT at hf;split at hf
 ·rename_i ds hi;obtain⟨d,e1,hf⟩:=bind_some hf;obtain⟨hz,hf⟩:=BM hf;cases hf;obtain⟨xs,g1,g2,g3,g4⟩:=G.own i ds hi;refine⟨_,g1,.inl ⟨rfl,xs,.of g2⟩,aS Av Γ ad,bw Γ,d,G.gR,G.j3,e1,fun v H1 s1 r=>?_⟩;have G1:=G.grow s1;obtain⟨Mt,k1,k2,k3,k4⟩:=G1.own i ds hi;exact⟨_,Mt,v,rfl,rfl,k2,by rw[k3.length];exact hz,q _ _ ⟨ad,G1.change hi (k3.append (.cons r .nil))⟩⟩
 ·cases hf⟩
theorem hZ{fa:Addr}(U:mH K x qual st fa fd)(hm:mg x=some (.ref fa))(hB:Binds K fd ps [])(S:fR N ps (aU st))(hn:ps.length=n)(hbody:∀(bA:Value) (A:Around) (outer:List Env) (s:Shared) (H:Hp) (E:XK),cv k (A.deeper (envOfC qual (aU st) s.heap.objs.size fa bA))->iK (jv iV P w K mg base N qual (aU st) fa bA A outer s H E).nV (cT st) g)(hF:∀ds d,ds.length=n->F ds=some d->iW N g ds=some d):
  Dn P w K mg base (k+1) x ps n F:=
 QJ (U:=U) (hm:=hm) (hB:=hB) (S:=S) (hn:=hn) (hbody:=(fun a b c d e f g=>(hbody a b c d e f g).o)) (hF:=hF)
theorem dg(ha:QF X a fa)(hb:QF X b fb):
  QF X (.BinOp a .Add b pos) (f2 kA fa fb):=⟨lX (yz.or oG) (by
 intro H Av x y dx dy d Q hA rx ry h q;unfold kA at h;split at h
 ·cases h;exact .inl ⟨_,_,rx.cY,ry.cY,q _ H (aW.refl H) (.int _)⟩
 ·split at h
  ·rename_i hz;cases h;exact .inr ⟨_,_,rx.ig,ry.ig,hz,q _ H (aW.refl H) (.str _)⟩
  ·cases h
 ·cases h) ha.o hb.o⟩
theorem nP(ha:QF X a fa)(hb:QF X b fb):
  QF X (.BinOp a .Sub b pos) (f2 xX fa fb):=⟨lX Bg oH ha.o hb.o⟩
theorem bJ(ha:QF X a fa)(hb:QF X b fb):
  QF X (.BinOp a .Mult b pos) (f2 jr fa fb):=⟨lX Bh oH ha.o hb.o⟩
theorem iN(ha:QF X a fa)(hb:QF X b fb):
  QF X (.BinOp a .Mod b pos) (f2 vg fa fb):=⟨lX HB oH ha.o hb.o⟩
theorem v9(ha:QF X a fa)(hb:QF X b fb):
  QF X (.BinOp a .Pow b pos) (f2 CI fa fb):=⟨lX Nl oH ha.o hb.o⟩
theorem tQ(ha:QF X a fa)(hb:QF X b fb):
  QF X (.Compare a [.Lt] [b] pos) (f2 EZ fa fb):=⟨q9 JB qW ha.o hb.o (i4 _)⟩
theorem Er(ha:QF X a fa)(hb:QF X b fb):
  QF X (.Compare a [.Gt] [b] pos) (f2 FP fa fb):=⟨q9 JC qW ha.o hb.o (i4 _)⟩
theorem nO(ha:QF X a fa)(hb:QF X b fb):
  jI X (.Compare a [.Lt] [b] pos) (c9 (f2 EZ fa fb)):=⟨jC JB qW ha.o hb.o (i4 _)⟩
theorem L5(ha:QF X a fa)(hb:QF X b fb):
  jI X (.Compare a [.LtE] [b] pos) (c9 (f2 Rv fa fb)):=⟨jC Qe qW ha.o hb.o (i4 _)⟩
theorem qR(ha:QF X a fa)(hb:QF X b fb):
  jI X (.Compare a [.Gt] [b] pos) (c9 (f2 FP fa fb)):=⟨jC JC qW ha.o hb.o (i4 _)⟩
theorem L6(ha:QF X a fa)(hb:QF X b fb):
  jI X (.Compare a [.GtE] [b] pos) (c9 (f2 S8 fa fb)):=⟨jC Qf qW ha.o hb.o (i4 _)⟩
theorem eI(ha:QF X a fa):
  QF X (.UnaryOp .USub a pos) (f1 nC fa):=⟨Q9 Mx (by
 intro H Av x dx d Q hA rx h q;unfold nC at h;split at h
 ·cases h;exact⟨_,rx.cY,q _ H (aW.refl H) (.int _)⟩
 ·cases h) ha.o⟩
theorem fE(hr:cv k X.A)(ha:QF X a fa)(hb:QF X b fb):
  QF X (.Compare a [.Eq] [b] pos) (f2 cZ fa fb):=⟨q9 (JD.or (EL hr.units)) EN ha.o hb.o (i4 _)⟩
theorem N2(hr:cv k X.A)(ha:QF X a fa)(hb:QF X b fb):
  QF X (.Compare a [.NotEq] [b] pos) (f2 fF fa fb):=⟨q9 (JA.or (EH hr.units)) EM ha.o hb.o (i4 _)⟩
theorem cC(hr:cv k X.A)(ha:QF X a fa)(hb:QF X b fb):
  jI X (.Compare a [.Eq] [b] pos) (c9 (f2 cZ fa fb)):=⟨jC (JD.or (EL hr.units)) EN ha.o hb.o (i4 _)⟩
theorem cS(hr:cv k X.A)(ha:QF X a fa)(hb:QF X b fb):
  jI X (.Compare a [.NotEq] [b] pos) (c9 (f2 fF fa fb)):=⟨jC (JA.or (EH hr.units)) EM ha.o hb.o (i4 _)⟩
variable {fs:aw->Option (List Dat)} in
theorem lJ(hm:X.mg "abs"=none)(ha:kh X (e::es) fs)(hg:Gl X "abs":=by rfl)(he:starEach (e::es) X.env=(false,eval e X.env)::starEach es X.env:=by rfl)(ey:(backTo pos (starEach es X.env)).any (·.1)=false:=by rfl):
  QF X (.Call (.Name "abs" p) (e::es) [] pos) (gi Du fs):=⟨yv IM GD hm ha.o hg (by decide +kernel) (by decide) (by decide) he ey⟩
variable {fs:aw->Option (List Dat)} in
theorem cy(hm:X.mg "len"=none)(ha:kh X (e::es) fs)(hg:Gl X "len":=by rfl)(he:starEach (e::es) X.env=(false,eval e X.env)::starEach es X.env:=by rfl)(ey:(backTo pos (starEach es X.env)).any (·.1)=false:=by rfl):
  QF X (.Call (.Name "len" p) (e::es) [] pos) (gi ib fs):=⟨yv IL GC hm ha.o hg (by decide +kernel) (by decide) (by decide) he ey⟩
theorem bO(T:String){TS:Str}(hm:X.mg "isinstance"=none)(VB:X.mg TS=none)(ha:QF X a fa)(hv:bootBuiltins TS=some (.type T):=by decide +kernel)(hg:Gl X "isinstance":=by rfl)(VL:Gl X TS:=by rfl)(hn:TS≠"__name__":=by decide)(jc:(TS==("__debug__" : Str))=false:=by decide)(he:starEach [a,.Name TS p2] X.env=(false,eval a X.env)::starEach [.Name TS p2] X.env:=by rfl)(VP:starEach [.Name TS p2] X.env=(false,eval (.Name TS p2) X.env)::starEach [] X.env:=by rfl)(ey:(backTo pos (starEach [.Name TS p2] X.env)).any (·.1)=false:=by rfl):
  QF X (.Call (.Name "isinstance" p) [a,.Name TS p2] [] pos) (f1 (gD T) fa):=⟨bj (yw (Ak T) hg hm (by decide +kernel) (kx ha.o (kx (Lq (v:=.ty T) VL VB hv rfl hn jc) qb VP) he) (by decide) (by decide) he ey) fun σ H Q aM=>by
  obtain⟨Av,ρ,d,hA,hE,hf,q⟩:=aM;obtain⟨dx,e1,hf⟩:=bind_some hf;obtain⟨k,rfl⟩:=HS hf;exact⟨Av,ρ,dx,hA,hE,e1,fun x H1 s1 r1=>⟨Av,x,dx,k,rfl,r1,hf,q _ H1 s1 (.bl k)⟩⟩⟩
theorem ah(ha:QF X a fa)(hb:QF X b fb)(hs:vK b:=by exact fun _ _=>rfl):
  QF X (.Subscript a b pos) (f2 bp fa fb):=⟨bj (Jy (By.or F7) ha.o hb.o hs) (xy (by
 intro H Av x y dx dy d Q hA rx ry h q;unfold bp at h;split at h
 ·obtain⟨p,xs,rfl,hq,rs⟩:=rx.fY;obtain⟨v,hv,rv⟩:=rs.fK h;exact .inl ⟨p,xs,_,v,rfl,ry.cY,hq.sq,hv,q v H (aW.refl H) rv⟩
 ·obtain⟨p,xs,rfl,hq,rs⟩:=rx.fM;obtain⟨v,hv,rv⟩:=rs.fK h;exact .inr ⟨p,xs,_,v,rfl,ry.cY,hq.sq,hv,q v H (aW.refl H) rv⟩
 ·cases h))⟩
theorem fW:
  Kt X none kG:=⟨Bc Lh fun σ H Q ⟨Av,ρ,o,hA,hE,hf,q⟩=>by cases hf;exact q H (aW.refl H)⟩
theorem fV(h:QF X e f):
  Kt X (some e) (kE f):=⟨Bc (Lg h.o) fun σ H Q aM=>by
 obtain⟨Av,ρ,o,hA,hE,hf,q⟩:=aM;obtain⟨d,e1,hf⟩:=bind_some hf;obtain⟨i,e2,Of⟩:=bg hf;subst Of;have e3:=zV e2;rw[e3]at e1;exact⟨Av,ρ,_,hA,hE,e1,fun x H' s r=>⟨i,r.cY,q H' s⟩⟩⟩
variable {elt:Expr} {ifs:List Expr} {cl:List (Str×Addr)} {fe:aw->Option Dat}
theorem gN{aX:List (Option Nat)}{fi:aw->Option Dat}(hc:X.calm=true)(B:rR X scope cl N' aX)(hi:QF X iter fi)(hg:∀C aL aj ex,QG (dG X scope cl N' C aL aj ex) tg (k9 X.K gt))(ht:∀C aL aj ex,Cj (dG X scope cl N' C aL aj ex) ifs (mM X.K ft))(he:∀C aL aj ex,QF (dG X scope cl N' C aL aj ex) elt fe)(hT:nJ gt aX)(hs:∀x,foldedSetIterable iter X.env x=pure x:=by intro _;rfl):
  QE X (.ListComp elt [⟨tg,iter,ifs,0⟩] scope pos) (jN X.K (n6 aX gt ft fe fi)):=⟨bj (vd hc B (tU hi.o) ((fun C aL aj ex=>(hg C aL aj ex).o)) ((fun C aL aj ex=>(ht C aL aj ex).o)) ((fun C aL aj ex=>(he C aL aj ex).o)) hs) (AR hT)⟩
variable {fs:aw->Option (List Dat)} in
theorem cA(h:QE X e (jN X.K fs)):
  QF X e (fL fs):=⟨bj h.o fun σ H Q aM=>by
 obtain⟨Av,ρ,d,hA,hE,hf,q⟩:=aM;obtain⟨ds,e1,hf⟩:=bg hf;subst hf;exact⟨Av,ρ,ds,hA,hE,e1,fun H1 p xs s hp r=>q _ _ (s.trans (bV hp _)) (.qg (hA.same s) hp r)⟩⟩
theorem d7:
  Cj X [] (mM X.K gA):=⟨fun pins s σ H Q I ⟨Av,ρ,b,hA,hE,hf,q⟩=>by cases hf;exact B7 pins s σ H Q I (q H (aW.refl H))⟩
theorem kP(h:jI X c ft):
  Cj X [c] (mM X.K ft):=⟨Lb h.o⟩
variable {fs:aw->Option (List Dat)} in
theorem Hl(i j:Nat){y:Str}{py pt:Pos}{kt k2 yn}(hc:X.calm=true)(hN:X.N.Nodup)(Od:i≠j)(ha:kh X [a,b] fs)(hi:X.N[i]?=some x:=by rfl)(hj:X.N[j]?=some y:=by rfl)(hx:X.env.scope.names.lookup x=some .local:=by rfl)(hy:X.env.scope.names.lookup y=some .local:=by rfl)(hw:swappedStores [.Tuple [.Name x px,.Name y py] kt pt] (.Tuple [a,b] k2 yn) X.env=pure (some [x,y]):=by rfl)(hs:swapsWithSole [.Tuple [.Name x px,.Name y py] kt pt] (.Tuple [a,b] k2 yn) pos.line X.env=pure false:=by rfl):
  gJ X (.Assign [.Tuple [.Name x px,.Name y py] kt pt] (.Tuple [a,b] k2 yn) pos) (Hf i j fs):=⟨cz (N7 hc hN hi hj Od hx hy ha.o hw hs) fun D σ H aM=>by
 obtain⟨aj,Av,pn,aH,Γ,fl,⟨ad,G⟩,hf,q⟩:=aM;obtain⟨ds,e1,hf⟩:=bind_some hf;refine⟨aS Av Γ ad,bw Γ,ds,G.gR,G.j3,e1,fun vs H1 s1 r=>?_⟩;match ds,hf with
 |[d,d'],hf=>
  cases hf;obtain⟨v,u,rfl,rv,ru⟩:=r.fz;exact⟨v,u,rfl,q _ _ ⟨ad,((G.grow s1).set i rv).set j (ru.weak aS.jz)⟩⟩⟩
theorem pW(i:Nat){pO:Pos}{aX:List (Option Nat)}{fi:aw->Option Dat}(hN:X.N.Nodup)(hc:X.calm=true)(B:rR X scope cl N' aX)(hi:QF X iter fi)(hg:∀C aL aj ex,QG (dG X scope cl N' C aL aj ex) tg (k9 X.K gt))(ht:∀C aL aj ex,Cj (dG X scope cl N' C aL aj ex) ifs (mM X.K ft))(he:∀C aL aj ex,QF (dG X scope cl N' C aL aj ex) elt fe)(hT:nJ gt aX)(Fc:X.N[i]?=some x:=by rfl)(hx:Loc X.env.scope x:=by first|exact .inl rfl|exact .inr rfl)(FA:swapsWith (.ListComp elt [⟨tg,iter,ifs,0⟩] scope pos) (some (.Name x pos')) pO.line X.env=pure true:=by rfl)(FI:X.fn x=true\/X.env.scope.names.lookup x=some .local:=by first|exact .inl rfl|exact .inr rfl)(hs:∀x,foldedSetIterable iter X.env x=pure x:=by intro _;rfl):
  gJ X (.Assign [.Name x pos'] (.ListComp elt [⟨tg,iter,ifs,0⟩] scope pos) pO) (oB i (n6 aX gt ft fe fi)):=⟨cz (Bb hc B (tU hi.o) ((fun C aL aj ex=>(hg C aL aj ex).o)) ((fun C aL aj ex=>(ht C aL aj ex).o)) ((fun C aL aj ex=>(he C aL aj ex).o)) hN Fc hx FA FI hs) fun D σ H aM=>by
 obtain⟨aj,Av,pn,aH,Γ,fl,⟨ad,G⟩,hf,q⟩:=aM;obtain⟨ds,e1,hf⟩:=bg hf;subst hf;exact AR hT σ H _ ⟨aS Av Γ ad,bw Γ,ds,G.gR,G.j3,e1,fun H1 p xs s hp r=>q _ _ ⟨ad,((G.grow s).grow (bV hp _)).set i (.qg (G.grow s).gR hp r)⟩⟩⟩
theorem B4(ha:QF X a fa)(hb:QF X b fb)(hm:behindInMarks .In b=false:=by with_unfolding_all rfl):
  jI X (.Compare a [.In] [b] pos) (c9 (f2 inD fa fb)):=⟨jC (EK.or EJ) Np ha.o hb.o hm⟩
theorem d6(ha:QF X a fa)(hb:QF X b fb):
  jI X (.Compare a [.Is] [b] pos) (c9 (f2 jU fa fb)):=⟨jC EI Bj ha.o hb.o (i4 _)⟩
variable {fs:aw->Option (List Dat)} in
theorem mR(hm:X.mg "list"=none)(ha:kh X (e::es) fs)(hg:Gl X "list":=by rfl)(he:starEach (e::es) X.env=(false,eval e X.env)::starEach es X.env:=by rfl)(ey:(backTo pos (starEach es X.env)).any (·.1)=false:=by rfl):
  QE X (.Call (.Name "list" p) (e::es) [] pos) (jN X.K fun ρ=>(fs ρ).bind qY):=⟨bj (mS zR hg hm (by decide +kernel) ha.o (by decide) (by decide) he ey) fun σ H Q aM=>by
 obtain⟨Av,ρ,ds,hA,hE,hf,q⟩:=aM;obtain⟨as,e1,hf⟩:=bind_some hf;refine⟨Av,ρ,as,hA,hE,e1,fun vs H1 s1 r=>?_⟩;unfold qY at hf;split at hf
 ·cases hf;obtain⟨v,rfl,rv⟩:=r.eM;obtain⟨p,xs,rfl,hq,rs⟩:=rv.fY;exact⟨p,xs,rfl,.inl hq.sq,fun l hl=>q H1 l xs s1 hl rs⟩
 ·cases hf;obtain⟨v,rfl,rv⟩:=r.eM;obtain⟨p,xs,rfl,hq,rs⟩:=rv.fM;exact⟨p,xs,rfl,.inr hq.sq,fun l hl=>q H1 l xs s1 hl rs⟩
 ·cases hf⟩
variable {fs:aw->Option (List Dat)} in
theorem gO(hm:X.mg "tuple"=none)(ha:kh X (e::es) fs)(hg:Gl X "tuple":=by rfl)(he:starEach (e::es) X.env=(false,eval e X.env)::starEach es X.env:=by rfl)(ey:(backTo pos (starEach es X.env)).any (·.1)=false:=by rfl):
  QF X (.Call (.Name "tuple" p) (e::es) [] pos) (gi gC fs):=⟨Ez pv rM hm ha.o hg (by decide +kernel) (by decide) (by decide) he ey⟩
theorem c7{a:Addr}(hm:X.mg x=some (.ref a))(ht:ModT X.K a ds)(hg:Gl X x:=by rfl)(hd:(x==("__debug__" : Str))=false:=by decide):
  QF X (.Name x p) (fC (.tuple ds)):=⟨by
 obtain⟨xs,o,ak,n,h1,h2,h3,h4,h5,h6⟩:=ht;exact bj (Lo (v:=.ref a) hg hm rfl hd) fun σ H Q ⟨Av,ρ,d,hA,hE,hf,q⟩=>by cases hf;exact q _ H (aW.refl H) (.tup (.inr ⟨o,ak,n,h1,h2,h3,h4,h5⟩) (h6 H Av))⟩
theorem aP(hP:QF X e f):
  QH X e (iw f):=⟨bj hP.o fun σ H Q aM=>by
 obtain⟨aj,Av,pn,aH,Γ,ad,d,ag,G,hf,q⟩:=aM;unfold iw at hf;split at hf
 ·rename_i d' e1;cases hf;exact⟨aS Av Γ ad,bw Γ,_,G.gR,G.j3,e1,fun v H' s r=>q v H' ad (G.grow s) r⟩
 ·obtain⟨d',e1,hf⟩:=bind_some hf;split at hf
  ·rename_i hs;cases hf;exact⟨Av,bU Γ,_,G.jf.same G.same,G.qw,e1,fun v H' s r=>q v H' ad (G.grow s) (r.sc hs)⟩
  ·cases hf⟩
theorem qQ(pa:QH X a ha)(pb:QH X b hb):
  QH X (.BinOp a .Add b pos) (h2 kA ha hb):=⟨yr (yz.or oG) (by
 intro H Av x y dx dy d Q hA rx ry h q;unfold kA at h;split at h
 ·cases h;exact .inl ⟨_,_,rx.cY,ry.cY,q _ H (aW.refl H) (.int _)⟩
 ·split at h
  ·rename_i hz;cases h;exact .inr ⟨_,_,rx.ig,ry.ig,hz,q _ H (aW.refl H) (.str _)⟩
  ·cases h
 ·cases h) pa.o pb.o⟩
theorem v8(pa:QH X a ha)(pb:QH X b hb):
  QH X (.BinOp a .Sub b pos) (h2 xX ha hb):=⟨yr Bg oH pa.o pb.o⟩
theorem L4(pa:QH X a ha)(pb:QH X b hb):
  QH X (.BinOp a .Mult b pos) (h2 jr ha hb):=⟨yr Bh oH pa.o pb.o⟩
theorem yh(pa:QH X a ha)(pb:QH X b hb)(hs:vK b:=by exact fun _ _=>rfl):
  QH X (.Subscript a b pos) (h2 bp ha hb):=⟨bj (Jy (By.or F7) pa.o pb.o hs) (Jh Nn)⟩
theorem bG:
  A6 X [] mn:=⟨qV qb fun σ H Q ⟨aj,Av,pn,aH,Γ,ad,d,ag,G,hf,q⟩=>by cases hf;exact q _ H ad G .nil⟩
variable {h:HF}
theorem aR(pa:QH X e h)(pr:A6 X es hs)(hst:starEach (e::es) X.env=(false,eval e X.env)::starEach es X.env:=by rfl):
  A6 X (e::es) (iy h hs):=⟨qV (kx pa.o pr.o hst) fun σ H Q aM=>by
 obtain⟨aj,Av,pn,aH,Γ,ad,d,ag,G,hf,q⟩:=aM;obtain⟨⟨dx,cU⟩,e1,hf⟩:=bind_some hf;obtain⟨⟨ds,pH⟩,e2,hf⟩:=bg hf;cases hf;exact⟨aj,Av,pn,aH,Γ,ad,dx,cU,G,e1,fun x H1 jZ G1 r1=>⟨aj,Av,pn,(x,dx)::aH,cU,jZ,ds,pH,G1.hide r1,e2,fun vs H2 pA G2 r2=>q (x::vs) H2 pA G2.pI (.cons (G2.aH (x,dx) mem_cons_self) r2)⟩⟩⟩
theorem v7(pa:A6 X es hs){x1}:
  QH X (.Tuple es x1 pos) (CZ hs):=⟨bj (EA pa.o) fun σ H Q aM=>by
 obtain⟨aj,Av,pn,aH,Γ,ad,d,ag,G,hf,q⟩:=aM;obtain⟨⟨ds,cU⟩,e1,hf⟩:=bind_some hf;split at hf
 ·rename_i hz;cases hf;exact⟨aj,Av,pn,aH,Γ,ad,ds,cU,G,e1,fun xs H1 jZ G1 r1=>⟨by rw[r1.length];exact hz,fun p hp=>q _ _ jZ (G1.grow (bV hp _)) (.sC G1.gR hp r1)⟩⟩
 ·cases hf⟩
theorem yi(D:Dn X.prog X.w X.K X.mg X.base k x ps n F)(hr:cv k X.A)(pa:A6 X (e::es) hs)(hg:Gl X x:=by rfl)(jc:(x==("__debug__" : Str))=false:=by decide)(he:starEach (e::es) X.env=(false,eval e X.env)::starEach es X.env:=by rfl)(ey:(backTo pos (starEach es X.env)).any (·.1)=false:=by rfl):
  QH X (.Call (.Name x p) (e::es) [] pos) (Ot n F hs):=⟨by
 obtain⟨f,fd,h1,h2,h3,h4⟩:=D.ex;refine bj (qU h1 hr hg h2 h3 h4 .nil xF pa.o jc he ey) fun σ H Q ⟨aj,Av,pn,aH,Γ,ad,d,ag,G,hf,q⟩=>?_;obtain⟨⟨ds,cU⟩,e1,hf⟩:=bind_some hf;split at hf
 ·rename_i hl;obtain⟨d',e2,hf⟩:=bg hf;cases hf;exact⟨aj,Av,pn,aH,Γ,ad,ds,cU,G,e1,fun xs H1 jZ G1 r1=>⟨_,ds,_,G1.gR,by rw[append_nil];exact r1,hl,e2,fun v H2 s2 r2=>q v H2 jZ (G1.grow s2) r2⟩⟩
 ·cases hf⟩
theorem cK(i:Nat){y:Str}{F:List Dat->List Dat->Option (Dat×List Dat)}(D:k7 X.prog X.w X.K X.mg X.base k x ps n F)(hr:cv k X.A)(pa:A6 X es hs)(hN:X.N[i]?=some y:=by rfl)(hv:mE X.env.scope y:=by first|exact Or.inl rfl|exact Or.inr (Or.inl rfl)|exact Or.inr (Or.inr rfl))(hd:(y==("__debug__" : Str))=false:=by decide)(gf:(y==("__classdict__" : Str))=false:=by decide)(hg:Gl X x:=by rfl)(jc:(x==("__debug__" : Str))=false:=by decide)(he:starEach (.Name y p1::es) X.env=(false,eval (.Name y p1) X.env)::starEach es X.env:=by rfl)(ey:(backTo pos (starEach es X.env)).any (·.1)=false:=by rfl):
  QH X (.Call (.Name x p) (.Name y p1::es) [] pos) (oS i n F hs):=⟨by
 obtain⟨f,fd,h1,h2,h3,h4⟩:=D.ex;refine bj (qU h1 hr hg h2 h3 h4 .nil xF (kx (lY hN hv hd gf) pa.o he) jc he ey) fun σ H Q ⟨aj,Av,pn,aH,Γ,ad,d,ag,G,hf,q⟩=>?_;unfold oS at hf;split at hf
 ·rename_i Kj nZ;obtain⟨⟨us,cU⟩,e1,hf⟩:=bind_some hf;dsimp only at hf;split at hf
  ·rename_i ds JW;split at hf
   ·rename_i hl;obtain⟨⟨d',dQ⟩,e2,hf⟩:=bg hf;cases hf;obtain⟨Mu,g1,g2,g3,g4⟩:=G.own i Kj nZ;refine⟨.ref (ad i),g1,aj,Av,pn,aH,Γ,ad,us,cU,G,e1,fun ws H1 jZ G1 r1=>?_⟩;obtain⟨Mt,k1,k2,k3,k4⟩:=G1.own i ds JW;have ea:ad i=jZ i:=by rw[g1]at k1;injection k1 with k1;injection k1 with k1;injection k1
    exact⟨aS Av cU jZ,jZ i,ws,Mt,ds,us,_,_,by rw[append_nil,ea],G1.gR,.inr ⟨i,_,JW,rfl,rfl⟩,k2,k3,r1,hl,e2,fun v H' ys k hn rl rv=>q v H' jZ (G1.lend JW k hn rl) (rv.weak (aS.set_own JW))⟩
   ·cases hf
  ·cases hf
 ·cases hf⟩
variable {fa:Addr}
theorem qS{F:List Dat->List Dat->Option (Dat×List Dat)}(U:mH K x qual st fa fd)(hm:mg x=some (.ref fa))(hB:Binds K fd ps [])(S:fR N ps (aU st))(hn:ps.length=n)(hbody:∀(bA:Value) (A:Around) (outer:List Env) (s:Shared) (H:Hp) (E:XK),cv k (A.deeper (envOfC qual (aU st) s.heap.objs.size fa bA))->iK (jv iV P w K mg base N qual (aU st) fa bA A outer s H E).nV (cT st) g)(hF:∀ds es d dQ,es.length+1=n->F ds es=some (d,dQ)->runM N g ds es=some (d,dQ)):
  k7 P w K mg base (k+1) x ps n F:=
 OI (U:=U) (hm:=hm) (hB:=hB) (S:=S) (hn:=hn) (hbody:=(fun a b c d e f g=>(hbody a b c d e f g).o)) (hF:=hF)
theorem dE(i:Nat)(hN:X.N.Nodup)(pe:QH X e h)(hi:X.N[i]?=some x:=by rfl)(hx:Loc X.env.scope x:=by first|exact .inl rfl|exact .inr rfl)(hs:swapsWith e (some (.Name x pos')) pos.line X.env=pure false:=by rfl)(hf:X.fn x=true\/X.env.scope.names.lookup x=some .local:=by first|exact .inl rfl|exact .inr rfl):
  gJ X (.Assign [.Name x pos'] e pos) (mQ i h):=⟨cz (q8 hN hi hx pe.o hs hf) fun D σ H aM=>by
 obtain⟨aj,Av,pn,aH,Γ,fl,⟨ad,G⟩,hf,q⟩:=aM;obtain⟨⟨d,cU⟩,e1,hf⟩:=bg hf;subst hf;exact⟨aj,Av,pn,aH,Γ,ad,d,cU,G,e1,fun v H' iJ G' r=>q _ _ ⟨iJ,G'.set i r⟩⟩⟩
theorem gM(pe:QH X e h):
  gJ X (.Return (some e) pos) (Cu h):=⟨cz (tR pe.o) fun D σ H aM=>by
 obtain⟨aj,Av,pn,aH,Γ,fl,⟨ad,G⟩,hf,q⟩:=aM;obtain⟨⟨d,cU⟩,e1,hf⟩:=bg hf;subst hf;exact⟨aj,Av,pn,aH,Γ,ad,d,cU,G,e1,fun v H' iJ G' r=>q σ v H' iJ G' r⟩⟩
variable {ht:aD->Option (Bool×aD)}
theorem Hm{a b:List Stmt}(hc:Kr X c ht)(pa:iK X a g1)(pb:iK X b g2):
  gJ X (.If c a b pos) (Hg ht g1 g2):=⟨cz (Jv hc.o pa.o pb.o) fun D σ H aM=>by
 obtain⟨aj,Av,pn,aH,Γ,fl,⟨ad,G⟩,hf,q⟩:=aM;obtain⟨⟨k,cU⟩,e1,hf⟩:=bind_some hf;refine⟨aj,Av,pn,aH,Γ,ad,k,cU,G,e1,fun H' iJ G'=>?_⟩;cases k with
 |true=>rw[if_pos rfl]at hf ⊢;exact⟨aj,Av,pn,aH,cU,fl,⟨iJ,G'⟩,hf,q⟩
 |false=>rw[if_neg Bool.false_ne_true]at hf ⊢;exact⟨aj,Av,pn,aH,cU,fl,⟨iJ,G'⟩,hf,q⟩⟩
theorem tN(i:Nat){k:Int}{j2:Nat}(pe:QH X e h)(hN:X.N[i]?=some x:=by rfl)(hv:mE X.env.scope x:=by first|exact Or.inl rfl|exact Or.inr (Or.inl rfl)|exact Or.inr (Or.inr rfl))(hd:(x==("__debug__" : Str))=false:=by decide)(gf:(x==("__classdict__" : Str))=false:=by decide)(ha:∀v,assign (.Subscript (.Name x p1) (.Constant (.int k) j2 p2) p3) X.env v=(do
   let ov <- holding [v] (eval (.Name x p1) X.env);let iv <- holding [v,ov] (eval (.Constant (.int k) j2 p2) X.env);standAt p3
   holding [v,ov,iv] (setItem ov iv v)
   release [v,ov,iv] []):=by intro _;rfl)(hs:swapsWithSole [.Subscript (.Name x p1) (.Constant (.int k) j2 p2) p3] e pos.line X.env=pure false:=by rfl)(hw:swappedStores [.Subscript (.Name x p1) (.Constant (.int k) j2 p2) p3] e X.env=pure none:=by rfl)(h1:(assignEach [.Subscript (.Name x p1) (.Constant (.int k) j2 p2) p3] X.env).map (·.2)=[assign (.Subscript (.Name x p1) (.Constant (.int k) j2 p2) p3) X.env]:=by rfl):
  gJ X (.Assign [.Subscript (.Name x p1) (.Constant (.int k) j2 p2) p3] e pos) (y7 i k h):=⟨cz (tT pe.o (yu (lY hN hv hd gf) EC set_list ha) hs hw h1) fun D σ H aM=>by
 obtain⟨aj,Av,pn,aH,Γ,fl,⟨ad,G⟩,hf,q⟩:=aM;obtain⟨⟨d,cU⟩,e1,hf⟩:=bind_some hf;dsimp only at hf;split at hf
 ·rename_i ds hi;obtain⟨j,e2,hf⟩:=bg hf;subst hf;refine⟨aj,Av,pn,aH,Γ,ad,d,cU,G,e1,fun v H' iJ G' r=>?_⟩;obtain⟨xs,g1,g2,g3,g4⟩:=G'.own i ds hi;exact⟨_,g1,_,xs,k,j,rfl,rfl,g2,by rw[g3.length];exact e2,q _ _ ⟨iJ,G'.change hi (g3.set r)⟩⟩
 ·cases hf⟩
theorem si{F:List Dat->Option (List Dat)}{fs:aw->Option (List Dat)}(D:uP X.prog X.w X.K X.mg X.base k x ps n F)(hr:cv k X.A)(pa:kh X (e::es) fs)(hg:Gl X x:=by rfl)(jc:(x==("__debug__" : Str))=false:=by decide)(he:starEach (e::es) X.env=(false,eval e X.env)::starEach es X.env:=by rfl)(ey:(backTo pos (starEach es X.env)).any (·.1)=false:=by rfl):
  QE X (.Call (.Name x p) (e::es) [] pos) (jN X.K (Di n F fs)):=⟨by
 obtain⟨f,fd,h1,h2,h3,h4⟩:=D.ex;refine bj (qU h1 hr hg h2 h3 h4 .nil xF pa.o jc he ey) fun σ H Q ⟨Av,ρ,out,hA,hE,hf,q⟩=>?_;obtain⟨ds,e1,hf⟩:=bind_some hf;split at hf
 ·rename_i hl;exact⟨Av,ρ,ds,hA,hE,e1,fun xs H1 s1 r1=>⟨Av,ds,out,hA.same s1,by rw[append_nil];exact r1,hl,hf,fun H2 p xs s2 hp r2=>q H2 p xs (s1.trans s2) hp r2⟩⟩
 ·cases hf⟩
theorem L8{fs:aw->Option (List Dat)}{F:List Dat->Option (List Dat)}(U:mH K x qual st fa fd)(hm:mg x=some (.ref fa))(hB:Binds K fd ps [])(S:fR N ps (aU st))(hn:ps.length=n){ex:Expr}(hb:cT st=[.Return (some ex) px])(hbody:∀(bA:Value) (A:Around) (outer:List Env) (s:Shared) (H:Hp) (E:XK),cv k (A.deeper (envOfC qual (aU st) s.heap.objs.size fa bA))->QE (jv iV P w K mg base N qual (aU st) fa bA A outer s H E).nV ex (jN K fs))(hF:∀ds out,ds.length=n->F ds=some out->fs (bU (cF N ds))=some out):
  uP P w K mg base (k+1) x ps n F:=
 OH (U:=U) (hm:=hm) (hB:=hB) (S:=S) (hn:=hn) (hb:=hb) (hbody:=(fun a b c d e f g=>(hbody a b c d e f g).o)) (hF:=hF)
theorem Hn(h:QF X iter f):
  uI X tg iter (NS f):=⟨nU (tU h.o) fun σ H R aM=>by
 obtain⟨Av,ρ,ds,hA,hE,hf,q⟩:=aM;obtain⟨d,e1,hf⟩:=bind_some hf;refine⟨Av,ρ,d,hA,hE,e1,fun x H1 s1 r=>?_⟩;cases d with
 |list dQ=>
  cases hf;obtain⟨a,xs,rfl,hq,rs⟩:=r.fY;exact⟨a,rfl,.inl ⟨⟨xs,hq.sq⟩,q _ [_] [_] H1 s1 (.cons r .nil) qc.s⟩⟩
 |tuple dQ=>
  cases hf;obtain⟨a,xs,rfl,hq,rs⟩:=r.fM;exact⟨a,rfl,.inr ⟨⟨xs,hq.sq⟩,q _ [_] [_] H1 s1 (.cons r .nil) sk.s⟩⟩
 |_=>cases hf⟩
variable {fs:aw->Option (List Dat)} in
theorem j8(hm:X.mg "range"=none)(ha:kh X [a] fs)(Oe:Gl X "range":=by rfl)(hst:starEach [a] X.env=[(false,eval a X.env)]:=by rfl):
  uI X tg (.Call (.Name "range" p) [a] [] pos') (qk jS fs):=⟨nU (wy Oe hm ha.o hst) fun σ H R aM=>by
 obtain⟨Av,ρ,ds,hA,hE,hf,q⟩:=aM;obtain⟨as,e1,e2⟩:=bind_some hf;refine⟨Av,ρ,as,hA,hE,e1,fun vs H1 s1 r=>?_⟩;unfold jS at e2;split at e2
 ·rename_i j;split at e2
  ·rename_i hj;cases e2;obtain⟨v,rfl,rv⟩:=r.eM;rw[rv.cY];exact⟨j,rfl,hj.1,hj.2,q _ [.bM] [.none] H1 s1 (.cons .bM .nil) tV.s⟩
  ·cases e2
 ·cases e2⟩
theorem jA(hp:PassesOwn (model X.prog X.w) X.A X.env X.xe)(hc:X.calm=true)(hi:uI X tg iter fi)(hg:QG X tg (k9 X.K gt))(hb:iK X body gb)(hs:∀x,foldedSetIterable iter X.env x=pure x:=by intro _;rfl):
  gJ X (.For tg iter body [] pos) (ly gt gb fi):=⟨cz (yq hp hc hi.o hg.o hb.o hs) fun D σ H aM=>by
 obtain⟨aj,Av,pn,aH,Γ,fl,⟨ad,G⟩,hf,q⟩:=aM;obtain⟨ds,e1,hf⟩:=bind_some hf;exact⟨aS Av Γ ad,bw Γ,ds,G.gR,G.j3,e1,fun J xs n8 H1 s1 rx ov=>Dh ov (G.grow s1) rx hf q⟩⟩
theorem jT{aX:List (Option Nat)}(hc:X.calm=true)(B:rR X scope cl N' aX)(hi:uI X tg iter fi)(hg:∀C aL aj ex,QG (dG X scope cl N' C aL aj ex) tg (k9 X.K gt))(ht:∀C aL aj ex,Cj (dG X scope cl N' C aL aj ex) ifs (mM X.K ft))(he:∀C aL aj ex,QF (dG X scope cl N' C aL aj ex) elt fe)(hT:nJ gt aX)(hs:∀x,foldedSetIterable iter X.env x=pure x:=by intro _;rfl):
  QE X (.ListComp elt [⟨tg,iter,ifs,0⟩] scope pos) (jN X.K (gG aX gt ft fe fi)):=⟨bj (vd hc B hi.o ((fun C aL aj ex=>(hg C aL aj ex).o)) ((fun C aL aj ex=>(ht C aL aj ex).o)) ((fun C aL aj ex=>(he C aL aj ex).o)) hs) (AQ hT)⟩
theorem yg{hf:aD->Option (List Dat×aD)}(h:QE X e (ME X.K hf)):
  QH X e (hL hf):=⟨bj h.o fun σ H Q aM=>by
 obtain⟨aj,Av,pn,aH,Γ,ad,d,ag,G,hf,q⟩:=aM;obtain⟨⟨ds,cU⟩,e1,hf⟩:=bg hf;cases hf;exact⟨aj,Av,pn,aH,Γ,ad,ds,cU,G,e1,fun H1 p xs jZ G1 hp r=>q _ _ jZ (G1.grow (bV hp _)) (.qg G1.gR hp r)⟩⟩
theorem wj(i:Nat){fe:HF}(hc:X.calm=true)(B:rR X scope cl N' (some i::fQ))(hi:uI X tg iter fi)(hg:∀C aL aj ex,QG (dG X scope cl N' C aL aj ex) tg (k9 X.K gt))(he:∀C aL aj ex,QH (dG X scope cl N' C aL aj ex) elt fe)(hT:nJ gt (some i::fQ))(hs:∀x,foldedSetIterable iter X.env x=pure x:=by intro _;rfl):
  QE X (.ListComp elt [⟨tg,iter,[],0⟩] scope pos) (ME X.K (mY i fQ gt fe fi)):=⟨bj (vd hc B hi.o ((fun C aL aj ex=>(hg C aL aj ex).o)) (fun _ _ _ _=>B7) ((fun C aL aj ex=>(he C aL aj ex).o)) hs) (KO hT)⟩
variable {fs:aw->Option (List Dat)} in
theorem lW{dN:List Expr}{pt:Pos}(hm:X.mg "zip"=none)(ha:kh X [a,b] fs)(hg:Gl X "zip":=by rfl)(hs:starEach [a,b] X.env=[(false,eval a X.env),(false,eval b X.env)]:=by rfl)(p9:starEach [b] X.env=[(false,eval b X.env)]:=by rfl):
  uI X (.Tuple dN kt pt) (.Call (.Name "zip" p) [a,b] [] pos) (CS fs):=⟨nU (Na hg hm ha.o hs p9) fun σ H R aM=>by
 obtain⟨Av,ρ,ds,hA,hE,hf,q⟩:=aM;obtain⟨as,e1,hf⟩:=bind_some hf;refine⟨Av,ρ,as,hA,hE,e1,fun vs H1 s1 r=>?_⟩;match as,hf,r with
 |[d1,d2],hf,r=>
  obtain⟨x,f1,hf⟩:=bind_some hf;obtain⟨y,f2,hf⟩:=bg hf;subst hf;obtain⟨v,u,rfl,rv,ru⟩:=r.fz;obtain⟨k1,a1,rfl,g1⟩:=yL rv f1;obtain⟨k2,a2,rfl,g2⟩:=yL ru f2;obtain⟨xs,c1,_⟩:=g1 H1 Av rv;obtain⟨ys,c2,_⟩:=g2 H1 Av ru;refine⟨k1,k2,a1,a2,rfl,⟨xs,c1⟩,⟨ys,c2⟩,q _ [.ref a1,.ref a2] [d1,d2] H1 s1 r fun i H iA rr=>?_⟩;obtain⟨v',u',e,Ed,V4⟩:=rr.fz;cases e;obtain⟨xs,c1,rx⟩:=g1 H iA Ed;obtain⟨ys,c2,ry⟩:=g2 H iA V4;refine⟨fun hl=>⟨xs,ys,c1,c2,?_⟩,fun di hd=>?_⟩
  ·rw[(lP (i:=0)).1]at hl;rw[rx.length,ry.length];omega
  ·obtain⟨dx,dy,h1,h2,rfl⟩:=(lP (xs:=x) (ys:=y) (i:=i)).2 di hd;obtain⟨vx,hx,MT⟩:=rx.get h1;obtain⟨vy,hy,V3⟩:=ry.get h2;refine⟨⟨xs,ys,vx,vy,c1,c2,hx,hy⟩,fun z H' Oh hz=>?_⟩;obtain⟨T,x',y',rfl,hT,rfl,hh⟩:=hz;obtain⟨h3,h4⟩:=hh xs ys c1 c2;rw[hx]at h3;rw[hy]at h4;cases h3;cases h4;exact⟨bV hT _,.sC Oh hT (.cons MT (.cons V3 .nil))⟩⟩
theorem wm(hm:X.mg "tuple"=none)(pa:A6 X (e::es) hs)(hg:Gl X "tuple":=by rfl)(he:starEach (e::es) X.env=(false,eval e X.env)::starEach es X.env:=by rfl)(ey:(backTo pos (starEach es X.env)).any (·.1)=false:=by rfl):
  QH X (.Call (.Name "tuple" p) (e::es) [] pos) (oT gC hs):=⟨Ex pv rM hm pa.o hg (by decide +kernel) (by decide) (by decide) he ey⟩
variable {fs:aw->Option (List Dat)} in
theorem sh(ha:QE X a (jN X.K fs))(hb:QF X b fb):
  QE X (.BinOp a .Mult b pos) (jN X.K (oV fs fb)):=⟨bj (xE Nk ha.o hb.o) fun σ H Q aM=>by
 obtain⟨Av,ρ,out,hA,hE,hf,q⟩:=aM;obtain⟨ds,e1,hf⟩:=bind_some hf;obtain⟨d,e2,hf⟩:=bind_some hf;split at hf
 ·rename_i k;split at hf
  ·rename_i hk;cases hf;refine⟨Av,ρ,ds,hA,hE,e1,fun H1 p xs s1 hp r=>?_⟩;have s2:=bV hp (.lst xs);refine⟨Av,ρ,.int k,hA.same (s1.trans s2),hE.same (s1.trans s2),e2,fun y H2 s3 ry=>?_⟩;exact⟨p,k,xs,rfl,ry.cY,s3 p _ dR,hk.1.1,hk.1.2,by rw[r.length];exact hk.2,fun q' hq=>q H2 q' _ (s1.trans (s2.trans s3)) hq ((r.same (s2.trans s3)).rep _)⟩
  ·cases hf
 ·cases hf⟩
theorem tO(i:Nat){pO:Pos}{aX:List (Option Nat)}(hN:X.N.Nodup)(hc:X.calm=true)(B:rR X scope cl N' aX)(hi:uI X tg iter fi)(hg:∀C aL aj ex,QG (dG X scope cl N' C aL aj ex) tg (k9 X.K gt))(ht:∀C aL aj ex,Cj (dG X scope cl N' C aL aj ex) ifs (mM X.K ft))(he:∀C aL aj ex,QF (dG X scope cl N' C aL aj ex) elt fe)(hT:nJ gt aX)(Fc:X.N[i]?=some x:=by rfl)(hx:Loc X.env.scope x:=by first|exact .inl rfl|exact .inr rfl)(FA:swapsWith (.ListComp elt [⟨tg,iter,ifs,0⟩] scope pos) (some (.Name x pos')) pO.line X.env=pure true:=by rfl)(FI:X.fn x=true\/X.env.scope.names.lookup x=some .local:=by first|exact .inl rfl|exact .inr rfl)(hs:∀x,foldedSetIterable iter X.env x=pure x:=by intro _;rfl):
  gJ X (.Assign [.Name x pos'] (.ListComp elt [⟨tg,iter,ifs,0⟩] scope pos) pO) (oB i (gG aX gt ft fe fi)):=⟨cz (Bb hc B hi.o ((fun C aL aj ex=>(hg C aL aj ex).o)) ((fun C aL aj ex=>(ht C aL aj ex).o)) ((fun C aL aj ex=>(he C aL aj ex).o)) hN Fc hx FA FI hs) fun D σ H aM=>by
 obtain⟨aj,Av,pn,aH,Γ,fl,⟨ad,G⟩,hf,q⟩:=aM;obtain⟨ds,e1,hf⟩:=bg hf;subst hf;exact AQ hT σ H _ ⟨aS Av Γ ad,bw Γ,ds,G.gR,G.j3,e1,fun H1 p xs s hp r=>q _ _ ⟨ad,((G.grow s).grow (bV hp _)).set i (.qg (G.grow s).gR hp r)⟩⟩⟩
theorem N3(U:mH K x qual st fa fd)(S:fR N ps (aU st))(hn:ps.length=n)(hbody:∀(bA:Value) (A:Around) (outer:List Env) (s:Shared) (H:Hp) (E:XK),cv k (A.deeper (envOfC qual (aU st) s.heap.objs.size fa bA))->iK (jv iV P w K mg base N qual (aU st) fa bA A outer s H E).nV (cT st) g)(hF:∀ds d,ds.length=n->F ds=some d->iW N g ds=some d):gu P w K mg base iV (k+1) fa fd ps (E5 K n F):=by
 have ey:ps.length<=N.length:=by have:=congrArg List.length S.pre;rw[length_take]at this;omega
 refine U.ok S (fun vs H Q E h=>?_) (fun bA A outer s H vs Q E hr h=>?_)
 ·obtain⟨Av,ds,d,_,r,hl,_⟩:=h;rw[r.length,hl,hn]
 ·obtain⟨Av,ds,d,hA,r,hl,hd,q⟩:=h;have dF:=hF ds d hl hd;unfold iW at dF;refine⟨_,(hbody bA A outer s H E hr).o,?_⟩;cases hg:g (cF N ds)with
  |none=>rw[hg]at dF;cases dF
  |some fl=>
   refine⟨H,Av,none,[],cF N ds,fl,sP hA r (by omega),hg,?_⟩;rw[hg]at dF;cases fl with
   |nx Γ=>cases dF;exact fun bC H' ⟨ad,G⟩=>q _ H' G.same .bM
   |rt d'=>cases dF;exact fun v H' s r=>q v H' s r
   |bk Γ=>cases dF
   |ct Γ=>cases dF
   |rm d' Γ=>cases dF
open PySem PySem.Spec PyProof.Rows L2
open PySem.W (Dat kqdOk)
def pQ:Dat->Option Int->Option Int->Option Dat
 | .list ds,lo,hi=>some (.list (cutD ds lo hi))
 | .tuple ds,lo,hi=>if ¬(HT.bX ds.length 0 lo=0/\HT.bX ds.length ds.length hi=ds.length)then some (.tuple (cutD ds lo hi))else none
 |_,_,_=>none
def mx (f:aw->Option Dat) (fl fh:aw->Option (Option Int)):aw->Option Dat:=fun ρ=>(f ρ).bind fun d=>(fl ρ).bind fun l=>(fh ρ).bind fun h=>pQ d l h
theorem Ey{lo hi:Option Expr}{fl fh:aw->Option (Option Int)}(h:PF X e f)(hl:SF X lo fl)(hh:SF X hi fh):PF X (.Subscript e (.Slice lo hi none p2) pos) (mx f fl fh):=bj (Hz (KP.or MN) h hl hh) fun σ H Q aM=>by
 obtain⟨Av,ρ,d,hA,hE,hf,q⟩:=aM;obtain⟨dx,e1,hf⟩:=bind_some hf;obtain⟨l,e2,hf⟩:=bind_some hf;obtain⟨u,e3,hf⟩:=bind_some hf;refine⟨Av,ρ,_,hA,hE,e1,fun x H1 s1 r1=>⟨Av,ρ,l,hA.same s1,hE.same s1,e2,fun H2 s2=>⟨Av,ρ,u,hA.same (s1.trans s2),hE.same (s1.trans s2),e3,fun H3 s3=>?_⟩⟩⟩;have sa:=s1.trans (s2.trans s3);unfold pQ at hf;split at hf
 ·cases hf;obtain⟨a,xs,rfl,hq,rs⟩:=(r1.same (s2.trans s3)).fY;refine .inl ⟨a,xs,rfl,hq.sq,fun p hp=>q _ _ (sa.trans (bV hp _)) (.qg (hA.same sa) hp ?_)⟩;unfold qx cutD;rw[rs.length];exact(rs.drop _).take _
 ·split at hf
  ·rename_i hw;cases hf;obtain⟨a,xs,rfl,hq,rs⟩:=(r1.same (s2.trans s3)).fM;refine .inr ⟨a,xs,rfl,hq.sq,by rw[rs.length];exact hw,fun p hp=>q _ _ (sa.trans (bV hp _)) (.sC (hA.same sa) hp ?_)⟩;unfold qx cutD;rw[rs.length];exact(rs.drop _).take _
  ·cases hf
 ·cases hf
theorem fc{lo hi:Option Expr}{fl fh:aw->Option (Option Int)}(h:QF X e f)(hl:Kt X lo fl)(hh:Kt X hi fh):QF X (.Subscript e (.Slice lo hi none p2) pos) (mx f fl fh):=⟨Ey h.o hl.o hh.o⟩
def Js (K:Fg):R2:=fun x y H Q=>∃l b xs zs,x=.ref l/\y=.ref b/\iT K H l xs/\iT K H b zs/\xs.length+zs.length<=sizeLine/\(xs=[]->Q (.ref b) H)/\(xs≠[]->zs=[]->Q (.ref l) H)/\(xs≠[]->zs≠[]->∀p,H p=none->Q (.ref p) (upd H p (.tup (xs++zs))))
theorem Lu:eC X (binaryOp .Add) (Js X.K):=by
 intro pins s σ H x y v u Q I rx ry h;obtain⟨l,b,xs,zs,rfl,rfl,hH,hB,hz,q0,q1,q2⟩:=h;cases rx;cases ry;obtain⟨ak,r,p1,_⟩:=I.tuple hH;obtain⟨iY,r2,p2,_⟩:=I.tuple hB;obtain⟨⟨cls,dd,data,sl⟩,ho,hc,n,hd⟩:=p1;obtain⟨⟨UD,Gj,data2,E9⟩,qo,zg,n2,hd2⟩:=p2;simp only at hc hd zg hd2;subst hc hd zg hd2;have h1:=r.length;have h2:=r2.length;have e:ak.toArray++iY.toArray=(ak++iY).toArray:=by simp
 have nf:=PySem.noFill_tuple_add;have sa:=PySem.seq_tuple_add;by_cases hv:ak=[]
 ·have hx:xs=[]:=r.qX.mp hv;exact concat_meets ⟨_,ho,rfl⟩ ⟨_,qo,rfl⟩ nf sa F.slot_tuple_add F.entry_tuple_add (F.args_tuple_add_2 _ _) (tuple_addW0 l b ak.toArray iY.toArray n n2 dd Gj sl E9 (by simp[hv])) ⟨ho,qo,⟨.ref b,H,I,rfl,q0 hx⟩⟩
 ·have hx:xs≠[]:=fun z=>hv (r.qX.mpr z);by_cases hw:iY=[]
  ·have hy:zs=[]:=r2.qX.mp hw;exact concat_meets ⟨_,ho,rfl⟩ ⟨_,qo,rfl⟩ nf sa F.slot_tuple_add F.entry_tuple_add (F.args_tuple_add_2 _ _) (tuple_addW1 l b ak.toArray iY.toArray n n2 dd Gj sl E9 (by simpa using hv) (by simp[hw])) ⟨ho,qo,⟨.ref l,H,I,rfl,q1 hx hy⟩⟩
  ·have hy:zs≠[]:=fun z=>hw (r2.qX.mpr z);refine concat_meets ⟨_,ho,rfl⟩ ⟨_,qo,rfl⟩ nf sa F.slot_tuple_add F.entry_tuple_add (F.args_tuple_add_2 _ _) (tuple_addW2 l b ak.toArray iY.toArray n n2 dd Gj sl E9 (by simpa using hv) (by simpa using hw) (by rw[size_toArray,size_toArray];omega)) ⟨ho,qo,?_⟩;rw[e];refine⟨.ref s.heap.objs.size,upd H s.heap.objs.size (.tup (xs++zs)),I.laid (t':=s.toks) (fun b u e=>get?_push_of_some _ e) (le_refl _) ?_,rfl,q2 hx hy _ I.fresh⟩;exact⟨by rw[length_append];exact hz,_,r.append r2,⟨_,get?_push_size _ rfl,rfl,_,rfl⟩⟩
def qA:Dat->Dat->Option Dat
 | .list xs,.list ys=>if xs.length+ys.length<=sizeLine then some (.list (xs++ys))else none
 | .tuple xs,.tuple ys=>if xs.length+ys.length<=sizeLine then some (.tuple (xs++ys))else none
 |x,y=>kA x y
theorem HD:nh X.K (fun x y H Q=>(Jt X.K x y H Q\/Js X.K x y H Q)\/((∃i j,x=.int i/\y=.int j/\Q (.int (i+j)) H)\/∃i j,x=.str i/\y=.str j/\i.length+j.length<=sizeLine/\Q (.str (i++j)) H)) qA:=by
 intro H Av x y dx dy d Q hA rx ry h q;unfold qA at h;split at h
 ·split at h
  ·rename_i hz;cases h;obtain⟨l,xs,rfl,hq,rs⟩:=rx.fY;obtain⟨m,ys,rfl,BB,tJ⟩:=ry.fY;exact .inl (.inl ⟨l,m,xs,ys,rfl,rfl,hq.sq,BB.sq,by rw[rs.length,tJ.length];exact hz,fun p hp=>q _ _ (bV hp _) (.qg hA hp (rs.append tJ))⟩)
  ·cases h
 ·split at h
  ·rename_i hz;cases h;obtain⟨l,xs,rfl,hq,rs⟩:=rx.fM;obtain⟨m,ys,rfl,BB,tJ⟩:=ry.fM;refine .inl (.inr ⟨l,m,xs,ys,rfl,rfl,hq.sq,BB.sq,by rw[rs.length,tJ.length];exact hz,fun e=>?_,fun _ e=>?_,fun _ _ p hp=>q _ _ (bV hp _) (.sC hA hp (rs.append tJ))⟩)
   ·subst e;cases rs;exact q _ H (aW.refl H) (.tup BB tJ)
   ·subst e;cases tJ;rw[append_nil]at q;exact q _ H (aW.refl H) (.tup hq rs)
  ·cases h
 ·unfold kA at h;split at h
  ·cases h;exact .inr (.inl ⟨_,_,rx.cY,ry.cY,q _ H (aW.refl H) (.int _)⟩)
  ·split at h
   ·rename_i hz;cases h;exact .inr (.inr ⟨_,_,rx.ig,ry.ig,hz,q _ H (aW.refl H) (.str _)⟩)
   ·cases h
  ·cases h
variable {fa:aw->Option Dat}
theorem kv(pa:QF X a fa)(pb:QF X b fb):QF X (.BinOp a .Add b pos) (f2 qA fa fb):=⟨lX ((Bi.or Lu).or (yz.or oG)) HD pa.o pb.o⟩
theorem L7(pa:QF X a fa)(pb:QF X b fb):QF X (.Compare a [.Is] [b] pos) (f2 jU fa fb):=⟨q9 EI Bj pa.o pb.o (i4 _)⟩
open PySem PySem.Spec PyProof.Rows L2
open PySem.W (Dat kqdOk)
def zG (h:Heap) (l:Addr):Heap:=h.push {cls:=.type "list_iterator",data:=.fields #[.ref l,.int 0 0]}
theorem G6(l:Addr)(ak:Array Value):Meets (Builtin.«enumerate.__new__» ⟨[.type "enumerate",.ref l],[]⟩) (fun _ R s=>s.heap.IsList l ak/\R (.ok (.ret (.ref (zG s.heap l).objs.size))) {s with heap:=(zG s.heap l).push {cls:=.type "enumerate",data:=.fields #[.none,.bool false,.ref s.heap.objs.size,rawInt 0,.none,.none]}}):=
 .of_wp fun prog w A R s h=>by
  obtain⟨hp,g,d,tk,os⟩:=s;obtain⟨c1,h⟩:=h;have Ua:=sub_enumerate;have e1:IsList (Shared.heap ⟨hp,g,d,tk,os⟩) l ak:=c1;wp_walk using wpAny_pyIter_list e1
  refine wpAny_stack_any fun st=>wpAny_pure ?_;split
  ·rename_i c _ _ _ _ _;cases(c==Value.type "enumerate")<;>(wp_walk using wpAny_pyIter_list e1;exact⟨_,rfl,h⟩)
  ·wp_walk using wpAny_pyIter_list e1
   exact⟨_,rfl,h⟩
theorem Dr{s:Shared}{l:Addr}(c1:s.heap.IsList l ak)(h:∀h' e it,e≠it->IsEnum h' e it 0 .none->h'.IsListIter it l 0->(∀b o,s.heap.get? b=some o->h'.get? b=some o)->(∀b∈[e,it],s.heap.objs.size<=b)->Q (.ref e) {s with heap:=h'}):
  wpAny (model prog w) A (call (.type "enumerate") [.ref l]) Q E s:=by
 refine callType_new F.called_enumerate (by decide) (F.typeCall_enumerate_1 _) (F.newCall_enumerate_1 _) (fun obj=>F.args_object_init_2 obj _) F.entry_enumerate_new (G6 l ak) ⟨c1,?_⟩;have y1:(zG s.heap l).objs.size=s.heap.objs.size+1:=by unfold zG;rw[size_push]
 have f2:((zG s.heap l).push {cls:=.type "enumerate",data:=.fields #[.none,.bool false,.ref s.heap.objs.size,rawInt 0,.none,.none]}).get? (zG s.heap l).objs.size=some _:=get?_push_size _ rfl;have f1:((zG s.heap l).push {cls:=.type "enumerate",data:=.fields #[.none,.bool false,.ref s.heap.objs.size,rawInt 0,.none,.none]}).get? s.heap.objs.size=some _:=get?_push_of_some _ (get?_push_size _ rfl);refine(?_:_/\_);refine⟨⟨_,f2,rfl⟩,h _ _ s.heap.objs.size (by rw[y1];exact Nat.succ_ne_self _) f2 ⟨_,f1,rfl,rfl⟩ (fun b o e=>get?_push_of_some _ (get?_push_of_some _ e)) fun b hb=>?_⟩;simp only[mem_cons,not_mem_nil,or_false]at hb;rcases hb with e|e
 ·rw[e,y1];exact Nat.le_succ _
 ·rw[e];exact le_refl _
def SU (K:Fg) (a:Addr):It:=
 ⟨fun i H=>∃xs x,fw K H a xs/\xs[i]?=some x,
  fun i H v H'=>∃T x,v=.ref T/\H T=none/\H'=upd H T (.tup [.int i,x])/\∀xs,fw K H a xs->xs[i]?=some x,
  fun i H=>∃xs,fw K H a xs/\xs.length<=i⟩
theorem DU{dN:List Expr}{pt:Pos}{a e:Addr}(ne:e≠it):
  Turn P w K (.Tuple dN kt pt) (SU K a) [e,it] e (fun i h=>(∃old,IsEnum h e it (i:Int) old)/\h.IsListIter it a i) where
 mem:=mem_cons_self
 obj:=fun i h st b hb=>by
  obtain⟨⟨old,Z⟩,o,ho,_,hd⟩:=st;simp only[mem_cons,not_mem_nil,or_false]at hb;rcases hb with q|q
  ·rw[q];exact⟨_,Z,fun v z=>nomatch z⟩
  ·rw[q];exact⟨o,ho,fun v z=>by rw[hd]at z;cases z⟩
 keep:=fun i h h' st k=>by
  obtain⟨⟨old,Z⟩,o,ho,r⟩:=st;exact⟨⟨old,k e (by simp) _ Z⟩,o,k it (by simp) _ ho,r⟩
 item:=by
  intro X hP hw hK hc i pins s σ H E I hf st hg;subst hP hw hK;obtain⟨⟨old,Z⟩,w1⟩:=st;obtain⟨xs,x,c1,hx⟩:=hg;obtain⟨ak,r1,p1,_⟩:=I.list c1;obtain⟨ux,O0,rx⟩:=r1.get hx;have lt:∀b∈[e,it],b<s.heap.objs.size:=fun b hb=>by
   simp only[mem_cons,not_mem_nil,or_false]at hb;rcases hb with q|q
   ·rw[q];exact lt_size Z
   ·rw[q];obtain⟨o,ho,_⟩:=w1;exact lt_size ho
  refine wpAny_pyNext_enum_item Z w1 p1.isList (x:=ux) (by simpa using O0) ne fun g b1 b2 b3 b4 b5=>⟨_,rfl,?_⟩;refine wpAny_letOwnedTupleGo_enum (s:={s with heap:=g,toks:=s.toks+1}) b1 fun g' b6 b7=>?_;have In:Inv X pins σ (upd H s.heap.objs.size (.tup [.int i,x])) {s with heap:=s.heap.push {cls:=.type "tuple",data:=.seq #[.int i s.toks,ux]},toks:=s.toks+1}:=
   I.laid (t':=s.toks+1) (fun b u e=>get?_push_of_some _ e) (le_refl _) ⟨by show 2<=sizeLine;decide,[.int i s.toks,ux],.cons ⟨_,rfl⟩ (.cons rx .nil),⟨_,get?_push_size _ rfl,rfl,_,rfl⟩⟩
  have ui:∀b∈[e,it],(upd H s.heap.objs.size (.tup [.int i,x])) b=none:=fun b hb=>by
   rw[bz (ne_of_lt (lt b hb))];exact(hf b hb).1
  have I3:Inv X pins σ (upd H s.heap.objs.size (.tup [.int i,x])) {s with heap:=g',toks:=s.toks+1}:=qN (s:={s with heap:=s.heap.push {cls:=.type "tuple",data:=.seq #[.int i s.toks,ux]},toks:=s.toks+1}) (h':=g') (t':=s.toks+1) (ch:=[e,it]) In (fun b o hb q=>by
   simp only[mem_cons,not_mem_nil,or_false,not_or]at hb;refine b7.extBut _ _ hb.1 ?_;rcases Heap.get?_push_cases (show(s.heap.push {cls:=.type "tuple",data:=.seq #[.int i s.toks,ux]}).get? b=some o from q)with⟨e1,e2⟩|e1
   ·rw[e1,e2];exact b3
   ·exact b5 b o hb.1 hb.2 e1) fun b hb=>⟨ui b hb,(hf b hb).2⟩
  refine⟨.ref s.heap.objs.size,upd H s.heap.objs.size (.tup [.int i,x]),I3,rfl,⟨_,x,rfl,I.bh.fresh (le_refl _),rfl,fun ys d1=>?_⟩,⟨⟨_,b6⟩,?_⟩,ui⟩
  ·rw[I.sI d1 c1];exact hx
  ·obtain⟨o,ho,r⟩:=b2;exact⟨o,b7.extBut _ _ ne.symm ho,r⟩
 done:=by
  intro X hP hw hK hc i pins s σ H E I hf st hg;subst hP hw hK;obtain⟨⟨old,Z⟩,w1⟩:=st;obtain⟨xs,c1,hl⟩:=hg;obtain⟨ak,r1,p1,_⟩:=I.list c1;have l1:=r1.length;refine wpAny_pyNext_enum_end (I.ok.hd hc) Z w1 p1.isList (by simp;omega) fun g k=>⟨rfl,?_⟩;exact qN (h':=g) (t':=s.toks) (ch:=[e,it]) I (fun b o hb q=>by
   simp only[mem_cons,not_mem_nil,or_false,not_or]at hb;exact k b o hb.2 q) hf
 self:=fun A i s Q E st h=>wpAny_pyIter_enum st.1.choose_spec h
def Qo (K:Fg) (ta:TA):TI:=fun σ H R=>ta σ H fun vs H1=>∃a1,vs=[.ref a1]/\(∃xs,fw K H1 a1 xs)/\R (SU K a1) H1
theorem Li{dN:List Expr}{pt:Pos}(hg:Gl X "enumerate")(hm:X.mg "enumerate"=none)(ha:PA X [a] ta)(hs:starEach [a] X.env=[(false,eval a X.env)]:=by rfl):
  PI X (.Tuple dN kt pt) (.Call (.Name "enumerate" p) [a] [] pos) (Qo X.K ta):=by
 intro pins s σ H R I h;refine Call_ (mf I hg hm boot_enumerate (PyProof.Rows.callWith_type1 (bZ (ha pos pins s σ H _ I h) fun us s1 ⟨vs,H1,I1,r1,q1⟩=>?_) (by rw[hs];rfl) (by rfl)));obtain⟨a1,e,⟨xs,c1⟩,q⟩:=q1;subst e;cases r1 with
 |cons r rr=>
  cases rr;cases r;obtain⟨CP,_,p1,_⟩:=I1.list c1;exact Dr p1.isList fun h' e it ne Z w1 kk new=>wpAny_pyIter_enum Z ⟨e,[e,it],_,_,H1,rfl,I1.kept (t':=s1.toks) kk,DU ne,⟨⟨_,Z⟩,w1⟩,fun b hb=>I1.vt (new b hb) (I1.bh.fresh (new b hb)),q⟩
def jY:Nat->List Dat->List Dat
 |_,[]=>[]
 |i,x::xs=>.tuple [.int i,x]::jY (i+1) xs
variable {fs:aw->Option (List Dat)} in
def qm (fs:aw->Option (List Dat)):aw->Option (List Dat):=fun ρ=>(fs ρ).bind fun ds=>match ds with
 |[.list xs]=>some (jY 0 xs)
 |_=>none
theorem wY:∀(xs:List Dat) (i:Nat),(jY i xs).length=xs.length
 |[],_=>rfl
 |x::xs,i=>congrArg (· + 1) (wY xs (i+1))
theorem wZ:∀{xs:List Dat} {k i:Nat} {d:Dat},(jY k xs)[i]?=some d->∃x,xs[i]?=some x/\d=.tuple [.int ((k+i:Nat):Int),x]
 |[],k,i,d,h=>by simp[jY]at h
 |x::xs,k,0,d,h=>by simp[jY]at h;exact⟨x,rfl,h.symm⟩
 |x::xs,k,i+1,d,h=>by
  obtain⟨y,h1,h2⟩:=wZ (xs:=xs) (k:=k+1) (i:=i) (by simpa [jY]using h);exact⟨y,by simpa using h1,by rw[h2,show k+1+i=k+(i+1) by omega]⟩
variable {fs:aw->Option (List Dat)} in
theorem Hv{dN:List Expr}{pt:Pos}(hm:X.mg "enumerate"=none)(ha:Ku X [a] fs)(hg:Gl X "enumerate":=by rfl)(hs:starEach [a] X.env=[(false,eval a X.env)]:=by rfl):
  SE X (.Tuple dN kt pt) (.Call (.Name "enumerate" p) [a] [] pos) (qm fs):=nU (Li hg hm ha hs) fun σ H R aM=>by
 obtain⟨Av,ρ,ds,hA,hE,hf,q⟩:=aM;obtain⟨as,e1,hf⟩:=bind_some hf;refine⟨Av,ρ,as,hA,hE,e1,fun vs H1 s1 r=>?_⟩;match as,hf,r with
 |[.list x],hf,r=>
  cases hf;obtain⟨v,rfl,rv⟩:=r.eM;obtain⟨a1,xs,rfl,c1,_⟩:=rv.fY;refine⟨a1,rfl,⟨xs,c1.sq⟩,q _ [.ref a1] [.list x] H1 s1 r fun i H iA rr=>?_⟩;obtain⟨v',e,Ed⟩:=rr.eM;cases e;obtain⟨_,xs,e,c1,rx⟩:=Ed.fY;cases e;refine⟨fun hl=>⟨xs,c1.sq,?_⟩,fun di hd=>?_⟩
  ·rw[wY]at hl;rw[rx.length];exact hl
  ·obtain⟨dx,h1,rfl⟩:=wZ hd;obtain⟨vx,hx,MT⟩:=rx.get h1;refine⟨⟨xs,vx,c1.sq,hx⟩,fun z H' Oh hz=>?_⟩;obtain⟨T,x',rfl,hT,rfl,hh⟩:=hz;have h3:=hh xs c1.sq;rw[hx]at h3;cases h3;rw[zero_add];exact⟨bV hT _,.sC Oh hT (.cons (.int _) (.cons MT .nil))⟩
variable {fs:aw->Option (List Dat)} in
theorem pX{dN:List Expr}{pt:Pos}(hm:X.mg "enumerate"=none)(ha:kh X [a] fs)(hg:Gl X "enumerate":=by rfl)(hs:starEach [a] X.env=[(false,eval a X.env)]:=by rfl):
  uI X (.Tuple dN kt pt) (.Call (.Name "enumerate" p) [a] [] pos) (qm fs):=⟨Hv hm ha.o hg hs⟩
open PySem PySem.Spec PyProof.Rows L2
open PySem.W (Dat kqdOk)
def Kx (hi:Int) (n:Nat):It:=⟨fun i _=>i<n,fun i H x H'=>H'=H/\x=.int (hi-i),fun i _=>n<=i⟩
theorem DV(it:Addr)(hi:Int)(n:Nat):Turn P w K tg (Kx hi n) [it] it (fun i h=>IsRangeIter h it (hi+(i:Nat)*(-1)) ((n:Int)-(i:Nat)) (-1)) where
 mem:=by simp
 obj:=fun i h st b hb=>by
  have q:b=it:=by simpa using hb
  rw[q];exact⟨_,st,fun v z=>by
   have z2:Data.fields _=Data.cell v:=z;cases z2⟩
 keep:=fun i h h' st k=>k it (by simp) _ st
 item:=by
  intro X hP hw hK hc i pins s σ H E I hf st hg;subst hP hw hK;obtain⟨f0,f1,f2,f3,f4,f5⟩:=hf it (by simp);refine wpAny_pyNext_range_item st (by have:i<n:=hg;omega) fun g b1 b2=>?_;have I1:Inv X pins σ H {s with heap:=g,toks:=s.toks+1}:=I.turned (fun b o hb e=>b2.extBut b o hb e) f0 f1 f3 f4 f5;have b3:IsRangeIter g it (hi+((i+1:Nat):Int)*(-1)) ((n:Int)-((i+1:Nat):Int)) (-1):=by
   have e1:hi+((i+1:Nat):Int)*(-1)=hi+(i:Int)*(-1)+(-1):=by omega
   have e2:(n:Int)-((i+1:Nat):Int)=(n:Int)-(i:Int)-1:=by omega
   rw[e1,e2];exact b1
  refine⟨_,rfl,xI (s:={s with heap:=g,toks:=s.toks+1}) (n:="range_iterator") b1 rfl rfl (by decide) ⟨.int (hi-i),H,I1,⟨s.toks,?_⟩,⟨rfl,rfl⟩,b3,fun b hb=>(hf b hb).1⟩⟩;rw[show hi+(i:Int)*(-1)=hi-i by omega]
 done:=by
  intro X hP hw hK hc i pins s σ H E I hf st hg;subst hP hw hK;obtain⟨f0,f1,f2,f3,f4,f5⟩:=hf it (by simp);exact wpAny_pyNext_range_end (I.ok.hd hc) st (by have:n<=i:=hg;omega) fun g eb=>⟨rfl,I.turned (t':=s.toks) (fun b o hb e=>eb b o hb e) f0 f1 f3 f4 f5⟩
 self:=fun _ _ _ _ _ st h=>wpAny_pyIter_rangeiter st h
theorem w6(a b:Int):Builtin.Range.rangeSize a b (-1)=((a-b).toNat:Int):=by
 unfold Builtin.Range.rangeSize;rw[if_neg (by decide)];split
 ·rw[show(- (-1:Int))=1 by decide,Int.ediv_one];omega
 ·omega
variable {hi:Int}
theorem small_down{lo:Int}(h1: -(2^62)<=hi)(h2:hi<2^62)(h3: -(2^62)<=lo)(h4:lo<2^62):Builtin.Range.small hi lo (-1)=true:=by
 unfold Builtin.Range.small;rw[w6];simp only[Builtin.Range.rangeFitsLong,and_eq_true,or_eq_true,decide_eq_true_eq,beq_iff_eq,show ¬(-1:Int)>0 by decide,if_false];omega
theorem El{σ:L2.St}{s:Shared}{R:It->Hp->Prop}{lo:Int}{t u v:Tok}{tk:Nat}(I:Inv X pins σ H s)(h1: -(2^62)<=hi)(h2:hi<2^62)(h3: -(2^62)<=lo)(h4:lo<2^62)(q:R (Kx hi (hi-lo).toNat) H):wpAny (model X.prog X.w) X.A (pyIter (.ref s.heap.objs.size)) (Ph X pins σ tg R) E {s with heap:=s.heap.push {cls:=.type "range",data:=.fields #[.int hi t,.int lo u,.int (-1) v]},toks:=tk}:=by
 refine wpAny_pyIter_range (IsRange.new ..) (small_down h1 h2 h3 h4) ?_;generalize ho:({cls:=.type "range",data:=.fields #[.int hi t,.int lo u,.int (-1) v]}:Obj)=o;have I1:Inv X pins σ H {s with heap:=s.heap.push o,toks:=tk}:=I.kept fun b o e=>get?_push_of_some _ e;refine⟨(s.heap.push o).objs.size,[(s.heap.push o).objs.size],_,_,H,rfl,I1.kept (t':=tk) fun b o e=>get?_push_of_some _ e,DV _ hi (hi-lo).toNat,?_,fun b hb=>?_,q⟩
 ·have e1:hi+((0:Nat):Int)*(-1)=hi:=by simp
  have e2:(((hi-lo).toNat:Nat):Int)-((0:Nat):Int)=Builtin.Range.rangeSize hi lo (-1):=by rw[w6];omega
  show IsRangeIter _ _ (hi+((0:Nat):Int)*(-1)) ((((hi-lo).toNat:Nat):Int)-((0:Nat):Int)) (-1);rw[e1,e2];exact get?_push_size _ rfl
 ·have e:b=(s.heap.push o).objs.size:=by simpa using hb
  rw[e];exact I1.vt (le_refl _) (I1.bh.fresh (le_refl _))
def Qp (ta:TA):TI:=fun σ H R=>ta σ H fun vs H1=>∃i j:Int,vs=[.int i,.int j,.int (-1)]/\(-(2^62)<=i/\i<2^62/\-(2^62)<=j/\j<2^62)/\R (Kx i (i-j).toNat) H1
theorem Lj(hg:Gl X "range")(hm:X.mg "range"=none)(ha:PA X [a,b,c] ta)(hs:starEach [a,b,c] X.env=[(false,eval a X.env),(false,eval b X.env),(false,eval c X.env)]:=by rfl)(p9:starEach [b,c] X.env=[(false,eval b X.env),(false,eval c X.env)]:=by rfl):
  PI X tg (.Call (.Name "range" p) [a,b,c] [] pos) (Qp ta):=by
 intro pins s σ H R I h;refine Call_ (mf I hg hm boot_range (PyProof.Rows.callWith_type1 (bZ (ha pos pins s σ H _ I h) fun us s1 ⟨vs,H1,I1,r1,q1⟩=>?_) (by rw[hs,p9]) (by rw[p9];rfl)));obtain⟨i,j,e,⟨q1,q2,q3,q4⟩,q⟩:=q1;subst e;cases r1 with
 |cons r rr=>
  cases rr with
  |cons r' rr=>
   cases rr with
   |cons V7 rr=>
    cases rr;obtain⟨t,rfl⟩:=r;obtain⟨t',rfl⟩:=r';obtain⟨t'',rfl⟩:=V7;exact call_range_3 (by decide) (El I1 q1 q2 q3 q4 q) (.inl (PyProof.noPylong_of_log2 (by decide +kernel)))
def iM (hi:Int) (n:Nat):List Dat:=(List.range n).map fun(i:Nat)=>Dat.int (hi-(i:Int))
def Cw:List Dat->Option (List Dat)
 |[.int i,.int j,.int k]=>if k=-1/\(-(2^62)<=i/\i<2^62)/\(-(2^62)<=j/\j<2^62)then some (iM i (i-j).toNat)else none
 |_=>none
theorem EG:Over K (Kx hi n) .bM .none (iM hi n):=by
 intro i H Av _;refine⟨fun h=>?_,fun di hd=>?_⟩
 ·have:(iM hi n).length=n:=by unfold iM;rw[length_map,length_range]
  show n<=i;omega
 ·unfold iM at hd;rw[getElem?_map]at hd;cases e:(List.range n)[i]? with
  |none=>rw[e]at hd;cases hd
  |some k=>
   rw[e]at hd;cases hd;obtain⟨hl,e2⟩:=List.getElem?_eq_some_iff.mp e;rw[length_range]at hl;rw[List.getElem_range]at e2;subst e2;refine⟨hl,fun y H' hy=>?_⟩;obtain⟨e1,e3⟩:=hy;subst e3;exact⟨e1,.int _⟩
theorem ax.DY{e g:Dat}(h:ax K H Av vs [d,e,g]):∃v u t,vs=[v,u,t]/\aK K H Av v d/\aK K H Av u e/\aK K H Av t g:=by
 cases h with|cons a r=>obtain⟨u,t,rfl,b,c⟩:=r.fz;exact⟨_,u,t,rfl,a,b,c⟩
variable {fs:aw->Option (List Dat)} in
theorem Hw(hm:X.mg "range"=none)(ha:Ku X [a,b,c] fs)(hg:Gl X "range":=by rfl)(hs:starEach [a,b,c] X.env=[(false,eval a X.env),(false,eval b X.env),(false,eval c X.env)]:=by rfl)(p9:starEach [b,c] X.env=[(false,eval b X.env),(false,eval c X.env)]:=by rfl):
  SE X tg (.Call (.Name "range" p) [a,b,c] [] pos) (qk Cw fs):=nU (Lj hg hm ha hs p9) fun σ H R aM=>by
 obtain⟨Av,ρ,ds,hA,hE,hf,q⟩:=aM;obtain⟨as,e1,e2⟩:=bind_some hf;refine⟨Av,ρ,as,hA,hE,e1,fun vs H1 s1 r=>?_⟩;unfold Cw at e2;split at e2
 ·rename_i i j k;split at e2
  ·rename_i hj;obtain⟨rfl,⟨g1,g2⟩,g3,g4⟩:=hj;cases e2;obtain⟨v,u,t,rfl,rv,ru,rt⟩:=r.DY;rw[rv.cY,ru.cY,rt.cY];exact⟨i,j,rfl,⟨g1,g2,g3,g4⟩,q _ [.bM] [.none] H1 s1 (.cons .bM .nil) EG.s⟩
  ·cases e2
 ·cases e2
variable {fs:aw->Option (List Dat)} in
theorem Ep(hm:X.mg "range"=none)(ha:kh X [a,b,c] fs)(hg:Gl X "range":=by rfl)(hs:starEach [a,b,c] X.env=[(false,eval a X.env),(false,eval b X.env),(false,eval c X.env)]:=by rfl)(p9:starEach [b,c] X.env=[(false,eval b X.env),(false,eval c X.env)]:=by rfl):
  uI X tg (.Call (.Name "range" p) [a,b,c] [] pos) (qk Cw fs):=⟨Hw hm ha.o hg hs p9⟩
def Dj (fa fb:aw->Option (List Dat)):aw->Option (List Dat):=fun ρ=>(fa ρ).bind fun x=>(fb ρ).bind fun y=>if x.length+y.length<=sizeLine then some (x++y)else none
variable {gs:aw->Option (List Dat)}
variable {fs:aw->Option (List Dat)} in
theorem Lm(ha:PE X a (jN X.K fs))(hb:PE X b (jN X.K gs)):PE X (.BinOp a .Add b pos) (jN X.K (Dj fs gs)):=bj (xE Bi ha hb) fun σ H Q aM=>by
 obtain⟨Av,ρ,out,hA,hE,hf,q⟩:=aM;obtain⟨x,e1,hf⟩:=bind_some hf;obtain⟨y,e2,hf⟩:=bind_some hf;split at hf
 ·rename_i hz;cases hf;refine⟨Av,ρ,x,hA,hE,e1,fun H1 p xs s1 hp r=>?_⟩;have s2:=bV hp (.lst xs);refine⟨Av,ρ,y,hA.same (s1.trans s2),hE.same (s1.trans s2),e2,fun H2 p2 ys s3 g9 r2=>?_⟩;have s4:=bV g9 (.lst ys);refine⟨p,p2,xs,ys,rfl,rfl,.of (s4 p _ (s3 p _ dR)),.of dR,by rw[r.length,r2.length];exact hz,fun p3 Vs=>?_⟩;exact q _ p3 _ (s1.trans (s2.trans (s3.trans s4))) Vs ((r.same (s2.trans (s3.trans s4))).append (r2.same s4))
 ·cases hf
variable {fs:aw->Option (List Dat)} in
theorem Hq(ha:QE X a (jN X.K fs))(hb:QE X b (jN X.K gs)):QE X (.BinOp a .Add b pos) (jN X.K (Dj fs gs)):=⟨Lm ha.o hb.o⟩
def ET:Nat->Dat->Bool
 |0,_=>false
 |n+1,d=>match d with
  | .list _=>false
  | .tuple ds=>ds.all (ET n)
  | .none=>true
  | .bool _=>true
  | .int _=>true
  | .str _=>true
  |_=>false
theorem aK.apart{K:Fg}{aj H H':Hp}{Av:fP}{pn:Option Addr}{aH:Hid}{σ:L2.St}{Γ:aD}{ad:Nat->Addr}(G:GA K aj Av pn aH H σ Γ ad)(s:aW H H'):∀(n:Nat) {v:V} {d:Dat},ET n d=true->aK K H' Av v d->aK K H' (aS Av Γ ad) v d
 |0,v,d,h,_=>by cases h
 |n+1,v,d,h,r=>by
  cases r with
  |bM=>exact .bM
  |bl b=>exact .bl b
  |int i=>exact .int i
  |str x=>exact .str x
  | @tup a xs ds hq rs=>
   have oR:ds.all (ET n)=true:=h;have V5:ax K H' (aS Av Γ ad) xs ds:=by
    clear hq h;induction xs generalizing ds with
    |nil=>cases rs;exact .nil
    |cons x xs ih=>
     cases rs with
     |cons r1 r2=>
      rw[all_cons,and_eq_true]at oR;exact .cons (aK.apart G s n oR.1 r1) (ih r2 oR.2)
   refine .tup ?_ V5;rcases hq with⟨h1,h2⟩|h1
   ·refine .inl ⟨h1,?_⟩;rintro(z|⟨i,sl,ei,mi,z⟩)
    ·exact h2 z
    ·cases sl with
     |a7 d=>cases mi
     |own es=>
      obtain⟨ys,_,hl,_⟩:=G.own i es ei;have jb:=s _ _ hl;rw[z]at jb;rcases h1 with h1|⟨o,h1⟩
      ·rw[h1]at jb;cases jb
      ·rw[h1]at jb;cases jb
     |obj O es=>
      obtain⟨ys,_,hl,_⟩:=G.obj i O es ei;have jb:=s _ _ hl;rw[z]at jb;rcases h1 with h1|⟨o,h1⟩
      ·rw[h1]at jb;cases jb
      ·rw[h1]at jb;cases jb
   ·exact .inr h1
  |lst _ _=>cases h
def xB (i:Nat) (f:aw->Option Dat):aD->Option Fl:=fun Γ=>(f (bU Γ)).bind fun d=>if ET 9 d=true then some (.nx (Γ.set i (some (.a7 d))))else none
theorem Hs(i:Nat)(hN:X.N.Nodup)(h:PF X e f)(hi:X.N[i]?=some x:=by rfl)(hx:Loc X.env.scope x:=by first|exact .inl rfl|exact .inr rfl)(hs:swapsWith e (some (.Name x pos')) pos.line X.env=pure false:=by rfl)(hf:X.fn x=true\/X.env.scope.names.lookup x=some .local:=by first|exact .inl rfl|exact .inr rfl):
  SD X (.Assign [.Name x pos'] e pos) (xB i f):=cz (q8 hN hi hx h hs hf) fun D σ H aM=>by
 obtain⟨aj,Av,pn,aH,Γ,fl,⟨ad,G⟩,hf,q⟩:=aM;obtain⟨d,e1,hf⟩:=bind_some hf;split at hf
 ·rename_i hn;cases hf;exact⟨Av,bU Γ,d,G.jf.same G.same,G.qw,e1,fun v H' s r=>q _ _ ⟨ad,(G.grow s).set i (aK.apart G s 9 hn r)⟩⟩
 ·cases hf
theorem we(i:Nat)(hN:X.N.Nodup)(h:QF X e f)(hi:X.N[i]?=some x:=by rfl)(hx:Loc X.env.scope x:=by first|exact .inl rfl|exact .inr rfl)(hs:swapsWith e (some (.Name x pos')) pos.line X.env=pure false:=by rfl)(hf:X.fn x=true\/X.env.scope.names.lookup x=some .local:=by first|exact .inl rfl|exact .inr rfl):
  gJ X (.Assign [.Name x pos'] e pos) (xB i f):=⟨Hs i hN h.o hi hx hs hf⟩
open PySem PySem.Spec PyProof.Rows L2
open PySem.W (Dat kqdOk)
def uY (i:Nat) (f fb:aw->Option Dat):aD->Option Fl:=fun Γ=>(f (bw Γ)).bind fun d=>(fb (bw Γ)).bind fun k=>(nc k).bind fun k=>match Γ[i]? with
 |some (some (.own ds))=>(l8 ds.length k).map fun j=>.nx (Γ.set i (some (.own (ds.set j d))))
 |_=>none
theorem CF(i:Nat)(pe:PF X e f)(pb:PF X b fb)(hN:X.N[i]?=some x:=by rfl)(hv:mE X.env.scope x:=by first|exact Or.inl rfl|exact Or.inr (Or.inl rfl)|exact Or.inr (Or.inr rfl))(hd:(x==("__debug__" : Str))=false:=by decide)(gf:(x==("__classdict__" : Str))=false:=by decide)(ha:∀v,assign (.Subscript (.Name x p1) b p3) X.env v=(do
   let ov <- holding [v] (eval (.Name x p1) X.env);let iv <- holding [v,ov] (eval b X.env);standAt p3
   holding [v,ov,iv] (setItem ov iv v)
   release [v,ov,iv] []):=by intro _;rfl)(hs:swapsWithSole [.Subscript (.Name x p1) b p3] e pos.line X.env=pure false:=by rfl)(hw:swappedStores [.Subscript (.Name x p1) b p3] e X.env=pure none:=by rfl)(h1:(assignEach [.Subscript (.Name x p1) b p3] X.env).map (·.2)=[assign (.Subscript (.Name x p1) b p3) X.env]:=by rfl):
  SD X (.Assign [.Subscript (.Name x p1) b p3] e pos) (uY i f fb):=cz (tT pe (yu (lY hN hv hd gf) pb set_list ha) hs hw h1) fun D σ H aM=>by
 obtain⟨aj,Av,pn,aH,Γ,fl,⟨ad,G⟩,hf,q⟩:=aM;obtain⟨d,e1,VO⟩:=bind_some hf;obtain⟨kd,e2,Of⟩:=bind_some VO;obtain⟨k,e3,i5⟩:=bind_some Of;have e4:=zV e3;subst e4;cases hi:Γ[i]? with
 |none=>rw[hi]at i5;cases i5
 |some o=>
  cases o with
  |none=>rw[hi]at i5;cases i5
  |some sl=>
   cases sl with
   |a7 _=>rw[hi]at i5;cases i5
   |obj _ _=>rw[hi]at i5;cases i5
   |own ds=>
    rw[hi]at i5;obtain⟨j,e5,VN⟩:=bg (show(l8 ds.length k).map _=some fl from i5);subst VN;refine⟨aS Av Γ ad,bw Γ,d,G.gR,G.j3,e1,fun v H' s r=>?_⟩;have G1:=G.grow s;obtain⟨xs,g1,g2,g3,g4⟩:=G1.own i ds hi;refine⟨_,g1,aS Av Γ ad,bw Γ,.int k,G1.gR,G1.j3,e2,fun y H2 s2 ry=>?_⟩;have G2:=G1.grow s2;obtain⟨ys,g5,g6,g7,g8⟩:=G2.own i ds hi;refine⟨_,ys,k,j,rfl,ry.cY,g6,by rw[g7.length];exact e5,q _ _ ⟨ad,G2.change hi (g7.set (r.same s2))⟩⟩
theorem Af(i:Nat)(pe:QF X e f)(pb:QF X b fb)(hN:X.N[i]?=some x:=by rfl)(hv:mE X.env.scope x:=by first|exact Or.inl rfl|exact Or.inr (Or.inl rfl)|exact Or.inr (Or.inr rfl))(hd:(x==("__debug__" : Str))=false:=by decide)(gf:(x==("__classdict__" : Str))=false:=by decide)(ha:∀v,assign (.Subscript (.Name x p1) b p3) X.env v=(do
   let ov <- holding [v] (eval (.Name x p1) X.env);let iv <- holding [v,ov] (eval b X.env);standAt p3
   holding [v,ov,iv] (setItem ov iv v)
   release [v,ov,iv] []):=by intro _;rfl)(hs:swapsWithSole [.Subscript (.Name x p1) b p3] e pos.line X.env=pure false:=by rfl)(hw:swappedStores [.Subscript (.Name x p1) b p3] e X.env=pure none:=by rfl)(h1:(assignEach [.Subscript (.Name x p1) b p3] X.env).map (·.2)=[assign (.Subscript (.Name x p1) b p3) X.env]:=by rfl):
  gJ X (.Assign [.Subscript (.Name x p1) b p3] e pos) (uY i f fb):=⟨CF i pe.o pb.o hN hv hd gf ha hs hw h1⟩
open PySem PySem.Spec PyProof.Rows L2
open PySem.W (Dat kqdOk kqdP kqdPs kqd_lay)
abbrev RK:=Str×List Int
def dH (k:RK):Dat:=.tuple [.str k.1,.tuple (k.2.map .int)]
def qP (w:World) (k:RK):Int:=reduceHash (Builtin.Tuple.tupleHashOf [hashStr w k.1,reduceHash (Builtin.Tuple.tupleHashOf (k.2.map hashInt))])
def dJ (P:Program) (w:World) (h:Heap) (k:RK) (a:Addr):Prop:=∃o n t b,h.get? a=some o/\o.cls=.type "tuple"/\o.data=.seq #[.str k.1 t,.ref b] n/\IsTupleKey (intKind P w) h k.2 b/\PyData.strOk k.1=true
variable {k:RK} {a:Addr}
variable {s:Shared} in
theorem dJ.ty(x:dJ P w s.heap k a):s.TypeIs (.ref a) "tuple":=by
 obtain⟨o,n,t,b,h1,h2,_⟩:=x;exact⟨o,h1,h2⟩
variable {h:Heap} {x y:RK}
theorem dJ.same(p:dJ P w h x a)(q:dJ P w h y a):x=y:=by
 obtain⟨o,n,t,b,h1,h2,h3,h4,_⟩:=p;obtain⟨o',n',t',b',g1,g2,g3,g4,_⟩:=q;have e:o=o':=Option.some.inj (h1.symm.trans g1);subst e;rw[h3]at g3;injection g3 with g3 _;injection g3 with g3;injection g3 with e1 e2;injection e2 with e2 _;injection e1 with e1 _;injection e2 with e2;subst e2;exact Prod.ext e1 (h4.inj g4)
variable {d:Addr}
theorem dJ.nB{o:Obj}{es ep}(x:dJ P w h k a)(ho:h.get? d=some o)(hd:o.data=.dict es ep)(hs:SameBut d h h'):dJ P w h' k a:=by
 obtain⟨o',n,t,b,h1,h2,h3,h4,h5⟩:=x;refine⟨o',n,t,b,(hs.2 a ?_).trans h1,h2,h3,h4.keeps ho hd hs,h5⟩;intro z;subst z;rw[h1]at ho;cases ho;rw[hd]at h3;cases h3
variable {s:Shared} in
theorem dJ.hash{Q:Int->Shared->Prop}(hu:A.units+8<cLine)(hk:dJ P w s.heap k a)(h:Q (qP w k) {s with toks:=s.toks+(k.2.length+3)}):wpAny (model P w) A (pyHash (.ref a)) Q E s:=by
 have ty:=hk.ty;obtain⟨o,n,t,b,ho,_,hd,hb,_⟩:=hk;unfold pyHash pyHashByItsType;refine wpAny_bind (wpAny_cRoomFor_or (.inr (by omega)) (wpAny_bind (wpAny_specialOf ty F.slot_tuple_hash.lookup ?_)));have nb:¬((some (Value.builtin "tuple.__hash__")==some Value.none)=true):=by rw[beq_builtin_none];exact Bool.false_ne_true
 refine(?_:wpAny _ _ (if(some (Value.builtin "tuple.__hash__")==some Value.none)=true then _ else _) Q E s);rw[if_neg nb];refine wpAny_bind (wpAny_specialOf ty F.slot_tuple_hash.lookup (?_:wpAny _ _ (callSpecialIfBoundUnlessNone? (.ref a) "__hash__" _ >>= _) Q E s));refine wpAny_bind (wpAny_callSpecialIfBoundUnlessNone?_slot ty F.slot_tuple_hash (wpAny_call_entry F.slot_tuple_hash ty F.entry_tuple_hash ?_ (F.args_tuple_hash_1 _)));refine(?_:wpAny _ _ (Builtin.Tuple.tupleItemsOf (.ref a) >>= _) _ _ s);refine wpAny_bind (wpAny_tupleItemsOf ho hd (wpAny_bind ?_));rw[<- forIn_toList];refine wpAny_forIn_list _ (fun rest (arr:Array Int) s'=>(rest=[.str k.1 t,.ref b]/\arr.toList=[]/\s'=s)\/(rest=[.ref b]/\arr.toList=[hashStr w k.1]/\s'={s with toks:=s.toks+1})\/
  (rest=[]/\arr.toList=[hashStr w k.1,tupleKeyHash (intKind P w) k.2]/\s'={s with toks:=s.toks+1+(k.2.length+1)})) _ ?_ ?_ _ _ (.inl ⟨rfl,rfl,rfl⟩)
 ·rintro x rest arr s' (⟨h1,h2,rfl⟩|⟨h1,h2,rfl⟩|⟨h1,_⟩)
  ·cases h1;refine wpAny_bind (wpAny_pyHash_str ?_);first
    |exact wpAny_pure (.inr (.inl ⟨rfl,by simp[h2],rfl⟩))
    |exact wpAny_bind (wpAny_pure (wpAny_pure (.inr (.inl ⟨rfl,by simp[h2],rfl⟩))))
  ·cases h1;refine wpAny_bind (wpAny_pyHash_tuple (by first|omega|(show A.units+1<cLine;omega)|(show A.units+2<cLine;omega)) hb ?_)
   first
    |exact wpAny_pure (.inr (.inr ⟨rfl,by simp[h2],rfl⟩))
    |exact wpAny_bind (wpAny_pure (wpAny_pure (.inr (.inr ⟨rfl,by simp[h2],rfl⟩))))
  ·cases h1
 ·rintro arr s' (⟨h1,_⟩|⟨h1,_⟩|⟨_,h2,rfl⟩)
  ·cases h1
  ·cases h1
  ·refine(?_:wpAny _ _ (retInt (Builtin.Tuple.tupleHashOf arr.toList)) _ _ _);rw[h2];refine wpAny_ret_mkInt ?_;have e1:tupleKeyHash (intKind P w) k.2=reduceHash (Builtin.Tuple.tupleHashOf (k.2.map hashInt)):=rfl;rw[e1];unfold qP at h;generalize hz:Builtin.Tuple.tupleHashOf [hashStr w k.1,reduceHash (Builtin.Tuple.tupleHashOf (k.2.map hashInt))]=z at h;refine(?_:wpAny _ _ (if(decide (-(2:Int)^63<=z)&&decide (z<2^63))=true then _ else _) Q E _);have et:s.toks+1+(k.2.length+1)+1=s.toks+(k.2.length+3):=by omega
   unfold reduceHash at h;by_cases hr:(decide (-(2:Int)^63<=z)&&decide (z<2^63))=true
   ·rw[if_pos hr]at h ⊢;exact wpAny_pure (by rw[<- et]at h;exact h)
   ·rw[if_neg hr]at h ⊢;exact wpAny_bind (wpAny_rule (wpAny_pure (by rw[<- et]at h;exact h)))
theorem ub{h:Heap}:∀{ns:List Int} {vs:List Value},ItemsAre (intKind P w) ns vs->ReadsAll h vs (kqdPs (ns.map Dat.int)) []
 |[],_,.nil=>by rw[map_nil,kqdPs];exact .nil
 |n::ns,_,.cons h1 hr=>by
  obtain⟨t,rfl⟩:=Value.isInt_shape (k:=n) h1;rw[map_cons,kqdPs,kqdP];have:=ReadsAll.cons (Reads.int n t) (ub (h:=h) hr);exact this
theorem dJ.reads(x:dJ P w h k a):Reads h (.ref a) (kqdP (dH k)) []:=by
 obtain⟨o,n,t,b,h1,h2,h3,⟨o',ak,n',g1,g2,g3,g4⟩,_⟩:=x;unfold dH;rw[kqdP,kqdPs,kqdPs,kqdPs,kqdP,kqdP];refine .tuple h1 h2 h3 ?_;have:=ReadsAll.cons (Reads.str (h:=h) k.1 t) (ReadsAll.cons (Reads.tuple g1 g2 g3 (ub (h:=h) g4)) .nil);exact this
theorem dJ.E6(x:dJ P w h k a):PyData.strOk k.1=true:=let ⟨_,_,_,_,_,_,_,_,q⟩:=x;q
theorem lI(hk:PyData.strOk k.1=true):kqdOk 9 (dH k)=true:=by
 have e:(k.2.map Dat.int).all (kqdOk 7)=true:=by rw[all_map,all_eq_true];exact fun _ _=>rfl
 unfold dH;simp only[kqdOk,all_cons,List.all_nil,e,hk,Bool.and_true,Bool.true_and]
theorem oE(h:dH x=dH y):x=y:=by
 unfold dH at h;simp only[PySem.W.Dat.tuple.injEq,List.cons.injEq,PySem.W.Dat.str.injEq,and_true]at h;exact Prod.ext h.1 ((List.map_inj_right fun a b e=>by simpa using e).mp h.2)
variable {Q:Bool->Shared->Prop}
variable {s:Shared} in
theorem dJ.eqv{b:Addr}(hu:A.units+8<cLine)(hx:dJ P w s.heap x a)(hy:dJ P w s.heap y b)(h:Q (decide (x=y)) s):wpAny (model P w) A (eqBool (.ref a) (.ref b)) Q E s:=by
 have l1:=kqd_lay 9 _ (lI hx.E6);have l2:=kqd_lay 9 _ (lI hy.E6);have d3:(kqdP (dH x)).depth<=3:=by
  have e:kqdOk 3 (dH x)=true:=by
   have e:(x.2.map Dat.int).all (kqdOk 1)=true:=by rw[all_map,all_eq_true];exact fun _ _=>rfl
   unfold dH;simp only[kqdOk,all_cons,List.all_nil,e,hx.E6,Bool.and_true,Bool.true_and]
  exact(kqd_lay 3 _ e).2
 refine PySem.SeqAt.eqBoolOverData P w A E s _ _ _ _ _ _ Q hx.reads hy.reads l1.1 l2.1 (by omega) ?_;rw[vw _ _ (lI hx.E6) (lI hy.E6)];by_cases e:x=y
 ·subst e;rw[mz rfl];rw[decide_eq_true rfl]at h;exact h
 ·rw[kU fun z=>e (oE z)];rw[decide_eq_false e]at h;exact h
variable {m:Nat}
variable {s:Shared} in
theorem Cy{ks:List Int}(hk:IsTupleKey (intKind P w) s.heap ks a)(h:Q true s):wpAny (model P w) A (eqIsQuiet (m+1) (.ref a)) Q E s:=by
 have hT:=hk.typeIs;obtain⟨o,ak,n,ho,_,hd,hi⟩:=hk;unfold eqIsQuiet;refine wpAny_bind (wpAny_specialOf hT F.slot_tuple_eq.lookup (?_:wpAny _ _ (isInstance (.ref a) (.type "tuple") >>= _) _ _ s));refine wpAny_bind (wpAny_isInstance hT isSubtype_tuple_tuple ?_);simp only[Bool.not_true,false_eq_true,if_false];refine wpAny_bind (wpAny_seqItems ho hd (wpAny_bind (?_:wpAny _ _ (forIn ak _ _) _ _ s)));rw[<- forIn_toList];refine wpAny_forIn_list _ (fun tl acc s2=>(∀x∈tl,carriedByValue x=true)/\s2=s/\acc.1=none) _ ?_ ?_ _ _ ⟨hi.byValue,rfl,rfl⟩
 ·rintro x tl acc s2 ⟨hv,rfl,ha⟩;rw[eqIsQuiet_byValue _ (hv x mem_cons_self)];refine wpAny_bind (wpAny_pure ?_);simp only[Bool.not_true,false_eq_true,if_false];exact wpAny_pure ⟨fun u q=>hv u (mem_cons_of_mem _ q),rfl,rfl⟩
 ·rintro⟨c1,c2⟩ s2 ⟨_,rfl,ha⟩;simp only at ha;subst ha;exact wpAny_pure h
variable {s:Shared} in
theorem dJ.quiet(hk:dJ P w s.heap k a)(h:Q true s):wpAny (model P w) A (eqIsQuiet 8 (.ref a)) Q E s:=by
 have hT:=hk.ty;obtain⟨o,n,t,b,ho,_,hd,hb,_⟩:=hk;unfold eqIsQuiet;refine wpAny_bind (wpAny_specialOf hT F.slot_tuple_eq.lookup (?_:wpAny _ _ (isInstance (.ref a) (.type "tuple") >>= _) _ _ s));refine wpAny_bind (wpAny_isInstance hT isSubtype_tuple_tuple ?_);simp only[Bool.not_true,false_eq_true,if_false];refine wpAny_bind (wpAny_seqItems ho hd (wpAny_bind (?_:wpAny _ _ (forIn #[Value.str k.1 t,.ref b] _ _) _ _ s)));rw[<- forIn_toList];refine wpAny_forIn_list _ (fun rest r s'=>r.1=none/\s'=s/\(∀v∈rest,carriedByValue v=true\/v=.ref b)) _ ?_ ?_ _ _ ⟨rfl,rfl,fun v hv=>by
  simp only[mem_cons,not_mem_nil,or_false]at hv;rcases hv with e|e
  ·rw[e];exact .inl rfl
  ·exact .inr e⟩
 ·rintro v rest acc s2 ⟨ha,rfl,oR⟩;rcases oR v mem_cons_self with e|e
  ·rw[eqIsQuiet_byValue _ e];refine wpAny_bind (wpAny_pure ?_);simp only[Bool.not_true,false_eq_true,if_false];exact wpAny_pure ⟨rfl,rfl,fun u q=>oR u (mem_cons_of_mem _ q)⟩
  ·rw[e];refine wpAny_bind (Cy hb ?_);simp only[Bool.not_true,false_eq_true,if_false];exact wpAny_pure ⟨rfl,rfl,fun u q=>oR u (mem_cons_of_mem _ q)⟩
 ·rintro⟨c1,c2⟩ s2 ⟨ha,rfl,_⟩;simp only at ha;subst ha;exact wpAny_pure h
def v3 (P:Program) (w:World):HeapKind P w RK where
 is:=dJ P w
 hash:=qP w
 draws:=fun k=>k.2.length+3
 room:=fun A=>A.units+8<cLine
 inj:=fun p q=>p.same q
 keeps:=fun x ho hd hs=>x.nB ho hd hs
 pyHash:=fun hu hk h=>hk.hash hu h
 eqBool:=fun hu hx hy h=>hx.eqv hu hy h
 quiet:=fun hk h=>hk.quiet h
open PySem PySem.Spec PyProof.Rows L2
open PySem.W (Dat kqdOk)
def rP (h:Heap) (d:Addr) (es:Array DictEntry) (ep:Nat):Prop:=∃o,h.get? d=some o/\o.ExactDict/\o.data=.dict es ep
variable {es:Array DictEntry} {ep:Nat}
variable {s:Shared} in
theorem rP.ty(m:rP s.heap d es ep):s.TypeIs (.ref d) "dict":=let ⟨o,e,c,_⟩:=m;⟨o,e,c.1⟩
variable {s:Shared} in
theorem LN{Q:Value->Shared->Prop}(nd:(d==sysModules)=false)(m:rP s.heap d es ep)(q:Q (.ref s.heap.objs.size) {s with heap:=s.heap.push {cls:=.type "dict_keyiterator",data:=.fields #[.ref d,.int 0 0,.int es.size 0,.int ep 0]}}):wpAny (model P w) A (pyIter (.ref d)) Q E s:=by
 have ty:=m.ty;obtain⟨o,e,c,da⟩:=m;refine wpAny_pyIter_slot ty F.slot_dict_iter (wpAny_call_entry F.slot_dict_iter ty F.entry_dict_iter ?_ (F.args_dict_iter_1 _));unfold Builtin.«dict.__iter__» Builtin.Dict.dictSlotNone;refine wpAny_bind (wpAny_bind (wpAny_notOrdered_dict ty (wpAny_pure ?_)));refine(?_:wpAny _ _ (Builtin.Dict.showsAll d >>= _) _ _ s);unfold Builtin.Dict.showsAll;rw[if_neg (fun z=>Bool.false_ne_true (nd.symm.trans z))];refine wpAny_bind (wpAny_pure (wpAny_bind (wpAny_dictEntries e da (wpAny_bind (wpAny_dictEpoch e da (wpAny_bind (wpAny_newObj_type (wpAny_pure ⟨_,rfl,"dict_keyiterator",_,⟨_,get?_push_size _ rfl,rfl⟩,F.slot_dict_keyiterator_next.lookup,?_⟩))))))));simpa [rawInt]using q
variable {s:Shared} in
theorem LM{Q:Option Value->Shared->Prop}{x:DictEntry}(ki:s.heap.IsKeyIter it d i es.size ep)(m:rP s.heap d es ep)(hx:es[i]?=some x)(q:∀h',h'.IsKeyIter it d (i+1) es.size ep->SameBut it s.heap h'->Q (some x.key) {s with heap:=h'}):wpAny (model P w) A (pyNext (.ref it)) Q E s:=by
 have ty:=ki.typeIs;obtain⟨o,e,c,da⟩:=id ki;obtain⟨o2,e2,c2,Gk⟩:=id m;have lt:i<es.size:=by
  by_cases z:i<es.size
  ·exact z
  ·rw[Array.getElem?_eq_none (by omega)]at hx;cases hx
 unfold pyNext;refine wpAny_bind (wpAny_attempt (wpAny_callSpecial?_slot (name:=Str.ofString "__next__") ty F.slot_dict_keyiterator_next (wpAny_call_entry F.slot_dict_keyiterator_next ty F.entry_dict_keyiterator_next (wpAny_bind (wpAny_pure (wpAny_bind (wpAny_bind ?_)))) (F.args_dict_keyiterator_next_1 _))));first|refine wpAny_bind (wpAny_typeNameOfWhole_keyiter ty (wpAny_pure (wpAny_bind (wpAny_fieldsOf e da ?_))))|refine wpAny_bind (wpAny_typeNameOf_keyiter ty (wpAny_pure (wpAny_bind (wpAny_fieldsOf e da ?_))))
 have ow:Builtin.Dict_items.ownsTuple "dict_keyiterator"=false:=by decide
 simp only[ow,false_eq_true,if_false];refine(?_:wpAny _ _ (if(Value.ref d==Value.none)=true then _ else _) _ _ s);have nn:¬((Value.ref d==Value.none)=true):=Bool.false_ne_true;rw[if_neg nn];refine wpAny_bind (wpAny_pure (wpAny_bind (wpAny_dictEntries e2 Gk ?_)));rw[if_neg (by simp)];refine wpAny_bind (wpAny_pure (wpAny_bind (wpAny_dictEpoch e2 Gk ?_)));rw[if_neg (by simp)];refine wpAny_pure ?_;simp only[show ¬((i:Int)<0) by omega,if_false,toNat_natCast,hx];refine wpAny_bind ?_;first|refine wpAny_bind (wpAny_typeNameOfWhole_keyiter ty (wpAny_pure (wpAny_bind (wpAny_isOneOf_keyiter ty ?_))))|refine wpAny_bind (wpAny_typeNameOf_keyiter ty (wpAny_pure (wpAny_bind (wpAny_isOneOf_keyiter ty ?_))))
 refine(?_:wpAny _ _ (setField (.ref it) 1 (rawInt ((i:Int)+1)) >>= _) _ _ s);refine wpAny_bind (wpAny_setField e da (by simp) ?_);have Ry:(s.heap.update it (Obj.mapFields (·.setIfInBounds 1 (rawInt ((i:Int)+1))))).IsKeyIter it d (i+1) es.size ep:=⟨_,Heap.get?_update_self _ e (Obj.isFreed_of_fields (Obj.data_mapFields da _)),(Obj.cls_mapFields ..).trans c,by rw[Obj.data_mapFields da];simp[rawInt]⟩;refine wpAny_bind (wpAny_holding (wpAny_bind (wpAny_isOneOf_keyiter (s:={s with heap:=s.heap.update it (Obj.mapFields (·.setIfInBounds 1 (rawInt ((i:Int)+1))))}) Ry.typeIs ?_)));refine(?_:wpAny _ _ (pure x.key) _ _ _);exact wpAny_pure (wpAny_pure ⟨_,rfl,wpAny_pure (q _ Ry (SameBut.update ..))⟩)
variable {s:Shared} in
theorem OD{Q:Option Value->Shared->Prop}(hh:A.handled=none)(ki:s.heap.IsKeyIter it d es.size es.size ep)(m:rP s.heap d es ep)(q:∀h',Heap.ExtBut it s.heap h'->Q none {s with heap:=h'}):wpAny (model P w) A (pyNext (.ref it)) Q E s:=by
 have ty:=ki.typeIs;obtain⟨o,e,c,da⟩:=id ki;obtain⟨o2,e2,c2,Gk⟩:=id m;unfold pyNext;refine wpAny_bind (wpAny_attempt (wpAny_callSpecial?_slot (name:=Str.ofString "__next__") ty F.slot_dict_keyiterator_next (wpAny_call_entry F.slot_dict_keyiterator_next ty F.entry_dict_keyiterator_next (wpAny_bind (wpAny_pure (wpAny_bind (wpAny_bind ?_)))) (F.args_dict_keyiterator_next_1 _))));first|refine wpAny_bind (wpAny_typeNameOfWhole_keyiter ty (wpAny_pure (wpAny_bind (wpAny_fieldsOf e da ?_))))|refine wpAny_bind (wpAny_typeNameOf_keyiter ty (wpAny_pure (wpAny_bind (wpAny_fieldsOf e da ?_))))
 have ow:Builtin.Dict_items.ownsTuple "dict_keyiterator"=false:=by decide
 simp only[ow,false_eq_true,if_false];refine(?_:wpAny _ _ (if(Value.ref d==Value.none)=true then _ else _) _ _ s);have nn:¬((Value.ref d==Value.none)=true):=Bool.false_ne_true;rw[if_neg nn];refine wpAny_bind (wpAny_pure (wpAny_bind (wpAny_dictEntries e2 Gk ?_)));rw[if_neg (by simp)];refine wpAny_bind (wpAny_pure (wpAny_bind (wpAny_dictEpoch e2 Gk ?_)));rw[if_neg (by simp)];refine wpAny_pure ?_;simp only[show ¬((es.size:Int)<0) by omega,if_false,toNat_natCast,Array.getElem?_eq_none (le_refl es.size)];refine wpAny_bind ?_;first|refine wpAny_bind (wpAny_typeNameOfWhole_keyiter ty (wpAny_pure ?_))|refine wpAny_bind (wpAny_typeNameOf_keyiter ty (wpAny_pure ?_))
 refine(?_:wpAny _ _ (setField (.ref it) 0 .none >>= _) _ _ s);refine wpAny_bind (wpAny_setField e da (by simp) (?_:wpAny _ _ (newExc (.type "StopIteration") [] >>= _) _ _ _));refine wpAny_bind ?_;simp only[newExc,newTuple];refine wpAny_bind (wpAny_newObj_type (wpAny_bind (m:=firstArgMember _ _) (wpAny_of_eq (a:=Value.none) (by first|rfl|(simp only[firstArgMember];rfl)) (wpAny_newObj_type ?_ (by size_fits)))) (by size_fits))
 simp only[raiseNew];refine wpAny_bind (wpAny_handled ?_);have h0:A.in1.handled=none:=hh;rw[h0];refine wpAny_bind (wpAny_pure (wpAny_throw (wpAny_bind ?_)));refine wpAny_isInstance (T:="StopIteration") (b:=true) ⟨_,get?_push_size _ rfl,rfl⟩ isSubtype_stop (?_:wpAny _ _ _ _ _ _);exact wpAny_pure (q _ (((SameBut.update ..).extBut.push _).push _))
theorem rP.of(m:rP h d es ep)(k:∀o,h.get? d=some o->h'.get? d=some o):rP h' d es ep:=let ⟨o,e,r⟩:=m;⟨o,k o e,r⟩
theorem Iu(hh:A.handled=none)(it d:Addr)(ne:d≠it)(es:Array DictEntry)(ep:Nat):Walks P w A it [it,d] [it] es.size (fun i v=>∃x,es[i]?=some x/\v=x.key) (fun i h=>h.IsKeyIter it d i es.size ep/\rP h d es ep) where
 sub:=fun b hb=>by simp at hb;simp[hb]
 frame:=fun _ _ _ st k=>⟨st.1.at fun o e=>k it (by simp) o e,st.2.of fun o e=>k d (by simp) o e⟩
 item:=fun i s Q E hi st q=>LM st.1 st.2 (Array.getElem?_eq_getElem hi) fun h' k1 sb=>q _ h' s.toks ⟨_,Array.getElem?_eq_getElem hi,rfl⟩ ⟨k1,st.2.of fun o e=>sb.extBut d o ne e⟩ fun b o hb e=>sb.extBut b o (fun z=>hb (by simp[z])) e
 done:=fun s Q E st q=>OD hh st.1 st.2 fun h' eb=>q h' s.toks fun b o hb e=>eb b o (fun z=>hb (by simp[z])) e
 self:=fun _ _ _ _ st q=>wpAny_pyIter_keyiter st.1 q
theorem OC(nd:(d==sysModules)=false):PySem.W.KdlSrc P w "dict" d d es.size (fun i v=>∃x,es[i]?=some x/\v=x.key) (fun h=>rP h d es ep) where
 type:=fun _ m=>m.ty
 there:=fun _ ⟨_,e,_⟩=>⟨lt_size e,lt_size e⟩
 keep:=fun _ _ m k=>m.of fun o e=>k d (.inl rfl) o e
 notList:=by decide
 notTuple:=by decide
 hint:=fun _ _ _ _ m q=>PySem.W.kdl_hint_dict m.ty q
 iter:=fun _ s hh m=>⟨_,_,(fun _ _ q=>LN nd m q),Iu hh _ d (let ⟨_,e,_⟩:=m;ne_of_lt (lt_size e)) es ep,⟨⟨_,get?_push_size _ rfl,rfl,rfl⟩,m.of fun o e=>get?_push_of_some _ e⟩⟩
open PySem PySem.Spec PyProof.Rows L2
open PySem.W (Dat kqdOk)
def IJ (w:World) (p:RK×Addr):DictEntry:=⟨qP w p.1,.ref p.2,.bool true⟩
def je (w:World) (ks:List RK) (a:Addr) (xs:List V) (h:Heap):Prop:=
 (a==sysModules)=false/\ks.length<=sizeLine/\ks.Nodup/\∃as:List Addr,as.length=ks.length/\xs=as.map V.ref/\∃o es ep,h.get? a=some o/\o.ExactDict/\o.data=.dict es ep/\es.toList=(ks.zip as).map (IJ w)
variable {ks:List RK}
theorem je.ok(m:je w ks a xs h):gj P w H h a (.ext (je w ks a xs)):=by
 refine⟨m,?_,fun h1 h2 m1 k=>?_⟩
 ·obtain⟨_,_,_,_,_,_,o,_,_,e,_⟩:=m;exact⟨o,e⟩
 ·obtain⟨c1,c2,c3,as,c4,c5,o,es,ep,e,r⟩:=m1;exact⟨c1,c2,c3,as,c4,c5,o,es,ep,k o e,r⟩
def PR (w:World):TE:=fun _ H Q=>∀p,H p=none->Q (.ref p) (upd H p (.ext (je w [] p [])))
theorem Ln:PE X (.Dict [] [] pos) (PR X.w):=fun pins s σ H Q I h=>by
 refine wpAny_Dict_empty ⟨.ref s.heap.objs.size,_,I.laid (a:=s.heap.objs.size) (o:=.ext (je X.w [] s.heap.objs.size [])) (t':=s.toks) (fun _ _ q=>get?_push_of_some _ q) (le_refl _) (je.ok ⟨?_,zero_le _,List.nodup_nil,[],rfl,rfl,_,#[],0,get?_push_size _ rfl,⟨rfl,rfl,rfl⟩,rfl,rfl⟩),rfl,h _ (I.bh.fresh (le_refl _))⟩;have b:=I.big;exact beq_eq_false_iff_ne.mpr (Nat.ne_of_gt b)
theorem wH:∀{ns:List Int} {ys:List V} {us:List Value},ax K H Av ys (ns.map Dat.int)->Vals ys us->ItemsAre (intKind P w) ns us
 |[],_,_,.nil,.nil=>.nil
 |n::ns,_,_,.cons r1 r2,.cons v1 v2=>by
  rw[r1.cY]at v1;obtain⟨t,rfl⟩:=v1;exact .cons (by simp[intKind,Value.isInt]) (wH r2 v2)
theorem Eh{σ:L2.St}{s:Shared}(I:Inv X pins σ H s)(hk:PyData.strOk k.1=true)(r:aK X.K H Av v (dH k)):∃b,v=.ref b/\dJ X.prog X.w s.heap k b:=by
 obtain⟨b,xs,rfl,hq,rs⟩:=r.fM;refine⟨b,rfl,?_⟩;obtain⟨ak,vs,⟨o,ho,hc,n,hd⟩,_⟩:=I.tuple hq.sq;cases rs with
 |cons r1 rs=>
  cases rs with
  |cons r2 rs=>
   cases rs;rw[r1.ig]at vs;obtain⟨c,ys,e2,BB,tJ⟩:=r2.fM;subst e2;obtain⟨iY,UO,⟨o2,qo,zg,n2,hd2⟩,_⟩:=I.tuple BB.sq;cases vs with
   |cons v1 vs=>
    cases vs with
    |cons v2 vs=>
     cases vs;obtain⟨t,rfl⟩:=v1;cases v2;exact⟨o,n,t,c,ho,hc,hd,⟨o2,iY.toArray,n2,qo,zg,hd2,by rw[List.toList_toArray];exact wH tJ UO⟩,hk⟩
theorem yb{pins:List (Addr×Obj)}{σ:L2.St}{s:Shared}(I:Inv X pins σ H s):∀{ks:List RK} {as:List Addr},(∀k∈ks,PyData.strOk k.1=true)->ax X.K H Av (as.map V.ref) (ks.map dH)->∀p∈ks.zip as,dJ X.prog X.w s.heap p.1 p.2
 |[],_,_,_,p,hp=>by simp at hp
 |k::ks,[],_,_,p,hp=>by simp at hp
 |k::ks,a::as,hs,.cons r1 r2,p,hp=>by
  rw[zip_cons_cons]at hp;rcases mem_cons.mp hp with e|hp
  ·obtain⟨b,e1,q⟩:=Eh I (hs k mem_cons_self) r1;injection e1 with e1;rw[e,e1];exact q
  ·exact yb I (fun k hk=>hs k (mem_cons_of_mem _ hk)) r2 p hp
def gU (ks:List RK) (k:RK):List RK:=if k∈ks then ks else ks++[k]
def xD (ks:List RK) (xs:List V) (k:RK) (v:V):List V:=if k∈ks then xs else xs++[v]
def Q4 (K:Fg) (w:World):DA:=fun o i v H Q=>∃p ks xs k Av,o=.ref p/\v=.bl true/\H p=some (.ext (je w ks p xs))/\(∀k∈ks,PyData.strOk k.1=true)/\PyData.strOk k.1=true/\ax K H Av xs (ks.map dH)/\aK K H Av i (dH k)/\ks.length<sizeLine/\Q (upd H p (.ext (je w (gU ks k) p (xD ks xs k i))))
def ph (ks:List RK) (as:List Addr):List (RK×Addr×Value):=(ks.zip as).map fun p=>(p.1,p.2,Value.bool true)
variable {as:List Addr}
theorem rh(h:as.length=ks.length):(ph ks as).map (·.1)=ks:=by
 unfold ph;rw[map_map];show(ks.zip as).map Prod.fst=ks;rw[List.map_fst_zip (by omega)]
theorem Mb(h:as.length=ks.length):(ph ks as).length=ks.length:=by
 unfold ph;rw[length_map,length_zip,h,min_self]
theorem P2(h:as.length=ks.length):(atKey (ph ks as) k).isSome=decide (k∈ks):=by
 unfold atKey;rw[Option.isSome_map];by_cases c:k∈ks
 ·rw[decide_eq_true c];rw[<- rh h]at c;obtain⟨x,hx,e⟩:=mem_map.mp c;exact List.find?_isSome.mpr ⟨x,hx,decide_eq_true e⟩
 ·rw[decide_eq_false c];refine eq_false_iff.mpr fun z=>?_;obtain⟨x,hx,e⟩:=List.find?_isSome.mp z;refine c ?_;rw[<- rh h];exact mem_map.mpr ⟨x,hx,of_decide_eq_true e⟩
theorem DZ{b:Addr}(h:as.length=ks.length):storedH (ph ks as) k b (.bool true)=ph (gU ks k) (if k∈ks then as else as++[b]):=by
 have e:=P2 (k:=k) h;unfold storedH gU;by_cases c:k∈ks
 ·rw[decide_eq_true c]at e;rw[if_pos e,if_pos c,if_pos c];unfold ph;rw[map_map];refine map_congr_left fun p _=>?_;show putAt k (.bool true) (p.1,p.2,.bool true)=_;unfold putAt;split<;>rfl
 ·rw[decide_eq_false c]at e;rw[if_neg (by rw[e];decide),if_neg c,if_neg c];unfold ph;rw[List.zip_append h.symm,map_append];rfl
theorem G7:(ph ks as).map (entryOfKey (v3 P w))=(ks.zip as).map (IJ w):=by
 unfold ph;rw[map_map];rfl
theorem AI:∀{as:List Addr} {us:List Value},us.length=as.length->(∀(j:Nat) (a:Addr) (u:Value),as[j]?=some a->us[j]?=some u->u=.ref a)->Vals (as.map V.ref) us
 |[],[],_,_=>.nil
 |[],_::_,h,_=>by simp at h
 |_::_,[],h,_=>by simp at h
 |a::as,u::us,h,q=>.cons (q 0 a u rfl rfl) (AI (by simpa using h) fun j b v h1 h2=>q (j+1) b v (by simpa using h1) (by simpa using h2))
theorem KQ(hu:X.A.units+20<cLine):IW X (Q4 X.K X.w):=by
 intro pins s σ H o i v ov iv u Q I ro ri rv h;obtain⟨p,ks,xs,k,Av,rfl,rfl,hp,hs,hk,rs,rk,hz,q⟩:=h;cases ro;cases rv;obtain⟨b,rfl,hb⟩:=Eh I hk rk;cases ri;obtain⟨m,_,_⟩:=(show gj X.prog X.w H s.heap p (.ext (je X.w ks p xs))from I.bh p _ hp);obtain⟨c1,c2,c3,as,c4,rfl,o,es,ep,e,xd,da,he⟩:=m;have hm:s.heap.DictOfH (v3 X.prog X.w) p (ph ks as):=⟨o,es,ep,e,xd,da,by rw[G7];exact he,fun x hx=>by
  obtain⟨y,hy,rfl⟩:=mem_map.mp hx;exact yb I hs rs y hy,by rw[rh c4];exact c3⟩
 refine wpAny_setItem_heap (knd:=v3 X.prog X.w) (show X.A.in1.units+8<cLine by first|omega|(show X.A.units+1+8<cLine;omega)) hb hm (fun h' wK sb=>?_) (by rw[Mb c4];omega)
 rw[DZ c4]at wK;obtain⟨o',BV,G0,e',UM,WM,JY,_,Rq⟩:=wK;have l2:(if k∈ks then as else as++[b]).length=(gU ks k).length:=by
  unfold gU;split
  ·exact c4
  ·rw[length_append,length_append,c4];rfl
 have n2:(gU ks k).Nodup:=by rw[rh l2]at Rq;exact Rq
 have z2:(gU ks k).length<=sizeLine:=by
  unfold gU;split
  ·exact c2
  ·rw[length_append];show ks.length+1<=sizeLine;omega
 have x2:xD ks (as.map V.ref) k (.ref b)=(if k∈ks then as else as++[b]).map V.ref:=by
  unfold xD;split
  ·rfl
  ·rw[map_append];rfl
 refine⟨_,I.write (x:=p) (e:=p) (by rw[hp];trivial) (.inl rfl) (fun c u ne ec=>(sb.2 c ne).trans ec) ⟨o',e'⟩ (je.ok ⟨c1,z2,n2,_,l2,x2,o',BV,G0,e',UM,WM,by rw[G7]at JY;exact JY⟩),q⟩
theorem GB(hh:X.A.handled=none):k8 X (.type "list") (fun vs H Q=>∃p ks xs,vs=[.ref p]/\H p=some (.ext (je X.w ks p xs))/\∀l,H l=none->Q (.ref l) (upd H l (.lst xs))):=by
 intro pins s σ H vs us Q I hv h;obtain⟨p,ks,xs,rfl,hp,q⟩:=h;cases hv with
 |cons v1 v2=>
  cases v2;cases v1;obtain⟨m,_,_⟩:=(show gj X.prog X.w H s.heap p (.ext (je X.w ks p xs))from I.bh p _ hp);obtain⟨c1,c2,c3,as,c4,rfl,o,es,ep,e,xd,da,he⟩:=m;have ez:es.size=ks.length:=by rw[<- length_toList,he,length_map,length_zip,c4,min_self]
  refine PySem.W.kdl_call (OC (es:=es) (ep:=ep) c1) hh ⟨o,e,xd,da⟩ (by rw[ez];exact c2) fun h' tk acc c' k hl hi=>?_;have hv:Vals (as.map V.ref) acc.toList:=by
   have hlen:acc.toList.length=as.length:=by rw[length_toList,hi.1,ez,c4]
   refine AI hlen fun j a u ha hu=>?_;obtain⟨x,hx,rfl⟩:=hi.2 j u (by rw[<- Array.getElem?_toList];exact hu);have hj:j<ks.length:=by rw[<- c4];exact(List.getElem?_eq_some_iff.mp ha).1
   have yP:((ks.zip as).map (IJ X.w))[j]?=some x:=by rw[<- he,Array.getElem?_toList];exact hx
   rw[getElem?_map]at yP;cases hz:(ks.zip as)[j]? with
   |none=>rw[hz]at yP;cases yP
   |some y=>
    rw[hz]at yP;cases yP;have:=(List.getElem?_zip_eq_some.mp hz).2;rw[ha]at this;cases this;rfl
  refine⟨.ref s.heap.objs.size,_,I.laid (t':=tk) (a:=s.heap.objs.size) (o:=.lst (as.map V.ref)) k (le_refl _) ?_,rfl,q _ I.fresh⟩;exact⟨by rw[length_map,c4];exact c2,acc.toList,_,hv,by rw[Array.toArray_toList];exact hl⟩
open PySem PySem.Spec PyProof.Rows L2
open PySem.W (Dat kqdOk)
theorem GA.MQ(G:GA K aj Av pn aH H σ Γ ad){O:Addr->List V->Heap->Prop}{p:Addr}(i:Nat)(nZ:i≠0)(hp:H p=none)(r:ax K H (aS Av Γ ad) xs ds):
  GA K aj Av pn aH (upd H p (.ext (O p xs))) (σ.set i (some (.ref p))) (Γ.set i (some (.obj O ds))) (fun j=>if j=i then p else ad j):=by
 have sm:aW H (upd H p (.ext (O p xs))):=bV hp _;have ES:∀j s,Γ[j]?=some (some s)->Slot.mt s=true->ad j≠p:=fun j s h m=>by
  obtain⟨⟨o,b⟩,_⟩:=G.mt h m;exact bo b hp
 have kp:mG H (aS Av Γ ad) (upd H p (.ext (O p xs))) (aS Av (Γ.set i (some (.obj O ds))) (fun j=>if j=i then p else ad j)):=by
  intro b o h n;refine⟨sm b o h,?_⟩;rintro(z|⟨j,es,e,m,r⟩)
  ·exact n (.inl z)
  ·rcases aQ e with⟨e1,_⟩|⟨e1,q⟩
   ·have r':p=b:=by simpa [e1]using r
    exact bo h hp r'.symm
   ·have r':ad j=b:=by simpa [e1]using r
    exact n (.inr ⟨j,es,q,m,r'⟩)
 have z0:aj p=none:=by
  cases e0:aj p with
  |none=>rfl
  |some o=>have:=G.same p o e0;rw[hp]at this;cases this
 refine⟨G.same.trans sm,G.jf,by rw[length_set,length_set];exact G.len,fun j d' h=>?_,fun j es h=>?_,fun j l es fs h1 h2 m1 m2 e=>?_,fun q hq=>(G.aH q hq).mono kp,fun a es e h=>?_,fun j O' es h=>?_⟩
 ·rcases aQ h with⟨e,q⟩|⟨e,q⟩
  ·cases q
  ·obtain⟨u,a,b⟩:=G.a7 j d' q;exact⟨u,by rw[getElem?_set_ne (Ne.symm e)];exact a,b.mono kp⟩
 ·rcases aQ h with⟨e,q⟩|⟨e,q⟩
  ·cases q
  ·obtain⟨ys,a,b,c,e'⟩:=G.own j es q;refine⟨ys,?_,?_,c.mono kp,?_⟩
   ·rw[if_neg e,getElem?_set_ne (Ne.symm e)];exact a
   ·rw[if_neg e];exact sm _ _ b
   ·rw[if_neg e];exact e'
 ·rcases aQ h1 with⟨e1,q1⟩|⟨e1,q1⟩
  ·rcases aQ h2 with⟨e2,q2⟩|⟨e2,q2⟩
   ·rw[e1,e2]
   ·rw[if_pos e1,if_neg e2]at e;exact absurd e.symm (ES l fs q2 m2)
  ·rcases aQ h2 with⟨e2,q2⟩|⟨e2,q2⟩
   ·rw[if_neg e1,if_pos e2]at e;exact absurd e (ES j es q1 m1)
   ·rw[if_neg e1,if_neg e2]at e;exact G.inj j l es fs q1 q2 m1 m2 e
 ·rcases aQ h with⟨z,_⟩|⟨_,q⟩
  ·exact absurd z.symm nZ
  ·show(if 0=i then p else ad 0)=a;rw[if_neg (Ne.symm nZ)];exact G.pin a es e q
 ·have fu:=fI h;rw[length_set]at fu;rcases aQ h with⟨e,q⟩|⟨e,q⟩
  ·subst e;cases q;refine⟨xs,?_,?_,r.mono kp,?_⟩
   ·rw[if_pos rfl];exact getElem?_set_self (by rw[G.len];exact fu)
   ·rw[if_pos rfl];exact dR
   ·rw[if_pos rfl];exact z0
  ·obtain⟨ys,a,b,c,e'⟩:=G.obj j O' es q;refine⟨ys,?_,?_,c.mono kp,?_⟩
   ·rw[if_neg e,getElem?_set_ne (Ne.symm e)];exact a
   ·rw[if_neg e];exact sm _ _ b
   ·rw[if_neg e];exact e'
theorem GA.Gx(G:GA K aj Av pn aH H σ Γ ad){O O':Addr->List V->Heap->Prop}{es:List Dat}{ys:List V}(hi:Γ[i]?=some (some (.obj O ds)))(r:ax K H (aS Av Γ ad) ys es):
  GA K aj Av pn aH (upd H (ad i) (.ext (O' (ad i) ys))) σ (Γ.set i (some (.obj O' es))) ad:=by
 have av:∀a,aS Av (Γ.set i (some (.obj O' es))) ad a->aS Av Γ ad a:=by
  rintro a (z|⟨j,fs,e,m,q⟩)
  ·exact .inl z
  ·rcases aQ e with⟨e1,_⟩|⟨e1,q1⟩
   ·subst e1;exact .inr ⟨j,_,hi,rfl,q⟩
   ·exact .inr ⟨j,fs,q1,m,q⟩
 have kp:mG H (aS Av Γ ad) (upd H (ad i) (.ext (O' (ad i) ys))) (aS Av (Γ.set i (some (.obj O' es))) ad):=by
  intro b o h n;refine⟨?_,fun z=>n (av b z)⟩;rw[bz fun z=>n (.inr ⟨i,_,hi,rfl,z.symm⟩)];exact h
 obtain⟨Mu,g1,g2,g3,g4⟩:=G.obj i O ds hi;refine⟨fun b o h=>?_,G.jf,by rw[length_set];exact G.len,fun j d' h=>?_,fun j fs h=>?_,fun j l fs gs h1 h2 m1 m2 e=>?_,fun p hp=>(G.aH p hp).mono kp,fun a fs e h=>?_,fun j O2 fs h=>?_⟩
 ·rw[bz (bo h g4)];exact G.same b o h
 ·rcases aQ h with⟨e,q⟩|⟨e,q⟩
  ·cases q
  ·obtain⟨u,a,b⟩:=G.a7 j d' q;exact⟨u,a,b.mono kp⟩
 ·rcases aQ h with⟨e,q⟩|⟨e,q⟩
  ·cases q
  ·obtain⟨zs,a,b,c,e'⟩:=G.own j fs q;refine⟨zs,a,?_,c.mono kp,e'⟩;rw[bz fun z=>e (G.inj j i _ _ q hi rfl rfl z)];exact b
 ·rcases aQ h1 with⟨e1,q1⟩|⟨e1,q1⟩
  ·rcases aQ h2 with⟨e2,q2⟩|⟨e2,q2⟩
   ·rw[e1,e2]
   ·subst e1;exact G.inj j l _ gs hi q2 rfl m2 e
  ·rcases aQ h2 with⟨e2,q2⟩|⟨e2,q2⟩
   ·subst e2;exact G.inj j l fs _ q1 hi m1 rfl e
   ·exact G.inj j l fs gs q1 q2 m1 m2 e
 ·rcases aQ h with⟨_,q⟩|⟨_,q⟩
  ·cases q
  ·exact G.pin a fs e q
 ·rcases aQ h with⟨e,q⟩|⟨e,q⟩
  ·subst e;cases q;exact⟨ys,g1,dR,r.mono kp,g4⟩
  ·obtain⟨zs,a,b,c,e'⟩:=G.obj j O2 fs q;refine⟨zs,a,?_,c.mono kp,e'⟩;rw[bz fun z=>e (G.inj j i _ _ q hi rfl rfl z)];exact b
def Jr (w:World) (i:Nat):aD->Option Fl:=fun Γ=>some (.nx (Γ.set i (some (.obj (je w []) []))))
variable {x:Str}
theorem CB(i:Nat)(hN:X.N.Nodup)(hi:X.N[i]?=some x:=by rfl)(nZ:i≠0:=by decide)(hx:Loc X.env.scope x:=by first|exact .inl rfl|exact .inr rfl)(hs:swapsWith (.Dict [] [] p2) (some (.Name x pos')) pos.line X.env=pure false:=by rfl)(hf:X.fn x=true\/X.env.scope.names.lookup x=some .local:=by first|exact .inl rfl|exact .inr rfl):
  gJ X (.Assign [.Name x pos'] (.Dict [] [] p2) pos) (Jr X.w i):=⟨cz (q8 hN hi hx Ln hs hf) fun D σ H aM=>by
 obtain⟨aj,Av,pn,aH,Γ,fl,⟨ad,G⟩,hf,q⟩:=aM;cases hf;exact fun p hp=>q _ _ ⟨_,G.MQ i nZ hp .nil⟩⟩
def Pr (w:World) (O:Addr->List V->Heap->Prop) (ds:List Dat) (d:Dat) (p:List RK×RK):Prop:=O=je w p.1/\ds=p.1.map dH/\d=dH p.2/\(∀k∈p.1,PyData.strOk k.1=true)/\PyData.strOk p.2.1=true/\p.1.length<sizeLine
noncomputable def tI (w:World) (i:Nat) (f:aw->Option Dat):aD->Option Fl:=open Classical in fun Γ=>(f (bw Γ)).bind fun d=>match Γ[i]? with
 |some (some (.obj O ds))=>if h:∃p,Pr w O ds d p then some (.nx (Γ.set i (some (.obj (je w (gU h.choose.1 h.choose.2)) ((gU h.choose.1 h.choose.2).map dH)))))else none
 |_=>none
theorem Ei{xs ys:List RK}(h:xs.map dH=ys.map dH):xs=ys:=(List.map_inj_right fun a b e=>oE e).mp h
theorem Hh(hi:Γ[i]?=some (some (.obj (je w ks) (ks.map dH))))(hf:f (bw Γ)=some (dH k))(h1:∀k∈ks,PyData.strOk k.1=true)(h2:PyData.strOk k.1=true)(h3:ks.length<sizeLine):
  tI w i f Γ=some (.nx (Γ.set i (some (.obj (je w (gU ks k)) ((gU ks k).map dH))))):=by
 unfold tI;rw[hf,Option.bind_some,hi];have ex:∃p,Pr w (je w ks) (ks.map dH) (dH k) p:=⟨(ks,k),rfl,rfl,rfl,h1,h2,h3⟩;refine(dif_pos ex).trans ?_;obtain⟨_,g2,g3,_⟩:=ex.choose_spec;rw[<- Ei g2,<- oE g3]
variable {k:Nat}
theorem CA(i:Nat)(hr:cv k X.A)(pe:QF X e (fC (.bool true)))(pb:QF X b f)(hN:X.N[i]?=some x:=by rfl)(hv:mE X.env.scope x:=by first|exact Or.inl rfl|exact Or.inr (Or.inl rfl)|exact Or.inr (Or.inr rfl))(hd:(x==("__debug__" : Str))=false:=by decide)(gf:(x==("__classdict__" : Str))=false:=by decide)(ha:∀v,assign (.Subscript (.Name x p1) b p3) X.env v=(do
   let ov <- holding [v] (eval (.Name x p1) X.env);let iv <- holding [v,ov] (eval b X.env);standAt p3
   holding [v,ov,iv] (setItem ov iv v)
   release [v,ov,iv] []):=by intro _;rfl)(hs:swapsWithSole [.Subscript (.Name x p1) b p3] e pos.line X.env=pure false:=by rfl)(hw:swappedStores [.Subscript (.Name x p1) b p3] e X.env=pure none:=by rfl)(h1:(assignEach [.Subscript (.Name x p1) b p3] X.env).map (·.2)=[assign (.Subscript (.Name x p1) b p3) X.env]:=by rfl):
  gJ X (.Assign [.Subscript (.Name x p1) b p3] e pos) (tI X.w i f):=⟨cz (tT pe.o (yu (lY hN hv hd gf) pb.o (KQ (by have:=hr.un;omega)) ha) hs hw h1) fun D σ H aM=>by
 obtain⟨aj,Av,pn,aH,Γ,fl,⟨ad,G⟩,hf,q⟩:=aM;obtain⟨d,e2,i5⟩:=bind_some hf;cases hi:Γ[i]? with
 |none=>rw[hi]at i5;cases i5
 |some o=>
  cases o with
  |none=>rw[hi]at i5;cases i5
  |some sl=>
   cases sl with
   |a7 _=>rw[hi]at i5;cases i5
   |own _=>rw[hi]at i5;cases i5
   |obj O ds=>
    rw[hi]at i5;dsimp only at i5;by_cases hx:∃p,Pr X.w O ds d p
    ··rw[dif_pos hx]at i5;cases i5;obtain⟨c1,c2,c3,c4,c5,c6⟩:=hx.choose_spec;generalize hx.choose=pk at c1 c2 c3 c4 c5 c6 q;obtain⟨ks,kk⟩:=pk;dsimp only at c1 c2 c3 c4 c5 c6 q;subst c1 c2 c3;refine⟨aS Av Γ ad,bw Γ,.bool true,G.gR,G.j3,rfl,fun v H' s r=>?_⟩;have G1:=G.grow s;obtain⟨xs,g1,g2,g3,g4⟩:=G1.obj i _ _ hi;refine⟨_,g1,aS Av Γ ad,bw Γ,dH kk,G1.gR,G1.j3,e2,fun y H2 s2 ry=>?_⟩;have G2:=G1.grow s2;obtain⟨ys,g5,g6,g7,g8⟩:=G2.obj i _ _ hi;have rv:v=.bl true:=by cases r;rfl
      refine⟨ad i,ks,ys,kk,aS Av Γ ad,rfl,rv,g6,c4,c5,g7,ry,c6,q _ _ ⟨ad,G2.Gx hi ?_⟩⟩;unfold gU xD;split
      ·exact g7
      ·rw[map_append];exact g7.append (.cons ry .nil)
    ·rw[dif_neg hx]at i5;cases i5⟩
noncomputable def tG (w:World) (i:Nat):aD->Option Fl:=open Classical in fun Γ=>match Γ[i]? with
 |some (some (.obj O ds))=>if ∃ks,O=je w ks then some (.rt (.list ds))else none
 |_=>none
theorem He(hi:Γ[i]?=some (some (.obj (je w ks) ds))):tG w i Γ=some (.rt (.list ds)):=by
 unfold tG;rw[hi];exact if_pos ⟨ks,rfl⟩
theorem Cz(i:Nat)(hr:cv k X.A)(hm:X.mg "list"=none)(hN:X.N[i]?=some x:=by rfl)(hv:mE X.env.scope x:=by first|exact Or.inl rfl|exact Or.inr (Or.inl rfl)|exact Or.inr (Or.inr rfl))(hd:(x==("__debug__" : Str))=false:=by decide)(gf:(x==("__classdict__" : Str))=false:=by decide)(hg:Gl X "list":=by rfl)(he:starEach [.Name x p1] X.env=[(false,eval (.Name x p1) X.env)]:=by rfl):
  gJ X (.Return (some (.Call (.Name "list" p) [.Name x p1] [] p2)) pos) (tG X.w i):=⟨cz (tR (mS (GB hr.hd) hg hm (by decide +kernel) (kx (lY hN hv hd gf) qb he) (by decide) (by decide) he rfl)) fun D σ H aM=>by
 obtain⟨aj,Av,pn,aH,Γ,fl,⟨ad,G⟩,hf,q⟩:=aM;unfold tG at hf;split at hf
 ·rename_i O ds hi;split at hf
  ·rename_i hx;obtain⟨ks,rfl⟩:=hx;cases hf;obtain⟨xs,g1,g2,g3,g4⟩:=G.obj i _ _ hi;exact⟨_,g1,ad i,ks,xs,rfl,g2,fun l hl=>q _ _ (G.same.trans (bV hl _)) (.qg (G.jf.same G.same) hl (g3.weak fun _ z=>.inl z))⟩
  ·cases hf
 ·cases hf⟩
theorem Eo(w:World)(i:Nat)(hN:X.N.Nodup)(hw:X.w=w:=by rfl)(hi:X.N[i]?=some x:=by rfl)(nZ:i≠0:=by decide)(hx:Loc X.env.scope x:=by first|exact .inl rfl|exact .inr rfl)(hs:swapsWith (.Dict [] [] p2) (some (.Name x pos')) pos.line X.env=pure false:=by rfl)(hf:X.fn x=true\/X.env.scope.names.lookup x=some .local:=by first|exact .inl rfl|exact .inr rfl):
  gJ X (.Assign [.Name x pos'] (.Dict [] [] p2) pos) (Jr w i):=hw▸CB i hN hi nZ hx hs hf
theorem wg(w:World)(i:Nat)(hr:cv k X.A)(pe:QF X e (fC (.bool true)))(pb:QF X b f)(NY:X.w=w:=by rfl)(hN:X.N[i]?=some x:=by rfl)(hv:mE X.env.scope x:=by first|exact Or.inl rfl|exact Or.inr (Or.inl rfl)|exact Or.inr (Or.inr rfl))(hd:(x==("__debug__" : Str))=false:=by decide)(gf:(x==("__classdict__" : Str))=false:=by decide)(ha:∀v,assign (.Subscript (.Name x p1) b p3) X.env v=(do
   let ov <- holding [v] (eval (.Name x p1) X.env);let iv <- holding [v,ov] (eval b X.env);standAt p3
   holding [v,ov,iv] (setItem ov iv v)
   release [v,ov,iv] []):=by intro _;rfl)(hs:swapsWithSole [.Subscript (.Name x p1) b p3] e pos.line X.env=pure false:=by rfl)(hw:swappedStores [.Subscript (.Name x p1) b p3] e X.env=pure none:=by rfl)(h1:(assignEach [.Subscript (.Name x p1) b p3] X.env).map (·.2)=[assign (.Subscript (.Name x p1) b p3) X.env]:=by rfl):
  gJ X (.Assign [.Subscript (.Name x p1) b p3] e pos) (tI w i f):=NY▸CA i hr pe pb hN hv hd gf ha hs hw h1
theorem En(w:World)(i:Nat)(hr:cv k X.A)(hm:X.mg "list"=none)(NY:X.w=w:=by rfl)(hN:X.N[i]?=some x:=by rfl)(hv:mE X.env.scope x:=by first|exact Or.inl rfl|exact Or.inr (Or.inl rfl)|exact Or.inr (Or.inr rfl))(hd:(x==("__debug__" : Str))=false:=by decide)(gf:(x==("__classdict__" : Str))=false:=by decide)(hg:Gl X "list":=by rfl)(he:starEach [.Name x p1] X.env=[(false,eval (.Name x p1) X.env)]:=by rfl):
  gJ X (.Return (some (.Call (.Name "list" p) [.Name x p1] [] p2)) pos) (tG w i):=NY▸Cz i hr hm hN hv hd gf hg he
open PySem PySem.Spec PyProof.Rows L2
open PySem.W (Dat kqdOk)
structure FnAt (K:Fg) (mg:Str->Option Value) (x:Str) (st:Stmt) (ps:List Str):Prop where
 ex:∃f fd,mH K x x st f fd/\mg x=some (.ref f)/\Binds K fd ps []
theorem Uw{f:Addr}{oc:Value}{od an:Option Addr}{rA:Array (Option Value)}{kV doc pm bA ct:Value}(X:K.In h)(G:h.Ns mainGlobals mg)(a:nsIn K mainGlobals x=some (some (.ref f)))(l:K.lookup f=some ⟨oc,od,.func (fnOf x x (jG st) (cT st) (aU st) .none kV doc pm an bA ct),rA⟩)(c:codeIn K bA x=true)(k:keepIn K (.ref f)=true)(b:∀(kV doc pm:Value) (an:Option Addr) (bA ct:Value) (us:List Value),us.length=ps.length->bindArgs (fnOf x x (jG st) (cT st) (aU st) .none kV doc pm an bA ct) ⟨us,[]⟩=pure (ps.zip us)):FnAt K mg x st ps:=
 ⟨⟨_,_,zv l c k,mg_of X G a,(zv l c k).binds b⟩⟩
theorem cq(N:List Str)(U:FnAt K mg x st ps)(hbody:N.Nodup->∀(fa:Addr) (bA:Value) (A:Around) (outer:List Env) (s:Shared) (H:Hp) (E:XK),cv k (A.deeper (envOfC x (aU st) s.heap.objs.size fa bA))->iK (jv iV P w K mg base N x (aU st) fa bA A outer s H E).nV (cT st) g)(S:fR N ps (aU st):=by exact⟨rfl,rfl,rfl,by decide +kernel,rfl,by decide +kernel,by decide +kernel⟩)(hn:ps.length=n:=by rfl):Dn P w K mg base (k+1) x ps n (iW N g):=by
 obtain⟨f,fd,U,hm,hB⟩:=U.ex;exact hZ U hm hB S hn (hbody S.nd f) fun _ _ _ h=>h
theorem Q5(N:List Str)(U:FnAt K mg x st ps)(hbody:N.Nodup->∀(fa:Addr) (bA:Value) (A:Around) (outer:List Env) (s:Shared) (H:Hp) (E:XK),cv k (A.deeper (envOfC x (aU st) s.heap.objs.size fa bA))->iK (jv iV P w K mg base N x (aU st) fa bA A outer s H E).nV (cT st) g)(S:fR N ps (aU st):=by exact⟨rfl,rfl,rfl,by decide +kernel,rfl,by decide +kernel,by decide +kernel⟩)(hn:ps.length=n:=by rfl):k7 P w K mg base (k+1) x ps n (runM N g):=by
 obtain⟨f,fd,U,hm,hB⟩:=U.ex;exact qS U hm hB S hn (hbody S.nd f) fun _ _ _ _ _ h=>h
structure TC (K:Fg) (mg:Str->Option Value) (x:Str) (ds:List Dat) (a:Addr):Prop where
 mg:mg x=some (.ref a)
 tup:ModT K a ds
variable {sl:Array (Option Value)}
theorem xx{o:Option Addr}{i j:Int}{t u:Tok}(X:K.In h)(G:h.Ns mainGlobals mg)(e:nsIn K mainGlobals x=some (some (.ref a)))(l:K.lookup a=some ⟨.type "tuple",o,.seq #[.int i t,.int j u] n,sl⟩):∃a,TC K mg x [.int i,.int j] a:=
 ⟨a,mg_of X G e,⟨[.int i,.int j],_,_,_,l,rfl,rfl,Nat.le_of_lt (w5 (by show 2<=1000;decide)),.cons ⟨_,rfl⟩ (.cons ⟨_,rfl⟩ .nil),fun H Av=>ax.ints [i,j]⟩⟩
open PySem PySem.Spec PyProof.Rows L2
open PySem.W (Dat kqdOk)
def km (es:Array DictEntry):Bool:=es.toList.all fun e=>match e.key with| .str _ _=>true|_=>false
structure vI (P:Program) (K:Fg) (mg:Str->Option Value):Prop where
 tree:P.given.tree=none
 st:∃(c:Value) (d:Option Addr) (es:Array DictEntry) (n:Nat) (sl:Array (Option Value)),K.lookup cStatics=some ⟨c,d,.dict es n,sl⟩/\km es=true/\nsIn K cStatics "sys.audit-hooks"=some none/\nsIn K cStatics "sys.dict"=some none
 md:∃(c:Value) (d:Option Addr) (es:Array DictEntry) (n:Nat) (sl:Array (Option Value)),K.lookup sysModules=some ⟨c,d,.dict es n,sl⟩/\km es=true/\nsIn K sysModules "_pylong"=some none
 bi:∃bm,mg "__builtins__"=some (.ref bm)/\∃(o:Obj),K.lookup bm=some o/\o.cls=.type "module"/\o.dict=some builtinsNs
theorem KU{c1 c2:Value}{d1 d2:Option Addr}{e1 e2:Array DictEntry}{l1 l2 l3:Array (Option Value)}{bm:Addr}{d3:Data}(X:K.In h)(G:h.Ns mainGlobals mg)(ht:P.given.tree=none)(s1:K.lookup cStatics=some ⟨c1,d1,.dict e1 n1,l1⟩)(s3:nsIn K cStatics "sys.audit-hooks"=some none)(s4:nsIn K cStatics "sys.dict"=some none)(s5:K.lookup sysModules=some ⟨c2,d2,.dict e2 n2,l2⟩)(s7:nsIn K sysModules "_pylong"=some none)(s8:nsIn K mainGlobals "__builtins__"=some (some (.ref bm)))(s9:K.lookup bm=some ⟨.type "module",some builtinsNs,d3,l3⟩)(s2:km e1=true)(s6:km e2=true):vI P K mg:=
 ⟨ht,⟨_,_,_,_,_,s1,s2,s3,s4⟩,⟨_,_,_,_,_,s5,s6,s7⟩,⟨_,mg_of X G s8,_,s9,rfl,rfl⟩⟩
theorem Ct(h:km es=true):StrKeys es:=by
 intro e he;have:=all_eq_true.mp h e (Array.mem_def.mp he);revert this;cases hk:e.key with
 |str a b=>intro _;exact⟨a,b,rfl⟩
 |_=>intro z;cases z
theorem qf{c:Value}{d:Option Addr}(X:K.In h)(l:K.lookup a=some ⟨c,d,.dict es n,sl⟩)(k:km es=true):h.Ns a (nsFind es):=
 ⟨_,es,n,X _ _ l,rfl,Ct k,fun _=>rfl⟩
theorem vI.no(S:vI P K mg)(M:Mod K mg h):h.NoSeer:=by
 obtain⟨c,d,es,n,sl,l1,k1,a1,a2⟩:=S.st;obtain⟨c',d',BV,n',Rb,l2,k2,b1⟩:=S.md;obtain⟨bm,m1,o,l3,o1,o2⟩:=S.bi;have g1:=qf M.tY l1 k1;have g2:=qf M.tY l2 k2;exact⟨⟨_,g1,ns_none_of M.tY g1 a1,ns_none_of M.tY g1 a2⟩,⟨_,g2,ns_none_of M.tY g2 b1⟩,M.blt,⟨mg,bm,o,M.glob,m1,M.tY _ _ l3,o1,o2⟩⟩
def Ck (X:Cx):Prop:=∃e l,X.stack=e::l/\e.scope.isGenerator=false/\e.scope.isCoroutine=false/\e.builtins=builtinsNs/\e.globals=mainGlobals
theorem HC(S:vI X.prog X.K X.mg)(hr:cv k X.A)(hk:32<=k)(hp:Ck X):eC X (binaryOp .FloorDiv) (rI Kz fun i j=>.int (i.fdiv j)):=by
 intro pins s σ H x y v u Q I rx ry h;obtain⟨i,j,rfl,rfl,hc,q⟩:=h;obtain⟨t,rfl⟩:=rx;obtain⟨t',rfl⟩:=ry;obtain⟨e,l,h1,h2,h3,h4,h5⟩:=hp;have hd:X.A.depth+Builtin.pylongFrames<recursionLimit:=by
  have:=hr.dp;show X.A.depth+100<_;omega
 exact floordiv_int hc ⟨.int (i.fdiv j),H,I.tok _,⟨_,rfl⟩,q⟩ (.inr (PylongRoom.of I.nolimit hd (SeerAt.of ((S.no I.mod).keeps I.bk) S.tree (by rw[I.ok.frames,h1]) h2 h3 h4 h5)))
noncomputable abbrev r6:Dat->Dat->Option Dat:=iD Kz fun i j=>.int (i.fdiv j)
variable {a:Expr}
theorem ee(S:vI X.prog X.K X.mg)(hr:cv k X.A)(ha:QF X a fa)(hb:QF X b fb)(hk:32<=k:=by decide)(hp:Ck X:=by exact⟨_,_,rfl,rfl,rfl,rfl,rfl⟩):QF X (.BinOp a .FloorDiv b pos) (f2 r6 fa fb):=⟨lX (HC S hr hk hp) oH ha.o hb.o⟩
open PySem PySem.Spec PyProof.Rows L2
open PySem.W (Dat kqdOk)
def Oj (f:HF):aD->Option (Bool×aD):=fun Γ=>(f Γ).bind fun p=>(lQ p.1).map fun k=>(k,p.2)
def K5 (f:aD->Option (Bool×aD)):aD->Option (Bool×aD):=fun Γ=>(f Γ).map fun p=>(!p.1,p.2)
theorem CC(pa:QH X a ha)(he:∀whole,isTrue a X.env whole=(do let v <- whole;standAt a.pos;holding [v] (truthy v)):=by intro _;rfl):Kr X a (Oj ha):=⟨nQ (yj pa.o he) fun σ H Q aM=>by
 obtain⟨aj,Av,pn,aH,Γ,ad,d,ag,G,hf,q⟩:=aM;obtain⟨⟨dv,cU⟩,e1,hf⟩:=bind_some hf;obtain⟨k,e2,hf⟩:=bg hf;cases hf;exact⟨aj,Av,pn,aH,Γ,ad,_,cU,G,e1,fun v H' iJ G' r=>⟨_,DW r e2,q H' iJ G'⟩⟩⟩
theorem Ho(pa:Kr X a ht):Kr X (.UnaryOp .Not a pos) (K5 ht):=⟨nQ (Et pa.o) fun σ H Q aM=>by
 obtain⟨aj,Av,pn,aH,Γ,ad,d,ag,G,hf,q⟩:=aM;obtain⟨⟨k,cU⟩,e1,hf⟩:=bg hf;cases hf;exact⟨aj,Av,pn,aH,Γ,ad,_,cU,G,e1,fun H' iJ G'=>q H' iJ G'⟩⟩
end
end L3
namespace Fr
noncomputable section
theorem zt(a b:Int)(hb:0<b):gcd b (a.fmod b)=gcd a b:=by
 rw[Int.fmod_eq_emod_of_nonneg a (Int.le_of_lt hb)];apply Nat.dvd_antisymm
 ·apply Int.dvd_gcd
  ·have h1:=gcd_dvd_left b (a % b);have h2:=gcd_dvd_right b (a % b);have e:a=a % b+b*(a/b):=(Int.emod_add_mul_ediv a b).symm;have h3:(↑(b.gcd (a % b)):Int)∣a % b+b*(a/b):=Int.dvd_add h2 (Int.dvd_mul_of_dvd_left h1);rw[<- e]at h3;exact h3
  ·exact gcd_dvd_left b (a % b)
 ·apply Int.dvd_gcd
  ·exact gcd_dvd_right a b
  ·have h1:=gcd_dvd_left a b;have h2:=gcd_dvd_right a b;have e:a % b=a-b*(a/b):=by have:=Int.emod_add_mul_ediv a b;omega
   rw[e];exact Int.dvd_sub h1 (Int.dvd_mul_of_dvd_left h2)
def dv (n d:Int):Int:=if d<0 then -(gcd n d:Int)else(gcd n d:Int)
def num (n d:Int):Int:=n.fdiv (dv n d)
def den (n d:Int):Int:=d.fdiv (dv n d)
variable {n d:Int}
theorem lL(h:d≠0):0<gcd n d:=Nat.pos_of_ne_zero fun e=>h (by
 have:=gcd_dvd_right n d;rw[e]at this;exact Int.zero_dvd.mp this)
theorem Ki(h:d≠0):dv n d≠0:=by
 have:=lL (n:=n) h;unfold dv;split<;>omega
theorem xK(n d:Int):dv n d∣n:=by
 unfold dv;split
 ·exact Int.neg_dvd.mpr (gcd_dvd_left n d)
 ·exact gcd_dvd_left n d
theorem xJ(n d:Int):dv n d∣d:=by
 unfold dv;split
 ·exact Int.neg_dvd.mpr (gcd_dvd_right n d)
 ·exact gcd_dvd_right n d
theorem num_mul(n d:Int):num n d*dv n d=n:=by
 unfold num;rw[Int.fdiv_eq_ediv_of_dvd (xK n d)];exact Int.ediv_mul_cancel (xK n d)
theorem den_mul(n d:Int):den n d*dv n d=d:=by
 unfold den;rw[Int.fdiv_eq_ediv_of_dvd (xJ n d)];exact Int.ediv_mul_cancel (xJ n d)
theorem den_pos(h:d≠0):0<den n d:=by
 have e:=den_mul n d;have g:=lL (n:=n) h;by_cases hd:d<0
 ·have e2:dv n d=-(gcd n d:Int):=by unfold dv;exact if_pos hd
  have HY:dv n d<0:=by omega
  rcases Int.lt_trichotomy (den n d) 0 with q|q|q
  ·have:=Int.mul_pos_of_neg_of_neg q HY;omega
  ·rw[q]at e;simp at e;omega
  ·exact q
 ·have e2:dv n d=(gcd n d:Int):=by unfold dv;exact if_neg hd
  have yU:0<dv n d:=by omega
  rcases Int.lt_trichotomy (den n d) 0 with q|q|q
  ·have:=Int.mul_neg_of_neg_of_pos q yU;omega
  ·rw[q]at e;simp at e;omega
  ·exact q
theorem uu(n d:Int):(dv n d).natAbs=gcd n d:=by
 unfold dv;split<;>simp
theorem zM(h:d≠0):gcd (num n d) (den n d)=1:=by
 unfold num den;rw[Int.fdiv_eq_ediv_of_dvd (xK n d),Int.fdiv_eq_ediv_of_dvd (xJ n d),Int.gcd_ediv (xK n d) (xJ n d),uu];exact Nat.div_self (lL h)
theorem Dm(n d:Int):num n d*d=den n d*n:=by
 have e1:=num_mul n d;have e2:=den_mul n d;calc num n d*d=num n d*(den n d*dv n d):=by rw[e2]
  _=den n d*(num n d*dv n d):=by rw[Int.mul_left_comm]
  _=den n d*n:=by rw[e1]
theorem uniq{p q:Int}(hd:d≠0)(hq:0<q)(hc:gcd p q=1)(h:p*d=q*n):num n d=p/\den n d=q:=by
 have hx:=Dm n d;have hk:=zM (n:=n) hd;have yZ:=den_pos (n:=n) hd

 have key:p*den n d=q*num n d:=by
  have a1:(p*den n d)*d=(q*num n d)*d:=by
   calc (p*den n d)*d=(p*d)*den n d:=by rw[Int.mul_right_comm]
    _=(q*n)*den n d:=by rw[h]
    _=q*(den n d*n):=by rw[Int.mul_assoc,mul_comm n]
    _=q*(num n d*d):=by rw[hx]
    _=(q*num n d)*d:=by rw[Int.mul_assoc]
  exact Int.eq_of_mul_eq_mul_right hd a1
 have n1:q.natAbs∣(den n d).natAbs:=by
  have z:q.natAbs∣p.natAbs*(den n d).natAbs:=by
   rw[<- natAbs_mul,key,natAbs_mul];exact Nat.dvd_mul_right _ _
  have c:Nat.Coprime q.natAbs p.natAbs:=by
   show Nat.gcd q.natAbs p.natAbs=1;rw[Nat.gcd_comm];exact hc
  exact c.dvd_of_dvd_mul_left z
 have n2:(den n d).natAbs∣q.natAbs:=by
  have z:(den n d).natAbs∣q.natAbs*(num n d).natAbs:=by
   rw[<- natAbs_mul,<- key,natAbs_mul];exact Nat.dvd_mul_left _ _
  have c:Nat.Coprime (den n d).natAbs (num n d).natAbs:=by
   show Nat.gcd (den n d).natAbs (num n d).natAbs=1;rw[Nat.gcd_comm];exact hk
  exact c.dvd_of_dvd_mul_right z
 have e1:den n d=q:=by
  have:=Nat.dvd_antisymm n1 n2;omega
 refine⟨?_,e1⟩;rw[e1]at key;have:q*p=q*num n d:=by rw[mul_comm q p];exact key
 exact(Int.eq_of_mul_eq_mul_left (ne_of_gt hq) this).symm
theorem self{p q:Int}(hq:0<q)(hc:gcd p q=1):num p q=p/\den p q=q:=uniq (ne_of_gt hq) hq hc (mul_comm p q)
theorem turned(h:d≠0):num (0-n) (0-d)=num n d/\den (0-n) (0-d)=den n d:=by
 refine uniq (by omega) (den_pos h) (zM h) ?_;have:=Dm n d;rw[Int.mul_sub,Int.mul_sub,this,mul_zero,mul_zero]
theorem uB(h:d≠0):(num n d).natAbs<=n.natAbs:=by
 have e:=congrArg Int.natAbs (num_mul n d);rw[natAbs_mul]at e;have:1<=(dv n d).natAbs:=by rw[uu];exact lL h
 calc (num n d).natAbs=(num n d).natAbs*1:=(mul_one _).symm
  _<=(num n d).natAbs*(dv n d).natAbs:=mul_le_mul_left _ this
  _=n.natAbs:=e
theorem uC(h:d≠0):(den n d).natAbs<=d.natAbs:=by
 have e:=congrArg Int.natAbs (den_mul n d);rw[natAbs_mul]at e;have:1<=(dv n d).natAbs:=by rw[uu];exact lL h
 calc (den n d).natAbs=(den n d).natAbs*1:=(mul_one _).symm
  _<=(den n d).natAbs*(dv n d).natAbs:=mul_le_mul_left _ this
  _=d.natAbs:=e
end
end Fr
namespace Fr
noncomputable section
def nd:List (Int×Int)->Int×Int
 |[]=>(0,1)
 |x::l=>(x.1*(nd l).2+(nd l).1*x.2,x.2*(nd l).2)
theorem congr{n d n' d':Int}(h:d≠0)(h':d'≠0)(e:n*d'=n'*d):num n d=num n' d'/\den n d=den n' d':=by
 have c:=Dm n' d';refine uniq h (den_pos h') (zM h') ?_

 have:(num n' d'*d)*d'=(den n' d'*n)*d':=by
  calc (num n' d'*d)*d'=(num n' d'*d')*d:=by grind
   _=(den n' d'*n')*d:=by rw[c]
   _=den n' d'*(n'*d):=by grind
   _=den n' d'*(n*d'):=by rw[e]
   _=(den n' d'*n)*d':=by grind
 exact Int.eq_of_mul_eq_mul_right h' this
end
end Fr
namespace Fr
noncomputable section
theorem j7(q:Rat):(q.num:Rat)=q*(q.den:Rat):=by
 have e:q=(q.num:Rat)/(q.den:Rat):=by rw[<- Rat.mkRat_eq_div,mkRat_self]
 have h:(q.den:Rat)≠0:=fun z=>q.den_nz (Rat.natCast_eq_zero_iff.mp z);generalize (q.num:Rat)=a at *;generalize (q.den:Rat)=b at *;grind
theorem yA(n:Int)(d:Nat)(h:d≠0):num n d=(mkRat n d).num/\den n d=((mkRat n d).den:Int):=by
 refine uniq (by omega) (by have:=(mkRat n d).den_pos;omega) ?_ ?_
 ·have:=(mkRat n d).reduced;show Nat.gcd _ _=1;rw[natAbs_natCast];exact this
 ·have e:=(Rat.mkRat_eq_iff (mkRat n d).den_nz h).mp (mkRat_self (mkRat n d));rw[e];exact mul_comm _ _
theorem B3(a b:Rat):num (a.num*b.den+b.num*a.den) (a.den*b.den)=(a+b).num/\den (a.num*b.den+b.num*a.den) (a.den*b.den)=((a+b).den:Int):=by
 have:=yA (a.num*b.den+b.num*a.den) (a.den*b.den) (Nat.mul_ne_zero a.den_nz b.den_nz);rw[Rat.add_def'];rw[Int.natCast_mul]at this;exact this
theorem B0(a b:Rat):num (a.num*b.den-b.num*a.den) (a.den*b.den)=(a-b).num/\den (a.num*b.den-b.num*a.den) (a.den*b.den)=((a-b).den:Int):=by
 have:=yA (a.num*b.den-b.num*a.den) (a.den*b.den) (Nat.mul_ne_zero a.den_nz b.den_nz);rw[Rat.sub_def'];rw[Int.natCast_mul]at this;exact this
theorem B1(a b:Rat):num (a.num*b.num) (a.den*b.den)=(a*b).num/\den (a.num*b.num) (a.den*b.den)=((a*b).den:Int):=by
 have:=yA (a.num*b.num) (a.den*b.den) (Nat.mul_ne_zero a.den_nz b.den_nz);rw[Rat.mul_def'];rw[Int.natCast_mul]at this;exact this
theorem kD(n d:Int)(h:d≠0):num n d=((n:Rat)/(d:Rat)).num/\den n d=(((n:Rat)/(d:Rat)).den:Int):=by
 have hd:(d:Rat)≠0:=fun z=>h (Rat.intCast_eq_zero_iff.mp z);generalize hq:(n:Rat)/(d:Rat)=q;refine uniq h (by have:=q.den_pos;omega) ?_ ?_
 ·have:=q.reduced;show Nat.gcd _ _=1;rw[natAbs_natCast];exact this
 ·have e1:q*(d:Rat)=(n:Rat):=by rw[<- hq];exact Rat.div_mul_cancel hd
  have e2:(q.num:Rat)=q*(q.den:Rat):=j7 q;have e3:((q.num*d:Int):Rat)=((q.den*n:Int):Rat):=by
   rw[intCast_mul,intCast_mul,e2,<- e1];have:(((q.den:Int)):Rat)=(q.den:Rat):=rfl;rw[this];grind
  exact Rat.intCast_inj.mp e3
theorem B2(a b:Rat)(h:b.num≠0):num (a.num*b.den) (a.den*b.num)=(a/b).num/\den (a.num*b.den) (a.den*b.num)=((a/b).den:Int):=by
 have hd:(a.den:Int)*b.num≠0:=mul_ne_zero (by have:=a.den_pos;omega) h;have:=kD (a.num*b.den) (a.den*b.num) hd;have e:((a.num*b.den:Int):Rat)/((a.den*b.num:Int):Rat)=a/b:=by
  have a1:=(j7 a).symm;have b1:=(j7 b).symm;have ad:(a.den:Rat)≠0:=fun z=>by
   have:=a.den_pos;have z':((a.den:Int):Rat)=0:=z;have:=Rat.intCast_eq_zero_iff.mp z';omega
  have bd:(b.den:Rat)≠0:=fun z=>by
   have:=b.den_pos;have z':((b.den:Int):Rat)=0:=z;have:=Rat.intCast_eq_zero_iff.mp z';omega
  rw[intCast_mul,intCast_mul,<- a1,<- b1];have c1:(((b.den:Int)):Rat)=(b.den:Rat):=rfl;have c2:(((a.den:Int)):Rat)=(a.den:Rat):=rfl;rw[c1,c2];have b0:b≠0:=fun z=>h (by rw[z];rfl);grind
 rw[e]at this;exact this
theorem yf(a b:Rat):(a<b)↔a.num*b.den<b.num*a.den:=Rat.lt_iff a b
end
end Fr
namespace FM
noncomputable section
def sm:Nat->(Nat->Rat)->Rat
 |0,_=>0
 |k+1,f=>sm k f+f k
theorem aO{f g:Nat->Rat}:∀{k:Nat},(∀i,i<k->f i=g i)->sm k f=sm k g
 |0,_=>rfl
 |k+1,h=>by
  show sm k f+f k=sm k g+g k;rw[aO (fun i hi=>h i (by omega)),h k (by omega)]
theorem i7{f:Nat->Rat}:∀{k:Nat},(∀i,i<k->f i=0)->sm k f=0
 |0,_=>rfl
 |k+1,h=>by
  show sm k f+f k=0;rw[i7 (fun i hi=>h i (by omega)),h k (by omega)];grind
theorem dO{f g:Nat->Rat}:∀k:Nat,sm k (fun i=>f i+g i)=sm k f+sm k g
 |0=>by show(0:Rat)=0+0;grind
 |k+1=>by
  show sm k (fun i=>f i+g i)+(f k+g k)=(sm k f+f k)+(sm k g+g k);rw[dO k];grind
theorem bD{f:Nat->Rat}(c:Rat):∀k:Nat,sm k (fun i=>c*f i)=c*sm k f
 |0=>by show(0:Rat)=c*0;grind
 |k+1=>by
  show sm k (fun i=>c*f i)+c*f k=c*(sm k f+f k);rw[bD c k];grind
theorem E8{f g:Nat->Rat}{p:Nat}{v:Rat}:∀{k:Nat},p<k->sm k (fun i=>(if i=p then v else f i)*g i)=sm k (fun i=>f i*g i)+(v-f p)*g p
 |0,h=>by omega
 |k+1,h=>by
  show sm k (fun i=>(if i=p then v else f i)*g i)+(if k=p then v else f k)*g k=(sm k (fun i=>f i*g i)+f k*g k)+(v-f p)*g p;by_cases e:k=p
  ·rw[aO (g:=fun i=>f i*g i) (fun i hi=>by rw[if_neg (by omega)]),if_pos e,<- e];grind
  ·rw[E8 (k:=k) (by omega),if_neg e];grind
theorem AU{f:Nat->Nat->Rat}(m:Nat):∀k:Nat,sm k (fun i=>sm m (fun c=>f i c))=sm m (fun c=>sm k (fun i=>f i c))
 |0=>(i7 fun _ _=>rfl).symm
 |k+1=>by
  show sm k (fun i=>sm m (fun c=>f i c))+sm m (fun c=>f k c)=_;rw[AU m k,<- dO];rfl
theorem xZ{f:Nat->Rat}{p:Nat}:∀{k:Nat},p<k->sm k f=sm k (fun i=>if i=p then 0 else f i)+f p
 |0,h=>by omega
 |k+1,h=>by
  show sm k f+f k=(sm k (fun i=>if i=p then 0 else f i)+(if k=p then 0 else f k))+f p;by_cases e:k=p
  ·rw[aO (f:=fun i=>if i=p then 0 else f i) (g:=f) (fun i hi=>if_neg (by omega)),if_pos e,<- e];grind
  ·rw[xZ (k:=k) (p:=p) (by omega),if_neg e];grind
theorem zC{P:Nat->Prop}(f:Nat->Rat):∀{k:Nat},(∃i,i<k/\P i)->∃i,i<k/\P i/\∀j,j<k->P j->f i<=f j
 |0,⟨i,hi,_⟩=>by omega
 |k+1,⟨i,hi,hp⟩=>by
  by_cases h:∃i,i<k/\P i
  ·obtain⟨m,hm,pm,lm⟩:=zC f h;by_cases c:P k/\f k<f m
   ·refine⟨k,by omega,c.1,fun j hj pj=>?_⟩;by_cases e:j=k
    ·subst e;grind
    ·have:=lm j (by omega) pj;grind
   ·refine⟨m,by omega,pm,fun j hj pj=>?_⟩;by_cases e:j=k
    ·subst e;have:¬f j<f m:=fun z=>c ⟨pj,z⟩;grind
    ·exact lm j (by omega) pj
  ·have e:i=k:=by
    by_cases e:i=k
    ·exact e
    ·exact absurd ⟨i,by omega,hp⟩ h
   subst e;refine⟨i,by omega,hp,fun j hj pj=>?_⟩;by_cases e:j=i
   ·subst e;grind
   ·exact absurd ⟨j,by omega,pj⟩ h
def cnt:Nat->(Nat->Rat)->Nat
 |0,_=>0
 |k+1,u=>cnt k u+(if u k=0 then 0 else 1)
theorem zO{u v:Nat->Rat}:∀{k:Nat},(∀i,i<k->u i=0->v i=0)->cnt k v<=cnt k u
 |0,_=>le_refl _
 |k+1,h=>by
  have h1:=zO (k:=k) fun i hi=>h i (by omega);show cnt k v+(if v k=0 then 0 else 1)<=cnt k u+(if u k=0 then 0 else 1);by_cases e:u k=0
  ·rw[if_pos e,if_pos (h k (by omega) e)];omega
  ·rw[if_neg e];split<;>omega
theorem uw{u v:Nat->Rat}:∀{k:Nat},(∀i,i<k->u i=0->v i=0)->(∃i,i<k/\v i=0/\u i≠0)->cnt k v<cnt k u
 |0,_,⟨i,hi,_⟩=>by omega
 |k+1,h,⟨i,hi,h1,h2⟩=>by
  show cnt k v+(if v k=0 then 0 else 1)<cnt k u+(if u k=0 then 0 else 1);by_cases e:i=k
  ·subst e;have:=zO (k:=i) fun j hj=>h j (by omega);rw[if_pos h1,if_neg h2];omega
  ·have:=uw (k:=k) (fun j hj=>h j (by omega)) ⟨i,by omega,h1,h2⟩;by_cases e2:u k=0
   ·rw[if_pos e2,if_pos (h k (by omega) e2)];omega
   ·rw[if_neg e2];split<;>omega
def kj:Nat->(Nat->Rat)->List Nat
 |0,_=>[]
 |k+1,u=>if u k=0 then kj k u else k::kj k u
theorem rW{u:Nat->Rat}:∀k:Nat,(kj k u).length=cnt k u
 |0=>rfl
 |k+1=>by
  show(if u k=0 then kj k u else k::kj k u).length=cnt k u+(if u k=0 then 0 else 1);split
  ·exact rW k
  ·rw[length_cons,rW k]
theorem lS{u:Nat->Rat}:∀{k i:Nat},i∈kj k u->i<k/\u i≠0
 |0,i,h=>by simp[kj]at h
 |k+1,i,h=>by
  have h':i∈(if u k=0 then kj k u else k::kj k u):=h;split at h'
  ·have:=lS h';exact⟨by omega,this.2⟩
  ·rename_i e;rcases mem_cons.mp h' with r|r
   ·subst r;exact⟨by omega,e⟩
   ·have:=lS r;exact⟨by omega,this.2⟩
theorem oy{u:Nat->Rat}:∀k:Nat,(kj k u).Nodup
 |0=>List.nodup_nil
 |k+1=>by
  show(if u k=0 then kj k u else k::kj k u).Nodup;split
  ·exact oy k
  ·exact nodup_cons.mpr ⟨fun h=>by have:=(lS h).1;omega,oy k⟩
theorem zJ{k:Nat}:∀(E:List Nat) (B:Nat->Nat->Rat) (S:List Nat),S.Nodup->(∀i∈S,i<k)->E.length<S.length->
  ∃d:Nat->Rat,(∀i,i∉S->d i=0)/\(∃i∈S,d i≠0)/\∀c∈E,sm k (fun i=>d i*B i c)=0
 |[],B,S,hn,hk,hl=>by
  cases S with
  |nil=>simp at hl
  |cons p S=>
   refine⟨fun i=>if i=p then 1 else 0,fun i hi=>if_neg fun e=>hi (by rw[e];exact mem_cons_self),⟨p,mem_cons_self,?_⟩,fun c hc=>by simp at hc⟩;show(if p=p then(1:Rat)else 0)≠0;rw[if_pos rfl];grind
 |c::E,B,S,hn,hk,hl=>by
  rw[length_cons]at hl;by_cases h:∃p∈S,B p c≠0
  ·obtain⟨p,hp,hb⟩:=h;have JS:p∉S.erase p:=fun z=>by
    rw[hn.mem_erase_iff]at z;exact z.1 rfl
   have rG:E.length<(S.erase p).length:=by rw[List.length_erase_of_mem hp];omega
   obtain⟨d,d1,⟨q,hq,dq⟩,d3⟩:=zJ E (fun i c'=>B i c'-B i c/B p c*B p c') (S.erase p) (hn.erase p) (fun i hi=>hk i (List.mem_of_mem_erase hi)) rG;have dp:d p=0:=d1 p JS;refine⟨fun i=>if i=p then-(sm k (fun i=>d i*B i c))/B p c else d i,fun i hi=>?_,⟨q,List.mem_of_mem_erase hq,?_⟩,fun c' hc=>?_⟩
   ·have e:i≠p:=fun e=>hi (by rw[e];exact hp);dsimp only;rw[if_neg e];exact d1 i fun z=>hi (List.mem_of_mem_erase z)
   ·have e:q≠p:=fun e=>JS (e▸hq);dsimp only;rw[if_neg e];exact dq
   ·dsimp only;rw[E8 (hk p hp),dp];rcases mem_cons.mp hc with e|hc
    ·subst e;have:(- (sm k (fun i=>d i*B i c'))/B p c'-0)*B p c'=- sm k (fun i=>d i*B i c'):=by grind
     rw[this];grind
    ·have h3:=d3 c' hc;have e1:sm k (fun i=>d i*(B i c'-B i c/B p c*B p c'))=sm k (fun i=>d i*B i c')+(- (B p c'/B p c))*sm k (fun i=>d i*B i c):=by
      rw[<- bD,<- dO];exact aO fun i _=>by grind
     rw[e1]at h3;grind
  ·have h':∀p∈S,B p c=0:=fun p hp=>by
    by_cases e:B p c=0
    ·exact e
    ·exact absurd ⟨p,hp,e⟩ h
   obtain⟨d,d1,d2,d3⟩:=zJ E B S hn hk (by omega);refine⟨d,d1,d2,fun c' hc=>?_⟩;rcases mem_cons.mp hc with e|hc
   ·subst e;refine i7 fun i _=>?_;by_cases m:i∈S
    ·rw[h' i m];grind
    ·rw[d1 i m];grind
   ·exact d3 c' hc
structure jx (k:Nat) (J:Nat->Prop) (E:List Nat) (B:Nat->Nat->Rat) (u:Nat->Rat):Prop where
 nn:∀i,i<k->0<=u i
 off:∀i,i<k->¬J i->u i=0
 nL:∀c∈E,sm k (fun i=>u i*B i c)=0
structure qK (k:Nat) (J:Nat->Prop) (E:List Nat) (B:Nat->Nat->Rat) (u:Nat->Rat):Prop where
 gY:jx k J E B u
 ne:∃i,i<k/\u i≠0
 alone:∀v,jx k J E B v->(∀i,i<k->u i=0->v i=0)->∃c:Rat,0<=c/\∀i,i<k->v i=c*u i
variable {a b c:Rat}
theorem F3(hc:0<c)(h:b<=a/c):b*c<=a:=by
 have:=Rat.mul_le_mul_of_nonneg_left h (le_of_lt hc);have e:c*(a/c)=a:=by grind
 rw[e]at this;grind
theorem bE(ha:0<a)(hb:0<b):0<a*b:=Rat.mul_pos ha hb
theorem cV(ha:0<=a)(hb:0<=b):0<=a*b:=Rat.mul_nonneg ha hb
variable {k:Nat} {u:Nat->Rat}
theorem vW{d:Nat->Rat}(hu:∀i,i<k->0<=u i)(hz:∀i,i<k->u i=0->d i=0)(hp:∃i,i<k/\0<d i):
  ∃l:Rat,0<l/\(∀i,i<k->0<=u i-l*d i)/\∃i,i<k/\0<d i/\u i-l*d i=0:=by
 obtain⟨m,hm,pm,lm⟩:=zC (P:=fun i=>0<d i) (fun i=>u i/d i) hp;have um:0<u m:=by
  have h1:=hu m hm;have h2:u m≠0:=fun e=>by have:=hz m hm e;grind
  grind
 refine⟨u m/d m,?_,fun i hi=>?_,m,hm,pm,by grind⟩
 ·have:0<(d m)⁻¹:=inv_pos.mpr pm;have:=bE um this;grind
 ·by_cases c:0<d i
  ·have:=F3 c (lm i hi c);grind
  ·have h1:0<u m/d m:=by
    have:0<(d m)⁻¹:=inv_pos.mpr pm;have:=bE um this;grind
   have h2:=cV (le_of_lt h1) (show 0<=- d i by grind);have:=hu i hi;grind
variable {J:Nat->Prop} {E:List Nat} {B:Nat->Nat->Rat}
theorem jx.sub{l:Rat}{d:Nat->Rat}(hu:jx k J E B u)(ho:∀i,i<k->¬J i->d i=0)(hd:∀c∈E,sm k (fun i=>d i*B i c)=0)(hn:∀i,i<k->0<=u i-l*d i):jx k J E B (fun i=>u i-l*d i):=by
 refine⟨hn,fun i hi hj=>by rw[hu.off i hi hj,ho i hi hj];grind,fun c hc=>?_⟩;have e:sm k (fun i=>(u i-l*d i)*B i c)=sm k (fun i=>u i*B i c)+(-l)*sm k (fun i=>d i*B i c):=by
  rw[<- bD,<- dO];exact aO fun i _=>by grind
 rw[e,hu.nL c hc,hd c hc];grind
theorem qK.Oy(h:qK k J E B u):cnt k u<=E.length+1:=by
 apply Nat.le_of_not_lt
 intro fu;rw[<- rW]at fu;cases hs:kj k u with
 |nil=>rw[hs]at fu;simp at fu
 |cons p S=>
  rw[hs,length_cons]at fu;have RI:=oy (u:=u) k;rw[hs]at RI;obtain⟨JS,Vx⟩:=nodup_cons.mp RI;have CV:∀i∈S,i<k/\u i≠0:=fun i hi=>lS (u:=u) (by rw[hs];exact mem_cons_of_mem _ hi);have FC:p<k/\u p≠0:=lS (u:=u) (by rw[hs];exact mem_cons_self);obtain⟨d,d1,⟨q,hq,dq⟩,d3⟩:=zJ E B S Vx (fun i hi=>(CV i hi).1) (by omega)

  have main:∀d:Nat->Rat,(∀i,i∉S->d i=0)->(∀c∈E,sm k (fun i=>d i*B i c)=0)->¬ ∃i,i∈S/\0<d i:=by
   rintro d d1 d3 ⟨q,hq,dq⟩;have hz:∀i,i<k->u i=0->d i=0:=fun i _ e=>d1 i fun z=>(CV i z).2 e;obtain⟨l,lp,h1,_⟩:=vW h.gY.nn hz ⟨q,(CV q hq).1,dq⟩;have hc:=h.gY.sub (fun i hi hj=>hz i hi (h.gY.off i hi hj)) d3 h1;obtain⟨c,_,hv⟩:=h.alone _ hc fun i hi e=>by rw[e,hz i hi e];grind
   have e1:=hv p FC.1;rw[d1 p JS]at e1;have c1:c=1:=by
    have:(c-1)*u p=0:=by grind
    rcases mul_eq_zero.mp this with e|e
    ·grind
    ·exact absurd e FC.2
   have e2:=hv q (CV q hq).1;rw[c1]at e2;have:l*d q=0:=by grind
   have:=bE lp dq;grind
  by_cases c:0<d q
  ·exact main d d1 d3 ⟨q,hq,c⟩
  ·refine main (fun i=>- d i) (fun i hi=>by rw[d1 i hi];grind) (fun c' hc=>?_) ⟨q,hq,by grind⟩;have:sm k (fun i=>- d i*B i c')=(-1)*sm k (fun i=>d i*B i c'):=by
    rw[<- bD];exact aO fun i _=>by grind
   rw[this,d3 c' hc];grind
variable {v:Nat->Rat}
def lsum (L:List (Nat->Rat)) (i:Nat):Rat:=match L with
 |[]=>0
 |v::r=>v i+lsum r i
theorem HN(L M:List (Nat->Rat))(i:Nat):lsum (L++M) i=lsum L i+lsum M i:=by
 induction L with
 |nil=>show lsum M i=0+lsum M i;grind
 |cons v L ih=>show v i+lsum (L++M) i=(v i+lsum L i)+lsum M i;rw[ih];grind
theorem qK.scale(hc:0<c)(h:qK k J E B u):qK k J E B (fun i=>c*u i):=by
 refine⟨⟨fun i hi=>cV (le_of_lt hc) (h.gY.nn i hi),fun i hi hj=>by rw[h.gY.off i hi hj];grind,fun c' ir=>?_⟩,?_,fun v hv hz=>?_⟩
 ·have:sm k (fun i=>c*u i*B i c')=c*sm k (fun i=>u i*B i c'):=by
   rw[<- bD];exact aO fun i _=>by grind
  rw[this,h.gY.nL c' ir];grind
 ·obtain⟨i,hi,cx⟩:=h.ne;refine⟨i,hi,fun e=>?_⟩;rcases mul_eq_zero.mp e with e|e
  ·grind
  ·exact cx e
 ·obtain⟨l,h0,hl⟩:=h.alone v hv fun i hi e=>hz i hi (by rw[e];grind);have ci:0<c⁻¹:=inv_pos.mpr hc;refine⟨l*c⁻¹,cV h0 (le_of_lt ci),fun i hi=>?_⟩;rw[hl i hi];grind
theorem parted:∀(m:Nat) (u:Nat->Rat),cnt k u<=m->jx k J E B u->∃L:List (Nat->Rat),(∀v∈L,qK k J E B v/\∀i,i<k->u i=0->v i=0)/\∀i,i<k->u i=lsum L i:=by
 intro m;induction m with
 |zero=>
  intro u hm hc;refine⟨[],fun v hv=>by simp at hv,fun i hi=>?_⟩;show u i=0;by_cases e:u i=0
  ·exact e
  ·have:=uw (u:=u) (v:=fun _=>0) (k:=k) (fun _ _ _=>rfl) ⟨i,hi,rfl,e⟩;omega
 |succ m ih=>
  intro u hm hc;by_cases h0:∃i,i<k/\u i≠0
  ·by_cases he:qK k J E B u
   ·refine⟨[u],fun v hv=>?_,fun i hi=>?_⟩
    ·rw[mem_singleton.mp hv];exact⟨he,fun _ _ e=>e⟩
    ·show u i=u i+0;grind
   ·
    have hx:∃v,jx k J E B v/\(∀i,i<k->u i=0->v i=0)/\¬ ∃c:Rat,0<=c/\∀i,i<k->v i=c*u i:=by
     apply Classical.byContradiction
     intro hx;apply he
     refine⟨hc,h0,fun v hv hz=>?_⟩;apply Classical.byContradiction
     intro hn;exact hx ⟨v,hv,hz,hn⟩
    obtain⟨v,hv,hz,hn⟩:=hx

    have gw:∃i,i<k/\0<u i:=by
     obtain⟨i,hi,cx⟩:=h0;have:=hc.nn i hi;exact⟨i,hi,by grind⟩
    obtain⟨q,hq,pq,lq⟩:=zC (P:=fun i=>0<u i) (fun i=>v i/u i) gw;have Va:0<=v q/u q:=by
     have h1:0<(u q)⁻¹:=inv_pos.mpr pq;have:=cV (hv.nn q hq) (le_of_lt h1);grind
    have n1:∀i,i<k->0<=v i-v q/u q*u i:=fun i hi=>by
     by_cases c:0<u i
     ·have:=F3 c (lq i hi c);grind
     ·have:=hc.nn i hi;have e:u i=0:=by grind
      rw[e,hz i hi e];grind
    have c1:=hv.sub (l:=v q/u q) hc.off hc.nL n1;generalize Vz:v q/u q=mu at *;have z1:∀i,i<k->u i=0->v i-mu*u i=0:=fun i hi e=>by rw[e,hz i hi e];grind
    have UQ:v q-mu*u q=0:=by rw[<- Vz];grind
    have UR:∃i,i<k/\0<v i-mu*u i:=by
     apply Classical.byContradiction
     intro yW;apply hn
     refine⟨mu,Va,fun i hi=>?_⟩;have a1:=n1 i hi;have a2:¬0<v i-mu*u i:=fun z=>yW ⟨i,hi,z⟩;grind
    have k1:=uw (u:=u) (v:=fun i=>v i-mu*u i) (k:=k) z1 ⟨q,hq,UQ,by grind⟩

    obtain⟨l,lp,n2,s,hs,ps,es⟩:=vW hc.nn z1 UR;have c2:=hc.sub c1.off c1.nL n2;have z2:∀i,i<k->u i=0->u i-l*(v i-mu*u i)=0:=fun i hi e=>by rw[z1 i hi e,e];grind
    have us:u s≠0:=fun e=>by have:=z1 s hs e;grind
    have k2:=uw (u:=u) (v:=fun i=>u i-l*(v i-mu*u i)) (k:=k) z2 ⟨s,hs,es,us⟩;obtain⟨L1,a1,b1⟩:=ih _ (by omega) c1;obtain⟨L2,a2,b2⟩:=ih _ (by omega) c2;have sc:∀(L:List (Nat->Rat)) (i:Nat),lsum (L.map fun w=>fun i=>l*w i) i=l*lsum L i:=fun L i=>by
     induction L with
     |nil=>show(0:Rat)=l*0;grind
     |cons w L ih=>show l*w i+lsum (L.map fun w=>fun i=>l*w i) i=l*(w i+lsum L i);rw[ih];grind
    refine⟨L1.map (fun w=>fun i=>l*w i)++L2,fun w hw=>?_,fun i hi=>?_⟩
    ·rcases mem_append.mp hw with h|h
     ·obtain⟨w',yQ,rfl⟩:=mem_map.mp h;obtain⟨e1,e2⟩:=a1 w' yQ;exact⟨e1.scale lp,fun i hi e=>by
       show l*w' i=0;rw[e2 i hi (z1 i hi e)];grind⟩
     ·obtain⟨e1,e2⟩:=a2 w h;exact⟨e1,fun i hi e=>e2 i hi (z2 i hi e)⟩
    ·rw[HN,sc,<- b1 i hi,<- b2 i hi];grind
  ·refine⟨[],fun v hv=>by simp at hv,fun i hi=>?_⟩;show u i=0;by_cases e:u i=0
   ·exact e
   ·exact absurd ⟨i,hi,e⟩ h0
inductive Kn where
 |eq|le|lt
deriving DecidableEq
structure Rw where
 kd:Kn
 a:Nat->Rat
 b:Rat
 w:Nat->Rat
def rel:Kn->Rat->Rat->Prop
 | .eq,x,y=>x=y
 | .le,x,y=>x<=y
 | .lt,x,y=>x<y
def vl (n:Nat) (r:Rw) (x:Nat->Rat):Rat:=sm (n+1) fun c=>r.a c*x c
def Hd (n:Nat) (x:Nat->Rat) (r:Rw):Prop:=rel r.kd (vl n r x) r.b
def uo (J:Nat->Bool) (r:Rw) (i:Nat):Rat:=if J i=true then r.w i else 0
structure Sg (n k j:Nat) (J St:Nat->Bool) (E:List Nat) (B:Nat->Nat->Rat) (β:Nat->Rat) (R:List Rw):Prop where
 jn:j<=n
 zero:∀r∈R,∀c,c<j->r.a c=0
 ej:∀c∈E,c<j
 wW:∀r∈R,r.kd=.eq->∀i,i<k->J i=true->r.w i=0
 nn:∀r∈R,r.kd≠.eq->∀i,i<k->J i=true->0<=r.w i
 pos:∀r∈R,r.kd≠.eq->∃i,i<k/\J i=true/\0<r.w i
 st:∀r∈R,r.kd≠.eq->(r.kd=.lt↔∃i,i<k/\J i=true/\St i=true/\0<r.w i)
 va:∀r∈R,r.kd≠.eq->∀c,c<=n->r.a c=sm k fun i=>uo J r i*B i c
 vb:∀r∈R,r.kd≠.eq->r.b=sm k fun i=>uo J r i*β i
 all:∀u,qK k (fun i=>J i=true) E B u->∃r∈R,r.kd≠.eq/\∃c:Rat,0<c/\∀i,i<k->J i=true->r.w i=c*u i
variable {β:Nat->Rat} {n:Nat}
def gp (n:Nat) (B:Nat->Nat->Rat) (β:Nat->Rat) (x:Nat->Rat) (i:Nat):Rat:=sm (n+1) (fun c=>B i c*x c)-β i
def Fx (n k:Nat) (B:Nat->Nat->Rat) (β:Nat->Rat) (x u:Nat->Rat):Rat:=sm k fun i=>u i*gp n B β x i
variable {x:Nat->Rat}
theorem GS(p q:Rat):Fx n k B β x (fun i=>p*u i+q*v i)=p*Fx n k B β x u+q*Fx n k B β x v:=by
 unfold Fx;rw[<- bD,<- bD,<- dO];exact aO fun i _=>by grind
theorem IY(h:∀i,i<k->v i=c*u i):Fx n k B β x v=c*Fx n k B β x u:=by
 unfold Fx;rw[<- bD];exact aO fun i hi=>by rw[h i hi];grind
variable {J:Nat->Bool} {r:Rw}
theorem Aa(ha:∀c,c<=n->r.a c=sm k fun i=>uo J r i*B i c)(hb:r.b=sm k fun i=>uo J r i*β i):Fx n k B β x (uo J r)=vl n r x-r.b:=by
 have e1:vl n r x=sm k (fun i=>uo J r i*sm (n+1) (fun c=>B i c*x c)):=by
  unfold vl;rw[aO (g:=fun c=>sm k fun i=>uo J r i*B i c*x c) (fun c hc=>by
   rw[ha c (by omega)];rw[show(sm k fun i=>uo J r i*B i c)*x c=x c*(sm k fun i=>uo J r i*B i c) by grind,<- bD];exact aO fun i _=>by grind)]
  rw[<- AU];refine aO fun i _=>?_;rw[<- bD];exact aO fun c _=>by grind
 rw[e1,hb];unfold Fx gp;have:(sm k fun i=>uo J r i*(sm (n+1) (fun c=>B i c*x c)-β i))=(sm k fun i=>uo J r i*sm (n+1) (fun c=>B i c*x c))+(-1)*sm k fun i=>uo J r i*β i:=by
  rw[<- bD,<- dO];exact aO fun i _=>by grind
 rw[this];grind
variable {j:Nat}
variable {R:List Rw} {St:Nat->Bool} in
theorem qM(S:Sg n k j J St E B β R)(hr:r∈R)(hk:r.kd≠.eq):jx k (fun i=>J i=true) E B (uo J r):=by
 refine⟨fun i hi=>?_,fun i hi hj=>?_,fun c hc=>?_⟩
 ·unfold uo;split
  ·exact S.nn r hr hk i hi (by assumption)
  ·grind
 ·exact if_neg hj
 ·have h:=S.va r hr hk c (by have:=S.ej c hc;have:=S.jn;omega);rw[<- h];exact S.zero r hr c (S.ej c hc)
variable {R:List Rw} {St:Nat->Bool} in
theorem Dp(S:Sg n k j J St E B β R)(hx:∀r∈R,r.kd≠.eq->Hd n x r)(hu:jx k (fun i=>J i=true) E B u):
  Fx n k B β x u<=0/\((∃i,i<k/\St i=true/\0<u i)->Fx n k B β x u<0):=by
 obtain⟨L,h1,h2⟩:=parted (cnt k u) u (le_refl _) hu;have each:∀v∈L,Fx n k B β x v<=0/\((∃i,i<k/\St i=true/\0<v i)->Fx n k B β x v<0):=by
  intro v hv;obtain⟨he,hz⟩:=h1 v hv;obtain⟨r,hr,hk,c,hc,hw⟩:=S.all v he;have hd:=hx r hr hk;have e1:=Aa (x:=x) (S.va r hr hk) (S.vb r hr hk);have e2:Fx n k B β x (uo J r)=c*Fx n k B β x v:=IY fun i hi=>by
   unfold uo;by_cases hj:J i=true
   ·rw[if_pos hj,hw i hi hj]
   ·rw[if_neg hj,he.gY.off i hi hj];grind
  have ci:0<c⁻¹:=inv_pos.mpr hc;have e3:Fx n k B β x v=c⁻¹*(vl n r x-r.b):=by rw[<- e1,e2];grind
  unfold Hd at hd;constructor
  ·have:vl n r x-r.b<=0:=by
    cases Ob:r.kd with
    |eq=>exact absurd Ob hk
    |le=>rw[Ob]at hd;have:vl n r x<=r.b:=hd;grind
    |lt=>rw[Ob]at hd;have:vl n r x<r.b:=hd;grind
   have:=cV (le_of_lt ci) (show 0<=-(vl n r x-r.b) by grind);rw[e3];grind
  ·rintro⟨i,hi,hs,hp⟩;have hj:J i=true:=by
    by_cases hj:J i=true
    ·exact hj
    ·have:=he.gY.off i hi hj;grind
   have hl:r.kd=.lt:=(S.st r hr hk).mpr ⟨i,hi,hj,hs,by rw[hw i hi hj];exact bE hc hp⟩;rw[hl]at hd;have dF:vl n r x<r.b:=hd;have:=bE ci (show 0 < -(vl n r x-r.b) by grind);rw[e3];grind
 have MB:∀L:List (Nat->Rat),Fx n k B β x (lsum L)=L.foldr (fun v s=>Fx n k B β x v+s) 0:=by
  intro L;induction L with
  |nil=>exact i7 fun i _=>by show(0:Rat)*_=0;grind
  |cons v L ih=>
   show _=Fx n k B β x v+L.foldr (fun v s=>Fx n k B β x v+s) 0;rw[<- ih];have:=GS (n:=n) (k:=k) (B:=B) (β:=β) (x:=x) (u:=v) (v:=lsum L) 1 1;rw[show Fx n k B β x (lsum (v::L))=Fx n k B β x (fun i=>1*v i+1*lsum L i)from aO fun i _=>by
    show(v i+lsum L i)*_=(1*v i+1*lsum L i)*_;grind]
   rw[this];grind
 have eu:Fx n k B β x u=Fx n k B β x (lsum L):=aO fun i hi=>by rw[h2 i hi]
 rw[eu,MB];have Rx:∀L:List (Nat->Rat),(∀v∈L,Fx n k B β x v<=0)->L.foldr (fun v s=>Fx n k B β x v+s) 0<=0:=by
  intro L;induction L with
  |nil=>intro _;show(0:Rat)<=0;grind
  |cons v L ih=>
   intro h;have a:=h v mem_cons_self;have b:=ih fun q hq=>h q (mem_cons_of_mem _ hq);show Fx n k B β x v+L.foldr (fun v s=>Fx n k B β x v+s) 0<=0;grind
 refine⟨Rx L fun v hv=>(each v hv).1,?_⟩;rintro⟨i,hi,hs,hp⟩;rw[h2 i hi]at hp;have Rl:∀v∈L,0<=v i:=fun v hv=>(h1 v hv).1.gY.nn i hi;clear eu MB;clear h2 hu;induction L with
 |nil=>exact absurd hp (by show ¬(0:Rat)<0;grind)
 |cons v L ih=>
  have a:=(each v mem_cons_self).1;have a':=Rl v mem_cons_self;have b:=Rx L fun q hq=>(each q (mem_cons_of_mem _ hq)).1;show Fx n k B β x v+L.foldr (fun v s=>Fx n k B β x v+s) 0<0;by_cases c:0<v i
  ·have:=(each v mem_cons_self).2 ⟨i,hi,hs,c⟩;grind
  ·have gc:0<v i+lsum L i:=hp;have:=ih (fun q hq=>h1 q (mem_cons_of_mem _ hq)) (fun q hq=>each q (mem_cons_of_mem _ hq)) (by grind) (fun q hq=>Rl q (mem_cons_of_mem _ hq));grind
structure Jd (up lo r:Rw) (j:Nat):Prop where
 kd:r.kd=if up.kd=.lt\/lo.kd=.lt then .lt else .le
 ex:∃μ:Rat,0<μ/\(∀c,r.a c=μ*(-lo.a j*up.a c+up.a j*lo.a c))/\r.b=μ*(-lo.a j*up.b+up.a j*lo.b)/\∀i,r.w i=μ*(-lo.a j*up.w i+up.a j*lo.w i)
variable {R':List Rw}
variable {R:List Rw} in
structure Pairs (k:Nat) (J:Nat->Bool) (j most:Nat) (R R':List Rw):Prop where
 oJ:∀r∈R,r.kd=.eq->r.a j=0
 gg:∀r∈R',(r∈R/\r.a j=0)\/∃up∈R,∃lo∈R,0<up.a j/\lo.a j<0/\Jd up lo r j
 keep:∀r∈R,r.a j=0->∃r'∈R',r'=r
 join:∀up∈R,∀lo∈R,0<up.a j->lo.a j<0->cnt k (fun i=>uo J up i+uo J lo i)<=most->∃r∈R',Jd up lo r j
theorem JN{up lo:Rw}{μ:Rat}(hw:∀i,r.w i=μ*(-lo.a j*up.w i+up.a j*lo.w i))(i:Nat):uo J r i=μ*(-lo.a j*uo J up i+up.a j*uo J lo i):=by
 unfold uo;split
 ·exact hw i
 ·grind
variable {St:Nat->Bool} {R:List Rw} in
theorem Sg.pairs(S:Sg n k j J St E B β R)(hj:j<n)(P:Pairs k J j (E.length+2) R R'):Sg n k (j+1) J St (j::E) B β R':=by
 have Aj:∀{up lo:Rw},up∈R->lo∈R->up.kd≠.eq->lo.kd≠.eq->0<up.a j->lo.a j<0->jx k (fun i=>J i=true) (j::E) B (fun i=>-lo.a j*uo J up i+up.a j*uo J lo i):=by
  intro up lo hu hl ku kl pu pl;have cu:=qM S hu ku;have cl:=qM S hl kl;refine⟨fun i hi=>?_,fun i hi h=>?_,fun c hc=>?_⟩
  ·have a:=cV (show 0<=-lo.a j by grind) (cu.nn i hi);have b:=cV (le_of_lt pu) (cl.nn i hi);grind
  ·rw[cu.off i hi h,cl.off i hi h];grind
  ·have e:sm k (fun i=>(-lo.a j*uo J up i+up.a j*uo J lo i)*B i c)=-lo.a j*sm k (fun i=>uo J up i*B i c)+up.a j*sm k (fun i=>uo J lo i*B i c):=by
    rw[<- bD,<- bD,<- dO];exact aO fun i _=>by grind
   rw[e];rcases mem_cons.mp hc with h|h
   ·subst h;rw[<- S.va up hu ku c (by omega),<- S.va lo hl kl c (by omega)];grind
   ·rw[cu.nL c h,cl.nL c h];grind
 have kq:∀{r:Rw},r∈R->r.a j≠0->r.kd≠.eq:=fun hr h e=>h (P.oJ _ hr e);have RA:∀{up lo r:Rw},Jd up lo r j->r.kd≠.eq:=fun h=>by rw[h.kd];split<;>simp
 refine⟨by omega,fun r hr c hc=>?_,fun c hc=>?_,fun r hr hk i hi hj=>?_,fun r hr hk i hi hj=>?_,fun r hr hk=>?_,fun r hr hk=>?_,fun r hr hk c hc=>?_,fun r hr hk=>?_,fun u hu=>?_⟩
 ·rcases P.gg r hr with⟨h,h0⟩|⟨up,gw,lo,gE,pu,pl,hd⟩
  ·by_cases e:c=j
   ·rw[e];exact h0
   ·exact S.zero r h c (by omega)
  ·obtain⟨μ,_,ea,_⟩:=hd.ex;rw[ea c];by_cases e:c=j
   ·rw[e];grind
   ·rw[S.zero up gw c (by omega),S.zero lo gE c (by omega)];grind
 ·rcases mem_cons.mp hc with h|h
  ·omega
  ·have:=S.ej c h;omega
 ·rcases P.gg r hr with⟨h,h0⟩|⟨up,gw,lo,gE,pu,pl,hd⟩
  ·exact S.wW r h hk i hi hj
  ·exact absurd hk (RA hd)
 ·rcases P.gg r hr with⟨h,h0⟩|⟨up,gw,lo,gE,pu,pl,hd⟩
  ·exact S.nn r h hk i hi hj
  ·obtain⟨μ,mp,_,_,ew⟩:=hd.ex;rw[ew i];have a:=cV (show 0<=-lo.a j by grind) (S.nn up gw (kq gw (by grind)) i hi hj);have b:=cV (le_of_lt pu) (S.nn lo gE (kq gE (by grind)) i hi hj);exact cV (le_of_lt mp) (by grind)
 ·rcases P.gg r hr with⟨h,h0⟩|⟨up,gw,lo,gE,pu,pl,hd⟩
  ·exact S.pos r h hk
  ·obtain⟨μ,mp,_,_,ew⟩:=hd.ex;obtain⟨i,hi,hj,hp⟩:=S.pos up gw (kq gw (by grind));refine⟨i,hi,hj,?_⟩;rw[ew i];have a:=bE (show 0 < -lo.a j by grind) hp;have b:=cV (le_of_lt pu) (S.nn lo gE (kq gE (by grind)) i hi hj);exact bE mp (by grind)
 ·rcases P.gg r hr with⟨h,h0⟩|⟨up,gw,lo,gE,pu,pl,hd⟩
  ·exact S.st r h hk
  ·obtain⟨μ,mp,_,_,ew⟩:=hd.ex;have su:=S.st up gw (kq gw (by grind));have sl:=S.st lo gE (kq gE (by grind));have nu:=S.nn up gw (kq gw (by grind));have nl:=S.nn lo gE (kq gE (by grind));constructor
   ·intro e;rw[hd.kd]at e;split at e
    ·rename_i h;rcases h with h|h
     ·obtain⟨i,hi,hj,hs,hp⟩:=su.mp h;refine⟨i,hi,hj,hs,?_⟩;rw[ew i];have a:=bE (show 0 < -lo.a j by grind) hp;have b:=cV (le_of_lt pu) (nl i hi hj);exact bE mp (by grind)
     ·obtain⟨i,hi,hj,hs,hp⟩:=sl.mp h;refine⟨i,hi,hj,hs,?_⟩;rw[ew i];have a:=cV (show 0<=-lo.a j by grind) (nu i hi hj);have b:=bE pu hp;exact bE mp (by grind)
    ·cases e
   ·rintro⟨i,hi,hj,hs,hp⟩;rw[hd.kd,if_pos];by_cases c:0<up.w i
    ·exact .inl (su.mpr ⟨i,hi,hj,hs,c⟩)
    ·right
     refine sl.mpr ⟨i,hi,hj,hs,?_⟩;have Vn:up.w i=0:=by have:=nu i hi hj;grind
     by_cases c2:0<lo.w i
     ·exact c2
     ·have VG:lo.w i=0:=by have:=nl i hi hj;grind
      rw[ew i,Vn,VG]at hp;grind
 ·rcases P.gg r hr with⟨h,h0⟩|⟨up,gw,lo,gE,pu,pl,hd⟩
  ·exact S.va r h hk c hc
  ·obtain⟨μ,mp,ea,_,ew⟩:=hd.ex;rw[ea c,S.va up gw (kq gw (by grind)) c hc,S.va lo gE (kq gE (by grind)) c hc];rw[<- bD,<- bD,<- dO,<- bD];exact aO fun i _=>by rw[JN ew i];grind
 ·rcases P.gg r hr with⟨h,h0⟩|⟨up,gw,lo,gE,pu,pl,hd⟩
  ·exact S.vb r h hk
  ·obtain⟨μ,mp,_,eb,ew⟩:=hd.ex;rw[eb,S.vb up gw (kq gw (by grind)),S.vb lo gE (kq gE (by grind))];rw[<- bD,<- bD,<- dO,<- bD];exact aO fun i _=>by rw[JN ew i];grind
 ·
  have Oy:=hu.Oy;rw[length_cons]at Oy;have VQ:jx k (fun i=>J i=true) E B u:=⟨hu.gY.nn,hu.gY.off,fun c hc=>hu.gY.nL c (mem_cons_of_mem _ hc)⟩;obtain⟨L,h1,h2⟩:=parted (cnt k u) u (le_refl _) VQ

  let V:(Nat->Rat)->Rat:=fun v=>sm k fun i=>v i*B i j;have rowOf:∀v∈L,∃r∈R,r.kd≠.eq/\∃c:Rat,0<c/\(∀i,i<k->uo J r i=c*v i)/\r.a j=c*V v:=by
   intro v hv;obtain⟨he,hz⟩:=h1 v hv;obtain⟨r,hr,hk,c,hc,hw⟩:=S.all v he;have e:∀i,i<k->uo J r i=c*v i:=fun i hi=>by
    unfold uo;by_cases hj:J i=true
    ·rw[if_pos hj,hw i hi hj]
    ·rw[if_neg hj,he.gY.off i hi hj];grind
   refine⟨r,hr,hk,c,hc,e,?_⟩;rw[S.va r hr hk j (by omega)];show _=c*sm k fun i=>v i*B i j;rw[<- bD];exact aO fun i hi=>by rw[e i hi];grind
  by_cases hz:∃v∈L,V v=0
  ·obtain⟨v,hv,h0⟩:=hz;obtain⟨r,hr,hk,c,hc,hw,ha⟩:=rowOf v hv;obtain⟨he,U9⟩:=h1 v hv;obtain⟨l,l0,hl⟩:=hu.alone v ⟨he.gY.nn,he.gY.off,fun c' ir=>by
    rcases mem_cons.mp ir with h|h
    ·subst h;exact h0
    ·exact he.gY.nL c' h⟩ U9
   have lp:0<l:=by
    obtain⟨i,hi,cx⟩:=he.ne;rcases Rat.le_iff_lt_or_eq.mp l0 with h|h
    ·exact h
    ·exact absurd (by rw[hl i hi,<- h];grind) cx
   obtain⟨r',cG,e⟩:=P.keep r hr (by rw[ha,h0];grind);subst e;refine⟨r',cG,hk,c*l,bE hc lp,fun i hi hj=>?_⟩;have:=hw i hi;unfold uo at this;rw[if_pos hj,hl i hi]at this;rw[this];grind
  ·
   have TK:∀L:List (Nat->Rat),V (lsum L)=L.foldr (fun v s=>V v+s) 0:=by
    intro L;induction L with
    |nil=>exact i7 fun i _=>by show(0:Rat)*_=0;grind
    |cons v L ih=>
     show _=V v+L.foldr (fun v s=>V v+s) 0;rw[<- ih];show(sm k fun i=>(v i+lsum L i)*B i j)=(sm k fun i=>v i*B i j)+sm k fun i=>lsum L i*B i j;rw[<- dO];exact aO fun i _=>by grind
   have MB:L.foldr (fun v s=>V v+s) 0=0:=by
    rw[<- TK];have:=hu.gY.nL j mem_cons_self;rw[<- this];exact aO fun i hi=>by rw[h2 i hi]
   have SN:L≠[]:=by
    intro e;obtain⟨i,hi,cx⟩:=hu.ne;apply cx
    rw[h2 i hi,e];rfl
   have nz:∀v∈L,V v≠0:=fun v hv h=>hz ⟨v,hv,h⟩;have yU:∃v∈L,0<V v:=by
    apply Classical.byContradiction
    intro yW;have neg:∀v∈L,V v<0:=fun v hv=>by
     have a:=nz v hv;have b:¬0<V v:=fun z=>yW ⟨v,hv,z⟩;grind
    have:∀M:List (Nat->Rat),M≠[]->(∀v∈M,V v<0)->M.foldr (fun v s=>V v+s) 0<0:=by
     intro M;induction M with
     |nil=>intro h;exact absurd rfl h
     |cons v M ih=>
      intro _ h;have a:=h v mem_cons_self;show V v+M.foldr (fun v s=>V v+s) 0<0;by_cases e:M=[]
      ·subst e;show V v+0<0;grind
      ·have:=ih e fun q hq=>h q (mem_cons_of_mem _ hq);grind
    have:=this L SN neg;grind
   have HY:∃v∈L,V v<0:=by
    apply Classical.byContradiction
    intro yW;have neg:∀v∈L,0<V v:=fun v hv=>by
     have a:=nz v hv;have b:¬V v<0:=fun z=>yW ⟨v,hv,z⟩;grind
    have:∀M:List (Nat->Rat),M≠[]->(∀v∈M,0<V v)->0<M.foldr (fun v s=>V v+s) 0:=by
     intro M;induction M with
     |nil=>intro h;exact absurd rfl h
     |cons v M ih=>
      intro _ h;have a:=h v mem_cons_self;show 0<V v+M.foldr (fun v s=>V v+s) 0;by_cases e:M=[]
      ·subst e;show 0<V v+0;grind
      ·have:=ih e fun q hq=>h q (mem_cons_of_mem _ hq);grind
    have:=this L SN neg;grind
   obtain⟨p,hp,pp⟩:=yU;obtain⟨q,hq,qn⟩:=HY;obtain⟨up,gw,ku,cu,WN,wu,au⟩:=rowOf p hp;obtain⟨lo,gE,kl,cl,WO,wl,al⟩:=rowOf q hq;have pu:0<up.a j:=by rw[au];exact bE WN pp
   have pl:lo.a j<0:=by
    have:=bE WO (show 0 < - V q by grind);rw[al];grind
   have cj:=Aj gw gE ku kl pu pl;have sup:∀i,i<k->u i=0->-lo.a j*uo J up i+up.a j*uo J lo i=0:=fun i hi e=>by
    rw[wu i hi,wl i hi,(h1 p hp).2 i hi e,(h1 q hq).2 i hi e];grind
   have TJ:∀i,i<k->u i=0->uo J up i+uo J lo i=0:=fun i hi e=>by
    rw[wu i hi,wl i hi,(h1 p hp).2 i hi e,(h1 q hq).2 i hi e];grind
   obtain⟨l,l0,hl⟩:=hu.alone _ cj sup;have hcnt:=zO (k:=k) TJ;obtain⟨r,hr,hd⟩:=P.join up gw lo gE pu pl (by omega);obtain⟨μ,mp,_,_,ew⟩:=hd.ex;have lp:0<l:=by
    rcases Rat.le_iff_lt_or_eq.mp l0 with h|h
    ·exact h
    ·exfalso;obtain⟨i,hi,hj,hp⟩:=S.pos up gw ku;have e:=hl i hi;rw[<- h]at e;have a:=bE (show 0 < -lo.a j by grind) hp;have b:=cV (le_of_lt pu) (S.nn lo gE kl i hi hj);unfold uo at e;rw[if_pos hj,if_pos hj]at e;grind
   refine⟨r,hr,RA hd,μ*l,bE mp lp,fun i hi hj=>?_⟩;have e:=hl i hi;unfold uo at e;rw[if_pos hj,if_pos hj]at e;rw[ew i,e];grind
structure Wo (q r r':Rw) (j:Nat):Prop where
 kd:r'.kd=r.kd
 ex:∃μ:Rat,0<μ/\(∀c,r'.a c=μ*(r.a c-r.a j/q.a j*q.a c))/\r'.b=μ*(r.b-r.a j/q.a j*q.b)/\∀i,r'.w i=μ*(r.w i-r.a j/q.a j*q.w i)
variable {R:List Rw} in
structure DG (j:Nat) (q:Rw) (R R':List Rw):Prop where
 mem:q∈R
 eq:q.kd=.eq
 ne:q.a j≠0
 gg:∀r'∈R',∃r∈R,Wo q r r' j
 to:∀r∈R,r≠q->∃r'∈R',Wo q r r' j
variable {R:List Rw} {St:Nat->Bool} in
theorem Sg.Qx{q:Rw}(S:Sg n k j J St E B β R)(hj:j<n)(G:DG j q R R'):
  Sg n k (j+1) J St E (fun i c=>B i c-B i j/q.a j*q.a c) (fun i=>β i-B i j/q.a j*q.b) R':=by
 have q0:∀i,i<k->J i=true->q.w i=0:=S.wW q G.mem G.eq;have wu:∀{r r':Rw} {μ:Rat},(∀i,r'.w i=μ*(r.w i-r.a j/q.a j*q.w i))->∀i,i<k->uo J r' i=μ*uo J r i:=by
  intro r r' μ h i hi;unfold uo;by_cases hj:J i=true
  ·rw[if_pos hj,if_pos hj,h i,q0 i hi hj];grind
  ·rw[if_neg hj,if_neg hj];grind
 have ww:∀{r r':Rw} {μ:Rat},(∀i,r'.w i=μ*(r.w i-r.a j/q.a j*q.w i))->∀i,i<k->J i=true->r'.w i=μ*r.w i:=by
  intro r r' μ h i hi hj;rw[h i,q0 i hi hj];grind
 refine⟨by omega,fun r' cG c hc=>?_,fun c hc=>?_,fun r' cG hk i hi hj=>?_,fun r' cG hk i hi hj=>?_,fun r' cG hk=>?_,fun r' cG hk=>?_,fun r' cG hk c hc=>?_,fun r' cG hk=>?_,fun u hu=>?_⟩
 ·obtain⟨r,hr,W⟩:=G.gg r' cG;obtain⟨μ,_,ea,_⟩:=W.ex;rw[ea c];by_cases e:c=j
  ·rw[e];have:r.a j/q.a j*q.a j=r.a j:=by have:=G.ne;grind
   rw[this];grind
  ·rw[S.zero r hr c (by omega),S.zero q G.mem c (by omega)];grind
 ·have:=S.ej c hc;omega
 ·obtain⟨r,hr,W⟩:=G.gg r' cG;obtain⟨μ,mp,ea,eb,ew⟩:=W.ex;rw[ww ew i hi hj,S.wW r hr (by rw[<- W.kd];exact hk) i hi hj];grind
 ·obtain⟨r,hr,W⟩:=G.gg r' cG;obtain⟨μ,mp,ea,eb,ew⟩:=W.ex;rw[ww ew i hi hj];exact cV (le_of_lt mp) (S.nn r hr (by rw[<- W.kd];exact hk) i hi hj)
 ·obtain⟨r,hr,W⟩:=G.gg r' cG;obtain⟨μ,mp,ea,eb,ew⟩:=W.ex;obtain⟨i,hi,hj,hp⟩:=S.pos r hr (by rw[<- W.kd];exact hk);exact⟨i,hi,hj,by rw[ww ew i hi hj];exact bE mp hp⟩
 ·obtain⟨r,hr,W⟩:=G.gg r' cG;obtain⟨μ,mp,ea,eb,ew⟩:=W.ex;rw[W.kd,S.st r hr (by rw[<- W.kd];exact hk)];constructor
  ·rintro⟨i,hi,hj,hs,hp⟩;exact⟨i,hi,hj,hs,by rw[ww ew i hi hj];exact bE mp hp⟩
  ·rintro⟨i,hi,hj,hs,hp⟩;refine⟨i,hi,hj,hs,?_⟩;rw[ww ew i hi hj]at hp;have nn:=S.nn r hr (by rw[<- W.kd];exact hk) i hi hj;by_cases c:0<r.w i
   ·exact c
   ·have:r.w i=0:=by grind
    rw[this]at hp;grind
 ·obtain⟨r,hr,W⟩:=G.gg r' cG;obtain⟨μ,mp,ea,eb,ew⟩:=W.ex;have kQ:r.kd≠.eq:=by rw[<- W.kd];exact hk
  rw[ea c,S.va r hr kQ c hc,S.va r hr kQ j (by omega)];rw[aO (f:=fun i=>uo J r' i*(B i c-B i j/q.a j*q.a c)) (g:=fun i=>μ*(uo J r i*B i c)+(-(μ/q.a j*q.a c))*(uo J r i*B i j)) (fun i hi=>by rw[wu ew i hi];grind)];rw[dO,bD,bD];grind
 ·obtain⟨r,hr,W⟩:=G.gg r' cG;obtain⟨μ,mp,ea,eb,ew⟩:=W.ex;have kQ:r.kd≠.eq:=by rw[<- W.kd];exact hk
  rw[eb,S.vb r hr kQ,S.va r hr kQ j (by omega)];rw[aO (f:=fun i=>uo J r' i*(β i-B i j/q.a j*q.b)) (g:=fun i=>μ*(uo J r i*β i)+(-(μ/q.a j*q.b))*(uo J r i*B i j)) (fun i hi=>by rw[wu ew i hi];grind)];rw[dO,bD,bD];grind
 ·have same:∀v,jx k (fun i=>J i=true) E (fun i c=>B i c-B i j/q.a j*q.a c) v↔jx k (fun i=>J i=true) E B v:=by
   intro v;have e:∀c∈E,(sm k fun i=>v i*(B i c-B i j/q.a j*q.a c))=sm k fun i=>v i*B i c:=fun c hc=>by
    rw[S.zero q G.mem c (S.ej c hc)];exact aO fun i _=>by grind
   exact⟨fun h=>⟨h.nn,h.off,fun c hc=>by rw[<- e c hc];exact h.nL c hc⟩,fun h=>⟨h.nn,h.off,fun c hc=>by rw[e c hc];exact h.nL c hc⟩⟩
  obtain⟨r,hr,hk,c,hc,hw⟩:=S.all u ⟨(same u).mp hu.gY,hu.ne,fun v hv=>hu.alone v ((same v).mpr hv)⟩;obtain⟨r',cG,W⟩:=G.to r hr (fun e=>hk (by rw[e];exact G.eq));obtain⟨μ,mp,ea,eb,ew⟩:=W.ex;exact⟨r',cG,by rw[W.kd];exact hk,μ*c,bE mp hc,fun i hi hj=>by rw[ww ew i hi hj,hw i hi hj];grind⟩
def rest (n:Nat) (r:Rw) (x:Nat->Rat) (j:Nat):Rat:=sm (n+1) fun c=>if c=j then 0 else r.a c*x c
def Nm (n:Nat) (r:Rw) (x:Nat->Rat) (j:Nat):Rat:=(r.b-rest n r x j)/r.a j
theorem oq(hj:j<=n):vl n r x=rest n r x j+r.a j*x j:=xZ (by omega)
def put (x:Nat->Rat) (j:Nat) (v:Rat):Nat->Rat:=fun c=>if c=j then v else x c
variable {v:Rat}
theorem Hj:rest n r (put x j v) j=rest n r x j:=aO fun c _=>by
 unfold put;split<;>rfl
theorem nK(hj:j<=n):vl n r (put x j v)=rest n r x j+r.a j*v:=by
 rw[oq hj,Hj];unfold put;rw[if_pos rfl]
theorem Ej(h:r.a j=0):rest n r x j=vl n r x:=aO fun c _=>by
 by_cases e:c=j
 ·rw[if_pos e,e,h];grind
 ·rw[if_neg e]
theorem zb(hj:j<=n)(h:r.a j=0):Hd n (put x j v) r↔Hd n x r:=by
 unfold Hd;rw[nK hj,h,Ej h,show vl n r x+0*v=vl n r x by grind]
theorem sU(h:r.a j≠0):r.b=rest n r x j+r.a j*Nm n r x j:=by unfold Nm;grind
theorem Co(hj:j<=n)(h:0<r.a j):vl n r (put x j v)<=r.b↔v<=Nm n r x j:=by
 rw[nK hj,sU (n:=n) (x:=x) (j:=j) (r:=r) (by grind)];constructor
 ·intro z;have z':r.a j*v<=r.a j*Nm n r x j:=by grind
  exact Rat.le_of_mul_le_mul_left z' h
 ·intro z;have:=Rat.mul_le_mul_of_nonneg_left z (le_of_lt h);grind
theorem Cn(hj:j<=n)(h:0<r.a j):vl n r (put x j v)<r.b↔v<Nm n r x j:=by
 rw[nK hj,sU (n:=n) (x:=x) (j:=j) (r:=r) (by grind)];constructor
 ·intro z;have z':r.a j*v<r.a j*Nm n r x j:=by grind
  exact Rat.lt_of_mul_lt_mul_left z' (le_of_lt h)
 ·intro z;have:=bE h (show 0<Nm n r x j-v by grind);grind
theorem lo_le(hj:j<=n)(h:r.a j<0):vl n r (put x j v)<=r.b↔Nm n r x j<=v:=by
 rw[nK hj,sU (n:=n) (x:=x) (j:=j) (r:=r) (by grind)];constructor
 ·intro z;have z': -r.a j*Nm n r x j<=-r.a j*v:=by grind
  exact Rat.le_of_mul_le_mul_left z' (by grind)
 ·intro z;have:=Rat.mul_le_mul_of_nonneg_left z (show 0<=-r.a j by grind);grind
theorem CO(hj:j<=n)(h:r.a j<0):vl n r (put x j v)<r.b↔Nm n r x j<v:=by
 rw[nK hj,sU (n:=n) (x:=x) (j:=j) (r:=r) (by grind)];constructor
 ·intro z;have z': -r.a j*Nm n r x j < -r.a j*v:=by grind
  exact Rat.lt_of_mul_lt_mul_left z' (by grind)
 ·intro z;have:=bE (show 0 < -r.a j by grind) (show 0<v-Nm n r x j by grind);grind
theorem oW(hj:j<=n)(h:r.a j≠0):vl n r (put x j v)=r.b↔v=Nm n r x j:=by
 rw[nK hj,sU (n:=n) (x:=x) (j:=j) (r:=r) h];constructor
 ·intro z;have z':r.a j*(v-Nm n r x j)=0:=by grind
  rcases mul_eq_zero.mp z' with e|e
  ·exact absurd e h
  ·grind
 ·intro z;rw[z]
def isUp (r:Rw) (j:Nat):Prop:=0<r.a j\/(r.a j<0/\r.kd=.eq)
def oN (r:Rw) (j:Nat):Prop:=r.a j<0\/(0<r.a j/\r.kd=.eq)
variable {R:List Rw} in
structure Top (n:Nat) (R:List Rw) (x:Nat->Rat) (j:Nat) (g:Option (Bool×Rat)):Prop where
 none:g=none->∀r∈R,¬isUp r j
 some:∀s v,g=some (s,v)->(∃r∈R,isUp r j/\v=Nm n r x j/\(s=true->r.kd=.lt))/\∀r∈R,isUp r j->v<=Nm n r x j/\(r.kd=.lt->Nm n r x j=v->s=true)
variable {R:List Rw} in
structure Py (n:Nat) (R:List Rw) (x:Nat->Rat) (j:Nat) (g:Option (Bool×Rat)):Prop where
 none:g=none->∀r∈R,¬oN r j
 some:∀s v,g=some (s,v)->(∃r∈R,oN r j/\v=Nm n r x j/\(s=true->r.kd=.lt))/\∀r∈R,oN r j->Nm n r x j<=v/\(r.kd=.lt->Nm n r x j=v->s=true)
def gx (least Ij:Option Rat):Rat:=match least,Ij with
 |none,none=>0
 |some l,none=>l+1
 |none,some g=>g-1
 |some l,some g=>(l+g)/2
variable {R:List Rw} {St:Nat->Bool} in
theorem EF{up lo:Rw}(S':Sg n k (j+1) J St (j::E) B β R')(S:Sg n k j J St E B β R)(hj:j<n)(P:Pairs k J j (E.length+2) R R')(hx:∀r∈R',Hd n x r)(hu:up∈R)(hl:lo∈R)(pu:0<up.a j)(pl:lo.a j<0):
  Nm n lo x j<=Nm n up x j/\(up.kd=.lt\/lo.kd=.lt->Nm n lo x j<Nm n up x j):=by
 have ku:up.kd≠.eq:=fun e=>by have:=P.oJ up hu e;grind
 have kl:lo.kd≠.eq:=fun e=>by have:=P.oJ lo hl e;grind
 have cu:=qM S hu ku;have cl:=qM S hl kl;have cj:jx k (fun i=>J i=true) (j::E) B (fun i=>-lo.a j*uo J up i+up.a j*uo J lo i):=by
  refine⟨fun i hi=>?_,fun i hi h=>?_,fun c hc=>?_⟩
  ·have a:=cV (show 0<=-lo.a j by grind) (cu.nn i hi);have b:=cV (le_of_lt pu) (cl.nn i hi);grind
  ·rw[cu.off i hi h,cl.off i hi h];grind
  ·have e:sm k (fun i=>(-lo.a j*uo J up i+up.a j*uo J lo i)*B i c)=-lo.a j*sm k (fun i=>uo J up i*B i c)+up.a j*sm k (fun i=>uo J lo i*B i c):=by
    rw[<- bD,<- bD,<- dO];exact aO fun i _=>by grind
   rw[e];rcases mem_cons.mp hc with h|h
   ·subst h;rw[<- S.va up hu ku c (by omega),<- S.va lo hl kl c (by omega)];grind
   ·rw[cu.nL c h,cl.nL c h];grind
 obtain⟨h1,h2⟩:=Dp S' (fun r hr _=>hx r hr) cj;rw[GS,Aa (S.va up hu ku) (S.vb up hu ku),Aa (S.va lo hl kl) (S.vb lo hl kl)]at h1 h2;have bu:=sU (n:=n) (x:=x) (r:=up) (j:=j) (by grind);have bl:=sU (n:=n) (x:=x) (r:=lo) (j:=j) (by grind);have vu:=oq (n:=n) (j:=j) (r:=up) (x:=x) (by omega);have vo:=oq (n:=n) (j:=j) (r:=lo) (x:=x) (by omega);have key: -lo.a j*(vl n up x-up.b)+up.a j*(vl n lo x-lo.b)=(-lo.a j*up.a j)*(Nm n lo x j-Nm n up x j):=by
  rw[vu,vo,bu,bl];grind
 have pp:0 < -lo.a j*up.a j:=bE (by grind) pu;rw[key]at h1 h2;constructor
 ·by_cases c:Nm n lo x j<=Nm n up x j
  ·exact c
  ·have:=bE pp (show 0<Nm n lo x j-Nm n up x j by grind);grind
 ·intro hs;have rC:∃i,i<k/\St i=true/\0 < -lo.a j*uo J up i+up.a j*uo J lo i:=by
   rcases hs with hs|hs
   ·obtain⟨i,hi,FG,hst,hp⟩:=(S.st up hu ku).mp hs;refine⟨i,hi,hst,?_⟩;have a:=bE (show 0 < -lo.a j by grind) hp;have b:=cV (le_of_lt pu) (cl.nn i hi);unfold uo at b ⊢;rw[if_pos FG]at b ⊢;rw[if_pos FG];grind
   ·obtain⟨i,hi,FG,hst,hp⟩:=(S.st lo hl kl).mp hs;refine⟨i,hi,hst,?_⟩;have a:=cV (show 0<=-lo.a j by grind) (cu.nn i hi);have b:=bE pu hp;unfold uo at a ⊢;rw[if_pos FG]at a ⊢;rw[if_pos FG];grind
  have h3:=h2 rC;by_cases c:Nm n lo x j<Nm n up x j
  ·exact c
  ·have:=cV (le_of_lt pp) (show 0<=Nm n lo x j-Nm n up x j by grind);grind
def iX (g:Option (Bool×Rat)):Option Rat:=g.map (·.2)
variable {R:List Rw} {St:Nat->Bool} in
theorem FX{g l:Option (Bool×Rat)}(S':Sg n k (j+1) J St (j::E) B β R')(S:Sg n k j J St E B β R)(hj:j<n)(P:Pairs k J j (E.length+2) R R')(hx:∀r∈R',Hd n x r)(hg:Top n R x j g)(hl:Py n R x j l):
  ∀r∈R,Hd n (put x j (gx (iX l) (iX g))) r:=by
 have room:=fun{up lo:Rw}=>EF (up:=up) (lo:=lo) S' S hj P hx;have kq:∀{r:Rw},r∈R->r.a j≠0->r.kd≠.eq:=fun hr h e=>h (P.oJ _ hr e);have US:∀{r:Rw},r∈R->isUp r j->0<r.a j:=fun hr h=>h.elim id fun z=>absurd z.2 (kq hr (by have:=z.1;grind));have Vc:∀{r:Rw},r∈R->oN r j->r.a j<0:=fun hr h=>h.elim id fun z=>absurd z.2 (kq hr (by have:=z.1;grind));intro r hr;by_cases h0:r.a j=0
 ·obtain⟨r',cG,e⟩:=P.keep r hr h0;rw[zb (by omega) h0,<- e];exact hx r' cG
 ·have hk:=kq hr h0;by_cases hp:0<r.a j
  ·
   have goal:∀v:Rat,(v<=Nm n r x j)->(r.kd=.lt->v<Nm n r x j)->Hd n (put x j v) r:=by
    intro v h1 h2;unfold Hd;cases e:r.kd with
    |eq=>exact absurd e hk
    |le=>exact(Co (by omega) hp).mpr h1
    |lt=>exact(Cn (by omega) hp).mpr (h2 e)
   cases eg:g with
   |none=>exact absurd (.inl hp) (hg.none eg r hr)
   |some gv=>
    obtain⟨sg,v⟩:=gv;obtain⟨_,g2⟩:=hg.some sg v eg;obtain⟨g3,g4⟩:=g2 r hr (.inl hp);cases el:l with
    |none=>
     have:gx (iX none) (iX (some (sg,v)))=v-1:=rfl;rw[this];exact goal _ (by grind) (fun _=>by grind)
    |some lv=>
     obtain⟨sl,v'⟩:=lv;obtain⟨⟨lo,gE,Vh,elo,_⟩,_⟩:=hl.some sl v' el;obtain⟨r1,r2⟩:=room hr gE hp (Vc gE Vh);have:gx (iX (some (sl,v'))) (iX (some (sg,v)))=(v'+v)/2:=rfl;rw[this];exact goal _ (by grind) (fun e=>by have:=r2 (.inl e);grind)
  ·have hn:r.a j<0:=by grind
   have goal:∀v:Rat,(Nm n r x j<=v)->(r.kd=.lt->Nm n r x j<v)->Hd n (put x j v) r:=by
    intro v h1 h2;unfold Hd;cases e:r.kd with
    |eq=>exact absurd e hk
    |le=>exact(lo_le (by omega) hn).mpr h1
    |lt=>exact(CO (by omega) hn).mpr (h2 e)
   cases el:l with
   |none=>exact absurd (.inl hn) (hl.none el r hr)
   |some lv=>
    obtain⟨sl,v'⟩:=lv;obtain⟨_,l2⟩:=hl.some sl v' el;obtain⟨l3,l4⟩:=l2 r hr (.inl hn);cases eg:g with
    |none=>
     have:gx (iX (some (sl,v'))) (iX none)=v'+1:=rfl;rw[this];exact goal _ (by grind) (fun _=>by grind)
    |some gv=>
     obtain⟨sg,v⟩:=gv;obtain⟨⟨up,gw,Vg,eup,_⟩,_⟩:=hg.some sg v eg;obtain⟨r1,r2⟩:=room gw hr (US gw Vg) hn;have:gx (iX (some (sl,v'))) (iX (some (sg,v)))=(v'+v)/2:=rfl;rw[this];exact goal _ (by grind) (fun e=>by have:=r2 (.inr e);grind)
variable {R:List Rw} in
theorem FY{q:Rw}{g l:Option (Bool×Rat)}(hj:j<=n)(G:DG j q R R')(hx:∀r∈R',Hd n x r)(h0:∀r∈R',r.a j=0)(hg:Top n R x j g)(hl:Py n R x j l):
  ∀r∈R,Hd n (put x j (gx (iX l) (iX g))) r:=by

 have at':∀r∈R,Hd n (put x j (Nm n q x j)) r:=by
  intro r hr;have hq:vl n q (put x j (Nm n q x j))=q.b:=(oW hj G.ne).mpr rfl;by_cases e:r=q
  ·rw[e];unfold Hd;rw[G.eq];exact hq
  ·obtain⟨r',cG,W⟩:=G.to r hr e;have hd:=(zb (n:=n) (x:=x) (v:=Nm n q x j) hj (h0 r' cG)).mpr (hx r' cG);obtain⟨μ,mp,ea,eb,_⟩:=W.ex;generalize put x j (Nm n q x j)=y at hd hq ⊢;have ev:vl n r' y=μ*(vl n r y-r.a j/q.a j*vl n q y):=by
    unfold vl;rw[aO (g:=fun c=>μ*(r.a c*y c)+(-(μ*(r.a j/q.a j)))*(q.a c*y c)) (fun c _=>by rw[ea c];grind),dO,bD,bD];grind
   unfold Hd at hd ⊢;rw[W.kd,ev,eb,hq]at hd;have mi:0<μ⁻¹:=inv_pos.mpr mp;cases hk:r.kd with
   |eq=>
    rw[hk]at hd;have dF:μ*(vl n r y-r.a j/q.a j*q.b)=μ*(r.b-r.a j/q.a j*q.b):=hd;have:μ*(vl n r y-r.b)=0:=by grind
    show vl n r y=r.b;rcases mul_eq_zero.mp this with z|z<;>grind
   |le=>
    rw[hk]at hd;have dF:μ*(vl n r y-r.a j/q.a j*q.b)<=μ*(r.b-r.a j/q.a j*q.b):=hd;have:=Rat.le_of_mul_le_mul_left dF mp;show vl n r y<=r.b;grind
   |lt=>
    rw[hk]at hd;have dF:μ*(vl n r y-r.a j/q.a j*q.b)<μ*(r.b-r.a j/q.a j*q.b):=hd;have:=Rat.lt_of_mul_lt_mul_left dF (le_of_lt mp);show vl n r y<r.b;grind
 have qu:isUp q j:=by
  have:=G.ne;by_cases c:0<q.a j
  ·exact .inl c
  ·exact .inr ⟨by grind,G.eq⟩
 have ql:oN q j:=by
  have:=G.ne;by_cases c:q.a j<0
  ·exact .inl c
  ·exact .inr ⟨by grind,G.eq⟩
 have Ww:∀r∈R,isUp r j->Nm n q x j<=Nm n r x j:=by
  intro r hr hu;have h:=at' r hr;unfold Hd at h;rcases hu with hp|⟨hn,he⟩
  ·cases hk:r.kd with
   |eq=>rw[hk]at h;have:=(oW hj (by grind)).mp h;grind
   |le=>rw[hk]at h;exact(Co hj hp).mp h
   |lt=>rw[hk]at h;exact le_of_lt ((Cn hj hp).mp h)
  ·rw[he]at h;have:=(oW hj (by grind)).mp h;grind
 have Vd:∀r∈R,oN r j->Nm n r x j<=Nm n q x j:=by
  intro r hr hu;have h:=at' r hr;unfold Hd at h;rcases hu with hp|⟨hn,he⟩
  ·cases hk:r.kd with
   |eq=>rw[hk]at h;have:=(oW hj (by grind)).mp h;grind
   |le=>rw[hk]at h;exact(lo_le hj hp).mp h
   |lt=>rw[hk]at h;exact le_of_lt ((CO hj hp).mp h)
  ·rw[he]at h;have:=(oW hj (by grind)).mp h;grind
 have eb:gx (iX l) (iX g)=Nm n q x j:=by
  cases eg:g with
  |none=>exact absurd qu (hg.none eg q G.mem)
  |some gv=>
   obtain⟨sg,v⟩:=gv;obtain⟨⟨r,hr,iu,ev,_⟩,g2⟩:=hg.some sg v eg;have a1:=(g2 q G.mem qu).1;have a2:=Ww r hr iu;cases el:l with
   |none=>exact absurd ql (hl.none el q G.mem)
   |some lv=>
    obtain⟨sl,v'⟩:=lv;obtain⟨⟨r',cG,il,ev',_⟩,l2⟩:=hl.some sl v' el;have b1:=(l2 q G.mem ql).1;have b2:=Vd r' cG il;show(v'+v)/2=_;grind
 rw[eb];exact at'
abbrev Row:=Kn×List Int
def ent (r:Row) (c:Nat):Int:=r.2.getD c 0
def lowG (l:List Int):Nat:=l.foldl (fun g x=>Nat.gcd g x.natAbs) 0
def lowered (l:List Int):List Int:=l.map fun x=>x.fdiv (lowG l:Int)
def fG (one:List Int) (bN:Int) (other:List Int) (more:Int):List Int:=zipWith (fun a b=>bN*a+more*b) one other
def mixed (one:List Int) (bN:Int) (other:List Int) (more:Int):List Int:=lowered (fG one bN other more)
def wo (equal:Row) (j:Nat) (r:Row):Row:=(r.1,mixed r.2 ((ent equal j).natAbs:Int) equal.2 (if 0<ent equal j then -ent r j else ent r j))
def joined (j:Nat) (up lo:Row):Row:=(if up.1=.lt\/lo.1=.lt then .lt else .le,mixed up.2 (-ent lo j) lo.2 (ent up j))
def drawn (aB:List Nat) (up lo:Row):Nat:=(aB.filter fun p=>decide (ent up p≠0\/ent lo p≠0)).length
def ins (l:List Row) (r:Row):List Row:=if r∈l then l else l++[r]
def pairsOf (j:Nat) (aB:List Nat) (most:Nat) (rows:List Row):List Row:=
 (rows.filter fun r=>decide (0<ent r j)).flatMap fun up=>((rows.filter fun r=>decide (ent r j<0)).filter fun lo=>decide (drawn aB up lo<=most)).map fun lo=>joined j up lo
def paired (j:Nat) (aB:List Nat) (most:Nat) (rows:List Row):List Row:=(rows.filter (fun r=>decide (ent r j=0))++pairsOf j aB most rows).foldl ins []
def dW (j:Nat) (rows:List Row):Option Row:=rows.find? fun r=>decide (r.1=.eq/\ent r j≠0)
def cQ (aB:List Nat) (j most:Nat) (rows:List Row):List Row:=match dW j rows with
 |none=>paired j aB (most+1) rows
 |some q=>(rows.filter fun r=>decide (r≠q)).map (wo q j)
def iF (j most:Nat) (rows:List Row):Nat:=match dW j rows with
 |none=>most+1
 |some _=>most
def lz (aB:List Nat):Nat->Nat->Nat->List Row->List (List Row)
 |0,_,_,rows=>[rows]
 |m+1,j,most,rows=>rows::lz aB m (j+1) (iF j most rows) (cQ aB j most rows)
def aC (n:Nat) (r:Row):Rw:=⟨r.1,fun c=>(ent r c:Rat),(ent r (n+1):Rat),fun i=>(ent r (n+2+i):Rat)⟩
theorem Bs:∀(l:List Int) (g:Nat),(∀x∈l,(l.foldl (fun g x=>Nat.gcd g x.natAbs) g)∣x.natAbs)/\(l.foldl (fun g x=>Nat.gcd g x.natAbs) g)∣g
 |[],g=>⟨fun x hx=>by simp at hx,Nat.dvd_refl g⟩
 |y::l,g=>by
  obtain⟨h1,h2⟩:=Bs l (Nat.gcd g y.natAbs);rw[foldl_cons];refine⟨fun x hx=>?_,dvd_trans h2 (Nat.gcd_dvd_left _ _)⟩;rcases mem_cons.mp hx with e|h
  ·rw[e];exact dvd_trans h2 (Nat.gcd_dvd_right _ _)
  ·exact h1 x h
variable {l:List Int}
theorem m9{x:Int}(h:x∈l):(lowG l:Int)∣x:=Int.ofNat_dvd_left.mpr ((Bs l 0).1 x h)
theorem sG{x:Int}(h:x∈l)(hx:x≠0):0<lowG l:=by
 rcases Nat.eq_zero_or_pos (lowG l)with e|e
 ·have:=m9 h;rw[e]at this;exact absurd (Int.zero_dvd.mp this) hx
 ·exact e
theorem FQ{f:Int->Int}(f0:f 0=0)(l:List Int)(c:Nat):(l.map f).getD c 0=f (l.getD c 0):=by
 rw[getD_eq_getElem?_getD,getD_eq_getElem?_getD,getElem?_map];cases l[c]? with
 |none=>exact f0.symm
 |some x=>rfl
variable {c:Nat}
theorem mem_getD(h:l.getD c 0≠0):l.getD c 0∈l:=by
 rw[getD_eq_getElem?_getD]at h ⊢;cases e:l[c]? with
 |none=>rw[e]at h;exact absurd rfl h
 |some x=>exact mem_of_getElem? e
theorem Ah(hp:0<lowG l)(c:Nat):((lowered l).getD c 0:Rat)=(lowG l:Rat)⁻¹*(l.getD c 0:Rat):=by
 have f0:(0:Int).fdiv (lowG l:Int)=0:=Int.zero_fdiv _;unfold lowered;rw[FQ f0];by_cases e:l.getD c 0=0
 ·rw[e,f0];grind
 ·obtain⟨q,hq⟩:=m9 (mem_getD e);have g0:(lowG l:Int)≠0:=by omega
  have e2:(l.getD c 0).fdiv (lowG l:Int)=q:=by rw[hq,mul_comm,Int.mul_fdiv_cancel _ g0]
  rw[e2,hq,intCast_mul];have g1:((lowG l:Int):Rat)≠0:=fun z=>g0 (Rat.intCast_eq_zero_iff.mp z);have g2:((lowG l:Int):Rat)=(lowG l:Rat):=rfl;rw[g2]at g1 ⊢;grind
theorem rB(l:List Int):(lowered l).length=l.length:=by unfold lowered;rw[length_map]
variable {other:List Int}
theorem m6{one:List Int}(h:one.length=other.length)(bN more:Int)(c:Nat):(fG one bN other more).getD c 0=bN*one.getD c 0+more*other.getD c 0:=by
 unfold fG;rw[getD_eq_getElem?_getD,getD_eq_getElem?_getD,getD_eq_getElem?_getD,List.getElem?_zipWith];by_cases hc:c<one.length
 ·rw[getElem?_eq_getElem hc,getElem?_eq_getElem (h▸hc)];rfl
 ·rw[List.getElem?_eq_none (by omega),List.getElem?_eq_none (by omega)];show(0:Int)=bN*0+more*0;omega
theorem HM{one:List Int}(h:one.length=other.length)(bN more:Int):(fG one bN other more).length=one.length:=by
 unfold fG;rw[length_zipWith];omega
theorem Ai{g:Nat}(h:0<g):0<(g:Rat)⁻¹:=inv_pos.mpr (by
 have:((0:Nat):Rat)<(g:Rat):=Rat.natCast_lt_natCast.mpr h;exact this)
variable {p:Nat}
theorem wA{one:List Int}(h:one.length=other.length){bN more:Int}(hp:bN*one.getD p 0+more*other.getD p 0≠0):
  ∃μ:Rat,0<μ/\∀c,((mixed one bN other more).getD c 0:Rat)=μ*((bN:Rat)*(one.getD c 0:Rat)+(more:Rat)*(other.getD c 0:Rat)):=by
 have e:=m6 h bN more p;have hg:0<lowG (fG one bN other more):=sG (mem_getD (by rw[e];exact hp)) (by rw[e];exact hp);refine⟨_,Ai hg,fun c=>?_⟩;unfold mixed;rw[Ah hg,m6 h,Rat.intCast_add,intCast_mul,intCast_mul]
theorem mT{one:List Int}(h:one.length=other.length)(bN more:Int):(mixed one bN other more).length=one.length:=by
 unfold mixed;rw[rB,HM h]
variable {r:Row}
theorem LF{l:List Row}{x:Row}:x∈ins l r↔x∈l\/x=r:=by
 unfold ins;split
 ·rename_i h;exact⟨.inl,fun z=>z.elim id fun e=>by rw[e];exact h⟩
 ·rw[mem_append,mem_singleton]
theorem ud{x:Row}:∀{M l:List Row},x∈M.foldl ins l↔x∈l\/x∈M
 |[],l=>by simp
 |r::M,l=>by
  rw[foldl_cons,ud,LF,mem_cons];grind
variable {most:Nat} {rows:List Row}
theorem gV{aB:List Nat}{x:Row}:x∈paired j aB most rows↔(x∈rows/\ent x j=0)\/∃up∈rows,∃lo∈rows,0<ent up j/\ent lo j<0/\drawn aB up lo<=most/\x=joined j up lo:=by
 unfold paired pairsOf;rw[ud,mem_append,mem_filter,List.mem_flatMap];constructor
 ·rintro(h|h|⟨up,hu,hx⟩)
  ·simp at h
  ·exact .inl ⟨h.1,by simpa using h.2⟩
  ·obtain⟨yR,O1⟩:=mem_filter.mp hu;obtain⟨lo,hl,e⟩:=mem_map.mp hx;obtain⟨yX,rG⟩:=mem_filter.mp hl;obtain⟨VF,VE⟩:=mem_filter.mp yX;exact .inr ⟨up,yR,lo,VF,by simpa using O1,by simpa using VE,by simpa using rG,e.symm⟩
 ·rintro(⟨h1,h2⟩|⟨up,hu,lo,hl,pu,pl,hd,e⟩)
  ·exact .inr (.inl ⟨h1,by simpa using h2⟩)
  ·exact .inr (.inr ⟨up,mem_filter.mpr ⟨hu,by simpa using pu⟩,mem_map.mpr ⟨lo,mem_filter.mpr ⟨mem_filter.mpr ⟨hl,by simpa using pl⟩,by simpa using hd⟩,e.symm⟩⟩)
variable {a:Int}
theorem iH:(0:Rat)<(a:Rat)↔0<a:=by
 have:((0:Int):Rat)<(a:Rat)↔0<a:=Rat.intCast_lt_intCast;exact this
theorem qj:(a:Rat)<0↔a<0:=by
 have:(a:Rat)<((0:Int):Rat)↔a<0:=Rat.intCast_lt_intCast;exact this
theorem bK:(a:Rat)=0↔a=0:=Rat.intCast_eq_zero_iff
def cw (n k:Nat) (J:Nat->Bool):List Nat:=((List.range k).filter fun i=>J i).map fun i=>n+2+i
theorem Gh{up lo:Row}(hu:∀i,i<k->J i=true->0<=(aC n up).w i)(hl:∀i,i<k->J i=true->0<=(aC n lo).w i):
  drawn (cw n k J) up lo=cnt k (fun i=>uo J (aC n up) i+uo J (aC n lo) i):=by
 unfold drawn cw;rw[List.filter_map,length_map,List.filter_filter];induction k with
 |zero=>rfl
 |succ k ih=>
  rw[range_succ,List.filter_append,length_append,ih (fun i hi=>hu i (by omega)) (fun i hi=>hl i (by omega))];show _=cnt k _+_;congr 1
  by_cases hj:J k=true
  ·have a:=hu k (by omega) hj;have b:=hl k (by omega) hj;have e0:uo J (aC n up) k+uo J (aC n lo) k=(ent up (n+2+k):Rat)+(ent lo (n+2+k):Rat):=by
    unfold uo;rw[if_pos hj,if_pos hj];rfl
   have a':0<=(ent up (n+2+k):Rat):=a;have b':0<=(ent lo (n+2+k):Rat):=b;by_cases e:ent up (n+2+k)≠0\/ent lo (n+2+k)≠0
   ·rw[if_neg,List.filter_cons_of_pos (by simp[hj];exact e)]
    ·simp
    ·show ¬uo J (aC n up) k+uo J (aC n lo) k=0;rw[e0];intro z;have z1:(ent up (n+2+k):Rat)=0:=by grind
     have z2:(ent lo (n+2+k):Rat)=0:=by grind
     exact e.elim (fun h=>h (bK.mp z1)) (fun h=>h (bK.mp z2))
   ·have h1:ent up (n+2+k)=0:=by
     apply Classical.byContradiction;intro z;exact e (.inl z)
    have h2:ent lo (n+2+k)=0:=by
     apply Classical.byContradiction;intro z;exact e (.inr z)
    rw[if_pos,List.filter_cons_of_neg (by simp[h1,h2])]
    ·simp
    ·show uo J (aC n up) k+uo J (aC n lo) k=0;rw[e0,h1,h2];grind
  ·rw[if_pos,List.filter_cons_of_neg (by simp[hj])]
   ·simp
   ·show uo J (aC n up) k+uo J (aC n lo) k=0;unfold uo;rw[if_neg hj,if_neg hj];grind
structure Rs (n k:Nat) (rows:List Row):Prop where
 len:∀r∈rows,r.2.length=n+2+k
 CG:∀r∈rows,r.1=.eq->∃p,ent r p≠0/\∀s∈rows,s.1=.eq->s≠r->ent s p=0
theorem F6{up lo:Row}(hl:up.2.length=lo.2.length)(pu:0<ent up j)(pl:ent lo j<0)(hp: -ent lo j*ent up p+ent up j*ent lo p≠0):Jd (aC n up) (aC n lo) (aC n (joined j up lo)) j:=by
 refine⟨rfl,?_⟩;obtain⟨μ,mp,h⟩:=wA (bN:=-ent lo j) (more:=ent up j) hl (p:=p) hp;have h':∀c,((ent (joined j up lo) c:Int):Rat)=μ*(-(ent lo j:Rat)*(ent up c:Rat)+(ent up j:Rat)*(ent lo c:Rat)):=fun c=>by
  have:=h c;rw[Rat.intCast_neg]at this;exact this
 exact⟨μ,mp,fun c=>h' c,h' _,fun i=>h' _⟩
variable {q:Row}
theorem J9(hl:r.2.length=q.2.length)(q0:ent q j≠0)(hp:((ent q j).natAbs:Int)*ent r p+(if 0<ent q j then -ent r j else ent r j)*ent q p≠0):Wo (aC n q) (aC n r) (aC n (wo q j r)) j:=by
 refine⟨rfl,?_⟩;obtain⟨μ,mp,h⟩:=wA (bN:=((ent q j).natAbs:Int)) (more:=if 0<ent q j then -ent r j else ent r j) hl (p:=p) hp;have qn:((ent q j:Int):Rat)≠0:=fun z=>q0 (bK.mp z);have ab:(((ent q j).natAbs:Int):Rat)=if 0<ent q j then(ent q j:Rat)else -(ent q j:Rat):=by
  by_cases c:0<ent q j
  ·rw[if_pos c,show((ent q j).natAbs:Int)=ent q j by omega]
  ·rw[if_neg c,show((ent q j).natAbs:Int)=-ent q j by omega,Rat.intCast_neg]
 have ap:0<(((ent q j).natAbs:Int):Rat):=iH.mpr (by omega);have h':∀c,((ent (wo q j r) c:Int):Rat)=μ*(((ent q j).natAbs:Int):Rat)*((ent r c:Rat)-(ent r j:Rat)/(ent q j:Rat)*(ent q c:Rat)):=fun c=>by
  have e:=h c;have e2:((ent (wo q j r) c:Int):Rat)=_:=e;rw[e2,ab];show μ*((if 0<ent q j then(ent q j:Rat)else -(ent q j:Rat))*(ent r c:Rat)+((if 0<ent q j then -ent r j else ent r j:Int):Rat)*(ent q c:Rat))=_;by_cases c0:0<ent q j
  ·rw[if_pos c0,if_pos c0,Rat.intCast_neg];grind
  ·rw[if_neg c0,if_neg c0];grind
 exact⟨μ*(((ent q j).natAbs:Int):Rat),bE mp ap,fun c=>h' c,h' _,fun i=>h' _⟩
variable {St:Nat->Bool} in
theorem yx(hR:Rs n k rows)(S:Sg n k j J St E B β (rows.map (aC n)))(hn:dW j rows=none):
  Pairs k J j (E.length+2) (rows.map (aC n)) ((paired j (cw n k J) (E.length+2) rows).map (aC n)):=by
 have mem:∀{r:Row},r∈rows->aC n r∈rows.map (aC n):=fun h=>mem_map.mpr ⟨_,h,rfl⟩;have oJ:∀r∈rows,r.1=.eq->ent r j=0:=fun r hr he=>by
  have:=List.find?_eq_none.mp hn r hr;apply Classical.byContradiction
  intro z;exact this (by simp[he,z])
 have kq:∀{r:Row},r∈rows->ent r j≠0->(aC n r).kd≠.eq:=fun hr h e=>h (oJ _ hr e);have jd:∀{up lo:Row},up∈rows->lo∈rows->0<ent up j->ent lo j<0->Jd (aC n up) (aC n lo) (aC n (joined j up lo)) j:=by
  intro up lo hu hl pu pl;obtain⟨i,hi,hj,hp⟩:=S.pos (aC n up) (mem hu) (kq hu (by omega));have b:=S.nn (aC n lo) (mem hl) (kq hl (by omega)) i hi hj;refine F6 (by rw[hR.len up hu,hR.len lo hl]) pu pl (p:=n+2+i) ?_;have gc:0<ent up (n+2+i):=iH.mp hp;have FL:0<=ent lo (n+2+i):=by
   have b':(0:Rat)<=(ent lo (n+2+i):Rat):=b;have:((0:Int):Rat)<=(ent lo (n+2+i):Rat):=b';exact Rat.intCast_le_intCast.mp this
  have h1:=mul_pos (show 0 < -ent lo j by omega) gc;have h2:=Int.mul_nonneg (Int.le_of_lt pu) FL;omega
 refine⟨fun r hr he=>?_,fun r hr=>?_,fun r hr h0=>?_,fun up hu lo hl pu pl hc=>?_⟩
 ·obtain⟨r,cG,rfl⟩:=mem_map.mp hr;exact bK.mpr (oJ r cG he)
 ·obtain⟨r,cG,rfl⟩:=mem_map.mp hr;rcases gV.mp cG with⟨h1,h2⟩|⟨up,hu,lo,hl,pu,pl,_,rfl⟩
  ·exact .inl ⟨mem h1,bK.mpr h2⟩
  ·exact .inr ⟨aC n up,mem hu,aC n lo,mem hl,iH.mpr pu,qj.mpr pl,jd hu hl pu pl⟩
 ·obtain⟨r,cG,rfl⟩:=mem_map.mp hr;exact⟨_,mem_map.mpr ⟨r,gV.mpr (.inl ⟨cG,bK.mp h0⟩),rfl⟩,rfl⟩
 ·obtain⟨up,Fz,rfl⟩:=mem_map.mp hu;obtain⟨lo,jb,rfl⟩:=mem_map.mp hl;clear hu hl;have hu:=Fz;have hl:=jb;have Ri:0<ent up j:=iH.mp pu;have Rj:ent lo j<0:=qj.mp pl;refine⟨_,mem_map.mpr ⟨joined j up lo,gV.mpr (.inr ⟨up,hu,lo,hl,Ri,Rj,?_,rfl⟩),rfl⟩,jd hu hl Ri Rj⟩;rw[Gh (S.nn _ (mem hu) (kq hu (by omega))) (S.nn _ (mem hl) (kq hl (by omega)))];exact hc
theorem Eg(hR:Rs n k rows)(hn:dW j rows=none):Rs n k (paired j (cw n k J) most rows):=by
 have Rz:∀{r:Row},r∈paired j (cw n k J) most rows->r.1=.eq->r∈rows:=fun hr he=>by
  rcases gV.mp hr with⟨h1,h2⟩|⟨up,hu,lo,hl,pu,pl,_,e⟩
  ·exact h1
  ·rw[e]at he;unfold joined at he;dsimp only at he;split at he<;>cases he
 refine⟨fun r hr=>?_,fun r hr he=>?_⟩
 ·rcases gV.mp hr with⟨h1,h2⟩|⟨up,hu,lo,hl,pu,pl,_,e⟩
  ·exact hR.len r h1
  ·rw[e];show(mixed up.2 _ lo.2 _).length=_;rw[mT (by rw[hR.len up hu,hR.len lo hl]),hR.len up hu]
 ·obtain⟨p,h1,h2⟩:=hR.CG r (Rz hr he) he;exact⟨p,h1,fun s hs JQ cx=>h2 s (Rz hs JQ) JQ cx⟩
variable {St:Nat->Bool} in
theorem Cm(hR:Rs n k rows)(S:Sg n k j J St E B β (rows.map (aC n)))(hq:q∈rows)(qe:q.1=.eq)(q0:ent q j≠0)(hr:r∈rows)(cx:r≠q):Wo (aC n q) (aC n r) (aC n (wo q j r)) j:=by
 have mem:∀{r:Row},r∈rows->aC n r∈rows.map (aC n):=fun h=>mem_map.mpr ⟨_,h,rfl⟩;have hl:r.2.length=q.2.length:=by rw[hR.len r hr,hR.len q hq]
 by_cases he:r.1=.eq
 ·obtain⟨p,h1,h2⟩:=hR.CG r hr he;refine J9 hl q0 (p:=p) ?_;rw[h2 q hq qe (Ne.symm cx)];have:((ent q j).natAbs:Int)≠0:=by omega
  have:=mul_ne_zero this h1;omega
 ·obtain⟨i,hi,hj,hp⟩:=S.pos (aC n r) (mem hr) he;have hz:=S.wW (aC n q) (mem hq) qe i hi hj;refine J9 hl q0 (p:=n+2+i) ?_;have yO:ent q (n+2+i)=0:=bK.mp hz;have gc:0<ent r (n+2+i):=iH.mp hp;rw[yO];have:((ent q j).natAbs:Int)≠0:=by omega
  have:=mul_ne_zero this (show ent r (n+2+i)≠0 by omega);omega
variable {St:Nat->Bool} in
theorem zu(hR:Rs n k rows)(S:Sg n k j J St E B β (rows.map (aC n)))(hq:dW j rows=some q):
  DG j (aC n q) (rows.map (aC n)) (((rows.filter fun r=>decide (r≠q)).map (wo q j)).map (aC n)):=by
 have mem:∀{r:Row},r∈rows->aC n r∈rows.map (aC n):=fun h=>mem_map.mpr ⟨_,h,rfl⟩;have hm:=mem_of_find?_eq_some hq;have hp:=find?_some hq;have gc:q.1=.eq/\ent q j≠0:=by simpa using hp
 refine⟨mem hm,gc.1,fun z=>gc.2 (bK.mp z),fun r' cG=>?_,fun r hr cx=>?_⟩
 ·obtain⟨s,hs,rfl⟩:=mem_map.mp cG;obtain⟨r,hr,rfl⟩:=mem_map.mp hs;obtain⟨h1,h2⟩:=mem_filter.mp hr;exact⟨aC n r,mem h1,Cm hR S hm gc.1 gc.2 h1 (by simpa using h2)⟩
 ·obtain⟨r,lh,rfl⟩:=mem_map.mp hr;clear hr;have hr:=lh;have CU:r≠q:=fun e=>cx (by rw[e]);exact⟨_,mem_map.mpr ⟨_,mem_map.mpr ⟨r,mem_filter.mpr ⟨hr,by simpa using CU⟩,rfl⟩,rfl⟩,Cm hR S hm gc.1 gc.2 hr CU⟩
variable {St:Nat->Bool} in
theorem Hi(hR:Rs n k rows)(S:Sg n k j J St E B β (rows.map (aC n)))(hq:dW j rows=some q):Rs n k ((rows.filter fun r=>decide (r≠q)).map (wo q j)):=by
 have hm:=mem_of_find?_eq_some hq;have hp:=find?_some hq;have gc:q.1=.eq/\ent q j≠0:=by simpa using hp
 have inv:∀{s:Row},s∈(rows.filter fun r=>decide (r≠q)).map (wo q j)->∃r∈rows,r≠q/\s=wo q j r:=fun hs=>by
  obtain⟨r,hr,rfl⟩:=mem_map.mp hs;obtain⟨h1,h2⟩:=mem_filter.mp hr;exact⟨r,h1,by simpa using h2,rfl⟩
 refine⟨fun s hs=>?_,fun s hs he=>?_⟩
 ·obtain⟨r,hr,cx,rfl⟩:=inv hs;show(mixed r.2 _ q.2 _).length=_;rw[mT (by rw[hR.len r hr,hR.len q hm]),hR.len r hr]
 ·obtain⟨r,hr,cx,rfl⟩:=inv hs;obtain⟨p,h1,h2⟩:=hR.CG r hr he;have zq:=h2 q hm gc.1 (Ne.symm cx)

  have at':∀{t:Row},t∈rows->t≠q->∃μ:Rat,0<μ/\((ent (wo q j t) p:Int):Rat)=μ*(ent t p:Rat):=fun ht Vp=>by
   obtain⟨μ,mp,ea,_⟩:=(Cm (n:=n) hR S hm gc.1 gc.2 ht Vp).ex;refine⟨μ,mp,?_⟩;have:=ea p;show(aC n (wo q j _)).a p=_;rw[this];show μ*((ent _ p:Rat)-_*(ent q p:Rat))=_;rw[zq];grind
  refine⟨p,?_,fun s' rC JY CU=>?_⟩
  ·obtain⟨μ,mp,e⟩:=at' hr cx;intro z;rw[z]at e;have e':(0:Rat)=μ*(ent r p:Rat):=e;rcases mul_eq_zero.mp e'.symm with h|h
   ·grind
   ·exact h1 (bK.mp h)
  ·obtain⟨r',cG,Ue,rfl⟩:=inv rC;have O5:r'≠r:=fun e=>CU (by rw[e]);obtain⟨μ,mp,e⟩:=at' cG Ue;rw[h2 r' cG JY O5]at e;exact bK.mp (by rw[e];grind)
def qZ (r:Row):Nat->List Rat->Rat->Rat
 |_,[],acc=>acc
 |c,x::xs,acc=>qZ r (c+1) xs (if ent r c≠0 then acc-(ent r c:Rat)*x else acc)
def lB (r:Row) (x:List Rat):Rat:=qZ r 0 x (ent r x.length:Rat)
abbrev fk:=Bool×Rat×List Rat
def mB (j:Nat) (way:Int) (r:Row):Prop:=0<way*ent r j\/(way*ent r j<0/\r.1=.eq)
instance (j:Nat) (way:Int) (r:Row):Decidable (mB j way r):=inferInstanceAs (Decidable (_\/_))
def dz (j:Nat) (way:Int) (x:List Rat) (r:Row):Rat:=lB r x/((way*ent r j:Int):Rat)
def mL (j:Nat) (way:Int) (x:List Rat) (r:Row):List Rat:=(r.2.drop (x.length+1)).map fun(w:Int)=>(w:Rat)/((way*ent r j:Int):Rat)
def better (b:Option fk) (kd:Bool) (v:Rat):Bool:=match b with
 |none=>true
 |some b=>decide (v<b.2.1) || (decide (v=b.2.1)&&kd)
def jM (j:Nat) (way:Int) (x:List Rat) (b:Option fk) (r:Row):Option fk:=
 if mB j way r then(if better b (decide (r.1=.lt)) (dz j way x r)=true then some (decide (r.1=.lt),dz j way x r,mL j way x r)else b)else b
def bY (rows:List Row) (j:Nat) (x:List Rat) (way:Int):Option fk:=rows.foldl (jM j way x) none
def gq (b:Option fk):Option Rat:=b.map (·.2.1)
def fT (b:Option fk):Option Rat:=b.map fun b=>0-b.2.1
def dP (pM:List (List Row)):Nat->List Rat->List Rat
 |0,x=>x
 |m+1,x=>dP pM m (x.set m (gx (fT (bY (pM.getD m []) m x (-1))) (gq (bY (pM.getD m []) m x 1))))
def dB (pM:List (List Row)) (n:Nat) (t:Rat):List Rat:=(dP pM n (List.replicate n 0++[t])).take n
def endOf (n:Nat) (rows:List Row) (way:Int):Option fk:=bY rows n (List.replicate (n+1) 0) way
def cD:Kn->Rat->Bool
 | .eq,b=>decide (b≠0)
 | .le,b=>decide (b<0)
 | .lt,b=>decide (b<0) || decide (b=0)
def eZ (n:Nat) (rows:List Row):Option (List Rat):=(rows.find? fun r=>decide (ent r n=0)&&cD r.1 (ent r (n+1):Rat)).map fun r=>
 (r.2.drop (n+2)).map fun(w:Int)=>(((if r.1=.eq/\0<ent r (n+1)then -1 else 1:Int)*w:Int):Rat)
def fq (n:Nat) (rows:List Row):Option (List Rat):=match endOf n rows 1,endOf n rows (-1)with
 |some t,some b=>if cD (if t.1=true\/b.1=true then .lt else .le) (t.2.1+b.2.1)=true then some (zipWith (fun x y=>x+y) t.2.2 b.2.2)else none
 |_,_=>none
def never (n:Nat) (rows:List Row):Option (List Rat):=match eZ n rows with
 |some w=>some w
 |none=>fq n rows
def dX (n:Nat) (rows:List Row) (β:Rat):Rat:=gx (some (match fT (endOf n rows (-1))with|none=>β|some l=>if l<β then β else l)) (gq (endOf n rows 1))
theorem yJ(r:Row):∀(xs:List Rat) (c:Nat) (acc:Rat),qZ r c xs acc=acc-sm xs.length (fun i=>(ent r (c+i):Rat)*xs.getD i 0)
 |[],c,acc=>by show acc=acc-0;grind
 |x::xs,c,acc=>by
  show qZ r (c+1) xs _=_;rw[yJ r xs (c+1)];have e:sm (xs.length+1) (fun i=>(ent r (c+i):Rat)*(x::xs).getD i 0)=(ent r c:Rat)*x+sm xs.length (fun i=>(ent r (c+1+i):Rat)*xs.getD i 0):=by
   have:∀(m:Nat) (f:Nat->Rat),sm (m+1) f=f 0+sm m (fun i=>f (i+1)):=by
    intro m f;induction m with
    |zero=>show(0:Rat)+f 0=f 0+0;grind
    |succ m ih=>show sm (m+1) f+f (m+1)=f 0+(sm m (fun i=>f (i+1))+f (m+1));rw[ih];grind
   rw[this];congr 1
   exact aO fun i _=>by
    show(ent r (c+(i+1)):Rat)*xs.getD i 0=_;rw[show c+(i+1)=c+1+i by omega]
  show _=acc-sm (xs.length+1) _;rw[e];by_cases h:ent r c=0
  ·rw[if_neg (fun z=>z h),h];grind
  ·rw[if_pos h];grind
abbrev xf (x:List Rat):Nat->Rat:=fun c=>x.getD c 0
variable {x:List Rat}
theorem yI(hx:x.length=n+1):lB r x=(aC n r).b-vl n (aC n r) (xf x):=by
 unfold lB;rw[yJ,hx];show _=(ent r (n+1):Rat)-sm (n+1) (fun c=>(ent r c:Rat)*x.getD c 0);congr 1
 exact aO fun i _=>by rw[zero_add]
theorem tW(hx:x.length=n+1)(hj:j<=n)(h0:x.getD j 0=0):lB r x=(aC n r).b-rest n (aC n r) (xf x) j:=by
 rw[yI hx,oq hj];show _-(_+_*x.getD j 0)=_;rw[h0];grind
structure TS (j:Nat) (way:Int) (x:List Rat) (rows:List Row) (b:Option fk):Prop where
 none:b=none->∀r∈rows,¬mB j way r
 some:∀t,b=some t->(∃r∈rows,mB j way r/\t.1=decide (r.1=.lt)/\t.2.1=dz j way x r/\t.2.2=mL j way x r)/\∀r∈rows,mB j way r->t.2.1<=dz j way x r/\(r.1=.lt->dz j way x r=t.2.1->t.1=true)
variable {way:Int}
theorem TS.step{b:Option fk}(h:TS j way x rows b)(r:Row):TS j way x (rows++[r]) (jM j way x b r):=by
 unfold jM;by_cases c:mB j way r
 ·rw[if_pos c];by_cases d:better b (decide (r.1=.lt)) (dz j way x r)=true
  ·rw[if_pos d];refine⟨(fun e=>by cases e),fun t e=>?_⟩;cases e;refine⟨⟨r,by simp,c,rfl,rfl,rfl⟩,fun s hs cs=>?_⟩;rcases mem_append.mp hs with hs|hs
   ·cases hb:b with
    |none=>exact absurd cs (h.none hb s hs)
    |some t=>
     obtain⟨h1,h2⟩:=(h.some t hb).2 s hs cs;rw[hb]at d;have d':(decide (dz j way x r<t.2.1) || (decide (dz j way x r=t.2.1)&&decide (r.1=.lt)))=true:=d;rw[or_eq_true,and_eq_true,decide_eq_true_iff,decide_eq_true_iff]at d';rcases d' with d'|⟨d',d2⟩
     ·exact⟨by show dz j way x r<=_;grind,fun _ e=>by have e':dz j way x s=dz j way x r:=e;grind⟩
     ·exact⟨by show dz j way x r<=_;grind,fun _ _=>d2⟩
   ·rw[mem_singleton.mp hs];exact⟨by show dz j way x r<=_;grind,fun e _=>decide_eq_true e⟩
  ·rw[if_neg d];cases hb:b with
   |none=>rw[hb]at d;exact absurd rfl d
   |some t=>
    refine⟨(fun e=>by cases e),fun t' e=>?_⟩;cases e;obtain⟨⟨r0,O7,h1⟩,h2⟩:=h.some t hb;refine⟨⟨r0,mem_append.mpr (.inl O7),h1⟩,fun s hs cs=>?_⟩;rcases mem_append.mp hs with hs|hs
    ·exact h2 s hs cs
    ·rw[mem_singleton.mp hs];rw[hb]at d;have d':¬(decide (dz j way x r<t.2.1) || (decide (dz j way x r=t.2.1)&&decide (r.1=.lt)))=true:=d;rw[or_eq_true,and_eq_true,decide_eq_true_iff,decide_eq_true_iff,decide_eq_true_iff]at d';have a:¬dz j way x r<t.2.1:=fun z=>d' (.inl z);exact⟨by grind,fun e1 e2=>absurd (.inr ⟨e2,e1⟩) d'⟩
 ·rw[if_neg c];refine⟨fun e s hs=>?_,fun t e=>?_⟩
  ·rcases mem_append.mp hs with hs|hs
   ·exact h.none e s hs
   ·rw[mem_singleton.mp hs];exact c
  ·obtain⟨⟨r0,O7,h1⟩,h2⟩:=h.some t e;refine⟨⟨r0,mem_append.mpr (.inl O7),h1⟩,fun s hs cs=>?_⟩;rcases mem_append.mp hs with hs|hs
   ·exact h2 s hs cs
   ·rw[mem_singleton.mp hs]at cs;exact absurd cs c
theorem TS.all{j:Nat}{way:Int}{x:List Rat}:∀(rows done:List Row) (b:Option fk),TS j way x done b->TS j way x (done++rows) (rows.foldl (jM j way x) b)
 |[],done,b,h=>by rw[append_nil];exact h
 |r::rows,done,b,h=>by
  have:=TS.all rows (done++[r]) _ (h.step r);rw[append_assoc]at this;exact this
theorem jm(rows:List Row)(j:Nat)(x:List Rat)(way:Int):TS j way x rows (bY rows j x way):=by
 have:=TS.all (j:=j) (way:=way) (x:=x) rows [] none ⟨fun _ r hr=>by simp at hr,fun t e=>by cases e⟩;exact this
theorem vA:mB j 1 r↔isUp (aC n r) j:=by
 unfold mB isUp;rw[Int.one_mul];show _↔0<(ent r j:Rat)\/((ent r j:Rat)<0/\r.1=.eq);rw[iH,qj]
theorem vB:mB j (-1) r↔oN (aC n r) j:=by
 unfold mB oN;rw[show(-1:Int)*ent r j=-ent r j by omega];show _↔(ent r j:Rat)<0\/(0<(ent r j:Rat)/\r.1=.eq);rw[iH,qj];constructor
 ·rintro(h|⟨h,e⟩)
  ·exact .inl (by omega)
  ·exact .inr ⟨by omega,e⟩
 ·rintro(h|⟨h,e⟩)
  ·exact .inl (by omega)
  ·exact .inr ⟨by omega,e⟩
theorem Bl(hx:x.length=n+1)(hj:j<=n)(h0:x.getD j 0=0):dz j 1 x r=Nm n (aC n r) (xf x) j:=by
 unfold dz Nm;rw[tW hx hj h0,Int.one_mul];rfl
theorem Bm(hx:x.length=n+1)(hj:j<=n)(h0:x.getD j 0=0):dz j (-1) x r=- Nm n (aC n r) (xf x) j:=by
 unfold dz Nm;rw[tW hx hj h0,show(-1:Int)*ent r j=-ent r j by omega,Rat.intCast_neg];show _=- (_/(ent r j:Rat));grind
def uU (b:Option fk):Option (Bool×Rat):=b.map fun b=>(b.1,b.2.1)
def nI (b:Option fk):Option (Bool×Rat):=b.map fun b=>(b.1,0-b.2.1)
theorem yB(b:Option fk):iX (uU b)=gq b:=by cases b<;>rfl
theorem yC(b:Option fk):iX (nI b)=fT b:=by cases b<;>rfl
theorem pJ(hx:x.length=n+1)(hj:j<=n)(h0:x.getD j 0=0):Top n (rows.map (aC n)) (xf x) j (uU (bY rows j x 1)):=by
 have T:=jm rows j x 1;refine⟨fun e r hr=>?_,fun s v e=>?_⟩
 ·obtain⟨r,cG,rfl⟩:=mem_map.mp hr;rw[<- vA];refine T.none ?_ r cG;cases h:bY rows j x 1 with
  |none=>rfl
  |some b=>rw[h]at e;cases e
 ·cases h:bY rows j x 1 with
  |none=>rw[h]at e;cases e
  |some t=>
   rw[h]at e;have e':(t.1,t.2.1)=(s,v):=Option.some.inj e;injection e' with e1 e2;obtain⟨⟨r,hr,c,k1,k2,_⟩,h2⟩:=T.some t h;refine⟨⟨aC n r,mem_map.mpr ⟨r,hr,rfl⟩,vA.mp c,?_,fun z=>?_⟩,fun r' cG hu=>?_⟩
   ·rw[<- e2,k2,Bl hx hj h0]
   ·rw[<- e1,k1]at z;exact of_decide_eq_true z
   ·obtain⟨r2,lh,rfl⟩:=mem_map.mp cG;obtain⟨a,b⟩:=h2 r2 lh (vA.mpr hu);rw[Bl hx hj h0]at a b;rw[<- e1,<- e2];exact⟨a,b⟩
theorem pK(hx:x.length=n+1)(hj:j<=n)(h0:x.getD j 0=0):Py n (rows.map (aC n)) (xf x) j (nI (bY rows j x (-1))):=by
 have T:=jm rows j x (-1);refine⟨fun e r hr=>?_,fun s v e=>?_⟩
 ·obtain⟨r,cG,rfl⟩:=mem_map.mp hr;rw[<- vB];refine T.none ?_ r cG;cases h:bY rows j x (-1)with
  |none=>rfl
  |some b=>rw[h]at e;cases e
 ·cases h:bY rows j x (-1)with
  |none=>rw[h]at e;cases e
  |some t=>
   rw[h]at e;have e':(t.1,0-t.2.1)=(s,v):=Option.some.inj e;injection e' with e1 e2;obtain⟨⟨r,hr,c,k1,k2,_⟩,h2⟩:=T.some t h;refine⟨⟨aC n r,mem_map.mpr ⟨r,hr,rfl⟩,vB.mp c,?_,fun z=>?_⟩,fun r' cG hu=>?_⟩
   ·rw[<- e2,k2,Bm hx hj h0];grind
   ·rw[<- e1,k1]at z;exact of_decide_eq_true z
   ·obtain⟨r2,lh,rfl⟩:=mem_map.mp cG;obtain⟨a,b⟩:=h2 r2 lh (vB.mpr hu);rw[Bm hx hj h0]at a b;rw[<- e1,<- e2];exact⟨by grind,fun p q=>b p (by grind)⟩
def choice (rows:List Row) (j:Nat) (x:List Rat):Rat:=gx (fT (bY rows j x (-1))) (gq (bY rows j x 1))
def IZ (n j:Nat) (rows Q2:List Row):Prop:=∀x:List Rat,x.length=n+1->x.getD j 0=0->(∀r∈Q2,Hd n (xf x) (aC n r))->∀r∈rows,Hd n (put (xf x) j (choice rows j x)) (aC n r)
variable {St:Nat->Bool} in
theorem Bo(hR:Rs n k rows)(S:Sg n k j J St E B β (rows.map (aC n)))(hj:j<n)(hm:most=E.length+1):
  Rs n k (cQ (cw n k J) j most rows)/\(∃E' B' vR,Sg n k (j+1) J St E' B' vR ((cQ (cw n k J) j most rows).map (aC n))/\iF j most rows=E'.length+1)/\IZ n j rows (cQ (cw n k J) j most rows):=by
 unfold cQ iF;cases hq:dW j rows with
 |none=>
  have P:=yx hR S hq;have S':=S.pairs hj P;rw[show most+1=E.length+2 by omega];refine⟨Eg hR hq,⟨_,_,_,S',by rw[length_cons]⟩,fun x hx h0 hh r hr=>?_⟩;have:=FX (x:=xf x) S' S hj P (fun r hr=>by obtain⟨r,cG,rfl⟩:=mem_map.mp hr;exact hh r cG) (pJ hx (by omega) h0) (pK hx (by omega) h0) (aC n r) (mem_map.mpr ⟨r,hr,rfl⟩);rw[yB,yC]at this;exact this
 |some q=>
  have G:=zu hR S hq;have S':=S.Qx hj G;refine⟨Hi hR S hq,⟨_,_,_,S',hm⟩,fun x hx h0 hh r hr=>?_⟩;have:=FY (x:=xf x) (Nat.le_of_lt hj) G (fun r hr=>by obtain⟨r,cG,rfl⟩:=mem_map.mp hr;exact hh r cG) (fun r hr=>S'.zero r hr j (by omega)) (pJ hx (by omega) h0) (pK hx (by omega) h0) (aC n r) (mem_map.mpr ⟨r,hr,rfl⟩);rw[yB,yC]at this;exact this
structure nj (n k:Nat) (P:Nat->Nat->Rat) (Bd:Nat->Rat) (p:Nat->Rat) (r:Rw):Prop where
 a:∀c,c<n->r.a c=sm k (fun i=>r.w i*P i c)-r.a n*p c
 b:r.b=sm k fun i=>r.w i*Bd i
variable {P:Nat->Nat->Rat} {Bd p:Nat->Rat}
theorem nj.jd{up lo r:Rw}(hu:nj n k P Bd p up)(hl:nj n k P Bd p lo)(h:Jd up lo r j):nj n k P Bd p r:=by
 obtain⟨μ,mp,ea,eb,ew⟩:=h.ex;have key:∀g:Nat->Rat,sm k (fun i=>r.w i*g i)=μ*(-lo.a j*sm k (fun i=>up.w i*g i)+up.a j*sm k (fun i=>lo.w i*g i)):=fun g=>by
  rw[<- bD,<- bD,<- dO,<- bD];exact aO fun i _=>by rw[ew i];grind
 refine⟨fun c hc=>?_,?_⟩
 ·rw[key,ea c,ea n,hu.a c hc,hl.a c hc];grind
 ·rw[key,eb,hu.b,hl.b]
theorem nj.wo{q r r':Rw}(hq:nj n k P Bd p q)(hr:nj n k P Bd p r)(h:Wo q r r' j):nj n k P Bd p r':=by
 obtain⟨μ,mp,ea,eb,ew⟩:=h.ex;have key:∀g:Nat->Rat,sm k (fun i=>r'.w i*g i)=μ*(sm k (fun i=>r.w i*g i)+(-(r.a j/q.a j))*sm k (fun i=>q.w i*g i)):=fun g=>by
  rw[<- bD,<- dO,<- bD];exact aO fun i _=>by rw[ew i];grind
 refine⟨fun c hc=>?_,?_⟩
 ·rw[key,ea c,ea n];generalize r.a j/q.a j=ρ;rw[hr.a c hc,hq.a c hc];grind
 ·rw[key,eb];generalize r.a j/q.a j=ρ;rw[hr.b,hq.b];grind
variable {St:Nat->Bool} in
theorem HP(hR:Rs n k rows)(S:Sg n k j J St E B β (rows.map (aC n)))(hm:most=E.length+1)(h:∀r∈rows,nj n k P Bd p (aC n r)):∀r∈cQ (cw n k J) j most rows,nj n k P Bd p (aC n r):=by
 unfold cQ;cases hq:dW j rows with
 |none=>
  have Pp:=yx hR S hq;rw[show most+1=E.length+2 by omega];intro r hr;rcases Pp.gg (aC n r) (mem_map.mpr ⟨r,hr,rfl⟩)with⟨h1,_⟩|⟨up,hu,lo,hl,_,_,hd⟩
  ·obtain⟨s,hs,e⟩:=mem_map.mp h1;rw[<- e];exact h s hs
  ·obtain⟨up,Fz,rfl⟩:=mem_map.mp hu;obtain⟨lo,jb,rfl⟩:=mem_map.mp hl;exact(h up Fz).jd (h lo jb) hd
 |some q=>
  have G:=zu hR S hq;intro r hr;obtain⟨s,hs,W⟩:=G.gg (aC n r) (mem_map.mpr ⟨r,hr,rfl⟩);obtain⟨s,rC,rfl⟩:=mem_map.mp hs;exact nj.wo (h q (mem_of_find?_eq_some hq)) (h s rC) W
variable {St:Nat->Bool} in
structure Run (n k:Nat) (J St:Nat->Bool) (P:Nat->Nat->Rat) (Bd p:Nat->Rat) (j:Nat) (Ls:List (List Row)) (rows:List Row):Prop where
 len:Ls.length=n-j+1
 head:Ls.getD 0 []=rows
 ext:∀i,j+i<n->IZ n (j+i) (Ls.getD i []) (Ls.getD (i+1) [])
 last:∃E B β,Sg n k n J St E B β ((Ls.getD (n-j) []).map (aC n))
 rs:Rs n k (Ls.getD (n-j) [])
 Ru:∀r∈Ls.getD (n-j) [],nj n k P Bd p (aC n r)
variable {St:Nat->Bool} in
theorem Ee{P:Nat->Nat->Rat}{Bd p:Nat->Rat}:∀(m j most:Nat) (rows:List Row) (E:List Nat) (B:Nat->Nat->Rat) (β:Nat->Rat),j+m=n->most=E.length+1->Rs n k rows->Sg n k j J St E B β (rows.map (aC n))->(∀r∈rows,nj n k P Bd p (aC n r))->
  Run n k J St P Bd p j (lz (cw n k J) m j most rows) rows
 |0,j,most,rows,E,B,β,hj,hm,hR,S,hL=>by
  have e:n-j=0:=by omega
  have e2:j=n:=by omega
  subst e2;refine⟨by rw[e];rfl,rfl,fun i hi=>by omega,?_,?_,?_⟩
  ·rw[e];exact⟨E,B,β,S⟩
  ·rw[e];exact hR
  ·rw[e];exact hL
 |m+1,j,most,rows,E,B,β,hj,hm,hR,S,hL=>by
  obtain⟨W2,⟨E',B',vR,S',wK⟩,hx⟩:=Bo hR S (by omega) hm;have Wd:=HP hR S hm hL;have I:=Ee m (j+1) _ _ E' B' vR (by omega) wK W2 S' Wd;have e:n-j=n-(j+1)+1:=by omega
  refine⟨?_,rfl,fun i hi=>?_,?_,?_,?_⟩
  ·show(lz (cw n k J) m (j+1) _ _).length+1=_;rw[I.len];omega
  ·cases i with
   |zero=>
    show IZ n (j+0) rows ((lz (cw n k J) m (j+1) _ _).getD 0 []);rw[I.head];exact hx
   |succ i=>
    have:=I.ext i (by omega);rw[show j+(i+1)=j+1+i by omega];exact this
  ·rw[e];exact I.last
  ·rw[e];exact I.rs
  ·rw[e];exact I.Ru
variable {m:Nat}
theorem jt(hm:m<x.length):(x.set m v).getD c 0=if c=m then v else x.getD c 0:=by
 rw[getD_eq_getElem?_getD,getD_eq_getElem?_getD];by_cases e:c=m
 ·subst e;rw[if_pos rfl,getElem?_set_self hm];rfl
 ·rw[if_neg e,getElem?_set_ne (Ne.symm e)]
variable {St:Nat->Bool} in
theorem Ju{P:Nat->Nat->Rat}{Bd p:Nat->Rat}{Ls:List (List Row)}{rows:List Row}(I:Run n k J St P Bd p 0 Ls rows):∀(m:Nat) (x:List Rat),m<=n->x.length=n+1->(∀c,c<m->x.getD c 0=0)->(∀r∈Ls.getD m [],Hd n (xf x) (aC n r))->
  (dP Ls m x).length=n+1/\(dP Ls m x).getD n 0=x.getD n 0/\∀r∈rows,Hd n (xf (dP Ls m x)) (aC n r)
 |0,x,hm,hx,h0,hh=>⟨hx,rfl,by rw[<- I.head];exact hh⟩
 |m+1,x,hm,hx,h0,hh=>by
  have ex:=I.ext m (by omega);rw[zero_add]at ex;have h1:=ex x hx (h0 m (by omega)) hh;have fu:m<x.length:=by omega
  have e:xf (x.set m (choice (Ls.getD m []) m x))=put (xf x) m (choice (Ls.getD m []) m x):=funext fun c=>jt fu;obtain⟨a,b,c⟩:=Ju I m (x.set m (choice (Ls.getD m []) m x)) (by omega) (by rw[length_set];exact hx) (fun c hc=>by
   rw[jt fu,if_neg (by omega)];exact h0 c (by omega)) (fun r hr=>by rw[e];exact h1 r hr)
  refine⟨a,?_,c⟩;show(dP Ls m (x.set m (choice (Ls.getD m []) m x))).getD n 0=_;rw[b,jt fu,if_neg (by omega)]
abbrev Ol:=Kn×List Rat×Rat
def ic (qs:List Rat):Nat:=qs.foldl (fun m q=>lcm m q.den) 1
def whole (kd:Kn) (qs:List Rat):Row:=(kd,qs.map fun q=>q.num*((ic qs/q.den:Nat):Int))
def dk (k i:Nat):List Rat:=(List.range k).map fun c=>if i=c then 1 else 0
def cg (k:Nat):Nat->List Ol->List Row
 |_,[]=>[]
 |i,o::os=>whole o.1 (o.2.1++[0,o.2.2]++dk k i)::cg k (i+1) os
def dZ (p:List Rat) (k:Nat):Row:=whole .eq (p.map (fun q=>0-q)++[1,0]++List.replicate k 0)
def bc (p:List Rat) (os:List Ol):List Row:=cg os.length 0 os++[dZ p os.length]
def knd (os:List Ol) (i:Nat):Kn:=(os.getD i (.eq,[],0)).1
def j9 (os:List Ol) (i c:Nat):Rat:=(os.getD i (.eq,[],0)).2.1.getD c 0
def kg (os:List Ol) (i:Nat):Rat:=(os.getD i (.eq,[],0)).2.2
def jO (os:List Ol) (i:Nat):Bool:=decide (knd os i≠.eq)
def sO (os:List Ol) (i:Nat):Bool:=decide (knd os i=.lt)
def bB (p:List Rat) (os:List Ol):List (List Row):=lz (cw p.length os.length (jO os)) p.length 0 1 (bc p os)
theorem lcm_dvd:∀(qs:List Rat) (m:Nat),(∀q∈qs,q.den∣qs.foldl (fun m q=>lcm m q.den) m)/\m∣qs.foldl (fun m q=>lcm m q.den) m
 |[],m=>⟨fun q hq=>by simp at hq,Nat.dvd_refl m⟩
 |y::qs,m=>by
  obtain⟨h1,h2⟩:=lcm_dvd qs (lcm m y.den);rw[foldl_cons];refine⟨fun q hq=>?_,dvd_trans (Nat.dvd_lcm_left _ _) h2⟩;rcases mem_cons.mp hq with e|h
  ·rw[e];exact dvd_trans (Nat.dvd_lcm_right _ _) h2
  ·exact h1 q h
theorem lcm_pos:∀(qs:List Rat) (m:Nat),0<m->0<qs.foldl (fun m q=>lcm m q.den) m
 |[],m,h=>h
 |y::qs,m,h=>lcm_pos qs _ (Nat.lcm_pos h y.den_pos)
theorem sJ(qs:List Rat):0<ic qs:=lcm_pos qs 1 (by decide)
theorem j7(q:Rat):(q.num:Rat)=q*(q.den:Rat):=by
 have e:q=(q.num:Rat)/(q.den:Rat):=by rw[<- Rat.mkRat_eq_div,mkRat_self]
 have h:(q.den:Rat)≠0:=fun z=>q.den_nz (Rat.natCast_eq_zero_iff.mp z);generalize (q.num:Rat)=a at *;generalize (q.den:Rat)=b at *;grind
variable {qs:List Rat}
theorem KA{q:Rat}(h:q∈qs):((q.num*((ic qs/q.den:Nat):Int):Int):Rat)=(ic qs:Rat)*q:=by
 obtain⟨d,hd⟩:=(lcm_dvd qs 1).1 q h;have dF:ic qs=q.den*d:=hd;have e:ic qs/q.den=d:=by rw[dF,Nat.mul_div_cancel_left _ q.den_pos]
 rw[e,intCast_mul,j7 q,dF,Rat.natCast_mul];show q*(q.den:Rat)*(d:Rat)=(q.den:Rat)*(d:Rat)*q;grind
theorem gL{kd:Kn}(c:Nat):((ent (whole kd qs) c:Int):Rat)=(ic qs:Rat)*qs.getD c 0:=by
 unfold ent whole;rw[getD_eq_getElem?_getD,getD_eq_getElem?_getD,getElem?_map];cases h:qs[c]? with
 |none=>show((0:Int):Rat)=_*0;grind
 |some q=>exact KA (mem_of_getElem? h)
theorem iI{ps us:List Rat}{s:Rat}(c:Nat):(ps++[s,b]++us).getD c 0=if c<ps.length then ps.getD c 0 else if c=ps.length then s else if c=ps.length+1 then b else us.getD (c-ps.length-2) 0:=by
 rw[append_assoc];simp only[getD_eq_getElem?_getD];by_cases h:c<ps.length
 ·rw[if_pos h,getElem?_append_left h]
 ·rw[if_neg h,getElem?_append_right (by omega)];by_cases h1:c=ps.length
  ·rw[if_pos h1,h1,Nat.sub_self];rfl
  ·rw[if_neg h1];by_cases h2:c=ps.length+1
   ·rw[if_pos h2,h2,Nat.add_sub_cancel_left];rfl
   ·rw[if_neg h2,show c-ps.length=(c-ps.length-2)+2 by omega];rfl
variable {i:Nat}
theorem H9(hc:c<k):(dk k i).getD c 0=if i=c then 1 else 0:=by
 unfold dk;rw[getD_eq_getElem?_getD,getElem?_map,List.getElem?_range hc];rfl
theorem ot(k i:Nat):(dk k i).length=k:=by unfold dk;rw[length_map,length_range]
theorem pP{f:Nat->Rat}{i:Nat}:∀{k:Nat},i<k->(∀c,c<k->c≠i->f c=0)->sm k f=f i
 |0,h,_=>by omega
 |k+1,h,hz=>by
  show sm k f+f k=f i;by_cases e:i=k
  ·subst e;rw[i7 fun c hc=>hz c (by omega) (by omega)];grind
  ·rw[pP (i:=i) (by omega) fun c hc cx=>hz c (by omega) cx,hz k (by omega) (by omega)];grind
theorem rp(h:0<m):0<(m:Rat):=by
 have:((0:Nat):Rat)<(m:Rat):=Rat.natCast_lt_natCast.mpr h;exact this
structure ng (n k:Nat) (os:List Ol) (i:Nat) (r:Row):Prop where
 kd:r.1=knd os i
 len:r.2.length=n+2+k
 ex:∃M:Rat,0<M/\(∀c,c<n->(aC n r).a c=M*j9 os i c)/\(aC n r).a n=0/\(aC n r).b=M*kg os i/\∀c,c<k->(aC n r).w c=if i=c then M else 0
structure DB (n k:Nat) (p:List Rat) (r:Row):Prop where
 kd:r.1=.eq
 len:r.2.length=n+2+k
 ex:∃M:Rat,0<M/\(∀c,c<n->(aC n r).a c=- (M*p.getD c 0))/\(aC n r).a n=M/\(aC n r).b=0/\∀c,c<k->(aC n r).w c=0
variable {os:List Ol}
theorem tK{o:Ol}(ho:os[i]?=some o)(hl:o.2.1.length=n)(hk:i<k):ng n k os i (whole o.1 (o.2.1++[0,o.2.2]++dk k i)):=by
 have e0:os.getD i (.eq,[],0)=o:=by rw[getD_eq_getElem?_getD,ho];rfl
 refine⟨by unfold knd;rw[e0];rfl,?_,(ic (o.2.1++[0,o.2.2]++dk k i):Rat),rp (sJ _),fun c hc=>?_,?_,?_,fun c hc=>?_⟩
 ·show(List.map _ _).length=_;rw[length_map,length_append,length_append,ot,hl];rfl
 ·show((ent _ c:Int):Rat)=_;rw[gL,iI,if_pos (by omega)];unfold j9;rw[e0]
 ·show((ent _ n:Int):Rat)=_;rw[gL,iI,if_neg (by omega),if_pos hl.symm];grind
 ·show((ent _ (n+1):Int):Rat)=_;rw[gL,iI,if_neg (by omega),if_neg (by omega),if_pos (by omega)];unfold kg;rw[e0]
 ·show((ent _ (n+2+c):Int):Rat)=_;rw[gL,iI,if_neg (by omega),if_neg (by omega),if_neg (by omega),show n+2+c-o.2.1.length-2=c by omega,H9 hc];split<;>grind
variable {p:List Rat}
theorem xW(k:Nat):DB p.length k p (dZ p k):=by
 have hl:(p.map (fun q=>0-q)).length=p.length:=length_map ..;refine⟨rfl,?_,(ic (p.map (fun q=>0-q)++[1,0]++List.replicate k 0):Rat),rp (sJ _),fun c hc=>?_,?_,?_,fun c hc=>?_⟩
 ·show(List.map _ _).length=_;rw[length_map,length_append,length_append,length_replicate,hl];rfl
 ·show((ent (dZ p k) c:Int):Rat)=_;unfold dZ;rw[gL,iI,if_pos (by omega)];have:(p.map (fun q=>0-q)).getD c 0=- p.getD c 0:=by
   rw[getD_eq_getElem?_getD,getD_eq_getElem?_getD,getElem?_map];cases p[c]? with
   |none=>show(0:Rat)=-0;grind
   |some q=>show 0-q=-q;grind
  rw[this];grind
 ·show((ent (dZ p k) p.length:Int):Rat)=_;unfold dZ;rw[gL,iI,if_neg (by omega),if_pos hl.symm];grind
 ·show((ent (dZ p k) (p.length+1):Int):Rat)=_;unfold dZ;rw[gL,iI,if_neg (by omega),if_neg (by omega),if_pos (by omega)];grind
 ·show((ent (dZ p k) (p.length+2+c):Int):Rat)=_;unfold dZ;rw[gL,iI,if_neg (by omega),if_neg (by omega),if_neg (by omega)];have:(List.replicate k (0:Rat)).getD (p.length+2+c-(p.map (fun q=>0-q)).length-2) 0=0:=by
   rw[getD_eq_getElem?_getD,getElem?_replicate];split<;>rfl
  rw[this];grind
theorem kT{n k:Nat}{os:List Ol}:∀(l:List Ol) (i0:Nat),(∀i,i<l.length->os[i0+i]?=l[i]?)->(∀o∈l,o.2.1.length=n)->i0+l.length<=k->∀r,r∈cg k i0 l↔∃i o,i<l.length/\l[i]?=some o/\r=whole o.1 (o.2.1++[0,o.2.2]++dk k (i0+i))
 |[],i0,_,_,_,r=>by simp[cg]
 |o::l,i0,h1,h2,h3,r=>by
  have ih:=kT (n:=n) (k:=k) (os:=os) l (i0+1) (fun i hi=>by
   have:=h1 (i+1) (by rw[length_cons];omega);rw[show i0+1+i=i0+(i+1) by omega,this];rfl) (fun o ho=>h2 o (mem_cons_of_mem _ ho)) (by rw[length_cons]at h3;omega) r
  show r∈whole o.1 (o.2.1++[0,o.2.2]++dk k i0)::cg k (i0+1) l↔_;rw[mem_cons,ih];constructor
  ·rintro(e|⟨i,o',hi,mW,e⟩)
   ·exact⟨0,o,by rw[length_cons];omega,rfl,e⟩
   ·exact⟨i+1,o',by rw[length_cons];omega,mW,by rw[show i0+(i+1)=i0+1+i by omega];exact e⟩
  ·rintro⟨i,o',hi,mW,e⟩;cases i with
   |zero=>cases mW;exact .inl e
   |succ i=>exact .inr ⟨i,o',by rw[length_cons]at hi;omega,mW,by rw[show i0+1+i=i0+(i+1) by omega];exact e⟩
theorem jo(hl:∀o∈os,o.2.1.length=p.length)(hr:r∈bc p os):(∃i,i<os.length/\ng p.length os.length os i r)\/DB p.length os.length p r:=by
 unfold bc at hr;rcases mem_append.mp hr with h|h
 ·obtain⟨i,o,hi,ho,e⟩:=(kT (n:=p.length) (os:=os) os 0 (fun i _=>by rw[zero_add]) hl (by omega) r).mp h;rw[zero_add]at e;exact .inl ⟨i,hi,by rw[e];exact tK ho (hl o (mem_of_getElem? ho)) hi⟩
 ·rw[mem_singleton.mp h];exact .inr (xW _)
theorem ya(hl:∀o∈os,o.2.1.length=p.length)(hi:i<os.length):∃r∈bc p os,ng p.length os.length os i r:=by
 have ho:=getElem?_eq_getElem hi;refine⟨_,mem_append.mpr (.inl ((kT (n:=p.length) (os:=os) os 0 (fun i _=>by rw[zero_add]) hl (by omega) _).mpr ⟨i,_,hi,ho,rfl⟩)),?_⟩;rw[zero_add];exact tK ho (hl _ (mem_of_getElem? ho)) hi
theorem sQ(hl:∀o∈os,o.2.1.length=p.length):Rs p.length os.length (bc p os):=by
 refine⟨fun r hr=>(jo hl hr).elim (fun⟨i,hi,h⟩=>h.len) (·.len),fun r hr he=>?_⟩;have uniq:∀{r s:Row} {i:Nat},r∈bc p os->s∈bc p os->ng p.length os.length os i r->ng p.length os.length os i s->i<os.length->r=s:=by
  intro r s i hr hs h1 h2 hi

  have key:∀{t:Row},t∈bc p os->ng p.length os.length os i t->t=whole (os[i]).1 ((os[i]).2.1++[0,(os[i]).2.2]++dk os.length i):=by
   intro t ht hT;obtain⟨M,mp,_,a1,_,w1⟩:=hT.ex;unfold bc at ht;rcases mem_append.mp ht with h|h
   ·obtain⟨i',o,gP,ho,e⟩:=(kT (n:=p.length) (os:=os) os 0 (fun i _=>by rw[zero_add]) hl (by omega) t).mp h;rw[zero_add]at e;have hR:=tK (n:=p.length) (k:=os.length) ho (hl o (mem_of_getElem? ho)) gP;rw[<- e]at hR;obtain⟨M',EY,_,_,_,w2⟩:=hR.ex;have x1:=w1 i hi;have x2:=w2 i hi;rw[if_pos rfl]at x1;have:i'=i:=by
     apply Classical.byContradiction
     intro z;rw[if_neg z,x1]at x2;grind
    subst this;have:o=os[i']:=by
     have:=getElem?_eq_getElem gP;rw[ho]at this;exact Option.some.inj this
    rw[e,this]
   ·rw[mem_singleton.mp h]at a1;obtain⟨M',EY,_,a2,_⟩:=(xW (p:=p) os.length).ex;rw[a1]at a2;grind
  rw[key hr h1,key hs h2]
 rcases jo hl hr with⟨i,hi,h⟩|h
 ·obtain⟨M,mp,_,_,_,w1⟩:=h.ex;refine⟨p.length+2+i,fun z=>?_,fun s hs JQ cx=>?_⟩
  ·have:=w1 i hi;rw[if_pos rfl]at this;have:(ent r (p.length+2+i):Rat)=M:=this;rw[z]at this;have:(0:Rat)=M:=this;grind
  ·rcases jo hl hs with⟨i',gP,h'⟩|h'
   ·obtain⟨M',EY,_,_,_,w2⟩:=h'.ex;have e:=w2 i hi;have:i'≠i:=fun z=>cx (uniq hs hr (z▸h') h hi);rw[if_neg this]at e;exact bK.mp e
   ·obtain⟨M',EY,_,_,_,w2⟩:=h'.ex;exact bK.mp (w2 i hi)
 ·obtain⟨M,mp,_,a1,_,w1⟩:=h.ex;refine⟨p.length,fun z=>?_,fun s hs JQ cx=>?_⟩
  ·have:(ent r p.length:Rat)=M:=a1;rw[z]at this;have:(0:Rat)=M:=this;grind
  ·rcases jo hl hs with⟨i',gP,h'⟩|h'
   ·obtain⟨M',EY,_,a2,_⟩:=h'.ex;exact bK.mp a2
   ·
    exfalso;apply cx
    have key:∀{t:Row},t∈bc p os->DB p.length os.length p t->t=dZ p os.length:=by
     intro t ht hT;unfold bc at ht;rcases mem_append.mp ht with h|h
     ·obtain⟨i',o,gP,ho,e⟩:=(kT (n:=p.length) (os:=os) os 0 (fun i _=>by rw[zero_add]) hl (by omega) t).mp h;rw[zero_add]at e;have hR:=tK (n:=p.length) (k:=os.length) ho (hl o (mem_of_getElem? ho)) gP;rw[<- e]at hR;obtain⟨M',EY,_,a3,_⟩:=hR.ex;obtain⟨M2,mp2,_,a4,_⟩:=hT.ex;rw[a3]at a4;grind
     ·exact mem_singleton.mp h
    rw[key hs h',key hr h]
theorem zy(hl:∀o∈os,o.2.1.length=p.length):Sg p.length os.length 0 (jO os) (sO os) [] (fun i c=>if c<p.length then j9 os i c else 0) (kg os) ((bc p os).map (aC p.length)):=by
 have EV:∀{r:Row},r∈bc p os->r.1≠.eq->∃i,i<os.length/\ng p.length os.length os i r/\jO os i=true:=fun hr hk=>by
  rcases jo hl hr with⟨i,hi,h⟩|h
  ·refine⟨i,hi,h,?_⟩;unfold jO;rw[h.kd]at hk;exact decide_eq_true hk
  ·exact absurd h.kd hk
 have Ja:∀{r:Row} {i:Nat} {M:Rat},jO os i=true->(∀c,c<os.length->(aC p.length r).w c=if i=c then M else 0)->∀c,c<os.length->uo (jO os) (aC p.length r) c=if i=c then M else 0:=by
  intro r i M hj hw c hc;unfold uo;by_cases e:i=c
  ·subst e;rw[if_pos hj,hw i hc]
  ·rw[if_neg e];split
   ·rw[hw c hc,if_neg e]
   ·rfl
 refine⟨by omega,fun r hr c hc=>by omega,fun c hc=>by simp at hc,fun r hr he i hi hj=>?_,fun r hr he i hi hj=>?_,fun r hr he=>?_,fun r hr he=>?_,fun r hr he c hc=>?_,fun r hr he=>?_,fun u hu=>?_⟩
 ·obtain⟨r,lh,rfl⟩:=mem_map.mp hr;rcases jo hl lh with⟨i',gP,h⟩|h
  ·obtain⟨M,mp,_,_,_,w1⟩:=h.ex;rw[w1 i hi];apply if_neg
   intro e;subst e;have h1:r.1=.eq:=he;rw[h.kd]at h1;unfold jO at hj;exact of_decide_eq_true hj h1
  ·obtain⟨M,mp,_,_,_,w1⟩:=h.ex;exact w1 i hi
 ·obtain⟨r,hr,rfl⟩:=mem_map.mp hr;obtain⟨i',gP,h,qp⟩:=EV (by assumption) he;obtain⟨M,mp,_,_,_,w1⟩:=h.ex;rw[w1 i hi];split<;>grind
 ·obtain⟨r,hr,rfl⟩:=mem_map.mp hr;obtain⟨i',gP,h,qp⟩:=EV (by assumption) he;obtain⟨M,mp,_,_,_,w1⟩:=h.ex;exact⟨i',gP,qp,by rw[w1 i' gP,if_pos rfl];exact mp⟩
 ·obtain⟨r,hr,rfl⟩:=mem_map.mp hr;obtain⟨i',gP,h,qp⟩:=EV (by assumption) he;obtain⟨M,mp,_,_,_,w1⟩:=h.ex;have hk:(aC p.length r).kd=knd os i':=h.kd;rw[hk];constructor
  ·intro e;exact⟨i',gP,qp,decide_eq_true e,by rw[w1 i' gP,if_pos rfl];exact mp⟩
  ·rintro⟨i,hi,_,hs,hp⟩;rw[w1 i hi]at hp;by_cases e:i'=i
   ·subst e;exact of_decide_eq_true hs
   ·rw[if_neg e]at hp;grind
 ·obtain⟨r,hr,rfl⟩:=mem_map.mp hr;obtain⟨i',gP,h,qp⟩:=EV (by assumption) he;obtain⟨M,mp,a1,a2,_,w1⟩:=h.ex;have e:=pP (k:=os.length) (i:=i') (f:=fun i=>uo (jO os) (aC p.length r) i*(if c<p.length then j9 os i c else 0)) gP (fun c' ir cx=>by rw[Ja qp w1 c' ir,if_neg (Ne.symm cx)];grind);rw[e,Ja qp w1 i' gP,if_pos rfl];by_cases BD:c<p.length
  ·rw[if_pos BD,a1 c BD]
  ·rw[if_neg BD,show c=p.length by omega,a2];grind
 ·obtain⟨r,hr,rfl⟩:=mem_map.mp hr;obtain⟨i',gP,h,qp⟩:=EV (by assumption) he;obtain⟨M,mp,_,_,b1,w1⟩:=h.ex;have e:=pP (k:=os.length) (i:=i') (f:=fun i=>uo (jO os) (aC p.length r) i*kg os i) gP (fun c' ir cx=>by rw[Ja qp w1 c' ir,if_neg (Ne.symm cx)];grind);rw[e,Ja qp w1 i' gP,if_pos rfl,b1]
 ·
  obtain⟨i,hi,cx⟩:=hu.ne;have hj:jO os i=true:=by
   apply Classical.byContradiction
   intro z;exact cx (hu.gY.off i hi z)
  have ce:jx os.length (fun i=>jO os i=true) [] (fun i c=>if c<p.length then j9 os i c else 0) (fun c=>if i=c then 1 else 0):=by
   refine⟨fun c hc=>?_,fun c hc hz=>if_neg fun(e:i=c)=>hz (e▸hj),fun c hc=>by simp at hc⟩;show(0:Rat)<=if i=c then 1 else 0;split<;>grind
  obtain⟨c,c0,hc⟩:=hu.alone _ ce fun i' gP z=>if_neg fun(e:i=i')=>cx (e▸z);obtain⟨r,hr,hR⟩:=ya hl hi;obtain⟨M,mp,_,_,_,w1⟩:=hR.ex;have e1:=hc i hi;rw[if_pos rfl]at e1;have cp:0<c:=by
   rcases Rat.le_iff_lt_or_eq.mp c0 with h|h
   ·exact h
   ·rw[<- h]at e1;grind
  refine⟨aC p.length r,mem_map.mpr ⟨r,hr,rfl⟩,?_,M*c,bE mp cp,fun i' gP qp=>?_⟩
  ·show r.1≠.eq;rw[hR.kd];unfold jO at hj;exact of_decide_eq_true hj
  ·have e2:=hc i' gP;rw[w1 i' gP];split
   ·rename_i e;rw[if_pos e]at e2;rw[show M*c*u i'=M*(c*u i') by grind,<- e2];grind
   ·rename_i e;rw[if_neg e]at e2;rw[show M*c*u i'=M*(c*u i') by grind,<- e2];grind
theorem FV(hl:∀o∈os,o.2.1.length=p.length):∀r∈bc p os,nj p.length os.length (j9 os) (kg os) (fun c=>p.getD c 0) (aC p.length r):=by
 intro r hr;rcases jo hl hr with⟨i,hi,h⟩|h
 ·obtain⟨M,mp,a1,a2,b1,w1⟩:=h.ex;refine⟨fun c hc=>?_,?_⟩
  ·rw[pP (k:=os.length) (i:=i) (f:=fun i=>(aC p.length r).w i*j9 os i c) hi (fun c' ir cx=>by rw[w1 c' ir,if_neg (Ne.symm cx)];grind),w1 i hi,if_pos rfl,a1 c hc,a2];grind
  ·rw[pP (k:=os.length) (i:=i) (f:=fun i=>(aC p.length r).w i*kg os i) hi (fun c' ir cx=>by rw[w1 c' ir,if_neg (Ne.symm cx)];grind),w1 i hi,if_pos rfl,b1]
 ·obtain⟨M,mp,a1,a2,b1,w1⟩:=h.ex;refine⟨fun c hc=>?_,?_⟩
  ·rw[i7 (k:=os.length) (f:=fun i=>(aC p.length r).w i*j9 os i c) (fun c' ir=>by rw[w1 c' ir];grind),a1 c hc,a2];grind
  ·rw[i7 (k:=os.length) (f:=fun i=>(aC p.length r).w i*kg os i) (fun c' ir=>by rw[w1 c' ir];grind),b1]
theorem tx(hl:∀o∈os,o.2.1.length=p.length):Run p.length os.length (jO os) (sO os) (j9 os) (kg os) (fun c=>p.getD c 0) 0 (bB p os) (bc p os):=
 Ee p.length 0 1 (bc p os) [] _ _ (by omega) rfl (sQ hl) (zy hl) (FV hl)
def fZ (strict:Bool) (β:Rat) (kt:Bool) (v:Rat):Bool:=if v=β then(!strict || kt)else decide (v<β)
def aF (p:List Rat) (os:List Ol):List Row:=(bB p os).getD p.length []
def beyond (p:List Rat) (os:List Ol) (β:Rat):List Rat:=dB (bB p os) p.length (dX p.length (aF p os) β)
def bb (strict:Bool) (p:List Rat) (β:Rat) (os:List Ol):Bool×List Rat:=match never p.length (aF p os)with
 |some w=>(true,w)
 |none=>match endOf p.length (aF p os) 1 with
  |none=>(false,beyond p os β)
  |some t=>if fZ strict β t.1 t.2.1=true then(true,t.2.2)else(false,beyond p os β)
def jQ (os:List Ol) (ws:List Rat) (c:Nat):Rat:=sm os.length fun i=>ws.getD i 0*j9 os i c
def kZ (os:List Ol) (ws:List Rat):Rat:=sm os.length fun i=>ws.getD i 0*kg os i
def uW (os:List Ol) (ws:List Rat):Prop:=∃i,i<os.length/\knd os i=.lt/\0<ws.getD i 0
structure Pz (os:List Ol) (ws:List Rat):Prop where
 len:ws.length=os.length
 nn:∀i,i<os.length->knd os i≠.eq->0<=ws.getD i 0
def Right (os:List Ol) (ws:List Rat) (strict:Bool) (p:List Rat) (β:Rat):Prop:=
 Pz os ws/\(((∀c,c<p.length->jQ os ws c=p.getD c 0)/\(kZ os ws<β\/(kZ os ws=β/\(strict=false\/uW os ws))))\/((∀c,c<p.length->jQ os ws c=0)/\(kZ os ws<0\/(kZ os ws=0/\uW os ws))))
def aV (p x:List Rat):Rat:=sm p.length fun c=>p.getD c 0*x.getD c 0
def jD (o:Ol) (x:List Rat):Prop:=rel o.1 (aV o.2.1 x) o.2.2
structure uQ (os:List Ol) (strict:Bool) (p:List Rat) (β:Rat) (x:List Rat):Prop where
 len:x.length=p.length
 others:∀o∈os,jD o x
 line:¬rel (if strict=true then .lt else .le) (aV p x) β
theorem sR{f:Int->Rat}(f0:f 0=0):((l.drop m).map f).getD i 0=f (l.getD (m+i) 0):=by
 rw[getD_eq_getElem?_getD,getD_eq_getElem?_getD,getElem?_map,List.getElem?_drop];cases l[m+i]? with
 |none=>exact f0.symm
 |some x=>rfl
theorem UB(q:Rat):((0:Int):Rat)/q=0:=by
 show(0:Rat)/q=0;grind
theorem om(n c:Nat):(List.replicate n (0:Rat)).getD c 0=0:=by
 rw[getD_eq_getElem?_getD,getElem?_replicate];split<;>rfl
theorem wC:lB r (List.replicate (n+1) 0)=(aC n r).b:=by
 rw[yI (n:=n) (by rw[length_replicate])];have:vl n (aC n r) (xf (List.replicate (n+1) 0))=0:=i7 fun c _=>by
  show _*(List.replicate (n+1) (0:Rat)).getD c 0=0;rw[om];grind
 rw[this];grind
structure SM (p:List Rat) (os:List Ol) (r:Row):Prop where
 len:r.2.length=p.length+2+os.length
 sums:∀c,c<p.length->sm os.length (fun i=>(aC p.length r).w i*j9 os i c)=(aC p.length r).a p.length*p.getD c 0
 bd:sm os.length (fun i=>(aC p.length r).w i*kg os i)=(aC p.length r).b
 wW:r.1=.eq->∀i,i<os.length->knd os i≠.eq->(aC p.length r).w i=0
 nn:r.1≠.eq->∀i,i<os.length->knd os i≠.eq->0<=(aC p.length r).w i
 st:r.1=.lt->∃i,i<os.length/\knd os i=.lt/\0<(aC p.length r).w i
 zero:∀c,c<p.length->(aC p.length r).a c=0
theorem F1(hl:∀o∈os,o.2.1.length=p.length)(hr:r∈aF p os):SM p os r:=by
 have I:=tx hl;obtain⟨E,B,β,S⟩:=I.last;have L:=I.Ru r (by rw[sub_zero];exact hr);have mem:aC p.length r∈((bB p os).getD (p.length-0) []).map (aC p.length):=mem_map.mpr ⟨r,by rw[sub_zero];exact hr,rfl⟩;have z:∀c,c<p.length->(aC p.length r).a c=0:=fun c hc=>S.zero _ mem c hc;refine⟨I.rs.len r (by rw[sub_zero];exact hr),fun c hc=>?_,L.b.symm,fun he i hi hk=>S.wW _ mem he i hi (decide_eq_true hk),fun he i hi hk=>S.nn _ mem he i hi (decide_eq_true hk),fun he=>?_,z⟩
 ·have:=L.a c hc;rw[z c hc]at this;grind
 ·obtain⟨i,hi,_,hs,hp⟩:=(S.st _ mem (by show r.1≠.eq;rw[he];simp)).mp he;exact⟨i,hi,of_decide_eq_true hs,hp⟩
structure Pf (p:List Rat) (os:List Ol) (ws:List Rat) (s b:Rat) (str:Bool):Prop where
 uz:Pz os ws
 parts:∀c,c<p.length->jQ os ws c=s*p.getD c 0
 bd:kZ os ws=b
 st:str=true->uW os ws
variable {ws:List Rat}
theorem qa{q:Rat}(h:SM p os r)(hlen:ws.length=os.length)(hw:∀i,i<os.length->ws.getD i 0=q*(aC p.length r).w i)(hq:0<q\/r.1=.eq):Pf p os ws (q*(aC p.length r).a p.length) (q*(aC p.length r).b) (decide (r.1=.lt)):=by
 refine⟨⟨hlen,fun i hi hk=>?_⟩,fun c hc=>?_,?_,fun e=>?_⟩
 ·rw[hw i hi];by_cases he:r.1=.eq
  ·rw[h.wW he i hi hk];grind
  ·rcases hq with hq|hq
   ·exact cV (le_of_lt hq) (h.nn he i hi hk)
   ·exact absurd hq he
 ·unfold jQ;rw[aO (g:=fun i=>q*((aC p.length r).w i*j9 os i c)) (fun i hi=>by rw[hw i hi];grind),bD,h.sums c hc];grind
 ·unfold kZ;rw[aO (g:=fun i=>q*((aC p.length r).w i*kg os i)) (fun i hi=>by rw[hw i hi];grind),bD,h.bd]
 ·have e':=of_decide_eq_true e;obtain⟨i,hi,hk,hp⟩:=h.st e';refine⟨i,hi,hk,?_⟩;rw[hw i hi];rcases hq with hq|hq
  ·exact bE hq hp
  ·rw[e']at hq;cases hq
theorem vz(hl:∀o∈os,o.2.1.length=p.length)(ie:way=1\/way=-1){t:fk}(h:endOf p.length (aF p os) way=some t):Pf p os t.2.2 (way:Rat) t.2.1 t.1:=by
 obtain⟨⟨r,hr,hc,k1,k2,k3⟩,_⟩:=(jm (aF p os) p.length (List.replicate (p.length+1) 0) way).some t h;have L:=F1 hl hr;have oO:way*ent r p.length≠0:=by rcases hc with hc|⟨hc,_⟩<;>omega
 have qne:((way*ent r p.length:Int):Rat)≠0:=fun z=>oO (bK.mp z);have yU:0<((way*ent r p.length:Int):Rat)⁻¹\/r.1=.eq:=by
  rcases hc with hc|⟨_,e⟩
  ·exact .inl (inv_pos.mpr (iH.mpr hc))
  ·exact .inr e
 have hlen:t.2.2.length=os.length:=by
  rw[k3];unfold mL;rw[length_map,length_drop,L.len,length_replicate];omega
 have hw:∀i,i<os.length->t.2.2.getD i 0=((way*ent r p.length:Int):Rat)⁻¹*(aC p.length r).w i:=fun i hi=>by
  rw[k3];unfold mL;rw[length_replicate,sR (UB _)];show(ent r (p.length+1+1+i):Rat)/_=_*(ent r (p.length+2+i):Rat);rw[show p.length+1+1+i=p.length+2+i by omega];grind
 have P:=qa L hlen hw yU;have e1:((way*ent r p.length:Int):Rat)⁻¹*(aC p.length r).a p.length=(way:Rat):=by
  show((way*ent r p.length:Int):Rat)⁻¹*(ent r p.length:Rat)=(way:Rat);have a0:(ent r p.length:Rat)≠0:=fun z=>oO (by rw[bK.mp z];omega);rw[intCast_mul];rcases ie with e|e
  ·subst e;rw[Rat.intCast_one];grind
  ·subst e;have:((-1:Int):Rat)=-1:=rfl;rw[this];grind
 have e2:((way*ent r p.length:Int):Rat)⁻¹*(aC p.length r).b=t.2.1:=by
  rw[k2];unfold dz;rw[wC];grind
 rw[e1,e2,<- k1]at P;exact P
theorem yd{s strict:Bool}{β:Rat}(P:Pf p os ws 1 b s)(h:fZ strict β s b=true):Right os ws strict p β:=by
 refine⟨P.uz,.inl ⟨fun c hc=>by rw[P.parts c hc];grind,?_⟩⟩;rw[P.bd];unfold fZ at h;split at h
 ·rename_i e;refine .inr ⟨e,?_⟩;cases strict with
  |false=>exact .inl rfl
  |true=>cases s with
   |false=>simp at h
   |true=>exact .inr (P.st rfl)
 ·exact .inl (of_decide_eq_true h)
theorem Ag(hl:∀o∈os,o.2.1.length=p.length)(h:never p.length (aF p os)=some ws):Pz os ws/\(∀c,c<p.length->jQ os ws c=0)/\(kZ os ws<0\/(kZ os ws=0/\uW os ws)):=by
 unfold never at h;cases hr:eZ p.length (aF p os)with
 |some w=>
  rw[hr]at h;cases h;unfold eZ at hr;obtain⟨r,hf,e⟩:∃r,(aF p os).find? (fun r=>decide (ent r p.length=0)&&cD r.1 (ent r (p.length+1):Rat))=some r/\_=ws:=by
   cases hf:(aF p os).find? (fun r=>decide (ent r p.length=0)&&cD r.1 (ent r (p.length+1):Rat))with
   |none=>rw[hf]at hr;cases hr
   |some r=>rw[hf]at hr;exact⟨r,rfl,Option.some.inj hr⟩
  have hm:=mem_of_find?_eq_some hf;have hp:=find?_some hf;rw[and_eq_true,decide_eq_true_iff]at hp;obtain⟨h0,hn⟩:=hp;have L:=F1 hl hm;have hlen:ws.length=os.length:=by rw[<- e,length_map,length_drop,L.len];omega
  by_cases hw:r.1=.eq/\0<ent r (p.length+1)
  ·have yQ:∀i,i<os.length->ws.getD i 0=(-1)*(aC p.length r).w i:=fun i hi=>by
    rw[<- e,if_pos hw,sR (f:=fun(w:Int)=>(((-1:Int)*w:Int):Rat)) rfl,intCast_mul];rfl
   have P:=qa L hlen yQ (.inr hw.1);refine⟨P.uz,fun c hc=>?_,.inl ?_⟩
   ·rw[P.parts c hc];have:(aC p.length r).a p.length=0:=bK.mpr h0;rw[this];grind
   ·rw[P.bd];have:0<(aC p.length r).b:=iH.mpr hw.2;grind
  ·have yQ:∀i,i<os.length->ws.getD i 0=1*(aC p.length r).w i:=fun i hi=>by
    rw[<- e,if_neg hw,sR (f:=fun(w:Int)=>(((1:Int)*w:Int):Rat)) rfl,intCast_mul];rfl
   have P:=qa L hlen yQ (.inl (by grind));have a0:(aC p.length r).a p.length=0:=bK.mpr h0;refine⟨P.uz,fun c hc=>by rw[P.parts c hc,a0];grind,?_⟩;rw[P.bd];have eb:1*(aC p.length r).b=(ent r (p.length+1):Rat):=by show 1*(ent r (p.length+1):Rat)=_;grind
   rw[eb];cases hk:r.1 with
   |eq=>
    rw[hk]at hn;have lj:(ent r (p.length+1):Rat)≠0:=of_decide_eq_true hn;have RL:¬0<ent r (p.length+1):=fun z=>hw ⟨hk,z⟩;have hn3:ent r (p.length+1)≠0:=fun z=>lj (by rw[z];rfl);exact .inl (qj.mpr (by omega))
   |le=>rw[hk]at hn;exact .inl (of_decide_eq_true hn)
   |lt=>
    rw[hk]at hn;have lj:(decide ((ent r (p.length+1):Rat)<0) || decide ((ent r (p.length+1):Rat)=0))=true:=hn;rw[or_eq_true,decide_eq_true_iff,decide_eq_true_iff]at lj;rcases lj with z|z
    ·exact .inl z
    ·exact .inr ⟨z,P.st (decide_eq_true hk)⟩
 |none=>
  rw[hr]at h;have h':fq p.length (aF p os)=some ws:=h;unfold fq at h';cases ht:endOf p.length (aF p os) 1 with
  |none=>rw[ht]at h';cases h'
  |some t=>
   cases hb:endOf p.length (aF p os) (-1)with
   |none=>rw[ht,hb]at h';cases h'
   |some b=>
    rw[ht,hb]at h';have h2:(if cD (if t.1=true\/b.1=true then .lt else .le) (t.2.1+b.2.1)=true then some (zipWith (fun x y=>x+y) t.2.2 b.2.2)else none)=some ws:=h';by_cases hn:cD (if t.1=true\/b.1=true then .lt else .le) (t.2.1+b.2.1)=true
    ·rw[if_pos hn]at h2;have e:=Option.some.inj h2;have Pt:=vz hl (.inl rfl) ht;have Pb:=vz hl (.inr rfl) hb;have c1:((1:Int):Rat)=1:=rfl;have c2:((-1:Int):Rat)=-1:=rfl;rw[c1]at Pt;rw[c2]at Pb;have hlen:ws.length=os.length:=by rw[<- e,length_zipWith,Pt.uz.len,Pb.uz.len,min_self]
     have hw:∀i,i<os.length->ws.getD i 0=t.2.2.getD i 0+b.2.2.getD i 0:=fun i hi=>by
      rw[<- e,getD_eq_getElem?_getD,getD_eq_getElem?_getD,getD_eq_getElem?_getD,List.getElem?_zipWith,getElem?_eq_getElem (by rw[Pt.uz.len];exact hi),getElem?_eq_getElem (by rw[Pb.uz.len];exact hi)];rfl
     have Rk:=Pt.uz.nn;have Rm:=Pb.uz.nn;have hs:(t.1=true\/b.1=true)->uW os ws:=by
      rintro(z|z)
      ·obtain⟨i,hi,hk,hp⟩:=Pt.st z;have:=Rm i hi (by rw[hk];simp);exact⟨i,hi,hk,by rw[hw i hi];grind⟩
      ·obtain⟨i,hi,hk,hp⟩:=Pb.st z;have:=Rk i hi (by rw[hk];simp);exact⟨i,hi,hk,by rw[hw i hi];grind⟩
     have WI:kZ os ws=t.2.1+b.2.1:=by
      rw[<- Pt.bd,<- Pb.bd];unfold kZ;rw[<- dO];exact aO fun i hi=>by rw[hw i hi];grind
     refine⟨⟨hlen,fun i hi hk=>?_⟩,fun c hc=>?_,?_⟩
     ·have a:=Rk i hi hk;have b':=Rm i hi hk;rw[hw i hi];grind
     ·have e1:jQ os ws c=jQ os t.2.2 c+jQ os b.2.2 c:=by
       unfold jQ;rw[<- dO];exact aO fun i hi=>by rw[hw i hi];grind
      rw[e1,Pt.parts c hc,Pb.parts c hc];grind
     ·rw[WI];split at hn
      ·rename_i hst;have lj:(decide (t.2.1+b.2.1<0) || decide (t.2.1+b.2.1=0))=true:=hn;rw[or_eq_true,decide_eq_true_iff,decide_eq_true_iff]at lj;exact lj.elim .inl fun z=>.inr ⟨z,hs hst⟩
      ·exact .inl (of_decide_eq_true hn)
    ·rw[if_neg hn]at h2;cases h2
theorem uS(n:Nat)(t:Rat):xf (List.replicate n 0++[t])=put (xf (List.replicate (n+1) 0)) n t:=funext fun c=>by
 show(List.replicate n 0++[t]).getD c 0=if c=n then t else(List.replicate (n+1) (0:Rat)).getD c 0;rw[om,getD_eq_getElem?_getD];by_cases e:c=n
 ·rw[if_pos e,e,getElem?_append_right (by rw[length_replicate];omega),length_replicate,Nat.sub_self];rfl
 ·rw[if_neg e];by_cases h:c<n
  ·rw[getElem?_append_left (by rw[length_replicate];exact h),getElem?_replicate,if_pos h];rfl
  ·rw[List.getElem?_eq_none (by rw[length_append,length_replicate,length_singleton];omega)];rfl
theorem DR{y:Nat->Rat}(h:ng p.length os.length os i r)(hy:∀c,c<p.length->y c=x.getD c 0)(ho:(os.getD i (.eq,[],0)).2.1.length=p.length):Hd p.length y (aC p.length r)->jD (os.getD i (.eq,[],0)) x:=by
 obtain⟨M,mp,a1,a2,b1,_⟩:=h.ex;intro hd;unfold Hd at hd;have ev:vl p.length (aC p.length r) y=M*aV (os.getD i (.eq,[],0)).2.1 x:=by
  unfold vl aV;show sm p.length _+(aC p.length r).a p.length*y p.length=_;rw[a2,ho,<- bD,aO (g:=fun c=>M*(j9 os i c*x.getD c 0)) (fun c hc=>by rw[a1 c hc,hy c hc];grind)];show sm p.length (fun c=>M*(j9 os i c*x.getD c 0))+0*y p.length=_;have:sm p.length (fun c=>M*(j9 os i c*x.getD c 0))=sm p.length fun c=>M*((os.getD i (.eq,[],0)).2.1.getD c 0*x.getD c 0):=rfl;rw[this];grind
 rw[ev,b1]at hd;have hk:(aC p.length r).kd=(os.getD i (.eq,[],0)).1:=h.kd;rw[hk]at hd;unfold jD;have hb:kg os i=(os.getD i (.eq,[],0)).2.2:=rfl;rw[hb]at hd;generalize os.getD i (.eq,[],0)=o at *;cases JU:o.1 with
 |eq=>
  rw[JU]at hd;have dF:M*aV o.2.1 x=M*o.2.2:=hd;have:M*(aV o.2.1 x-o.2.2)=0:=by grind
  show aV o.2.1 x=o.2.2;rcases mul_eq_zero.mp this with z|z<;>grind
 |le=>rw[JU]at hd;exact Rat.le_of_mul_le_mul_left hd mp
 |lt=>rw[JU]at hd;exact Rat.lt_of_mul_lt_mul_left hd (le_of_lt mp)
theorem Hu(hl:∀o∈os,o.2.1.length=p.length){t:Rat}(h:∀r∈aF p os,Hd p.length (put (xf (List.replicate (p.length+1) 0)) p.length t) (aC p.length r)):
  (dB (bB p os) p.length t).length=p.length/\(∀o∈os,jD o (dB (bB p os) p.length t))/\aV p (dB (bB p os) p.length t)=t:=by
 have I:=tx hl;have h0:∀c,c<p.length->(List.replicate p.length 0++[t]).getD c 0=0:=fun c hc=>by
  have:=congrFun (uS p.length t) c;have e:(List.replicate p.length 0++[t]).getD c 0=put (xf (List.replicate (p.length+1) 0)) p.length t c:=this;rw[e];unfold put;rw[if_neg (by omega)];exact om _ _
 obtain⟨e1,e2,e3⟩:=Ju I p.length (List.replicate p.length 0++[t]) (le_refl _) (by rw[length_append,length_replicate,length_singleton]) h0 (fun r hr=>by rw[uS];exact h r hr);generalize hX:dP (bB p os) p.length (List.replicate p.length 0++[t])=X at e1 e2 e3;have hP:dB (bB p os) p.length t=X.take p.length:=by unfold dB;rw[hX]
 have hy:∀c,c<p.length->xf X c=(X.take p.length).getD c 0:=fun c hc=>by
  show X.getD c 0=_;rw[getD_eq_getElem?_getD,getD_eq_getElem?_getD,List.getElem?_take,if_pos hc]
 have et:X.getD p.length 0=t:=by
  rw[e2];have:=congrFun (uS p.length t) p.length;have e:(List.replicate p.length 0++[t]).getD p.length 0=put (xf (List.replicate (p.length+1) 0)) p.length t p.length:=this;rw[e];unfold put;rw[if_pos rfl]
 rw[hP];refine⟨by rw[length_take,e1];omega,fun o ho=>?_,?_⟩
 ·obtain⟨i,hi,e⟩:=List.getElem_of_mem ho;obtain⟨r,hr,hR⟩:=ya hl hi;have eo:os.getD i (.eq,[],0)=o:=by rw[getD_eq_getElem?_getD,getElem?_eq_getElem hi,e];rfl
  have:=DR hR hy (by rw[eo];exact hl o ho) (e3 r hr);rw[eo]at this;exact this
 ·have hs:=e3 (dZ p os.length) (by unfold bc;simp);obtain⟨M,mp,a1,a2,b1,_⟩:=(xW (p:=p) os.length).ex;unfold Hd at hs;have hk:(aC p.length (dZ p os.length)).kd=.eq:=rfl;rw[hk]at hs;have rC:vl p.length (aC p.length (dZ p os.length)) (xf X)=(aC p.length (dZ p os.length)).b:=hs;rw[b1]at rC;have ev:vl p.length (aC p.length (dZ p os.length)) (xf X)=(-M)*aV p (X.take p.length)+M*t:=by
   unfold vl aV;show sm p.length _+(aC p.length (dZ p os.length)).a p.length*xf X p.length=_;rw[a2,<- bD,aO (g:=fun c=>(-M)*(p.getD c 0*(X.take p.length).getD c 0)) (fun c hc=>by rw[a1 c hc,hy c hc];grind)];show _+M*X.getD p.length 0=_;rw[et]
  rw[ev]at rC;have:M*(aV p (X.take p.length)-t)=0:=by grind
  rcases mul_eq_zero.mp this with z|z<;>grind
theorem AS(hl:∀o∈os,o.2.1.length=p.length)(hn:never p.length (aF p os)=none){t:Rat}(hu:∀s v,uU (endOf p.length (aF p os) 1)=some (s,v)->t<=v/\(s=true->t<v))(hb:∀s v,nI (endOf p.length (aF p os) (-1))=some (s,v)->v<=t/\(s=true->v<t)):
  ∀r∈aF p os,Hd p.length (put (xf (List.replicate (p.length+1) 0)) p.length t) (aC p.length r):=by
 intro r hr;have T:=pJ (n:=p.length) (j:=p.length) (rows:=aF p os) (x:=List.replicate (p.length+1) 0) (by rw[length_replicate]) (le_refl _) (om _ _);have Bt:=pK (n:=p.length) (j:=p.length) (rows:=aF p os) (x:=List.replicate (p.length+1) 0) (by rw[length_replicate]) (le_refl _) (om _ _);have mem:aC p.length r∈(aF p os).map (aC p.length):=mem_map.mpr ⟨r,hr,rfl⟩;have O9:eZ p.length (aF p os)=none:=by
  unfold never at hn;cases h:eZ p.length (aF p os)with
  |none=>rfl
  |some w=>rw[h]at hn;cases hn
 by_cases h0:ent r p.length=0
 ·have a0:(aC p.length r).a p.length=0:=bK.mpr h0;have hf:cD r.1 (ent r (p.length+1):Rat)=false:=by
   unfold eZ at O9;rw[Option.map_eq_none_iff]at O9;have:=List.find?_eq_none.mp O9 r hr;cases hz:cD r.1 (ent r (p.length+1):Rat)with
   |false=>rfl
   |true=>rw[hz]at this;exact absurd (by simp[h0]) this
  rw[zb (le_refl _) a0];have hv:vl p.length (aC p.length r) (xf (List.replicate (p.length+1) 0))=0:=i7 fun c _=>by
   show _*(List.replicate (p.length+1) (0:Rat)).getD c 0=0;rw[om];grind
  unfold Hd;rw[hv];show rel r.1 0 (ent r (p.length+1):Rat);generalize (ent r (p.length+1):Rat)=b at hf;cases hk:r.1 with
  |eq=>rw[hk]at hf;have:=of_decide_eq_false hf;show 0=b;grind
  |le=>rw[hk]at hf;have:=of_decide_eq_false hf;show 0<=b;grind
  |lt=>
   rw[hk]at hf;have yY:(decide (b<0) || decide (b=0))=false:=hf;rw[Bool.or_eq_false_iff,decide_eq_false_iff_not,decide_eq_false_iff_not]at yY;show 0<b;grind
 ·
  have up:isUp (aC p.length r) p.length->t<=Nm p.length (aC p.length r) (xf (List.replicate (p.length+1) 0)) p.length/\(r.1=.lt->t<Nm p.length (aC p.length r) (xf (List.replicate (p.length+1) 0)) p.length):=by
   intro hi;cases hg:uU (endOf p.length (aF p os) 1)with
   |none=>exact absurd hi (T.none hg _ mem)
   |some g=>
    obtain⟨s,v⟩:=g;obtain⟨h1,h2⟩:=(T.some s v hg).2 _ mem hi;obtain⟨h3,h4⟩:=hu s v hg;refine⟨by grind,fun e=>?_⟩;by_cases z:Nm p.length (aC p.length r) (xf (List.replicate (p.length+1) 0)) p.length=v
    ·have:=h4 (h2 e z);grind
    ·grind
  have lo:oN (aC p.length r) p.length->Nm p.length (aC p.length r) (xf (List.replicate (p.length+1) 0)) p.length<=t/\(r.1=.lt->Nm p.length (aC p.length r) (xf (List.replicate (p.length+1) 0)) p.length<t):=by
   intro hi;cases hg:nI (endOf p.length (aF p os) (-1))with
   |none=>exact absurd hi (Bt.none hg _ mem)
   |some g=>
    obtain⟨s,v⟩:=g;obtain⟨h1,h2⟩:=(Bt.some s v hg).2 _ mem hi;obtain⟨h3,h4⟩:=hb s v hg;refine⟨by grind,fun e=>?_⟩;by_cases z:Nm p.length (aC p.length r) (xf (List.replicate (p.length+1) 0)) p.length=v
    ·have:=h4 (h2 e z);grind
    ·grind
  have a0:(aC p.length r).a p.length≠0:=fun z=>h0 (bK.mp z);unfold Hd;by_cases hp:0<(aC p.length r).a p.length
  ·cases hk:r.1 with
   |eq=>
    have kQ:(aC p.length r).kd=.eq:=hk;rw[kQ];have a:=(up (.inl hp)).1;have b:=(lo (.inr ⟨hp,hk⟩)).1;exact(oW (le_refl _) a0).mpr (by grind)
   |le=>
    have kQ:(aC p.length r).kd=.le:=hk;rw[kQ];exact(Co (le_refl _) hp).mpr (up (.inl hp)).1
   |lt=>
    have kQ:(aC p.length r).kd=.lt:=hk;rw[kQ];exact(Cn (le_refl _) hp).mpr ((up (.inl hp)).2 hk)
  ·have lj:(aC p.length r).a p.length<0:=by grind
   cases hk:r.1 with
   |eq=>
    have kQ:(aC p.length r).kd=.eq:=hk;rw[kQ];have a:=(up (.inr ⟨lj,hk⟩)).1;have b:=(lo (.inl lj)).1;exact(oW (le_refl _) a0).mpr (by grind)
   |le=>
    have kQ:(aC p.length r).kd=.le:=hk;rw[kQ];exact(lo_le (le_refl _) lj).mpr (lo (.inl lj)).1
   |lt=>
    have kQ:(aC p.length r).kd=.lt:=hk;rw[kQ];exact(CO (le_refl _) lj).mpr ((lo (.inl lj)).2 hk)
theorem x9(hn:never p.length (aF p os)=none){s s':Bool}{v':Rat}(hu:uU (endOf p.length (aF p os) 1)=some (s,v))(hb:nI (endOf p.length (aF p os) (-1))=some (s',v')):v'<=v/\(s=true\/s'=true->v'<v):=by
 have cx:fq p.length (aF p os)=none:=by
  unfold never at hn;cases h:eZ p.length (aF p os)with
  |none=>rw[h]at hn;exact hn
  |some w=>rw[h]at hn;cases hn
 unfold fq at cx;cases ht:endOf p.length (aF p os) 1 with
 |none=>rw[ht]at hu;cases hu
 |some t=>
  cases wN:endOf p.length (aF p os) (-1)with
  |none=>rw[wN]at hb;cases hb
  |some b=>
   rw[ht]at hu;rw[wN]at hb;have Fz:(t.1,t.2.1)=(s,v):=Option.some.inj hu;have FL:(b.1,0-b.2.1)=(s',v'):=Option.some.inj hb;injection Fz with u1 u2;injection FL with b1 b2;rw[ht,wN]at cx;have h2:(if cD (if t.1=true\/b.1=true then .lt else .le) (t.2.1+b.2.1)=true then some (zipWith (fun x y=>x+y) t.2.2 b.2.2)else none)=none:=cx;by_cases hz:cD (if t.1=true\/b.1=true then .lt else .le) (t.2.1+b.2.1)=true
   ·rw[if_pos hz]at h2;cases h2
   ·split at hz
    ·have yO:¬(decide (t.2.1+b.2.1<0) || decide (t.2.1+b.2.1=0))=true:=hz;rw[or_eq_true,decide_eq_true_iff,decide_eq_true_iff]at yO;have z1:¬t.2.1+b.2.1<0:=fun z=>yO (.inl z);have z2:¬t.2.1+b.2.1=0:=fun z=>yO (.inr z);exact⟨by grind,fun _=>by grind⟩
    ·rename_i hst;have z1:¬t.2.1+b.2.1<0:=fun z=>hz (decide_eq_true z);exact⟨by grind,fun z=>absurd (by rw[u1,b1];exact z) hst⟩
theorem xo(hl:∀o∈os,o.2.1.length=p.length){strict:Bool}{β:Rat}(hn:never p.length (aF p os)=none)(hk:∀t,endOf p.length (aF p os) 1=some t->fZ strict β t.1 t.2.1=false):uQ os strict p β (beyond p os β):=by

 have key:∀lst:Rat,β<=lst->(∀s v,nI (endOf p.length (aF p os) (-1))=some (s,v)->v<=lst/\(lst=v\/lst=β))->(nI (endOf p.length (aF p os) (-1))=none->lst=β)->
   (∀r∈aF p os,Hd p.length (put (xf (List.replicate (p.length+1) 0)) p.length (gx (some lst) (gq (endOf p.length (aF p os) 1)))) (aC p.length r))/\¬rel (if strict=true then .lt else .le) (gx (some lst) (gq (endOf p.length (aF p os) 1))) β:=by
  intro lst h1 h2 h3;cases ht:endOf p.length (aF p os) 1 with
  |none=>
   have eb:gx (some lst) (gq none)=lst+1:=rfl;rw[eb];refine⟨AS hl hn (fun s v e=>by rw[ht]at e;cases e) (fun s v e=>?_),?_⟩
   ·obtain⟨a,_⟩:=h2 s v e;exact⟨by grind,fun _=>by grind⟩
   ·cases strict with
    |true=>show ¬lst+1<β;grind
    |false=>show ¬lst+1<=β;grind
  |some t=>
   have eb:gx (some lst) (gq (some t))=(lst+t.2.1)/2:=rfl;rw[eb];have wL:=hk t ht;have HW:uU (endOf p.length (aF p os) 1)=some (t.1,t.2.1):=by rw[ht];rfl
   unfold fZ at wL;have dh:β<=t.2.1/\(t.2.1=β->strict=true/\t.1=false):=by
    split at wL
    ·rename_i e;refine⟨by grind,fun _=>?_⟩;cases strict with
     |false=>simp at wL
     |true=>exact⟨rfl,by simpa using wL⟩
    ·rename_i e;have:=of_decide_eq_false wL;exact⟨by grind,fun z=>absurd z e⟩
   have HZ:lst<=t.2.1/\(t.1=true->lst<t.2.1):=by
    cases hb:nI (endOf p.length (aF p os) (-1))with
    |none=>
     rw[h3 hb];refine⟨dh.1,fun z=>?_⟩;have:t.2.1≠β:=fun e=>by have:=(dh.2 e).2;rw[z]at this;cases this
     have:=dh.1;grind
    |some b=>
     obtain⟨s',v'⟩:=b;obtain⟨r1,r2⟩:=x9 hn HW hb;obtain⟨q1,q2⟩:=h2 s' v' hb;rcases q2 with q2|q2
     ·rw[q2];exact⟨r1,fun z=>r2 (.inl z)⟩
     ·rw[q2];refine⟨dh.1,fun z=>?_⟩;have:t.2.1≠β:=fun e=>by have:=(dh.2 e).2;rw[z]at this;cases this
      have:=dh.1;grind
   refine⟨AS hl hn (fun s v e=>?_) (fun s v e=>?_),?_⟩
   ·rw[HW]at e;have e':(t.1,t.2.1)=(s,v):=Option.some.inj e;injection e' with u1 u2;rw[<- u1,<- u2];refine⟨by have:=HZ.1;grind,fun z=>?_⟩;have:=HZ.2 z;grind
   ·obtain⟨q1,q2⟩:=h2 s v e;have a:=HZ.1;refine⟨by grind,fun z=>?_⟩;obtain⟨r1,r2⟩:=x9 hn HW e;have:=r2 (.inr z);grind
   ·cases strict with
    |true=>
     show ¬(lst+t.2.1)/2<β;have:=dh.1;grind
    |false=>
     show ¬(lst+t.2.1)/2<=β;have a:=dh.1;have b:t.2.1≠β:=fun e=>by have:=(dh.2 e).1;cases this
     grind
 have Uk:∃lst:Rat,β<=lst/\(∀s v,nI (endOf p.length (aF p os) (-1))=some (s,v)->v<=lst/\(lst=v\/lst=β))/\(nI (endOf p.length (aF p os) (-1))=none->lst=β)/\dX p.length (aF p os) β=gx (some lst) (gq (endOf p.length (aF p os) 1)):=by
  unfold dX;cases hb:endOf p.length (aF p os) (-1)with
  |none=>exact⟨β,by grind,(fun s v e=>by cases e),fun _=>rfl,rfl⟩
  |some b=>
   by_cases c:0-b.2.1<β
   ·refine⟨β,by grind,fun s v e=>?_,fun _=>rfl,?_⟩
    ·have e':(b.1,0-b.2.1)=(s,v):=Option.some.inj e;injection e' with u1 u2;exact⟨by grind,.inr rfl⟩
    ·show gx (some (if 0-b.2.1<β then β else 0-b.2.1)) _=_;rw[if_pos c]
   ·refine⟨0-b.2.1,by grind,fun s v e=>?_,(fun e=>by cases e),?_⟩
    ·have e':(b.1,0-b.2.1)=(s,v):=Option.some.inj e;injection e' with u1 u2;exact⟨by grind,.inl u2⟩
    ·show gx (some (if 0-b.2.1<β then β else 0-b.2.1)) _=_;rw[if_neg c]
 obtain⟨lst,a1,a2,a3,a4⟩:=Uk;obtain⟨b1,b2⟩:=key lst a1 a2 a3;rw[<- a4]at b1 b2;obtain⟨c1,c2,c3⟩:=Hu hl b1;exact⟨c1,c2,by show ¬rel _ (aV p (dB (bB p os) p.length _)) β;rw[c3];exact b2⟩
theorem BG(hl:∀o∈os,o.2.1.length=p.length)(strict:Bool)(β:Rat):((bb strict p β os).1=true/\Right os (bb strict p β os).2 strict p β)\/((bb strict p β os).1=false/\uQ os strict p β (bb strict p β os).2):=by
 unfold bb;cases hn:never p.length (aF p os)with
 |some w=>
  obtain⟨h1,h2,h3⟩:=Ag hl hn;exact .inl ⟨rfl,h1,.inr ⟨h2,h3⟩⟩
 |none=>
  cases ht:endOf p.length (aF p os) 1 with
  |none=>exact .inr ⟨rfl,xo hl hn fun t e=>by rw[ht]at e;cases e⟩
  |some t=>
   dsimp only;by_cases c:fZ strict β t.1 t.2.1=true
   ·rw[if_pos c];have P:=vz hl (.inl rfl) ht;have c1:((1:Int):Rat)=1:=rfl;rw[c1]at P;exact .inl ⟨rfl,yd P c⟩
   ·rw[if_neg c];refine .inr ⟨rfl,xo hl hn fun t' e=>?_⟩;rw[ht]at e;cases e;simpa using c
end
end FM
set_option maxHeartbeats 4000000
namespace L3
noncomputable section
open PySem PySem.Spec PyProof.Rows L2
open PySem.W (Dat kqdOk)
theorem BY(a b:Int):eqB (.int a) (.int b)=some (decide (a=b)):=by
 have h:eqB (.int a) (.int b)=if kqdOk 9 (.int a)=true/\kqdOk 9 (.int b)=true then some (kz (.int a) (.int b))else none:=rfl;rw[h,if_pos ⟨rfl,rfl⟩];congr 1
 by_cases e:a=b
 ·rw[mz (by rw[e]),decide_eq_true e]
 ·rw[kU (fun z=>e (by injection z)),decide_eq_false e]
theorem dD(a b:Int):cZ (.int a) (.int b)=some (.bool (decide (a=b))):=by unfold cZ;rw[BY];rfl
theorem dC(a b:Int):fF (.int a) (.int b)=some (.bool (!decide (a=b))):=by unfold fF;rw[BY];rfl
theorem eY(a b:Int):xX (.int a) (.int b)=some (.int (a-b)):=iQ trivial
theorem cL(a b:Int):EZ (.int a) (.int b)=some (.bool (decide (a<b))):=iQ trivial
theorem Bw(a b:Int):Rv (.int a) (.int b)=some (.bool (decide (a<=b))):=iQ trivial
theorem gF(a b:Int):FP (.int a) (.int b)=some (.bool (decide (b<a))):=iQ trivial
theorem BL(a b:Int):S8 (.int a) (.int b)=some (.bool (decide (b<=a))):=iQ trivial
variable {a b:Int}
theorem gW(h:b≠0):vg (.int a) (.int b)=some (.int (a.fmod b)):=iQ h
theorem gh(h:b≠0)(_:b.natAbs.log2<9000000):r6 (.int a) (.int b)=some (.int (a.fdiv b)):=iQ h
theorem oK(h:IntMulOk a b):jr (.int a) (.int b)=some (.int (a*b)):=iQ h
theorem bP(a b:Int):kA (.int a) (.int b)=some (.int (a+b)):=rfl
theorem jw(c:Int):Du [.int c]=some (.int (c.natAbs:Int)):=by
 show some (Dat.int (if c<0 then -c else c))=_;congr 2
 split<;>omega
variable {g1 g2:aD->Option Fl} {ag Γ:aD}
theorem ao(h:g1 Γ=some (.nx ag)):dr g1 g2 Γ=g2 ag:=by unfold dr;rw[h];rfl
variable {d:Dat}
theorem KW(h:g1 Γ=some (.rt d)):dr g1 g2 Γ=some (.rt d):=by unfold dr;rw[h];rfl
variable {f:aw->Option Dat} {i:Nat}
theorem lH(h:f (bw Γ)=some d):iB i f Γ=some (.nx (Γ.set i (some (.a7 d)))):=by unfold iB;rw[h]
variable {ft:aw->Option Bool}
theorem oD(h:ft (bU Γ)=some true):kb ft g1 g2 Γ=g1 Γ:=by unfold kb;rw[h];rfl
theorem qO(h:ft (bU Γ)=some false):kb ft g1 g2 Γ=g2 Γ:=by unfold kb;rw[h];rfl
theorem AX(h:f (bU Γ)=some d):kr f Γ=some (.rt d):=by unfold kr;rw[h];rfl
variable {gb:aD->Option Fl} {n:Nat}
theorem rT(h:ft (bU Γ)=some false):dM ft gb (n+1) Γ=some (.nx Γ):=by show(ft (bU Γ)).bind _=_;rw[h];rfl
theorem rS(h:ft (bU Γ)=some true)(h2:gb Γ=some (.nx ag)):dM ft gb (n+1) Γ=dM ft gb n ag:=by
 show(ft (bU Γ)).bind _=_;rw[h];show(gb Γ).bind _=_;rw[h2];rfl
variable {ds:List Dat}
theorem bH{N:List Str}{g:aD->Option Fl}(h:g (cF N ds)=some (.rt d)):iW N g ds=some d:=by unfold iW;rw[h]
open PySem PySem.Spec PyProof.Rows L2
open PySem.W (Dat kqdOk)
theorem cR{gt:Dat->Option cX}{fe:aw->Option Dat}{pG:aw}:∀(ak out:List Dat),ak.length=out.length->(∀(i:Nat) (d o:Dat),ak[i]?=some d->out[i]?=some o->∃as,gt d=some as/\fe (ko pG as)=some o)->cc gt gA fe pG ak=some out
 |[],[],_,_=>rfl
 |[],_::_,h,_=>by simp at h
 |_::_,[],h,_=>by simp at h
 |d::ak,o::out,h,st=>by
  obtain⟨as,e1,e2⟩:=st 0 d o rfl rfl;have ih:=cR ak out (by simpa using h) fun i d' o' h1 h2=>st (i+1) d' o' (by simpa using h1) (by simpa using h2);simp only[cc,e1,Option.bind_some,gA,if_true,e2,ih,map_some]
open PySem PySem.Spec PyProof.Rows L2
open PySem.W (Dat kqdOk)
theorem oU{gt:Dat->Option cX}{gb:aD->Option Fl}{β τ:Type}(enc:β->Dat)(St:τ->aD->Prop)(Q:τ->List β->Prop)(dt:τ->β->τ)(step:∀s p l Γ,Q s (p::l)->St s Γ->∃as,gt (enc p)=some as/\∃ag,gb (setG Γ as)=some (.nx ag)/\St (dt s p) ag/\Q (dt s p) l):∀(l:List β) (s:τ) (Γ:aD),Q s l->St s Γ->∃ag,forL gt gb (l.map enc) Γ=some (.nx ag)/\St (l.foldl dt s) ag
 |[],s,Γ,_,h=>⟨Γ,rfl,h⟩
 |p::l,s,Γ,q,h=>by
  obtain⟨as,e1,cU,e2,h1,q1⟩:=step s p l Γ q h;obtain⟨pH,e3,h2⟩:=oU enc St Q dt step l (dt s p) cU q1 h1;refine⟨pH,?_,h2⟩;rw[map_cons];show(gt (enc p)).bind _=_;rw[e1];show(gb (setG Γ as)).bind _=_;rw[e2];exact e3
variable {gt:Dat->Option cX} {β τ:Type}
theorem gQ(enc:β->Dat)(St:τ->aD->Prop)(Q:τ->List β->Prop)(dt:τ->β->τ){l:List β}{s:τ}(hf:f (bw Γ)=some d)(hi:cW d=some (l.map enc))(hq:Q s l)(hs:St s Γ)(step:∀s p l Γ,Q s (p::l)->St s Γ->∃as,gt (enc p)=some as/\∃ag,gb (setG Γ as)=some (.nx ag)/\St (dt s p) ag/\Q (dt s p) l):∃ag,pR gt gb f Γ=some (.nx ag)/\St (l.foldl dt s) ag:=by
 obtain⟨ag,e,h⟩:=oU (gt:=gt) (gb:=gb) enc St Q dt step l s Γ hq hs;refine⟨ag,?_,h⟩;unfold pR;rw[hf];show(cW d).bind _=_;rw[hi];exact e
theorem wR{gt:Dat->Option cX}{gb:aD->Option Fl}{β:Type}(enc:β->Dat)(I:aD->Prop)(p:β->Bool)(rt:β->Dat):∀(l:List β) (Γ:aD),I Γ->(∀x∈l,∀Γ,I Γ->∃as,gt (enc x)=some as/\if p x=true then gb (setG Γ as)=some (.rt (rt x))else ∃ag,gb (setG Γ as)=some (.nx ag)/\I ag)->
  (∃x,l.find? p=some x/\forL gt gb (l.map enc) Γ=some (.rt (rt x)))\/(l.find? p=none/\∃ag,forL gt gb (l.map enc) Γ=some (.nx ag)/\I ag)
 |[],Γ,h,_=>.inr ⟨rfl,Γ,rfl,h⟩
 |x::l,Γ,h,st=>by
  obtain⟨as,e1,e2⟩:=st x mem_cons_self Γ h;by_cases c:p x=true
  ·rw[if_pos c]at e2;refine .inl ⟨x,by rw[List.find?_cons_of_pos c],?_⟩;rw[map_cons];show(gt (enc x)).bind _=_;rw[e1];show(gb (setG Γ as)).bind _=_;rw[e2];rfl
  ·rw[if_neg c]at e2;obtain⟨cU,e2,h1⟩:=e2;have e3:forL gt gb ((x::l).map enc) Γ=forL gt gb (l.map enc) cU:=by
    rw[map_cons];show(gt (enc x)).bind _=_;rw[e1];show(gb (setG Γ as)).bind _=_;rw[e2];rfl
   rw[e3,List.find?_cons_of_neg c];exact wR enc I p rt l cU h1 fun y hy=>st y (mem_cons_of_mem _ hy)
theorem wU(enc:β->Dat)(I:aD->Prop)(p:β->Bool)(rt:β->Dat){l:List β}{fl:Option β->Fl}(hf:f (bw Γ)=some d)(hi:cW d=some (l.map enc))(hs:I Γ)(st:∀x∈l,∀Γ,I Γ->∃as,gt (enc x)=some as/\if p x=true then gb (setG Γ as)=some (.rt (rt x))else ∃ag,gb (setG Γ as)=some (.nx ag)/\I ag)(h1:∀x,fl (some x)=.rt (rt x))(h2:∀ag,I ag->g2 ag=some (fl none)):
  dr (pR gt gb f) g2 Γ=some (fl (l.find? p)):=by
 have e:pR gt gb f Γ=forL gt gb (l.map enc) Γ:=by
  unfold pR;rw[hf];show(cW d).bind _=_;rw[hi];rfl
 unfold dr;rw[e];rcases wR enc I p rt l Γ hs st with⟨x,e1,e2⟩|⟨e1,ag,e2,h'⟩
 ·rw[e1,e2,h1];rfl
 ·rw[e1,e2];exact h2 ag h'
theorem fU{fl:Fl}(I:aD->Prop)(h:∃ag,g1 Γ=some (.nx ag)/\I ag)(fin:∀ag,I ag->g2 ag=some fl):dr g1 g2 Γ=some fl:=by
 obtain⟨ag,e,h⟩:=h;unfold dr;rw[e];exact fin ag h
open PySem PySem.Spec PyProof.Rows L2
open PySem.W (Dat kqdOk)
theorem iS{gt:Dat->Option cX}{ft:aw->Option Bool}{fe:aw->Option Dat}{pG:aw}{β:Type}(enc:β->Dat)(Ir:β->Dat)(p:β->Bool):∀(l:List β),(∀x∈l,∃as,gt (enc x)=some as/\ft (ko pG as)=some (p x)/\(p x=true->fe (ko pG as)=some (Ir x)))->cc gt ft fe pG (l.map enc)=some ((l.filter p).map Ir)
 |[],_=>rfl
 |x::l,h=>by
  obtain⟨as,e1,e2,e3⟩:=h x mem_cons_self;have ih:=iS enc Ir p l fun y hy=>h y (mem_cons_of_mem _ hy);rw[map_cons,cc,e1,Option.bind_some,e2,Option.bind_some,filter_cons];by_cases c:p x=true
  ·rw[if_pos c,if_pos c,e3 c,Option.bind_some,ih];rfl
  ·rw[if_neg c,if_neg c];exact ih
theorem LH{A:aD->Option Fl}{I J:aD->Prop}(h:∃ag,A Γ=some (.nx ag)/\I ag)(k:∀ag,I ag->J ag):∃ag,A Γ=some (.nx ag)/\J ag:=let ⟨ag,e,i⟩:=h;⟨ag,e,k ag i⟩
open PySem PySem.Spec PyProof.Rows L2
open PySem.W (Dat kqdOk)
variable {fi:aw->Option (List Dat)}
theorem kS(enc:β->Dat)(St:τ->aD->Prop)(Q:τ->List β->Prop)(dt:τ->β->τ){l:List β}{s:τ}(hf:fi (bw Γ)=some (l.map enc))(hq:Q s l)(hs:St s Γ)(step:∀s p l Γ,Q s (p::l)->St s Γ->∃as,gt (enc p)=some as/\∃ag,gb (setG Γ as)=some (.nx ag)/\St (dt s p) ag/\Q (dt s p) l):∃ag,ly gt gb fi Γ=some (.nx ag)/\St (l.foldl dt s) ag:=by
 obtain⟨ag,e,h⟩:=oU (gt:=gt) (gb:=gb) enc St Q dt step l s Γ hq hs;refine⟨ag,?_,h⟩;unfold ly;rw[hf];exact e
variable {out:List Dat}
theorem AW{g:aw->Option (List Dat)}(h:g (bw Γ)=some out):oB i g Γ=some (.nx (Γ.set i (some (.a7 (.list out))))):=by
 unfold oB;rw[h];rfl
variable {ρ:aw}
theorem zN{aX:List (Option Nat)}{fe:aw->Option Dat}(h:fi ρ=some ds)(hl:ds.length<sizeLine)(hc:cc gt ft fe (fJ aX ρ) ds=some out):gG aX gt ft fe fi ρ=some out:=by
 unfold gG;rw[h,Option.bind_some,if_pos hl,hc]
theorem mj{rg:List Dat->Option (List Dat)}{fs:aw->Option (List Dat)}{as:List Dat}(h:fs ρ=some as)(h2:rg as=some ds):qk rg fs ρ=some ds:=by
 unfold qk;rw[h];exact h2
end
end L3
namespace FM
noncomputable section
open PySem
theorem qh{l:List Int}{p:Nat}(h:l.getD p 0≠0):∃x∈l,x≠0:=⟨_,mem_getD h,h⟩
variable {J:Nat->Bool} {k j n:Nat} {β:Nat->Rat} {E:List Nat} {B:Nat->Nat->Rat}
variable {St:Nat->Bool} in
theorem Lr{rows:List Row}(hR:Rs n k rows)(S:Sg n k j J St E B β (rows.map (aC n)))(hn:dW j rows=none):
  ∀u∈rows,∀l∈rows,0<ent u j->ent l j<0->∃x∈fG u.2 (-ent l j) l.2 (ent u j),x≠0:=by
 have mem:∀{r:Row},r∈rows->aC n r∈rows.map (aC n):=fun h=>mem_map.mpr ⟨_,h,rfl⟩;have oJ:∀r∈rows,r.1=.eq->ent r j=0:=fun r hr he=>by
  have:=List.find?_eq_none.mp hn r hr;apply Classical.byContradiction
  intro z;exact this (by simp[he,z])
 have kq:∀{r:Row},r∈rows->ent r j≠0->(aC n r).kd≠.eq:=fun hr h e=>h (oJ _ hr e);intro up hu lo hl pu pl;obtain⟨i,hi,hj,hp⟩:=S.pos (aC n up) (mem hu) (kq hu (by omega));have b:=S.nn (aC n lo) (mem hl) (kq hl (by omega)) i hi hj;have gc:0<ent up (n+2+i):=iH.mp hp;have FL:0<=ent lo (n+2+i):=by
  have b':(0:Rat)<=(ent lo (n+2+i):Rat):=b;have:((0:Int):Rat)<=(ent lo (n+2+i):Rat):=b';exact Rat.intCast_le_intCast.mp this
 have h1:=mul_pos (show 0 < -ent lo j by omega) gc;have h2:=Int.mul_nonneg (Int.le_of_lt pu) FL;refine qh (p:=n+2+i) ?_;rw[m6 (by rw[hR.len up hu,hR.len lo hl])];have e1:up.2.getD (n+2+i) 0=ent up (n+2+i):=rfl;have e2:lo.2.getD (n+2+i) 0=ent lo (n+2+i):=rfl;rw[e1,e2];omega
variable {St:Nat->Bool} in
theorem PC{rows:List Row}{q r:Row}(hR:Rs n k rows)(S:Sg n k j J St E B β (rows.map (aC n)))(hq:q∈rows)(qe:q.1=.eq)(q0:ent q j≠0)(hr:r∈rows)(cx:r≠q):
  ∃x∈fG r.2 ((ent q j).natAbs:Int) q.2 (if 0<ent q j then -ent r j else ent r j),x≠0:=by
 have mem:∀{r:Row},r∈rows->aC n r∈rows.map (aC n):=fun h=>mem_map.mpr ⟨_,h,rfl⟩;have hl:r.2.length=q.2.length:=by rw[hR.len r hr,hR.len q hq]
 have ab:((ent q j).natAbs:Int)≠0:=by omega
 by_cases he:r.1=.eq
 ·obtain⟨p,h1,h2⟩:=hR.CG r hr he;refine qh (p:=p) ?_;rw[m6 hl];have e1:q.2.getD p 0=ent q p:=rfl;have e2:r.2.getD p 0=ent r p:=rfl;rw[e1,e2,h2 q hq qe (Ne.symm cx)];have:=mul_ne_zero ab h1;rw[mul_zero];omega
 ·obtain⟨i,hi,hj,hp⟩:=S.pos (aC n r) (mem hr) he;have hz:=S.wW (aC n q) (mem hq) qe i hi hj;have yO:ent q (n+2+i)=0:=bK.mp hz;have gc:0<ent r (n+2+i):=iH.mp hp;refine qh (p:=n+2+i) ?_;rw[m6 hl];have e1:q.2.getD (n+2+i) 0=ent q (n+2+i):=rfl;have e2:r.2.getD (n+2+i) 0=ent r (n+2+i):=rfl;rw[e1,e2,yO,mul_zero];have:=mul_ne_zero ab (show ent r (n+2+i)≠0 by omega);omega
def bt:Nat->Nat->Nat
 |b,0=>b
 |b,i+1=>bt (2*b+1) i
theorem oX:∀(i b:Nat),b<=bt b i
 |0,b=>le_refl _
 |i+1,b=>le_trans (by omega) (oX i (2*b+1))
def cb:Nat->Nat->Nat
 |r,0=>r
 |r,i+1=>cb (r+r*r/4) i
theorem Kk:∀(i r:Nat),r<=cb r i
 |0,r=>le_refl _
 |i+1,r=>le_trans (le_add_right _ _) (Kk i _)
theorem rj:∀(i:Nat) {r s:Nat},r<=s->cb r i<=cb s i
 |0,r,s,h=>h
 |i+1,r,s,h=>rj i (add_le_add h (Nat.div_le_div_right (mul_le_mul h h)))
variable {u:Nat}
theorem quarter{l r:Nat}(h:u+l<=r):u*l<=r*r/4:=by
 rw[Nat.le_div_iff_mul_le (by decide)];have h1:(u+l)*(u+l)<=r*r:=mul_le_mul h h;refine le_trans ?_ h1;rcases Nat.le_total u l with c|c
 ·obtain⟨d,rfl⟩:=Nat.exists_eq_add_of_le c;grind
 ·obtain⟨d,rfl⟩:=Nat.exists_eq_add_of_le c;grind
theorem Kc(p q:Row->Bool)(hd:∀r,p r=true->q r=false):∀l:List Row,(l.filter p).length+(l.filter q).length<=l.length
 |[]=>le_refl _
 |r::l=>by
  have ih:=Kc p q hd l;rw[filter_cons,filter_cons,length_cons];by_cases c:p r=true
  ·rw[if_pos c,hd r c,if_neg Bool.false_ne_true,length_cons];omega
  ·rw[if_neg c];split
   ·rw[length_cons];omega
   ·omega
theorem yy(rows:List Row)(j:Nat):rows.length+(rows.filter fun r=>decide (0<ent r j)).length*(rows.filter fun r=>decide (ent r j<0)).length<=rows.length+rows.length*rows.length/4:=
 Nat.add_le_add_left (quarter (Kc _ _ (fun r h=>by
  have:=of_decide_eq_true h;exact decide_eq_false (by omega)) rows)) _
theorem nX(ks:List Row)(r:Row):(ins ks r).length<=ks.length+1:=by
 unfold ins;split
 ·omega
 ·rw[length_append];exact le_refl _
theorem ue:∀(M l:List Row),(M.foldl ins l).length<=l.length+M.length
 |[],l=>le_refl _
 |r::M,l=>by
  rw[foldl_cons,length_cons];have:=ue M (ins l r);have:=nX l r;omega
theorem zx{α β:Type}(f:α->List β)(c:Nat):∀l:List α,(∀x∈l,(f x).length<=c)->(l.flatMap f).length<=l.length*c
 |[],_=>by simp
 |x::l,h=>by
  rw[List.flatMap_cons,length_append,length_cons,succ_mul];have:=zx f c l fun y hy=>h y (mem_cons_of_mem _ hy);have:=h x mem_cons_self;omega
theorem CK(rows:List Row)(j most:Nat)(aB:List Nat):(paired j aB most rows).length<=rows.length+rows.length*rows.length/4:=by
 have h1:=ue (rows.filter (fun r=>decide (ent r j=0))++pairsOf j aB most rows) [];have h2:=yy rows j;have h3:(pairsOf j aB most rows).length<=(rows.filter fun r=>decide (0<ent r j)).length*(rows.filter fun r=>decide (ent r j<0)).length:=by
  unfold pairsOf;refine zx _ _ _ fun x _=>?_;rw[length_map];exact length_filter_le _ _
 have h4:=length_filter_le (fun r=>decide (ent r j=0)) rows;rw[length_append]at h1;unfold paired;simp only[length_nil]at h1;omega
theorem HJ(rows:List Row)(j most:Nat)(aB:List Nat):(cQ aB j most rows).length<=rows.length+rows.length*rows.length/4:=by
 unfold cQ;split
 ·exact CK _ _ _ _
 ·rw[length_map];exact le_trans (length_filter_le _ _) (le_add_right _ _)
abbrev Nx:=List Row×Nat×List (List Row)
def dt (aB:List Nat) (s:Nx) (j:Nat):Nx:=(cQ aB j s.2.1 s.1,iF j s.2.1 s.1,s.2.2++[s.1])
theorem y9(aB:List Nat):∀(m j most:Nat) (rows:List Row) (acc:List (List Row)),(((range' j m).foldl (dt aB) (rows,most,acc)).2.2++[((range' j m).foldl (dt aB) (rows,most,acc)).1])=acc++lz aB m j most rows
 |0,j,most,rows,acc=>rfl
 |m+1,j,most,rows,acc=>by
  rw[List.range'_succ,foldl_cons];show(((range' (j+1) m).foldl (dt aB) (cQ aB j most rows,iF j most rows,acc++[rows])).2.2++[((range' (j+1) m).foldl (dt aB) (cQ aB j most rows,iF j most rows,acc++[rows])).1])=_;rw[y9 aB m (j+1),append_assoc];rfl
end
end FM
namespace L3
noncomputable section
open PySem PySem.Spec PyProof.Rows L2
open PySem.W (Dat kqdOk)
variable {gb:aD->Option Fl} {Γ:aD}
theorem wQ{gt:Dat->Option cX}{rg:List Dat->Option (List Dat)}{fs:aw->Option (List Dat)}{β τ:Type}(enc:β->Dat)(St:τ->aD->Prop)(Q:τ->List β->Prop)(dt:τ->β->τ){l:List β}{s:τ}{as:List Dat}(hf:fs (bU Γ)=some as)(hr:rg as=some (l.map enc))(hq:Q s l)(hs:St s Γ)(step:∀s p l Γ,Q s (p::l)->St s Γ->∃as,gt (enc p)=some as/\∃ag,gb (setG Γ as)=some (.nx ag)/\St (dt s p) ag/\Q (dt s p) l):∃ag,xC rg gt gb fs Γ=some (.nx ag)/\St (l.foldl dt s) ag:=by
 obtain⟨ag,e,h⟩:=oU (gt:=gt) (gb:=gb) enc St Q dt step l s Γ hq hs;refine⟨ag,?_,h⟩;unfold xC;rw[hf];show(rg as).bind _=_;rw[hr];exact e
open PySem PySem.Spec PyProof.Rows L2
open PySem.W (Dat kqdOk)
variable {fi:aw->Option (List Dat)}
theorem Im{gt:Dat->Option cX}{β τ:Type}(enc:β->Dat)(St:τ->aD->Prop)(dt:τ->β->τ)(bad:β->Prop){r:Dat}{l:List β}{s:τ}(hf:fi (bw Γ)=some (l.map enc))(hs:St s Γ)(good:∀s p Γ,¬bad p->St s Γ->∃as,gt (enc p)=some as/\∃ag,gb (setG Γ as)=some (.nx ag)/\St (dt s p) ag)(bd:∀s p Γ,bad p->St s Γ->∃as,gt (enc p)=some as/\gb (setG Γ as)=some (.rt r)):
  (∃ag,ly gt gb fi Γ=some (.nx ag)/\St (l.foldl dt s) ag/\∀p∈l,¬bad p)\/(ly gt gb fi Γ=some (.rt r)/\∃p∈l,bad p):=by
 have e:ly gt gb fi Γ=forL gt gb (l.map enc) Γ:=by unfold ly;rw[hf];rfl
 rw[e];clear e hf;induction l generalizing s Γ with
 |nil=>exact .inl ⟨Γ,rfl,hs,fun p hp=>by simp at hp⟩
 |cons p l ih=>
  rw[map_cons];by_cases c:bad p
  ·obtain⟨as,e1,e2⟩:=bd s p Γ c hs;refine .inr ⟨?_,p,mem_cons_self,c⟩;show(gt (enc p)).bind _=_;rw[e1];show(gb (setG Γ as)).bind _=_;rw[e2];rfl
  ·obtain⟨as,e1,cU,e2,h1⟩:=good s p Γ c hs;have e3:forL gt gb (enc p::l.map enc) Γ=forL gt gb (l.map enc) cU:=by
    show(gt (enc p)).bind _=_;rw[e1];show(gb (setG Γ as)).bind _=_;rw[e2];rfl
   rw[e3];rcases ih h1 with⟨ag,a,b,d⟩|⟨a,q,hq,b⟩
   ·exact .inl ⟨ag,a,b,fun q hq=>(mem_cons.mp hq).elim (fun z=>by rw[z];exact c) (d q)⟩
   ·exact .inr ⟨a,q,mem_cons_of_mem _ hq,b⟩
theorem KS{g1 g2:aD->Option Fl}{fl:Fl}{r:Dat}{I:aD->Prop}{C B:Prop}(h:(∃ag,g1 Γ=some (.nx ag)/\I ag/\C)\/(g1 Γ=some (.rt r)/\B))(k1:∀ag,C->I ag->g2 ag=some fl)(k2:B->fl=.rt r):dr g1 g2 Γ=some fl:=by
 rcases h with⟨ag,e,h,c⟩|⟨e,b⟩
 ·unfold dr;rw[e];exact k1 ag c h
 ·unfold dr;rw[e,k2 b];rfl
variable {a b:Bool} {ft gt:aw->Option Bool} {ρ:aw}
theorem BS(hf:ft ρ=some a)(hg:gt ρ=some b):jl ft gt ρ=some (a&&b):=by
 unfold jl;rw[hf];cases a
 ·rfl
 ·exact hg
theorem FW(hf:ft ρ=some a)(hg:gt ρ=some b):j1 ft gt ρ=some (a || b):=by
 unfold j1;rw[hf];cases a
 ·exact hg
 ·rfl
variable {g f:aw->Option Dat}
theorem zB(hf:f ρ=some (.bool a))(hg:g ρ=some (.bool b)):nH f g ρ=some (.bool (a&&b)):=by
 unfold nH;rw[hf];cases a
 ·rfl
 ·exact hg
theorem Kf(hf:f ρ=some (.bool a))(hg:g ρ=some (.bool b)):rJ f g ρ=some (.bool (a || b)):=by
 unfold rJ;rw[hf];cases a
 ·exact hg
 ·rfl
end
end L3
namespace FM
noncomputable section
theorem rX{f:Nat->Rat}:∀m:Nat,sm (m+1) f=f 0+sm m (fun i=>f (i+1))
 |0=>by show(0:Rat)+f 0=f 0+0;grind
 |m+1=>by
  show sm (m+1) f+f (m+1)=f 0+(sm m (fun i=>f (i+1))+f (m+1));rw[rX m];grind
theorem Bf(Ls:List (List Row)):∀(m:Nat) (x:List Rat) (c:Nat),m<=c->(dP Ls m x).getD c 0=x.getD c 0
 |0,x,c,_=>rfl
 |m+1,x,c,h=>by
  show(dP Ls m (x.set m _)).getD c 0=_;rw[Bf Ls m _ c (by omega)];rw[getD_eq_getElem?_getD,getElem?_set_ne (by omega),<- getD_eq_getElem?_getD]
end
end FM
namespace SO
noncomputable section
open PySem PySem.Spec PyProof.Rows L2 L3
open PySem.W (Dat kqdOk)
local macro_rules | `(tactic| simp! [$xs,*]) => `(tactic| simp only [iW, cF, dr, iB, kb, kr, ij, pS, c9, ju, L3.f2, L3.f1, aI, fC, aT, bW, l5, nG, jF, gi, uk, nH, rJ, qv, jl, j1, jX, bw, bU, lu, lQ, nC, List.map_cons, List.map_nil, List.getElem?_cons_zero, List.getElem?_cons_succ, Option.join_some, Option.bind_some, Option.map_some, List.set_cons_zero, List.set_cons_succ, List.length_cons, List.length_nil, List.cons_append, List.nil_append, List.replicate, Nat.add_sub_cancel, Nat.zero_add, Nat.reduceAdd, Nat.reduceSub, if_true, if_false, Bool.false_eq_true, Bool.not_true, Bool.not_false, decide_true, decide_false, reduceIte, reduceCtorEq, Nat.reduceEqDiff, Nat.reduceLeDiff, rZ, lV, dM, pT, mZ, gd, bp, fL, n6, cW, cc, aName, ko, fJ, List.foldl_cons, List.foldl_nil, Option.map_none, Option.bind_none, List.isEmpty, List.reverse_cons, List.reverse_nil, and_self, and_true, true_and, Option.some.injEq, kC, gB, mD, setG, List.append_nil, iw, L3.h2, mn, iy, CZ, oT, Ot, oS, runM, startM, mQ, Cu, Hg, y7, Di, ly, NS, qk, CS, dm, hL, Ec, gC, List.length_set, List.append_eq, $xs,*])
local macro_rules | `(tactic| dsimp! [$xs,*]) => `(tactic| simp only [iW, cF, dr, iB, kb, kr, ij, pS, c9, ju, L3.f2, L3.f1, aI, fC, aT, bW, l5, nG, jF, gi, uk, nH, rJ, qv, jl, j1, jX, bw, bU, lu, lQ, nC, List.map_cons, List.map_nil, List.getElem?_cons_zero, List.getElem?_cons_succ, Option.join_some, Option.bind_some, Option.map_some, List.set_cons_zero, List.set_cons_succ, List.length_cons, List.length_nil, List.cons_append, List.nil_append, List.replicate, Nat.add_sub_cancel, Nat.zero_add, Nat.reduceAdd, Nat.reduceSub, if_true, if_false, Bool.false_eq_true, Bool.not_true, Bool.not_false, decide_true, decide_false, reduceIte, reduceCtorEq, Nat.reduceEqDiff, Nat.reduceLeDiff, rZ, lV, dM, pT, mZ, gd, fL, n6, cW, cc, aName, ko, fJ, List.foldl_cons, List.foldl_nil, Option.map_none, Option.bind_none, List.isEmpty, List.reverse_cons, List.reverse_nil, and_self, and_true, true_and, Option.some.injEq, kC, gB, mD, setG, List.append_nil, iw, L3.h2, mn, iy, CZ, oT, Ot, oS, runM, startM, mQ, Cu, Hg, y7, Di, ly, NS, qk, CS, dm, hL, Ec, gC, List.length_set, List.append_eq, $xs,*])
local macro_rules | `(tactic| simp!) => `(tactic| simp only [cF, List.map_cons, List.map_nil, List.length_cons, List.length_nil, List.cons_append, List.nil_append, List.replicate])
local macro_rules | `(tactic| dsimp!) => `(tactic| simp only [setG, List.foldl_cons, List.foldl_nil, List.set_cons_succ, List.set_cons_zero])
def top (i:Nat):Stmt:=PySem.Challenge.pw_stepjudge_k18_whole_either_paper_or_poin.main.body.getD i (.Pass ⟨0,0,0,0⟩)
structure TX (P:Program) (K:Fg) (mg:Str->Option Value):Prop where
 seer:vI P K mg
 abs:mg "abs"=none
 len:mg "len"=none
 int:mg "int"=none
 isinstance:mg "isinstance"=none
 tuple:mg "tuple"=none
 bool:mg "bool"=none
 range:mg "range"=none
 zip:mg "zip"=none
 list:mg "list"=none
 str:mg "str"=none
 all:mg "all"=none
 enumerate:mg "enumerate"=none
 max:mg "max"=none
theorem sz{n:Nat}(h:n<=1000):n<=sizeLine:=Nat.le_of_lt (w5 h)
def p4:List Dat->Option Dat
 |[.int a,.int b]=>if 0<=a/\0<=b then some (.int (gcd a b))else none
 |_=>none
def Qz:aD->Nat
 |_::some (.a7 (.int b))::_=>b.natAbs+1
 |_=>0
abbrev Sh:aw->Option Bool:=c9 (f2 fF (aI 1) (fC (Dat.int 0)))
abbrev Si:aD->Option Fl:=dr (iB 2 (f2 vg (aI 0) (aI 1))) (dr (iB 0 (aI 1)) (iB 1 (aI 2)))
theorem Gy(x z:Option Slot)(b:Int)(r:aD):Sh (bU (x::some (.a7 (.int b))::r))=some (!decide (b=0)):=by
 show(fF (.int b) (.int 0)).bind lu=_;rw[dC];rfl
theorem Ce:∀(n:Nat) (a b:Int) (r:Option Slot),0<=a->0<=b->b.natAbs<n->∃r',dM Sh Si n [some (.a7 (.int a)),some (.a7 (.int b)),r]=some (.nx [some (.a7 (.int (gcd a b))),some (.a7 (.int 0)),r'])
 |0,_,_,_,_,_,h=>by omega
 |n+1,a,b,r,ha,hb,h=>by
  by_cases e:b=0
  ·subst e;refine⟨r,?_⟩;rw[rT (by rw[Gy _ none];rfl)];congr
   rw[Int.gcd_zero];omega
  ·have wJ:0<=a.fmod b:=Int.fmod_nonneg_of_pos a (by omega);have hm1:a.fmod b<b:=Int.fmod_lt_of_pos a (by omega);have hbody:Si [some (.a7 (.int a)),some (.a7 (.int b)),r]=some (.nx [some (.a7 (.int b)),some (.a7 (.int (a.fmod b))),some (.a7 (.int (a.fmod b)))]):=by
    refine(ao (lH (d:=.int (a.fmod b)) (gW e))).trans ?_;refine(ao (lH (d:=.int b) rfl)).trans ?_;exact lH (d:=.int (a.fmod b)) rfl
   obtain⟨r',q⟩:=Ce n b (a.fmod b) _ hb wJ (by omega);refine⟨r',?_⟩;rw[rS (by rw[Gy _ none,decide_eq_false e];rfl) hbody,q,Fr.zt a b (by omega)]
variable {K:Fg} {P:Program} {base:Heap} {w:World} {mg:Str->Option Value}
theorem UC(T:TX P K mg)(U:FnAt K mg "common_divisor" (top 1) ["a","b"]):Dn P w K mg base 41 "common_divisor" ["a","b"] 2 p4:=by
 obtain⟨f,fd,U,hm,hB⟩:=U.ex;have nd:(["a","b","rest"]:List Str).Nodup:=by decide +kernel
 refine hZ U hm hB (N:=["a","b","rest"]) ⟨rfl,rfl,rfl,by decide +kernel,rfl,by decide +kernel,by decide +kernel⟩ rfl (fun bA A outer s H E hr=>
  (ae (oF Qz PassesOwn.never (cS hr (a5 1) a8) (ae (aA 2 nd (iN (a5 0) (a5 1)))
  (ae (aA 0 nd (a5 1))
  (af (aA 1 nd (a5 2))))))
  (af (aq (a5 0))))) ?_
 intro ds d hl hF;unfold p4 at hF;split at hF
 ·rename_i a b;split at hF
  ·rename_i h;cases hF;obtain⟨r',q⟩:=Ce (b.natAbs+1) a b none h.1 h.2 (by omega);refine bH ?_;refine(ao q).trans ?_;exact AX rfl
  ·cases hF
 ·cases hF
def iL:List Dat->Option Dat
 |[.int n,.int d]=>if d≠0/\d.natAbs.log2<9000000 then some (.tuple [.int (Fr.num n d),.int (Fr.den n d)])else none
 |_=>none
theorem LB{a b:Nat}(h:a<=b):a.log2<=b.log2:=by
 by_cases ha:a=0
 ·subst ha;exact zero_le _
 ·rw[Nat.le_log2 (by omega)];exact le_trans (Nat.log2_self_le ha) h
theorem OQ(T:TX P K mg)(gk:Dn P w K mg base 41 "common_divisor" ["a","b"] 2 p4)(U:FnAt K mg "make" (top 2) ["n","d"]):Dn P w K mg base 42 "make" ["n","d"] 2 iL:=by
 obtain⟨f,fd,U,hm,hB⟩:=U.ex;have nd:(["n","d","divisor"]:List Str).Nodup:=by decide +kernel
 refine hZ U hm hB (N:=["n","d","divisor"]) ⟨rfl,rfl,rfl,by decide +kernel,rfl,by decide +kernel,by decide +kernel⟩ rfl (fun bA A outer s H E hr=>
  (ae (aA 2 nd (ay gk hr (a6 (lJ T.abs (a6 (a5 0) a9)) (a6 (lJ T.abs (a6 (a5 1) a9)) a9))))
  (ae (aN (nO (a5 1) a8) (af (aA 2 nd (eI (a5 2)))) aJ)
  (af (aq (bF (k:=0) (a6 (ee T.seer hr (a5 0) (a5 2)) (a6 (ee T.seer hr (a5 1) (a5 2)) a9)))))))) ?_
 intro ds d' hl hF;unfold iL at hF;split at hF
 ·rename_i n d;split at hF
  ·rename_i h;cases hF;have e1:p4 [.int (n.natAbs:Int),.int (d.natAbs:Int)]=some (.int (gcd n d)):=by
    have z:p4 [.int (n.natAbs:Int),.int (d.natAbs:Int)]=if 0<=(n.natAbs:Int)/\0<=(d.natAbs:Int)then some (.int (gcd (n.natAbs:Int) (d.natAbs:Int)))else none:=rfl;rw[z,if_pos ⟨Int.natCast_nonneg _,Int.natCast_nonneg _⟩];simp[gcd]
   have hb:(Fr.dv n d).natAbs.log2<9000000:=by
    rw[Fr.uu];refine lt_of_le_of_lt (LB ?_) h.2;have:=gcd_dvd_right n d;have:=Int.natAbs_dvd_natAbs.mpr this;exact le_of_dvd (by omega) (by simpa using this)
   have q1:r6 (.int n) (.int (Fr.dv n d))=some (.int (Fr.num n d)):=iQ (Fr.Ki h.1);have q2:r6 (.int d) (.int (Fr.dv n d))=some (.int (Fr.den n d)):=iQ (Fr.Ki h.1);have z2:2<=sizeLine:=sz (by decide);by_cases hd:d<0
   ·have e2: -(gcd n d:Int)=Fr.dv n d:=by unfold Fr.dv;exact(if_pos hd).symm
    simp only[iW,cF,dr,iB,kb,kr,ij,pS,c9,ju,f2,f1,aI,fC,aT,bW,l5,nG,jF,gi,uk,nH,rJ,qv,jl,j1,jX,bw,bU,lu,lQ,nC,map_cons,map_nil,getElem?_cons_zero,getElem?_cons_succ,Option.join_some,Option.bind_some,map_some,set_cons_zero,set_cons_succ,length_cons,length_nil,cons_append,nil_append,List.replicate,add_sub_cancel,zero_add,reduceAdd,reduceSub,if_true,if_false,false_eq_true,Bool.not_true,Bool.not_false,decide_true,decide_false,reduceIte,reduceCtorEq,reduceEqDiff,reduceLeDiff,jw,e1,cL,hd,e2,q1,q2,z2]
   ·have e2:(gcd n d:Int)=Fr.dv n d:=by unfold Fr.dv;exact(if_neg hd).symm
    simp only[iW,cF,dr,iB,kb,kr,ij,pS,c9,ju,f2,f1,aI,fC,aT,bW,l5,nG,jF,gi,uk,nH,rJ,qv,jl,j1,jX,bw,bU,lu,lQ,nC,map_cons,map_nil,getElem?_cons_zero,getElem?_cons_succ,Option.join_some,Option.bind_some,map_some,set_cons_zero,set_cons_succ,length_cons,length_nil,cons_append,nil_append,List.replicate,add_sub_cancel,zero_add,reduceAdd,reduceSub,if_true,if_false,false_eq_true,Bool.not_true,Bool.not_false,decide_true,decide_false,reduceIte,reduceCtorEq,reduceEqDiff,reduceLeDiff,jw,e1,cL,hd,e2,q1,q2,z2]
  ·cases hF
 ·cases hF
variable {k:Nat}
theorem log2_small{n:Nat}(hk:0<k)(h:n<2^k):n.log2<k:=by
 by_cases e:n=0
 ·subst e;simpa using hk
 ·exact(Nat.log2_lt e).mpr h
theorem kX(a b:Dat):fK [a,b] 0=some a:=rfl
theorem kW(a b:Dat):fK [a,b] 1=some b:=rfl
variable {b:Int}
theorem lM(a:Int)(h:0<b):0<=a.fmod b/\a.fmod b<b:=⟨Int.fmod_nonneg_of_pos a h,Int.fmod_lt_of_pos a h⟩
theorem mulR(a:Int)(h1: -(2^64)<b)(h2:b<2^64):jr (.int a) (.int b)=some (.int (a*b)):=oK (.of_right (intBits_le_64 h1 h2))
variable {a:Int}
theorem mulL(b:Int)(h1: -(2^64)<a)(h2:a<2^64):jr (.int a) (.int b)=some (.int (a*b)):=oK (.of_left (intBits_le_64 h1 h2))
theorem Jx:CI (.int 10) (.int 18)=some (.int (10^18)):=iQ (by unfold Ae;decide)
theorem Q7:CI (.int 10) (.int 30)=some (.int (10^30)):=iQ (by unfold Ae;decide)
theorem NO(i:Int):gD "int" (.int i)=some (.bool true):=rfl
theorem NP(i:Int):gD "bool" (.int i)=some (.bool false):=rfl
theorem Ql(ds:List Dat):gD "tuple" (.tuple ds)=some (.bool true):=rfl
theorem Qm(x:Str):gD "str" (.str x)=some (.bool true):=rfl
theorem zD{d:Dat}(h:kqdOk 9 d=true)(h1:∀b,d≠.bool b)(h2:∀b,d≠.str b):eqB d d=some true:=by
 unfold eqB;split
 ·exact absurd rfl (h1 _)
 ·exact absurd rfl (h2 _)
 ·rw[if_pos ⟨h,h⟩,mz rfl]
theorem bits_le{x:Int}(hk:0<k)(h:x.natAbs<2^k):Builtin.Int.intBits x<=k:=by
 have:=log2_small hk h;unfold Builtin.Int.intBits;split
 ·exact zero_le _
 ·omega
theorem LI{x y:Str}(h:x=y):cZ (.str x) (.str y)=some (.bool true):=by
 subst h;show some (Dat.bool _)=_;simp
structure Md (x:Int):Prop where
 lt:x.natAbs<2^4000000
theorem pw(a b:Nat):2^a*2^b=2^(a+b):=(pow_add 2 a b).symm
theorem Md.mul(ha:Md a)(hb:Md b):(a*b).natAbs<2^8000000:=by
 rw[natAbs_mul];have h:=Nat.mul_lt_mul'' ha.lt hb.lt;rw[pw]at h;exact h
theorem mulM(ha:Md a)(hb:Md b):jr (.int a) (.int b)=some (.int (a*b)):=
 oK (.of_le (bits_le (k:=4000000) (by decide) ha.lt) (bits_le (k:=4000000) (by decide) hb.lt) (by decide))
theorem CM(ha:a.natAbs<2^9000000)(hb:b.natAbs<2^9000000):jr (.int a) (.int b)=some (.int (a*b)):=
 oK (.of_le (bits_le (k:=9000000) (by decide) ha) (bits_le (k:=9000000) (by decide) hb) (by decide))
variable {n:Int}
theorem nW{d:Int}(h:d≠0)(hb:d.natAbs<2^8000000):iL [.int n,.int d]=some (.tuple [.int (Fr.num n d),.int (Fr.den n d)]):=
 if_pos ⟨h,lt_trans (log2_small (k:=8000000) (by decide) hb) (by decide)⟩
structure Gd (p q:Int):Prop where
 pos:0<q
 zM:gcd p q=1
 mp:Md p
 mq:Md q
abbrev fr (p q:Int):Dat:=.tuple [.int p,.int q]
def two (ds:List Dat):Option (Int×Int×Int×Int):=match ds with
 |[.tuple [.int p,.int q],.tuple [.int r,.int s]]=>some (p,q,r,s)
 |_=>none
def kK (g:Int->Int->Int->Int->Option Dat):List Dat->Option Dat:=open Classical in fun ds=>match ds with
 |[.tuple [.int p,.int q],.tuple [.int r,.int s]]=>if Gd p q/\Gd r s then g p q r s else none
 |_=>none
variable {p:Int}
theorem mI{g:Int->Int->Int->Int->Option Dat}{q r s:Int}(h:Gd p q)(h':Gd r s):kK g [fr p q,fr r s]=g p q r s:=by
 unfold kK;exact if_pos ⟨h,h'⟩
abbrev mk (n d:Int):Dat:=fr (Fr.num n d) (Fr.den n d)
abbrev jh:=kK fun p q r s=>some (mk (p*s+r*q) (q*s))
abbrev eX:=kK fun p q r s=>some (mk (p*s-r*q) (q*s))
abbrev jJ:=kK fun p q r s=>some (mk (p*r) (q*s))
abbrev oh:=kK fun p q r s=>if r≠0 then some (mk (p*s) (q*r))else none
abbrev fB:=kK fun p q r s=>some (.bool (decide (p*s<r*q)))
variable {ds:List Dat}
theorem fz{g:Int->Int->Int->Int->Option Dat}{d:Dat}(h:kK g ds=some d):∃p q r s,ds=[fr p q,fr r s]/\Gd p q/\Gd r s/\g p q r s=some d:=by
 unfold kK at h;split at h
 ·split at h
  ·rename_i hc;exact⟨_,_,_,_,rfl,hc.1,hc.2,h⟩
  ·cases h
 ·cases h
theorem OM(T:TX P K mg)(kL:Dn P w K mg base 42 "make" ["n","d"] 2 iL)(U:FnAt K mg "plus" (top 3) ["a","b"]):Dn P w K mg base 43 "plus" ["a","b"] 2 jh:=by
 obtain⟨f,fd,U,hm,hB⟩:=U.ex;have nd:(["a","b"]:List Str).Nodup:=by decide +kernel
 refine hZ U hm hB (N:=["a","b"]) ⟨rfl,rfl,rfl,by decide +kernel,rfl,by decide +kernel,by decide +kernel⟩ rfl (fun bA A outer s H E hr=>
  (af (aq (ay kL hr (a6 (dg (bJ (ah (a5 0) a8) (ah (a5 1) a8)) (bJ (ah (a5 1) a8) (ah (a5 0) a8))) (a6 (bJ (ah (a5 0) a8) (ah (a5 1) a8)) a9)))))) ?_
 intro ds d hl hF;obtain⟨p,q,r,s,rfl,g1,g2,e⟩:=fz hF;have z:=mul_ne_zero (ne_of_gt g1.pos) (ne_of_gt g2.pos);cases e;simp only[iW,cF,dr,iB,kb,kr,ij,pS,c9,ju,f2,f1,aI,fC,aT,bW,l5,nG,jF,gi,uk,nH,rJ,qv,jl,j1,jX,bw,bU,lu,lQ,nC,map_cons,map_nil,getElem?_cons_zero,getElem?_cons_succ,Option.join_some,Option.bind_some,map_some,set_cons_zero,set_cons_succ,length_cons,length_nil,cons_append,nil_append,List.replicate,add_sub_cancel,zero_add,reduceAdd,reduceSub,if_true,if_false,false_eq_true,Bool.not_true,Bool.not_false,decide_true,decide_false,reduceIte,reduceCtorEq,reduceEqDiff,reduceLeDiff,rZ,lV,dM,pT,mZ,gd,bp,fL,n6,cW,cc,aName,ko,fJ,foldl_cons,foldl_nil,map_none,bind_none,isEmpty,List.reverse_cons,List.reverse_nil,and_self,and_true,true_and,Option.some.injEq,kC,gB,mD,setG,append_nil,fr,kX,kW,bP,eY,cL,mulM g1.mp g2.mq,mulM g2.mp g1.mq,mulM g1.mq g2.mq,mulM g1.mp g2.mp,mulM g1.mq g2.mp,nW z (g1.mq.mul g2.mq)]
theorem LR(T:TX P K mg)(kL:Dn P w K mg base 42 "make" ["n","d"] 2 iL)(U:FnAt K mg "times" (top 5) ["a","b"]):Dn P w K mg base 43 "times" ["a","b"] 2 jJ:=by
 obtain⟨f,fd,U,hm,hB⟩:=U.ex;have nd:(["a","b"]:List Str).Nodup:=by decide +kernel
 refine hZ U hm hB (N:=["a","b"]) ⟨rfl,rfl,rfl,by decide +kernel,rfl,by decide +kernel,by decide +kernel⟩ rfl (fun bA A outer s H E hr=>
  (af (aq (ay kL hr (a6 (bJ (ah (a5 0) a8) (ah (a5 1) a8)) (a6 (bJ (ah (a5 0) a8) (ah (a5 1) a8)) a9)))))) ?_
 intro ds d hl hF;obtain⟨p,q,r,s,rfl,g1,g2,e⟩:=fz hF;have z:=mul_ne_zero (ne_of_gt g1.pos) (ne_of_gt g2.pos);cases e;simp only[iW,cF,dr,iB,kb,kr,ij,pS,c9,ju,f2,f1,aI,fC,aT,bW,l5,nG,jF,gi,uk,nH,rJ,qv,jl,j1,jX,bw,bU,lu,lQ,nC,map_cons,map_nil,getElem?_cons_zero,getElem?_cons_succ,Option.join_some,Option.bind_some,map_some,set_cons_zero,set_cons_succ,length_cons,length_nil,cons_append,nil_append,List.replicate,add_sub_cancel,zero_add,reduceAdd,reduceSub,if_true,if_false,false_eq_true,Bool.not_true,Bool.not_false,decide_true,decide_false,reduceIte,reduceCtorEq,reduceEqDiff,reduceLeDiff,rZ,lV,dM,pT,mZ,gd,bp,fL,n6,cW,cc,aName,ko,fJ,foldl_cons,foldl_nil,map_none,bind_none,isEmpty,List.reverse_cons,List.reverse_nil,and_self,and_true,true_and,Option.some.injEq,kC,gB,mD,setG,append_nil,fr,kX,kW,bP,eY,cL,mulM g1.mp g2.mq,mulM g2.mp g1.mq,mulM g1.mq g2.mq,mulM g1.mp g2.mp,mulM g1.mq g2.mp,nW z (g1.mq.mul g2.mq)]
theorem Ma(T:TX P K mg)(kL:Dn P w K mg base 42 "make" ["n","d"] 2 iL)(U:FnAt K mg "below" (top 7) ["a","b"]):Dn P w K mg base 43 "below" ["a","b"] 2 fB:=by
 obtain⟨f,fd,U,hm,hB⟩:=U.ex;have nd:(["a","b"]:List Str).Nodup:=by decide +kernel
 refine hZ U hm hB (N:=["a","b"]) ⟨rfl,rfl,rfl,by decide +kernel,rfl,by decide +kernel,by decide +kernel⟩ rfl (fun bA A outer s H E hr=>
  (af (aq (tQ (bJ (ah (a5 0) a8) (ah (a5 1) a8)) (bJ (ah (a5 1) a8) (ah (a5 0) a8)))))) ?_
 intro ds d hl hF;obtain⟨p,q,r,s,rfl,g1,g2,e⟩:=fz hF;have z:=mul_ne_zero (ne_of_gt g1.pos) (ne_of_gt g2.pos);cases e;simp only[iW,cF,dr,iB,kb,kr,ij,pS,c9,ju,f2,f1,aI,fC,aT,bW,l5,nG,jF,gi,uk,nH,rJ,qv,jl,j1,jX,bw,bU,lu,lQ,nC,map_cons,map_nil,getElem?_cons_zero,getElem?_cons_succ,Option.join_some,Option.bind_some,map_some,set_cons_zero,set_cons_succ,length_cons,length_nil,cons_append,nil_append,List.replicate,add_sub_cancel,zero_add,reduceAdd,reduceSub,if_true,if_false,false_eq_true,Bool.not_true,Bool.not_false,decide_true,decide_false,reduceIte,reduceCtorEq,reduceEqDiff,reduceLeDiff,rZ,lV,dM,pT,mZ,gd,bp,fL,n6,cW,cc,aName,ko,fJ,foldl_cons,foldl_nil,map_none,bind_none,isEmpty,List.reverse_cons,List.reverse_nil,and_self,and_true,true_and,Option.some.injEq,kC,gB,mD,setG,append_nil,fr,kX,kW,bP,eY,cL,mulM g1.mp g2.mq,mulM g2.mp g1.mq,mulM g1.mq g2.mq,mulM g1.mp g2.mp,mulM g1.mq g2.mp]
abbrev R:=Int×Int
abbrev rD (r:R):List Dat:=[.int r.1,.int r.2]
def gI (r:R):Prop:=0<=r.2/\r.2<2147483648
instance (r:R):Decidable (gI r):=inferInstanceAs (Decidable (_/\_))
def mO (b:Int):Int:=(b*48271+11).fmod 2147483647
def jP (b:Int):Int:=(mO b*mO b).fmod 2147483629
def tk (r:R) (m:Int):Int:=if 10^18<=r.1 then r.1.fmod m else(((jP r.2*69621).fmod 2147483587).fdiv 8).fmod m
def tr (r:R) (m:Int):R:=if 10^18<=r.1 then(r.1.fdiv m,r.2)else(r.1,mO r.2)
variable {m:Int}
theorem gz(r:R)(h:0<m):0<=tk r m/\tk r m<m:=by
 unfold tk;split
 ·exact lM _ h
 ·exact lM _ h
theorem E4(b:Int):0<=mO b/\mO b<2147483647:=lM _ (by decide)
theorem ML(b:Int):0<=jP b/\jP b<2147483629:=lM _ (by decide)
theorem f6{r:R}(h:gI r):gI (tr r m):=by
 unfold tr;split
 ·exact h
 ·have:=E4 r.2;exact⟨this.1,by show mO r.2<_;omega⟩
def jg:List Dat->List Dat->Option (Dat×List Dat)
 |[.int a,.int b],[.int m]=>if gI (a,b)/\0<m/\m<2^200 then some (.int (tk (a,b) m),rD (tr (a,b) m))else none
 |_,_=>none
theorem cJ{r:R}(h:gI r)(h1:0<m)(h2:m<2^200):jg [.int r.1,.int r.2] [.int m]=some (.int (tk r m),[.int (tr r m).1,.int (tr r m).2]):=if_pos ⟨h,h1,h2⟩
theorem NC(h1:0<m)(h2:m<2^200):m.natAbs.log2<9000000:=lt_trans (log2_small (k:=200) (by decide) (by omega)) (by decide)
theorem OL(T:TX P K mg)(U:FnAt K mg "_law_reel" (top 44) ["cell"]):
  uP P w K mg base 41 "_law_reel" ["cell"] 1 (fun ds=>match ds with|[.int c]=>some (rD ((c.natAbs:Int),((c.fmod 2147483647+1)*742938285).fmod 2147483647))|_=>none):=by
 obtain⟨f,fd,U,hm,hB⟩:=U.ex;have nd:(["cell"]:List Str).Nodup:=by decide +kernel
 refine L8 U hm hB (N:=["cell"]) ⟨rfl,rfl,rfl,by decide +kernel,rfl,by decide +kernel,by decide +kernel⟩ rfl rfl (fun bA A outer s H E hr=>
  gT (a6 (lJ T.abs (a6 (a5 0) a9)) (a6 (iN (bJ (dg (iN (a5 0) a8) a8) a8) a8) a9))) ?_
 intro ds out hl hF;split at hF
 ·rename_i c;cases hF;have e1:=gW (a:=c) (b:=2147483647) (by decide);have e2:=mulR (c.fmod 2147483647+1) (b:=742938285) (by decide) (by decide);have e3:=gW (a:=(c.fmod 2147483647+1)*742938285) (b:=2147483647) (by decide);have z2:2<=sizeLine:=sz (by decide);simp![jw,e1,e2,e3,bP,z2]
 ·cases hF
theorem OK(T:TX P K mg)(U:FnAt K mg "_law_take" (top 45) ["reel","many"]):k7 P w K mg base 41 "_law_take" ["reel","many"] 2 jg:=by
 obtain⟨f,fd,U,hm,hB⟩:=U.ex;have nd:(["reel","many","found","stir"]:List Str).Nodup:=by decide +kernel
 refine qS U hm hB (N:=["reel","many","found","stir"]) ⟨rfl,rfl,rfl,by decide +kernel,rfl,by decide +kernel,by decide +kernel⟩ rfl (fun bA A outer s H E hr=>
  (ae (aN (L6 (ah (a5 0) a8) (v9 a8 a8)) (ae (aA 2 nd (iN (ah (a5 0) a8) (a5 1)))
  (ae (tN 0 (aP (ee T.seer hr (ah (a5 0) a8) (a5 1))))
  (af (gM (aP (a5 2)))))) aJ)
  (ae (tN 0 (aP (iN (dg (bJ (ah (a5 0) a8) a8) a8) a8)))
  (ae (aA 3 nd (iN (bJ (ah (a5 0) a8) (ah (a5 0) a8)) a8))
  (af (gM (aP (iN (ee T.seer hr (iN (bJ (a5 3) a8) a8) a8) (a5 1))))))))) ?_
 intro ds es d dQ hl hF;unfold jg at hF;split at hF
 ·rename_i a b m;split at hF
  ·rename_i h;obtain⟨hR,h1,h2⟩:=h;have wJ:m≠0:=by omega
   have i0:∀x y:Dat,fK [x,y] 0=some x:=fun _ _=>rfl;have i1:∀x y:Dat,fK [x,y] 1=some y:=fun _ _=>rfl;have n0:l8 2 0=some 0:=rfl;have n1:l8 2 1=some 1:=rfl;by_cases BK:(10:Int)^18<=a
   ·have t1:tk (a,b) m=a.fmod m:=by unfold tk;exact if_pos BK
    have t2:tr (a,b) m=(a.fdiv m,b):=by unfold tr;exact if_pos BK
    rw[t1,t2]at hF;cases hF;have e1:=gW (a:=a) (b:=m) wJ;have e2:=gh (a:=a) (b:=m) wJ (NC h1 h2);simp![i0,i1,Jx,BL,e1,e2,eq_true BK,n0,n1]
   ·have t1:tk (a,b) m=(((jP b*69621).fmod 2147483587).fdiv 8).fmod m:=by unfold tk;exact if_neg BK
    have t2:tr (a,b) m=(a,mO b):=by unfold tr;exact if_neg BK
    rw[t1,t2]at hF;cases hF;have b1:=E4 b;have b2:=ML b;have e1:=mulR b (b:=48271) (by decide) (by decide);have e2:vg (.int (b*48271+11)) (.int 2147483647)=some (.int (mO b)):=gW (by decide);have e3:jr (.int (mO b)) (.int (mO b))=some (.int (mO b*mO b)):=mulR _ (by omega) (by omega);have e4:vg (.int (mO b*mO b)) (.int 2147483629)=some (.int (jP b)):=gW (by decide);have e5:=mulR (jP b) (b:=69621) (by decide) (by decide);have e6:=gW (a:=jP b*69621) (b:=2147483587) (by decide);have e7:=gh (a:=(jP b*69621).fmod 2147483587) (b:=8) (by decide) (by decide);have e8:=gW (a:=((jP b*69621).fmod 2147483587).fdiv 8) (b:=m) wJ;simp![i0,i1,Jx,BL,bP,e1,e2,e3,e4,e5,e6,e7,e8,eq_false BK,n0,n1]
  ·cases hF
 ·cases hF
def jK:List Dat->Option Dat
 |[.int n,.int d]=>if 0<d/\d.natAbs<2^8000000 then some (mk n d)else none
 |_=>none
theorem me{d:Int}(h:0<d)(hb:d.natAbs<2^8000000):jK [.int n,.int d]=some (mk n d):=if_pos ⟨h,hb⟩
def Ka:aD->Nat
 |_::some (.a7 (.int d))::_=>d.natAbs+1
 |_=>0
abbrev NG:aw->Option Bool:=c9 (f2 fF (aI 3) (fC (Dat.int 0)))
abbrev NH:aD->Option Fl:=Hf 2 3 (aT (aI 3) (aT (f2 vg (aI 2) (aI 3)) bW))
theorem Bv(x y:Option Slot):∀(n:Nat) (a b:Int),0<=a->0<=b->b.natAbs<n->dM NG NH n [x,y,some (.a7 (.int a)),some (.a7 (.int b))]=some (.nx [x,y,some (.a7 (.int (gcd a b))),some (.a7 (.int 0))])
 |0,a,b,_,_,h=>by omega
 |n+1,a,b,ha,hb,h=>by
  have eT:∀b:Int,NG (bU [x,y,some (.a7 (.int a)),some (.a7 (.int b))])=some (!decide (b=0)):=fun b=>by
   show(fF (.int b) (.int 0)).bind lu=_;rw[dC];rfl
  by_cases e:b=0
  ·subst e;rw[rT (by rw[eT];rfl)];have:((gcd a 0:Nat):Int)=a:=by rw[Int.gcd_zero_right];omega
   rw[this]
  ·have hp:0<b:=by omega
   have bd:=lM a hp;have e1:NH [x,y,some (.a7 (.int a)),some (.a7 (.int b))]=some (.nx [x,y,some (.a7 (.int b)),some (.a7 (.int (a.fmod b)))]):=by
    have em:=gW (a:=a) (b:=b) e;simp![Hf,em]
   rw[rS (by rw[eT,decide_eq_false e];rfl) e1,Bv x y n b (a.fmod b) hb bd.1 (by omega),Fr.zt a b hp]
theorem M4(T:TX P K mg)(U:FnAt K mg "_law_make" (top 46) ["n","d"]):Dn P w K mg base 41 "_law_make" ["n","d"] 2 jK:=by
 obtain⟨f,fd,U,hm,hB⟩:=U.ex;have nd:(["n","d","one","other"]:List Str).Nodup:=by decide +kernel
 refine hZ U hm hB (N:=["n","d","one","other"]) ⟨rfl,rfl,rfl,by decide +kernel,rfl,by decide +kernel,by decide +kernel⟩ rfl (fun bA A outer s H E hr=>
  (ae (aA 2 nd (lJ T.abs (a6 (a5 0) a9)))
  (ae (aA 3 nd (a5 1))
  (ae (oF Ka PassesOwn.never (cS hr (a5 3) a8) (af (Hl 2 3 rfl nd (by decide) (a6 (a5 3) (a6 (iN (a5 2) (a5 3)) a9)))))
  (af (aq (bF (k:=0) (a6 (ee T.seer hr (a5 0) (a5 2)) (a6 (ee T.seer hr (a5 1) (a5 2)) a9))))))))) ?_
 intro ds r hl hF;unfold jK at hF;split at hF
 ·rename_i n d;split at hF
  ·rename_i h;obtain⟨h1,h2⟩:=h;cases hF;have g0:gcd (n.natAbs:Int) d=gcd n d:=by
    unfold gcd;rw[natAbs_natCast]
   have hl:=Bv (some (.a7 (.int n))) (some (.a7 (.int d))) (d.natAbs+1) n.natAbs d (by omega) (by omega) (by omega);rw[g0]at hl;have hw:lV Ka NG NH [some (.a7 (.int n)),some (.a7 (.int d)),some (.a7 (.int n.natAbs)),some (.a7 (.int d))]=_:=hl;have gp:=Fr.lL (n:=n) (d:=d) (by omega);have gl:gcd n d<=d.natAbs:=le_of_dvd (by omega) (Int.ofNat_dvd_left.mp (gcd_dvd_right n d));have lg:(gcd n d:Int).natAbs.log2<9000000:=lt_trans (log2_small (k:=8000000) (by decide) (by rw[natAbs_natCast];exact lt_of_le_of_lt gl h2)) (by decide);have e1:=gh (a:=n) (b:=(gcd n d:Int)) (by omega) lg;have e2:=gh (a:=d) (b:=(gcd n d:Int)) (by omega) lg;have en:n.fdiv (gcd n d:Int)=Fr.num n d:=by unfold Fr.num Fr.dv;rw[if_neg (by omega)]
   have ed:d.fdiv (gcd n d:Int)=Fr.den n d:=by unfold Fr.den Fr.dv;rw[if_neg (by omega)]
   rw[en]at e1;rw[ed]at e2;have z2:2<=sizeLine:=sz (by decide);refine bH ?_;simp!;rw[ao (ag:=[some (.a7 (.int n)),some (.a7 (.int d)),some (.a7 (.int n.natAbs)),none]) (by simp![jw])];rw[ao (ag:=[some (.a7 (.int n)),some (.a7 (.int d)),some (.a7 (.int n.natAbs)),some (.a7 (.int d))]) (by simp![if_true])];rw[ao (ag:=[some (.a7 (.int n)),some (.a7 (.int d)),some (.a7 (.int (gcd n d))),some (.a7 (.int 0))]) hw];simp![e1,e2,z2]
  ·cases hF
 ·cases hF
abbrev Mj:=kK fun p q r s=>some (mk (p*s+r*q) (q*s))
theorem M3(T:TX P K mg)(jL:Dn P w K mg base 41 "_law_make" ["n","d"] 2 jK)(U:FnAt K mg "_law_plus" (top 47) ["a","b"]):Dn P w K mg base 42 "_law_plus" ["a","b"] 2 Mj:=by
 obtain⟨f,fd,U,hm,hB⟩:=U.ex;have nd:(["a","b"]:List Str).Nodup:=by decide +kernel
 refine hZ U hm hB (N:=["a","b"]) ⟨rfl,rfl,rfl,by decide +kernel,rfl,by decide +kernel,by decide +kernel⟩ rfl (fun bA A outer s H E hr=>
  (af (aq (ay jL hr (a6 (dg (bJ (ah (a5 0) a8) (ah (a5 1) a8)) (bJ (ah (a5 1) a8) (ah (a5 0) a8))) (a6 (bJ (ah (a5 0) a8) (ah (a5 1) a8)) a9)))))) ?_
 intro ds d hl hF;obtain⟨p,q,r,s,rfl,g1,g2,e⟩:=fz hF;have z:=mul_pos g1.pos g2.pos;cases e;simp![kX,kW,mulM g1.mp g2.mq,mulM g2.mp g1.mq,mulM g1.mq g2.mq,bP,me z (g1.mq.mul g2.mq)]
abbrev jE (x:Int×Int):Dat:=fr x.1 x.2
structure Sm (x:Int×Int):Prop where
 pos:0<x.2
 zM:gcd x.1 x.2=1
 ln:x.1.natAbs<2^100
 ld:x.2.natAbs<2^100
def dU (r:R) (g:Bool):(Int×Int)×R:=
 if tk r 8<4 then((tk (tr r 8) 7-3,1),tr (tr r 8) 7)
 else if tk r 8=4 then((0,1),tr r 8)
 else if tk r 8=7/\g=true then
  ((Fr.num (tk (tr r 8) (10^30)*(if tk (tr (tr r 8) (10^30)) 2=0 then 1 else -1)) (1+tk (tr (tr (tr r 8) (10^30)) 2) (10^29)),Fr.den (tk (tr r 8) (10^30)*(if tk (tr (tr r 8) (10^30)) 2=0 then 1 else -1)) (1+tk (tr (tr (tr r 8) (10^30)) 2) (10^29))),tr (tr (tr (tr r 8) (10^30)) 2) (10^29))
 else((Fr.num (tk (tr r 8) 41-20) (1+tk (tr (tr r 8) 41) 12),Fr.den (tk (tr r 8) 41-20) (1+tk (tr (tr r 8) 41) 12)),tr (tr (tr r 8) 41) 12)
theorem AV{d:Int}(h:0<d)(hn:n.natAbs<2^100)(hd:d.natAbs<2^100):Sm (Fr.num n d,Fr.den n d):=
 ⟨Fr.den_pos (by omega),Fr.zM (by omega),lt_of_le_of_lt (Fr.uB (by omega)) hn,lt_of_le_of_lt (Fr.uC (by omega)) hd⟩
variable {g:Bool}
theorem vq{r:R}(h:gI r):Sm (dU r g).1/\gI (dU r g).2:=by
 have o1:=f6 (m:=8) h;unfold dU;split
 ·have b:=gz (tr r 8) (m:=7) (by decide);exact⟨⟨show(0:Int)<1 by decide,Int.gcd_one_right _,by show(tk (tr r 8) 7-3).natAbs<_;omega,show(1:Int).natAbs<2^100 by decide⟩,f6 o1⟩
 ·split
  ·exact⟨⟨show(0:Int)<1 by decide,show gcd 0 1=1 by decide,show(0:Int).natAbs<2^100 by decide,show(1:Int).natAbs<2^100 by decide⟩,o1⟩
  ·split
   ·have b1:=gz (tr r 8) (m:=10^30) (by decide);have b2:=gz (tr (tr (tr r 8) (10^30)) 2) (m:=10^29) (by decide);refine⟨AV (by omega) ?_ (by omega),f6 (f6 (f6 o1))⟩;split
    ·rw[Int.mul_one];omega
    ·rw[Int.mul_neg,Int.mul_one,natAbs_neg];omega
   ·have b1:=gz (tr r 8) (m:=41) (by decide);have b2:=gz (tr (tr r 8) 41) (m:=12) (by decide);exact⟨AV (by omega) (by omega) (by omega),f6 (f6 o1)⟩
def qJ:List Dat->List Dat->Option (Dat×List Dat)
 |[.int a,.int b],[.bool g]=>if gI (a,b)then some (jE (dU (a,b) g).1,rD (dU (a,b) g).2)else none
 |_,_=>none
theorem xq{r:R}(h:gI r):qJ [.int r.1,.int r.2] [.bool g]=some (jE (dU r g).1,rD (dU r g).2):=if_pos h
theorem Q8:CI (.int 10) (.int 29)=some (.int (10^29)):=iQ (by unfold Ae;decide)
theorem OY(T:TX P K mg)(cM:k7 P w K mg base 41 "_law_take" ["reel","many"] 2 jg)(jL:Dn P w K mg base 41 "_law_make" ["n","d"] 2 jK)(U:FnAt K mg "_law_fraction" (top 52) ["reel","great"]):k7 P w K mg base 42 "_law_fraction" ["reel","great"] 2 qJ:=by
 obtain⟨f,fd,U,hm,hB⟩:=U.ex;have nd:(["reel","great","way","number"]:List Str).Nodup:=by decide +kernel
 refine qS U hm hB (N:=["reel","great","way","number"]) ⟨rfl,rfl,rfl,by decide +kernel,rfl,by decide +kernel,by decide +kernel⟩ rfl (fun bA A outer s H E hr=>
  (ae (dE 2 nd (cK 0 cM hr (aR (aP a8) bG)))
  (ae (aN (nO (a5 2) a8) (af (gM (v7 (aR (v8 (cK 0 cM hr (aR (aP a8) bG)) (aP a8)) (aR (aP a8) bG))))) aJ)
  (ae (aN (cC hr (a5 2) a8) (af (gM (aP (bF (k:=0) (a6 a8 (a6 a8 a9)))))) aJ)
  (ae (aN (cE (gn (cC hr (a5 2) a8) (fm (ba (a5 1))))) (ae (dE 3 nd (L4 (cK 0 cM hr (aR (aP (v9 a8 a8)) bG)) (yh (aP (ia (a6 a8 (a6 (eI a8) a9)))) (cK 0 cM hr (aR (aP a8) bG)))))
  (af (gM (yi jL hr (aR (aP (a5 3)) (aR (qQ (aP a8) (cK 0 cM hr (aR (aP (v9 a8 a8)) bG))) bG)))))) aJ)
  (af (gM (yi jL hr (aR (v8 (cK 0 cM hr (aR (aP a8) bG)) (aP a8)) (aR (qQ (aP a8) (cK 0 cM hr (aR (aP a8) bG))) bG)))))))))) ?_
 intro ds es d dQ hl hF;unfold qJ at hF;split at hF
 ·rename_i a b g;split at hF
  ·rename_i hR;have o1:=f6 (m:=8) hR;have f8:=cJ (m:=8) hR (by decide) (by decide);have z2:2<=sizeLine:=sz (by decide);by_cases c4:tk (a,b) 8<4
   ·have ef:dU (a,b) g=((tk (tr (a,b) 8) 7-3,1),tr (tr (a,b) 8) 7):=by unfold dU;rw[if_pos c4]
    rw[ef]at hF;cases hF;have f7:=cJ (m:=7) o1 (by decide) (by decide);simp![f8,f7,cL,eY,eq_true c4,z2]
   ·by_cases e4:tk (a,b) 8=4
    ·have ef:dU (a,b) g=((0,1),tr (a,b) 8):=by unfold dU;rw[if_neg c4,if_pos e4]
     rw[ef]at hF;cases hF;simp![f8,cL,dD,eq_false c4,eq_true e4,z2]
    ·by_cases e7:tk (a,b) 8=7/\g=true
     ·have ef:=(show dU (a,b) g=_ by unfold dU;rw[if_neg c4,if_neg e4,if_pos e7]);rw[ef]at hF;cases hF;obtain⟨e7,eg⟩:=e7;subst eg;have o2:=f6 (m:=10^30) o1;have o3:=f6 (m:=2) o2;have Wx:=cJ (m:=10^30) o1 (by decide) (by decide);have Wz:=cJ (m:=2) o2 (by decide) (by decide);have Wy:=cJ (m:=10^29) o3 (by decide) (by decide);have b2:=gz (tr (tr (a,b) 8) (10^30)) (m:=2) (by decide);have b29:=gz (tr (tr (tr (a,b) 8) (10^30)) 2) (m:=10^29) (by decide);have ix:fK [Dat.int 1,Dat.int (-1)] (tk (tr (tr (a,b) 8) (10^30)) 2)=some (.int (if tk (tr (tr (a,b) 8) (10^30)) 2=0 then 1 else -1)):=by
       rcases(show tk (tr (tr (a,b) 8) (10^30)) 2=0\/tk (tr (tr (a,b) 8) (10^30)) 2=1 by omega)with h|h
       ·rw[h];rfl
       ·rw[h];rfl
      have em:jr (.int (tk (tr (a,b) 8) (10^30))) (.int (if tk (tr (tr (a,b) 8) (10^30)) 2=0 then 1 else -1))=some (.int (tk (tr (a,b) 8) (10^30)*(if tk (tr (tr (a,b) 8) (10^30)) 2=0 then 1 else -1))):=mulR _ (by split<;>decide) (by split<;>decide);generalize hs:(if tk (tr (tr (a,b) 8) (10^30)) 2=0 then(1:Int)else -1)=sg at ix em ⊢;have JH:=me (n:=tk (tr (a,b) 8) (10^30)*sg) (d:=1+tk (tr (tr (tr (a,b) 8) (10^30)) 2) (10^29)) (by omega) (lt_of_lt_of_le (show _<2^100 by omega) (pow_le_pow_right (by decide) (by decide)));simp![f8,Wx,Wz,Wy,Q7,Q8,cL,dD,bP,ix,em,JH,eq_false c4,eq_false e4,eq_true e7,z2]
     ·have ef:=(show dU (a,b) g=_ by unfold dU;rw[if_neg c4,if_neg e4,if_neg e7]);rw[ef]at hF;cases hF;have o2:=f6 (m:=41) o1;have Sb:=cJ (m:=41) o1 (by decide) (by decide);have Sd:=cJ (m:=12) o2 (by decide) (by decide);have b12:=gz (tr (tr (a,b) 8) 41) (m:=12) (by decide);have JH:=me (n:=tk (tr (a,b) 8) 41-20) (d:=1+tk (tr (tr (a,b) 8) 41) 12) (by omega) (lt_of_lt_of_le (show _<2^100 by omega) (pow_le_pow_right (by decide) (by decide)));by_cases OE:tk (a,b) 8=7
      ·have eg:g=false:=by cases g with|false=>rfl|true=>exact absurd ⟨OE,rfl⟩ e7
       subst eg;simp![f8,Sb,Sd,cL,dD,bP,eY,JH,eq_false c4,eq_false e4,eq_true OE,z2]
      ·simp![f8,Sb,Sd,cL,dD,bP,eY,JH,eq_false c4,eq_false e4,eq_false OE,z2]
  ·cases hF
 ·cases hF
def nF (xs:List (Int×Int)):Dat:=.tuple (xs.map jE)
abbrev JJ (kind:Str) (xs:List (Int×Int)) (b:Int×Int):Dat:=.tuple [.str kind,nF xs,jE b]
def Kd (k:Str):Prop:=k="="\/k="<"\/k="<="
def o6:Nat->R->Bool->List (Int×Int)×R
 |0,r,_=>([],r)
 |n+1,r,g=>((dU r g).1::(o6 n (dU r g).2 g).1,(o6 n (dU r g).2 g).2)
theorem zH:∀(n:Nat) {r:R} {g:Bool},gI r->(∀x∈(o6 n r g).1,Sm x)/\gI (o6 n r g).2/\(o6 n r g).1.length=n
 |0,r,g,h=>⟨fun x hx=>by simp[o6]at hx,h,rfl⟩
 |n+1,r,g,h=>by
  obtain⟨h1,h2⟩:=vq (g:=g) h;obtain⟨i1,i2,i3⟩:=zH n (g:=g) h2;refine⟨fun x hx=>?_,i2,by show(o6 n (dU r g).2 g).1.length+1=_;rw[i3]⟩;rcases mem_cons.mp (show x∈(dU r g).1::(o6 n (dU r g).2 g).1 from hx)with e|h
  ·rw[e];exact h1
  ·exact i1 x h
theorem xh{gt:Dat->Option cX}{fe:HF}{tl:aD}{g:Bool}(RQ:∀d,∃as,gt d=some as/\∀r:R,gI r->∃DX,fe (setG (some (.own (rD r))::tl) as)=some (jE (dU r g).1,some (.own (rD (dU r g).2))::DX)):
  ∀(ak:List Dat) (r:R),gI r->n9 gt fe tl ak (rD r)=some ((o6 ak.length r g).1.map jE,rD (o6 ak.length r g).2)
 |[],r,_=>rfl
 |d::ak,r,h=>by
  obtain⟨as,e1,e2⟩:=RQ d;obtain⟨DX,e3⟩:=e2 r h;have ih:=xh RQ ak (dU r g).2 (vq h).2;show(gt d).bind _=_;rw[e1];show(fe (setG (some (.own (rD r))::tl) as)).bind _=_;rw[e3];show((n9 gt fe tl ak (rD (dU r g).2)).map _)=_;rw[ih];rfl
def Ve:List Str:=["<=","<","<=","=","<"]
def yK (i:Int):Str:=Ve.getD i.toNat "<"
theorem JM{i:Int}(h:0<=i/\i<5):fK [Dat.str "<=",Dat.str "<",Dat.str "<=",Dat.str "=",Dat.str "<"] i=some (.str (yK i))/\Kd (yK i):=by
 rcases(show i=0\/i=1\/i=2\/i=3\/i=4 by omega)with e|e|e|e|e
 ·rw[e];exact⟨rfl,.inr (.inr rfl)⟩
 ·rw[e];exact⟨rfl,.inr (.inl rfl)⟩
 ·rw[e];exact⟨rfl,.inr (.inr rfl)⟩
 ·rw[e];exact⟨rfl,.inl rfl⟩
 ·rw[e];exact⟨rfl,.inr (.inl rfl)⟩
abbrev NF (r:R) (m:Int) (g:Bool):List (Int×Int)×R:=o6 m.toNat (tr r 5) g
abbrev F2 (r:R) (m:Int) (g:Bool):(Int×Int)×R:=dU (NF r m g).2 g
def mJ:List Dat->List Dat->Option (Dat×List Dat)
 |[.int a,.int b],[.int m,.bool g]=>if gI (a,b)/\0<=m/\m<=9 then some (JJ (yK (tk (a,b) 5)) (NF (a,b) m g).1 (F2 (a,b) m g).1,rD (F2 (a,b) m g).2)else none
 |_,_=>none
theorem GU{r:R}(h:gI r)(h1:0<=m)(h2:m<=9):mJ [.int r.1,.int r.2] [.int m,.bool g]=some (JJ (yK (tk r 5)) (NF r m g).1 (F2 r m g).1,rD (F2 r m g).2):=if_pos ⟨h,h1,h2⟩
theorem i8(lo:Int)(n:Nat):(gm lo n).length=n:=by unfold gm;rw[length_map,length_range]
theorem OU(T:TX P K mg)(cM:k7 P w K mg base 42 "_law_take" ["reel","many"] 2 jg)(rQ:k7 P w K mg base 42 "_law_fraction" ["reel","great"] 2 qJ)(U:FnAt K mg "_law_line" (top 53) ["reel","many","great"]):k7 P w K mg base 43 "_law_line" ["reel","many","great"] 3 mJ:=by
 obtain⟨f,fd,U,hm,hB⟩:=U.ex;have nd:(["reel","many","great","kind","parts"]:List Str).Nodup:=by decide +kernel
 refine qS U hm hB (N:=["reel","many","great","kind","parts"]) ⟨rfl,rfl,rfl,by decide +kernel,rfl,by decide +kernel,by decide +kernel⟩ rfl (fun bA A outer s H E hr=>
  (ae (dE 3 nd (yh (aP (ia (a6 aZ (a6 aZ (a6 aZ (a6 aZ (a6 aZ a9))))))) (cK 0 cM hr (aR (aP a8) bG))))
  (ae (dE 4 nd (wm T.tuple (aR (yg (wj 0 rfl (zT (tn:=["k"]) (fv:=["reel","great"]) (js:=[0,2]) rfl (by decide +kernel) (by decide +kernel) rfl (by decide +kernel) (by decide +kernel) rfl
   (fun x hx=>by((have fO:x="reel"\/x="great":=(by simpa using hx));(rcases fO with rfl|rfl<;>exact⟨_,rfl⟩)))
   (fun p hp=>by((have g9:p=(("reel" : Str),(0:Nat))\/p=(("great" : Str),(2:Nat)):=(by simpa using hp));(rcases g9 with rfl|rfl<;>exact⟨rfl,.inr (.inl rfl),.inl rfl,fun z=>by cases z⟩)))) (j8 T.range (a6 (a5 1) a9)) (fun _ _ _ _=>(az 2 (show(["reel","great","k"]:List Str).Nodup by decide +kernel))) (fun _ _ _ _=>(cK 0 rQ hr (aR (aP (a5 1)) bG))) (dA rfl))) bG)))
  (af (gM (v7 (aR (aP (a5 3)) (aR (aP (a5 4)) (aR (cK 0 rQ hr (aR (aP (a5 2)) bG)) bG))))))))) ?_
 intro ds es d dQ hl hF;unfold mJ at hF;split at hF
 ·rename_i a b m g;split at hF
  ·rename_i h;obtain⟨hR,h1,h2⟩:=h;cases hF;have o1:=f6 (m:=5) hR;have f5:=cJ (m:=5) hR (by decide) (by decide);have k5:=(JM (gz (a,b) (m:=5) (by decide))).1;obtain⟨p1,p2,p3⟩:=zH m.toNat (g:=g) o1;have ff:=xq (g:=g) p2;have z5:5<=sizeLine:=sz (by decide);have z3:3<=sizeLine:=sz (by decide);have z10:m.toNat<sizeLine:=lt_of_lt_of_le (show m.toNat<1000 by omega) (sz (by decide));have eR:jS [.int m]=some (gm 0 m.toNat):=if_pos ⟨by omega,by omega⟩;have ec:=xh (gt:=aName 2) (fe:=oS 0 2 qJ (iy (iw (aI 1)) mn)) (tl:=[some (.a7 (.bool g)),none]) (g:=g) (fun d=>⟨[(2,d)],rfl,fun r hr=>⟨[some (.a7 (.bool g)),some (.a7 d)],by
    have e:=xq (g:=g) hr;simp![e]⟩⟩) (gm 0 m.toNat) (tr (a,b) 5) o1
   rw[i8]at ec;simp![f5,k5,z5,mY,nD,eR,ec,z10,i8,p3,length_map,ff,z3];rfl
  ·cases hF
 ·cases hF
variable {n m:Nat}
theorem Nv{a b:Nat}(ha:a<2^n)(hb:b<2^m):a*b<2^(n+m):=by
 have h:=Nat.mul_lt_mul'' ha hb;rw[pw]at h;exact h
def V6 (n d:Int):Int×Int:=(Fr.num n d,Fr.den n d)
def pl (x y:Int×Int):Int×Int:=V6 (x.1*y.2+y.1*x.2) (x.2*y.2)
def Ny (x y:Int×Int):Bool:=decide (x.1*y.2<y.1*x.2)
theorem ja{α β γ:Type}{f:α->β->γ}{z:γ}:∀{xs:List α} {ys:List β},z∈zipWith f xs ys->∃x∈xs,∃y∈ys,z=f x y
 |[],ys,h=>by simp at h
 |x::xs,[],h=>by simp at h
 |x::xs,y::ys,h=>by
  rw[List.zipWith_cons_cons]at h;rcases mem_cons.mp h with e|h
  ·exact⟨x,mem_cons_self,y,mem_cons_self,e⟩
  ·obtain⟨a,ha,b,hb,e⟩:=ja h;exact⟨a,mem_cons_of_mem _ ha,b,mem_cons_of_mem _ hb,e⟩
theorem BO{x y:Int×Int}(h:jE x=jE y):x=y:=by
 simp only[PySem.W.Dat.tuple.injEq,List.cons.injEq,PySem.W.Dat.int.injEq,and_true]at h;exact Prod.ext h.1 h.2
theorem Il{xs ys:List (Int×Int)}(h:nF xs=nF ys):xs=ys:=by
 unfold nF at h;rw[PySem.W.Dat.tuple.injEq]at h;exact(List.map_inj_right fun x y e=>BO e).mp h
theorem EO(xs:List (Int×Int)):kqdOk 9 (nF xs)=true:=by
 show(xs.map jE).all (kqdOk 8)=true;rw[all_map,all_eq_true];exact fun x _=>rfl
theorem BZ{d e:Dat}(h1:kqdOk 9 d=true)(h2:kqdOk 9 e=true)(n1:∀b,d≠.bool b)(n2:∀b,d≠.str b):eqB d e=some (kz d e):=by
 unfold eqB;split
 ·exact absurd rfl (n1 _)
 ·exact absurd rfl (n2 _)
 ·exact if_pos ⟨h1,h2⟩
theorem LK(xs ys:List (Int×Int)):cZ (nF xs) (nF ys)=some (.bool (decide (xs=ys))):=by
 unfold cZ;rw[BZ (EO xs) (EO ys) (fun b h=>by cases h) (fun b h=>by cases h)];by_cases e:xs=ys
 ·subst e;rw[mz rfl,decide_eq_true rfl];rfl
 ·rw[kU fun z=>e (Il z),decide_eq_false e];rfl
theorem BX(x y:Int×Int):cZ (jE x) (jE y)=some (.bool (decide (x=y))):=by
 unfold cZ;rw[BZ rfl rfl (fun b h=>by cases h) (fun b h=>by cases h)];by_cases e:x=y
 ·subst e;rw[mz rfl,decide_eq_true rfl];rfl
 ·rw[kU fun z=>e (BO z),decide_eq_false e];rfl
theorem Lz(x y:Int×Int):fF (jE x) (jE y)=some (.bool (!decide (x=y))):=by
 have h:=BX x y;unfold cZ at h;unfold fF;obtain⟨k,e1,e2⟩:=bg h;rw[e1];injection e2 with e2;show some (Dat.bool (!k))=_;rw[e2]
theorem cH(x y:Str):cZ (.str x) (.str y)=some (.bool (decide (x=y))):=rfl
theorem jq(x y:Str):fF (.str x) (.str y)=some (.bool (!decide (x=y))):=rfl
theorem UH(x y z:Dat):fK [x,y,z] 0=some x:=rfl
theorem UG(x y z:Dat):fK [x,y,z] 1=some y:=rfl
theorem UE(x y z:Dat):fK [x,y,z] 2=some z:=rfl
def kept (k:Str) (b:Int×Int) (kd:Str) (B:Int×Int):Bool:=if B=b then decide (k="<=") || decide (kd="<")else Ny B b
abbrev qD (q:Rat):Dat:=.tuple [.int q.num,.int (q.den:Int)]
structure SR (n:Nat) (q:Rat):Prop where
 ln:q.num.natAbs<2^n
 ld:q.den<2^n
variable {q:Rat}
theorem SR.up(h:SR n q)(hn:n<=m):SR m q:=⟨lt_of_lt_of_le h.ln (pow_le_pow_right (by decide) hn),lt_of_lt_of_le h.ld (pow_le_pow_right (by decide) hn)⟩
theorem SR.gd(h:SR n q)(hn:n<=4000000):Gd q.num (q.den:Int):=⟨by have:=q.den_pos;omega,by show Nat.gcd _ _=1;rw[natAbs_natCast];exact q.reduced,⟨(h.up hn).ln⟩,⟨by rw[natAbs_natCast];exact(h.up hn).ld⟩⟩
variable {a b:Rat}
theorem mF(ha:SR n a)(hb:SR m b)(hn:n<=4000000)(hm:m<=4000000):jh [qD a,qD b]=some (qD (a+b)):=by
 have:=mI (g:=fun p q r s=>some (mk (p*s+r*q) (q*s))) (ha.gd hn) (hb.gd hm);obtain⟨e1,e2⟩:=Fr.B3 a b;refine this.trans (congrArg some ?_);show Dat.tuple [.int (Fr.num _ _),.int (Fr.den _ _)]=_;rw[e1,e2]
theorem lN(ha:SR n a)(hb:SR m b)(hn:n<=4000000)(hm:m<=4000000):eX [qD a,qD b]=some (qD (a-b)):=by
 have:=mI (g:=fun p q r s=>some (mk (p*s-r*q) (q*s))) (ha.gd hn) (hb.gd hm);obtain⟨e1,e2⟩:=Fr.B0 a b;refine this.trans (congrArg some ?_);show Dat.tuple [.int (Fr.num _ _),.int (Fr.den _ _)]=_;rw[e1,e2]
theorem vJ(ha:SR n a)(hb:SR m b)(hn:n<=4000000)(hm:m<=4000000):jJ [qD a,qD b]=some (qD (a*b)):=by
 have:=mI (g:=fun p q r s=>some (mk (p*r) (q*s))) (ha.gd hn) (hb.gd hm);obtain⟨e1,e2⟩:=Fr.B1 a b;refine this.trans (congrArg some ?_);show Dat.tuple [.int (Fr.num _ _),.int (Fr.den _ _)]=_;rw[e1,e2]
theorem GP(ha:SR n a)(hb:SR m b)(hn:n<=4000000)(hm:m<=4000000)(h0:b.num≠0):oh [qD a,qD b]=some (qD (a/b)):=by
 have:=mI (g:=fun p q r s=>if r≠0 then some (mk (p*s) (q*r))else none) (ha.gd hn) (hb.gd hm);rw[if_pos h0]at this;obtain⟨e1,e2⟩:=Fr.B2 a b h0;refine this.trans (congrArg some ?_);show Dat.tuple [.int (Fr.num _ _),.int (Fr.den _ _)]=_;rw[e1,e2]
theorem lO(ha:SR n a)(hb:SR m b)(hn:n<=4000000)(hm:m<=4000000):fB [qD a,qD b]=some (.bool (decide (a<b))):=by
 have:=mI (g:=fun p q r s=>some (.bool (decide (p*s<r*q)))) (ha.gd hn) (hb.gd hm);rw[show fB [qD a,qD b]=_ from this];congr 2
 exact decide_eq_decide.mpr (Fr.yf a b).symm
theorem tD{N D:Int}(hD:D≠0)(h1:Fr.num N D=q.num)(h2:Fr.den N D=(q.den:Int))(hn:N.natAbs<2^n)(hd:D.natAbs<2^n):SR n q:=by
 have a:=Fr.uB (n:=N) (d:=D) hD;have b:=Fr.uC (n:=N) (d:=D) hD;rw[h1]at a;rw[h2,natAbs_natCast]at b;exact⟨lt_of_le_of_lt a hn,lt_of_le_of_lt b hd⟩
theorem rK(q:Rat):(q.den:Int)≠0:=by have:=q.den_pos;omega
variable {a b:Int}
theorem cI(ha:a.natAbs<2^n)(hb:b.natAbs<2^m):(a*b).natAbs<2^(n+m):=by rw[natAbs_mul];exact Nv ha hb
theorem qB(ha:a.natAbs<2^n)(hb:b.natAbs<2^n):(a+b).natAbs<2^(n+1):=by
 have e:(2:Nat)^(n+1)=2^n*2:=Nat.pow_succ 2 n;rw[e];generalize (2:Nat)^n=z at *;omega
theorem GH(ha:a.natAbs<2^n)(hb:b.natAbs<2^n):(a-b).natAbs<2^(n+1):=by
 have e:(2:Nat)^(n+1)=2^n*2:=Nat.pow_succ 2 n;rw[e];generalize (2:Nat)^n=z at *;omega
theorem dI{x:Nat}(h:x<2^n)(hn:n<=m):x<2^m:=lt_of_lt_of_le h (pow_le_pow_right (by decide) hn)
theorem SR.dn(h:SR n q):(q.den:Int).natAbs<2^n:=by rw[natAbs_natCast];exact h.ld
variable {a b:Rat}
theorem SR.add(ha:SR n a)(hb:SR m b):SR (n+m+1) (a+b):=by
 obtain⟨e1,e2⟩:=Fr.B3 a b;refine tD (mul_ne_zero (rK a) (rK b)) e1 e2 (qB (cI ha.ln hb.dn) (by rw[add_comm n m];exact cI hb.ln ha.dn)) (dI (cI ha.dn hb.dn) (by omega))
theorem SR.sub(ha:SR n a)(hb:SR m b):SR (n+m+1) (a-b):=by
 obtain⟨e1,e2⟩:=Fr.B0 a b;refine tD (mul_ne_zero (rK a) (rK b)) e1 e2 (GH (cI ha.ln hb.dn) (by rw[add_comm n m];exact cI hb.ln ha.dn)) (dI (cI ha.dn hb.dn) (by omega))
theorem SR.mul(ha:SR n a)(hb:SR m b):SR (n+m) (a*b):=by
 obtain⟨e1,e2⟩:=Fr.B1 a b;exact tD (mul_ne_zero (rK a) (rK b)) e1 e2 (cI ha.ln hb.ln) (cI ha.dn hb.dn)
theorem SR.div(ha:SR n a)(hb:SR m b)(h0:b.num≠0):SR (n+m) (a/b):=by
 obtain⟨e1,e2⟩:=Fr.B2 a b h0;exact tD (mul_ne_zero (rK a) h0) e1 e2 (cI ha.ln hb.dn) (cI ha.dn hb.ln)
theorem LZ(T:TX P K mg)(kL:Dn P w K mg base 42 "make" ["n","d"] 2 iL)(U:FnAt K mg "minus" (top 4) ["a","b"]):Dn P w K mg base 43 "minus" ["a","b"] 2 eX:=by
 obtain⟨f,fd,U,hm,hB⟩:=U.ex;have nd:(["a","b"]:List Str).Nodup:=by decide +kernel
 refine hZ U hm hB (N:=["a","b"]) ⟨rfl,rfl,rfl,by decide +kernel,rfl,by decide +kernel,by decide +kernel⟩ rfl (fun bA A outer s H E hr=>
  (af (aq (ay kL hr (a6 (nP (bJ (ah (a5 0) a8) (ah (a5 1) a8)) (bJ (ah (a5 1) a8) (ah (a5 0) a8))) (a6 (bJ (ah (a5 0) a8) (ah (a5 1) a8)) a9 (hs:=cP)) (hs:=cP)))))) ?_
 intro ds d hl hF;obtain⟨p,q,r,s,rfl,g1,g2,e⟩:=fz hF;have z:=mul_pos g1.pos g2.pos;cases e;simp![kX,kW,mulM g1.mp g2.mq,mulM g2.mp g1.mq,mulM g1.mq g2.mq,eY,nW (ne_of_gt z) (g1.mq.mul g2.mq)]
theorem ON(T:TX P K mg)(kL:Dn P w K mg base 42 "make" ["n","d"] 2 iL)(U:FnAt K mg "over" (top 6) ["a","b"]):Dn P w K mg base 43 "over" ["a","b"] 2 oh:=by
 obtain⟨f,fd,U,hm,hB⟩:=U.ex;have nd:(["a","b"]:List Str).Nodup:=by decide +kernel
 refine hZ U hm hB (N:=["a","b"]) ⟨rfl,rfl,rfl,by decide +kernel,rfl,by decide +kernel,by decide +kernel⟩ rfl (fun bA A outer s H E hr=>
  (af (aq (ay kL hr (a6 (bJ (ah (a5 0) a8) (ah (a5 1) a8)) (a6 (bJ (ah (a5 0) a8) (ah (a5 1) a8)) a9 (hs:=cP)) (hs:=cP)))))) ?_
 intro ds d hl hF;obtain⟨p,q,r,s,rfl,g1,g2,e⟩:=fz hF;by_cases h0:r≠0
 ·rw[if_pos h0]at e;have z:q*r≠0:=mul_ne_zero (ne_of_gt g1.pos) h0;cases e;simp![kX,kW,mulM g1.mp g2.mq,mulM g1.mq g2.mp,nW z (g1.mq.mul g2.mp)]
 ·rw[if_neg h0]at e;cases e
def bQ:FM.Kn->Str
 | .eq=>"="
 | .le=>"<="
 | .lt=>"<"
def aG (r:FM.Row):Dat:=dH (bQ r.1,r.2)
abbrev fg (l:List Int):Dat:=.tuple (l.map Dat.int)
theorem LD{a b:FM.Kn}(h:bQ a=bQ b):a=b:=by cases a<;>cases b<;>first|rfl|exact absurd h (by decide +kernel)
theorem AY{a b:FM.Row}(h:aG a=aG b):a=b:=by
 have:=oE h;obtain⟨e1,e2⟩:=Prod.mk.inj this;exact Prod.ext (LD e1) e2
theorem gX(k:FM.Kn):(bQ k="=")↔k=.eq:=by cases k<;>simp[bQ]<;>decide +kernel
theorem xG(k:FM.Kn):(bQ k="<")↔k=.lt:=by cases k<;>simp[bQ]<;>decide +kernel
theorem kc(r:FM.Row):bp (aG r) (.int 0)=some (.str (bQ r.1)):=rfl
theorem ik(r:FM.Row):bp (aG r) (.int 1)=some (fg r.2):=rfl
variable {j:Nat}
theorem gH{l:List Int}(h:j<l.length):bp (fg l) (.int (j:Int))=some (.int (l.getD j 0)):=by
 show fK (l.map Dat.int) (j:Int)=_;unfold L2.fK L2.l8;rw[if_pos (by omega),if_pos (by rw[length_map];omega)];show(l.map Dat.int)[((j:Int)).toNat]?=_;rw[toNat_natCast,getElem?_map,getD_eq_getElem?_getD,getElem?_eq_getElem h];rfl
theorem NB{l:List Int}{x:Int}(h:x∈l)(hx:x≠0):FM.lowG l<=x.natAbs:=le_of_dvd (by omega) (Int.ofNat_dvd_left.mp (FM.m9 h))
theorem Gp(T:TX P K mg)(gk:Dn P w K mg base 41 "common_divisor" ["a","b"] 2 p4)(U:FnAt K mg "lowered" (top 12) ["numbers"]):
  ∃F,Dn P w K mg base 42 "lowered" ["numbers"] 1 F/\∀(l:List Int),l.length<=900->(∀x∈l,x.natAbs<2^9000000)->(∃x∈l,x≠0)->F [.list (l.map .int)]=some (fg (FM.lowered l)):=by
 refine⟨_,cq ["numbers","divisor","number"] U fun nd _ _ _ _ _ _ _ hr=>
  (ae (aA 1 nd a8)
  (ae (du PassesOwn.never rfl (a5 0) (az 2 nd)
  (af (aA 1 nd (ay gk hr (a6 (a5 1) (a6 (lJ T.abs (a6 (a5 2) a9)) a9 (hs:=aY)))))))
  (af (aq (gO T.tuple (a6 (cA (gN rfl (fA (tn:=["number"]) (fv:=["divisor"]) (js:=[1]) rfl (by decide +kernel) (by decide +kernel) rfl (by decide +kernel) (by decide +kernel) rfl
   (fun x hx=>by((have fO:x="divisor":=(by simpa using hx));(rcases fO with rfl<;>exact⟨_,rfl⟩)))
   (fun p hp=>by((have g9:p=(("divisor" : Str),(1:Nat)):=(by simpa using hp));(rcases g9 with rfl<;>exact⟨rfl,.inr (.inl rfl),.inl rfl,fun z=>by cases z⟩)))) (a5 0) (fun _ _ _ _=>(az 0 (show(["number","divisor"]:List Str).Nodup by decide +kernel))) (fun _ _ _ _=>d7) (fun _ _ _ _=>(ee T.seer hr (a5 0) (a5 1))) (dA rfl))) a9)))))),?_⟩
 intro l hl hb ⟨x0,mU,cx⟩;have hp:=FM.sG mU cx;have VD:((FM.lowG l:Int)).natAbs.log2<9000000:=by
  refine log2_small (k:=9000000) (by decide) ?_;rw[natAbs_natCast];exact lt_of_le_of_lt (NB mU cx) (hb x0 mU)
 have zl:l.length<sizeLine:=lt_of_lt_of_le (show l.length<1000 by omega) (sz (by decide));refine bH ?_;simp!;rw[ao (ag:=[some (.a7 (.list (l.map .int))),some (.a7 (.int 0)),none]) (by simp![])];refine fU (I:=_) (gQ (l:=l) (s:=0) Dat.int (fun(g:Nat) Γ=>∃u,Γ=[some (.a7 (.list (l.map .int))),some (.a7 (.int (g:Int))),u]) (fun _ _=>True) (fun g x=>Nat.gcd g x.natAbs) (d:=.list (l.map .int)) rfl rfl trivial ⟨none,rfl⟩ ?_) ?_
 ·rintro g x l' Γ _ ⟨u,rfl⟩;refine⟨[(2,.int x)],rfl,?_⟩;dsimp!;have e1:p4 [.int (g:Int),.int (x.natAbs:Int)]=some (.int ((Nat.gcd g x.natAbs:Nat):Int)):=by
   show(if 0<=(g:Int)/\0<=(x.natAbs:Int)then some (Dat.int (gcd (g:Int) (x.natAbs:Int)))else none)=_;rw[if_pos ⟨by omega,by omega⟩];rfl
  exact⟨[some (.a7 (.list (l.map .int))),some (.a7 (.int ((Nat.gcd g x.natAbs:Nat):Int))),some (.a7 (.int x))],by simp![jw,e1],⟨_,rfl⟩,trivial⟩
 ·rintro ag ⟨u,rfl⟩;have eG:(l.foldl (fun g x=>Nat.gcd g x.natAbs) 0:Nat)=FM.lowG l:=rfl;rw[eG];have ec:cc (aName 0) gA (L3.f2 r6 (aI 0) (aI 1)) [none,some (.int (FM.lowG l:Int))] (l.map .int)=some ((FM.lowered l).map .int):=by
   refine cR _ _ (by rw[length_map,length_map,FM.rB]) fun i d o h1 h2=>?_;unfold FM.lowered at h2;rw[getElem?_map]at h1 h2;rw[getElem?_map]at h2;cases hq:l[i]? with
   |none=>rw[hq]at h1;cases h1
   |some x=>
    rw[hq]at h1 h2;cases h1;cases h2;refine⟨[(0,.int x)],rfl,?_⟩;have e:=gh (a:=x) (b:=(FM.lowG l:Int)) (by omega) VD;simp![e]
  simp![length_map,zl,ec]
theorem xM:∀(xs ys:List Int),dm (xs.map Dat.int) (ys.map Dat.int)=(xs.zip ys).map fun z=>Dat.tuple [.int z.1,.int z.2]
 |[],ys=>by simp[dm]
 |x::xs,[]=>by simp[dm]
 |x::xs,y::ys=>by simp only[map_cons,dm,zip_cons_cons,xM xs ys]
theorem LY(T:TX P K mg){Fl:List Dat->Option Dat}(J1:Dn P w K mg base 42 "lowered" ["numbers"] 1 Fl)(hL:∀(l:List Int),l.length<=900->(∀x∈l,x.natAbs<2^9000000)->(∃x∈l,x≠0)->Fl [.list (l.map .int)]=some (fg (FM.lowered l)))(U:FnAt K mg "mixed" (top 15) ["one","much","other","more"]):
  ∃F,Dn P w K mg base 43 "mixed" ["one","much","other","more"] 4 F/\∀(b:Nat) (one other:List Int) (bN more:Int),b<=4400000->one.length<=900->(∀x∈one,x.natAbs<2^b)->(∀x∈other,x.natAbs<2^b)->bN.natAbs<2^b->more.natAbs<2^b->(∃x∈FM.fG one bN other more,x≠0)->
   F [fg one,.int bN,fg other,.int more]=some (fg (FM.mixed one bN other more))/\∀x∈FM.mixed one bN other more,x.natAbs<2^(2*b+1):=by
 refine⟨_,cq ["one","much","other","more"] U fun nd _ _ _ _ _ _ _ hr=>
  (af (aq (ay J1 hr (a6 (cA (jT rfl (fA (tn:=["a","b"]) (fv:=["much","more"]) (js:=[1,3]) rfl (by decide +kernel) (by decide +kernel) rfl (by decide +kernel) (by decide +kernel) rfl
   (fun x hx=>by((have fO:x="much"\/x="more":=(by simpa using hx));(rcases fO with rfl|rfl<;>exact⟨_,rfl⟩)))
   (fun p hp=>by((have g9:p=(("much" : Str),(1:Nat))\/p=(("more" : Str),(3:Nat)):=(by simpa using hp));(rcases g9 with rfl|rfl<;>exact⟨rfl,.inr (.inl rfl),.inl rfl,fun z=>by cases z⟩)))) (lW T.zip (a6 (a5 0) (a6 (a5 2) a9))) (fun _ _ _ _=>(dS (n:=2) rfl (bf (az 0 (show(["a","b","much","more"]:List Str).Nodup by decide +kernel)) (bf (az 1 (show(["a","b","much","more"]:List Str).Nodup by decide +kernel)) d8)))) (fun _ _ _ _=>d7) (fun _ _ _ _=>(dg (bJ (a5 2) (a5 0)) (bJ (a5 3) (a5 1)))) (tq rfl rfl))) a9)))),?_⟩
 intro b one other bN more hb h9 h1 h2 h3 h4 cx;have bd:∀x∈FM.fG one bN other more,x.natAbs<2^(2*b+1):=fun x hx=>by
  obtain⟨p,hp,q,hq,rfl⟩:=ja (show x∈zipWith (fun a b=>bN*a+more*b) one other from hx);rw[show 2*b=b+b by omega];exact qB (cI h3 (h1 p hp)) (cI h4 (h2 q hq))
 have ml:(FM.fG one bN other more).length<=900:=by
  show(zipWith _ one other).length<=900;rw[length_zipWith];omega
 have eL:=hL (FM.fG one bN other more) ml (fun x hx=>dI (bd x hx) (by omega)) cx;constructor
 ·have zl:(one.zip other).length<sizeLine:=by rw[length_zip];exact lt_of_lt_of_le (show min one.length other.length<1000 by omega) (sz (by decide))
  have ec:cc (kC 2 (gB (aName 0) (gB (aName 1) mD))) gA (L3.f2 kA (L3.f2 jr (aI 2) (aI 0)) (L3.f2 jr (aI 3) (aI 1))) [none,none,some (.int bN),some (.int more)] ((one.zip other).map fun z=>Dat.tuple [.int z.1,.int z.2])=some ((FM.fG one bN other more).map .int):=by
   have es:FM.fG one bN other more=(one.zip other).map fun z=>bN*z.1+more*z.2:=by
    show zipWith _ one other=_;clear eL ml bd cx h1 h2 h9 zl;induction one generalizing other with
    |nil=>simp
    |cons x one ih=>
     cases other with
     |nil=>simp
     |cons y other=>rw[List.zipWith_cons_cons,zip_cons_cons,map_cons,ih]
   rw[es];refine cR _ _ (by rw[length_map,length_map,length_map]) fun i d o g1 g2=>?_;rw[getElem?_map]at g1 g2;rw[getElem?_map]at g2;cases hq:(one.zip other)[i]? with
   |none=>rw[hq]at g1;cases g1
   |some z=>
    rw[hq]at g1 g2;cases g1;cases g2;obtain⟨NX,NW⟩:=of_mem_zip (mem_of_getElem? hq);refine⟨[(0,.int z.1),(1,.int z.2)],rfl,?_⟩;have e1:=CM (a:=bN) (b:=z.1) (dI h3 (by omega)) (dI (h1 z.1 NX) (by omega));have e2:=CM (a:=more) (b:=z.2) (dI h4 (by omega)) (dI (h2 z.2 NW) (by omega));simp![e1,e2,bP]
  simp![gG,xM,length_map,zl,ec,eL];rfl
 ·intro x hx;obtain⟨y,hy,rfl⟩:=mem_map.mp (show x∈(FM.fG one bN other more).map (fun x=>x.fdiv (FM.lowG (FM.fG one bN other more):Int))from hx);refine lt_of_le_of_lt ?_ (bd y hy);obtain⟨c,hc⟩:=FM.m9 hy;obtain⟨x0,mU,h0⟩:=cx;have gp:=FM.sG mU h0;generalize (FM.lowG (FM.fG one bN other more))=g at hc gp;rw[hc,mul_comm,Int.mul_fdiv_cancel _ (by omega),natAbs_mul,natAbs_natCast];exact Nat.le_mul_of_pos_right _ gp
structure gS (m b:Nat) (rows:List FM.Row):Prop where
 len:∀r∈rows,r.2.length=m
 bd:∀r∈rows,∀x∈r.2,x.natAbs<2^b
theorem cO{r:FM.Row}{b:Nat}(h:∀x∈r.2,x.natAbs<2^b):(FM.ent r j).natAbs<2^b:=by
 by_cases c:FM.ent r j=0
 ·rw[c];exact pow_pos (by decide)
 ·exact h _ (FM.mem_getD c)
def sA:Option FM.Row->Dat
 |none=>.none
 |some r=>aG r
theorem M7(T:TX P K mg)(U:FnAt K mg "equal_row" (top 16) ["rows","place"]):
  ∃F,Dn P w K mg base 41 "equal_row" ["rows","place"] 2 F/\∀(rows:List FM.Row) (j m:Nat),(∀r∈rows,r.2.length=m)->j<m->F [.list (rows.map aG),.int (j:Int)]=some (sA (FM.dW j rows)):=by
 refine⟨_,cq ["rows","place","row"] U fun nd _ _ _ _ _ _ _ hr=>
  (ae (du PassesOwn.never rfl (a5 0) (az 2 nd)
  (af (aN (cE (gn (cC hr (ah (a5 2) a8) aZ) (fm (cS hr (ah (ah (a5 2) a8) (a5 1)) a8)))) (af (aq (a5 2))) aJ)))
  (af (aq cm))),?_⟩
 intro rows j m hl hj;refine bH ?_;simp!;refine(wU (l:=rows) aG (fun Γ=>∃u,Γ=[some (.a7 (.list (rows.map aG))),some (.a7 (.int (j:Int))),u]) (fun r=>decide (r.1=.eq/\FM.ent r j≠0)) aG (d:=.list (rows.map aG)) (fl:=fun o=>.rt (sA o)) rfl rfl ⟨none,rfl⟩ ?_ (fun _=>rfl) ?_)
 ·rintro r hr Γ ⟨u,rfl⟩;refine⟨[(2,aG r)],rfl,?_⟩;dsimp!;have a1:=gH (l:=r.2) (j:=j) (by rw[hl r hr];exact hj);have a0:FM.ent r j=r.2.getD j 0:=rfl;by_cases c1:r.1=.eq
  ·have k1:=(gX r.1).mpr c1;by_cases c2:r.2.getD j 0=0
   ·rw[if_neg (by rw[a0,decide_eq_true_eq];exact fun z=>z.2 c2)];refine⟨[some (.a7 (.list (rows.map aG))),some (.a7 (.int (j:Int))),some (.a7 (aG r))],?_,_,rfl⟩;dsimp![kc,ik,a1,cH,dC,eq_true k1,eq_true c2]
   ·rw[if_pos (by rw[a0];exact decide_eq_true ⟨c1,c2⟩)];dsimp![kc,ik,a1,cH,dC,eq_true k1,eq_false c2]
  ·have k1:¬bQ r.1="=":=fun z=>c1 ((gX r.1).mp z);rw[if_neg (by simp[c1])];refine⟨[some (.a7 (.list (rows.map aG))),some (.a7 (.int (j:Int))),some (.a7 (aG r))],?_,_,rfl⟩;dsimp![kc,ik,a1,cH,dC,eq_false k1]
 ·rintro ag ⟨u,rfl⟩;simp![sA]
abbrev Pj (Fm:List Dat->Option Dat):Prop:=∀(b:Nat) (one other:List Int) (bN more:Int),b<=4400000->one.length<=900->(∀x∈one,x.natAbs<2^b)->(∀x∈other,x.natAbs<2^b)->bN.natAbs<2^b->more.natAbs<2^b->(∃x∈FM.fG one bN other more,x≠0)->
   Fm [fg one,.int bN,fg other,.int more]=some (fg (FM.mixed one bN other more))/\∀x∈FM.mixed one bN other more,x.natAbs<2^(2*b+1)
abbrev Sl (F:List Dat->Option Dat):Prop:=∀(b m j:Nat) (r q:FM.Row),b<=4400000->m<=900->j<m->r.2.length=m->q.2.length=m->(∀x∈r.2,x.natAbs<2^b)->(∀x∈q.2,x.natAbs<2^b)->(∃x∈FM.fG r.2 ((FM.ent q j).natAbs:Int) q.2 (if 0<FM.ent q j then -FM.ent r j else FM.ent r j),x≠0)->
   F [aG r,aG q,.int (j:Int)]=some (aG (FM.wo q j r))/\∀x∈(FM.wo q j r).2,x.natAbs<2^(2*b+1)
theorem Gm(T:TX P K mg){Fm:List Dat->Option Dat}(Ab:Dn P w K mg base 43 "mixed" ["one","much","other","more"] 4 Fm)(hM:Pj Fm)(U:FnAt K mg "without" (top 17) ["row","equal","place"]):
  ∃F,Dn P w K mg base 44 "without" ["row","equal","place"] 3 F/\Sl F:=by
 refine⟨_,cq ["row","equal","place","part","more"] U fun nd _ _ _ _ _ _ _ hr=>
  (ae (aA 3 nd (ah (ah (a5 1) a8) (a5 2)))
  (ae (aA 4 nd (fX (qR (a5 3) a8) (eI (ah (ah (a5 0) a8) (a5 2))) (ah (ah (a5 0) a8) (a5 2))))
  (af (aq (bF (k:=0) (a6 (ah (a5 0) a8) (a6 (ay Ab hr (a6 (ah (a5 0) a8) (a6 (lJ T.abs (a6 (a5 3) a9)) (a6 (ah (a5 1) a8) (a6 (a5 4) a9) (hs:=aE)) (hs:=aY)) (hs:=aE))) a9 (hs:=aY)) (hs:=aE))))))),?_⟩
 intro b m j r q hb nY hj hr hq br bq cx;have z2:2<=sizeLine:=sz (by decide);have a1:=gH (l:=r.2) (j:=j) (by omega);have a2:=gH (l:=q.2) (j:=j) (by omega);have m1:(((FM.ent q j).natAbs:Int)).natAbs<2^b:=by rw[natAbs_natCast];exact cO bq
 have m2:(if 0<FM.ent q j then -FM.ent r j else FM.ent r j).natAbs<2^b:=by
  split
  ·rw[natAbs_neg];exact cO br
  ·exact cO br
 obtain⟨e,Og⟩:=hM b r.2 q.2 _ _ hb (by omega) br bq m1 m2 cx;refine⟨?_,Og⟩;have WC:q.2.getD j 0=FM.ent q j:=rfl;have WB:r.2.getD j 0=FM.ent r j:=rfl;rw[WB]at a1;rw[WC]at a2;have er:aG (FM.wo q j r)=.tuple [.str (bQ r.1),fg (FM.mixed r.2 ((FM.ent q j).natAbs:Int) q.2 (if 0<FM.ent q j then -FM.ent r j else FM.ent r j))]:=rfl;rw[er];by_cases c:0<FM.ent q j
 ·rw[if_pos c]at e ⊢;dsimp![kc,ik,a1,a2,gF,jw,eq_true c,e,z2]
 ·rw[if_neg c]at e ⊢;dsimp![kc,ik,a1,a2,gF,jw,eq_false c,e,z2]
abbrev SQ (F:List Dat->Option Dat):Prop:=∀(b m j:Nat) (u l:FM.Row),b<=4400000->m<=900->j<m->u.2.length=m->l.2.length=m->(∀x∈u.2,x.natAbs<2^b)->(∀x∈l.2,x.natAbs<2^b)->(∃x∈FM.fG u.2 (-FM.ent l j) l.2 (FM.ent u j),x≠0)->
   F [aG u,aG l,.int (j:Int)]=some (aG (FM.joined j u l))/\∀x∈(FM.joined j u l).2,x.natAbs<2^(2*b+1)
theorem IG(T:TX P K mg){Fm:List Dat->Option Dat}(Ab:Dn P w K mg base 43 "mixed" ["one","much","other","more"] 4 Fm)(hM:Pj Fm)(U:FnAt K mg "joined" (top 18) ["upper","lower","place"]):
  ∃F,Dn P w K mg base 44 "joined" ["upper","lower","place"] 3 F/\SQ F:=by
 refine⟨_,cq ["upper","lower","place","kind"] U fun nd _ _ _ _ _ _ _ hr=>
  (ae (aA 3 nd (fX (B4 aZ (bF (k:=0) (a6 (ah (a5 0) a8) (a6 (ah (a5 1) a8) a9 (hs:=aE)) (hs:=aE)))) aZ aZ))
  (af (aq (bF (k:=0) (a6 (a5 3) (a6 (ay Ab hr (a6 (ah (a5 0) a8) (a6 (eI (ah (ah (a5 1) a8) (a5 2))) (a6 (ah (a5 1) a8) (a6 (ah (ah (a5 0) a8) (a5 2)) a9 (hs:=aE)) (hs:=aE)) (hs:=jy)) (hs:=aE))) a9 (hs:=aY))))))),?_⟩
 intro b m j u l hb nY hj hu hl bu bl cx;have z2:2<=sizeLine:=sz (by decide);have a1:=gH (l:=u.2) (j:=j) (by omega);have a2:=gH (l:=l.2) (j:=j) (by omega);obtain⟨e,Og⟩:=hM b u.2 l.2 (-FM.ent l j) (FM.ent u j) hb (by omega) bu bl (by rw[natAbs_neg];exact cO bl) (cO bu) cx;refine⟨?_,Og⟩;have WA:u.2.getD j 0=FM.ent u j:=rfl;have WD:l.2.getD j 0=FM.ent l j:=rfl;rw[WA]at a1;rw[WD]at a2;have er:aG (FM.joined j u l)=.tuple [.str (bQ (if u.1=.lt\/l.1=.lt then .lt else .le)),fg (FM.mixed u.2 (-FM.ent l j) l.2 (FM.ent u j))]:=rfl;rw[er];have ei:inD (.str "<") (.tuple [.str (bQ u.1),.str (bQ l.1)])=some (.bool (decide (u.1=.lt\/l.1=.lt))):=by
  cases yR:u.1<;>cases yX:l.1<;>rfl
 by_cases c:u.1=.lt\/l.1=.lt
 ·rw[decide_eq_true c]at ei;rw[if_pos c];have ks:bQ .lt="<":=rfl;dsimp![kc,ik,a1,a2,ei,e,z2,ks]
 ·rw[decide_eq_false c]at ei;rw[if_neg c];have ks:bQ .le="<=":=rfl;dsimp![kc,ik,a1,a2,ei,e,z2,ks]
variable {α:Type}
theorem iP(g:α->Dat)(xs:List α):ib [.list (xs.map g)]=some (.int xs.length):=by show some (Dat.int ((xs.map g).length:Nat))=_;rw[length_map]
abbrev nat (p:Nat):Dat:=.int (p:Int)
abbrev T5 (F:List Dat->Option Dat):Prop:=∀(m:Nat) (aB:List Nat) (u l:FM.Row),aB.length<=900->u.2.length=m->l.2.length=m->(∀p∈aB,p<m)->F [aG u,aG l,.list (aB.map nat)]=some (.int (FM.drawn aB u l:Nat))
theorem M9(T:TX P K mg)(U:FnAt K mg "drawn_on" (top 19) ["one","other","weighed"]):
  ∃F,Dn P w K mg base 41 "drawn_on" ["one","other","weighed"] 3 F/\T5 F:=by
 refine⟨_,cq ["one","other","weighed"] U fun nd _ _ _ _ _ _ _ hr=>
  (af (aq (cy T.len (a6 (cA (gN rfl (fA (tn:=["place"]) (fv:=["other","one"]) (js:=[1,0]) rfl (by decide +kernel) (by decide +kernel) rfl (by decide +kernel) (by decide +kernel) rfl
   (fun x hx=>by((have fO:x="other"\/x="one":=(by simpa using hx));(rcases fO with rfl|rfl<;>exact⟨_,rfl⟩)))
   (fun p hp=>by((have g9:p=(("other" : Str),(1:Nat))\/p=(("one" : Str),(0:Nat)):=(by simpa using hp));(rcases g9 with rfl|rfl<;>exact⟨rfl,.inr (.inl rfl),.inl rfl,fun z=>by cases z⟩)))) (a5 2) (fun _ _ _ _=>(az 0 (show(["place","other","one"]:List Str).Nodup by decide +kernel))) (fun _ _ _ _=>(kP (cE (d9 (cS hr (ah (ah (a5 2) a8) (a5 0)) a8) (dw (cS hr (ah (ah (a5 1) a8) (a5 0)) a8)))))) (fun _ _ _ _=>(a5 0)) (dA rfl))) a9)))),?_⟩
 intro m aB u l hw hu hl hp;have zl:aB.length<sizeLine:=lt_of_lt_of_le (show aB.length<1000 by omega) (sz (by decide));have ec:cc (aName 0) (j1 (c9 (L3.f2 fF (L3.f2 bp (L3.f2 bp (aI 2) (fC (.int 1))) (aI 0)) (fC (.int 0)))) (c9 (L3.f2 fF (L3.f2 bp (L3.f2 bp (aI 1) (fC (.int 1))) (aI 0)) (fC (.int 0))))) (aI 0) [none,some (aG l),some (aG u)] (aB.map nat)=some ((aB.filter fun p=>decide (FM.ent u p≠0\/FM.ent l p≠0)).map nat):=by
  refine iS nat nat _ aB fun p FC=>⟨[(0,nat p)],rfl,?_,fun _=>rfl⟩;have a1:bp (fg u.2) (nat p)=some (.int (FM.ent u p)):=gH (by rw[hu];exact hp p FC);have a2:bp (fg l.2) (nat p)=some (.int (FM.ent l p)):=gH (by rw[hl];exact hp p FC);by_cases c1:FM.ent u p=0
  ·by_cases c2:FM.ent l p=0
   ·rw[decide_eq_false (by rw[c1,c2];simp)];dsimp![ik,a1,a2,dC,eq_true c1,eq_true c2]
   ·rw[decide_eq_true (.inr c2)];dsimp![ik,a1,a2,dC,eq_true c1,eq_false c2]
  ·rw[decide_eq_true (.inl c1)];dsimp![ik,a1,a2,dC,eq_false c1]
 have le:=iP nat (aB.filter fun p=>decide (FM.ent u p≠0\/FM.ent l p≠0));simp![length_map,zl,ec,le];rfl
abbrev rk (r:FM.Row):RK:=(bQ r.1,r.2)
theorem MX{a b:FM.Row}(h:rk a=rk b):a=b:=AY (congrArg dH h)
abbrev kO (w:World) (ks:List FM.Row):Slot:=.obj (je w (ks.map rk)) ((ks.map rk).map dH)
theorem La(ks:List FM.Row)(r:FM.Row):gU (ks.map rk) (rk r)=(FM.ins ks r).map rk:=by
 unfold gU FM.ins;have e:rk r∈ks.map rk↔r∈ks:=⟨fun h=>by obtain⟨x,hx,e⟩:=mem_map.mp h;rw[<- MX e];exact hx,fun h=>mem_map.mpr ⟨r,h,rfl⟩⟩;by_cases c:r∈ks
 ·rw[if_pos (e.mpr c),if_pos c]
 ·rw[if_neg (fun z=>c (e.mp z)),if_neg c,map_append];rfl
theorem tZ(k:FM.Kn):PyData.strOk (bQ k)=true:=by cases k<;>decide +kernel
variable {i:Nat} {Γ:aD}
theorem Es{g:aw->Option Dat}{ks:List FM.Row}{r:FM.Row}(hi:Γ[i]?=some (some (kO w ks)))(hf:g (bw Γ)=some (aG r))(hz:ks.length<sizeLine):tI w i g Γ=some (.nx (Γ.set i (some (kO w (FM.ins ks r))))):=by
 have:=Hh (k:=rk r) hi hf (fun k hk=>by obtain⟨x,_,rfl⟩:=mem_map.mp hk;exact tZ x.1) (tZ r.1) (by rw[length_map];exact hz);rw[La]at this;exact this
theorem nX(ks:List FM.Row)(r:FM.Row):(FM.ins ks r).length<=ks.length+1:=by
 unfold FM.ins;split
 ·omega
 ·rw[length_append];exact le_refl _
def SA (F:List Dat->Option Dat):Prop:=∀(b m j most:Nat) (aB:List Nat) (rows:List FM.Row),b<=4400000->m<=900->j<m->gS m b rows->aB.length<=900->(∀p∈aB,p<m)->
   (∀u∈rows,∀l∈rows,0<FM.ent u j->FM.ent l j<0->∃x∈FM.fG u.2 (-FM.ent l j) l.2 (FM.ent u j),x≠0)->rows.length+(rows.filter fun r=>decide (0<FM.ent r j)).length*(rows.filter fun r=>decide (FM.ent r j<0)).length<sizeLine->
   F [.list (rows.map aG),.int (j:Int),.list (aB.map nat),.int (most:Int)]=some (.list ((FM.paired j aB most rows).map aG))
theorem lD{α β:Type}(p:β->Bool)(h:α->β->α):∀(l:List β) (s:α),l.foldl (fun s x=>if p x=true then h s x else s) s=(l.filter p).foldl h s
 |[],s=>rfl
 |x::l,s=>by
  rw[foldl_cons,filter_cons];by_cases c:p x=true
  ·rw[if_pos c,if_pos c,foldl_cons];exact lD p h l _
  ·rw[if_neg c,if_neg c];exact lD p h l _
theorem IA(T:TX P K mg){Fd Fj:List Dat->Option Dat}(GX:Dn P w K mg base 44 "drawn_on" ["one","other","weighed"] 3 Fd)(hD:T5 Fd)(Mo:Dn P w K mg base 44 "joined" ["upper","lower","place"] 3 Fj)(hJ:SQ Fj)(U:FnAt K mg "paired" (top 20) ["rows","place","weighed","most"]):
  ∃F,Dn P w K mg base 45 "paired" ["rows","place","weighed","most"] 4 F/\SA F:=by
 refine⟨_,cq ["rows","place","weighed","most","kept","row","lowers","upper","lower"] U fun nd _ _ _ _ _ _ _ hr=>
  (ae (Eo w 4 nd)
  (ae (du PassesOwn.never rfl (a5 0) (az 5 nd)
  (af (aN (cC hr (ah (ah (a5 5) a8) (a5 1)) a8) (af (wg w 4 hr cN (a5 5))) aJ)))
  (ae (pW 6 nd rfl (fA (tn:=["row"]) (fv:=["place"]) (js:=[1]) rfl (by decide +kernel) (by decide +kernel) rfl (by decide +kernel) (by decide +kernel) rfl
   (fun x hx=>by((have fO:x="place":=(by simpa using hx));(rcases fO with rfl<;>exact⟨_,rfl⟩)))
   (fun p hp=>by((have g9:p=(("place" : Str),(1:Nat)):=(by simpa using hp));(rcases g9 with rfl<;>exact⟨rfl,.inr (.inl rfl),.inl rfl,fun z=>by cases z⟩)))) (a5 0) (fun _ _ _ _=>(az 0 (show(["row","place"]:List Str).Nodup by decide +kernel))) (fun _ _ _ _=>(kP (nO (ah (ah (a5 0) a8) (a5 1)) a8))) (fun _ _ _ _=>(a5 0)) (dA rfl))
  (ae (du PassesOwn.never rfl (cA (gN rfl (fA (tn:=["row"]) (fv:=["place"]) (js:=[1]) rfl (by decide +kernel) (by decide +kernel) rfl (by decide +kernel) (by decide +kernel) rfl
   (fun x hx=>by((have fO:x="place":=(by simpa using hx));(rcases fO with rfl<;>exact⟨_,rfl⟩)))
   (fun p hp=>by((have g9:p=(("place" : Str),(1:Nat)):=(by simpa using hp));(rcases g9 with rfl<;>exact⟨rfl,.inr (.inl rfl),.inl rfl,fun z=>by cases z⟩)))) (a5 0) (fun _ _ _ _=>(az 0 (show(["row","place"]:List Str).Nodup by decide +kernel))) (fun _ _ _ _=>(kP (qR (ah (ah (a5 0) a8) (a5 1)) a8))) (fun _ _ _ _=>(a5 0)) (dA rfl))) (az 7 nd)
  (af (du PassesOwn.never rfl (a5 6) (az 8 nd)
  (af (aN (L5 (ay GX hr (a6 (a5 7) (a6 (a5 8) (a6 (a5 2) a9)))) (a5 3)) (af (wg w 4 hr cN (ay Mo hr (a6 (a5 7) (a6 (a5 8) (a6 (a5 1) a9)))))) aJ)))))
  (af (En w 4 hr T.list)))))),?_⟩
 intro b m j most aB rows hb nY hj hR hw NZ Vv hN;have ai:∀r∈rows,bp (fg r.2) (.int (j:Int))=some (.int (FM.ent r j)):=fun r hr=>gH (by rw[hR.len r hr];exact hj);have zr:rows.length<sizeLine:=by omega
 generalize HV:(rows.filter fun r=>decide (0<FM.ent r j))=ups at hN;generalize CW:(rows.filter fun r=>decide (FM.ent r j<0))=lows at hN;refine bH ?_;simp!;rw[ao (ag:=[some (.a7 (.list (rows.map aG))),some (.a7 (.int (j:Int))),some (.a7 (.list (aB.map nat))),some (.a7 (.int (most:Int))),some (kO w []),none,none,none,none]) rfl]

 refine fU (I:=_) (gQ (l:=rows) (s:=[]) aG (fun(ks:List FM.Row) Γ=>∃u,Γ=[some (.a7 (.list (rows.map aG))),some (.a7 (.int (j:Int))),some (.a7 (.list (aB.map nat))),some (.a7 (.int (most:Int))),some (kO w ks),u,none,none,none]) (fun ks l=>ks.length+l.length<=rows.length/\∀r∈l,r∈rows) (fun ks r=>if decide (FM.ent r j=0)=true then FM.ins ks r else ks) (d:=.list (rows.map aG)) rfl rfl ⟨by simp,fun _ h=>h⟩ ⟨none,rfl⟩ ?_) ?_
 ·rintro ks r l Γ ⟨hq,ip⟩ ⟨u,rfl⟩;rw[length_cons]at hq;have a1:=ai r (ip r mem_cons_self);refine⟨[(5,aG r)],rfl,?_⟩;dsimp!;by_cases c:FM.ent r j=0
  ·refine⟨[some (.a7 (.list (rows.map aG))),some (.a7 (.int (j:Int))),some (.a7 (.list (aB.map nat))),some (.a7 (.int (most:Int))),some (kO w (FM.ins ks r)),some (.a7 (aG r)),none,none,none],?_,⟨_,by rw[if_pos (decide_eq_true c)]⟩,?_,fun x hx=>ip x (mem_cons_of_mem _ hx)⟩
   ·rw[oD (by dsimp![ik,a1,dD,eq_true c])];exact Es rfl rfl (by omega)
   ·rw[if_pos (decide_eq_true c)];have:=nX ks r;omega
  ·refine⟨[some (.a7 (.list (rows.map aG))),some (.a7 (.int (j:Int))),some (.a7 (.list (aB.map nat))),some (.a7 (.int (most:Int))),some (kO w ks),some (.a7 (aG r)),none,none,none],?_,⟨_,by rw[if_neg (by rw[decide_eq_true_eq];exact c)]⟩,?_,fun x hx=>ip x (mem_cons_of_mem _ hx)⟩
   ·rw[qO (by dsimp![ik,a1,dD,eq_false c])];rfl
   ·rw[if_neg (by rw[decide_eq_true_eq];exact c)];omega
 rintro Γ ⟨u,rfl⟩;rw[lD];generalize RO:(rows.filter fun r=>decide (FM.ent r j=0)).foldl FM.ins []=JK;have hk0l:JK.length<=rows.length:=by
  rw[<- RO];have:∀(l s:List FM.Row),(l.foldl FM.ins s).length<=s.length+l.length:=fun l=>by
   induction l with
   |nil=>intro s;exact le_refl _
   |cons x l ih=>intro s;rw[foldl_cons,length_cons];have:=ih (FM.ins s x);have:=nX s x;omega
  have h1:=this (rows.filter fun r=>decide (FM.ent r j=0)) [];have h2:=length_filter_le (fun r=>decide (FM.ent r j=0)) rows;simp only[length_nil,zero_add]at h1;omega
 have WG:cc (aName 0) (c9 (L3.f2 EZ (L3.f2 bp (L3.f2 bp (aI 0) (fC (.int 1))) (aI 1)) (fC (.int 0)))) (aI 0) [none,some (.int (j:Int))] (rows.map aG)=some (lows.map aG):=by
  rw[<- CW];refine iS aG aG _ rows fun r hr=>⟨[(0,aG r)],rfl,?_,fun _=>rfl⟩;have a1:=ai r hr;dsimp![ik,a1,cL]
 have WE:cc (aName 0) (c9 (L3.f2 FP (L3.f2 bp (L3.f2 bp (aI 0) (fC (.int 1))) (aI 1)) (fC (.int 0)))) (aI 0) [none,some (.int (j:Int))] (rows.map aG)=some (ups.map aG):=by
  rw[<- HV];refine iS aG aG _ rows fun r hr=>⟨[(0,aG r)],rfl,?_,fun _=>rfl⟩;have a1:=ai r hr;dsimp![ik,a1,gF]
 rw[ao (ag:=[some (.a7 (.list (rows.map aG))),some (.a7 (.int (j:Int))),some (.a7 (.list (aB.map nat))),some (.a7 (.int (most:Int))),some (kO w JK),u,some (.a7 (.list (lows.map aG))),none,none]) (by simp![oB,length_map,zr,WG])];have U8:∀r∈ups,r∈rows/\0<FM.ent r j:=fun r hr=>by rw[<- HV]at hr;exact⟨(mem_filter.mp hr).1,of_decide_eq_true (mem_filter.mp hr).2⟩
 have Uh:∀r∈lows,r∈rows/\FM.ent r j<0:=fun r hr=>by rw[<- CW]at hr;exact⟨(mem_filter.mp hr).1,of_decide_eq_true (mem_filter.mp hr).2⟩
 refine fU (I:=_) (gQ (l:=ups) (s:=JK) aG (fun(ks:List FM.Row) Γ=>∃x7 x8,Γ=[some (.a7 (.list (rows.map aG))),some (.a7 (.int (j:Int))),some (.a7 (.list (aB.map nat))),some (.a7 (.int (most:Int))),some (kO w ks),u,some (.a7 (.list (lows.map aG))),x7,x8]) (fun ks l=>ks.length+l.length*lows.length<sizeLine/\∀r∈l,r∈ups) (fun ks up=>lows.foldl (fun ks lo=>if decide (FM.drawn aB up lo<=most)=true then FM.ins ks (FM.joined j up lo)else ks) ks) (d:=.list (ups.map aG)) (by simp![length_map,zr,WE]) rfl ⟨by omega,fun _ h=>h⟩ ⟨none,none,rfl⟩ ?_) ?_
 ·rintro ks up l Γ ⟨hq,ip⟩ ⟨x7,x8,rfl⟩;rw[length_cons,succ_mul]at hq;obtain⟨yR,O1⟩:=U8 up (ip up mem_cons_self);refine⟨[(7,aG up)],rfl,?_⟩;dsimp!;refine LH (gQ (l:=lows) (s:=ks) aG (fun(wD:List FM.Row) Γ=>∃x8,Γ=[some (.a7 (.list (rows.map aG))),some (.a7 (.int (j:Int))),some (.a7 (.list (aB.map nat))),some (.a7 (.int (most:Int))),some (kO w wD),u,some (.a7 (.list (lows.map aG))),some (.a7 (aG up)),x8]/\wD.length<=ks.length+lows.length) (fun wD l=>wD.length+l.length<=ks.length+lows.length/\∀r∈l,r∈lows) (fun ks lo=>if decide (FM.drawn aB up lo<=most)=true then FM.ins ks (FM.joined j up lo)else ks) (d:=.list (lows.map aG)) rfl rfl ⟨le_refl _,fun _ h=>h⟩ ⟨x8,rfl,by omega⟩ ?_) ?_
  ·rintro wD lo l' Γ ⟨wI,vk⟩ ⟨x8,rfl,hk⟩;rw[length_cons]at wI;obtain⟨yX,rG⟩:=Uh lo (vk lo mem_cons_self);refine⟨[(8,aG lo)],rfl,?_⟩;dsimp!;have ed:=hD m aB up lo hw (hR.len up yR) (hR.len lo yX) NZ;obtain⟨ej,_⟩:=hJ b m j up lo hb nY hj (hR.len up yR) (hR.len lo yX) (hR.bd up yR) (hR.bd lo yX) (Vv up yR lo yX O1 rG);by_cases c:FM.drawn aB up lo<=most
   ·have c':((FM.drawn aB up lo:Nat):Int)<=(most:Int):=by omega
    have JV:=nX wD (FM.joined j up lo);refine⟨[some (.a7 (.list (rows.map aG))),some (.a7 (.int (j:Int))),some (.a7 (.list (aB.map nat))),some (.a7 (.int (most:Int))),some (kO w (FM.ins wD (FM.joined j up lo))),u,some (.a7 (.list (lows.map aG))),some (.a7 (aG up)),some (.a7 (aG lo))],?_,⟨_,by rw[if_pos (decide_eq_true c)],by rw[if_pos (decide_eq_true c)];omega⟩,by rw[if_pos (decide_eq_true c)];omega,fun x hx=>vk x (mem_cons_of_mem _ hx)⟩;rw[oD (by simp![ed,Bw,eq_true c'])];exact Es rfl (by simp![ej]) (by omega)
   ·have c':¬((FM.drawn aB up lo:Nat):Int)<=(most:Int):=by omega
    refine⟨[some (.a7 (.list (rows.map aG))),some (.a7 (.int (j:Int))),some (.a7 (.list (aB.map nat))),some (.a7 (.int (most:Int))),some (kO w wD),u,some (.a7 (.list (lows.map aG))),some (.a7 (aG up)),some (.a7 (aG lo))],?_,⟨_,by rw[if_neg (by rw[decide_eq_true_eq];exact c)],by rw[if_neg (by rw[decide_eq_true_eq];exact c)];omega⟩,by rw[if_neg (by rw[decide_eq_true_eq];exact c)];omega,fun x hx=>vk x (mem_cons_of_mem _ hx)⟩;rw[qO (by simp![ed,Bw,eq_false c'])];rfl
  ·rintro pH ⟨x8',rfl,JU⟩;exact⟨⟨_,_,rfl⟩,by omega,fun x hx=>ip x (mem_cons_of_mem _ hx)⟩
 ·rintro ag ⟨x7,x8,rfl⟩;have er:ups.foldl (fun ks up=>lows.foldl (fun ks lo=>if decide (FM.drawn aB up lo<=most)=true then FM.ins ks (FM.joined j up lo)else ks) ks) JK=FM.paired j aB most rows:=by
   unfold FM.paired FM.pairsOf;rw[List.foldl_append,RO,HV,CW,List.foldl_flatMap];congr 1
   funext ks up
   rw[lD,List.foldl_map]
  rw[er];have:=He (w:=w) (i:=4) (Γ:=[some (.a7 (.list (rows.map aG))),some (.a7 (.int (j:Int))),some (.a7 (.list (aB.map nat))),some (.a7 (.int (most:Int))),some (kO w (FM.paired j aB most rows)),u,some (.a7 (.list (lows.map aG))),x7,x8]) rfl;rw[map_map]at this;exact this
def eO (qs:List Rat):Nat:=qs.foldr (fun q m=>q.den*m) 1
theorem C7:∀qs:List Rat,0<eO qs
 |[]=>Nat.one_pos
 |q::qs=>Nat.mul_pos q.den_pos (C7 qs)
theorem yF(a b:Nat):((a:Int)).fdiv (b:Int)=((a/b:Nat):Int):=by
 rw[Int.fdiv_eq_ediv_of_nonneg _ (by omega),Int.natCast_ediv]
theorem NI(m d:Nat):((m:Int)*(d:Int)).fdiv ((Nat.gcd m d:Nat):Int)=((lcm m d:Nat):Int):=by
 rw[<- Int.natCast_mul,yF];rfl
theorem F4(m d:Nat)(h:0<m)(h2:0<d):lcm m d<=m*d:=le_of_dvd (Nat.mul_pos h h2) (Nat.lcm_dvd (Nat.dvd_mul_right m d) (Nat.dvd_mul_left d m))
abbrev Sn (F:List Dat->Option Dat):Prop:=∀(c e:Nat) (k:FM.Kn) (qs:List Rat),qs.length<=900->c<=4000000->e<=4000000->(∀q∈qs,SR c q)->eO qs<2^e->F [.str (bQ k),.list (qs.map qD)]=some (aG (FM.whole k qs))/\∀x∈(FM.whole k qs).2,x.natAbs<2^(c+e)
theorem vj:∀(qs:List Rat) (m:Nat),0<m->qs.foldl (fun m q=>lcm m q.den) m<=m*eO qs
 |[],m,_=>by show m<=m*1;omega
 |q::qs,m,h=>by
  have p:=q.den_pos;have h1:=vj qs (lcm m q.den) (Nat.lcm_pos h p);refine le_trans h1 ?_;show _<=m*(q.den*eO qs);rw[<- Nat.mul_assoc];exact Nat.mul_le_mul_right _ (F4 m q.den h p)
theorem LP(T:TX P K mg)(gk:Dn P w K mg base 41 "common_divisor" ["a","b"] 2 p4)(U:FnAt K mg "whole_row" (top 13) ["kind","fractions"]):
  ∃F,Dn P w K mg base 42 "whole_row" ["kind","fractions"] 2 F/\Sn F:=by
 refine⟨_,cq ["kind","fractions","multiple","n","d"] U fun nd _ _ _ _ _ _ _ hr=>
  (ae (aA 2 nd a8)
  (ae (du PassesOwn.never rfl (a5 1) (dS (n:=2) rfl (bf (az 3 nd) (bf (az 4 nd) d8)))
  (af (aA 2 nd (ee T.seer hr (bJ (a5 2) (a5 4)) (ay gk hr (a6 (a5 2) (a6 (a5 4) a9)))))))
  (af (aq (bF (k:=0) (a6 (a5 0) (a6 (gO T.tuple (a6 (cA (jT rfl (fA (tn:=["n","d"]) (fv:=["multiple"]) (js:=[2]) rfl (by decide +kernel) (by decide +kernel) rfl (by decide +kernel) (by decide +kernel) rfl
   (fun x hx=>by((have fO:x="multiple":=(by simpa using hx));(rcases fO with rfl<;>exact⟨_,rfl⟩)))
   (fun p hp=>by((have g9:p=(("multiple" : Str),(2:Nat)):=(by simpa using hp));(rcases g9 with rfl<;>exact⟨rfl,.inr (.inl rfl),.inl rfl,fun z=>by cases z⟩)))) (Hn (a5 1)) (fun _ _ _ _=>(dS (n:=2) rfl (bf (az 0 (show(["n","d","multiple"]:List Str).Nodup by decide +kernel)) (bf (az 1 (show(["n","d","multiple"]:List Str).Nodup by decide +kernel)) d8)))) (fun _ _ _ _=>d7) (fun _ _ _ _=>(bJ (a5 0) (ee T.seer hr (a5 2) (a5 1)))) (tq rfl rfl))) a9)) a9 (hs:=aY)))))))),?_⟩
 intro c e k qs hl hc he hq hP;have z2:2<=sizeLine:=sz (by decide);have zl:qs.length<sizeLine:=lt_of_lt_of_le (show qs.length<1000 by omega) (sz (by decide));have hL:FM.ic qs<2^e:=by
  have:=vj qs 1 (by decide);rw[one_mul]at this;exact lt_of_le_of_lt this hP
 have hLp:0<FM.ic qs:=FM.sJ qs;constructor
 ·refine bH ?_;simp!;rw[ao (ag:=[some (.a7 (.str (bQ k))),some (.a7 (.list (qs.map qD))),some (.a7 (.int 1)),none,none]) (by simp![])];refine fU (I:=_) (gQ (l:=qs) (s:=1) qD (fun(m:Nat) Γ=>∃x3 x4,Γ=[some (.a7 (.str (bQ k))),some (.a7 (.list (qs.map qD))),some (.a7 (.int (m:Int))),x3,x4]) (fun m l=>0<m/\m*eO l<2^e/\∀q∈l,q∈qs) (fun m q=>lcm m q.den) (d:=.list (qs.map qD)) rfl rfl ⟨by decide,by rw[one_mul];exact hP,fun _ h=>h⟩ ⟨none,none,rfl⟩ ?_) ?_
  ·rintro m q l Γ ⟨h1,h2,h3⟩ ⟨x3,x4,rfl⟩;have p:=q.den_pos;have S7:m*q.den*eO l<2^e:=by rw[Nat.mul_assoc];exact h2
   have lp:=C7 l;have RM:m*q.den<2^e:=lt_of_le_of_lt (Nat.le_mul_of_pos_right _ lp) S7;have wJ:m<2^e:=lt_of_le_of_lt (Nat.le_mul_of_pos_right _ p) RM;have RS:q.den<2^e:=lt_of_le_of_lt (Nat.le_mul_of_pos_left _ h1) RM;refine⟨[(3,.int q.num),(4,.int (q.den:Int))],rfl,?_⟩;dsimp!;have e1:p4 [.int (m:Int),.int (q.den:Int)]=some (.int ((Nat.gcd m q.den:Nat):Int)):=by
    show(if 0<=(m:Int)/\0<=(q.den:Int)then some (Dat.int (gcd (m:Int) (q.den:Int)))else none)=_;rw[if_pos ⟨by omega,by omega⟩];rfl
   have gp:0<Nat.gcd m q.den:=Nat.gcd_pos_of_pos_left _ h1;have e2:=CM (a:=(m:Int)) (b:=(q.den:Int)) (by rw[natAbs_natCast];exact dI wJ (by omega)) (by rw[natAbs_natCast];exact dI RS (by omega));have e3:=gh (a:=(m:Int)*(q.den:Int)) (b:=((Nat.gcd m q.den:Nat):Int)) (by omega) (lt_trans (log2_small (k:=4000000) (by decide) (by rw[natAbs_natCast];exact lt_of_le_of_lt (Nat.gcd_le_left _ h1) (dI wJ he))) (by decide));rw[NI]at e3;refine⟨[some (.a7 (.str (bQ k))),some (.a7 (.list (qs.map qD))),some (.a7 (.int ((lcm m q.den:Nat):Int))),some (.a7 (.int q.num)),some (.a7 (.int (q.den:Int)))],by simp![e1,e2,e3],⟨_,_,rfl⟩,Nat.lcm_pos h1 p,lt_of_le_of_lt (Nat.mul_le_mul_right _ (F4 m q.den h1 p)) S7,fun x hx=>h3 x (mem_cons_of_mem _ hx)⟩
  ·rintro ag ⟨x3,x4,rfl⟩;have eL:(qs.foldl (fun m q=>lcm m q.den) 1:Nat)=FM.ic qs:=rfl;rw[eL];have ec:cc (kC 2 (gB (aName 0) (gB (aName 1) mD))) gA (L3.f2 jr (aI 0) (L3.f2 r6 (aI 2) (aI 1))) [none,none,some (.int (FM.ic qs:Int))] (qs.map qD)=some ((FM.whole k qs).2.map .int):=by
    refine cR _ _ (by rw[length_map,length_map];show _=(qs.map _).length;rw[length_map]) fun i d o g1 g2=>?_;unfold FM.whole at g2;rw[getElem?_map]at g1 g2;rw[getElem?_map]at g2;cases hz:qs[i]? with
    |none=>rw[hz]at g1;cases g1
    |some q=>
     rw[hz]at g1 g2;cases g1;cases g2;have rE:=hq q (mem_of_getElem? hz);have p:=q.den_pos;refine⟨[(0,.int q.num),(1,.int (q.den:Int))],rfl,?_⟩;have e3:=gh (a:=(FM.ic qs:Int)) (b:=(q.den:Int)) (by omega) (lt_trans (log2_small (k:=4000000) (by decide) (by rw[natAbs_natCast];exact dI rE.ld hc)) (by decide));rw[yF]at e3;have e2:=CM (a:=q.num) (b:=((FM.ic qs/q.den:Nat):Int)) (dI rE.ln (by omega)) (by rw[natAbs_natCast];exact lt_of_le_of_lt (Nat.div_le_self _ _) (dI hL (by omega)));simp![e3,e2]
   simp![gG,length_map,zl,ec,z2];rfl
 ·intro x hx;obtain⟨q,rE,rfl⟩:=mem_map.mp (show x∈qs.map (fun q=>q.num*((FM.ic qs/q.den:Nat):Int))from hx);exact cI (hq q rE).ln (by rw[natAbs_natCast];exact lt_of_le_of_lt (Nat.div_le_self _ _) hL)
abbrev ar (o:FM.Ol):Dat:=.tuple [.str (bQ o.1),.tuple (o.2.1.map qD),qD o.2.2]
def eN:Nat->List FM.Ol->List (Nat×FM.Ol)
 |_,[]=>[]
 |i,o::os=>(i,o)::eN (i+1) os
abbrev C4 (p:Nat×FM.Ol):Dat:=.tuple [.int (p.1:Int),ar p.2]
theorem Dk:∀(os:List FM.Ol) (i:Nat),jY i (os.map ar)=(eN i os).map C4
 |[],i=>rfl
 |o::os,i=>by rw[map_cons,jY,eN,map_cons,Dk os (i+1)]
theorem zF:∀(os:List FM.Ol) (i:Nat),(eN i os).length=os.length
 |[],i=>rfl
 |o::os,i=>by rw[eN,length_cons,length_cons,zF os]
theorem zA(k:Nat):∀(os:List FM.Ol) (i:Nat),(FM.cg k i os).length=os.length
 |[],i=>rfl
 |o::os,i=>by rw[FM.cg,length_cons,length_cons,zA k os]
theorem C0(k:Nat):∀(os:List FM.Ol) (i:Nat) (acc:List FM.Row),(eN i os).foldl (fun acc (p:Nat×FM.Ol)=>acc++[FM.whole p.2.1 (p.2.2.1++[0,p.2.2.2]++FM.dk k p.1)]) acc=acc++FM.cg k i os
 |[],i,acc=>by show acc=acc++[];rw[append_nil]
 |o::os,i,acc=>by
  rw[eN,foldl_cons,C0 k os (i+1),FM.cg,append_assoc];rfl
theorem Ga:∀{os:List FM.Ol} {i:Nat} {p:Nat×FM.Ol},p∈eN i os->p.2∈os/\p.1<i+os.length
 |[],i,p,h=>by simp[eN]at h
 |o::os,i,p,h=>by
  rw[eN]at h;rcases mem_cons.mp h with e|h
  ·rw[e];exact⟨mem_cons_self,by rw[length_cons];omega⟩
  ·obtain⟨h1,h2⟩:=Ga h;exact⟨mem_cons_of_mem _ h1,by rw[length_cons];omega⟩
theorem uA(a b:List Rat)(h:a.length+b.length<=1000):qA (.list (a.map qD)) (.list (b.map qD))=some (.list ((a++b).map qD)):=by
 show(if(a.map qD).length+(b.map qD).length<=sizeLine then some (Dat.list (a.map qD++b.map qD))else none)=_;rw[if_pos (by rw[length_map,length_map];exact sz h),map_append]
theorem Kb{α:Type}(d:α):∀m:Nat,(List.replicate m [d]).flatten=List.replicate m d
 |0=>rfl
 |m+1=>by rw[replicate_succ,flatten_cons,Kb d m,replicate_succ];rfl
theorem MV(j:Int)(h1:0<=j)(h2:j<=2000000):jS [.int j]=some (gm 0 j.toNat):=if_pos ⟨by omega,by omega⟩
theorem Cv(n:Nat)(h:n<=2000000):jS [.int (n:Int)]=some (gm 0 n):=by
 have:=MV (n:Int) (by omega) (by omega);rw[toNat_natCast]at this;exact this
theorem ye{fb:aw->Option Dat}{ρ:aw}(h:fb ρ=some (.int n))(hn:n<=100):oV (mZ (aT (fC (.tuple [.int 0,.int 1])) bW)) fb ρ=some ((List.replicate n (0:Rat)).map qD):=by
 have z1:1<=sizeLine:=sz (by decide);have zm:1*((n:Int).toNat)<=sizeLine:=by rw[one_mul,toNat_natCast];exact sz (by omega)
 have e1:mZ (aT (fC (.tuple [.int 0,.int 1])) bW) ρ=some [.tuple [.int 0,.int 1]]:=by
  show(if 1<=sizeLine then some [Dat.tuple [.int 0,.int 1]]else none)=_;exact if_pos z1
 unfold oV;rw[e1,Option.bind_some,h,Option.bind_some];show(if _ then some (List.replicate ((n:Int).toNat) [Dat.tuple [Dat.int 0,Dat.int 1]]).flatten else none)=_;rw[if_pos ⟨⟨by omega,by omega⟩,zm⟩,Kb,List.map_replicate,toNat_natCast];rfl
theorem q0:qD 0=.tuple [.int 0,.int 1]:=rfl
theorem q1:qD 1=.tuple [.int 1,.int 1]:=rfl
variable {c:Nat}
theorem kN(h:1<=c):SR c 0:=⟨pow_pos (by decide),one_lt_two_pow (by omega)⟩
theorem vZ(h:1<=c):SR c 1:=⟨one_lt_two_pow (by omega),one_lt_two_pow (by omega)⟩
theorem iR:∀a b:List Rat,eO (a++b)=eO a*eO b
 |[],b=>by show eO b=1*eO b;omega
 |q::a,b=>by show q.den*eO (a++b)=q.den*eO a*eO b;rw[iR a b,Nat.mul_assoc]
theorem o7:∀{a:List Rat},(∀q∈a,q.den=1)->eO a=1
 |[],_=>rfl
 |q::a,h=>by show q.den*eO a=1;rw[h q mem_cons_self,o7 fun x hx=>h x (mem_cons_of_mem _ hx)]
theorem ou(h:q∈FM.dk k i):q=0\/q=1:=by
 obtain⟨c,_,rfl⟩:=mem_map.mp h;split
 ·exact .inr rfl
 ·exact .inl rfl
structure vL (c e n:Nat) (o:FM.Ol):Prop where
 len:o.2.1.length=n
 sq:∀q∈o.2.1,SR c q
 bd:SR c o.2.2
 dn:eO o.2.1*o.2.2.den<2^e
abbrev T3 (F:List Dat->Option Dat):Prop:=∀(c e:Nat) (p:List Rat) (os:List FM.Ol),1<=c->c<=3000000->e<=4000000->p.length<=100->os.length<=100->(∀q∈p,SR c q)->eO p<2^e->(∀o∈os,vL c e p.length o)->F [.tuple (p.map qD),.list (os.map ar)]=some (.list ((FM.bc p os).map aG))
theorem neg_den(q:Rat):(0-q).den=q.den:=by
 have:(0:Rat)-q=-q:=by grind
 rw[this];exact Rat.neg_den q
theorem iG(h:SR c q):SR c (0-q):=by
 refine⟨?_,by rw[neg_den];exact h.ld⟩;have:(0:Rat)-q=-q:=by grind
 rw[this,Rat.neg_num,natAbs_neg];exact h.ln
theorem rf:∀p:List Rat,eO (p.map fun q=>0-q)=eO p
 |[]=>rfl
 |q::p=>by show(0-q).den*eO (p.map fun q=>0-q)=q.den*eO p;rw[neg_den,rf p]
variable {a1:Addr}
theorem M6(T:TX P K mg){a2:Addr}(Z1:TC K mg "ZERO_elimination" [.int 0,.int 1] a1)(Z2:TC K mg "ONE" [.int 1,.int 1] a2){Fw:List Dat->Option Dat}(uM:Dn P w K mg base 43 "whole_row" ["kind","fractions"] 2 Fw)(hW:Sn Fw)(ji:Dn P w K mg base 43 "minus" ["a","b"] 2 eX)(U:FnAt K mg "first_rows" (top 14) ["parts","others"]):
  ∃F,Dn P w K mg base 44 "first_rows" ["parts","others"] 2 F/\T3 F:=by
 refine⟨_,cq ["parts","others","rows","place","other","weights","less"] U fun nd _ _ _ _ _ _ _ hr=>
  (ae (iC 2 nd (gT a9))
  (ae (jA PassesOwn.never rfl (pX T.enumerate (a6 (a5 1) a9)) (dS (n:=2) rfl (bf (az 3 nd) (bf (az 4 nd) d8)))
  (ae (tO 5 nd rfl (fA (tn:=["one"]) (fv:=["place"]) (js:=[3]) rfl (by decide +kernel) (by decide +kernel) rfl (by decide +kernel) (by decide +kernel) rfl
   (fun x hx=>by((have fO:x="place":=(by simpa using hx));(rcases fO with rfl<;>exact⟨_,rfl⟩)))
   (fun p hp=>by((have g9:p=(("place" : Str),(3:Nat)):=(by simpa using hp));(rcases g9 with rfl<;>exact⟨rfl,.inr (.inl rfl),.inl rfl,fun z=>by cases z⟩)))) (j8 T.range (a6 (cy T.len (a6 (a5 1) a9)) a9 (hs:=aY))) (fun _ _ _ _=>(az 0 (show(["one","place"]:List Str).Nodup by decide +kernel))) (fun _ _ _ _=>d7) (fun _ _ _ _=>(fX (cC hr (a5 1) (a5 0)) (c7 Z2.mg Z2.tup) (c7 Z1.mg Z1.tup))) (dA rfl))
  (af (i9 2 (ay uM hr (a6 (ah (a5 4) a8) (a6 (kv (kv (cA (mR T.list (a6 (ah (a5 4) a8) a9 (hs:=aE)))) (ia (a6 (c7 Z1.mg Z1.tup) (a6 (ah (a5 4) a8) a9 (hs:=aE))))) (a5 5)) a9 (hs:=cP)) (hs:=aE)))))))
  (ae (pW 6 nd rfl (jH (N':=["part"])) (a5 0) (fun _ _ _ _=>(az 0 (show(["part"]:List Str).Nodup by decide +kernel))) (fun _ _ _ _=>d7) (fun _ _ _ _=>(ay ji hr (a6 (c7 Z1.mg Z1.tup) (a6 (a5 0) a9)))) (dA rfl))
  (ae (i9 2 (ay uM hr (a6 aZ (a6 (kv (kv (a5 6) (ia (a6 (c7 Z2.mg Z2.tup) (a6 (c7 Z1.mg Z1.tup) a9)))) (cA (sh (gT (a6 (c7 Z1.mg Z1.tup) a9)) (cy T.len (a6 (a5 1) a9))))) a9 (hs:=cP)))))
  (af (aq (a5 2))))))),?_⟩
 intro c e p os jW hc he hp ke l9 yZ bh;have z0:0<=sizeLine:=zero_le _;have z1:1<=sizeLine:=sz (by decide);have z2:2<=sizeLine:=sz (by decide);have lo:=iP ar os;have uj:qm (aT (aI 1) bW) (bw [some (.a7 (.tuple (p.map qD))),some (.a7 (.list (os.map ar))),some (.own ([])),none,none,none,none])=some ((eN 0 os).map C4):=by
  rw[<- Dk];rfl
 refine bH ?_;simp!;rw[ao (ag:=[some (.a7 (.tuple (p.map qD))),some (.a7 (.list (os.map ar))),some (.own ([])),none,none,none,none]) (by simp![z0])];refine fU (I:=_) (kS (l:=eN 0 os) (s:=[]) C4 (fun(acc:List FM.Row) Γ=>∃x3 x4 x5,Γ=[some (.a7 (.tuple (p.map qD))),some (.a7 (.list (os.map ar))),some (.own (acc.map aG)),x3,x4,x5,none]) (fun acc l=>acc.length+l.length<=100/\∀x∈l,x∈eN 0 os) (fun acc (q:Nat×FM.Ol)=>acc++[FM.whole q.2.1 (q.2.2.1++[0,q.2.2.2]++FM.dk os.length q.1)]) uj ⟨by
   rw[zF];exact le_trans (le_of_eq (zero_add _)) ke,fun _ h=>h⟩ ⟨none,none,none,rfl⟩ ?_) ?_
 ·rintro acc ⟨i,o⟩ l Γ ⟨hq,ip⟩ ⟨x3,x4,x5,rfl⟩;rw[length_cons]at hq;obtain⟨Vt,JV⟩:=Ga (ip (i,o) mem_cons_self);have ho:=bh o Vt;refine⟨[(3,.int (i:Int)),(4,ar o)],rfl,?_⟩;dsimp!;have eR:jS [.int ((os.length:Nat):Int)]=some (gm 0 os.length):=Cv os.length (by omega);have ec:cc (aName 0) gA (uk (c9 (L3.f2 cZ (aI 1) (aI 0))) (fC (.tuple [.int 1,.int 1])) (fC (.tuple [.int 0,.int 1]))) [none,some (.int (i:Int))] (gm 0 os.length)=some ((FM.dk os.length i).map qD):=by
   refine cR _ _ (by rw[i8,length_map,FM.ot]) fun n d o' h1 h2=>?_;obtain⟨hn,rfl⟩:=sd h1;refine⟨[(0,.int (0+(n:Int)))],rfl,?_⟩;rw[getElem?_map]at h2;have hu:(FM.dk os.length i)[n]?=some (if i=n then 1 else 0):=by
    unfold FM.dk;rw[getElem?_map,List.getElem?_range hn];rfl
   rw[hu]at h2;cases h2;by_cases ci:i=n
   ·have OZ:(i:Int)=0+(n:Int):=by omega
    rw[if_pos ci,q1];simp![dD,eq_true OZ]
   ·have OZ:¬(i:Int)=0+(n:Int):=by omega
    rw[if_neg ci,q0];simp![dD,eq_false OZ]
  have zn:os.length<sizeLine:=lt_of_lt_of_le (show os.length<1000 by omega) (sz (by decide));rw[ao (ag:=[some (.a7 (.tuple (p.map qD))),some (.a7 (.list (os.map ar))),some (.own (acc.map aG)),some (.a7 (.int (i:Int))),some (.a7 (ar o)),some (.a7 (.list ((FM.dk os.length i).map qD))),none]) (AW (zN (mj (as:=[.int ((os.length:Nat):Int)]) (by simp![lo]) eR) (by rw[i8];exact zn) ec))];have a1:=uA o.2.1 [0,o.2.2] (by rw[ho.len];show _+2<=_;omega);have a2:=uA (o.2.1++[0,o.2.2]) (FM.dk os.length i) (by rw[length_append,ho.len,FM.ot];show _+2+_<=_;omega);have a1:qA (.list (o.2.1.map qD)) (.list [.tuple [.int 0,.int 1],qD o.2.2])=some (.list ((o.2.1++[0,o.2.2]).map qD)):=a1;obtain⟨ew,_⟩:=hW c e o.1 (o.2.1++[0,o.2.2]++FM.dk os.length i) (by rw[length_append,length_append,ho.len,FM.ot];show _+2+_<=_;omega) (by omega) he (fun q hq=>by
   rcases mem_append.mp hq with h|h
   ·rcases mem_append.mp h with h|h
    ·exact ho.sq q h
    ·rcases mem_cons.mp h with h|h
     ·rw[h];exact kN jW
     ·rw[mem_singleton.mp h];exact ho.bd
   ·rcases ou h with e|e
    ·rw[e];exact kN jW
    ·rw[e];exact vZ jW) (by
   rw[iR,iR,o7 (a:=FM.dk os.length i) (fun q hq=>by rcases ou hq with e|e<;>(rw[e];rfl)),mul_one];show eO o.2.1*(1*(o.2.2.den*1))<_;rw[one_mul,mul_one];exact ho.dn)
  have l1:qY [.tuple (o.2.1.map qD)]=some (o.2.1.map qD):=rfl;have zs:acc.length<sizeLine:=lt_of_lt_of_le (show acc.length<1000 by omega) (sz (by decide));refine⟨[some (.a7 (.tuple (p.map qD))),some (.a7 (.list (os.map ar))),some (.own (acc.map aG++[aG (FM.whole o.1 (o.2.1++[0,o.2.2]++FM.dk os.length i))])),some (.a7 (.int (i:Int))),some (.a7 (ar o)),some (.a7 (.list ((FM.dk os.length i).map qD))),none],?_,⟨_,_,_,by rw[map_append];rfl⟩,by rw[length_append];show acc.length+1+l.length<=100;omega,fun x hx=>ip x (mem_cons_of_mem _ hx)⟩;simp![UH,UG,UE,l1,a1,a2,ew,length_map,zs,z2]
 ·rintro ag ⟨x3,x4,x5,rfl⟩;rw[C0,nil_append];have zp:p.length<sizeLine:=lt_of_lt_of_le (show p.length<1000 by omega) (sz (by decide));have ec:cc (aName 0) gA (jF 2 eX (aT (fC (.tuple [.int 0,.int 1])) (aT (aI 0) bW))) [none] (p.map qD)=some ((p.map fun q=>0-q).map qD):=by
   refine cR _ _ (by rw[length_map,length_map,length_map]) fun n d o' h1 h2=>?_;rw[getElem?_map]at h1 h2;rw[getElem?_map]at h2;cases hz:p[n]? with
   |none=>rw[hz]at h1;cases h1
   |some q=>
    rw[hz]at h1 h2;cases h1;cases h2;refine⟨[(0,qD q)],rfl,?_⟩;have em:eX [.tuple [.int 0,.int 1],qD q]=some (qD (0-q)):=lN (kN (c:=1) (by decide)) (l9 q (mem_of_getElem? hz)) (by decide) (by omega);simp![em]
  rw[ao (ag:=[some (.a7 (.tuple (p.map qD))),some (.a7 (.list (os.map ar))),some (.own ((FM.cg os.length 0 os).map aG)),x3,x4,x5,some (.a7 (.list ((p.map fun q=>0-q).map qD)))]) (by simp![oB,length_map,zp,ec])];have a1:=uA (p.map fun q=>0-q) [1,0] (by rw[length_map];show _+2<=_;omega);have a2:=uA ((p.map fun q=>0-q)++[1,0]) (List.replicate os.length 0) (by rw[length_append,length_map,length_replicate];show _+2+_<=_;omega);have a1:qA (.list ((p.map fun q=>0-q).map qD)) (.list [.tuple [.int 1,.int 1],.tuple [.int 0,.int 1]])=some (.list ((p.map (fun q=>0-q)++[1,0]).map qD)):=a1;obtain⟨ew,_⟩:=hW c e .eq ((p.map fun q=>0-q)++[1,0]++List.replicate os.length 0) (by rw[length_append,length_append,length_map,length_replicate];show _+2+_<=_;omega) (by omega) he (fun q hq=>by
   rcases mem_append.mp hq with h|h
   ·rcases mem_append.mp h with h|h
    ·obtain⟨x,hx,rfl⟩:=mem_map.mp h;exact iG (l9 x hx)
    ·rcases mem_cons.mp h with h|h
     ·rw[h];exact vZ jW
     ·rw[mem_singleton.mp h];exact kN jW
   ·rw[(mem_replicate.mp h).2];exact kN jW) (by
   rw[iR,iR,o7 (a:=List.replicate os.length 0) (fun q hq=>by rw[(mem_replicate.mp hq).2];rfl),mul_one,rf];show eO p*1<_;rw[mul_one];exact yZ)
  have er:fL (oV (mZ (aT (fC (.tuple [.int 0,.int 1])) bW)) (gi ib (aT (aI 1) bW))) (bw [some (.a7 (.tuple (p.map qD))),some (.a7 (.list (os.map ar))),some (.own ((FM.cg os.length 0 os).map aG)),x3,x4,x5,some (.a7 (.list ((p.map fun q=>0-q).map qD)))])=some (.list ((List.replicate os.length (0:Rat)).map qD)):=by
   unfold fL;rw[ye (n:=os.length) lo ke];rfl
  have zf:(FM.cg os.length 0 os).length<sizeLine:=by
   rw[zA];exact lt_of_lt_of_le (show os.length<1000 by omega) (sz (by decide))
  have ks:bQ .eq="=":=rfl;rw[ks]at ew;have Ux:(FM.bc p os).map aG=(FM.cg os.length 0 os).map aG++[aG (FM.whole .eq (p.map (fun q=>0-q)++[1,0]++List.replicate os.length 0))]:=by
   show(FM.cg os.length 0 os++[_]).map aG=_;rw[map_append];rfl
  rw[Ux];generalize fL (oV (mZ (aT (fC (.tuple [.int 0,.int 1])) bW)) (gi ib (aT (aI 1) bW)))=gr at *;have OA:∀(y3 y4 y5:Option Dat),True:=fun _ _ _=>trivial;rw[ao (ag:=[some (.a7 (.tuple (p.map qD))),some (.a7 (.list (os.map ar))),some (.own ((FM.cg os.length 0 os).map aG++[aG (FM.whole .eq (p.map (fun q=>0-q)++[1,0]++List.replicate os.length 0))])),x3,x4,x5,some (.a7 (.list ((p.map fun q=>0-q).map qD)))]) (by
   simp only[bw,map_cons,map_nil]at er;simp![er,a1,a2,ew,length_map,zf,z2])]
  simp![]
theorem CD:((a.num,(a.den:Int)):Int×Int)=(b.num,(b.den:Int))↔a=b:=by
 constructor
 ·intro h;obtain⟨h1,h2⟩:=Prod.mk.inj h;exact Rat.ext h1 (by omega)
 ·intro h;rw[h]
theorem r9(a b:Rat):cZ (qD a) (qD b)=some (.bool (decide (a=b))):=by
 have:=BX (a.num,(a.den:Int)) (b.num,(b.den:Int));rw[show decide ((a.num,(a.den:Int))=(b.num,(b.den:Int)))=decide (a=b)from decide_eq_decide.mpr CD]at this;exact this
theorem Qh(a b:Rat):fF (qD a) (qD b)=some (.bool (!decide (a=b))):=by
 have:=Lz (a.num,(a.den:Int)) (b.num,(b.den:Int));rw[show decide ((a.num,(a.den:Int))=(b.num,(b.den:Int)))=decide (a=b)from decide_eq_decide.mpr CD]at this;exact this
theorem Gq(T:TX P K mg)(Z1:TC K mg "ZERO_elimination" [.int 0,.int 1] a1)(mK:Dn P w K mg base 43 "below" ["a","b"] 2 fB)(U:FnAt K mg "is_never" (top 27) ["kind","bound"]):
  ∃F,Dn P w K mg base 44 "is_never" ["kind","bound"] 2 F/\∀(n:Nat) (k:FM.Kn) (b:Rat),n<=4000000->SR n b->F [.str (bQ k),qD b]=some (.bool (FM.cD k b)):=by
 refine⟨_,cq ["kind","bound"] U fun nd _ _ _ _ _ _ _ hr=>
  (ae (aN (cC hr (a5 0) aZ) (af (aq (N2 hr (a5 1) (c7 Z1.mg Z1.tup)))) aJ)
  (af (aq (pY (ay mK hr (a6 (a5 1) (a6 (c7 Z1.mg Z1.tup) a9))) (de (eJ (fE hr (a5 0) aZ) (de (fE hr (a5 1) (c7 Z1.mg Z1.tup))))))))),?_⟩
 intro n k b hn hb;have e1:fF (qD b) (.tuple [.int 0,.int 1])=some (.bool (!decide (b=0))):=Qh b 0;have e2:cZ (qD b) (.tuple [.int 0,.int 1])=some (.bool (decide (b=0))):=r9 b 0;have e3:fB [qD b,.tuple [.int 0,.int 1]]=some (.bool (decide (b<0))):=lO hb (kN (c:=1) (by decide)) hn (by decide);by_cases c1:bQ k="="
 ·have:=(gX k).mp c1;subst this;have er:FM.cD .eq b=!decide (b=0):=by show decide (b≠0)=_;rw[decide_not]
  rw[er];simp![cH,eq_true c1,e1]
 ·by_cases c2:bQ k="<"
  ·have:=(xG k).mp c2;subst this;have er:FM.cD .lt b=(decide (b<0) || decide (b=0)):=rfl;rw[er];by_cases c3:b<0
   ·rw[decide_eq_true c3]at e3 ⊢;simp![cH,eq_false c1,eq_true c2,e3,Bool.true_or]
   ·rw[decide_eq_false c3]at e3 ⊢;simp![cH,eq_false c1,eq_true c2,e3,e2,Bool.false_or]
  ·have hk:k=.le:=by
    cases k with
    |eq=>exact absurd rfl c1
    |lt=>exact absurd rfl c2
    |le=>rfl
   subst hk;have er:FM.cD .le b=decide (b<0):=rfl;rw[er];by_cases c3:b<0
   ·rw[decide_eq_true c3]at e3 ⊢;simp![cH,eq_false c1,eq_false c2,e3]
   ·rw[decide_eq_false c3]at e3 ⊢;simp![cH,eq_false c1,eq_false c2,e3]
abbrev eh (b:Bool):Str:=if b=true then "<" else "<="
def d4:Option FM.fk->Dat
 |none=>.none
 |some b=>.tuple [.str (eh b.1),qD b.2.1,.list (b.2.2.map qD)]
def iE:Option Rat->Dat
 |none=>.none
 |some q=>qD q
theorem jj:jU .none .none=some (.bool true):=rfl
theorem u0(q:Rat):jU (qD q) .none=some (.bool false):=rfl
theorem lC(b:FM.fk):jU (d4 (some b)) .none=some (.bool false):=rfl
theorem LV(T:TX P K mg)(U:FnAt K mg "number_of" (top 31) ["end"]):
  ∃F,Dn P w K mg base 41 "number_of" ["end"] 1 F/\∀b,F [d4 b]=some (iE (FM.gq b)):=by
 refine⟨_,cq ["end"] U fun nd _ _ _ _ _ _ _ hr=>
  (af (aq (fX (d6 (a5 0) cm) cm (ah (a5 0) a8)))),?_⟩
 intro b;cases b with
 |none=>rfl
 |some b=>rfl
theorem Iv(T:TX P K mg)(Z1:TC K mg "ZERO_elimination" [.int 0,.int 1] a1)(ji:Dn P w K mg base 43 "minus" ["a","b"] 2 eX)(U:FnAt K mg "turned_number_of" (top 32) ["end"]):
  ∃F,Dn P w K mg base 44 "turned_number_of" ["end"] 1 F/\∀(n:Nat) b,n<=4000000->(∀x,b=some x->SR n x.2.1)->F [d4 b]=some (iE (FM.fT b)):=by
 refine⟨_,cq ["end"] U fun nd _ _ _ _ _ _ _ hr=>
  (af (aq (fX (d6 (a5 0) cm) cm (ay ji hr (a6 (c7 Z1.mg Z1.tup) (a6 (ah (a5 0) a8) a9 (hs:=aE))))))),?_⟩
 intro n b hn hb;cases b with
 |none=>rfl
 |some b=>
  have e:eX [.tuple [.int 0,.int 1],qD b.2.1]=some (qD (0-b.2.1)):=lN (kN (c:=1) (by decide)) (hb b rfl) (by decide) hn;have a1:bp (d4 (some b)) (.int 1)=some (qD b.2.1):=rfl;have er:iE (FM.fT (some b))=qD (0-b.2.1):=rfl;rw[er];dsimp![lC,a1,e]
theorem R9(h:2<=c):SR c 2:=⟨lt_of_lt_of_le (show(2:Nat)<2^2 by decide) (pow_le_pow_right (by decide) h),one_lt_two_pow (by omega)⟩
theorem Gs(T:TX P K mg){a2 a3:Addr}(Z1:TC K mg "ZERO_elimination" [.int 0,.int 1] a1)(Z2:TC K mg "ONE" [.int 1,.int 1] a2)(Z3:TC K mg "TWO" [.int 2,.int 1] a3)(uN:Dn P w K mg base 43 "plus" ["a","b"] 2 jh)(ji:Dn P w K mg base 43 "minus" ["a","b"] 2 eX)(DK:Dn P w K mg base 43 "over" ["a","b"] 2 oh)(U:FnAt K mg "between" (top 33) ["least","greatest"]):
  ∃F,Dn P w K mg base 44 "between" ["least","greatest"] 2 F/\∀(n:Nat) l g,n<=1900000->(∀x,l=some x->SR n x)->(∀x,g=some x->SR n x)->F [iE l,iE g]=some (qD (FM.gx l g)):=by
 refine⟨_,cq ["least","greatest"] U fun nd _ _ _ _ _ _ _ hr=>
  (ae (aN (cE (gn (d6 (a5 0) cm) (fm (d6 (a5 1) cm)))) (af (aq (c7 Z1.mg Z1.tup))) aJ)
  (ae (aN (d6 (a5 1) cm) (af (aq (ay uN hr (a6 (a5 0) (a6 (c7 Z2.mg Z2.tup) a9))))) aJ)
  (ae (aN (d6 (a5 0) cm) (af (aq (ay ji hr (a6 (a5 1) (a6 (c7 Z2.mg Z2.tup) a9))))) aJ)
  (af (aq (ay DK hr (a6 (ay uN hr (a6 (a5 0) (a6 (a5 1) a9))) (a6 (c7 Z3.mg Z3.tup) a9) (hs:=aY)))))))),?_⟩
 intro n l g hn hl hg;cases l with
 |none=>
  cases g with
  |none=>rfl
  |some g=>
   have e:eX [qD g,.tuple [.int 1,.int 1]]=some (qD (g-1)):=lN (hg g rfl) (vZ (c:=1) (by decide)) (by omega) (by decide);simp![iE,jj,u0,e,FM.gx]
 |some l=>
  cases g with
  |none=>
   have e:jh [qD l,.tuple [.int 1,.int 1]]=some (qD (l+1)):=mF (hl l rfl) (vZ (c:=1) (by decide)) (by omega) (by decide);simp![iE,jj,u0,e,FM.gx]
  |some g=>
   have e1:=mF (hl l rfl) (hg g rfl) (by omega) (by omega);have e2:oh [qD (l+g),.tuple [.int 2,.int 1]]=some (qD ((l+g)/2)):=GP ((hl l rfl).add (hg g rfl)) (R9 (c:=2) (by decide)) (by omega) (by decide) (by decide);simp![iE,jj,u0,e1,e2,FM.gx]
theorem qI(z:Int):qD (z:Rat)=.tuple [.int z,.int 1]:=rfl
variable {b:Nat} {z:Int}
theorem Jp(hb:1<=b)(h:z.natAbs<2^b):SR b (z:Rat):=⟨h,one_lt_two_pow (by omega)⟩
def eQ:Nat->List Rat->List (Nat×Rat)
 |_,[]=>[]
 |i,x::xs=>(i,x)::eQ (i+1) xs
abbrev Ip (p:Nat×Rat):Dat:=.tuple [.int (p.1:Int),qD p.2]
theorem Kh:∀(xs:List Rat) (i:Nat),jY i (xs.map qD)=(eQ i xs).map Ip
 |[],i=>rfl
 |x::xs,i=>by rw[map_cons,jY,eQ,map_cons,Kh xs (i+1)]
theorem Gf:∀{xs:List Rat} {i:Nat} {p:Nat×Rat},p∈eQ i xs->p.2∈xs/\p.1<i+xs.length
 |[],i,p,h=>by simp[eQ]at h
 |x::xs,i,p,h=>by
  rw[eQ]at h;rcases mem_cons.mp h with e|h
  ·rw[e];exact⟨mem_cons_self,by rw[length_cons];omega⟩
  ·obtain⟨h1,h2⟩:=Gf h;exact⟨mem_cons_of_mem _ h1,by rw[length_cons];omega⟩
theorem C5(r:FM.Row):∀(xs:List Rat) (i:Nat) (acc:Rat),(eQ i xs).foldl (fun acc (p:Nat×Rat)=>if FM.ent r p.1≠0 then acc-(FM.ent r p.1:Rat)*p.2 else acc) acc=FM.qZ r i xs acc
 |[],i,acc=>rfl
 |x::xs,i,acc=>by
  rw[eQ,foldl_cons,C5 r xs (i+1)];rfl
inductive gy:List Rat->Nat->Prop
 |nil:gy [] 0
 |zero {xs:List Rat} {C:Nat} {q:Rat}:q=0->gy xs C->gy (q::xs) C
 |cons {xs:List Rat} {C s:Nat} {q:Rat}:SR s q->gy xs C->gy (q::xs) (C+s+1)
variable {xs:List Rat} {C:Nat}
theorem gy.mem(h:gy xs C):∀q∈xs,SR (C+1) q:=by
 induction h with
 |nil=>intro q hq;cases hq
 |zero h0 _ ih=>
  intro q hq;rcases mem_cons.mp hq with e|e
  ·rw[e,h0];exact⟨pow_pos (by decide),one_lt_two_pow (by omega)⟩
  ·exact ih q e
 |cons hs _ ih=>
  intro q hq;rcases mem_cons.mp hq with e|e
  ·rw[e];exact hs.up (by omega)
  ·exact(ih q e).up (by omega)
def Nd (u d:Nat) (q:Rat):Prop:=∃N D:Int,D≠0/\N.natAbs<2^u/\D.natAbs<=2^d/\q=(N:Rat)/(D:Rat)
theorem lF(h0:p≠0)(hz:z.natAbs<2^b)(hp:p.natAbs<2^b):SR b ((z:Rat)/(p:Rat)):=by
 obtain⟨e1,e2⟩:=Fr.kD z p h0;exact tD h0 e1 e2 hz hp
variable {u:Nat}
theorem Nd.sr{d:Nat}(h:Nd u d q)(hd:d<u):SR u q:=by
 obtain⟨N,D,h0,hN,hD,rfl⟩:=h;exact lF h0 hN (lt_of_le_of_lt hD (Nat.pow_lt_pow_right (by decide) hd))
theorem yE(h:z.natAbs<2^b):Nd b 0 (z:Rat):=⟨z,1,by decide,h,by decide,by
 have:((1:Int):Rat)=1:=rfl;rw[this];grind⟩
theorem Bq{s:Nat}{acc y:Rat}{a:Int}(h:Nd (b+C) C acc)(ha:a.natAbs<2^b)(hy:SR s y):Nd (b+(C+s+1)) (C+s+1) (acc-(a:Rat)*y):=by
 obtain⟨N,D,h0,hN,hD,rfl⟩:=h;have yp:(y.den:Int)≠0:=rK y;refine⟨N*(y.den:Int)-a*y.num*D,D*(y.den:Int),mul_ne_zero h0 yp,?_,?_,?_⟩
 ·have h1:(N*(y.den:Int)).natAbs<2^(b+C+s):=cI hN hy.dn;have h2:(a*y.num*D).natAbs<2^(b+C+s):=by
   rw[natAbs_mul,show b+C+s=(b+s)+C by omega,pow_add];have h3:=cI ha hy.ln;have p:=pow_pos (n:=C) (show 0<2 by decide);exact lt_of_le_of_lt (mul_le_mul_left _ hD) (Nat.mul_lt_mul_of_pos_right h3 p)
  rw[show b+(C+s+1)=b+C+s+1 by omega];exact GH h1 h2
 ·rw[natAbs_mul];refine le_trans (mul_le_mul hD (Nat.le_of_lt hy.dn)) ?_;rw[<- pow_add];exact pow_le_pow_right (by decide) (by omega)
 ·have e1:y=(y.num:Rat)/((y.den:Int):Rat):=by
   have:((y.den:Int):Rat)=(y.den:Rat):=rfl;rw[this,<- Rat.mkRat_eq_div,mkRat_self]
  have d1:((D:Int):Rat)≠0:=fun z=>h0 (FM.bK.mp z);have d2:(((y.den:Int)):Rat)≠0:=fun z=>yp (FM.bK.mp z);rw[Rat.intCast_sub,intCast_mul,intCast_mul,intCast_mul,intCast_mul];conv=>lhs;rw[e1]
  generalize ((y.den:Int):Rat)=dd at *;generalize (y.num:Rat)=nn at *;grind
theorem Nd.up{d u' d':Nat}(h:Nd u d q)(hu:u<=u')(hd:d<=d'):Nd u' d' q:=by
 obtain⟨N,D,h0,hN,hD,e⟩:=h;exact⟨N,D,h0,dI hN hu,le_trans hD (pow_le_pow_right (by decide) hd),e⟩
theorem vi(r:FM.Row){b:Nat}(hr:∀z∈r.2,z.natAbs<2^b):∀(xs:List Rat) (i C C1:Nat) (acc:Rat),Nd (b+C) C acc->gy xs C1->Nd (b+(C+C1)) (C+C1) (FM.qZ r i xs acc)
 |[],i,C,C1,acc,h,hx=>by cases hx;exact h
 |x::xs,i,C,C1,acc,h,hx=>by
  have key:∃C2 C3,C2+C3=C+C1/\gy xs C3/\Nd (b+C2) C2 (if FM.ent r i≠0 then acc-(FM.ent r i:Rat)*x else acc):=by
   cases hx with
   |zero h0 hx=>
    refine⟨C,C1,rfl,hx,?_⟩;rw[h0,show acc-(FM.ent r i:Rat)*0=acc by grind];split<;>exact h
   | @cons _ C' s _ hs hx=>
    refine⟨C+s+1,C',by omega,hx,?_⟩;split
    ·exact Bq h (cO hr) hs
    ·exact h.up (by omega) (by omega)
  obtain⟨C2,C3,e,h3,h4⟩:=key;rw[<- e];exact vi r hr xs (i+1) C2 C3 _ h4 h3
abbrev eV (F:List Dat->Option Dat):Prop:=∀(b C:Nat) (r:FM.Row) (x:List Rat),1<=b->x.length<r.2.length->x.length<=100->(∀z∈r.2,z.natAbs<2^b)->gy x C->b+C+1<=4000000->F [aG r,.list (x.map qD)]=some (qD (FM.lB r x))/\Nd (b+C) C (FM.lB r x)
theorem Ge:∀(xs:List Rat) (i:Nat),(eQ i xs).map (fun p=>p.2)=xs
 |[],i=>rfl
 |x::xs,i=>by show x::(eQ (i+1) xs).map _=_;rw[Ge xs]
theorem OV(T:TX P K mg)(ji:Dn P w K mg base 43 "minus" ["a","b"] 2 eX)(Po:Dn P w K mg base 43 "times" ["a","b"] 2 jJ)(U:FnAt K mg "left_over" (top 22) ["row","point"]):
  ∃F,Dn P w K mg base 44 "left_over" ["row","point"] 2 F/\eV F:=by
 refine⟨_,cq ["row","point","left","place","number","part"] U fun nd _ _ _ _ _ _ _ hr=>
  (ae (aA 2 nd (bF (k:=0) (a6 (ah (ah (a5 0) a8) (cy T.len (a6 (a5 1) a9))) (a6 a8 a9) (hs:=aE))))
  (ae (jA PassesOwn.never rfl (pX T.enumerate (a6 (a5 1) a9)) (dS (n:=2) rfl (bf (az 3 nd) (bf (az 4 nd) d8)))
  (ae (aA 5 nd (ah (ah (a5 0) a8) (a5 3)))
  (af (aN (cS hr (a5 5) a8) (af (aA 2 nd (ay ji hr (a6 (a5 2) (a6 (ay Po hr (a6 (bF (k:=0) (a6 (a5 5) (a6 a8 a9))) (a6 (a5 4) a9) (hs:=fD))) a9 (hs:=aY)))))) aJ))))
  (af (aq (a5 2))))),?_⟩
 intro b C r x hb hl Dc hr hx hbud;have z2:2<=sizeLine:=sz (by decide);have lo:=iP qD x;have a0:bp (fg r.2) (.int (x.length:Int))=some (.int (FM.ent r x.length)):=gH hl;refine⟨?_,by
  have:=vi r hr x 0 0 C (FM.ent r x.length:Rat) (yE (cO hr)) hx;rw[zero_add]at this;exact this⟩
 have uj:qm (aT (aI 1) bW) (bw [some (.a7 (aG r)),some (.a7 (.list (x.map qD))),some (.a7 (qD (FM.ent r x.length:Rat))),none,none,none])=some ((eQ 0 x).map Ip):=by
  rw[<- Kh];rfl
 refine bH ?_;simp!;rw[ao (ag:=[some (.a7 (aG r)),some (.a7 (.list (x.map qD))),some (.a7 (qD (FM.ent r x.length:Rat))),none,none,none]) (by rw[qI];dsimp![ik,lo,a0,z2])];refine fU (I:=_) (kS (l:=eQ 0 x) (s:=(FM.ent r x.length:Rat)) Ip (fun(acc:Rat) Γ=>∃x3 x4 x5,Γ=[some (.a7 (aG r)),some (.a7 (.list (x.map qD))),some (.a7 (qD acc)),x3,x4,x5]) (fun acc l=>∃C2 C3,C2+C3=C/\Nd (b+C2) C2 acc/\gy (l.map fun p=>p.2) C3/\∀p∈l,p∈eQ 0 x) (fun acc (p:Nat×Rat)=>if FM.ent r p.1≠0 then acc-(FM.ent r p.1:Rat)*p.2 else acc) uj ⟨0,C,by omega,yE (cO hr),by rw[Ge];exact hx,fun _ h=>h⟩ ⟨none,none,none,rfl⟩ ?_) ?_
 ·rintro acc ⟨i,y⟩ l Γ ⟨C2,C3,hC,hs,RE,ip⟩ ⟨x3,x4,x5,rfl⟩;obtain⟨hy,hi⟩:=Gf (ip (i,y) mem_cons_self);have sy:=hx.mem y hy;have vk:∀p∈l,p∈eQ 0 x:=fun p hp=>ip p (mem_cons_of_mem _ hp);have hQ:∃C2 C3,C2+C3=C/\Nd (b+C2) C2 (if FM.ent r i≠0 then acc-(FM.ent r i:Rat)*y else acc)/\gy (l.map fun p=>p.2) C3/\∀p∈l,p∈eQ 0 x:=by
   rw[map_cons]at RE;cases RE with
   |zero h0 hx=>
    refine⟨C2,C3,hC,?_,hx,vk⟩;have h0:y=0:=h0;rw[h0,show acc-(FM.ent r i:Rat)*0=acc by grind];split<;>exact hs
   | @cons _ C' s _ rC hx=>
    refine⟨C2+s+1,C',by omega,?_,hx,vk⟩;split
    ·exact Bq hs (cO hr) rC
    ·exact hs.up (by omega) (by omega)
  refine⟨[(3,.int (i:Int)),(4,qD y)],rfl,?_⟩;dsimp!;have a1:bp (fg r.2) (.int (i:Int))=some (.int (FM.ent r i)):=gH (by have:i<0+x.length:=hi;omega);rw[ao (ag:=[some (.a7 (aG r)),some (.a7 (.list (x.map qD))),some (.a7 (qD acc)),some (.a7 (.int (i:Int))),some (.a7 (qD y)),some (.a7 (.int (FM.ent r i)))]) (by dsimp![ik,a1])];by_cases c:FM.ent r i=0
  ·refine⟨[some (.a7 (aG r)),some (.a7 (.list (x.map qD))),some (.a7 (qD acc)),some (.a7 (.int (i:Int))),some (.a7 (qD y)),some (.a7 (.int (FM.ent r i)))],?_,⟨_,_,_,by rw[if_neg (fun z=>z c)]⟩,hQ⟩;simp![dC,eq_true c]
  ·have e1:jJ [.tuple [.int (FM.ent r i),.int 1],qD y]=some (qD ((FM.ent r i:Rat)*y)):=vJ (Jp hb (cO hr)) sy (by omega) (by omega);have sp:SR (b+(C+1)) ((FM.ent r i:Rat)*y):=(Jp hb (cO (j:=i) hr)).mul sy;have e2:=lN (hs.sr (by omega)) sp (by omega) (by omega);refine⟨[some (.a7 (aG r)),some (.a7 (.list (x.map qD))),some (.a7 (qD (acc-(FM.ent r i:Rat)*y))),some (.a7 (.int (i:Int))),some (.a7 (qD y)),some (.a7 (.int (FM.ent r i)))],?_,⟨_,_,_,by rw[if_pos c]⟩,hQ⟩;simp![dC,eq_false c,z2,e1,e2]
 ·rintro ag ⟨x3,x4,x5,rfl⟩;rw[C5];simp![];rfl
theorem Gv(h:m<=ds.length):L3.cutD ds (some (m:Int)) none=ds.drop m:=by
 unfold L3.cutD;rw[HT.nM,HT.oC,Nat.min_eq_left h,List.take_of_length_le (by rw[length_drop];omega)]
theorem MO(l:List Int)(h:j+1<=l.length):pQ (fg l) (some ((j:Int)+1)) none=some (fg (l.drop (j+1))):=by
 show(if ¬(HT.bX (l.map Dat.int).length 0 (some ((j+1:Nat):Int))=0/\HT.bX (l.map Dat.int).length (l.map Dat.int).length none=(l.map Dat.int).length)then some (Dat.tuple (L3.cutD (l.map Dat.int) (some ((j+1:Nat):Int)) none))else none)=_;rw[if_pos (by rw[HT.nM,length_map];omega),Gv (by rw[length_map];exact h),<- map_drop]
theorem U0(h:p≠0)(hb:p.natAbs<2^8000000):iL [.int z,.int p]=some (qD ((z:Rat)/(p:Rat))):=by
 obtain⟨e1,e2⟩:=Fr.kD z p h;rw[nW h hb,e1,e2]
abbrev Pa (F:List Dat->Option Dat):Prop:=∀(b C m j:Nat) (rows:List FM.Row) (x:List Rat) (way:Int),(way=1\/way=-1)->1<=b->gS m b rows->x.length<m->m<=900->x.length<=100->j<m->gy x C->b+C+1<=4000000->F [.list (rows.map aG),.int (j:Int),.list (x.map qD),.int way]=some (d4 (FM.bY rows j x way))/\∀t,FM.bY rows j x way=some t->SR (b+C) t.2.1
theorem Br(h:Nd (b+C) C q)(hz:z.natAbs<2^b)(h0:z≠0):SR (b+C) (q/(z:Rat)):=by
 obtain⟨N,D,S3,hN,hD,rfl⟩:=h;have e:(N:Rat)/(D:Rat)/(z:Rat)=(N:Rat)/((D*z:Int):Rat):=by
  have d1:((D:Int):Rat)≠0:=fun z=>S3 (FM.bK.mp z);have d2:((z:Int):Rat)≠0:=fun y=>h0 (FM.bK.mp y);rw[intCast_mul];grind
 rw[e];refine lF (mul_ne_zero S3 h0) hN ?_;rw[natAbs_mul,add_comm b C,pow_add];exact lt_of_le_of_lt (Nat.mul_le_mul_right _ hD) (Nat.mul_lt_mul_of_pos_left hz (pow_pos (by decide)))
theorem Nq(h:z≠0):((z:Rat)).num≠0:=h
theorem LS(T:TX P K mg){Fl:List Dat->Option Dat}(DM:Dn P w K mg base 44 "left_over" ["row","point"] 2 Fl)(hL:eV Fl)(DK:Dn P w K mg base 44 "over" ["a","b"] 2 oh)(mK:Dn P w K mg base 44 "below" ["a","b"] 2 fB)(kL:Dn P w K mg base 44 "make" ["n","d"] 2 iL)(U:FnAt K mg "tightest" (top 23) ["rows","place","point","way"]):
  ∃F,Dn P w K mg base 45 "tightest" ["rows","place","point","way"] 4 F/\Pa F:=by
 refine⟨_,cq ["rows","place","point","way","best","row","part","kind","number"] U fun nd _ _ _ _ _ _ _ hr=>
  (ae (aA 4 nd cm)
  (ae (du PassesOwn.never rfl (a5 0) (az 5 nd)
  (ae (aA 6 nd (bJ (a5 3) (ah (ah (a5 5) a8) (a5 1))))
  (af (aN (cE (d9 (qR (a5 6) a8) (dw (cE (gn (nO (a5 6) a8) (fm (cC hr (ah (a5 5) a8) aZ))))))) (ae (aA 7 nd (fX (cC hr (ah (a5 5) a8) aZ) aZ aZ))
  (ae (aA 8 nd (ay DK hr (a6 (ay DM hr (a6 (a5 5) (a6 (a5 2) a9))) (a6 (bF (k:=0) (a6 (a5 6) (a6 a8 a9))) a9 (hs:=fD)) (hs:=aY))))
  (af (aN (cE (d9 (d6 (a5 4) cm) (d9 (ba (ay mK hr (a6 (a5 8) (a6 (ah (a5 4) a8) a9 (hs:=aE))))) (dw (cE (gn (cC hr (a5 8) (ah (a5 4) a8)) (fm (cC hr (a5 7) aZ)))))))) (af (aA 4 nd (bF (k:=0) (a6 (a5 7) (a6 (a5 8) (a6 (cA (gN rfl (fA (tn:=["weight"]) (fv:=["part"]) (js:=[6]) rfl (by decide +kernel) (by decide +kernel) rfl (by decide +kernel) (by decide +kernel) rfl
   (fun x hx=>by((have fO:x="part":=(by simpa using hx));(rcases fO with rfl<;>exact⟨_,rfl⟩)))
   (fun p hp=>by((have g9:p=(("part" : Str),(6:Nat)):=(by simpa using hp));(rcases g9 with rfl<;>exact⟨rfl,.inr (.inl rfl),.inl rfl,fun z=>by cases z⟩)))) (fc (ah (a5 5) a8) (fV (dg (cy T.len (a6 (a5 2) a9)) a8)) fW) (fun _ _ _ _=>(az 0 (show(["weight","part"]:List Str).Nodup by decide +kernel))) (fun _ _ _ _=>d7) (fun _ _ _ _=>(ay kL hr (a6 (a5 0) (a6 (a5 1) a9)))) (dA rfl))) a9)))))) aJ)))) aJ))))
  (af (aq (a5 4))))),?_⟩
 intro b C m j rows x way ie hb hR RD nY Dc hj hx hsz;have z2:2<=sizeLine:=sz (by decide);have z3:3<=sizeLine:=sz (by decide);have lo:=iP qD x;have wb:∀r∈rows,(way*FM.ent r j).natAbs<2^b:=fun r hr=>by
  have:=cO (j:=j) (hR.bd r hr);rcases ie with e|e
  ·rw[e,Int.one_mul];exact this
  ·rw[e,Int.neg_mul,Int.one_mul,natAbs_neg];exact this
 have Nr:∀r∈rows,way*FM.ent r j≠0->SR (b+C) (FM.dz j way x r):=fun r hr h0=>by
  obtain⟨_,sl⟩:=hL b C r x hb (by rw[hR.len r hr];exact RD) Dc (hR.bd r hr) hx hsz;exact Br sl (wb r hr) h0
 have tS:∀(l:List FM.Row) (t:Option FM.fk),(∀r∈l,r∈rows)->(∀y,t=some y->SR (b+C) y.2.1)->∀y,l.foldl (FM.jM j way x) t=some y->SR (b+C) y.2.1:=fun l=>by
  induction l with
  |nil=>intro t _ h;exact h
  |cons r l ih=>
   intro t ip h;refine ih (FM.jM j way x t r) (fun q hq=>ip q (mem_cons_of_mem _ hq)) fun y hy=>?_;unfold FM.jM at hy;split at hy
   ·rename_i hc;split at hy
    ·cases hy;refine Nr r (ip r mem_cons_self) ?_;rcases hc with h|h
     ·omega
     ·have:=h.1;omega
    ·exact h y hy
   ·exact h y hy
 refine⟨?_,tS rows none (fun _ h=>h) (fun y h=>by cases h)⟩;refine bH ?_;simp!;rw[ao (ag:=[some (.a7 (.list (rows.map aG))),some (.a7 (.int (j:Int))),some (.a7 (.list (x.map qD))),some (.a7 (.int way)),some (.a7 (d4 none)),none,none,none,none]) (by simp![d4])];refine fU (I:=_) (gQ (l:=rows) (s:=(none:Option FM.fk)) aG (fun(t:Option FM.fk) Γ=>∃x5 x6 x7 x8,Γ=[some (.a7 (.list (rows.map aG))),some (.a7 (.int (j:Int))),some (.a7 (.list (x.map qD))),some (.a7 (.int way)),some (.a7 (d4 t)),x5,x6,x7,x8]) (fun t l=>(∀y,t=some y->SR (b+C) y.2.1)/\∀r∈l,r∈rows) (FM.jM j way x) (d:=.list (rows.map aG)) rfl rfl ⟨fun y h=>(by cases h),fun _ h=>h⟩ ⟨none,none,none,none,rfl⟩ ?_) ?_
 ·rintro t r l Γ ⟨ht,ip⟩ ⟨x5,x6,x7,x8,rfl⟩;have hr:=ip r mem_cons_self;have hQ:(∀y,FM.jM j way x t r=some y->SR (b+C) y.2.1)/\∀q∈l,q∈rows:=⟨tS [r] t (fun q hq=>by rw[mem_singleton.mp hq];exact hr) ht,fun q hq=>ip q (mem_cons_of_mem _ hq)⟩;have a1:bp (fg r.2) (.int (j:Int))=some (.int (FM.ent r j)):=gH (by rw[hR.len r hr];exact hj);have em:jr (.int way) (.int (FM.ent r j))=some (.int (way*FM.ent r j)):=mulL _ (by rcases ie with e|e<;>(rw[e];decide)) (by rcases ie with e|e<;>(rw[e];decide));refine⟨[(5,aG r)],rfl,?_⟩;dsimp!;rw[ao (ag:=[some (.a7 (.list (rows.map aG))),some (.a7 (.int (j:Int))),some (.a7 (.list (x.map qD))),some (.a7 (.int way)),some (.a7 (d4 t)),some (.a7 (aG r)),some (.a7 (.int (way*FM.ent r j))),x7,x8]) (by dsimp![ik,a1,em])];by_cases hc:FM.mB j way r
  ·have h0:way*FM.ent r j≠0:=by
    rcases hc with h|h
    ·omega
    ·have:=h.1;omega
   rw[oD (by
    rcases hc with h|⟨h,hk⟩
    ·dsimp![gF,eq_true h]
    ·have h':¬0<way*FM.ent r j:=by omega
     have k1:=(gX r.1).mpr hk;dsimp![gF,cL,kc,cH,eq_false h',eq_true h,eq_true k1])]
   obtain⟨eL,sl⟩:=hL b C r x hb (by rw[hR.len r hr];exact RD) Dc (hR.bd r hr) hx hsz;have eo:oh [qD (FM.lB r x),.tuple [.int (way*FM.ent r j),.int 1]]=some (qD (FM.dz j way x r)):=GP (sl.sr (by omega)) (Jp hb (wb r hr)) (by omega) (by omega) (Nq h0);have sn:=Nr r hr h0;have ek:(if r.1=.lt then("<" : Str)else "<=")=eh (decide (r.1=.lt)):=by unfold eh;by_cases c:r.1=.lt<;>simp[c]
   rw[ao (ag:=[some (.a7 (.list (rows.map aG))),some (.a7 (.int (j:Int))),some (.a7 (.list (x.map qD))),some (.a7 (.int way)),some (.a7 (d4 t)),some (.a7 (aG r)),some (.a7 (.int (way*FM.ent r j))),some (.a7 (.str (eh (decide (r.1=.lt))))),x8]) (by
    by_cases c:r.1=.lt
    ·have k1:=(xG r.1).mpr c;rw[decide_eq_true c];dsimp![kc,cH,eq_true k1,eh]
    ·have k1:¬bQ r.1="<":=fun z=>c ((xG r.1).mp z);rw[decide_eq_false c];dsimp![kc,cH,eq_false k1,eh])]
   rw[ao (ag:=[some (.a7 (.list (rows.map aG))),some (.a7 (.int (j:Int))),some (.a7 (.list (x.map qD))),some (.a7 (.int way)),some (.a7 (d4 t)),some (.a7 (aG r)),some (.a7 (.int (way*FM.ent r j))),some (.a7 (.str (eh (decide (r.1=.lt))))),some (.a7 (qD (FM.dz j way x r)))]) (by dsimp![eL,eo,z2])];have eb:FM.jM j way x t r=if FM.better t (decide (r.1=.lt)) (FM.dz j way x r)=true then some (decide (r.1=.lt),FM.dz j way x r,FM.mL j way x r)else t:=if_pos hc;generalize wL:decide (r.1=.lt)=kt at *;generalize hv:FM.dz j way x r=v at *;have hN:b+C<=4000000:=by omega
   have RN:cZ (.str (eh kt)) (.str "<")=some (.bool kt):=by cases kt<;>rfl
   have test:j1 (c9 (L3.f2 jU (aI 4) (fC .none))) (j1 (ju (jF 2 fB (aT (aI 8) (aT (L3.f2 bp (aI 4) (fC (.int 1))) bW)))) (jl (c9 (L3.f2 cZ (aI 8) (L3.f2 bp (aI 4) (fC (.int 1))))) (c9 (L3.f2 cZ (aI 7) (fC (.str "<")))))) (bU [some (.a7 (.list (rows.map aG))),some (.a7 (.int (j:Int))),some (.a7 (.list (x.map qD))),some (.a7 (.int way)),some (.a7 (d4 t)),some (.a7 (aG r)),some (.a7 (.int (way*FM.ent r j))),some (.a7 (.str (eh kt))),some (.a7 (qD v))])=some (FM.better t kt v):=by
    cases t with
    |none=>
     have e0:d4 none=.none:=rfl;have er:FM.better none kt v=true:=rfl;rw[er,e0];dsimp![jj]
    |some y=>
     have er:FM.better (some y) kt v=(decide (v<y.2.1) || (decide (v=y.2.1)&&kt)):=rfl;have a2:bp (d4 (some y)) (.int 1)=some (qD y.2.1):=rfl;have e1:=lO sn (ht y rfl) hN hN;have e2:=r9 v y.2.1;rw[er];by_cases c1:v<y.2.1
     ·rw[decide_eq_true c1]at e1 ⊢;dsimp![lC,a2,e1,Bool.true_or]
     ·rw[decide_eq_false c1]at e1 ⊢;by_cases c2:v=y.2.1
      ·rw[decide_eq_true c2]at e2 ⊢;cases kt with
       |true=>dsimp![lC,a2,e1,e2,RN,Bool.false_or,Bool.true_and]
       |false=>dsimp![lC,a2,e1,e2,RN,Bool.false_or,Bool.true_and]
      ·rw[decide_eq_false c2]at e2 ⊢;dsimp![lC,a2,e1,e2,Bool.false_or,Bool.false_and]
   cases pf:FM.better t kt v with
   |false=>
    rw[pf]at test eb;rw[if_neg Bool.false_ne_true]at eb;refine⟨[some (.a7 (.list (rows.map aG))),some (.a7 (.int (j:Int))),some (.a7 (.list (x.map qD))),some (.a7 (.int way)),some (.a7 (d4 t)),some (.a7 (aG r)),some (.a7 (.int (way*FM.ent r j))),some (.a7 (.str (eh kt))),some (.a7 (qD v))],?_,⟨_,_,_,_,by rw[eb]⟩,hQ⟩;rw[qO test];rfl
   |true=>
    rw[pf]at test eb;rw[if_pos rfl]at eb;refine⟨[some (.a7 (.list (rows.map aG))),some (.a7 (.int (j:Int))),some (.a7 (.list (x.map qD))),some (.a7 (.int way)),some (.a7 (d4 (some (kt,v,FM.mL j way x r)))),some (.a7 (aG r)),some (.a7 (.int (way*FM.ent r j))),some (.a7 (.str (eh kt))),some (.a7 (qD v))],?_,⟨_,_,_,_,by rw[eb]⟩,hQ⟩;rw[oD test];have es:=MO r.2 (j:=x.length) (by rw[hR.len r hr];omega);have zd:(r.2.drop (x.length+1)).length<sizeLine:=by rw[length_drop,hR.len r hr];exact lt_of_lt_of_le (show m-(x.length+1)<1000 by omega) (sz (by decide))
    have ec:cc (aName 0) gA (jF 2 iL (aT (aI 0) (aT (aI 1) bW))) [none,some (.int (way*FM.ent r j))] ((r.2.drop (x.length+1)).map .int)=some ((FM.mL j way x r).map qD):=by
     refine cR _ _ (by unfold FM.mL;rw[length_map,length_map,length_map]) fun i d o h1 h2=>?_;unfold FM.mL at h2;rw[getElem?_map]at h1 h2;rw[getElem?_map]at h2;cases hz:(r.2.drop (x.length+1))[i]? with
     |none=>rw[hz]at h1;cases h1
     |some z=>
      rw[hz]at h1 h2;cases h1;cases h2;refine⟨[(0,.int z)],rfl,?_⟩;have e:=U0 (z:=z) h0 (dI (wb r hr) (by omega));simp![e]
    have WJ:d4 (some (kt,v,FM.mL j way x r))=.tuple [.str (eh kt),qD v,.list ((FM.mL j way x r).map qD)]:=rfl;rw[WJ];dsimp![ik,mx,kE,kG,nc,lo,bP,es,length_map,zd,ec,z3]
  ·have eb:FM.jM j way x t r=t:=if_neg hc;refine⟨[some (.a7 (.list (rows.map aG))),some (.a7 (.int (j:Int))),some (.a7 (.list (x.map qD))),some (.a7 (.int way)),some (.a7 (d4 t)),some (.a7 (aG r)),some (.a7 (.int (way*FM.ent r j))),x7,x8],?_,⟨_,_,_,_,by rw[eb]⟩,hQ⟩;rw[qO (by
    have h1:¬0<way*FM.ent r j:=fun z=>hc (.inl z);by_cases h2:way*FM.ent r j<0
    ·have k1:¬bQ r.1="=":=fun z=>hc (.inr ⟨h2,(gX r.1).mp z⟩);dsimp![gF,cL,kc,cH,eq_false h1,eq_true h2,eq_false k1]
    ·dsimp![gF,cL,kc,cH,eq_false h1,eq_false h2])]
   rfl
 ·rintro ag ⟨x5,x6,x7,x8,rfl⟩;simp![];rfl
abbrev cf (rows:List FM.Row):Dat:=.list (rows.map aG)
theorem Cg(g:α->Dat){xs:List α}{x:α}(hl:xs.length=n+1)(h:xs[n]?=some x):bp (.list (xs.map g)) (.int (-1))=some (g x):=by
 show fK (xs.map g) (-1)=_;unfold L2.fK L2.l8;rw[if_neg (by decide),if_pos (by rw[length_map];omega)];show(xs.map g)[((-1:Int)+((xs.map g).length:Int)).toNat]?=_;rw[length_map,hl,show((-1:Int)+((n+1:Nat):Int)).toNat=n by omega,getElem?_map,h];rfl
theorem sS:∀n:Nat,gy (List.replicate n 0) 0
 |0=>.nil
 |n+1=>.zero rfl (sS n)
abbrev X4 (F:List Dat->Option Dat):Prop:=∀(b n m:Nat) (Ls:List (List FM.Row)) (rows:List FM.Row) (way:Int),(way=1\/way=-1)->1<=b->Ls.length=n+1->Ls[n]?=some rows->gS m b rows->n+1<m->m<=900->n<=90->b<=3900000->F [.list (Ls.map cf),.int way]=some (d4 (FM.endOf n rows way))/\∀t,FM.endOf n rows way=some t->SR b t.2.1
variable {Ft:List Dat->Option Dat}
theorem M8(T:TX P K mg)(Z1:TC K mg "ZERO_elimination" [.int 0,.int 1] a1)(nk:Dn P w K mg base 45 "tightest" ["rows","place","point","way"] 4 Ft)(hT:Pa Ft)(U:FnAt K mg "end_of" (top 24) ["stages","way"]):
  ∃F,Dn P w K mg base 46 "end_of" ["stages","way"] 2 F/\X4 F:=by
 refine⟨_,cq ["stages","way","place"] U fun nd _ _ _ _ _ _ _ hr=>
  (ae (aA 2 nd (nP (cy T.len (a6 (a5 0) a9)) a8))
  (af (aq (ay nk hr (a6 (ah (a5 0) (eI a8)) (a6 (a5 2) (a6 (cA (sh (gT (a6 (c7 Z1.mg Z1.tup) a9)) (dg (a5 2) a8))) (a6 (a5 1) a9) (hs:=cP))) (hs:=aE)))))),?_⟩
 intro b n m Ls rows way ie hb hl hn hR FD nY rF hsz;have lo:=iP cf Ls;have al:=Cg cf hl hn;have er:∀ρ:aw,(L3.f2 kA (aI 2) (fC (.int 1))) ρ=some (.int ((n+1:Nat):Int))->oV (mZ (aT (fC (.tuple [.int 0,.int 1])) bW)) (L3.f2 kA (aI 2) (fC (.int 1))) ρ=some ((List.replicate (n+1) (0:Rat)).map qD):=fun ρ h=>ye h (by omega);have e1:=hT b 0 m n rows (List.replicate (n+1) 0) way ie hb hR (by rw[length_replicate];omega) nY (by rw[length_replicate];omega) (by omega) (sS _) (by omega);obtain⟨e1,e2⟩:=e1;refine⟨?_,e2⟩;refine bH ?_;simp!;have hp:((Ls.length:Nat):Int)-1=(n:Int):=by omega
 rw[ao (ag:=[some (.a7 (.list (Ls.map cf))),some (.a7 (.int way)),some (.a7 (.int (n:Int)))]) (by simp![lo,eY,hp])];have Se:=er (bU [some (.a7 (.list (Ls.map cf))),some (.a7 (.int way)),some (.a7 (.int (n:Int)))]) rfl;clear er;generalize (List.replicate (n+1) (0:Rat)).map qD=zs at *;generalize oV (mZ (aT (fC (.tuple [.int 0,.int 1])) bW)) (L3.f2 kA (aI 2) (fC (.int 1)))=gr at *;simp only[bU,map_cons,map_nil]at Se;dsimp![al,Se,e1];rfl
variable {Fe:List Dat->Option Dat}
theorem LQ(T:TX P K mg)(vQ:Dn P w K mg base 46 "end_of" ["stages","way"] 2 Fe)(U:FnAt K mg "upper_end" (top 25) ["stages"]):
  ∃F,Dn P w K mg base 47 "upper_end" ["stages"] 1 F/\∀s d,Fe [s,.int 1]=some d->F [s]=some d:=by
 refine⟨_,cq ["stages"] U fun nd _ _ _ _ _ _ _ hr=>
  (af (aq (ay vQ hr (a6 (a5 0) (a6 a8 a9))))),?_⟩
 intro s d h;simp![h]
theorem OO(T:TX P K mg)(vQ:Dn P w K mg base 46 "end_of" ["stages","way"] 2 Fe)(U:FnAt K mg "opposite_end" (top 26) ["stages"]):
  ∃F,Dn P w K mg base 47 "opposite_end" ["stages"] 1 F/\∀s d,Fe [s,.int (-1)]=some d->F [s]=some d:=by
 refine⟨_,cq ["stages"] U fun nd _ _ _ _ _ _ _ hr=>
  (af (aq (ay vQ hr (a6 (a5 0) (a6 (eI a8) a9 (hs:=jy)))))),?_⟩
 intro s d h;simp![h]
def lZ:Option (List Rat)->Dat
 |none=>.none
 |some ws=>.list (ws.map qD)
theorem Q1(l:List Int)(h:j+2<=l.length):pQ (fg l) (some ((j:Int)+2)) none=some (fg (l.drop (j+2))):=by
 have:=MO l (j:=j+1) h;rw[show((j+1:Nat):Int)+1=(j:Int)+2 by omega]at this;exact this
variable {way:Int}
theorem tm(ie:way=1\/way=-1)(h:z.natAbs<2^b):(way*z).natAbs<2^b:=by
 rcases ie with e|e
 ·rw[e,Int.one_mul];exact h
 ·rw[e,Int.neg_mul,Int.one_mul,natAbs_neg];exact h
variable {rows:List FM.Row}
theorem my(ie:way=1\/way=-1)(hR:gS m b rows){t:FM.fk}(h:FM.endOf n rows way=some t):SR b t.2.1/\∀w∈t.2.2,SR b w:=by
 obtain⟨⟨r,hr,hc,k1,k2,k3⟩,_⟩:=(FM.jm rows n (List.replicate (n+1) 0) way).some t h;have oO:way*FM.ent r n≠0:=by rcases hc with hc|⟨hc,_⟩<;>omega
 have hb:=tm ie (cO (j:=n) (hR.bd r hr));have e:FM.lB r (List.replicate (n+1) 0)=((FM.ent r (n+1):Int):Rat):=FM.wC;rw[k2,k3];unfold FM.dz;rw[e];refine⟨lF oO (cO (hR.bd r hr)) hb,fun w hw=>?_⟩;unfold FM.mL at hw;obtain⟨z,hz,rfl⟩:=mem_map.mp hw;exact lF oO (hR.bd r hr z (List.mem_of_mem_drop hz)) hb
abbrev SX (F:List Dat->Option Dat):Prop:=∀(n:Nat) (k:FM.Kn) (b:Rat),n<=4000000->SR n b->F [.str (bQ k),qD b]=some (.bool (FM.cD k b))
def Bn (n:Nat) (r:FM.Row):List Rat:=(r.2.drop (n+2)).map fun(w:Int)=>(((if r.1=.eq/\0<FM.ent r (n+1)then -1 else 1:Int)*w:Int):Rat)
abbrev SK (F:List Dat->Option Dat):Prop:=∀(b n m:Nat) (Ls:List (List FM.Row)) (rows:List FM.Row),1<=b->Ls.length=n+1->Ls[n]?=some rows->gS m b rows->n+2<=m->m<=900->b<=4000000->F [.list (Ls.map cf)]=some (lZ (FM.eZ n rows))
variable {Fi:List Dat->Option Dat}
theorem LX(T:TX P K mg)(qL:Dn P w K mg base 44 "is_never" ["kind","bound"] 2 Fi)(hI:SX Fi)(U:FnAt K mg "never_by_a_row" (top 28) ["stages"]):
  ∃F,Dn P w K mg base 45 "never_by_a_row" ["stages"] 1 F/\SK F:=by
 refine⟨_,cq ["stages","place","row","bound","way"] U fun nd _ _ _ _ _ _ _ hr=>
  (ae (aA 1 nd (nP (cy T.len (a6 (a5 0) a9)) a8))
  (ae (du PassesOwn.never rfl (ah (a5 0) (eI a8)) (az 2 nd)
  (ae (aA 3 nd (ah (ah (a5 2) a8) (dg (a5 1) a8)))
  (af (aN (cE (gn (cC hr (ah (ah (a5 2) a8) (a5 1)) a8) (fm (ba (ay qL hr (a6 (ah (a5 2) a8) (a6 (bF (k:=0) (a6 (a5 3) (a6 a8 a9))) a9 (hs:=fD)) (hs:=aE))))))) (ae (aA 4 nd (fX (cE (gn (cC hr (ah (a5 2) a8) aZ) (fm (qR (a5 3) a8)))) (eI a8) a8))
  (af (aq (cA (gN rfl (fA (tn:=["weight"]) (fv:=["way"]) (js:=[4]) rfl (by decide +kernel) (by decide +kernel) rfl (by decide +kernel) (by decide +kernel) rfl
   (fun x hx=>by((have fO:x="way":=(by simpa using hx));(rcases fO with rfl<;>exact⟨_,rfl⟩)))
   (fun p hp=>by((have g9:p=(("way" : Str),(4:Nat)):=(by simpa using hp));(rcases g9 with rfl<;>exact⟨rfl,.inr (.inl rfl),.inl rfl,fun z=>by cases z⟩)))) (fc (ah (a5 2) a8) (fV (dg (a5 1) a8)) fW) (fun _ _ _ _=>(az 0 (show(["weight","way"]:List Str).Nodup by decide +kernel))) (fun _ _ _ _=>d7) (fun _ _ _ _=>(bF (k:=0) (a6 (bJ (a5 1) (a5 0)) (a6 a8 a9) (hs:=cP)))) (dA rfl)))))) aJ))))
  (af (aq cm)))),?_⟩
 intro b n m Ls rows hb hl hn hR FD nY BF;have z2:2<=sizeLine:=sz (by decide);have lo:=iP cf Ls;have al:=Cg cf hl hn;have hp:((Ls.length:Nat):Int)-1=(n:Int):=by omega
 refine bH ?_;simp!;rw[ao (ag:=[some (.a7 (.list (Ls.map cf))),some (.a7 (.int (n:Int))),none,none,none]) (by simp![lo,eY,hp])];refine(wU (l:=rows) aG (fun Γ=>∃x2 x3 x4,Γ=[some (.a7 (.list (Ls.map cf))),some (.a7 (.int (n:Int))),x2,x3,x4]) (fun r=>decide (FM.ent r n=0)&&FM.cD r.1 (FM.ent r (n+1):Rat)) (fun r=>.list ((Bn n r).map qD)) (d:=cf rows) (fl:=fun o=>.rt (lZ (o.map (Bn n)))) (by dsimp![al]) rfl ⟨none,none,none,rfl⟩ ?_ (fun _=>rfl) ?_)
 ·rintro r hr Γ ⟨x2,x3,x4,rfl⟩;refine⟨[(2,aG r)],rfl,?_⟩;dsimp!;have a0:bp (fg r.2) (.int (n:Int))=some (.int (FM.ent r n)):=gH (by rw[hR.len r hr];omega);have a1:bp (fg r.2) (.int ((n:Int)+1))=some (.int (FM.ent r (n+1))):=gH (j:=n+1) (by rw[hR.len r hr];omega);have hN:Fi [.str (bQ r.1),.tuple [.int (FM.ent r (n+1)),.int 1]]=some (.bool (FM.cD r.1 (FM.ent r (n+1):Rat))):=hI b r.1 _ BF (Jp hb (cO (hR.bd r hr)));rw[ao (ag:=[some (.a7 (.list (Ls.map cf))),some (.a7 (.int (n:Int))),some (.a7 (aG r)),some (.a7 (.int (FM.ent r (n+1)))),x4]) (by dsimp![ik,bP,a1])];by_cases c1:FM.ent r n=0
  ·cases c2:FM.cD r.1 (FM.ent r (n+1):Rat)with
   |false=>
    rw[c2]at hN;rw[if_neg (by rw[Bool.and_false];exact Bool.false_ne_true)];refine⟨[some (.a7 (.list (Ls.map cf))),some (.a7 (.int (n:Int))),some (.a7 (aG r)),some (.a7 (.int (FM.ent r (n+1)))),x4],?_,_,_,_,rfl⟩;dsimp![kc,ik,a0,dD,eq_true c1,hN,z2]
   |true=>
    rw[c2]at hN;rw[if_pos (by rw[decide_eq_true c1];rfl)];rw[oD (by dsimp![kc,ik,a0,dD,eq_true c1,hN,z2])];have es:=Q1 r.2 (j:=n) (by rw[hR.len r hr];omega);have zd:(r.2.drop (n+2)).length<sizeLine:=by rw[length_drop,hR.len r hr];exact lt_of_lt_of_le (show m-(n+2)<1000 by omega) (sz (by decide))
    have fin:∀way:Int,(way=1\/way=-1)->cc (aName 0) gA (l5 (aT (L3.f2 jr (aI 1) (aI 0)) (aT (fC (.int 1)) bW))) [none,some (.int way)] ((r.2.drop (n+2)).map .int)=some (((r.2.drop (n+2)).map fun(w:Int)=>((way*w:Int):Rat)).map qD):=by
     intro way ie;refine cR _ _ (by rw[length_map,length_map,length_map]) fun i d o h1 h2=>?_;rw[getElem?_map]at h1 h2;rw[getElem?_map]at h2;cases hz:(r.2.drop (n+2))[i]? with
     |none=>rw[hz]at h1;cases h1
     |some z=>
      rw[hz]at h1 h2;cases h1;cases h2;refine⟨[(0,.int z)],rfl,?_⟩;have em:jr (.int way) (.int z)=some (.int (way*z)):=mulL _ (by rcases ie with e|e<;>(rw[e];decide)) (by rcases ie with e|e<;>(rw[e];decide));have eq:qD ((way*z:Int):Rat)=.tuple [.int (way*z),.int 1]:=qI _;simp![em,eq,z2]
    by_cases c3:r.1=.eq/\0<FM.ent r (n+1)
    ·have k1:=(gX r.1).mpr c3.1;rw[ao (ag:=[some (.a7 (.list (Ls.map cf))),some (.a7 (.int (n:Int))),some (.a7 (aG r)),some (.a7 (.int (FM.ent r (n+1)))),some (.a7 (.int (-1)))]) (by dsimp![kc,cH,eq_true k1,gF,eq_true c3.2])];have ew:Bn n r=(r.2.drop (n+2)).map fun(w:Int)=>(((-1:Int)*w:Int):Rat):=by unfold Bn;rw[if_pos c3]
     rw[ew];have ec:=fin (-1) (.inr rfl);dsimp![ik,mx,kE,kG,nc,bP,es,length_map,zd,ec]
    ·rw[ao (ag:=[some (.a7 (.list (Ls.map cf))),some (.a7 (.int (n:Int))),some (.a7 (aG r)),some (.a7 (.int (FM.ent r (n+1)))),some (.a7 (.int 1))]) (by
      by_cases c4:r.1=.eq
      ·have k1:=(gX r.1).mpr c4;have c5:¬0<FM.ent r (n+1):=fun z=>c3 ⟨c4,z⟩;dsimp![kc,cH,eq_true k1,gF,eq_false c5]
      ·have k1:¬bQ r.1="=":=fun z=>c4 ((gX r.1).mp z);dsimp![kc,cH,eq_false k1])]
     have ew:Bn n r=(r.2.drop (n+2)).map fun(w:Int)=>(((1:Int)*w:Int):Rat):=by unfold Bn;rw[if_neg c3]
     rw[ew];have ec:=fin 1 (.inl rfl);dsimp![ik,mx,kE,kG,nc,bP,es,length_map,zd,ec]
  ·rw[if_neg (by rw[decide_eq_false c1];exact Bool.false_ne_true)];refine⟨[some (.a7 (.list (Ls.map cf))),some (.a7 (.int (n:Int))),some (.a7 (aG r)),some (.a7 (.int (FM.ent r (n+1)))),x4],?_,_,_,_,rfl⟩;dsimp![kc,ik,a0,dD,eq_false c1]
 ·rintro ag ⟨x2,x3,x4,rfl⟩;simp![lZ,map_none]
theorem J7:∀(xs ys:List Rat),dm (xs.map qD) (ys.map qD)=(xs.zip ys).map fun z=>Dat.tuple [qD z.1,qD z.2]
 |[],ys=>by simp[dm]
 |x::xs,[]=>by simp[dm]
 |x::xs,y::ys=>by simp only[map_cons,dm,zip_cons_cons,J7 xs ys]
abbrev SJ (F:List Dat->Option Dat):Prop:=∀(b n m:Nat) (Ls:List (List FM.Row)) (rows:List FM.Row),1<=b->Ls.length=n+1->Ls[n]?=some rows->gS m b rows->n+2<=m->m<=900->n<=90->b<=1900000->F [.list (Ls.map cf)]=some (lZ (FM.fq n rows))
abbrev zW (way:Int) (F:List Dat->Option Dat):Prop:=∀(b n m:Nat) (Ls:List (List FM.Row)) (rows:List FM.Row),1<=b->Ls.length=n+1->Ls[n]?=some rows->gS m b rows->n+1<m->m<=900->n<=90->b<=1900000->F [.list (Ls.map cf)]=some (d4 (FM.endOf n rows way))
theorem AH(hl:∀r∈rows,r.2.length=m){t:FM.fk}(h:FM.endOf n rows way=some t):t.2.2.length=m-(n+2):=by
 obtain⟨⟨r,hr,hc,k1,k2,k3⟩,_⟩:=(FM.jm rows n (List.replicate (n+1) 0) way).some t h;rw[k3];unfold FM.mL;rw[length_map,length_drop,hl r hr,length_replicate]
variable {Fu:List Dat->Option Dat}
theorem IB(T:TX P K mg){Fo:List Dat->Option Dat}(k6:Dn P w K mg base 47 "upper_end" ["stages"] 1 Fu)(hU:zW 1 Fu)(l7:Dn P w K mg base 47 "opposite_end" ["stages"] 1 Fo)(hO:zW (-1) Fo)(qL:Dn P w K mg base 47 "is_never" ["kind","bound"] 2 Fi)(hI:SX Fi)(uN:Dn P w K mg base 47 "plus" ["a","b"] 2 jh)(U:FnAt K mg "never_by_ends" (top 29) ["stages"]):
  ∃F,Dn P w K mg base 48 "never_by_ends" ["stages"] 1 F/\SJ F:=by
 refine⟨_,cq ["stages","top","bottom","kind"] U fun nd _ _ _ _ _ _ _ hr=>
  (ae (aA 1 nd (ay k6 hr (a6 (a5 0) a9)))
  (ae (aA 2 nd (ay l7 hr (a6 (a5 0) a9)))
  (ae (aN (cE (d9 (d6 (a5 1) cm) (dw (d6 (a5 2) cm)))) (af (aq cm)) aJ)
  (ae (aA 3 nd (fX (B4 aZ (bF (k:=0) (a6 (ah (a5 1) a8) (a6 (ah (a5 2) a8) a9 (hs:=aE)) (hs:=aE)))) aZ aZ))
  (ae (aN (ba (ay qL hr (a6 (a5 3) (a6 (ay uN hr (a6 (ah (a5 1) a8) (a6 (ah (a5 2) a8) a9 (hs:=aE)) (hs:=aE))) a9 (hs:=aY))))) (af (aq (cA (jT rfl (jH (N':=["a","b"])) (lW T.zip (a6 (ah (a5 1) a8) (a6 (ah (a5 2) a8) a9 (hs:=aE)) (hs:=aE))) (fun _ _ _ _=>(dS (n:=2) rfl (bf (az 0 (show(["a","b"]:List Str).Nodup by decide +kernel)) (bf (az 1 (show(["a","b"]:List Str).Nodup by decide +kernel)) d8)))) (fun _ _ _ _=>d7) (fun _ _ _ _=>(ay uN hr (a6 (a5 0) (a6 (a5 1) a9)))) (tq rfl rfl))))) aJ)
  (af (aq cm))))))),?_⟩
 intro b n m Ls rows hb hl hn hR FD nY rF hsz;have z2:2<=sizeLine:=sz (by decide);have eu:=hU b n m Ls rows hb hl hn hR (by omega) nY rF hsz;have eo:=hO b n m Ls rows hb hl hn hR (by omega) nY rF hsz;refine bH ?_;simp!;rw[ao (ag:=[some (.a7 (.list (Ls.map cf))),some (.a7 (d4 (FM.endOf n rows 1))),none,none]) (by dsimp![eu])];rw[ao (ag:=[some (.a7 (.list (Ls.map cf))),some (.a7 (d4 (FM.endOf n rows 1))),some (.a7 (d4 (FM.endOf n rows (-1)))),none]) (by dsimp![eo])];have nE:FM.fq n rows=(match FM.endOf n rows 1,FM.endOf n rows (-1)with
  |some t,some b=>if FM.cD (if t.1=true\/b.1=true then .lt else .le) (t.2.1+b.2.1)=true then some (zipWith (fun x y=>x+y) t.2.2 b.2.2)else none
  |_,_=>none):=rfl
 rw[nE];cases ht:FM.endOf n rows 1 with
 |none=>
  have e0:d4 none=.none:=rfl;rw[e0];dsimp![jj,lZ]
 |some t=>
  cases ho:FM.endOf n rows (-1)with
  |none=>
   have e0:d4 none=.none:=rfl;rw[e0];dsimp![jj,lC,lZ]
  |some o=>
   obtain⟨s1,s2⟩:=my (.inl rfl) hR ht;obtain⟨s3,s4⟩:=my (.inr rfl) hR ho;have w1:=AH hR.len ht;have w2:=AH hR.len ho;have BF:b+b+1<=4000000:=by omega
   have t0:bp (d4 (some t)) (.int 0)=some (.str (eh t.1)):=rfl;have t1:bp (d4 (some t)) (.int 1)=some (qD t.2.1):=rfl;have t2:bp (d4 (some t)) (.int 2)=some (.list (t.2.2.map qD)):=rfl;have o0:bp (d4 (some o)) (.int 0)=some (.str (eh o.1)):=rfl;have o1:bp (d4 (some o)) (.int 1)=some (qD o.2.1):=rfl;have o2:bp (d4 (some o)) (.int 2)=some (.list (o.2.2.map qD)):=rfl;have ei:inD (.str "<") (.tuple [.str (eh t.1),.str (eh o.1)])=some (.bool (decide (t.1=true\/o.1=true))):=by
    cases t.1<;>cases o.1<;>rfl
   have ep:=mF s1 s3 (by omega) (by omega);have eN:=hI (b+b+1) (if t.1=true\/o.1=true then .lt else .le) (t.2.1+o.2.1) BF (s1.add s3);show _=some (Fl.rt (lZ (if FM.cD (if t.1=true\/o.1=true then .lt else .le) (t.2.1+o.2.1)=true then some (zipWith (fun x y=>x+y) t.2.2 o.2.2)else none)));rw[ao (ag:=[some (.a7 (.list (Ls.map cf))),some (.a7 (d4 (some t))),some (.a7 (d4 (some o))),none]) (by dsimp![lC])];rw[ao (ag:=[some (.a7 (.list (Ls.map cf))),some (.a7 (d4 (some t))),some (.a7 (d4 (some o))),some (.a7 (.str (bQ (if t.1=true\/o.1=true then .lt else .le))))]) (by
    by_cases c:t.1=true\/o.1=true
    ·rw[decide_eq_true c]at ei;rw[if_pos c];have ks:bQ .lt="<":=rfl;dsimp![t0,o0,ei,z2,ks]
    ·rw[decide_eq_false c]at ei;rw[if_neg c];have ks:bQ .le="<=":=rfl;dsimp![t0,o0,ei,z2,ks])]
   generalize (if t.1=true\/o.1=true then FM.Kn.lt else .le)=kn at *;cases c2:FM.cD kn (t.2.1+o.2.1)with
   |false=>
    rw[c2]at eN;rw[if_neg Bool.false_ne_true];dsimp![t1,o1,ep,eN,lZ]
   |true=>
    rw[c2]at eN;rw[if_pos rfl];have zl:(t.2.2.zip o.2.2).length<sizeLine:=by rw[length_zip,w1,w2];exact lt_of_lt_of_le (show min (m-(n+2)) (m-(n+2))<1000 by omega) (sz (by decide))
    have ec:cc (kC 2 (gB (aName 0) (gB (aName 1) mD))) gA (jF 2 jh (aT (aI 0) (aT (aI 1) bW))) [none,none] ((t.2.2.zip o.2.2).map fun z=>Dat.tuple [qD z.1,qD z.2])=some ((zipWith (fun x y=>x+y) t.2.2 o.2.2).map qD):=by
     have es:zipWith (fun x y=>x+y) t.2.2 o.2.2=(t.2.2.zip o.2.2).map fun z=>z.1+z.2:=by rw[List.zip,List.map_zipWith]
     rw[es];refine cR _ _ (by rw[length_map,length_map,length_map]) fun i d o' g1 g2=>?_;rw[getElem?_map]at g1 g2;rw[getElem?_map]at g2;cases hq:(t.2.2.zip o.2.2)[i]? with
     |none=>rw[hq]at g1;cases g1
     |some z=>
      rw[hq]at g1 g2;cases g1;cases g2;obtain⟨NX,NW⟩:=of_mem_zip (mem_of_getElem? hq);refine⟨[(0,qD z.1),(1,qD z.2)],rfl,?_⟩;have e1:=mF (s2 z.1 NX) (s4 z.2 NW) (by omega) (by omega);simp![e1]
    dsimp![t1,t2,o1,o2,ep,eN,gG,J7,length_map,zl,ec,lZ]
abbrev SG (F:List Dat->Option Dat):Prop:=∀(b n m:Nat) (Ls:List (List FM.Row)) (rows:List FM.Row),1<=b->Ls.length=n+1->Ls[n]?=some rows->gS m b rows->n+2<=m->m<=900->n<=90->b<=1900000->F [.list (Ls.map cf)]=some (lZ (FM.never n rows))
variable {Fr:List Dat->Option Dat}
theorem LW(T:TX P K mg)(uO:Dn P w K mg base 48 "never_by_a_row" ["stages"] 1 Fr)(hR:SK Fr)(vM:Dn P w K mg base 48 "never_by_ends" ["stages"] 1 Fe)(hE:SJ Fe)(U:FnAt K mg "never" (top 30) ["stages"]):
  ∃F,Dn P w K mg base 49 "never" ["stages"] 1 F/\SG F:=by
 refine⟨_,cq ["stages","weights"] U fun nd _ _ _ _ _ _ _ hr=>
  (ae (aA 1 nd (ay uO hr (a6 (a5 0) a9)))
  (af (aq (fX (d6 (a5 1) cm) (ay vM hr (a6 (a5 0) a9)) (a5 1))))),?_⟩
 intro b n m Ls rows hb hl hn fH FD nY rF hsz;have e1:=hR b n m Ls rows hb hl hn fH FD nY (by omega);have e2:=hE b n m Ls rows hb hl hn fH FD nY rF hsz;have nE:FM.never n rows=(match FM.eZ n rows with
  |some w=>some w
  |none=>FM.fq n rows):=rfl
 rw[nE];cases hw:FM.eZ n rows with
 |none=>
  rw[hw]at e1;have e0:lZ none=.none:=rfl;rw[e0]at e1;simp![e1,jj,e2]
 |some ws=>
  rw[hw]at e1;have e0:lZ (some ws)=.list (ws.map qD):=rfl;rw[e0]at e1;have n0:jU (.list (ws.map qD)) .none=some (.bool false):=rfl;simp![e1,n0,e0]
theorem LG{g x:Int}(h:g∣x):(x.fdiv g).natAbs<=x.natAbs:=by
 obtain⟨c,rfl⟩:=h;by_cases g0:g=0
 ·rw[g0];simp
 ·rw[mul_comm,Int.mul_fdiv_cancel _ g0,natAbs_mul];exact Nat.le_mul_of_pos_right _ (by omega)
theorem yG{one other:List Int}{bN more:Int}(h1:∀x∈one,x.natAbs<2^b)(h2:∀x∈other,x.natAbs<2^b)(h3:bN.natAbs<2^b)(h4:more.natAbs<2^b):∀x∈FM.mixed one bN other more,x.natAbs<2^(2*b+1):=by
 intro x hx;obtain⟨y,hy,rfl⟩:=mem_map.mp (show x∈(FM.fG one bN other more).map (fun x=>x.fdiv (FM.lowG (FM.fG one bN other more):Int))from hx);refine lt_of_le_of_lt (LG (FM.m9 hy)) ?_;obtain⟨p,hp,q,hq,rfl⟩:=ja (show y∈zipWith (fun a b=>bN*a+more*b) one other from hy);rw[show 2*b=b+b by omega];exact qB (cI h3 (h1 p hp)) (cI h4 (h2 q hq))
theorem Bp{most:Nat}{aB:List Nat}(hR:gS m b rows):gS m (2*b+1) (FM.cQ aB j most rows):=by
 have up:∀{x:Int},x.natAbs<2^b->x.natAbs<2^(2*b+1):=fun h=>dI h (by omega);unfold FM.cQ;split
 ·refine⟨fun r hr=>?_,fun r hr x hx=>?_⟩
  ·rcases FM.gV.mp hr with⟨h1,h2⟩|⟨u,hu,l,hl,pu,pl,_,e⟩
   ·exact hR.len r h1
   ·rw[e];show(FM.mixed u.2 _ l.2 _).length=_;rw[FM.mT (by rw[hR.len u hu,hR.len l hl]),hR.len u hu]
  ·rcases FM.gV.mp hr with⟨h1,h2⟩|⟨u,hu,l,hl,pu,pl,_,e⟩
   ·exact up (hR.bd r h1 x hx)
   ·rw[e]at hx;exact yG (hR.bd u hu) (hR.bd l hl) (by rw[natAbs_neg];exact cO (hR.bd l hl)) (cO (hR.bd u hu)) x hx
 ·rename_i q hq;have hm:=mem_of_find?_eq_some hq;refine⟨fun r hr=>?_,fun r hr x hx=>?_⟩
  ·obtain⟨s,hs,rfl⟩:=mem_map.mp hr;have hs:=(mem_filter.mp hs).1;show(FM.mixed s.2 _ q.2 _).length=_;rw[FM.mT (by rw[hR.len s hs,hR.len q hm]),hR.len s hs]
  ·obtain⟨s,hs,rfl⟩:=mem_map.mp hr;have hs:=(mem_filter.mp hs).1;exact yG (hR.bd s hs) (hR.bd q hm) (by rw[natAbs_natCast];exact cO (hR.bd q hm)) (by split<;>(try rw[natAbs_neg])<;>exact cO (hR.bd s hs)) x hx
theorem Ef{M:Nat}(aB:List Nat):∀(m j most b:Nat) (rows:List FM.Row),gS M b rows->∀i,i<=m->∃rs,(FM.lz aB m j most rows)[i]?=some rs/\gS M (FM.bt b i) rs
 |0,j,most,b,rows,h,i,hi=>by
  have:i=0:=by omega
  subst this;exact⟨rows,rfl,h⟩
 |m+1,j,most,b,rows,h,0,hi=>⟨rows,rfl,h⟩
 |m+1,j,most,b,rows,h,i+1,hi=>Ef aB m (j+1) _ (2*b+1) _ (Bp h) i (by omega)
theorem uZ(aB:List Nat):∀(m j most:Nat) (rows:List FM.Row),(FM.lz aB m j most rows).length=m+1
 |0,j,most,rows=>rfl
 |m+1,j,most,rows=>by
  show(FM.lz aB m (j+1) _ _).length+1=_;rw[uZ]
variable {e:Nat}
theorem xO{k:FM.Kn}{qs:List Rat}(hq:∀q∈qs,SR c q)(hP:eO qs<2^e):∀x∈(FM.whole k qs).2,x.natAbs<2^(c+e):=by
 have hL:FM.ic qs<2^e:=by
  have:=vj qs 1 (by decide);rw[one_mul]at this;exact lt_of_le_of_lt this hP
 intro x hx;obtain⟨q,rE,rfl⟩:=mem_map.mp (show x∈qs.map (fun q=>q.num*((FM.ic qs/q.den:Nat):Int))from hx);exact cI (hq q rE).ln (by rw[natAbs_natCast];exact lt_of_le_of_lt (Nat.div_le_self _ _) hL)
theorem Ke{c e n k:Nat}(jW:1<=c):∀(l:List FM.Ol) (i:Nat),(∀o∈l,vL c e n o)->∀r∈FM.cg k i l,∀x∈r.2,x.natAbs<2^(c+e)
 |[],i,_,r,hr=>by simp[FM.cg]at hr
 |o::l,i,h,r,hr=>by
  rcases mem_cons.mp (show r∈FM.whole o.1 (o.2.1++[0,o.2.2]++FM.dk k i)::FM.cg k (i+1) l from hr)with e|hr
  ·subst e;have ho:=h o mem_cons_self;refine xO (fun q hq=>?_) ?_
   ·rcases mem_append.mp hq with h|h
    ·rcases mem_append.mp h with h|h
     ·exact ho.sq q h
     ·rcases mem_cons.mp h with h|h
      ·rw[h];exact kN jW
      ·rw[mem_singleton.mp h];exact ho.bd
    ·rcases ou h with e|e
     ·rw[e];exact kN jW
     ·rw[e];exact vZ jW
   ·rw[iR,iR,o7 (a:=FM.dk k i) (fun q hq=>by rcases ou hq with e|e<;>(rw[e];rfl)),mul_one];show eO o.2.1*(1*(o.2.2.den*1))<_;rw[one_mul,mul_one];exact ho.dn
  ·exact Ke jW l (i+1) (fun o ho=>h o (mem_cons_of_mem _ ho)) r hr
variable {p:List Rat} {os:List FM.Ol}
theorem zz(jW:1<=c)(l9:∀q∈p,SR c q)(yZ:eO p<2^e)(bh:∀o∈os,vL c e p.length o):gS (p.length+2+os.length) (c+e) (FM.bc p os):=by
 refine⟨(FM.sQ fun o ho=>(bh o ho).len).len,fun r hr=>?_⟩;unfold FM.bc at hr;rcases mem_append.mp hr with h|h
 ·exact Ke jW os 0 bh r h
 ·rw[mem_singleton.mp h];refine xO (fun q hq=>?_) ?_
  ·rcases mem_append.mp hq with h|h
   ·rcases mem_append.mp h with h|h
    ·obtain⟨x,hx,rfl⟩:=mem_map.mp h;exact iG (l9 x hx)
    ·rcases mem_cons.mp h with h|h
     ·rw[h];exact vZ jW
     ·rw[mem_singleton.mp h];exact kN jW
   ·rw[(mem_replicate.mp h).2];exact kN jW
  ·rw[iR,iR,o7 (a:=List.replicate os.length 0) (fun q hq=>by rw[(mem_replicate.mp hq).2];rfl),mul_one,rf];show eO p*1<_;rw[mul_one];exact yZ
theorem LL(a b:FM.Row):eqB (aG a) (aG b)=some (decide (a=b)):=by
 have h:eqB (aG a) (aG b)=if kqdOk 9 (aG a)=true/\kqdOk 9 (aG b)=true then some (kz (aG a) (aG b))else none:=rfl;rw[h,if_pos ⟨lI (tZ a.1),lI (tZ b.1)⟩];congr 1
 by_cases e:a=b
 ·rw[mz (by rw[e]),decide_eq_true e]
 ·rw[kU (fun z=>e (AY z)),decide_eq_false e]
theorem Lx(a b:FM.Row):fF (aG a) (aG b)=some (.bool (!decide (a=b))):=by unfold fF;rw[LL];rfl
theorem xP{os:List FM.Ol}{n:Nat}:∀(l:List FM.Ol) (i:Nat),(∀t,t<l.length->os[i+t]?=l[t]?)->((eN i l).filter fun p=>!decide (p.2.1=.eq)).map (fun p=>nat (n+2+p.1))=(((range' i l.length).filter fun i=>FM.jO os i).map fun i=>n+2+i).map nat
 |[],i,_=>rfl
 |o::l,i,h=>by
  have ih:=xP l (i+1) (n:=n) (os:=os) fun t ht=>by
   have:=h (t+1) (by rw[length_cons];omega);rw[show i+1+t=i+(t+1) by omega];exact this
  have h0:=h 0 (by rw[length_cons];omega);have hk:FM.knd os i=o.1:=by
   unfold FM.knd;rw[getD_eq_getElem?_getD,show i=i+0 by omega,h0];rfl
  have hj:FM.jO os i=!decide (o.1=.eq):=by unfold FM.jO;rw[hk,decide_not]
  rw[length_cons,List.range'_succ];show(((i,o)::eN (i+1) l).filter _).map _=_;rw[filter_cons,filter_cons];show(if(!decide (o.1=.eq))=true then _ else _:List (Nat×FM.Ol)).map _=_;rw[hj];by_cases c:(!decide (o.1=.eq))=true
  ·rw[if_pos c,if_pos c,map_cons,map_cons,map_cons,ih]
  ·rw[if_neg c,if_neg c,ih]
abbrev Ss (F:List Dat->Option Dat):Prop:=∀(c e:Nat) (p:List Rat) (os:List FM.Ol),1<=c->c<=3000000->e<=4000000->p.length<=50->os.length<=100->(∀q∈p,SR c q)->eO p<2^e->(∀o∈os,vL c e p.length o)->FM.bt (c+e) p.length<=4400000->FM.cb (os.length+1) p.length<sizeLine->F [.tuple (p.map qD),.list (os.map ar)]=some (.list ((FM.bB p os).map cf))
variable {Fp:List Dat->Option Dat}
theorem Iw(T:TX P K mg){Ff Fw:List Dat->Option Dat}(AE:Dn P w K mg base 45 "first_rows" ["parts","others"] 2 Ff)(hF:T3 Ff)(DN:Dn P w K mg base 45 "equal_row" ["rows","place"] 2 Fe)(hE:∀(rows:List FM.Row) (j m:Nat),(∀r∈rows,r.2.length=m)->j<m->Fe [.list (rows.map aG),.int (j:Int)]=some (sA (FM.dW j rows)))(Mk:Dn P w K mg base 45 "paired" ["rows","place","weighed","most"] 4 Fp)(hP:SA Fp)(J0:Dn P w K mg base 45 "without" ["row","equal","place"] 3 Fw)(hW:Sl Fw)(U:FnAt K mg "stages_of" (top 21) ["parts","others"]):
  ∃F,Dn P w K mg base 46 "stages_of" ["parts","others"] 2 F/\Ss F:=by
 refine⟨_,cq ["parts","others","rows","ahead","weighed","most","stages","place","equal"] U fun nd _ _ _ _ _ _ _ hr=>
  (ae (aA 2 nd (ay AE hr (a6 (a5 0) (a6 (a5 1) a9))))
  (ae (aA 3 nd (dg (cy T.len (a6 (a5 0) a9)) a8))
  (ae (tO 4 nd rfl (fA (tn:=["place","other"]) (fv:=["ahead"]) (js:=[3]) rfl (by decide +kernel) (by decide +kernel) rfl (by decide +kernel) (by decide +kernel) rfl
   (fun x hx=>by((have fO:x="ahead":=(by simpa using hx));(rcases fO with rfl<;>exact⟨_,rfl⟩)))
   (fun p hp=>by((have g9:p=(("ahead" : Str),(3:Nat)):=(by simpa using hp));(rcases g9 with rfl<;>exact⟨rfl,.inr (.inl rfl),.inl rfl,fun z=>by cases z⟩)))) (pX T.enumerate (a6 (a5 1) a9)) (fun _ _ _ _=>(dS (n:=2) rfl (bf (az 0 (show(["place","other","ahead"]:List Str).Nodup by decide +kernel)) (bf (az 1 (show(["place","other","ahead"]:List Str).Nodup by decide +kernel)) d8)))) (fun _ _ _ _=>(kP (cS hr (ah (a5 1) a8) aZ))) (fun _ _ _ _=>(dg (a5 2) (a5 0))) (tq rfl rfl))
  (ae (aA 5 nd a8)
  (ae (iC 6 nd (gT a9))
  (ae (tP PassesOwn.never rfl T.range (a6 (cy T.len (a6 (a5 0) a9)) a9 (hs:=aY)) (az 7 nd) (ae (i9 6 (a5 2))
  (ae (aA 8 nd (ay DN hr (a6 (a5 2) (a6 (a5 7) a9))))
  (af (aN (d6 (a5 8) cm) (ae (aA 5 nd (dg (a5 5) a8))
  (af (aA 2 nd (ay Mk hr (a6 (a5 2) (a6 (a5 7) (a6 (a5 4) (a6 (a5 5) a9)))))))) (af (pW 2 nd rfl (fA (tn:=["row"]) (fv:=["place","equal"]) (js:=[7,8]) rfl (by decide +kernel) (by decide +kernel) rfl (by decide +kernel) (by decide +kernel) rfl
   (fun x hx=>by((have fO:x="place"\/x="equal":=(by simpa using hx));(rcases fO with rfl|rfl<;>exact⟨_,rfl⟩)))
   (fun p hp=>by((have g9:p=(("place" : Str),(7:Nat))\/p=(("equal" : Str),(8:Nat)):=(by simpa using hp));(rcases g9 with rfl|rfl<;>exact⟨rfl,.inr (.inl rfl),.inl rfl,fun z=>by cases z⟩)))) (a5 2) (fun _ _ _ _=>(az 0 (show(["row","place","equal"]:List Str).Nodup by decide +kernel))) (fun _ _ _ _=>(kP (cS hr (a5 0) (a5 2)))) (fun _ _ _ _=>(ay J0 hr (a6 (a5 0) (a6 (a5 2) (a6 (a5 1) a9))))) (dA rfl))))))))
  (ae (i9 6 (a5 2))
  (af (aq (a5 6)))))))))),?_⟩
 intro c e p os jW hc he hp ke l9 yZ bh pf wM;have z0:0<=sizeLine:=zero_le _;have hlen:∀o∈os,o.2.1.length=p.length:=fun o ho=>(bh o ho).len;have lp:ib [.tuple (p.map qD)]=some (.int p.length):=by show some (Dat.int ((p.map qD).length:Nat))=_;rw[length_map]
 have eF:=hF c e p os jW hc he (by omega) ke l9 yZ bh;generalize Fy:FM.cw p.length os.length (FM.jO os)=wd;have Fq:wd.length<=900:=by
  rw[<- Fy];unfold FM.cw;rw[length_map];have:=length_filter_le (fun i=>FM.jO os i) (List.range os.length);rw[length_range]at this;omega
 have NZ:∀q∈wd,q<p.length+2+os.length:=fun q hq=>by
  rw[<- Fy]at hq;unfold FM.cw at hq;obtain⟨i,hi,rfl⟩:=mem_map.mp hq;have:=List.mem_range.mp (mem_filter.mp hi).1;omega
 refine bH ?_;simp!;rw[ao (ag:=[some (.a7 (.tuple (p.map qD))),some (.a7 (.list (os.map ar))),some (.a7 (.list ((FM.bc p os).map aG))),none,none,none,none,none,none]) (by simp![eF])];rw[ao (ag:=[some (.a7 (.tuple (p.map qD))),some (.a7 (.list (os.map ar))),some (.a7 (.list ((FM.bc p os).map aG))),some (.a7 (.int ((p.length:Int)+2))),none,none,none,none,none]) (by simp![lp,bP])];have zn:os.length<sizeLine:=lt_of_lt_of_le (show os.length<1000 by omega) (sz (by decide));have uj:qm (aT (aI 1) bW) (bw [some (.a7 (.tuple (p.map qD))),some (.a7 (.list (os.map ar))),some (.a7 (.list ((FM.bc p os).map aG))),some (.a7 (.int ((p.length:Int)+2))),none,none,none,none,none])=some ((eN 0 os).map C4):=by
  rw[<- Dk];rfl
 have ec:cc (kC 2 (gB (aName 0) (gB (aName 1) mD))) (c9 (L3.f2 fF (L3.f2 bp (aI 1) (fC (.int 0))) (fC (.str "=")))) (L3.f2 kA (aI 2) (aI 0)) [none,none,some (.int ((p.length:Int)+2))] ((eN 0 os).map C4)=some (wd.map nat):=by
  rw[iS C4 (fun q=>nat (p.length+2+q.1)) (fun q=>!decide (q.2.1=.eq)) (eN 0 os) (fun q hq=>?_)]
  ·rw[xP os 0 (fun t _=>by rw[zero_add]),<- Fy];unfold FM.cw;rw[List.range_eq_range']
  ·refine⟨[(0,.int (q.1:Int)),(1,ar q.2)],rfl,?_,fun _=>?_⟩
   ·have e0:bp (ar q.2) (.int 0)=some (.str (bQ q.2.1)):=rfl;by_cases ck:q.2.1=.eq
    ·have k1:=(gX q.2.1).mpr ck;rw[decide_eq_true ck];dsimp![e0,jq,eq_true k1]
    ·have k1:¬bQ q.2.1="=":=fun z=>ck ((gX q.2.1).mp z);rw[decide_eq_false ck];dsimp![e0,jq,eq_false k1]
   ·have en:nat (p.length+2+q.1)=.int ((p.length:Int)+2+(q.1:Int)):=rfl;rw[en];simp![bP]
 rw[ao (ag:=[some (.a7 (.tuple (p.map qD))),some (.a7 (.list (os.map ar))),some (.a7 (.list ((FM.bc p os).map aG))),some (.a7 (.int ((p.length:Int)+2))),some (.a7 (.list (wd.map nat))),none,none,none,none]) (AW (zN uj (by rw[length_map,zF];exact zn) ec))];rw[ao (ag:=[some (.a7 (.tuple (p.map qD))),some (.a7 (.list (os.map ar))),some (.a7 (.list ((FM.bc p os).map aG))),some (.a7 (.int ((p.length:Int)+2))),some (.a7 (.list (wd.map nat))),some (.a7 (.int 1)),none,none,none]) (by simp![])];rw[ao (ag:=[some (.a7 (.tuple (p.map qD))),some (.a7 (.list (os.map ar))),some (.a7 (.list ((FM.bc p os).map aG))),some (.a7 (.int ((p.length:Int)+2))),some (.a7 (.list (wd.map nat))),some (.a7 (.int 1)),some (.own ([])),none,none]) (by simp![z0])];have O6:jS [.int ((p.length:Nat):Int)]=some ((range' 0 p.length).map nat):=by
  rw[Cv p.length (by omega)];unfold gm;rw[List.range_eq_range'];congr 1
  exact map_congr_left fun i _=>by rw[Int.zero_add]
 refine fU (I:=_) (wQ (as:=[.int ((p.length:Nat):Int)]) (l:=range' 0 p.length) (s:=((FM.bc p os,1,[]):FM.Nx)) nat (fun(s:FM.Nx) Γ=>∃x7 x8,Γ=[some (.a7 (.tuple (p.map qD))),some (.a7 (.list (os.map ar))),some (.a7 (.list (s.1.map aG))),some (.a7 (.int ((p.length:Int)+2))),some (.a7 (.list (wd.map nat))),some (.a7 (.int (s.2.1:Int))),some (.own (s.2.2.map cf)),x7,x8])
  (fun s l=>∃(j m b r:Nat) (E:List Nat) (B:Nat->Nat->Rat) (β:Nat->Rat),l=range' j m/\j+m=p.length/\s.2.1=E.length+1/\FM.Rs p.length os.length s.1/\FM.Sg p.length os.length j (FM.jO os) (FM.sO os) E B β (s.1.map (FM.aC p.length))/\gS (p.length+2+os.length) b s.1/\s.1.length<=r/\FM.bt b m<=4400000/\FM.cb r m<sizeLine/\s.2.2.length<=j)
  (FM.dt wd) (by simp![lp]) O6 ⟨0,p.length,c+e,os.length+1,[],_,_,rfl,by omega,rfl,FM.sQ hlen,FM.zy hlen,zz jW l9 yZ bh,by
   unfold FM.bc;rw[length_append,zA];exact le_refl _,pf,wM,le_refl _⟩ ⟨none,none,rfl⟩ ?_) ?_
 ·rintro⟨rows,most,acc⟩ j0 l Γ ⟨j,m,b,r,E,B,β,hl,hjm,JT,K4,K3,fH,yS,BF,RU,vp⟩ ⟨x7,x8,rfl⟩;cases m with
  |zero=>cases hl
  |succ m=>
   rw[List.range'_succ]at hl;obtain⟨rfl,rfl⟩:=List.cons.inj hl;dsimp only at JT K4 K3 fH yS vp;have RG:=FM.Bo K4 K3 (by omega) JT;rw[Fy]at RG;obtain⟨Uq,⟨E',B',vR,Up,wK⟩,_⟩:=RG;have hQ:∃(j m2 b r:Nat) (E:List Nat) (B:Nat->Nat->Rat) (β:Nat->Rat),range' (j0+1) m=range' j m2/\j+m2=p.length/\(FM.dt wd (rows,most,acc) j0).2.1=E.length+1/\FM.Rs p.length os.length (FM.dt wd (rows,most,acc) j0).1/\FM.Sg p.length os.length j (FM.jO os) (FM.sO os) E B β ((FM.dt wd (rows,most,acc) j0).1.map (FM.aC p.length))/\gS (p.length+2+os.length) b (FM.dt wd (rows,most,acc) j0).1/\(FM.dt wd (rows,most,acc) j0).1.length<=r/\FM.bt b m2<=4400000/\FM.cb r m2<sizeLine/\(FM.dt wd (rows,most,acc) j0).2.2.length<=j:=by
    refine⟨j0+1,m,2*b+1,r+r*r/4,E',B',vR,rfl,by omega,wK,Uq,Up,Bp fH,?_,BF,RU,?_⟩
    ·exact le_trans (FM.HJ rows j0 most wd) (add_le_add yS (Nat.div_le_div_right (mul_le_mul yS yS)))
    ·show(acc++[rows]).length<=_;rw[length_append];exact Nat.add_le_add_right vp 1
   have wN:b<=4400000:=le_trans (le_trans (show b<=2*b+1 by omega) (FM.oX m (2*b+1))) BF;have O5:r+r*r/4<sizeLine:=lt_of_le_of_lt (FM.Kk m _) RU;have zr:rows.length<sizeLine:=by omega
   have za:acc.length<sizeLine:=lt_of_lt_of_le (show acc.length<1000 by omega) (sz (by decide));refine⟨[(7,nat j0)],rfl,?_⟩;dsimp!;rw[ao (ag:=[some (.a7 (.tuple (p.map qD))),some (.a7 (.list (os.map ar))),some (.a7 (.list (rows.map aG))),some (.a7 (.int ((p.length:Int)+2))),some (.a7 (.list (wd.map nat))),some (.a7 (.int (most:Int))),some (.own (acc.map cf++[cf rows])),some (.a7 (nat j0)),x8]) (by simp![length_map,za])];have eE:=hE rows j0 (p.length+2+os.length) fH.len (by omega);rw[ao (ag:=[some (.a7 (.tuple (p.map qD))),some (.a7 (.list (os.map ar))),some (.a7 (.list (rows.map aG))),some (.a7 (.int ((p.length:Int)+2))),some (.a7 (.list (wd.map nat))),some (.a7 (.int (most:Int))),some (.own (acc.map cf++[cf rows])),some (.a7 (nat j0)),some (.a7 (sA (FM.dW j0 rows)))]) (by simp![eE])];cases hq:FM.dW j0 rows with
   |none=>
    have e0:sA none=.none:=rfl;have en:FM.dt wd (rows,most,acc) j0=(FM.paired j0 wd (most+1) rows,most+1,acc++[rows]):=by
     unfold FM.dt FM.cQ FM.iF;dsimp only;rw[hq]
    have eP:=hP b (p.length+2+os.length) j0 (most+1) wd rows wN (by omega) (by omega) fH Fq NZ (FM.Lr K4 K3 hq) (lt_of_le_of_lt (le_trans (FM.yy rows j0) (add_le_add yS (Nat.div_le_div_right (mul_le_mul yS yS)))) O5);refine⟨[some (.a7 (.tuple (p.map qD))),some (.a7 (.list (os.map ar))),some (.a7 (.list ((FM.paired j0 wd (most+1) rows).map aG))),some (.a7 (.int ((p.length:Int)+2))),some (.a7 (.list (wd.map nat))),some (.a7 (.int ((most+1:Nat):Int))),some (.own (acc.map cf++[cf rows])),some (.a7 (nat j0)),some (.a7 (.none))],?_,⟨_,_,by rw[en,map_append];rfl⟩,hQ⟩;rw[e0,oD (by dsimp![jj])];rw[ao (ag:=[some (.a7 (.tuple (p.map qD))),some (.a7 (.list (os.map ar))),some (.a7 (.list (rows.map aG))),some (.a7 (.int ((p.length:Int)+2))),some (.a7 (.list (wd.map nat))),some (.a7 (.int ((most+1:Nat):Int))),some (.own (acc.map cf++[cf rows])),some (.a7 (nat j0)),some (.a7 (.none))]) (by simp![bP];rfl)];simp![eP]
   |some q=>
    have rE:=mem_of_find?_eq_some hq;have Vr:=find?_some hq;have O8:q.1=.eq/\FM.ent q j0≠0:=by simpa using Vr
    have e0:sA (some q)=aG q:=rfl;have en:FM.dt wd (rows,most,acc) j0=((rows.filter fun r=>decide (r≠q)).map (FM.wo q j0),most,acc++[rows]):=by
     unfold FM.dt FM.cQ FM.iF;dsimp only;rw[hq]
    have ec:cc (aName 0) (c9 (L3.f2 fF (aI 0) (aI 2))) (jF 3 Fw (aT (aI 0) (aT (aI 2) (aT (aI 1) bW)))) [none,some (nat j0),some (aG q)] (rows.map aG)=some (((rows.filter fun r=>decide (r≠q)).map (FM.wo q j0)).map aG):=by
     rw[iS aG (fun r=>aG (FM.wo q j0 r)) (fun r=>decide (r≠q)) rows (fun r hr=>?_)]
     ·rw[map_map];rfl
     ·refine⟨[(0,aG r)],rfl,?_,fun hd=>?_⟩
      ·have er:(!decide (r=q))=decide (r≠q):=(decide_not).symm;rw[<- er];simp![Lx]
      ·have cx:r≠q:=of_decide_eq_true hd;obtain⟨eW,_⟩:=hW b (p.length+2+os.length) j0 r q wN (by omega) (by omega) (fH.len r hr) (fH.len q rE) (fH.bd r hr) (fH.bd q rE) (FM.PC K4 K3 rE O8.1 O8.2 hr cx);simp![eW]
    refine⟨[some (.a7 (.tuple (p.map qD))),some (.a7 (.list (os.map ar))),some (.a7 (.list (((rows.filter fun r=>decide (r≠q)).map (FM.wo q j0)).map aG))),some (.a7 (.int ((p.length:Int)+2))),some (.a7 (.list (wd.map nat))),some (.a7 (.int (most:Int))),some (.own (acc.map cf++[cf rows])),some (.a7 (nat j0)),some (.a7 (aG q))],?_,⟨_,_,by rw[en,map_append];rfl⟩,hQ⟩;have n0:jU (aG q) .none=some (.bool false):=rfl;rw[e0,qO (by dsimp![n0])];simp![oB,length_map,zr,ec]
 ·rintro ag ⟨x7,x8,rfl⟩;have O4:=FM.y9 wd p.length 0 1 (FM.bc p os) [];generalize hfs:(range' 0 p.length).foldl (FM.dt wd) (FM.bc p os,1,[])=fs at *;have hl:fs.2.2.length=p.length:=by
   have:=congrArg List.length O4;rw[length_append,nil_append,uZ]at this;exact Nat.succ.inj this
  have za:fs.2.2.length<sizeLine:=lt_of_lt_of_le (show fs.2.2.length<1000 by omega) (sz (by decide));have es:FM.bB p os=fs.2.2++[fs.1]:=by
   unfold FM.bB;rw[Fy,O4,nil_append]
  rw[es,map_append];simp![length_map,za,map_cons,map_nil]
theorem qz{l g:Option Rat}(hn:1<=n+m)(hl:∀x,l=some x->SR n x)(hg:∀x,g=some x->SR m x):SR (n+m+3) (FM.gx l g):=by
 cases l with
 |none=>
  cases g with
  |none=>exact kN (by omega)
  |some g=>exact((hg g rfl).sub (vZ (c:=1) (by decide))).up (by omega)
 |some l=>
  cases g with
  |none=>exact((hl l rfl).add (vZ (c:=1) (by decide))).up (by omega)
  |some g=>exact(((hl l rfl).add (hg g rfl)).div (R9 (c:=2) (by decide)) (by decide)).up (by omega)
variable {ys:List Rat}
theorem gy.app{D:Nat}(h:gy xs C)(h2:gy ys D):gy (xs++ys) (C+D):=by
 induction h with
 |nil=>rw[zero_add];exact h2
 |zero h0 _ ih=>exact .zero h0 ih
 | @cons _ C s _ hs _ ih=>rw[show C+s+1+D=(C+D)+s+1 by omega];exact .cons hs ih
theorem gy.set(h:gy xs C){v:Rat}{s:Nat}(hv:SR s v):∀{m:Nat},m<xs.length->xs.getD m 0=0->∃C',C'<=C+s+1/\gy (xs.set m v) C':=by
 induction h with
 |nil=>intro m hm;simp at hm
 | @zero xs C q h0 h ih=>
  intro m hm e;cases m with
  |zero=>exact⟨C+s+1,le_refl _,.cons hv h⟩
  |succ m=>
   obtain⟨C',h1,h2⟩:=ih (m:=m) (by rw[length_cons]at hm;omega) e;exact⟨C',h1,.zero h0 h2⟩
 | @cons xs C t q hs h ih=>
  intro m hm e;cases m with
  |zero=>exact⟨C+s+1,by omega,.cons hv h⟩
  |succ m=>
   obtain⟨C',h1,h2⟩:=ih (m:=m) (by rw[length_cons]at hm;omega) e;exact⟨C'+t+1,by omega,.cons hs h2⟩
def B9 (bs:Nat->Nat):Nat->Nat->Nat
 |0,C=>C
 |m+1,C=>B9 bs m (C+(bs m+C+(bs m+C)+3)+1)
def q5 (bs:Nat->Nat):Nat->Nat->Prop
 |0,_=>True
 |m+1,C=>bs m+C<=1900000/\q5 bs m (C+(bs m+C+(bs m+C)+3)+1)
theorem ym(bs:Nat->Nat):∀(m:Nat) {C D:Nat},C<=D->B9 bs m C<=B9 bs m D
 |0,_,_,h=>h
 |m+1,_,_,h=>ym bs m (by omega)
theorem pZ(bs:Nat->Nat):∀(m:Nat) {C D:Nat},C<=D->q5 bs m D->q5 bs m C
 |0,_,_,_,_=>trivial
 |m+1,_,_,h,h2=>⟨by have:=h2.1;omega,pZ bs m (by omega) h2.2⟩
def nR (Ls:List (List FM.Row)) (x:List Rat) (m:Nat):List Rat:=x.set m (FM.gx (FM.fT (FM.bY (Ls.getD m []) m x (-1))) (FM.gq (FM.bY (Ls.getD m []) m x 1)))
theorem B8(Ls:List (List FM.Row)):∀(m:Nat) (x:List Rat),(List.range m).reverse.foldl (nR Ls) x=FM.dP Ls m x
 |0,x=>rfl
 |m+1,x=>by
  rw[range_succ,List.reverse_append];show(List.range m).reverse.foldl (nR Ls) (nR Ls x m)=_;rw[B8 Ls m];rfl
theorem down_eq:∀n:Nat,iM ((n:Int)-1) n=(List.range n).reverse.map nat
 |0=>rfl
 |n+1=>by
  have ih:=down_eq n;rw[range_succ,List.reverse_append];show iM _ _=nat n::(List.range n).reverse.map nat;rw[<- ih];unfold iM;rw[List.range_succ_eq_map,map_cons,map_map];congr 1
  ·show Dat.int _=Dat.int _;congr 1
   omega
  ·refine map_congr_left fun i _=>?_;show Dat.int _=Dat.int _;congr 1
   show((n+1:Nat):Int)-1-((i+1:Nat):Int)=(n:Int)-1-(i:Int);omega
theorem xg(h:m<=ds.length):L3.cutD ds none (some (m:Int))=ds.take m:=by
 unfold L3.cutD;rw[HT.nM,HT.oC,Nat.min_eq_left h,drop_zero,sub_zero]
abbrev Tj (F:List Dat->Option Dat):Prop:=∀(n:Nat) l g,n<=1900000->(∀x,l=some x->SR n x)->(∀x,g=some x->SR n x)->F [iE l,iE g]=some (qD (FM.gx l g))
abbrev So (F:List Dat->Option Dat):Prop:=∀(n:Nat) b,n<=4000000->(∀x,b=some x->SR n x.2.1)->F [d4 b]=some (iE (FM.fT b))
abbrev SH (F:List Dat->Option Dat):Prop:=∀b,F [d4 b]=some (iE (FM.gq b))
theorem o9(g:α->Dat){xs:List α}{x:α}(h:xs[n]?=some x):bp (.list (xs.map g)) (nat n)=some (g x):=by
 show fK (xs.map g) (n:Int)=_;have hl:n<xs.length:=(List.getElem?_eq_some_iff.mp h).1;unfold L2.fK L2.l8;rw[if_pos (by omega),if_pos (by rw[length_map];omega)];show(xs.map g)[((n:Int)).toNat]?=_;rw[toNat_natCast,getElem?_map,h];rfl
abbrev Sx (F:List Dat->Option Dat):Prop:=∀(bs:Nat->Nat) (n M s:Nat) (Ls:List (List FM.Row)) (t:Rat),Ls.length=n+1->(∀i,i<n->1<=bs i/\∃rs,Ls[i]?=some rs/\gS M (bs i) rs)->n+1<M->M<=900->n<=90->SR s t->q5 bs n (s+1)->F [.list (Ls.map cf),qD t]=some (.tuple ((FM.dB Ls n t).map qD))/\∀q∈FM.dB Ls n t,SR (B9 bs n (s+1)+1) q
theorem qT(n:Nat)(t:Rat):(List.replicate n (0:Rat)++[t]).length=n+1:=by rw[length_append,length_replicate];rfl
theorem sj(n:Nat)(t:Rat):∀c,c<n->(List.replicate n (0:Rat)++[t]).getD c 0=0:=fun c hc=>by
 rw[getD_eq_getElem?_getD,getElem?_append_left (by rw[length_replicate];exact hc),getElem?_replicate,if_pos hc];rfl
theorem vc{s:Nat}{t:Rat}(ht:SR s t):gy (List.replicate n (0:Rat)++[t]) (s+1):=by
 have:=(sS n).app (gy.cons ht .nil);rw[show 0+(0+s+1)=s+1 by omega]at this;exact this
theorem ED(Ls:List (List FM.Row)):∀(m:Nat) (x:List Rat),(FM.dP Ls m x).length=x.length
 |0,x=>rfl
 |m+1,x=>by
  show(FM.dP Ls m (x.set m _)).length=_;rw[ED Ls m,length_set]
theorem ox{x:List Rat}(ie:way=1\/way=-1)(hR:gS m b rows)(hC:gy x C){t:FM.fk}(h:FM.bY rows j x way=some t):SR (b+C) t.2.1:=by
 obtain⟨⟨r,hr,hc,k1,k2,k3⟩,_⟩:=(FM.jm rows j x way).some t h;have oO:way*FM.ent r j≠0:=by rcases hc with hc|⟨hc,_⟩<;>omega
 have hb:=tm ie (cO (j:=j) (hR.bd r hr));rw[k2];unfold FM.dz;have:=vi r (hR.bd r hr) x 0 0 C (FM.ent r x.length:Rat) (yE (cO (hR.bd r hr))) hC;rw[zero_add]at this;exact Br this hb oO
theorem EE{bs:Nat->Nat}{n M:Nat}{Ls:List (List FM.Row)}(hl:Ls.length=n+1)(hst:∀i,i<n->1<=bs i/\∃rs,Ls[i]?=some rs/\gS M (bs i) rs):∀(m C:Nat) (x:List Rat),m<=n->x.length=n+1->(∀c,c<m->x.getD c 0=0)->gy x C->q5 bs m C->∃C',C'<=B9 bs m C/\gy (FM.dP Ls m x) C'
 |0,C,x,_,_,_,hC,_=>⟨C,le_refl _,hC⟩
 |m+1,C,x,hm,uf,mU,hC,hO=>by
  obtain⟨b1,rs,BA,fH⟩:=hst m (by omega);have eD:Ls.getD m []=rs:=by rw[getD_eq_getElem?_getD,BA];rfl
  have v1:∀y,FM.fT (FM.bY (Ls.getD m []) m x (-1))=some y->SR (bs m+C) y:=fun y hy=>by
   rw[eD]at hy;cases ho:FM.bY rs m x (-1)with
   |none=>rw[ho]at hy;cases hy
   |some o=>
    rw[ho]at hy;cases hy;exact iG (ox (.inr rfl) fH hC ho)
  have v2:∀y,FM.gq (FM.bY (Ls.getD m []) m x 1)=some y->SR (bs m+C) y:=fun y hy=>by
   rw[eD]at hy;cases ho:FM.bY rs m x 1 with
   |none=>rw[ho]at hy;cases hy
   |some o=>
    rw[ho]at hy;cases hy;exact ox (.inl rfl) fH hC ho
  have sv:=qz (by omega) v1 v2;obtain⟨C',zo,zk⟩:=hC.set sv (m:=m) (by omega) (mU m (by omega));obtain⟨C2,h1,h2⟩:=EE hl hst m C' _ (by omega) (by rw[length_set];exact uf) (fun c hc=>by
   rw[FM.jt (by omega),if_neg (by omega)];exact mU c (by omega)) zk (pZ bs m zo hO.2)
  exact⟨C2,le_trans h1 (ym bs m zo),h2⟩
variable {Fn Fb:List Dat->Option Dat}
theorem LU(T:TX P K mg)(Z1:TC K mg "ZERO_elimination" [.int 0,.int 1] a1)(nk:Dn P w K mg base 45 "tightest" ["rows","place","point","way"] 4 Ft)(hT:Pa Ft)(j4:Dn P w K mg base 45 "turned_number_of" ["end"] 1 Fu)(hU:So Fu)(p6:Dn P w K mg base 45 "number_of" ["end"] 1 Fn)(hN:SH Fn)(td:Dn P w K mg base 45 "between" ["least","greatest"] 2 Fb)(wO:Tj Fb)(U:FnAt K mg "point_of" (top 34) ["stages","number"]):
  ∃F,Dn P w K mg base 46 "point_of" ["stages","number"] 2 F/\Sx F:=by
 refine⟨_,cq ["stages","number","many","point","place","least","greatest"] U fun nd _ _ _ _ _ _ _ hr=>
  (ae (aA 2 nd (nP (cy T.len (a6 (a5 0) a9)) a8))
  (ae (iC 3 nd (Hq (sh (gT (a6 (c7 Z1.mg Z1.tup) a9)) (a5 2)) (gT (a6 (a5 1) a9))))
  (ae (jA PassesOwn.never rfl (Ep T.range (a6 (nP (a5 2) a8) (a6 (eI a8) (a6 (eI a8) a9 (hs:=jy)) (hs:=jy)) (hs:=cP))) (az 4 nd)
  (ae (we 5 nd (ay j4 hr (a6 (ay nk hr (a6 (ah (a5 0) (a5 4)) (a6 (a5 4) (a6 (a5 3) (a6 (eI a8) a9 (hs:=jy)))) (hs:=aE))) a9 (hs:=aY))))
  (ae (we 6 nd (ay p6 hr (a6 (ay nk hr (a6 (ah (a5 0) (a5 4)) (a6 (a5 4) (a6 (a5 3) (a6 a8 a9))) (hs:=aE))) a9 (hs:=aY))))
  (af (Af 3 (ay td hr (a6 (a5 5) (a6 (a5 6) a9))) (a5 4))))))
  (af (aq (gO T.tuple (a6 (fc (a5 3) fW (fV (a5 2))) a9 (hs:=aE)))))))),?_⟩
 intro bs n M s Ls t hl hst RJ BH rF ht bh;have z1:1<=sizeLine:=sz (by decide);have lo:=iP cf Ls;have hp:((Ls.length:Nat):Int)-1=(n:Int):=by omega
 refine⟨?_,?_⟩
 ·refine bH ?_;simp!;rw[ao (ag:=[some (.a7 (.list (Ls.map cf))),some (.a7 (qD t)),some (.a7 (.int (n:Int))),none,none,none,none]) (by simp![lo,eY,hp])];have er:oV (mZ (aT (fC (.tuple [.int 0,.int 1])) bW)) (aI 2) (bU [some (.a7 (.list (Ls.map cf))),some (.a7 (qD t)),some (.a7 (.int (n:Int))),none,none,none,none])=some ((List.replicate n (0:Rat)).map qD):=ye rfl (by omega);rw[ao (ag:=[some (.a7 (.list (Ls.map cf))),some (.a7 (qD t)),some (.a7 (.int (n:Int))),some (.own ((List.replicate n (0:Rat)++[t]).map qD)),none,none,none]) (by
   rw[map_append];have zl:((List.replicate n (0:Rat)).map qD).length+1<=sizeLine:=by rw[length_map,length_replicate];exact sz (by omega)
   generalize (List.replicate n (0:Rat)).map qD=zs at *;generalize oV (mZ (aT (fC (.tuple [.int 0,.int 1])) bW)) (aI 2)=gr at *;simp only[bU,map_cons,map_nil]at er;simp![er,Dj,zl,z1])]
  have O6:qk Cw (aT (L3.f2 xX (aI 2) (fC (.int 1))) (aT (fC (.int (-1))) (aT (fC (.int (-1))) bW))) (bw [some (.a7 (.list (Ls.map cf))),some (.a7 (qD t)),some (.a7 (.int (n:Int))),some (.own ((List.replicate n (0:Rat)++[t]).map qD)),none,none,none])=some ((List.range n).reverse.map nat):=by
   refine mj (as:=[.int ((n:Int)-1),.int (-1),.int (-1)]) (by
    generalize (List.replicate n (0:Rat)++[t]).map qD=zs;simp![eY]) ?_
   rw[<- down_eq];have e2:((n:Int)-1-(-1)).toNat=n:=by omega
   show(if(-1:Int)=-1/\(-(2^62)<=(n:Int)-1/\(n:Int)-1<2^62)/\(-(2^62)<=(-1:Int)/\(-1:Int)<2^62)then some (iM ((n:Int)-1) ((n:Int)-1-(-1)).toNat)else none)=_;rw[if_pos ⟨rfl,by omega,by omega⟩,e2]
  refine fU (I:=_) (kS (l:=(List.range n).reverse) (s:=List.replicate n (0:Rat)++[t]) nat (fun(x:List Rat) Γ=>∃x4 x5 x6,Γ=[some (.a7 (.list (Ls.map cf))),some (.a7 (qD t)),some (.a7 (.int (n:Int))),some (.own (x.map qD)),x4,x5,x6])
   (fun x l=>∃m C,l=(List.range m).reverse/\m<=n/\x.length=n+1/\(∀c,c<m->x.getD c 0=0)/\gy x C/\q5 bs m C) (nR Ls) O6 ⟨n,s+1,rfl,le_refl _,qT n t,sj n t,vc ht,bh⟩ ⟨none,none,none,rfl⟩ ?_) ?_
  ·rintro x m0 l Γ ⟨m,C,Oa,hmn,uf,mU,hC,hO⟩ ⟨x4,x5,x6,rfl⟩;cases m with
   |zero=>cases Oa
   |succ m=>
    rw[range_succ,List.reverse_append]at Oa;obtain⟨rfl,rfl⟩:=List.cons.inj (show m0::l=m::(List.range m).reverse from Oa);obtain⟨b1,rs,BA,fH⟩:=hst m0 (by omega);have W7:=hO.1;have eD:Ls.getD m0 []=rs:=by rw[getD_eq_getElem?_getD,BA];rfl
    obtain⟨t1,s1⟩:=hT (bs m0) C M m0 rs x (-1) (.inr rfl) b1 fH (by omega) BH (by omega) (by omega) hC (by omega);obtain⟨t2,s2⟩:=hT (bs m0) C M m0 rs x 1 (.inl rfl) b1 fH (by omega) BH (by omega) (by omega) hC (by omega);have e1:=hU (bs m0+C) (FM.bY rs m0 x (-1)) (by omega) s1;have e2:=hN (FM.bY rs m0 x 1);have v1:∀y,FM.fT (FM.bY rs m0 x (-1))=some y->SR (bs m0+C) y:=fun y hy=>by
     cases ho:FM.bY rs m0 x (-1)with
     |none=>rw[ho]at hy;cases hy
     |some o=>
      rw[ho]at hy;cases hy;exact iG (s1 o ho)
    have v2:∀y,FM.gq (FM.bY rs m0 x 1)=some y->SR (bs m0+C) y:=fun y hy=>by
     cases ho:FM.bY rs m0 x 1 with
     |none=>rw[ho]at hy;cases hy
     |some o=>
      rw[ho]at hy;cases hy;exact s2 o ho
    have e3:=wO (bs m0+C) _ _ W7 v1 v2;have sv:=qz (by omega) v1 v2;have es:nR Ls x m0=x.set m0 (FM.gx (FM.fT (FM.bY rs m0 x (-1))) (FM.gq (FM.bY rs m0 x 1))):=by unfold nR;rw[eD]
    have as:=o9 cf BA;have n5:∀o:Option Rat,ET 9 (iE o)=true:=fun o=>by cases o<;>rfl
    generalize FM.fT (FM.bY rs m0 x (-1))=o1 at *;generalize FM.gq (FM.bY rs m0 x 1)=o2 at *;have VJ:l8 (x.map qD).length (m0:Int)=some m0:=by
     unfold L2.l8;rw[if_pos (by omega),if_pos (by rw[length_map];omega),toNat_natCast]
    refine⟨[(4,nat m0)],rfl,?_⟩;dsimp!;refine⟨[some (.a7 (.list (Ls.map cf))),some (.a7 (qD t)),some (.a7 (.int (n:Int))),some (.own ((x.map qD).set m0 (qD (FM.gx o1 o2)))),some (.a7 (nat m0)),some (.a7 (iE o1)),some (.a7 (iE o2))],?_,⟨_,_,_,by rw[es,List.map_set]⟩,?_⟩
    ·rw[ao (ag:=[some (.a7 (.list (Ls.map cf))),some (.a7 (qD t)),some (.a7 (.int (n:Int))),some (.own (x.map qD)),some (.a7 (nat m0)),some (.a7 (iE o1)),x6]) (by dsimp![xB,as,t1,e1,n5])];rw[ao (ag:=[some (.a7 (.list (Ls.map cf))),some (.a7 (qD t)),some (.a7 (.int (n:Int))),some (.own (x.map qD)),some (.a7 (nat m0)),some (.a7 (iE o1)),some (.a7 (iE o2))]) (by dsimp![xB,as,t2,e2,n5])];dsimp![uY,e3,nc,VJ]
    ·obtain⟨C',zo,zk⟩:=hC.set sv (m:=m0) (by omega) (mU m0 (by omega));refine⟨m0,C',rfl,by omega,by rw[es,length_set];exact uf,fun c hc=>?_,by rw[es];exact zk,pZ bs m0 zo hO.2⟩;rw[es,FM.jt (by omega),if_neg (by omega)];exact mU c (by omega)
  ·rintro ag ⟨x4,x5,x6,rfl⟩;rw[B8];have eP:FM.dB Ls n t=(FM.dP Ls n (List.replicate n 0++[t])).take n:=rfl;have hy:=ED Ls n (List.replicate n 0++[t]);rw[qT]at hy;rw[eP];generalize FM.dP Ls n (List.replicate n 0++[t])=y at *;have ec:pQ (.list (y.map qD)) none (some (n:Int))=some (.list ((y.take n).map qD)):=by
    show some (Dat.list (L3.cutD (y.map qD) none (some (n:Int))))=_;rw[xg (by rw[length_map];omega),map_take]
   dsimp![mx,kE,kG,nc,ec,gC]
 ·intro q hq;have h1:=EE hl hst n (s+1) (List.replicate n 0++[t]) (le_refl _) (qT n t) (sj n t) (vc ht) bh;obtain⟨C',zo,zk⟩:=h1;exact(zk.mem q (List.mem_of_mem_take hq)).up (by omega)
abbrev Sz (F:List Dat->Option Dat):Prop:=∀(bs:Nat->Nat) (n M b:Nat) (Ls:List (List FM.Row)) (rows:List FM.Row) (β:Rat),Ls.length=n+1->Ls[n]?=some rows->gS M b rows->1<=b->b<=1900000->(∀i,i<n->1<=bs i/\∃rs,Ls[i]?=some rs/\gS M (bs i) rs)->n+1<M->M<=900->n<=90->SR b β->q5 bs n (b+b+3+1)->
 F [.list (Ls.map cf),qD β]=some (.tuple ((FM.dB Ls n (FM.dX n rows β)).map qD))/\∀q∈FM.dB Ls n (FM.dX n rows β),SR (B9 bs n (b+b+3+1)+1) q
def JI (β:Rat):Option Rat->Rat
 |none=>β
 |some l=>if l<β then β else l
theorem II(T:TX P K mg){Fo:List Dat->Option Dat}(k6:Dn P w K mg base 47 "upper_end" ["stages"] 1 Fu)(hU:zW 1 Fu)(l7:Dn P w K mg base 47 "opposite_end" ["stages"] 1 Fo)(hO:zW (-1) Fo)(j4:Dn P w K mg base 47 "turned_number_of" ["end"] 1 Ft)(hT:So Ft)(p6:Dn P w K mg base 47 "number_of" ["end"] 1 Fn)(hN:SH Fn)(td:Dn P w K mg base 47 "between" ["least","greatest"] 2 Fb)(wO:Tj Fb)(mK:Dn P w K mg base 47 "below" ["a","b"] 2 fB)(GV:Dn P w K mg base 47 "point_of" ["stages","number"] 2 Fp)(hP:Sx Fp)(U:FnAt K mg "point_beyond" (top 35) ["stages","bound"]):
  ∃F,Dn P w K mg base 48 "point_beyond" ["stages","bound"] 2 F/\Sz F:=by
 refine⟨_,cq ["stages","bound","least"] U fun nd _ _ _ _ _ _ _ hr=>
  (ae (aA 2 nd (ay j4 hr (a6 (ay l7 hr (a6 (a5 0) a9)) a9 (hs:=aY))))
  (ae (aN (cE (d9 (d6 (a5 2) cm) (dw (ba (ay mK hr (a6 (a5 2) (a6 (a5 1) a9))))))) (af (aA 2 nd (a5 1))) aJ)
  (af (aq (ay GV hr (a6 (a5 0) (a6 (ay td hr (a6 (a5 2) (a6 (ay p6 hr (a6 (ay k6 hr (a6 (a5 0) a9)) a9 (hs:=aY))) a9 (hs:=aY)))) a9 (hs:=aY)))))))),?_⟩
 intro bs n M b Ls rows β hl hn hR hb VR hst RJ BH rF dh bh;have eu:=hU b n M Ls rows hb hl hn hR (by omega) BH rF (by omega);have eo:=hO b n M Ls rows hb hl hn hR (by omega) BH rF (by omega);have s1:∀t,FM.endOf n rows 1=some t->SR b t.2.1:=fun t h=>(my (.inl rfl) hR h).1;have s2:∀t,FM.endOf n rows (-1)=some t->SR b t.2.1:=fun t h=>(my (.inr rfl) hR h).1;have e1:=hT b (FM.endOf n rows (-1)) (by omega) s2;have e2:=hN (FM.endOf n rows 1);have bT:FM.dX n rows β=FM.gx (some (JI β (FM.fT (FM.endOf n rows (-1))))) (FM.gq (FM.endOf n rows 1)):=by
  unfold FM.dX;cases FM.fT (FM.endOf n rows (-1))<;>rfl
 have v2:∀y,FM.gq (FM.endOf n rows 1)=some y->SR b y:=fun y hy=>by
  cases ho:FM.endOf n rows 1 with
  |none=>rw[ho]at hy;cases hy
  |some o=>
   rw[ho]at hy;cases hy;exact s1 o ho
 have v1:∀y,FM.fT (FM.endOf n rows (-1))=some y->SR b y:=fun y hy=>by
  cases ho:FM.endOf n rows (-1)with
  |none=>rw[ho]at hy;cases hy
  |some o=>
   rw[ho]at hy;cases hy;exact iG (s2 o ho)
 rw[bT];generalize FM.gq (FM.endOf n rows 1)=o2 at *;generalize FM.fT (FM.endOf n rows (-1))=o1 at *;have key:∃l:Rat,SR b l/\JI β o1=l/\∀g,dr (kb (j1 (c9 (L3.f2 jU (aI 2) (fC .none))) (ju (jF 2 fB (aT (aI 2) (aT (aI 1) bW))))) (iB 2 (aI 1)) ij) g [some (.a7 (.list (Ls.map cf))),some (.a7 (qD β)),some (.a7 (iE o1))]=g [some (.a7 (.list (Ls.map cf))),some (.a7 (qD β)),some (.a7 (qD l))]:=by
  cases o1 with
  |none=>exact⟨β,dh,rfl,fun g=>by rw[ao (ag:=[some (.a7 (.list (Ls.map cf))),some (.a7 (qD β)),some (.a7 (qD β))]) (by simp![iE,jj])]⟩
  |some l=>
   have sl:=v1 l rfl;have e3:=lO sl dh (by omega) (by omega);have eq:iE (some l)=qD l:=rfl;rw[eq];by_cases c:l<β
   ·rw[decide_eq_true c]at e3;exact⟨β,dh,if_pos c,fun g=>by rw[ao (ag:=[some (.a7 (.list (Ls.map cf))),some (.a7 (qD β)),some (.a7 (qD β))]) (by simp![u0,e3])]⟩
   ·rw[decide_eq_false c]at e3;exact⟨l,sl,if_neg c,fun g=>by rw[ao (ag:=[some (.a7 (.list (Ls.map cf))),some (.a7 (qD β)),some (.a7 (qD l))]) (by simp![u0,e3])]⟩
 obtain⟨l,sl,el,hg⟩:=key;rw[el];have e3:=wO b (some l) o2 VR (fun x hx=>by cases hx;exact sl) v2;have sb:SR (b+b+3) (FM.gx (some l) o2):=qz (by omega) (fun x hx=>by cases hx;exact sl) v2;obtain⟨e4,e5⟩:=hP bs n M (b+b+3) Ls _ hl hst RJ BH rF sb bh;refine⟨?_,e5⟩;have eq:iE (some l)=qD l:=rfl;rw[eq]at e3;refine bH ?_;simp!;rw[ao (ag:=[some (.a7 (.list (Ls.map cf))),some (.a7 (qD β)),some (.a7 (iE o1))]) (by dsimp![eo,e1])];rw[hg];dsimp![eu,e2,e3,e4]
theorem IH(T:TX P K mg){a4:Addr}(Z4:TC K mg "ZERO_follows" [.int 0,.int 1] a4)(ji:Dn P w K mg base 43 "minus" ["a","b"] 2 eX)(U:FnAt K mg "halves" (top 38) ["line"]):
  ∃F,Dn P w K mg base 44 "halves" ["line"] 1 F/\∀(c:Nat) (o:FM.Ol),c<=4000000->o.2.1.length<=900->(∀q∈o.2.1,SR c q)->SR c o.2.2->F [ar o]=some (.list [ar (.le,o.2.1,o.2.2),ar (.le,o.2.1.map (fun q=>0-q),0-o.2.2)]):=by
 refine⟨_,cq ["line","parts"] U fun nd _ _ _ _ _ _ _ hr=>
  (ae (aA 1 nd (gO T.tuple (a6 (cA (gN rfl (jH (N':=["part"])) (ah (a5 0) a8) (fun _ _ _ _=>(az 0 (show(["part"]:List Str).Nodup by decide +kernel))) (fun _ _ _ _=>d7) (fun _ _ _ _=>(ay ji hr (a6 (c7 Z4.mg Z4.tup) (a6 (a5 0) a9)))) (dA rfl))) a9)))
  (af (aq (ia (a6 (bF (k:=0) (a6 aZ (a6 (ah (a5 0) a8) (a6 (ah (a5 0) a8) a9 (hs:=aE)) (hs:=aE)))) (a6 (bF (k:=0) (a6 aZ (a6 (a5 1) (a6 (ay ji hr (a6 (c7 Z4.mg Z4.tup) (a6 (ah (a5 0) a8) a9 (hs:=aE)))) a9 (hs:=aY))))) a9 (hs:=fD)) (hs:=fD)))))),?_⟩
 intro c o hc hl hq hb;have z3:3<=sizeLine:=sz (by decide);have z2:2<=sizeLine:=sz (by decide);have zl:o.2.1.length<sizeLine:=lt_of_lt_of_le (show o.2.1.length<1000 by omega) (sz (by decide));have o1:bp (ar o) (.int 1)=some (.tuple (o.2.1.map qD)):=rfl;have o2:bp (ar o) (.int 2)=some (qD o.2.2):=rfl;have ec:cc (aName 0) gA (jF 2 eX (aT (fC (.tuple [.int 0,.int 1])) (aT (aI 0) bW))) [none] (o.2.1.map qD)=some ((o.2.1.map fun q=>0-q).map qD):=by
  refine cR _ _ (by rw[length_map,length_map,length_map]) fun n d o' h1 h2=>?_;rw[getElem?_map]at h1 h2;rw[getElem?_map]at h2;cases hz:o.2.1[n]? with
  |none=>rw[hz]at h1;cases h1
  |some q=>
   rw[hz]at h1 h2;cases h1;cases h2;refine⟨[(0,qD q)],rfl,?_⟩;have em:eX [.tuple [.int 0,.int 1],qD q]=some (qD (0-q)):=lN (kN (c:=1) (by decide)) (hq q (mem_of_getElem? hz)) (by decide) hc;simp![em]
 have em:eX [.tuple [.int 0,.int 1],qD o.2.2]=some (qD (0-o.2.2)):=lN (kN (c:=1) (by decide)) hb (by decide) hc;have ks:bQ .le="<=":=rfl;dsimp![o1,o2,gG,length_map,zl,ec,em,gC,z2,z3,ks];rfl
abbrev SV (F:List Dat->Option Dat):Prop:=∀(c:Nat) (s:Bool) (p:List Rat) (β:Rat) (kt:Bool) (v:Rat),c<=4000000->SR c β->SR c v->F [ar (if s=true then .lt else .le,p,β),.str (eh kt),qD v]=some (.bool (FM.fZ s β kt v))
theorem QL(T:TX P K mg)(mK:Dn P w K mg base 43 "below" ["a","b"] 2 fB)(U:FnAt K mg "is_kept" (top 39) ["line","kind","bound"]):
  ∃F,Dn P w K mg base 44 "is_kept" ["line","kind","bound"] 3 F/\SV F:=by
 refine⟨_,cq ["line","kind","bound"] U fun nd _ _ _ _ _ _ _ hr=>
  (ae (aN (cC hr (a5 2) (ah (a5 0) a8)) (af (aq (pY (fE hr (ah (a5 0) a8) aZ) (de (fE hr (a5 1) aZ))))) aJ)
  (af (aq (ay mK hr (a6 (a5 2) (a6 (ah (a5 0) a8) a9 (hs:=aE))))))),?_⟩
 intro c s p β kt v hc dh hv;have e1:=r9 v β;have e2:=lO hv dh hc hc;have o0:bp (ar (if s=true then .lt else .le,p,β)) (.int 0)=some (.str (eh s)):=by cases s<;>rfl
 have o2:bp (ar (if s=true then .lt else .le,p,β)) (.int 2)=some (qD β):=rfl;have k1:cZ (.str (eh s)) (.str "<=")=some (.bool (!s)):=by cases s<;>rfl
 have k2:cZ (.str (eh kt)) (.str "<")=some (.bool kt):=by cases kt<;>rfl
 have eK:FM.fZ s β kt v=if v=β then(!s || kt)else decide (v<β):=rfl;rw[eK];generalize ar (if s=true then .lt else .le,p,β)=dl at *;generalize eh s=a at *;generalize eh kt=c' at *;by_cases c1:v=β
 ·rw[decide_eq_true c1]at e1;rw[if_pos c1];cases s<;>cases kt<;>dsimp![o0,o2,e1,k1,k2]<;>rfl
 ·rw[decide_eq_false c1]at e1;rw[if_neg c1];dsimp![o0,o2,e1,e2]
structure Pc (c e n k:Nat):Prop where
 c1:1<=c
 c3:c<=3000000
 e4:e<=4000000
 n5:n<=50
 k1:k<=100
 bt:FM.bt (c+e) n<=1900000
 cb:FM.cb (k+1) n<sizeLine
 pt:q5 (FM.bt (c+e)) n (FM.bt (c+e) n+FM.bt (c+e) n+3+1)
abbrev kf (h:Bool×List Rat):Dat:=if h.1=true then .tuple [.str "follows",.list (h.2.map qD)]else .tuple [.str "breaks",.tuple (h.2.map qD)]
structure sX (c e:Nat) (p:List Rat) (os:List FM.Ol):Prop where
 sz:Pc c e p.length os.length
 sp:∀q∈p,SR c q
 dp:eO p<2^e
 ok:∀o∈os,vL c e p.length o
theorem tB(h:sX c e p os):∀i,i<=p.length->∃rs,(FM.bB p os)[i]?=some rs/\gS (p.length+2+os.length) (FM.bt (c+e) i) rs:=
 fun i hi=>Ef _ p.length 0 1 (c+e) _ (zz h.sz.c1 h.sp h.dp h.ok) i hi
theorem MK(p:List Rat)(os:List FM.Ol):(FM.bB p os).length=p.length+1:=uZ _ _ _ _ _
abbrev SY (F:List Dat->Option Dat):Prop:=∀(c e:Nat) (s:Bool) (p:List Rat) (β:Rat) (os:List FM.Ol),sX c e p os->SR (FM.bt (c+e) p.length) β->F [ar (if s=true then .lt else .le,p,β),.list (os.map ar)]=some (kf (FM.bb s p β os))
variable {Fs:List Dat->Option Dat}
theorem OX(T:TX P K mg){Fk:List Dat->Option Dat}(DJ:Dn P w K mg base 49 "stages_of" ["parts","others"] 2 Fs)(hS:Ss Fs)(Pq:Dn P w K mg base 49 "never" ["stages"] 1 Fn)(hN:SG Fn)(k6:Dn P w K mg base 49 "upper_end" ["stages"] 1 Fu)(hU:zW 1 Fu)(J3:Dn P w K mg base 49 "is_kept" ["line","kind","bound"] 3 Fk)(hK:SV Fk)(xw:Dn P w K mg base 49 "point_beyond" ["stages","bound"] 2 Fb)(wO:Sz Fb)(U:FnAt K mg "half_follows" (top 40) ["line","others"]):
  ∃F,Dn P w K mg base 50 "half_follows" ["line","others"] 2 F/\SY F:=by
 refine⟨_,cq ["line","others","stages","paper","top"] U fun nd _ _ _ _ _ _ _ hr=>
  (ae (aA 2 nd (ay DJ hr (a6 (ah (a5 0) a8) (a6 (a5 1) a9) (hs:=aE))))
  (ae (aA 3 nd (ay Pq hr (a6 (a5 2) a9)))
  (ae (aN (d6 (a5 3) cm) (ae (aA 4 nd (ay k6 hr (a6 (a5 2) a9)))
  (ae (aN (cE (d9 (d6 (a5 4) cm) (dw (d5 (ba (ay J3 hr (a6 (a5 0) (a6 (ah (a5 4) a8) (a6 (ah (a5 4) a8) a9 (hs:=aE)) (hs:=aE))))))))) (af (aq (bF (k:=0) (a6 aZ (a6 (ay xw hr (a6 (a5 2) (a6 (ah (a5 0) a8) a9 (hs:=aE)))) a9 (hs:=aY)))))) aJ)
  (af (aA 3 nd (ah (a5 4) a8))))) aJ)
  (af (aq (bF (k:=0) (a6 aZ (a6 (a5 3) a9)))))))),?_⟩
 intro c e s p β os hL dh;have z2:2<=sizeLine:=sz (by decide);have S:=hL.sz;have K2:1<=FM.bt (c+e) p.length:=le_trans (show 1<=c+e by have:=S.c1;omega) (FM.oX _ _);have pf:=S.bt;have Vy:=S.n5;have hk1:=S.k1;have eS:=hS c e p os S.c1 S.c3 S.e4 S.n5 S.k1 hL.sp hL.dp hL.ok (by omega) S.cb;obtain⟨rows,mV,fH⟩:=tB hL p.length (le_refl _);have hst:∀i,i<p.length->1<=FM.bt (c+e) i/\∃rs,(FM.bB p os)[i]?=some rs/\gS (p.length+2+os.length) (FM.bt (c+e) i) rs:=fun i hi=>
  ⟨le_trans (show 1<=c+e by have:=S.c1;omega) (FM.oX _ _),tB hL i (Nat.le_of_lt hi)⟩
 have hlen:=MK p os;have eN:=hN _ p.length _ (FM.bB p os) rows K2 hlen mV fH (by omega) (by omega) (by omega) pf;have eU:=hU _ p.length _ (FM.bB p os) rows K2 hlen mV fH (by omega) (by omega) (by omega) (by omega);obtain⟨eB,_⟩:=wO (FM.bt (c+e)) p.length _ _ (FM.bB p os) rows β hlen mV fH K2 pf hst (by omega) (by omega) (by omega) dh S.pt;have uh:FM.aF p os=rows:=by unfold FM.aF;rw[getD_eq_getElem?_getD,mV];rfl
 have hh:FM.bb s p β os=(match FM.never p.length rows with
  |some w=>(true,w)
  |none=>match FM.endOf p.length rows 1 with
   |none=>(false,FM.dB (FM.bB p os) p.length (FM.dX p.length rows β))
   |some t=>if FM.fZ s β t.1 t.2.1=true then(true,t.2.2)else(false,FM.dB (FM.bB p os) p.length (FM.dX p.length rows β))):=by
  unfold FM.bb FM.beyond;cases uh;cases FM.never p.length (FM.aF p os)with
  |some w=>rfl
  |none=>cases FM.endOf p.length (FM.aF p os) 1<;>rfl
 rw[hh];generalize FM.dB (FM.bB p os) p.length (FM.dX p.length rows β)=pt at *;have o1:bp (ar (if s=true then .lt else .le,p,β)) (.int 1)=some (.tuple (p.map qD)):=rfl;have o2:bp (ar (if s=true then .lt else .le,p,β)) (.int 2)=some (qD β):=rfl;have We:∀kt v,SR (FM.bt (c+e) p.length) v->Fk [ar (if s=true then .lt else .le,p,β),.str (eh kt),qD v]=some (.bool (FM.fZ s β kt v)):=fun kt v hv=>hK _ s p β kt v (by omega) dh hv;have sE:∀t,FM.endOf p.length rows 1=some t->SR (FM.bt (c+e) p.length) t.2.1:=fun t h=>(my (.inl rfl) fH h).1;generalize ar (if s=true then .lt else .le,p,β)=dl at *;refine bH ?_;simp!;rw[ao (ag:=[some (.a7 (dl)),some (.a7 (.list (os.map ar))),some (.a7 (.list ((FM.bB p os).map cf))),none,none]) (by dsimp![o1,eS])];rw[ao (ag:=[some (.a7 (dl)),some (.a7 (.list (os.map ar))),some (.a7 (.list ((FM.bB p os).map cf))),some (.a7 (lZ (FM.never p.length rows))),none]) (by dsimp![eN])];cases hnv:FM.never p.length rows with
 |some ws=>
  have e0:lZ (some ws)=.list (ws.map qD):=rfl;have n0:jU (.list (ws.map qD)) .none=some (.bool false):=rfl;rw[e0];rw[ao (ag:=[some (.a7 (dl)),some (.a7 (.list (os.map ar))),some (.a7 (.list ((FM.bB p os).map cf))),some (.a7 (.list (ws.map qD))),none]) (by dsimp![n0])];dsimp![z2];rfl
 |none=>
  have e0:lZ none=.none:=rfl;rw[e0];cases uj:FM.endOf p.length rows 1 with
  |none=>
   rw[uj]at eU;have eb:d4 none=.none:=rfl;rw[eb]at eU;dsimp![jj,eU,o2,eB,z2];rfl
  |some t=>
   rw[uj]at eU;have t0:bp (d4 (some t)) (.int 0)=some (.str (eh t.1)):=rfl;have t1:bp (d4 (some t)) (.int 1)=some (qD t.2.1):=rfl;have t2:bp (d4 (some t)) (.int 2)=some (.list (t.2.2.map qD)):=rfl;have eK:=We t.1 t.2.1 (sE t uj);cases hk:FM.fZ s β t.1 t.2.1 with
   |false=>
    rw[hk]at eK;rw[show(match some t with|none=>(false,pt)|some t=>if FM.fZ s β t.1 t.2.1=true then(true,t.2.2)else(false,pt))=((false,pt):Bool×List Rat) by show(if FM.fZ s β t.1 t.2.1=true then(true,t.2.2)else(false,pt))=_;rw[hk];rfl]
    dsimp![jj,lC,eU,t0,t1,eK,o2,eB,z2];rfl
   |true=>
    rw[hk]at eK;rw[show(match some t with|none=>(false,pt)|some t=>if FM.fZ s β t.1 t.2.1=true then(true,t.2.2)else(false,pt))=((true,t.2.2):Bool×List Rat) by show(if FM.fZ s β t.1 t.2.1=true then(true,t.2.2)else(false,pt))=_;rw[hk];rfl]
    rw[ao (ag:=[some (.a7 (dl)),some (.a7 (.list (os.map ar))),some (.a7 (.list ((FM.bB p os).map cf))),some (.a7 (.list (t.2.2.map qD))),some (.a7 (d4 (some t)))]) (by dsimp![jj,lC,eU,t0,t1,t2,eK])];dsimp![z2];rfl
def BR (k:FM.Kn) (p:List Rat) (β:Rat) (os:List FM.Ol):Dat:=match k with
 | .lt=>kf (FM.bb true p β os)
 | .le=>kf (FM.bb false p β os)
 | .eq=>if(FM.bb false p β os).1=true then(if(FM.bb false (p.map fun q=>0-q) (0-β) os).1=true then .tuple [.str "follows",.tuple [.list ((FM.bb false p β os).2.map qD),.list ((FM.bb false (p.map fun q=>0-q) (0-β) os).2.map qD)]]else kf (FM.bb false (p.map fun q=>0-q) (0-β) os))else kf (FM.bb false p β os)
theorem sX.neg(h:sX c e p os):sX c e (p.map fun q=>0-q) os:=by
 refine⟨by rw[length_map];exact h.sz,fun q hq=>?_,by rw[rf];exact h.dp,by rw[length_map];exact h.ok⟩;obtain⟨x,hx,rfl⟩:=mem_map.mp hq;exact iG (h.sp x hx)
variable {gt:Dat->Option cX} {gb:aD->Option Fl} {d:Dat}
theorem ky{ag:aD}{as:cX}(h1:gt d=some as)(h2:gb (setG Γ as)=some (.nx ag)):forL gt gb (d::ds) Γ=forL gt gb ds ag:=by
 show(gt d).bind _=_;rw[h1];show(gb (setG Γ as)).bind _=_;rw[h2];rfl
theorem BQ{v:Dat}{as:cX}(h1:gt d=some as)(h2:gb (setG Γ as)=some (.rt v)):forL gt gb (d::ds) Γ=some (.rt v):=by
 show(gt d).bind _=_;rw[h1];show(gb (setG Γ as)).bind _=_;rw[h2];rfl
theorem jR{f:aw->Option Dat}(hf:f (bw Γ)=some d)(hi:cW d=some ds):pR gt gb f Γ=forL gt gb ds Γ:=by
 unfold pR;rw[hf];show(cW d).bind _=_;rw[hi];rfl
theorem y8{g1 g2:aD->Option Fl}(h:g1 Γ=some (.rt d)):dr g1 g2 Γ=some (.rt d):=by
 unfold dr;rw[h];rfl
abbrev X1 (F:List Dat->Option Dat):Prop:=∀(c:Nat) (o:FM.Ol),c<=4000000->o.2.1.length<=900->(∀q∈o.2.1,SR c q)->SR c o.2.2->F [ar o]=some (.list [ar (.le,o.2.1,o.2.2),ar (.le,o.2.1.map (fun q=>0-q),0-o.2.2)])
abbrev T2 (F:List Dat->Option Dat):Prop:=∀(c e:Nat) (o:FM.Ol) (os:List FM.Ol),sX c e o.2.1 os->SR (FM.bt (c+e) o.2.1.length) o.2.2->F [ar o,.list (os.map ar)]=some (BR o.1 o.2.1 o.2.2 os)
variable {Fh:List Dat->Option Dat}
theorem Gr(T:TX P K mg){Fv:List Dat->Option Dat}(pC:Dn P w K mg base 50 "half_follows" ["line","others"] 2 Fh)(hH:SY Fh)(Mp:Dn P w K mg base 50 "halves" ["line"] 1 Fv)(hV:X1 Fv)(U:FnAt K mg "follows" (top 41) ["line","others"]):
  ∃F,Dn P w K mg base 51 "follows" ["line","others"] 2 F/\T2 F:=by
 refine⟨_,cq ["line","others","papers","half","verdict"] U fun nd _ _ _ _ _ _ _ hr=>
  (ae (aN (cS hr (ah (a5 0) a8) aZ) (af (aq (ay pC hr (a6 (a5 0) (a6 (a5 1) a9))))) aJ)
  (ae (iC 2 nd (gT a9))
  (ae (du PassesOwn.never rfl (ay Mp hr (a6 (a5 0) a9)) (az 3 nd)
  (ae (aA 4 nd (ay pC hr (a6 (a5 3) (a6 (a5 1) a9))))
  (ae (aN (cC hr (ah (a5 4) a8) aZ) (af (aq (a5 4))) aJ)
  (af (i9 2 (ah (a5 4) a8))))))
  (af (aq (bF (k:=0) (a6 aZ (a6 (gO T.tuple (a6 (a5 2) a9)) a9 (hs:=aY))))))))),?_⟩
 rintro c e ⟨k,p,β⟩ os hL dh;dsimp only at hL dh ⊢;have z2:2<=sizeLine:=sz (by decide);have z0:0<=sizeLine:=zero_le _;have QZ:0<sizeLine:=lt_of_lt_of_le (show 0<1000 by decide) (sz (by decide));have UL:1<sizeLine:=lt_of_lt_of_le (show 1<1000 by decide) (sz (by decide));have S:=hL.sz;have pf:=S.bt;have Vy:=S.n5;have wM:c<=FM.bt (c+e) p.length:=le_trans (le_add_right _ _) (FM.oX _ _);have o0:bp (ar (k,p,β)) (.int 0)=some (.str (bQ k)):=rfl;cases k with
 |lt=>
  have e1:=hH c e true p β os hL dh;have e1:Fh [ar (.lt,p,β),.list (os.map ar)]=some (BR .lt p β os):=e1;have k1:fF (.str (bQ .lt)) (.str "=")=some (.bool true):=rfl;dsimp![o0,k1,e1]
 |le=>
  have e1:=hH c e false p β os hL dh;have e1:Fh [ar (.le,p,β),.list (os.map ar)]=some (BR .le p β os):=e1;have k1:fF (.str (bQ .le)) (.str "=")=some (.bool true):=rfl;dsimp![o0,k1,e1]
 |eq=>
  have e1:=hH c e false p β os hL dh;have e1:Fh [ar (.le,p,β),.list (os.map ar)]=some (kf (FM.bb false p β os)):=e1;have e2:=hH c e false (p.map fun q=>0-q) (0-β) os hL.neg (by rw[length_map];exact iG dh);have e2:Fh [ar (.le,p.map fun q=>0-q,0-β),.list (os.map ar)]=some (kf (FM.bb false (p.map fun q=>0-q) (0-β) os)):=e2;have e3:=hV (FM.bt (c+e) p.length) (.eq,p,β) (by omega) (by show p.length<=900;omega) (fun q hq=>(hL.sp q hq).up wM) dh;have e3:Fv [ar (.eq,p,β)]=some (.list [ar (.le,p,β),ar (.le,p.map fun q=>0-q,0-β)]):=e3;have k1:fF (.str (bQ .eq)) (.str "=")=some (.bool false):=rfl;have eF:BR .eq p β os=if(FM.bb false p β os).1=true then(if(FM.bb false (p.map fun q=>0-q) (0-β) os).1=true then .tuple [.str "follows",.tuple [.list ((FM.bb false p β os).2.map qD),.list ((FM.bb false (p.map fun q=>0-q) (0-β) os).2.map qD)]]else kf (FM.bb false (p.map fun q=>0-q) (0-β) os))else kf (FM.bb false p β os):=rfl;rw[eF];generalize FM.bb false p β os=h1 at *;generalize FM.bb false (p.map fun q=>0-q) (0-β) os=h2 at *;generalize ar (.le,p,β)=d1 at *;generalize ar (.le,p.map fun q=>0-q,0-β)=d2 at *;generalize ar (.eq,p,β)=dl at *;have kB:cZ (.str "breaks") (.str "breaks")=some (.bool true):=rfl;have kF:cZ (.str "follows") (.str "breaks")=some (.bool false):=rfl;refine bH ?_;simp!;rw[ao (ag:=[some (.a7 (dl)),some (.a7 (.list (os.map ar))),none,none,none]) (by dsimp![o0,k1])];rw[ao (ag:=[some (.a7 (dl)),some (.a7 (.list (os.map ar))),some (.own ([])),none,none]) (by dsimp![z0])];have hi:cW (.list [d1,d2])=some [d1,d2]:=rfl;have it:∀x:Bool×List Rat,x.1=true->kf x=.tuple [.str "follows",.list (x.2.map qD)]:=fun x h=>if_pos h;have JP:∀x:Bool×List Rat,¬x.1=true->kf x=.tuple [.str "breaks",.tuple (x.2.map qD)]:=fun x h=>if_neg h;have a0:∀(s:Str) (d:Dat),bp (.tuple [.str s,d]) (.int 0)=some (.str s):=fun _ _=>rfl;have a1:∀(s:Str) (d:Dat),bp (.tuple [.str s,d]) (.int 1)=some d:=fun _ _=>rfl;by_cases c1:h1.1=true
  ·rw[if_pos c1];rw[it h1 c1]at e1;by_cases c2:h2.1=true
   ·rw[if_pos c2];rw[it h2 c2]at e2;rw[ao (ag:=[some (.a7 (dl)),some (.a7 (.list (os.map ar))),some (.own ([.list (h1.2.map qD),.list (h2.2.map qD)])),some (.a7 (d2)),some (.a7 (.tuple [.str "follows",.list (h2.2.map qD)]))]) (by
     rw[jR (d:=.list [d1,d2]) (by dsimp![e3]) hi];rw[ky (as:=[(3,d1)]) (ag:=[some (.a7 (dl)),some (.a7 (.list (os.map ar))),some (.own ([.list (h1.2.map qD)])),some (.a7 (d1)),some (.a7 (.tuple [.str "follows",.list (h1.2.map qD)]))]) rfl (by dsimp![e1,a0,a1,kF,QZ])];rw[ky (as:=[(3,d2)]) (ag:=[some (.a7 (dl)),some (.a7 (.list (os.map ar))),some (.own ([.list (h1.2.map qD),.list (h2.2.map qD)])),some (.a7 (d2)),some (.a7 (.tuple [.str "follows",.list (h2.2.map qD)]))]) rfl (by dsimp![e2,a0,a1,kF,UL])];rfl)]
    dsimp![gC,z2]
   ·rw[if_neg c2];have e2':=e2;rw[JP h2 c2]at e2;rw[JP h2 c2];refine y8 ?_;rw[jR (d:=.list [d1,d2]) (by dsimp![e3]) hi];rw[ky (as:=[(3,d1)]) (ag:=[some (.a7 (dl)),some (.a7 (.list (os.map ar))),some (.own ([.list (h1.2.map qD)])),some (.a7 (d1)),some (.a7 (.tuple [.str "follows",.list (h1.2.map qD)]))]) rfl (by dsimp![e1,a0,a1,kF,QZ])];rw[BQ (as:=[(3,d2)]) (v:=.tuple [.str "breaks",.tuple (h2.2.map qD)]) rfl (by dsimp![e2,a0,a1,kB])]
  ·rw[if_neg c1];rw[JP h1 c1]at e1;rw[JP h1 c1];refine y8 ?_;rw[jR (d:=.list [d1,d2]) (by dsimp![e3]) hi];rw[BQ (as:=[(3,d1)]) (v:=.tuple [.str "breaks",.tuple (h1.2.map qD)]) rfl (by dsimp![e1,a0,a1,kB])]
theorem IC(T:TX P K mg)(jL:Dn P w K mg base 41 "_law_make" ["n","d"] 2 jK)(U:FnAt K mg "_law_times" (top 48) ["a","b"]):Dn P w K mg base 42 "_law_times" ["a","b"] 2 jJ:=by
 obtain⟨f,fd,U,hm,hB⟩:=U.ex;have nd:(["a","b"]:List Str).Nodup:=by decide +kernel
 refine hZ U hm hB (N:=["a","b"]) ⟨rfl,rfl,rfl,by decide +kernel,rfl,by decide +kernel,by decide +kernel⟩ rfl (fun bA A outer s H E hr=>
  (af (aq (ay jL hr (a6 (bJ (ah (a5 0) a8) (ah (a5 1) a8)) (a6 (bJ (ah (a5 0) a8) (ah (a5 1) a8)) a9 (hs:=cP)) (hs:=cP)))))) ?_
 intro ds d hl hF;obtain⟨p,q,r,s,rfl,g1,g2,e⟩:=fz hF;have z:=mul_pos g1.pos g2.pos;cases e;simp![kX,kW,mulM g1.mp g2.mp,mulM g1.mq g2.mq,me z (g1.mq.mul g2.mq)]
theorem IF(T:TX P K mg)(U:FnAt K mg "_law_below" (top 49) ["a","b"]):Dn P w K mg base 41 "_law_below" ["a","b"] 2 fB:=by
 obtain⟨f,fd,U,hm,hB⟩:=U.ex;have nd:(["a","b"]:List Str).Nodup:=by decide +kernel
 refine hZ U hm hB (N:=["a","b"]) ⟨rfl,rfl,rfl,by decide +kernel,rfl,by decide +kernel,by decide +kernel⟩ rfl (fun bA A outer s H E hr=>
  (af (aq (tQ (bJ (ah (a5 0) a8) (ah (a5 1) a8)) (bJ (ah (a5 1) a8) (ah (a5 0) a8)))))) ?_
 intro ds d hl hF;obtain⟨p,q,r,s,rfl,g1,g2,e⟩:=fz hF;cases e;simp![kX,kW,mulM g1.mp g2.mq,mulM g2.mp g1.mq,cL]
abbrev uJ:=FM.Ol×Rat
abbrev N9 (p:uJ):Dat:=.tuple [ar p.1,qD p.2]
theorem uR:∀(os:List FM.Ol) (ws:List Rat),dm (os.map ar) (ws.map qD)=(os.zip ws).map N9
 |[],ws=>by simp[dm]
 |x::xs,[]=>by simp[dm]
 |x::xs,y::ys=>by simp only[map_cons,dm,zip_cons_cons,uR xs ys]
def dN (a:List Rat) (p:uJ):List Rat:=zipWith (fun x q=>x+p.2*q) a (p.1.2.1++[p.1.2.2])
def j5 (n:Nat) (l:List uJ):List Rat:=l.foldl dN (List.replicate (n+1) 0)
structure uH (D:Int) (u c j n:Nat) (a:List Rat):Prop where
 len:a.length=n+1
 nd:∀x∈a,∃N E:Int,E≠0/\N.natAbs<2^(u+(c+1)*(j+1))/\E.natAbs<=2^(c*j)/\x=(N:Rat)/((D*E:Int):Rat)
abbrev uD (D:Int) (u:Nat) (w:Rat):Prop:=∃W:Int,W.natAbs<2^u/\w=(W:Rat)/(D:Rat)
abbrev rO (c n:Nat) (o:FM.Ol):Prop:=o.2.1.length=n/\(∀q∈o.2.1,SR c q)/\SR c o.2.2
variable {o:FM.Ol}
theorem Bu(h:rO c n o):∀q∈o.2.1++[o.2.2],SR c q:=fun q hq=>by
 rcases mem_append.mp hq with h'|h'
 ·exact h.2.1 q h'
 ·rw[mem_singleton.mp h'];exact h.2.2
theorem Ek(q:Rat):q=(q.num:Rat)/((q.den:Int):Rat):=by
 have:((q.den:Int):Rat)=(q.den:Rat):=rfl;rw[this,<- Rat.mkRat_eq_div,mkRat_self]
variable {D:Int} {a:List Rat}
theorem AM{w:Rat}(hD:D≠0)(h:uH D u c j n a)(ho:rO c n o)(hw:uD D u w):uH D u c (j+1) n (dN a (o,w)):=by
 refine⟨?_,fun x hx=>?_⟩
 ·unfold dN;rw[length_zipWith,h.len,length_append,ho.1];exact min_self _
 ·obtain⟨y,hy,q,hq,rfl⟩:=ja (show x∈zipWith (fun x q=>x+w*q) a (o.2.1++[o.2.2])from hx);obtain⟨N,E,hE,hN,K7,rfl⟩:=h.nd y hy;obtain⟨W,hW,rfl⟩:=hw;have sq:=Bu ho q hq;have yp:=rK q;refine⟨N*(q.den:Int)+W*q.num*E,E*(q.den:Int),mul_ne_zero hE yp,?_,?_,?_⟩
  ·have h1:(N*(q.den:Int)).natAbs<2^(u+(c+1)*(j+1)+c):=cI hN sq.dn;have h2:(W*q.num*E).natAbs<2^(u+(c+1)*(j+1)+c):=by
    have h3:=cI hW sq.ln;rw[natAbs_mul];have p:=pow_pos (n:=c*j) (show 0<2 by decide);have h4:=lt_of_le_of_lt (mul_le_mul_left _ K7) (Nat.mul_lt_mul_of_pos_right h3 p);rw[<- pow_add]at h4;refine dI h4 ?_;rw[Nat.add_mul,one_mul,mul_add];omega
   have:=qB h1 h2;rw[show u+(c+1)*(j+1+1)=u+(c+1)*(j+1)+c+1 by rw[mul_add (c+1) (j+1) 1];omega];exact this
  ·rw[natAbs_mul,mul_add c j 1,mul_one,pow_add];exact mul_le_mul K7 (Nat.le_of_lt sq.dn)
  ·have d1:((D:Int):Rat)≠0:=fun z=>hD (FM.bK.mp z);have d2:(((q.den:Int)):Rat)≠0:=fun z=>yp (FM.bK.mp z);have d3:((E:Int):Rat)≠0:=fun z=>hE (FM.bK.mp z);have e1:=Ek q;rw[Rat.intCast_add,intCast_mul,intCast_mul,intCast_mul,intCast_mul,intCast_mul,intCast_mul];conv=>lhs;rw[e1]
   generalize ((q.den:Int):Rat)=dd at *;generalize (q.num:Rat)=nn at *;grind
theorem AL:uH D u c 0 n (List.replicate (n+1) 0):=by
 refine⟨length_replicate,fun x hx=>⟨0,1,by decide,pow_pos (by decide),pow_pos (by decide),?_⟩⟩;rw[(mem_replicate.mp hx).2];have:((0:Int):Rat)=0:=rfl;rw[this];grind
variable {d:Nat}
theorem Je(hD:D≠0)(hd:D.natAbs<=2^d)(h:uH D u c j n a):∀x∈a,SR (u+d+(c+1)*(j+1)) x:=fun x hx=>by
 obtain⟨N,E,hE,hN,K7,rfl⟩:=h.nd x hx;refine lF (mul_ne_zero hD hE) (dI hN (by omega)) ?_;rw[natAbs_mul];have:=mul_le_mul hd K7;rw[<- pow_add]at this;refine lt_of_le_of_lt this (Nat.pow_lt_pow_right (by decide) ?_);rw[Nat.add_mul,one_mul,mul_add];omega
theorem J8{w:Rat}(hD:D≠0)(hd:D.natAbs<=2^d)(h:uD D u w):SR (u+d+1) w:=by
 obtain⟨W,hW,rfl⟩:=h;exact lF hD (dI hW (by omega)) (lt_of_le_of_lt hd (Nat.pow_lt_pow_right (by decide) (by omega)))
theorem xS{D:Int}{u c n:Nat}(hD:D≠0):∀(l:List uJ) (j:Nat) (a:List Rat),(∀p∈l,rO c n p.1/\uD D u p.2)->uH D u c j n a->uH D u c (j+l.length) n (l.foldl dN a)
 |[],j,a,_,h=>h
 |p::l,j,a,hp,h=>by
  rw[foldl_cons,length_cons,show j+(l.length+1)=j+1+l.length by omega];exact xS hD l (j+1) _ (fun q hq=>hp q (mem_cons_of_mem _ hq)) (AM hD h (hp p mem_cons_self).1 (hp p mem_cons_self).2)
theorem zU{x:Rat}(h:xs[i]?=some x):bp (.list (xs.map qD)) (.int (0+(i:Int)))=some (qD x):=by
 rw[Int.zero_add];exact o9 qD h
theorem xN{α β γ:Type}{f:α->β->γ}:∀{xs:List α} {ys:List β} {i:Nat} {z:γ},(zipWith f xs ys)[i]?=some z->∃x y,xs[i]?=some x/\ys[i]?=some y/\z=f x y
 |[],ys,i,z,h=>by simp at h
 |x::xs,[],i,z,h=>by simp at h
 |x::xs,y::ys,0,z,h=>by simp at h;exact⟨x,y,rfl,rfl,h.symm⟩
 |x::xs,y::ys,i+1,z,h=>by
  obtain⟨a,b,h1,h2,h3⟩:=xN (xs:=xs) (ys:=ys) (i:=i) (by simpa using h);exact⟨a,b,by simpa using h1,by simpa using h2,h3⟩
theorem KZ(n:Nat)(h:n<=1000):jS [.int ((n:Int)+1)]=some (gm 0 (n+1)):=by
 have e:((n:Int)+1).toNat=n+1:=by omega
 rw[MV _ (by omega) (by omega),e]
variable {fi:aw->Option (List Dat)} {out:List Dat}
theorem wV{aX:List (Option Nat)}{ft:aw->Option Bool}{fe:aw->Option Dat}{ρ:aw}(h:fi ρ=some ds)(hl:ds.length<sizeLine)(hc:cc gt ft fe (fJ aX ρ) ds=some out):fL (gG aX gt ft fe fi) ρ=some (.list out):=by
 unfold fL gG;rw[h,Option.bind_some,if_pos hl,hc];rfl
structure xp (D:Int) (u d c n:Nat) (os:List FM.Ol) (ws:List Rat):Prop where
 D0:D≠0
 Dd:D.natAbs<=2^d
 ol:∀o∈os,rO c n o
 wt:∀w∈ws,uD D u w
 sz:u+d+(c+1)*(os.length+1)<=3900000
 n1:n<=100
abbrev Sq (F:List Dat->Option Dat):Prop:=∀(D:Int) (u d c n:Nat) (os:List FM.Ol) (ws:List Rat),xp D u d c n os ws->F [.list (os.map ar),.list (ws.map qD),.int (n:Int)]=some (.tuple [.tuple (((j5 n (os.zip ws)).take n).map qD),qD ((j5 n (os.zip ws)).getD n 0)])
theorem OR(T:TX P K mg)(oj:Dn P w K mg base 42 "_law_plus" ["a","b"] 2 jh)(sY:Dn P w K mg base 42 "_law_times" ["a","b"] 2 jJ)(U:FnAt K mg "_law_together" (top 54) ["others","weights","many"]):
  ∃F,Dn P w K mg base 43 "_law_together" ["others","weights","many"] 3 F/\Sq F:=by
 refine⟨_,cq ["others","weights","many","sums","other","weight","numbers"] U fun nd _ _ _ _ _ _ _ hr=>
  (ae (aA 3 nd (cA (jT rfl (jH (N':=["k"])) (j8 T.range (a6 (dg (a5 2) a8) a9 (hs:=cP))) (fun _ _ _ _=>(az 0 (show(["k"]:List Str).Nodup by decide +kernel))) (fun _ _ _ _=>d7) (fun _ _ _ _=>(bF (k:=0) (a6 a8 (a6 a8 a9)))) (dA rfl))))
  (ae (jA PassesOwn.never rfl (lW T.zip (a6 (a5 0) (a6 (a5 1) a9))) (dS (n:=2) rfl (bf (az 4 nd) (bf (az 5 nd) d8)))
  (ae (aA 6 nd (kv (cA (mR T.list (a6 (ah (a5 4) a8) a9 (hs:=aE)))) (ia (a6 (ah (a5 4) a8) a9 (hs:=aE)))))
  (af (aA 3 nd (cA (jT rfl (fA (tn:=["k"]) (fv:=["weight","sums","numbers"]) (js:=[5,3,6]) rfl (by decide +kernel) (by decide +kernel) rfl (by decide +kernel) (by decide +kernel) rfl
   (fun x hx=>by((have fO:x="weight"\/x="sums"\/x="numbers":=(by simpa using hx));(rcases fO with rfl|rfl|rfl<;>exact⟨_,rfl⟩)))
   (fun p hp=>by((have g9:p=(("weight" : Str),(5:Nat))\/p=(("sums" : Str),(3:Nat))\/p=(("numbers" : Str),(6:Nat)):=(by simpa using hp));(rcases g9 with rfl|rfl|rfl<;>exact⟨rfl,.inr (.inl rfl),.inl rfl,fun z=>by cases z⟩)))) (j8 T.range (a6 (dg (a5 2) a8) a9 (hs:=cP))) (fun _ _ _ _=>(az 0 (show(["k","weight","sums","numbers"]:List Str).Nodup by decide +kernel))) (fun _ _ _ _=>d7) (fun _ _ _ _=>(ay oj hr (a6 (ah (a5 2) (a5 0)) (a6 (ay sY hr (a6 (a5 1) (a6 (ah (a5 3) (a5 0)) a9 (hs:=aE)))) a9 (hs:=aY)) (hs:=aE)))) (dA rfl)))))))
  (af (aq (bF (k:=0) (a6 (gO T.tuple (a6 (fc (a5 3) fW (fV (a5 2))) a9 (hs:=aE))) (a6 (ah (a5 3) (a5 2)) a9 (hs:=aE)) (hs:=aY))))))),?_⟩
 intro D u d c m os ws hI;have hm100:=hI.n1;have z2:2<=sizeLine:=sz (by decide);have z1:1<=sizeLine:=sz (by decide);have zm:m+1<sizeLine:=lt_of_lt_of_le (show m+1<1000 by omega) (sz (by decide));have zc:m+1<=sizeLine:=Nat.le_of_lt zm;have eR:=KZ m (by omega);have Sf:cc (aName 0) gA (l5 (aT (fC (.int 0)) (aT (fC (.int 1)) bW))) [none] (gm 0 (m+1))=some ((List.replicate (m+1) (0:Rat)).map qD):=by
  refine cR _ _ (by rw[i8,length_map,length_replicate]) fun i d o h1 h2=>⟨[(0,d)],rfl,?_⟩;have:o=qD 0:=by
   obtain⟨x,hx,rfl⟩:=mem_map.mp (mem_of_getElem? h2);rw[(mem_replicate.mp hx).2]
  rw[this,q0];simp![z2]
 have JR:∀p∈os.zip ws,rO c m p.1/\uD D u p.2:=fun p hp=>⟨hI.ol p.1 (of_mem_zip hp).1,hI.wt p.2 (of_mem_zip hp).2⟩;have Vi:(os.zip ws).length<=os.length:=by rw[length_zip];exact Nat.min_le_left _ _
 have hsz:=hI.sz;refine bH ?_;simp!;generalize RC:(List.replicate (m+1) (0:Rat))=a0 at Sf;have RX:uH D u c 0 m a0:=by rw[<- RC];exact AL
 rw[ao (ag:=[some (.a7 (.list (os.map ar))),some (.a7 (.list (ws.map qD))),some (.a7 (.int (m:Int))),some (.a7 (.list (a0.map qD))),none,none,none]) (lH (wV (mj (as:=[.int ((m:Int)+1)]) (by simp![bP]) eR) (by rw[i8];exact zm) Sf))];refine fU (I:=_) (kS (l:=os.zip ws) (s:=a0) N9 (fun(a:List Rat) Γ=>∃x4 x5 x6,Γ=[some (.a7 (.list (os.map ar))),some (.a7 (.list (ws.map qD))),some (.a7 (.int (m:Int))),some (.a7 (.list (a.map qD))),x4,x5,x6])
   (fun(a:List Rat) l=>∃j,uH D u c j m a/\j+l.length<=os.length/\∀p∈l,rO c m p.1/\uD D u p.2) dN (by rw[<- uR];rfl) ⟨0,RX,by omega,JR⟩ ⟨none,none,none,rfl⟩ ?_) ?_
 ·rintro a ⟨o,x⟩ l Γ ⟨j,hA,VI,ip⟩ ⟨x4,x5,x6,rfl⟩;rw[length_cons]at VI;obtain⟨ho,hx⟩:=ip (o,x) mem_cons_self;dsimp only at ho hx;have hS:=AM hI.D0 hA ho hx;have VA:(c+1)*(j+1)<=(c+1)*os.length:=mul_le_mul_left _ (by omega);have hmm:(c+1)*(os.length+1)=(c+1)*os.length+(c+1):=by rw[mul_add,mul_one]
  have hmo:(c+1)<=(c+1)*os.length:=Nat.le_mul_of_pos_right _ (by omega);refine⟨[(4,ar o),(5,qD x)],rfl,?_⟩;dsimp!;have Uz:qA (.list (o.2.1.map qD)) (.list [qD o.2.2])=some (.list ((o.2.1++[o.2.2]).map qD)):=uA o.2.1 [o.2.2] (by rw[ho.1];show m+1<=1000;omega);have QD:qY [.tuple (o.2.1.map qD)]=some (o.2.1.map qD):=rfl;have o1:bp (ar o) (.int 1)=some (.tuple (o.2.1.map qD)):=rfl;have o2:bp (ar o) (.int 2)=some (qD o.2.2):=rfl;have ec:cc (aName 0) gA (jF 2 jh (aT (L3.f2 bp (aI 2) (aI 0)) (aT (jF 2 jJ (aT (aI 1) (aT (L3.f2 bp (aI 3) (aI 0)) bW))) bW))) [none,some (qD x),some (.list (a.map qD)),some (.list ((o.2.1++[o.2.2]).map qD))] (gm 0 (m+1))=some ((dN a (o,x)).map qD):=by
   refine cR _ _ (by rw[i8,length_map,hS.len]) fun i d' o' h1 h2=>?_;obtain⟨hi,rfl⟩:=sd h1;refine⟨[(0,.int (0+(i:Int)))],rfl,?_⟩;rw[getElem?_map]at h2;cases hz:(dN a (o,x))[i]? with
   |none=>rw[hz]at h2;cases h2
   |some z=>
    rw[hz]at h2;cases h2;obtain⟨p,q,g1,g2,rfl⟩:=xN (show(zipWith (fun y q=>y+x*q) a (o.2.1++[o.2.2]))[i]?=some z from hz);have sp:=Je hI.D0 hI.Dd hA p (mem_of_getElem? g1);have sq:=Bu ho q (mem_of_getElem? g2);have sx:=J8 hI.D0 hI.Dd hx;have a1:=zU g1;have a2:=zU g2;have e1:=vJ sx sq (by omega) (by omega);have e2:=mF sp (sx.mul sq) (by omega) (by omega);dsimp![a1,a2,e1,e2]
  rw[ao (ag:=[some (.a7 (.list (os.map ar))),some (.a7 (.list (ws.map qD))),some (.a7 (.int (m:Int))),some (.a7 (.list (a.map qD))),some (.a7 (ar o)),some (.a7 (qD x)),some (.a7 (.list ((o.2.1++[o.2.2]).map qD)))]) (by dsimp![o1,o2,QD,z1,Uz])];refine⟨[some (.a7 (.list (os.map ar))),some (.a7 (.list (ws.map qD))),some (.a7 (.int (m:Int))),some (.a7 (.list ((dN a (o,x)).map qD))),some (.a7 (ar o)),some (.a7 (qD x)),some (.a7 (.list ((o.2.1++[o.2.2]).map qD)))],?_,⟨_,_,_,rfl⟩,j+1,hS,by omega,fun p hp=>ip p (mem_cons_of_mem _ hp)⟩;exact lH (wV (mj (as:=[.int ((m:Int)+1)]) (by simp![bP]) eR) (by rw[i8];exact zm) ec)
 ·rintro ag ⟨x4,x5,x6,rfl⟩;have eT:(os.zip ws).foldl dN a0=j5 m (os.zip ws):=by unfold j5;rw[RC]
  have hT:=xS hI.D0 (os.zip ws) 0 a0 JR RX;rw[eT]at hT ⊢;generalize j5 m (os.zip ws)=y at *;have hyl:=hT.len;have ec:pQ (.list (y.map qD)) none (some (m:Int))=some (.list ((y.take m).map qD)):=by
   show some (Dat.list (L3.cutD (y.map qD) none (some (m:Int))))=_;rw[xg (by rw[length_map];omega),map_take]
  have ei:bp (.list (y.map qD)) (.int (m:Int))=some (qD (y.getD m 0)):=o9 qD (by rw[getD_eq_getElem?_getD,getElem?_eq_getElem (by omega)];rfl);dsimp![mx,kE,kG,nc,ec,ei,gC,z2]
abbrev Jw (q:Rat):Int×Int:=(q.num,(q.den:Int))
abbrev bI (xs:List Rat):Dat:=.tuple (xs.map qD)
theorem Em(xs:List Rat):bI xs=nF (xs.map Jw):=by
 show Dat.tuple (xs.map qD)=Dat.tuple ((xs.map Jw).map jE);rw[map_map];rfl
theorem Lf:xs.map Jw=ys.map Jw↔xs=ys:=by
 constructor
 ·intro h;induction xs generalizing ys with
  |nil=>cases ys with|nil=>rfl|cons y ys=>cases h
  |cons x xs ih=>
   cases ys with
   |nil=>cases h
   |cons y ys=>
    rw[map_cons,map_cons]at h;obtain⟨h1,h2⟩:=List.cons.inj h;rw[CD.mp h1,ih h2]
 ·intro h;rw[h]
theorem Kg(xs ys:List Rat):cZ (bI xs) (bI ys)=some (.bool (decide (xs=ys))):=by
 rw[Em,Em,LK];congr 2
 exact decide_eq_decide.mpr Lf
def Ds (p:uJ):Prop:=p.1.1≠.eq/\p.2<0
def w4 (s:Bool) (p:uJ):Bool:=s || (decide (p.1.1=.lt)&&decide (0<p.2))
def tM (s:Bool) (p:List Rat) (β:Rat) (l:List uJ):Bool:=open Classical in if ∃q∈l,Ds q then false else
 (decide ((j5 p.length l).take p.length=p)&&(decide ((j5 p.length l).getD p.length 0<β) || (decide ((j5 p.length l).getD p.length 0=β)&&(!s || l.foldl w4 false)))) || (decide ((j5 p.length l).take p.length=List.replicate p.length 0)&&(decide ((j5 p.length l).getD p.length 0<0) || (decide ((j5 p.length l).getD p.length 0=0)&&l.foldl w4 false)))
theorem ve(q:Rat):q.num<0↔q<0:=by
 have:=Fr.yf q 0;have e1:(0:Rat).num=0:=rfl;have e2:((0:Rat).den:Int)=1:=rfl;rw[e1,e2,Int.mul_one,Int.zero_mul]at this;exact this.symm
theorem Lw(q:Rat):0<q.num↔0<q:=by
 have:=Fr.yf 0 q;have e1:(0:Rat).num=0:=rfl;have e2:((0:Rat).den:Int)=1:=rfl;rw[e1,e2,Int.mul_one,Int.zero_mul]at this;exact this.symm
theorem HG(q:Rat):q.num=0↔q=0:=Rat.num_eq_zero
theorem wq(q:Rat):bp (qD q) (.int 0)=some (.int q.num):=rfl
theorem N4(q:Rat):bp (qD q) (.int 1)=some (.int (q.den:Int)):=rfl
abbrev Su (F:List Dat->Option Dat):Prop:=∀(D:Int) (u d c:Nat) (s:Bool) (p:List Rat) (β:Rat) (os:List FM.Ol) (ws:List Rat),xp D u d c p.length os ws->SR 3900000 β->F [.str (eh s),bI p,qD β,.list (os.map ar),.list (ws.map qD)]=some (.bool (tM s p β (os.zip ws)))
theorem ID(T:TX P K mg)(AD:Dn P w K mg base 43 "_law_together" ["others","weights","many"] 3 Ft)(Om:Sq Ft)(t6:Dn P w K mg base 43 "_law_below" ["a","b"] 2 fB)(U:FnAt K mg "_law_right" (top 55) ["kind","parts","bound","others","weights"]):
  ∃F,Dn P w K mg base 44 "_law_right" ["kind","parts","bound","others","weights"] 5 F/\Su F:=by
 refine⟨_,cq ["kind","parts","bound","others","weights","strict","other","weight","found","sum_of","less","nought"] U fun nd _ _ _ _ _ _ _ hr=>
  (ae (aA 5 nd cN)
  (ae (jA PassesOwn.never rfl (lW T.zip (a6 (a5 3) (a6 (a5 4) a9))) (dS (n:=2) rfl (bf (az 6 nd) (bf (az 7 nd) d8)))
  (ae (aN (cE (gn (cS hr (ah (a5 6) a8) aZ) (fm (nO (ah (a5 7) a8) a8)))) (af (aq cN)) aJ)
  (af (aA 5 nd (pY (a5 5) (de (eJ (fE hr (ah (a5 6) a8) aZ) (de (Er (ah (a5 7) a8) a8)))))))))
  (ae (sf (ay AD hr (a6 (a5 3) (a6 (a5 4) (a6 (cy T.len (a6 (a5 1) a9)) a9 (hs:=aY))))) (dS (n:=2) rfl (bf (az 8 nd) (bf (az 9 nd) d8))))
  (ae (aA 10 nd (ay t6 hr (a6 (a5 9) (a6 (a5 2) a9))))
  (ae (aN (cE (gn (cC hr (a5 8) (a5 1)) (fm (cE (d9 (ba (a5 10)) (dw (cE (gn (cC hr (a5 9) (a5 2)) (fm (cE (d9 (cC hr (a5 0) aZ) (dw (ba (a5 5)))))))))))))) (af (aq cN)) aJ)
  (ae (aA 11 nd (gO T.tuple (a6 (cA (gN rfl (jH (N':=["part"])) (a5 1) (fun _ _ _ _=>(az 0 (show(["part"]:List Str).Nodup by decide +kernel))) (fun _ _ _ _=>d7) (fun _ _ _ _=>(bF (k:=0) (a6 a8 (a6 a8 a9)))) (dA rfl))) a9)))
  (af (aq (eJ (fE hr (a5 8) (a5 11)) (de (pY (tQ (ah (a5 9) a8) a8) (de (eJ (fE hr (ah (a5 9) a8) a8) (de (a5 5))))))))))))))),?_⟩
 intro D u d c s p β os ws hI dh;have z2:2<=sizeLine:=sz (by decide);have hn1:=hI.n1;have zl:p.length<sizeLine:=lt_of_lt_of_le (show p.length<1000 by omega) (sz (by decide));have e2:=Om D u d c p.length os ws hI;have JR:∀q∈os.zip ws,rO c p.length q.1/\uD D u q.2:=fun q hq=>⟨hI.ol q.1 (of_mem_zip hq).1,hI.wt q.2 (of_mem_zip hq).2⟩;have hT:=xS hI.D0 (os.zip ws) 0 _ JR (AL (n:=p.length));have hT:uH D u c (0+(os.zip ws).length) p.length (j5 p.length (os.zip ws)):=hT;have Vi:(os.zip ws).length<=os.length:=by rw[length_zip];exact Nat.min_le_left _ _
 have hsz:=hI.sz;have VA:(c+1)*((os.zip ws).length+1)<=(c+1)*(os.length+1):=mul_le_mul_left _ (by omega);have VZ:SR 3900000 ((j5 p.length (os.zip ws)).getD p.length 0):=by
  have hl:=hT.len;refine(Je hI.D0 hI.Dd hT _ ?_).up (by rw[zero_add];omega);rw[getD_eq_getElem?_getD,getElem?_eq_getElem (by omega)];exact List.getElem_mem _
 have lp:ib [bI p]=some (.int p.length):=by show some (Dat.int ((p.map qD).length:Nat))=_;rw[length_map]
 have k1:cZ (.str (eh s)) (.str "<=")=some (.bool (!s)):=by cases s<;>rfl
 refine bH ?_;simp!;rw[ao (ag:=[some (.a7 (.str (eh s))),some (.a7 (bI p)),some (.a7 (qD β)),some (.a7 (.list (os.map ar))),some (.a7 (.list (ws.map qD))),some (.a7 (.bool false)),none,none,none,none,none,none]) (by simp![])];refine KS (Im (l:=os.zip ws) (s:=false) (r:=.bool false) N9 (fun(t:Bool) Γ=>∃x6 x7,Γ=[some (.a7 (.str (eh s))),some (.a7 (bI p)),some (.a7 (qD β)),some (.a7 (.list (os.map ar))),some (.a7 (.list (ws.map qD))),some (.a7 (.bool t)),x6,x7,none,none,none,none]) w4 Ds (by rw[<- uR];rfl) ⟨none,none,rfl⟩ ?_ ?_) ?_ ?_
 ·rintro t ⟨o,x⟩ Γ vn ⟨x6,x7,rfl⟩;refine⟨[(6,ar o),(7,qD x)],rfl,?_⟩;dsimp!;have o0:bp (ar o) (.int 0)=some (.str (bQ o.1)):=rfl;refine⟨[some (.a7 (.str (eh s))),some (.a7 (bI p)),some (.a7 (qD β)),some (.a7 (.list (os.map ar))),some (.a7 (.list (ws.map qD))),some (.a7 (.bool (w4 t (o,x)))),some (.a7 (ar o)),some (.a7 (qD x)),none,none,none,none],?_,_,_,rfl⟩;rw[ao (ag:=[some (.a7 (.str (eh s))),some (.a7 (bI p)),some (.a7 (qD β)),some (.a7 (.list (os.map ar))),some (.a7 (.list (ws.map qD))),some (.a7 (.bool t)),some (.a7 (ar o)),some (.a7 (qD x)),none,none,none,none]) (by
   by_cases c1:o.1=.eq
   ·have k1:=(gX o.1).mpr c1;dsimp![o0,jq,eq_true k1]
   ·have k1:¬bQ o.1="=":=fun z=>c1 ((gX o.1).mp z);have c2:¬x.num<0:=fun z=>vn ⟨c1,(ve x).mp z⟩;dsimp![o0,wq,jq,cL,eq_false k1,eq_false c2])]
  have e1:cZ (.str (bQ o.1)) (.str "<")=some (.bool (decide (o.1=.lt))):=by rw[cH];congr 2;exact decide_eq_decide.mpr (xG o.1)
  have e2:FP (.int x.num) (.int 0)=some (.bool (decide (0<x))):=by rw[gF];congr 2;exact decide_eq_decide.mpr (Lw x)
  exact lH (Kf (b:=decide (o.1=.lt)&&decide (0<x)) (by simp![]) (zB (by dsimp![o0,e1]) (by dsimp![wq,e2])))
 ·rintro t ⟨o,x⟩ Γ vn ⟨x6,x7,rfl⟩;refine⟨[(6,ar o),(7,qD x)],rfl,?_⟩;dsimp!;have o0:bp (ar o) (.int 0)=some (.str (bQ o.1)):=rfl;have k1:¬bQ o.1="=":=fun z=>vn.1 ((gX o.1).mp z);have c2:x.num<0:=(ve x).mpr vn.2;dsimp![o0,wq,jq,cL,eq_false k1,eq_true c2]
 ·rintro ag Qu ⟨x6,x7,rfl⟩;have Vw:¬ ∃p∈os.zip ws,Ds p:=fun⟨p,hp,hb⟩=>Qu p hp hb;unfold tM;rw[if_neg Vw];generalize j5 p.length (os.zip ws)=y at *;generalize p8:(os.zip ws).foldl w4 false=sB at *;generalize hb0:y.getD p.length 0=b0 at *;have e3:=lO VZ dh (by decide) (by decide);have e5:=Kg (y.take p.length) p;have e6:=Kg (y.take p.length) (List.replicate p.length 0);have e7:=r9 b0 β;have e8:EZ (.int b0.num) (.int 0)=some (.bool (decide (b0<0))):=by rw[cL];congr 2;exact decide_eq_decide.mpr (ve b0)
  have e9:cZ (.int b0.num) (.int 0)=some (.bool (decide (b0=0))):=by rw[dD];congr 2;exact decide_eq_decide.mpr (HG b0)
  rw[ao (ag:=[some (.a7 (.str (eh s))),some (.a7 (bI p)),some (.a7 (qD β)),some (.a7 (.list (os.map ar))),some (.a7 (.list (ws.map qD))),some (.a7 (.bool sB)),x6,x7,some (.a7 (bI (y.take p.length))),some (.a7 (qD b0)),none,none]) (by dsimp![lp,e2])];rw[ao (ag:=[some (.a7 (.str (eh s))),some (.a7 (bI p)),some (.a7 (qD β)),some (.a7 (.list (os.map ar))),some (.a7 (.list (ws.map qD))),some (.a7 (.bool sB)),x6,x7,some (.a7 (bI (y.take p.length))),some (.a7 (qD b0)),some (.a7 (.bool (decide (b0<β)))),none]) (by dsimp![e3])];have Jb:=BS (ft:=c9 (L3.f2 cZ (aI 8) (aI 1))) (gt:=j1 (ju (aI 10)) (jl (c9 (L3.f2 cZ (aI 9) (aI 2))) (j1 (c9 (L3.f2 cZ (aI 0) (fC (.str "<=")))) (ju (aI 5)))))
   (ρ:=bU [some (.a7 (.str (eh s))),some (.a7 (bI p)),some (.a7 (qD β)),some (.a7 (.list (os.map ar))),some (.a7 (.list (ws.map qD))),some (.a7 (.bool sB)),x6,x7,some (.a7 (bI (y.take p.length))),some (.a7 (qD b0)),some (.a7 (.bool (decide (b0<β)))),none])
   (a:=decide (y.take p.length=p)) (by dsimp![e5]) (FW (a:=decide (b0<β)) (by dsimp![]) (BS (a:=decide (b0=β)) (by dsimp![e7]) (FW (a:=!s) (b:=sB) (by dsimp![k1]) (by dsimp![]))))
  cases q:(decide (y.take p.length=p)&&(decide (b0<β) || (decide (b0=β)&&(!s || sB))))with
  |true=>
   rw[q]at Jb;rw[Bool.true_or];exact(KW (oD Jb)).trans rfl
  |false=>
   rw[q]at Jb;rw[Bool.false_or];refine(ao (qO Jb)).trans ?_;have ec:cc (aName 0) gA (l5 (aT (fC (.int 0)) (aT (fC (.int 1)) bW))) [none] (p.map qD)=some ((List.replicate p.length (0:Rat)).map qD):=by
    refine cR _ _ (by rw[length_map,length_map,length_replicate]) fun i d o h1 h2=>⟨[(0,d)],rfl,?_⟩;have:o=qD 0:=by
     obtain⟨x,hx,rfl⟩:=mem_map.mp (mem_of_getElem? h2);rw[(mem_replicate.mp hx).2]
    rw[this,q0];simp![z2]
   refine(ao (ag:=[some (.a7 (.str (eh s))),some (.a7 (bI p)),some (.a7 (qD β)),some (.a7 (.list (os.map ar))),some (.a7 (.list (ws.map qD))),some (.a7 (.bool sB)),x6,x7,some (.a7 (bI (y.take p.length))),some (.a7 (qD b0)),some (.a7 (.bool (decide (b0<β)))),some (.a7 (bI (List.replicate p.length 0)))]) (by
    dsimp![gG,length_map,zl,ec,gC])).trans ?_
   refine AX (zB (by dsimp![e6]) (Kf (by dsimp![wq,e8]) (zB (by dsimp![wq,e9]) (by dsimp![]))))
 ·intro vn;unfold tM;rw[if_pos vn]
theorem De(d:α)(x:α)(xs:List α)(i:Nat):(x::xs).getD (i+1) d=xs.getD i d:=by
 rw[getD_eq_getElem?_getD,getD_eq_getElem?_getD,getElem?_cons_succ]
theorem KI{w:Rat}(ha:a.length=n+1)(ho:o.2.1.length=n)(hc:c<=n):(dN a (o,w)).getD c 0=a.getD c 0+w*(if c<n then o.2.1.getD c 0 else o.2.2):=by
 show(zipWith (fun x q=>x+w*q) a (o.2.1++[o.2.2])).getD c 0=_;rw[getD_eq_getElem?_getD,getD_eq_getElem?_getD,List.getElem?_zipWith];have h1:c<a.length:=by omega
 have h2:c<(o.2.1++[o.2.2]).length:=by rw[length_append,ho];show c<n+1;omega
 rw[getElem?_eq_getElem h1,getElem?_eq_getElem h2];show a[c]+w*(o.2.1++[o.2.2])[c]=a[c]+_;congr 2
 by_cases BD:c<n
 ·rw[if_pos BD,List.getElem_append_left (by omega),getD_eq_getElem?_getD,getElem?_eq_getElem (by omega)];rfl
 ·rw[if_neg BD,List.getElem_append_right (by omega)];simp
theorem AK{w:Rat}(ha:a.length=n+1)(ho:o.2.1.length=n):(dN a (o,w)).length=n+1:=by
 show(zipWith _ a (o.2.1++[o.2.2])).length=_;rw[length_zipWith,ha,length_append,ho];exact min_self _
theorem xR{n c:Nat}(hc:c<=n):∀(os:List FM.Ol) (ws a:List Rat),(∀o∈os,o.2.1.length=n)->ws.length=os.length->a.length=n+1->
  ((os.zip ws).foldl dN a).getD c 0=a.getD c 0+FM.sm os.length (fun i=>ws.getD i 0*(if c<n then FM.j9 os i c else FM.kg os i))
 |[],ws,a,_,_,_=>by show a.getD c 0=a.getD c 0+0;grind
 |o::os,[],a,_,h,_=>by cases h
 |o::os,w::ws,a,ho,hl,ha=>by
  rw[zip_cons_cons,foldl_cons,xR hc os ws _ (fun p hp=>ho p (mem_cons_of_mem _ hp)) (Nat.succ.inj hl) (AK ha (ho o mem_cons_self)),KI ha (ho o mem_cons_self) hc,length_cons,FM.rX];have e0:(w::ws).getD 0 0*(if c<n then FM.j9 (o::os) 0 c else FM.kg (o::os) 0)=w*(if c<n then o.2.1.getD c 0 else o.2.2):=rfl;have e1:FM.sm os.length (fun i=>(w::ws).getD (i+1) 0*(if c<n then FM.j9 (o::os) (i+1) c else FM.kg (o::os) (i+1)))=FM.sm os.length (fun i=>ws.getD i 0*(if c<n then FM.j9 os i c else FM.kg os i)):=FM.aO fun i _=>by
   unfold FM.j9 FM.kg;rw[De,De]
  rw[e0,e1];grind
variable {ws:List Rat}
theorem xQ(ho:∀o∈os,o.2.1.length=n)(hl:ws.length=os.length)(hc:c<n):(j5 n (os.zip ws)).getD c 0=FM.jQ os ws c:=by
 unfold j5;rw[xR (Nat.le_of_lt hc) os ws _ ho hl length_replicate,FM.om];unfold FM.jQ;rw[FM.aO (g:=fun i=>ws.getD i 0*FM.j9 os i c) (fun i _=>by rw[if_pos hc])];grind
theorem KH(ho:∀o∈os,o.2.1.length=n)(hl:ws.length=os.length):(j5 n (os.zip ws)).getD n 0=FM.kZ os ws:=by
 unfold j5;rw[xR (le_refl _) os ws _ ho hl length_replicate,FM.om];unfold FM.kZ;rw[FM.aO (g:=fun i=>ws.getD i 0*FM.kg os i) (fun i _=>by rw[if_neg (lt_irrefl n)])];grind
theorem KG:∀{os:List FM.Ol} {ws:List Rat},(∀o∈os,o.2.1.length=n)->(j5 n (os.zip ws)).length=n+1:=by
 have key:∀(os:List FM.Ol) (ws a:List Rat),(∀o∈os,o.2.1.length=n)->a.length=n+1->((os.zip ws).foldl dN a).length=n+1:=by
  intro os;induction os with
  |nil=>intro ws a _ h;exact h
  |cons o os ih=>
   intro ws a ho h;cases ws with
   |nil=>exact h
   |cons w ws=>exact ih ws _ (fun p hp=>ho p (mem_cons_of_mem _ hp)) (AK h (ho o mem_cons_self))
 intro os ws ho;exact key os ws _ ho length_replicate
theorem yH(hl:xs.length=ys.length)(h:∀c,c<ys.length->xs.getD c 0=ys.getD c 0):xs=ys:=by
 refine List.ext_getElem hl fun i h1 h2=>?_;have:=h i h2;rw[getD_eq_getElem?_getD,getD_eq_getElem?_getD,getElem?_eq_getElem h1,getElem?_eq_getElem h2]at this;exact this
theorem pL(h:c<n):(xs.take n).getD c 0=xs.getD c 0:=by
 rw[getD_eq_getElem?_getD,getD_eq_getElem?_getD,List.getElem?_take_of_lt h]
theorem E7:∀(l:List uJ) (s:Bool),l.foldl w4 s=(s || l.any fun p=>decide (p.1.1=.lt)&&decide (0<p.2))
 |[],s=>by simp
 |p::l,s=>by rw[foldl_cons,E7 l,any_cons];unfold w4;rw[Bool.or_assoc]
theorem Ms(h:i<os.length)(hl:ws.length=os.length):(os.getD i (.eq,[],0),ws.getD i 0)∈os.zip ws:=by
 have h1:(os.zip ws)[i]?=some (os[i],ws[i]):=by rw[List.getElem?_zip_eq_some];exact⟨getElem?_eq_getElem h,getElem?_eq_getElem (by omega)⟩
 have h2:=mem_of_getElem? h1;rw[getD_eq_getElem?_getD,getD_eq_getElem?_getD,getElem?_eq_getElem h,getElem?_eq_getElem (show i<ws.length by omega)];exact h2
theorem Mr{q:uJ}(h:q∈os.zip ws):∃i,i<os.length/\q.1=os.getD i (.eq,[],0)/\q.2=ws.getD i 0:=by
 obtain⟨i,hi⟩:=List.getElem?_of_mem h;rw[List.getElem?_zip_eq_some]at hi;refine⟨i,(List.getElem?_eq_some_iff.mp hi.1).1,?_,?_⟩
 ·rw[getD_eq_getElem?_getD,hi.1];rfl
 ·rw[getD_eq_getElem?_getD,hi.2];rfl
variable {β:Rat}
theorem pV{s:Bool}(ho:∀o∈os,o.2.1.length=p.length)(h:FM.Right os ws s p β):tM s p β (os.zip ws)=true:=by
 obtain⟨ha,h⟩:=h;have hl:=ha.len;have nb:¬ ∃q∈os.zip ws,Ds q:=fun aM=>by
  obtain⟨q,hq,hb⟩:=aM;obtain⟨i,hi,e1,e2⟩:=Mr hq;have:=ha.nn i hi (by unfold FM.knd;rw[<- e1];exact hb.1);rw[<- e2]at this;have:=hb.2;grind
 have hst:FM.uW os ws->(os.zip ws).foldl w4 false=true:=fun aM=>by
  obtain⟨i,hi,h1,h2⟩:=aM;rw[E7,Bool.false_or,List.any_eq_true];exact⟨_,Ms hi hl,by
   show(decide ((os.getD i (.eq,[],0)).1=.lt)&&decide (0<ws.getD i 0))=true;rw[decide_eq_true h2,decide_eq_true (show(os.getD i (.eq,[],0)).1=.lt from h1)];rfl⟩
 have fu:=KG (n:=p.length) (ws:=ws) ho;unfold tM;rw[if_neg nb,KH ho hl];rcases h with⟨h1,h2⟩|⟨h1,h2⟩
 ·have e:(j5 p.length (os.zip ws)).take p.length=p:=yH (by rw[length_take,fu];omega) fun c hc=>by rw[pL hc,xQ ho hl hc];exact h1 c hc
  rw[decide_eq_true e];rcases h2 with h2|⟨h2,h3⟩
  ·rw[decide_eq_true h2];rfl
  ·rw[decide_eq_true h2];rcases h3 with h3|h3
   ·rw[h3,Bool.not_false,Bool.true_or];simp
   ·rw[hst h3,Bool.or_true];simp
 ·have e:(j5 p.length (os.zip ws)).take p.length=List.replicate p.length 0:=yH (by rw[length_take,fu,length_replicate];omega) fun c hc=>by
   rw[length_replicate]at hc;rw[pL hc,xQ ho hl hc,FM.om];exact h1 c hc
  rw[decide_eq_true e];rcases h2 with h2|⟨h2,h3⟩
  ·rw[decide_eq_true h2];simp
  ·rw[decide_eq_true h2,hst h3];simp
abbrev Sw (b:Nat) (ws:List Rat):Prop:=∃D:Int,D≠0/\D.natAbs<=2^(b+b)/\∀w∈ws,uD D (b+b+1) w
theorem zE(ie:way=1\/way=-1)(hR:gS m b rows){t:FM.fk}(h:FM.endOf n rows way=some t):∃D:Int,D≠0/\D.natAbs<2^b/\∀w∈t.2.2,uD D b w:=by
 obtain⟨⟨r,hr,hc,k1,k2,k3⟩,_⟩:=(FM.jm rows n (List.replicate (n+1) 0) way).some t h;have oO:way*FM.ent r n≠0:=by rcases hc with hc|⟨hc,_⟩<;>omega
 refine⟨way*FM.ent r n,oO,tm ie (cO (hR.bd r hr)),fun w hw=>?_⟩;rw[k3]at hw;unfold FM.mL at hw;obtain⟨z,hz,rfl⟩:=mem_map.mp hw;exact⟨z,hR.bd r hr z (List.mem_of_mem_drop hz),rfl⟩
theorem HK(hR:gS m b rows)(h:FM.never n rows=some ws):Sw b ws:=by
 unfold FM.never at h;cases hr:FM.eZ n rows with
 |some w=>
  rw[hr]at h;cases h;unfold FM.eZ at hr;rw[Option.map_eq_some_iff]at hr;obtain⟨r,hf,e⟩:=hr;have hm:=mem_of_find?_eq_some hf;refine⟨1,by decide,pow_pos (by decide),fun w hw=>?_⟩;rw[<- e]at hw;obtain⟨z,hz,rfl⟩:=mem_map.mp hw;refine⟨(if r.1=.eq/\0<FM.ent r (n+1)then -1 else 1)*z,dI (tm ?_ (hR.bd r hm z (List.mem_of_mem_drop hz))) (by omega),?_⟩
  ·split
   ·exact .inr rfl
   ·exact .inl rfl
  ·have:((1:Int):Rat)=1:=rfl;rw[this];grind
 |none=>
  rw[hr]at h;have h:FM.fq n rows=some ws:=h;unfold FM.fq at h;cases h1:FM.endOf n rows 1 with
  |none=>rw[h1]at h;cases h
  |some t=>
   cases h2:FM.endOf n rows (-1)with
   |none=>rw[h1,h2]at h;cases h
   |some o=>
    rw[h1,h2]at h;dsimp only at h;generalize (if t.1=true\/o.1=true then FM.Kn.lt else FM.Kn.le)=kn at h;split at h
    ·cases h;obtain⟨D1,d1,e1,w1⟩:=zE (.inl rfl) hR h1;obtain⟨D2,d2,e2,w2⟩:=zE (.inr rfl) hR h2;refine⟨D1*D2,mul_ne_zero d1 d2,Nat.le_of_lt (cI e1 e2),fun w hw=>?_⟩;obtain⟨x,hx,y,hy,rfl⟩:=ja hw;obtain⟨X,hX,rfl⟩:=w1 x hx;obtain⟨Y,hY,rfl⟩:=w2 y hy;refine⟨X*D2+Y*D1,qB (cI hX e2) (cI hY e1),?_⟩;have f1:((D1:Int):Rat)≠0:=fun z=>d1 (FM.bK.mp z);have f2:((D2:Int):Rat)≠0:=fun z=>d2 (FM.bK.mp z);rw[Rat.intCast_add,intCast_mul,intCast_mul,intCast_mul];grind
    ·cases h
def Eu (bs:Nat->Nat):Nat->Nat->Nat
 |0,_=>0
 |m+1,C=>max (bs m+C+(bs m+C)+3) (Eu bs m (C+(bs m+C+(bs m+C)+3)+1))
theorem yk(bs:Nat->Nat):∀(m:Nat) {C D:Nat},C<=D->Eu bs m C<=Eu bs m D
 |0,_,_,_=>le_refl _
 |m+1,C,D,h=>by
  have:=yk bs m (C:=C+(bs m+C+(bs m+C)+3)+1) (D:=D+(bs m+D+(bs m+D)+3)+1) (by omega);show max _ _<=max _ _;omega
theorem Jz{bs:Nat->Nat}{n M:Nat}{Ls:List (List FM.Row)}(hst:∀i,i<n->1<=bs i/\∃rs,Ls[i]?=some rs/\gS M (bs i) rs):∀(m C:Nat) (x:List Rat),m<=n->x.length=n+1->(∀c,c<m->x.getD c 0=0)->gy x C->∀c,c<m->SR (Eu bs m C) ((FM.dP Ls m x).getD c 0)
 |0,C,x,_,_,_,hC=>fun c hc=>by omega
 |m+1,C,x,hm,uf,mU,hC=>by
  obtain⟨b1,rs,BA,fH⟩:=hst m (by omega);have eD:Ls.getD m []=rs:=by rw[getD_eq_getElem?_getD,BA];rfl
  have v1:∀y,FM.fT (FM.bY (Ls.getD m []) m x (-1))=some y->SR (bs m+C) y:=fun y hy=>by
   rw[eD]at hy;cases ho:FM.bY rs m x (-1)with
   |none=>rw[ho]at hy;cases hy
   |some o=>
    rw[ho]at hy;cases hy;exact iG (ox (.inr rfl) fH hC ho)
  have v2:∀y,FM.gq (FM.bY (Ls.getD m []) m x 1)=some y->SR (bs m+C) y:=fun y hy=>by
   rw[eD]at hy;cases ho:FM.bY rs m x 1 with
   |none=>rw[ho]at hy;cases hy
   |some o=>
    rw[ho]at hy;cases hy;exact ox (.inl rfl) fH hC ho
  have sv:=qz (by omega) v1 v2;obtain⟨C',zo,zk⟩:=hC.set sv (m:=m) (by omega) (mU m (by omega));intro c hc;have ih:=Jz hst m C' _ (by omega) (by rw[length_set];exact uf) (fun c hc=>by
   rw[FM.jt (by omega),if_neg (by omega)];exact mU c (by omega)) zk
  show SR (max _ _) ((FM.dP Ls m (x.set m _)).getD c 0);by_cases e:c=m
  ·subst e;rw[FM.Bf Ls c _ c (le_refl _),FM.jt (by omega),if_pos rfl];exact sv.up (Nat.le_max_left _ _)
  ·exact(ih c (by omega)).up (le_trans (yk bs m zo) (Nat.le_max_right _ _))
theorem JG(q:Rat):qD (0-q)=.tuple [.int (-q.num),.int (q.den:Int)]:=by
 have e:(0:Rat)-q=-q:=by grind
 rw[e];show Dat.tuple [.int (-q).num,.int ((-q).den:Int)]=_;rw[Rat.neg_num,Rat.neg_den]
theorem Gn(T:TX P K mg)(U:FnAt K mg "_law_turned" (top 56) ["parts","bound"]):
  ∃F,Dn P w K mg base 41 "_law_turned" ["parts","bound"] 2 F/\∀(p:List Rat) (β:Rat),p.length<=100->F [bI p,qD β]=some (.tuple [bI (p.map fun q=>0-q),qD (0-β)]):=by
 refine⟨_,cq ["parts","bound"] U fun nd _ _ _ _ _ _ _ hr=>
  (af (aq (bF (k:=0) (a6 (gO T.tuple (a6 (cA (gN rfl (jH (N':=["part"])) (a5 0) (fun _ _ _ _=>(az 0 (show(["part"]:List Str).Nodup by decide +kernel))) (fun _ _ _ _=>d7) (fun _ _ _ _=>(bF (k:=0) (a6 (eI (ah (a5 0) a8)) (a6 (ah (a5 0) a8) a9 (hs:=aE)) (hs:=jy)))) (dA rfl))) a9)) (a6 (bF (k:=0) (a6 (eI (ah (a5 1) a8)) (a6 (ah (a5 1) a8) a9 (hs:=aE)) (hs:=jy))) a9 (hs:=fD)) (hs:=aY))))),?_⟩
 intro p β Dc;have z2:2<=sizeLine:=sz (by decide);have zl:p.length<sizeLine:=lt_of_lt_of_le (show p.length<1000 by omega) (sz (by decide));have ec:cc (aName 0) gA (l5 (aT (L3.f1 nC (L3.f2 bp (aI 0) (fC (.int 0)))) (aT (L3.f2 bp (aI 0) (fC (.int 1))) bW))) [none] (p.map qD)=some ((p.map fun q=>0-q).map qD):=by
  refine cR _ _ (by rw[length_map,length_map,length_map]) fun i d o h1 h2=>?_;rw[getElem?_map]at h1 h2;rw[getElem?_map]at h2;cases hp:p[i]? with
  |none=>rw[hp]at h1;cases h1
  |some x=>
   rw[hp]at h1 h2;cases h1;cases h2;refine⟨[(0,qD x)],rfl,?_⟩;have e:=JG x;dsimp![wq,N4,z2,e]
 have e:=JG β;dsimp![gG,length_map,zl,ec,wq,N4,z2,gC,e]
def Cs (l:List (Rat×Rat)) (a:Rat):Rat:=l.foldl (fun a q=>a+q.1*q.2) a
theorem mN:∀(p x:List Rat) (a:Rat),x.length=p.length->Cs (p.zip x) a=a+FM.aV p x
 |[],x,a,_=>by show a=a+0;grind
 |p::ps,[],a,h=>by cases h
 |p::ps,x::xs,a,h=>by
  show Cs (ps.zip xs) (a+p*x)=_;rw[mN ps xs _ (Nat.succ.inj h)];unfold FM.aV;rw[length_cons,FM.rX];have e1:FM.sm ps.length (fun i=>(p::ps).getD (i+1) 0*(x::xs).getD (i+1) 0)=FM.sm ps.length (fun c=>ps.getD c 0*xs.getD c 0):=FM.aO fun i _=>by rw[De,De]
  have e0:(p::ps).getD 0 0*(x::xs).getD 0 0=p*x:=rfl;rw[e1,e0];grind
abbrev Kq (c s n:Nat):Nat:=1+n*(c+s+1)
theorem xV{c s:Nat}:∀(l:List (Rat×Rat)) (n:Nat) (a:Rat),(∀q∈l,SR c q.1/\SR s q.2)->SR n a->SR (n+l.length*(c+s+1)) (Cs l a)
 |[],n,a,_,h=>by show SR (n+0*_) a;exact h.up (by omega)
 |q::l,n,a,hq,h=>by
  show SR _ (Cs l (a+q.1*q.2));have:=xV l (n+(c+s)+1) (a+q.1*q.2) (fun y hy=>hq y (mem_cons_of_mem _ hy)) (h.add ((hq q mem_cons_self).1.mul (hq q mem_cons_self).2));rw[length_cons,succ_mul];exact this.up (by omega)
abbrev N8 (p:Rat×Rat):Dat:=.tuple [qD p.1,qD p.2]
theorem DO:∀(xs ys:List Rat),dm (xs.map qD) (ys.map qD)=(xs.zip ys).map N8
 |[],ys=>by simp[dm]
 |x::xs,[]=>by simp[dm]
 |x::xs,y::ys=>by simp only[map_cons,dm,zip_cons_cons,DO xs ys]
structure GO (c s:Nat) (p x:List Rat):Prop where
 len:x.length=p.length
 sp:∀q∈p,SR c q
 sx:∀q∈x,SR s q
 sz:Kq c s p.length<=3900000
 cs:c+s<=3900000
abbrev Pd (F:List Dat->Option Dat):Prop:=∀(c s:Nat) (p x:List Rat),GO c s p x->F [bI p,bI x]=some (qD (FM.aV p x))
theorem Q0{s:Nat}{x:List Rat}(h:GO c s p x):SR 3900000 (FM.aV p x):=by
 have h1:=xV (c:=c) (s:=s) (p.zip x) 1 0 (fun q hq=>⟨h.sp q.1 (of_mem_zip hq).1,h.sx q.2 (of_mem_zip hq).2⟩) (kN (by decide));have e:=mN p x 0 h.len;rw[e,length_zip,h.len,min_self]at h1;rw[show(0:Rat)+FM.aV p x=FM.aV p x by grind]at h1;exact h1.up h.sz
theorem OS(T:TX P K mg)(oj:Dn P w K mg base 42 "_law_plus" ["a","b"] 2 jh)(sY:Dn P w K mg base 42 "_law_times" ["a","b"] 2 jJ)(U:FnAt K mg "_law_sum" (top 59) ["parts","point"]):
  ∃F,Dn P w K mg base 43 "_law_sum" ["parts","point"] 2 F/\Pd F:=by
 refine⟨_,cq ["parts","point","found","part","number"] U fun nd _ _ _ _ _ _ _ hr=>
  (ae (aA 2 nd (bF (k:=0) (a6 a8 (a6 a8 a9))))
  (ae (jA PassesOwn.never rfl (lW T.zip (a6 (a5 0) (a6 (a5 1) a9))) (dS (n:=2) rfl (bf (az 3 nd) (bf (az 4 nd) d8)))
  (af (aA 2 nd (ay oj hr (a6 (a5 2) (a6 (ay sY hr (a6 (a5 3) (a6 (a5 4) a9))) a9 (hs:=aY)))))))
  (af (aq (a5 2))))),?_⟩
 intro c s p x hI;have z2:2<=sizeLine:=sz (by decide);have hsz:=hI.sz;have ze:=hI.cs;refine bH ?_;simp!;rw[ao (ag:=[some (.a7 (bI p)),some (.a7 (bI x)),some (.a7 (qD 0)),none,none]) (by rw[q0];simp![z2])];refine fU (I:=_) (kS (l:=p.zip x) (s:=(0:Rat)) N8 (fun(a:Rat) Γ=>∃x3 x4,Γ=[some (.a7 (bI p)),some (.a7 (bI x)),some (.a7 (qD a)),x3,x4])
   (fun(a:Rat) l=>∃n,SR n a/\n+l.length*(c+s+1)<=3900000/\∀q∈l,SR c q.1/\SR s q.2) (fun a q=>a+q.1*q.2) (by rw[<- DO];rfl) ⟨1,kN (by decide),by rw[length_zip,hI.len,min_self];exact hsz,fun q hq=>⟨hI.sp q.1 (of_mem_zip hq).1,hI.sx q.2 (of_mem_zip hq).2⟩⟩ ⟨none,none,rfl⟩ ?_) ?_
 ·rintro a ⟨y,z⟩ l Γ ⟨n,hn,FE,ip⟩ ⟨x3,x4,rfl⟩;rw[length_cons,succ_mul]at FE;obtain⟨hy,hz⟩:=ip (y,z) mem_cons_self;dsimp only at hy hz;refine⟨[(3,qD y),(4,qD z)],rfl,?_⟩;dsimp!;have e1:=vJ hy hz (by omega) (by omega);have e2:=mF hn (hy.mul hz) (by omega) (by omega);exact⟨[some (.a7 (bI p)),some (.a7 (bI x)),some (.a7 (qD (a+y*z))),some (.a7 (qD y)),some (.a7 (qD z))],by dsimp![e1,e2],⟨_,_,rfl⟩,n+(c+s)+1,hn.add (hy.mul hz),by omega,fun q hq=>ip q (mem_cons_of_mem _ hq)⟩
 ·rintro ag ⟨x3,x4,rfl⟩;have e:=mN p x 0 hI.len;rw[show(0:Rat)+FM.aV p x=FM.aV p x by grind]at e;have e:(p.zip x).foldl (fun a q=>a+q.1*q.2) 0=FM.aV p x:=e;rw[e];simp![]
def K1 (o:FM.Ol) (x:List Rat):Bool:=match o.1 with
 | .eq=>decide (FM.aV o.2.1 x=o.2.2)
 | .lt=>decide (FM.aV o.2.1 x<o.2.2)
 | .le=>decide (FM.aV o.2.1 x<o.2.2) || decide (FM.aV o.2.1 x=o.2.2)
theorem BE(o:FM.Ol)(x:List Rat):K1 o x=true↔FM.jD o x:=by
 unfold K1 FM.jD;cases h:o.1 with
 |eq=>show decide _=true↔_=_;rw[decide_eq_true_eq]
 |lt=>show decide _=true↔_<_;rw[decide_eq_true_eq]
 |le=>
  show(decide _ || decide _)=true↔_<=_;rw[or_eq_true,decide_eq_true_eq,decide_eq_true_eq];constructor
  ·rintro(z|z)<;>grind
  ·intro z;by_cases c:FM.aV o.2.1 x=o.2.2
   ·exact .inr c
   ·left;grind
abbrev Pn (F:List Dat->Option Dat):Prop:=∀(c s:Nat) (o:FM.Ol) (x:List Rat),GO c s o.2.1 x->SR 3900000 o.2.2->F [ar o,bI x]=some (.bool (K1 o x))
theorem IE(T:TX P K mg)(Ac:Dn P w K mg base 43 "_law_sum" ["parts","point"] 2 Fs)(hS:Pd Fs)(t6:Dn P w K mg base 43 "_law_below" ["a","b"] 2 fB)(U:FnAt K mg "_law_holds" (top 60) ["line","point"]):
  ∃F,Dn P w K mg base 44 "_law_holds" ["line","point"] 2 F/\Pn F:=by
 refine⟨_,cq ["line","point","found"] U fun nd _ _ _ _ _ _ _ hr=>
  (ae (aA 2 nd (ay Ac hr (a6 (ah (a5 0) a8) (a6 (a5 1) a9) (hs:=aE))))
  (ae (aN (cC hr (ah (a5 0) a8) aZ) (af (aq (fE hr (a5 2) (ah (a5 0) a8)))) aJ)
  (af (aq (pY (ay t6 hr (a6 (a5 2) (a6 (ah (a5 0) a8) a9 (hs:=aE)))) (de (eJ (fE hr (ah (a5 0) a8) aZ) (de (fE hr (a5 2) (ah (a5 0) a8)))))))))),?_⟩
 intro c s o x hI hb;have e1:=hS c s o.2.1 x hI;have o0:bp (ar o) (.int 0)=some (.str (bQ o.1)):=rfl;have o1:bp (ar o) (.int 1)=some (bI o.2.1):=rfl;have o2:bp (ar o) (.int 2)=some (qD o.2.2):=rfl;have e2:=r9 (FM.aV o.2.1 x) o.2.2;have e3:=lO (Q0 hI) hb (by decide) (by decide);have eH:K1 o x=(match o.1 with
  | .eq=>decide (FM.aV o.2.1 x=o.2.2)
  | .lt=>decide (FM.aV o.2.1 x<o.2.2)
  | .le=>decide (FM.aV o.2.1 x<o.2.2) || decide (FM.aV o.2.1 x=o.2.2)):=rfl
 rw[eH];generalize FM.aV o.2.1 x=v at *;generalize ar o=dl at *;cases hk:o.1 with
 |eq=>
  have k1:cZ (.str (bQ .eq)) (.str "=")=some (.bool true):=rfl;rw[hk]at o0;dsimp![o0,o1,o2,e1,e2,k1]
 |lt=>
  have k1:cZ (.str (bQ .lt)) (.str "=")=some (.bool false):=rfl;have k2:cZ (.str (bQ .lt)) (.str "<=")=some (.bool false):=rfl;rw[hk]at o0;by_cases c1:v<o.2.2
  ·rw[decide_eq_true c1]at e3 ⊢;dsimp![o0,o1,o2,e1,e2,e3,k1,k2]
  ·rw[decide_eq_false c1]at e3 ⊢;dsimp![o0,o1,o2,e1,e2,e3,k1,k2]
 |le=>
  have k1:cZ (.str (bQ .le)) (.str "=")=some (.bool false):=rfl;have k2:cZ (.str (bQ .le)) (.str "<=")=some (.bool true):=rfl;rw[hk]at o0;by_cases c1:v<o.2.2
  ·rw[decide_eq_true c1]at e3 ⊢;dsimp![o0,o1,o2,e1,e2,e3,k1,k2,Bool.true_or]
  ·rw[decide_eq_false c1]at e3 ⊢;dsimp![o0,o1,o2,e1,e2,e3,k1,k2,Bool.false_or]
theorem LA(q:Rat):mk q.num (q.den:Int)=qD q:=by
 obtain⟨e1,e2⟩:=Fr.kD q.num (q.den:Int) (rK q);rw[<- Ek q]at e1 e2;show Dat.tuple [.int (Fr.num _ _),.int (Fr.den _ _)]=_;rw[e1,e2]
abbrev SW (F:List Dat->Option Dat):Prop:=∀q:Rat,SR 8000000 q->F [qD q]=some (.bool true)
theorem OT(T:TX P K mg)(jL:Dn P w K mg base 41 "_law_make" ["n","d"] 2 jK)(U:FnAt K mg "_law_is_fraction" (top 50) ["found"]):
  ∃F,Dn P w K mg base 42 "_law_is_fraction" ["found"] 1 F/\SW F:=by
 refine⟨_,cq ["found","part"] U fun nd _ _ _ _ _ _ _ hr=>
  (ae (aN (cE (d9 (d5 (ba (bO "tuple" T.isinstance T.tuple (a5 0)))) (dw (cS hr (cy T.len (a6 (a5 0) a9)) a8)))) (af (aq cN)) aJ)
  (ae (du PassesOwn.never rfl (a5 0) (az 1 nd)
  (af (aN (cE (d9 (d5 (ba (bO "int" T.isinstance T.int (a5 1)))) (dw (ba (bO "bool" T.isinstance T.bool (a5 1)))))) (af (aq cN)) aJ)))
  (af (aq (eJ (Er (ah (a5 0) a8) a8) (de (fE hr (ay jL hr (a6 (ah (a5 0) a8) (a6 (ah (a5 0) a8) a9 (hs:=aE)) (hs:=aE))) (a5 0)))))))),?_⟩
 intro q hq;have e1:jK [.int q.num,.int (q.den:Int)]=some (qD q):=by rw[me (by have:=q.den_pos;omega) hq.dn,LA]
 have e2:=r9 q q;rw[decide_eq_true rfl]at e2;have i1:gD "tuple" (qD q)=some (.bool true):=rfl;have i2:∀z:Int,gD "int" (.int z)=some (.bool true):=fun _=>rfl;have i3:∀z:Int,gD "bool" (.int z)=some (.bool false):=fun _=>rfl;have l1:ib [qD q]=some (.int 2):=rfl;have n1:fF (.int 2) (.int 2)=some (.bool false):=by rw[dC];rfl
 have gp:(0:Int)<(q.den:Int):=by have:=q.den_pos;omega
 have hi:cW (qD q)=some [.int q.num,.int (q.den:Int)]:=rfl;refine bH ?_;simp!;rw[ao (ag:=[some (.a7 (qD q)),none]) (by dsimp![i1,l1,n1])];rw[ao (ag:=[some (.a7 (qD q)),some (.a7 (.int (q.den:Int)))]) (by
  rw[jR (d:=qD q) (by dsimp![]) hi];rw[ky (as:=[(1,.int q.num)]) (ag:=[some (.a7 (qD q)),some (.a7 (.int q.num))]) rfl (by dsimp![i2,i3])];rw[ky (as:=[(1,.int (q.den:Int))]) (ag:=[some (.a7 (qD q)),some (.a7 (.int (q.den:Int)))]) rfl (by dsimp![i2,i3])];rfl)]
 dsimp![wq,N4,gF,eq_true gp,e1,e2]
abbrev PB (F:List Dat->Option Dat):Prop:=∀(dl:Dat) (ws:List Rat),ib [dl]=some (.int (ws.length:Int))->cW dl=some (ws.map qD)->(∀w∈ws,SR 8000000 w)->F [dl,.int (ws.length:Int)]=some (.bool true)
theorem OW(T:TX P K mg)(vP:Dn P w K mg base 42 "_law_is_fraction" ["found"] 1 Fi)(hI:SW Fi)(U:FnAt K mg "_law_are_fractions" (top 51) ["found","many"]):
  ∃F,Dn P w K mg base 43 "_law_are_fractions" ["found","many"] 2 F/\PB F:=by
 refine⟨_,cq ["found","many","one"] U fun nd _ _ _ _ _ _ _ hr=>
  (ae (aN (cS hr (cy T.len (a6 (a5 0) a9)) (a5 1)) (af (aq cN)) aJ)
  (ae (du PassesOwn.never rfl (a5 0) (az 2 nd)
  (af (aN (d5 (ba (ay vP hr (a6 (a5 2) a9)))) (af (aq cN)) aJ)))
  (af (aq cN)))),?_⟩
 intro dl ws h1 h2 Vj;have n1:=dC (ws.length:Int) (ws.length:Int);rw[decide_eq_true rfl]at n1;refine bH ?_;simp!;rw[ao (ag:=[some (.a7 (dl)),some (.a7 (.int (ws.length:Int))),none]) (by dsimp![h1,n1])];refine fU (I:=_) (gQ (l:=ws) (s:=()) qD (fun _ Γ=>∃u,Γ=[some (.a7 (dl)),some (.a7 (.int (ws.length:Int))),u]) (fun _ l=>∀w∈l,SR 8000000 w) (fun _ _=>()) (d:=dl) rfl h2 Vj ⟨none,rfl⟩ ?_) ?_
 ·rintro _ x l Γ hl ⟨u,rfl⟩;have e:=hI x (hl x mem_cons_self);refine⟨[(2,qD x)],rfl,?_⟩;dsimp!;exact⟨[some (.a7 (dl)),some (.a7 (.int (ws.length:Int))),some (.a7 (qD x))],by dsimp![e],⟨_,rfl⟩,fun w hw=>hl w (mem_cons_of_mem _ hw)⟩
 ·rintro ag ⟨u,rfl⟩;simp![]
abbrev bL (c e n:Nat):Nat:=FM.bt (c+e) n
abbrev xL (c e n:Nat):Nat:=Eu (FM.bt (c+e)) n (bL c e n+bL c e n+3+1)
structure nt (c e:Nat) (p:List Rat) (os:List FM.Ol):Prop where
 ln:sX c e p os
 pz:(bL c e p.length+bL c e p.length+1)+(bL c e p.length+bL c e p.length)+(c+1)*(os.length+1)<=3900000
 sz:Kq c (xL c e p.length) p.length<=3900000
 cs:c+xL c e p.length<=3900000
theorem nt.neg(h:nt c e p os):nt c e (p.map fun q=>0-q) os:=
 ⟨h.ln.neg,by rw[length_map];exact h.pz,by rw[length_map];exact h.sz,by rw[length_map];exact h.cs⟩
theorem sM(h:nt c e p os){s:Bool}(h1:(FM.bb s p β os).1=true):FM.Right os (FM.bb s p β os).2 s p β/\∃D,xp D (bL c e p.length+bL c e p.length+1) (bL c e p.length+bL c e p.length) c p.length os (FM.bb s p β os).2:=by
 have hlen:∀o∈os,o.2.1.length=p.length:=fun o ho=>(h.ln.ok o ho).len;have hr:FM.Right os (FM.bb s p β os).2 s p β:=by
  rcases FM.BG hlen s β with⟨_,r⟩|⟨z,_⟩
  ·exact r
  ·rw[h1]at z;cases z
 refine⟨hr,?_⟩;obtain⟨rows,mV,fH⟩:=tB h.ln p.length (le_refl _);have uh:FM.aF p os=rows:=by unfold FM.aF;rw[getD_eq_getElem?_getD,mV];rfl
 have key:Sw (bL c e p.length) (FM.bb s p β os).2:=by
  unfold FM.bb at h1 ⊢;rw[uh]at h1 ⊢;cases hn:FM.never p.length rows with
  |some w=>exact HK fH hn
  |none=>
   rw[hn]at h1;dsimp only at h1 ⊢;cases he:FM.endOf p.length rows 1 with
   |none=>rw[he]at h1;cases h1
   |some t=>
    rw[he]at h1;dsimp only at h1 ⊢;by_cases hk:FM.fZ s β t.1 t.2.1=true
    ·rw[if_pos hk];obtain⟨D,d0,d1,hw⟩:=zE (.inl rfl) fH he;refine⟨D,d0,Nat.le_of_lt (dI d1 (le_add_right _ _)),fun w yQ=>?_⟩;obtain⟨W,h2,h3⟩:=hw w yQ;exact⟨W,dI h2 (le_trans (le_add_right _ _) (le_add_right _ _)),h3⟩
    ·rw[if_neg hk]at h1;cases h1
 obtain⟨D,d0,d1,hw⟩:=key;exact⟨D,d0,d1,fun o ho=>⟨(h.ln.ok o ho).len,(h.ln.ok o ho).sq,(h.ln.ok o ho).bd⟩,hw,h.pz,by have:=h.ln.sz.n5;omega⟩
theorem sN(h:nt c e p os){s:Bool}(dh:SR (bL c e p.length) β)(h1:(FM.bb s p β os).1=false):FM.uQ os s p β (FM.bb s p β os).2/\∀q∈(FM.bb s p β os).2,SR (xL c e p.length) q:=by
 have hlen:∀o∈os,o.2.1.length=p.length:=fun o ho=>(h.ln.ok o ho).len;have hr:FM.uQ os s p β (FM.bb s p β os).2:=by
  rcases FM.BG hlen s β with⟨z,_⟩|⟨_,r⟩
  ·rw[h1]at z;cases z
  ·exact r
 refine⟨hr,?_⟩;obtain⟨rows,mV,fH⟩:=tB h.ln p.length (le_refl _);have uh:FM.aF p os=rows:=by unfold FM.aF;rw[getD_eq_getElem?_getD,mV];rfl
 have hb:(FM.bb s p β os).2=FM.dB (FM.bB p os) p.length (FM.dX p.length rows β):=by
  unfold FM.bb at h1 ⊢;unfold FM.beyond;rw[uh]at h1 ⊢;cases hn:FM.never p.length rows with
  |some w=>rw[hn]at h1;cases h1
  |none=>
   rw[hn]at h1;dsimp only at h1 ⊢;cases he:FM.endOf p.length rows 1 with
   |none=>rfl
   |some t=>
    rw[he]at h1;dsimp only at h1 ⊢;by_cases hk:FM.fZ s β t.1 t.2.1=true
    ·rw[if_pos hk]at h1;cases h1
    ·rw[if_neg hk]
 rw[hb];have hst:∀i,i<p.length->1<=FM.bt (c+e) i/\∃rs,(FM.bB p os)[i]?=some rs/\gS (p.length+2+os.length) (FM.bt (c+e) i) rs:=fun i hi=>
  ⟨le_trans (show 1<=c+e by have:=h.ln.sz.c1;omega) (FM.oX _ _),tB h.ln i (Nat.le_of_lt hi)⟩
 have K2:1<=bL c e p.length:=le_trans (show 1<=c+e by have:=h.ln.sz.c1;omega) (FM.oX _ _);have st:SR (bL c e p.length+bL c e p.length+3) (FM.dX p.length rows β):=by
  have v2:∀y,FM.gq (FM.endOf p.length rows 1)=some y->SR (bL c e p.length) y:=fun y hy=>by
   cases ho:FM.endOf p.length rows 1 with
   |none=>rw[ho]at hy;cases hy
   |some o=>
    rw[ho]at hy;cases hy;exact(my (.inl rfl) fH ho).1
  unfold FM.dX;refine qz (by omega) (fun x hx=>?_) v2;cases hx;cases ho:FM.endOf p.length rows (-1)with
  |none=>exact dh
  |some o=>
   show SR _ (if 0-o.2.1<β then β else 0-o.2.1);split
   ·exact dh
   ·exact iG (my (.inr rfl) fH ho).1
 intro q hq;have wI:q∈(FM.dP (FM.bB p os) p.length (List.replicate p.length 0++[FM.dX p.length rows β])).take p.length:=hq;obtain⟨i,hi⟩:=List.getElem?_of_mem wI;have JV:i<p.length:=by
  have:=(List.getElem?_eq_some_iff.mp hi).1;rw[length_take]at this;omega
 have:=Jz hst p.length (bL c e p.length+bL c e p.length+3+1) _ (le_refl _) (qT p.length (FM.dX p.length rows β)) (sj _ _) (vc st) i JV;rw[<- pL JV,getD_eq_getElem?_getD,hi]at this;exact this
abbrev F5 (k:FM.Kn):Bool:=decide (k=.lt)
theorem Qj{k:FM.Kn}(h:k≠.eq):bQ k=eh (F5 k):=by cases k<;>first|rfl|exact absurd rfl h
structure Sy (F:List Dat->Option Dat):Prop where
 one:∀(D:Int) (u d c:Nat) (o:FM.Ol) (os:List FM.Ol) (ws:List Rat),o.1≠.eq->xp D u d c o.2.1.length os ws->ws.length=os.length->SR 3900000 o.2.2->tM (F5 o.1) o.2.1 o.2.2 (os.zip ws)=true->F [ar o,.list (os.map ar),.list (ws.map qD)]=some (.bool true)
 two:∀(D D2:Int) (u d c:Nat) (o:FM.Ol) (os:List FM.Ol) (ws vs:List Rat),o.1=.eq->xp D u d c o.2.1.length os ws->xp D2 u d c o.2.1.length os vs->ws.length=os.length->vs.length=os.length->SR 3900000 o.2.2->tM false o.2.1 o.2.2 (os.zip ws)=true->tM false (o.2.1.map fun q=>0-q) (0-o.2.2) (os.zip vs)=true->F [ar o,.list (os.map ar),.tuple [.list (ws.map qD),.list (vs.map qD)]]=some (.bool true)
theorem CH(h:xp D u d c n os ws):∀w∈ws,SR 8000000 w:=fun w hw=>(J8 h.D0 h.Dd (h.wt w hw)).up (by have:=h.sz;omega)
variable {Fa:List Dat->Option Dat}
theorem M1(T:TX P K mg)(gZ:Dn P w K mg base 44 "_law_are_fractions" ["found","many"] 2 Fa)(hA:PB Fa)(sZ:Dn P w K mg base 44 "_law_right" ["kind","parts","bound","others","weights"] 5 Fr)(hR:Su Fr)(GW:Dn P w K mg base 44 "_law_turned" ["parts","bound"] 2 Ft)(hT:∀(p:List Rat) (β:Rat),p.length<=100->Ft [bI p,qD β]=some (.tuple [bI (p.map fun q=>0-q),qD (0-β)]))(U:FnAt K mg "_law_paper_shows" (top 57) ["line","others","paper"]):
  ∃F,Dn P w K mg base 45 "_law_paper_shows" ["line","others","paper"] 3 F/\Sy F:=by
 refine⟨_,cq ["line","others","paper","kind","parts","bound","one","less","more"] U fun nd _ _ _ _ _ _ _ hr=>
  (ae (sf (a5 0) (dS (n:=3) rfl (bf (az 3 nd) (bf (az 4 nd) (bf (az 5 nd) d8)))))
  (ae (aN (cS hr (a5 3) aZ) (af (aq (eJ (bO "list" T.isinstance T.list (a5 2)) (eJ (ay gZ hr (a6 (a5 2) (a6 (cy T.len (a6 (a5 1) a9)) a9 (hs:=aY)))) (de (ay sZ hr (a6 (a5 3) (a6 (a5 4) (a6 (a5 5) (a6 (a5 1) (a6 (a5 2) a9))))))))))) aJ)
  (ae (aN (cE (d9 (d5 (ba (bO "tuple" T.isinstance T.tuple (a5 2)))) (dw (cS hr (cy T.len (a6 (a5 2) a9)) a8)))) (af (aq cN)) aJ)
  (ae (du PassesOwn.never rfl (a5 2) (az 6 nd)
  (af (aN (cE (d9 (d5 (ba (bO "list" T.isinstance T.list (a5 6)))) (dw (d5 (ba (ay gZ hr (a6 (a5 6) (a6 (cy T.len (a6 (a5 1) a9)) a9 (hs:=aY))))))))) (af (aq cN)) aJ)))
  (ae (sf (ay GW hr (a6 (a5 4) (a6 (a5 5) a9))) (dS (n:=2) rfl (bf (az 7 nd) (bf (az 8 nd) d8))))
  (af (aq (eJ (ay sZ hr (a6 aZ (a6 (a5 4) (a6 (a5 5) (a6 (a5 1) (a6 (ah (a5 2) a8) a9 (hs:=aE))))))) (de (ay sZ hr (a6 aZ (a6 (a5 7) (a6 (a5 8) (a6 (a5 1) (a6 (ah (a5 2) a8) a9 (hs:=aE)))))))))))))))),?_⟩
 have il:∀xs:List Dat,gD "list" (.list xs)=some (.bool true):=fun _=>rfl;refine⟨?_,?_⟩
 ·intro D u d c o os ws hk hI hl hb hr;have e1:=hA (.list (ws.map qD)) ws (iP qD ws) rfl (CH hI);rw[hl]at e1;have e2:=hR D u d c (F5 o.1) o.2.1 o.2.2 os ws hI hb;rw[hr,<- Qj hk]at e2;have lo:=iP ar os;have k1:¬bQ o.1="=":=fun z=>hk ((gX o.1).mp z);refine bH ?_;simp!;rw[ao (ag:=[some (.a7 (ar o)),some (.a7 (.list (os.map ar))),some (.a7 (.list (ws.map qD))),some (.a7 (.str (bQ o.1))),some (.a7 (bI o.2.1)),some (.a7 (qD o.2.2)),none,none,none]) (by simp![])];dsimp![jq,eq_false k1,il,lo,e1,e2]
 ·intro D D2 u d c o os ws vs hk hI BJ hl rG hb hr lh;have e1:=hA (.list (ws.map qD)) ws (iP qD ws) rfl (CH hI);have C6:=hA (.list (vs.map qD)) vs (iP qD vs) rfl (CH BJ);rw[hl]at e1;rw[rG]at C6;have e2:=hR D u d c false o.2.1 o.2.2 os ws hI hb;have e2:Fr [.str "<=",bI o.2.1,qD o.2.2,.list (os.map ar),.list (ws.map qD)]=some (.bool true):=by rw[hr]at e2;exact e2
  have e3:=hR D2 u d c false (o.2.1.map fun q=>0-q) (0-o.2.2) os vs (by rw[length_map];exact BJ) (iG hb);have e3:Fr [.str "<=",bI (o.2.1.map fun q=>0-q),qD (0-o.2.2),.list (os.map ar),.list (vs.map qD)]=some (.bool true):=by rw[lh]at e3;exact e3
  have e4:=hT o.2.1 o.2.2 hI.n1;have lo:=iP ar os;have k1:=(gX o.1).mpr hk;have it:∀a b:Dat,gD "tuple" (.tuple [a,b])=some (.bool true):=fun _ _=>rfl;have l2:∀a b:Dat,ib [.tuple [a,b]]=some (.int 2):=fun _ _=>rfl;have n1:fF (.int 2) (.int 2)=some (.bool false):=by rw[dC];rfl
  have a0:∀a b:Dat,bp (.tuple [a,b]) (.int 0)=some a:=fun _ _=>rfl;have a1:∀a b:Dat,bp (.tuple [a,b]) (.int 1)=some b:=fun _ _=>rfl;generalize Vl:Dat.list (ws.map qD)=d1 at *;generalize Vk:Dat.list (vs.map qD)=d2 at *;have i1:gD "list" d1=some (.bool true):=by rw[<- Vl];rfl
  have i2:gD "list" d2=some (.bool true):=by rw[<- Vk];rfl
  have hi:cW (.tuple [d1,d2])=some [d1,d2]:=rfl;refine bH ?_;simp!;rw[ao (ag:=[some (.a7 (ar o)),some (.a7 (.list (os.map ar))),some (.a7 (.tuple [d1,d2])),some (.a7 (.str (bQ o.1))),some (.a7 (bI o.2.1)),some (.a7 (qD o.2.2)),none,none,none]) (by simp![])];rw[ao (ag:=[some (.a7 (ar o)),some (.a7 (.list (os.map ar))),some (.a7 (.tuple [d1,d2])),some (.a7 (.str (bQ o.1))),some (.a7 (bI o.2.1)),some (.a7 (qD o.2.2)),none,none,none]) (by dsimp![jq,eq_true k1])];rw[ao (ag:=[some (.a7 (ar o)),some (.a7 (.list (os.map ar))),some (.a7 (.tuple [d1,d2])),some (.a7 (.str (bQ o.1))),some (.a7 (bI o.2.1)),some (.a7 (qD o.2.2)),none,none,none]) (by dsimp![it,l2,n1])];rw[ao (ag:=[some (.a7 (ar o)),some (.a7 (.list (os.map ar))),some (.a7 (.tuple [d1,d2])),some (.a7 (.str (bQ o.1))),some (.a7 (bI o.2.1)),some (.a7 (qD o.2.2)),some (.a7 (d2)),none,none]) (by
   rw[jR (d:=.tuple [d1,d2]) (by dsimp![]) hi];rw[ky (as:=[(6,d1)]) (ag:=[some (.a7 (ar o)),some (.a7 (.list (os.map ar))),some (.a7 (.tuple [d1,d2])),some (.a7 (.str (bQ o.1))),some (.a7 (bI o.2.1)),some (.a7 (qD o.2.2)),some (.a7 (d1)),none,none]) rfl (by dsimp![i1,lo,e1])];rw[ky (as:=[(6,d2)]) (ag:=[some (.a7 (ar o)),some (.a7 (.list (os.map ar))),some (.a7 (.tuple [d1,d2])),some (.a7 (.str (bQ o.1))),some (.a7 (bI o.2.1)),some (.a7 (qD o.2.2)),some (.a7 (d2)),none,none]) rfl (by dsimp![i2,lo,C6])];rfl)]
  rw[ao (ag:=[some (.a7 (ar o)),some (.a7 (.list (os.map ar))),some (.a7 (.tuple [d1,d2])),some (.a7 (.str (bQ o.1))),some (.a7 (bI o.2.1)),some (.a7 (qD o.2.2)),some (.a7 (d2)),some (.a7 (bI (o.2.1.map fun q=>0-q))),some (.a7 (qD (0-o.2.2)))]) (by dsimp![e4])];dsimp![a0,a1,e2,e3]
abbrev Sr (F:List Dat->Option Dat):Prop:=∀(c e:Nat) (o:FM.Ol) (os:List FM.Ol),nt c e o.2.1 os->SR (bL c e o.2.1.length) o.2.2->F [ar o,.list (os.map ar),BR o.1 o.2.1 o.2.2 os]=some (.bool true)
theorem DS(p x:List Rat):FM.aV (p.map fun q=>0-q) x=0-FM.aV p x:=by
 unfold FM.aV;rw[length_map];rw[FM.aO (g:=fun c=>(-1)*(p.getD c 0*x.getD c 0)) (fun c hc=>?_),FM.bD]
 ·grind
 ·rw[getD_eq_getElem?_getD,getElem?_map,getD_eq_getElem?_getD (l:=p),getElem?_eq_getElem hc];show(0-p[c])*_=(-1)*(p[c]*_);grind
structure P9 (Fp Fh F:List Dat->Option Dat):Prop where
 Sa:∀(dl Gi pp:Dat),Fp [dl,Gi,pp]=some (.bool true)->F [dl,Gi,.tuple [.str "follows",pp]]=some (.bool true)
 brk:∀(o:FM.Ol) (os:List FM.Ol) (x:List Rat),x.length=o.2.1.length->(∀q∈x,SR 8000000 q)->(∀q∈os,Fh [ar q,bI x]=some (.bool true))->Fh [ar o,bI x]=some (.bool false)->F [ar o,.list (os.map ar),.tuple [.str "breaks",bI x]]=some (.bool true)
theorem M0(T:TX P K mg)(vO:Dn P w K mg base 45 "_law_paper_shows" ["line","others","paper"] 3 Fp)(gZ:Dn P w K mg base 45 "_law_are_fractions" ["found","many"] 2 Fa)(hA:PB Fa)(Ad:Dn P w K mg base 45 "_law_holds" ["line","point"] 2 Fh)(U:FnAt K mg "_law_told" (top 58) ["line","others","found"]):
  ∃F,Dn P w K mg base 46 "_law_told" ["line","others","found"] 3 F/\P9 Fp Fh F:=by
 refine⟨_,cq ["line","others","found","other"] U fun nd _ _ _ _ _ _ _ hr=>
  (ae (aN (cE (d9 (d5 (ba (bO "tuple" T.isinstance T.tuple (a5 2)))) (d9 (cS hr (cy T.len (a6 (a5 2) a9)) a8) (dw (d5 (ba (bO "str" T.isinstance T.str (ah (a5 2) a8)))))))) (af (aq cN)) aJ)
  (ae (aN (cC hr (ah (a5 2) a8) aZ) (af (aq (ay vO hr (a6 (a5 0) (a6 (a5 1) (a6 (ah (a5 2) a8) a9 (hs:=aE))))))) aJ)
  (ae (aN (cE (d9 (cS hr (ah (a5 2) a8) aZ) (d9 (d5 (ba (bO "tuple" T.isinstance T.tuple (ah (a5 2) a8)))) (dw (d5 (ba (ay gZ hr (a6 (ah (a5 2) a8) (a6 (cy T.len (a6 (ah (a5 0) a8) a9 (hs:=aE))) a9 (hs:=aY)) (hs:=aE))))))))) (af (aq cN)) aJ)
  (ae (du PassesOwn.never rfl (a5 1) (az 3 nd)
  (af (aN (d5 (ba (ay Ad hr (a6 (a5 3) (a6 (ah (a5 2) a8) a9 (hs:=aE)))))) (af (aq cN)) aJ)))
  (af (aq (B5 (ay Ad hr (a6 (a5 0) (a6 (ah (a5 2) a8) a9 (hs:=aE))))))))))),?_⟩
 have i1:∀a b:Dat,gD "tuple" (.tuple [a,b])=some (.bool true):=fun _ _=>rfl;have i2:∀s:Str,gD "str" (.str s)=some (.bool true):=fun _=>rfl;have l2:∀a b:Dat,ib [.tuple [a,b]]=some (.int 2):=fun _ _=>rfl;have n1:fF (.int 2) (.int 2)=some (.bool false):=by rw[dC];rfl
 have a0:∀a b:Dat,bp (.tuple [a,b]) (.int 0)=some a:=fun _ _=>rfl;have a1:∀a b:Dat,bp (.tuple [a,b]) (.int 1)=some b:=fun _ _=>rfl;have kF:cZ (.str "follows") (.str "follows")=some (.bool true):=rfl;have kB:cZ (.str "breaks") (.str "follows")=some (.bool false):=rfl;have Vf:fF (.str "breaks") (.str "breaks")=some (.bool false):=rfl;refine⟨?_,?_⟩
 ·intro dl Gi pp h;dsimp![i1,i2,l2,n1,a0,a1,kF,h]
 ·intro o os x hx hs ho hn;have e1:=hA (bI x) x (by show some (Dat.int ((x.map qD).length:Nat))=_;rw[length_map]) rfl hs;rw[hx]at e1;have o1:bp (ar o) (.int 1)=some (bI o.2.1):=rfl;have lp:ib [bI o.2.1]=some (.int o.2.1.length):=by show some (Dat.int ((o.2.1.map qD).length:Nat))=_;rw[length_map]
  have i3:gD "tuple" (bI x)=some (.bool true):=rfl;have hd:∀dx:Dat,dx=bI x->True:=fun _ _=>trivial;generalize bI x=dx at *;refine bH ?_;simp!;rw[ao (ag:=[some (.a7 (ar o)),some (.a7 (.list (os.map ar))),some (.a7 (.tuple [.str "breaks",dx])),none]) (by dsimp![i1,i2,l2,n1,a0])];rw[ao (ag:=[some (.a7 (ar o)),some (.a7 (.list (os.map ar))),some (.a7 (.tuple [.str "breaks",dx])),none]) (by dsimp![a0,kB])];rw[ao (ag:=[some (.a7 (ar o)),some (.a7 (.list (os.map ar))),some (.a7 (.tuple [.str "breaks",dx])),none]) (by dsimp![a0,a1,Vf,i3,o1,lp,e1])];refine fU (I:=_) (gQ (l:=os) (s:=()) ar (fun _ Γ=>∃u,Γ=[some (.a7 (ar o)),some (.a7 (.list (os.map ar))),some (.a7 (.tuple [.str "breaks",dx])),u]) (fun _ l=>∀q∈l,q∈os) (fun _ _=>()) (d:=.list (os.map ar)) rfl rfl (fun _ h=>h) ⟨none,rfl⟩ ?_) ?_
  ·rintro _ q l Γ hl ⟨u,rfl⟩;have e:=ho q (hl q mem_cons_self);refine⟨[(3,ar q)],rfl,?_⟩;dsimp!;exact⟨[some (.a7 (ar o)),some (.a7 (.list (os.map ar))),some (.a7 (.tuple [.str "breaks",dx])),some (.a7 (ar q))],by dsimp![a1,e],⟨_,rfl⟩,fun w hw=>hl w (mem_cons_of_mem _ hw)⟩
  ·rintro ag ⟨u,rfl⟩;dsimp![a1,hn]
theorem zS(hB:nt c e o.2.1 os)(dh:SR (bL c e o.2.1.length) o.2.2){F:List Dat->Option Dat}(hH:Pn Fh)(hT:P9 Fp Fh F){x:List Rat}(uf:x.length=o.2.1.length)(hx:∀q∈x,SR (xL c e o.2.1.length) q)(ke:∀q∈os,FM.jD q x)(hn:¬FM.jD o x):
  F [ar o,.list (os.map ar),.tuple [.str "breaks",bI x]]=some (.bool true):=by
 have pf:=hB.ln.sz.bt;have ze:=hB.cs;refine hT.brk o os x uf (fun q hq=>(hx q hq).up (by omega)) (fun q hq=>?_) ?_
 ·have wI:=hB.ln.ok q hq;have:=hH c (xL c e o.2.1.length) q x ⟨by rw[uf,wI.len],wI.sq,hx,by rw[wI.len];exact hB.sz,hB.cs⟩ (wI.bd.up (by omega));rw[(BE q x).mpr (ke q hq)]at this;exact this
 ·have:=hH c (xL c e o.2.1.length) o x ⟨uf,hB.ln.sp,hx,hB.sz,hB.cs⟩ (dh.up (le_trans pf (by decide)));rw[eq_false_iff.mpr (fun z=>hn ((BE o x).mp z))]at this;exact this
theorem KD{F:List Dat->Option Dat}(hP:Sy Fp)(hH:Pn Fh)(hT:P9 Fp Fh F):Sr F:=by
 rintro c e ⟨k,p,β⟩ os hB dh;dsimp only at hB dh ⊢;have hlen:∀q∈os,q.2.1.length=p.length:=fun q hq=>(hB.ln.ok q hq).len;have pf:=hB.ln.sz.bt;have NV:SR 3900000 β:=dh.up (le_trans pf (by decide));have one:∀(s:Bool),k=(if s=true then .lt else .le)->F [ar (k,p,β),.list (os.map ar),kf (FM.bb s p β os)]=some (.bool true):=fun s hk=>by
  have wL:F5 k=s:=by rw[hk];cases s<;>rfl
  have VH:k≠.eq:=by rw[hk];cases s<;>simp
  cases h1:(FM.bb s p β os).1 with
  |true=>
   obtain⟨hr,D,hI⟩:=sM hB h1;have e:kf (FM.bb s p β os)=.tuple [.str "follows",.list ((FM.bb s p β os).2.map qD)]:=if_pos h1;rw[e];exact hT.Sa _ _ _ (hP.one D _ _ c (k,p,β) os _ VH hI hr.1.len NV (by show tM (F5 k) p β _=true;rw[wL];exact pV hlen hr))
  |false=>
   obtain⟨hr,hx⟩:=sN hB dh h1;have e:kf (FM.bb s p β os)=.tuple [.str "breaks",bI (FM.bb s p β os).2]:=if_neg (by rw[h1];exact Bool.false_ne_true);rw[e];refine zS (o:=(k,p,β)) hB dh hH hT hr.len hx hr.others ?_;show ¬FM.rel k _ _;rw[hk];exact hr.line
 cases k with
 |lt=>exact one true rfl
 |le=>exact one false rfl
 |eq=>
  show F [ar (.eq,p,β),.list (os.map ar),if(FM.bb false p β os).1=true then(if(FM.bb false (p.map fun q=>0-q) (0-β) os).1=true then .tuple [.str "follows",.tuple [.list ((FM.bb false p β os).2.map qD),.list ((FM.bb false (p.map fun q=>0-q) (0-β) os).2.map qD)]]else kf (FM.bb false (p.map fun q=>0-q) (0-β) os))else kf (FM.bb false p β os)]=_;have U7:SR (bL c e (p.map fun q=>0-q).length) (0-β):=by rw[length_map];exact iG dh
  cases h1:(FM.bb false p β os).1 with
  |false=>
   rw[if_neg Bool.false_ne_true];obtain⟨hr,hx⟩:=sN hB dh h1;have e:kf (FM.bb false p β os)=.tuple [.str "breaks",bI (FM.bb false p β os).2]:=if_neg (by rw[h1];exact Bool.false_ne_true);rw[e];refine zS (o:=(.eq,p,β)) hB dh hH hT hr.len hx hr.others ?_;intro(z:FM.aV p _=β);exact hr.line (show FM.aV p _<=β by rw[z];grind)
  |true=>
   rw[if_pos rfl];obtain⟨hr,D,hI⟩:=sM hB h1;cases h2:(FM.bb false (p.map fun q=>0-q) (0-β) os).1 with
   |false=>
    rw[if_neg Bool.false_ne_true];obtain⟨lh,fO⟩:=sN hB.neg U7 h2;have e:kf (FM.bb false (p.map fun q=>0-q) (0-β) os)=.tuple [.str "breaks",bI (FM.bb false (p.map fun q=>0-q) (0-β) os).2]:=if_neg (by rw[h2];exact Bool.false_ne_true);rw[e];have rG:=lh.len;rw[length_map]at rG fO;refine zS (o:=(.eq,p,β)) hB dh hH hT rG fO lh.others ?_;intro(z:FM.aV p _=β);exact lh.line (show FM.aV (p.map fun q=>0-q) _<=0-β by rw[DS,z];grind)
   |true=>
    rw[if_pos rfl];obtain⟨lh,D2,BJ⟩:=sM hB.neg h2;have BJ:xp D2 (bL c e p.length+bL c e p.length+1) (bL c e p.length+bL c e p.length) c p.length os (FM.bb false (p.map fun q=>0-q) (0-β) os).2:=by
     have:=BJ;rw[length_map]at this;exact this
    exact hT.Sa _ _ _ (hP.two D D2 _ _ c (.eq,p,β) os _ _ rfl hI BJ hr.1.len lh.1.len NV (pV hlen hr) (pV (by rw[length_map];exact hlen) lh))
def Al:Nat->Dat->Prop
 |0,_=>False
 |n+1,.tuple ds=>ds.length<=1000/\∀d∈ds,Al n d
 |n+1,.list ds=>ds.length<=1000/\∀d∈ds,Al n d
 |_+1,.int _=>True
 |_+1,.str _=>True
 |_+1,_=>False
abbrev Tp (n:Nat) (F:List Dat->Option Dat):Prop:=∀d,Al n d->F [d,d]=some (.bool true)
theorem TL(h:n<=1000):jS [.int (n:Int)]=some ((range' 0 n).map nat):=by
 rw[Cv n (by omega)];unfold gm;rw[List.range_eq_range'];congr 1
 exact map_congr_left fun i _=>by rw[Int.zero_add]
theorem Sj{d:Dat}(h:ds[i]?=some d):fK ds (i:Int)=some d:=by
 have hl:i<ds.length:=(List.getElem?_eq_some_iff.mp h).1;unfold L2.fK L2.l8;rw[if_pos (by omega),if_pos (by omega)];simpa using h
theorem Cb(T:TX P K mg)(U:FnAt K mg "_law_alike" (top 61) ["found","due"]):∀n:Nat,
  ∃F,Dn P w K mg base (40+n) "_law_alike" ["found","due"] 2 F/\Tp n F
 |0=>by
  obtain⟨f,fd,U,hm,hB⟩:=U.ex;exact⟨fun _=>none,LO U hm hB,fun d h=>h.elim⟩
 |n+1=>by
  obtain⟨F0,t7,h0⟩:=Cb T U n;refine⟨_,cq ["found","due","k"] U fun nd _ _ _ _ _ _ _ hr=>
   (ae (aN (d6 (a5 1) cm) (af (aq (L7 (a5 0) cm))) aJ)
  (ae (aN (ba (bO "bool" T.isinstance T.bool (a5 1))) (af (aq (eJ (bO "bool" T.isinstance T.bool (a5 0)) (de (fE hr (a5 0) (a5 1)))))) aJ)
  (ae (aN (ba (bO "int" T.isinstance T.int (a5 1))) (af (aq (eJ (bO "int" T.isinstance T.int (a5 0)) (eJ (B5 (bO "bool" T.isinstance T.bool (a5 0))) (de (fE hr (a5 0) (a5 1))))))) aJ)
  (ae (aN (ba (bO "str" T.isinstance T.str (a5 1))) (af (aq (eJ (bO "str" T.isinstance T.str (a5 0)) (de (fE hr (a5 0) (a5 1)))))) aJ)
  (ae (aN (ba (bO "tuple" T.isinstance T.tuple (a5 1))) (af (aN (d5 (ba (bO "tuple" T.isinstance T.tuple (a5 0)))) (af (aq cN)) aJ)) (af (aN (d5 (ba (bO "list" T.isinstance T.list (a5 0)))) (af (aq cN)) aJ)))
  (ae (aN (cS hr (cy T.len (a6 (a5 0) a9)) (cy T.len (a6 (a5 1) a9))) (af (aq cN)) aJ)
  (ae (tP PassesOwn.never rfl T.range (a6 (cy T.len (a6 (a5 1) a9)) a9 (hs:=aY)) (az 2 nd) (af (aN (d5 (ba (ay t7 hr (a6 (ah (a5 0) (a5 2)) (a6 (ah (a5 1) (a5 2)) a9 (hs:=aE)) (hs:=aE))))) (af (aq cN)) aJ)))
  (af (aq cN))))))))),?_⟩
  intro d hd;have nb:∀x,gD "bool" (.str x)=some (.bool false):=fun _=>rfl;have ni:∀x,gD "int" (.str x)=some (.bool false):=fun _=>rfl;have tb:∀x,gD "bool" (.tuple x)=some (.bool false):=fun _=>rfl;have ti:∀x,gD "int" (.tuple x)=some (.bool false):=fun _=>rfl;have ts:∀x,gD "str" (.tuple x)=some (.bool false):=fun _=>rfl;have lb:∀x,gD "bool" (.list x)=some (.bool false):=fun _=>rfl;have li:∀x,gD "int" (.list x)=some (.bool false):=fun _=>rfl;have ls:∀x,gD "str" (.list x)=some (.bool false):=fun _=>rfl;have lt:∀x,gD "tuple" (.list x)=some (.bool false):=fun _=>rfl;have ll:∀x,gD "list" (.list x)=some (.bool true):=fun _=>rfl;have Rr:∀x:List Dat,ib [.tuple x]=some (.int (x.length:Int)):=fun _=>rfl;have Rt:∀x:List Dat,ib [.list x]=some (.int (x.length:Int)):=fun _=>rfl;have fin:∀{ds:List Dat} {dl:Dat} (hn:ds.length<=1000) (ha:∀d∈ds,Al n d) (hl:ib [dl]=some (.int (ds.length:Int))) (hx:∀i d,ds[i]?=some d->bp dl (nat i)=some d) (hp:F0=F0),
    dr (xC jS (aName 2) (kb (jX (ju (jF 2 F0 (aT (L3.f2 bp (aI 0) (aI 2)) (aT (L3.f2 bp (aI 1) (aI 2)) bW))))) (kr (fC (.bool false))) ij) (aT (gi ib (aT (aI 1) bW)) bW)) (kr (fC (.bool true))) [some (.a7 (dl)),some (.a7 (dl)),none]=some (.rt (.bool true)):=by
   intro ds dl hn ha hl hx _;obtain⟨ag,e1,u,e2⟩:=wQ (as:=[.int ((ds.length:Nat):Int)]) (l:=range' 0 ds.length) (s:=()) (rg:=jS) (gt:=aName 2) (gb:=kb (jX (ju (jF 2 F0 (aT (L3.f2 bp (aI 0) (aI 2)) (aT (L3.f2 bp (aI 1) (aI 2)) bW))))) (kr (fC (.bool false))) ij) (fs:=aT (gi ib (aT (aI 1) bW)) bW) (Γ:=[some (.a7 (dl)),some (.a7 (dl)),none]) nat (fun _ Γ=>∃u,Γ=[some (.a7 (dl)),some (.a7 (dl)),u]) (fun _ l=>∀i∈l,i<ds.length) (fun s _=>s) (by simp![hl]) (TL hn) (fun i hi=>by rw[List.mem_range']at hi;omega) ⟨none,rfl⟩ (by
     rintro s i l Γ hi ⟨u,rfl⟩;refine⟨[(2,nat i)],rfl,[some (.a7 (dl)),some (.a7 (dl)),some (.a7 (nat i))],?_,⟨_,rfl⟩,fun j hj=>hi j (mem_cons_of_mem _ hj)⟩;have fu:=hi i mem_cons_self;have e:=hx i ds[i] (getElem?_eq_getElem fu);have t:=h0 ds[i] (ha _ (List.getElem_mem _));dsimp![e,t])
   rw[ao e1,e2];simp![]
  cases d with
  |int i=>simp![jU,oM,NO,NP,dD]
  |str x=>simp![jU,oM,nb,ni,Qm,LI rfl]
  |tuple ds=>
   refine bH ?_;simp!;rw[ao (ag:=[some (.a7 (.tuple ds)),some (.a7 (.tuple ds)),none]) (by simp![jU,oM]),ao (ag:=[some (.a7 (.tuple ds)),some (.a7 (.tuple ds)),none]) (by simp![tb]),ao (ag:=[some (.a7 (.tuple ds)),some (.a7 (.tuple ds)),none]) (by simp![ti]),ao (ag:=[some (.a7 (.tuple ds)),some (.a7 (.tuple ds)),none]) (by simp![ts]),ao (ag:=[some (.a7 (.tuple ds)),some (.a7 (.tuple ds)),none]) (by simp![Ql]),ao (ag:=[some (.a7 (.tuple ds)),some (.a7 (.tuple ds)),none]) (by simp![Rr,dC])];exact fin hd.1 hd.2 (Rr _) (fun i d hi=>Sj hi) rfl
  |list ds=>
   refine bH ?_;simp!;rw[ao (ag:=[some (.a7 (.list ds)),some (.a7 (.list ds)),none]) (by simp![jU,oM]),ao (ag:=[some (.a7 (.list ds)),some (.a7 (.list ds)),none]) (by simp![lb]),ao (ag:=[some (.a7 (.list ds)),some (.a7 (.list ds)),none]) (by simp![li]),ao (ag:=[some (.a7 (.list ds)),some (.a7 (.list ds)),none]) (by simp![ls]),ao (ag:=[some (.a7 (.list ds)),some (.a7 (.list ds)),none]) (by simp![lt,ll]),ao (ag:=[some (.a7 (.list ds)),some (.a7 (.list ds)),none]) (by simp![Rt,dC])];exact fin hd.1 hd.2 (Rt _) (fun i d hi=>Sj hi) rfl
  |_=>exact hd.elim
theorem MM{x:Int×Int}(h:Sm x):∃q:Rat,jE x=qD q/\SR 100 q:=by
 refine⟨⟨x.1,x.2.natAbs,by have:=h.pos;omega,h.zM⟩,?_,⟨h.ln,h.ld⟩⟩;show Dat.tuple [.int x.1,.int x.2]=Dat.tuple [.int x.1,.int (x.2.natAbs:Int)];rw[show(x.2.natAbs:Int)=x.2 by have:=h.pos;omega]
theorem Jq:∀{xs:List (Int×Int)},(∀x∈xs,Sm x)->∃qs:List Rat,nF xs=bI qs/\qs.length=xs.length/\∀q∈qs,SR 100 q
 |[],_=>⟨[],rfl,rfl,fun q hq=>by simp at hq⟩
 |x::xs,h=>by
  obtain⟨q,e,s⟩:=MM (h x mem_cons_self);obtain⟨qs,e2,hl,s2⟩:=Jq (xs:=xs) fun y hy=>h y (mem_cons_of_mem _ hy);refine⟨q::qs,?_,by rw[length_cons,length_cons,hl],fun y hy=>?_⟩
  ·show Dat.tuple (jE x::xs.map jE)=Dat.tuple (qD q::qs.map qD);have:xs.map jE=qs.map qD:=by
    have e2:Dat.tuple (xs.map jE)=Dat.tuple (qs.map qD):=e2;injection e2
   rw[e,this]
  ·rcases mem_cons.mp hy with e|hy
   ·rw[e];exact s
   ·exact s2 y hy
theorem Qk{k:Str}(h:Kd k):∃n:FM.Kn,k=bQ n:=by
 rcases h with e|e|e
 ·exact⟨.eq,e⟩
 ·exact⟨.lt,e⟩
 ·exact⟨.le,e⟩
theorem LC{r:R}(h:gI r)(hm:m<=9)(g:Bool):∃(o:FM.Ol) (r':R),mJ (rD r) [.int (m:Int),.bool g]=some (ar o,rD r')/\gI r'/\rO 100 m o:=by
 have o1:=f6 (m:=5) h;have e:=GU (g:=g) (m:=(m:Int)) h (by omega) (by omega);obtain⟨p1,p2,p3⟩:=zH ((m:Int)).toNat (g:=g) o1;obtain⟨b1,b2⟩:=vq (g:=g) p2;obtain⟨kn,hk⟩:=Qk (JM (gz r (m:=5) (by decide))).2;obtain⟨qs,e2,hl,s2⟩:=Jq p1;obtain⟨q,e3,s3⟩:=MM b1;refine⟨(kn,qs,q),(F2 r (m:Int) g).2,?_,b2,by show qs.length=m;rw[hl,p3];rfl,s2,s3⟩;refine e.trans ?_;show some (Dat.tuple [.str (yK (tk r 5)),nF (o6 ((m:Int)).toNat (tr r 5) g).1,jE (dU (o6 ((m:Int)).toNat (tr r 5) g).2 g).1],_)=_;rw[hk,e2,e3]
theorem KY{N:List Str}{g:aD->Option Fl}{es dQ:List Dat}{d:Dat}(h:g (startM N ds es)=some (.rm d Γ))(h0:Γ[0]?=some (some (.own dQ))):runM N g ds es=some (d,dQ):=by
 unfold runM;rw[h];show(match (Γ[0]? : Option (Option Slot))with|some (some (.own dQ))=>some (d,dQ)|_=>none)=_
 rw[h0]
theorem Cc{gt:Dat->Option cX}{fe:HF}{tl:aD}{β:Type}(enc:β->Dat)(Pp:β->Prop):∀(ak:List Dat),(∀d∈ak,∀r:R,gI r->∃as,gt d=some as/\∃(x:β) (r':R) (DX:aD),fe (setG (some (.own (rD r))::tl) as)=some (enc x,some (.own (rD r'))::DX)/\gI r'/\Pp x)->
  ∀r:R,gI r->∃(xs:List β) (r':R),n9 gt fe tl ak (rD r)=some (xs.map enc,rD r')/\gI r'/\xs.length=ak.length/\∀x∈xs,Pp x
 |[],_,r,h=>⟨[],r,rfl,h,rfl,fun x hx=>by simp at hx⟩
 |d::ak,st,r,h=>by
  obtain⟨as,e1,x,r1,DX,e2,h1,px⟩:=st d mem_cons_self r h;obtain⟨xs,r2,e3,h2,hl,hp⟩:=Cc enc Pp ak (fun d hd=>st d (mem_cons_of_mem _ hd)) r1 h1;refine⟨x::xs,r2,?_,h2,by rw[length_cons,length_cons,hl],fun y hy=>?_⟩
  ·show(gt d).bind _=_;rw[e1];show(fe (setG (some (.own (rD r))::tl) as)).bind _=_;rw[e2];show((n9 gt fe tl ak (rD r1)).map _)=_;rw[e3];rfl
  ·rcases mem_cons.mp hy with e|h
   ·rw[e];exact px
   ·exact hp y h
theorem MJ{s:Nat}{x:List Rat}(h:GO c s p x):SR (Kq c s p.length) (FM.aV p x):=by
 have h1:=xV (c:=c) (s:=s) (p.zip x) 1 0 (fun q hq=>⟨h.sp q.1 (of_mem_zip hq).1,h.sx q.2 (of_mem_zip hq).2⟩) (kN (by decide));have e:=mN p x 0 h.len;rw[e,length_zip,h.len,min_self]at h1;rw[show(0:Rat)+FM.aV p x=FM.aV p x by grind]at h1;exact h1
def WQ:List Dat:=[.tuple [.int 0,.int 1],.tuple [.int 0,.int 1],.tuple [.int 1,.int 2],.tuple [.int 2,.int 1],.tuple [.int (-1),.int 5]]
theorem P0{t:Int}(h:0<=t/\t<5):∃q:Rat,bp (.list WQ) (.int t)=some (qD q)/\SR 5 q:=by
 rcases(show t=0\/t=1\/t=2\/t=3\/t=4 by omega)with e|e|e|e|e
 ·subst e;exact⟨0,rfl,by decide,by decide⟩
 ·subst e;exact⟨0,rfl,by decide,by decide⟩
 ·subst e;exact⟨⟨1,2,by decide,by decide⟩,rfl,by decide,by decide⟩
 ·subst e;exact⟨⟨2,1,by decide,by decide⟩,rfl,by decide,by decide⟩
 ·subst e;exact⟨⟨-1,5,by decide,by decide⟩,rfl,by decide,by decide⟩
abbrev SI (F:List Dat->List Dat->Option (Dat×List Dat)):Prop:=∀(r:R) (o:FM.Ol) (x:List Rat),gI r->rO 100 x.length o->x.length<=3->(∀q∈x,SR 3 q)->∃(β:Rat) (r':R),F (rD r) [ar o,bI x]=some (ar (o.1,o.2.1,β),rD r')/\gI r'/\SR 400 β
theorem OP(T:TX P K mg)(Ac:Dn P w K mg base 43 "_law_sum" ["parts","point"] 2 Fs)(hS:Pd Fs)(cM:k7 P w K mg base 43 "_law_take" ["reel","many"] 2 jg)(oj:Dn P w K mg base 43 "_law_plus" ["a","b"] 2 jh)(U:FnAt K mg "_law_near" (top 62) ["reel","line","point"]):
  ∃F,k7 P w K mg base 44 "_law_near" ["reel","line","point"] 3 F/\SI F:=by
 refine⟨_,Q5 ["reel","line","point","there","by"] U fun nd _ _ _ _ _ _ _ hr=>
  (ae (aA 3 nd (ay Ac hr (a6 (ah (a5 1) a8) (a6 (a5 2) a9) (hs:=aE))))
  (ae (dE 4 nd (yh (aP (ia (a6 (bF (k:=0) (a6 a8 (a6 a8 a9))) (a6 (bF (k:=0) (a6 a8 (a6 a8 a9))) (a6 (bF (k:=0) (a6 a8 (a6 a8 a9))) (a6 (bF (k:=0) (a6 a8 (a6 a8 a9))) (a6 (bF (k:=0) (a6 (eI a8) (a6 a8 a9) (hs:=jy))) a9 (hs:=fD)) (hs:=fD)) (hs:=fD)) (hs:=fD)) (hs:=fD)))) (cK 0 cM hr (aR (aP a8) bG))))
  (af (gM (aP (bF (k:=0) (a6 (ah (a5 1) a8) (a6 (ah (a5 1) a8) (a6 (ay oj hr (a6 (a5 3) (a6 (a5 4) a9))) a9 (hs:=aY)) (hs:=aE)) (hs:=aE)))))))),?_⟩
 intro r o x hR hL hx3 hx;have z2:2<=sizeLine:=sz (by decide);have z3:3<=sizeLine:=sz (by decide);have z5:5<=sizeLine:=sz (by decide);have f5:=cJ (m:=5) hR (by decide) (by decide);have b5:=gz r (m:=5) (by decide);have R1:=f6 (m:=5) hR;generalize tk r 5=t5 at f5 b5;generalize tr r 5=r1 at f5 R1;obtain⟨GG,WH,Rc⟩:=P0 b5;have hI:GO 100 3 o.2.1 x:=⟨hL.1.symm,hL.2.1,hx,by rw[hL.1];show 1+x.length*104<=_;omega,by decide⟩;have es:=hS 100 3 o.2.1 x hI;have ss:=(MJ hI).up (m:=320) (by rw[hL.1];show 1+x.length*104<=_;omega);have ep:=mF ss Rc (by decide) (by decide);generalize FM.aV o.2.1 x=wx at es ss ep;obtain⟨k,p,β⟩:=o;dsimp only at es ⊢;have i0:bp (ar (k,p,β)) (.int 0)=some (.str (bQ k)):=rfl;have i1:bp (ar (k,p,β)) (.int 1)=some (bI p):=rfl;have UA:bp (.list [.tuple [.int 0,.int 1],.tuple [.int 0,.int 1],.tuple [.int 1,.int 2],.tuple [.int 2,.int 1],.tuple [.int (-1),.int 5]]) (.int t5)=some (qD GG):=WH
 have eo:∀vR:Rat,ar (k,p,vR)=.tuple [.str (bQ k),bI p,qD vR]:=fun _=>rfl;refine⟨wx+GG,r1,?_,R1,(ss.add Rc).up (by decide)⟩;rw[eo (wx+GG)];generalize ar (k,p,β)=dl at *;generalize bI p=dp at *;refine KY (Γ:=[some (.own (rD r1)),some (.a7 (dl)),some (.a7 (bI x)),some (.a7 (qD wx)),some (.a7 (qD GG))]) ?_ rfl;simp only[startM,map_cons,map_nil,length_cons,length_nil,cons_append,nil_append,List.replicate];rw[ao (ag:=[some (.own (rD r)),some (.a7 (dl)),some (.a7 (bI x)),some (.a7 (qD wx)),none]) (by dsimp![i1,es])];rw[ao (ag:=[some (.own (rD r1)),some (.a7 (dl)),some (.a7 (bI x)),some (.a7 (qD wx)),some (.a7 (qD GG))]) (by dsimp![z2,z5,f5,UA])];dsimp![i0,i1,ep,z3]
theorem LJ:cZ (.list []) (.list [])=some (.bool true):=by
 unfold cZ;rw[zD rfl (fun b h=>by cases h) (fun b h=>by cases h)];rfl
theorem Io(c:Int)(cs:List Int)(h:kqdOk 9 (.list ((c::cs).map .int))=true):cZ (.list ((c::cs).map .int)) (.list [])=some (.bool false):=by
 have e:eqB (.list ((c::cs).map .int)) (.list [])=if kqdOk 9 (.list ((c::cs).map .int))=true/\kqdOk 9 (.list [])=true then some (kz (.list ((c::cs).map .int)) (.list []))else none:=rfl;unfold cZ;rw[e,if_pos ⟨h,rfl⟩,kU (fun z=>by cases z)];rfl
def w9 (c:Int):R:=((c.natAbs:Int),((c.fmod 2147483647+1)*742938285).fmod 2147483647)
theorem yc(c:Int):gI (w9 c):=by
 have:=lM ((c.fmod 2147483647+1)*742938285) (b:=2147483647) (by decide);exact⟨this.1,by show((c.fmod 2147483647+1)*742938285).fmod 2147483647<_;omega⟩
abbrev og:List Dat->Option (List Dat):=fun ds=>match ds with|[.int c]=>some (rD ((c.natAbs:Int),((c.fmod 2147483647+1)*742938285).fmod 2147483647))|_=>none
def DH:List Dat->Option Dat:=open Classical in fun ds=>if ∃ns:List Int,ds=[.list (ns.map .int)]/\ns.length<=63 then some (.bool true)else none
theorem Bk(cs:List Int)(h:cs.length<=63):kqdOk 9 (.list (cs.map .int))=true:=by
 show(cs.map Dat.int).all (kqdOk 8)=true;rw[all_map,all_eq_true];exact fun x _=>rfl
theorem zL(ds:List Dat)(m:Nat):L3.cutD ds none (some (m:Int))=ds.take m:=by
 unfold L3.cutD;rw[HT.nM,HT.oC,drop_zero,sub_zero];by_cases h:m<=ds.length
 ·rw[Nat.min_eq_left h]
 ·rw[Nat.min_eq_right (by omega),List.take_of_length_le (le_refl _),List.take_of_length_le (by omega)]
theorem Gu(ds:List Dat)(m:Nat):L3.cutD ds (some (m:Int)) none=ds.drop m:=by
 unfold L3.cutD;rw[HT.nM,HT.oC];by_cases h:m<=ds.length
 ·rw[Nat.min_eq_left h,List.take_of_length_le (by rw[length_drop];omega)]
 ·rw[Nat.min_eq_right (by omega),drop_eq_nil_of_le (le_refl _),drop_eq_nil_of_le (by omega),List.take_nil]
theorem BP{gt:Dat->Option cX}{gb:aD->Option Fl}{β:Type}(enc:β->Dat)(I:Nat->aD->Prop)(B:Nat):∀(l:List β) (k:Nat) (Γ:aD),k+l.length<=B->(∀p∈l,∀k Γ,k<B->I k Γ->∃as,gt (enc p)=some as/\∃ag,gb (setG Γ as)=some (.nx ag)/\I (k+1) ag)->I k Γ->∃ag,forL gt gb (l.map enc) Γ=some (.nx ag)/\I (k+l.length) ag
 |[],k,Γ,_,_,h=>⟨Γ,rfl,h⟩
 |p::l,k,Γ,hB,st,h=>by
  rw[length_cons]at hB;obtain⟨as,e1,cU,e2,h1⟩:=st p mem_cons_self k Γ (by omega) h;obtain⟨pH,e3,h2⟩:=BP enc I B l (k+1) cU (by omega) (fun q hq=>st q (mem_cons_of_mem _ hq)) h1;refine⟨pH,?_,by rw[length_cons,add_comm l.length,<- Nat.add_assoc];exact h2⟩;show(gt (enc p)).bind _=_;rw[e1];show(gb (setG Γ as)).bind _=_;rw[e2];exact e3
theorem QC{N:List Str}{g:aD->Option Fl}{Pp:List FM.Ol->Prop}(h:∃os:List FM.Ol,g (cF N ds)=some (.rt (.list (os.map ar)))/\Pp os):∃os:List FM.Ol,iW N g ds=some (.list (os.map ar))/\Pp os:=by
 obtain⟨os,e,p⟩:=h;exact⟨os,bH e,p⟩
theorem Ii{fQ:List (Option Nat)}{fe:HF}{ak dQ:List Dat}(h0:Γ[i]?=some (some (.own ds)))(hf:fi (bw Γ)=some ak)(hl:ak.length<sizeLine)(hc:n9 gt fe (nD (fJ fQ (bw Γ))) ak ds=some (out,dQ)):mY i fQ gt fe fi Γ=some (out,Γ.set i (some (.own dQ))):=by
 unfold mY;rw[h0];show((fi (bw Γ)).bind _)=_;rw[hf,Option.bind_some,if_pos hl,hc];rfl
theorem Ea{fQ:List (Option Nat)}{fe:HF}{ag:aD}(hv:mY i fQ gt fe fi Γ=some (out,ag)):mQ j (oT gC (iy (hL (mY i fQ gt fe fi)) mn)) Γ=some (.nx (ag.set j (some (.a7 (.tuple out))))):=by
 unfold mQ oT iy hL mn;rw[hv];rfl
abbrev uK (m:Nat) (o:FM.Ol):Prop:=o.2.1.length=m/\(∀q∈o.2.1,SR 100 q)/\SR 400 o.2.2
abbrev T1 (F:List Dat->Option Dat):Prop:=∀(cs:List Int) (m:Nat) (g nr:Bool),cs≠[]->cs.length<=63->m<=3->∃os:List FM.Ol,F [.list (cs.map .int),.int (m:Int),.bool g,.bool nr]=some (.list (os.map ar))/\os.length=cs.length/\∀o∈os,uK m o
theorem V8{t:Int}(h:0<=t/\t<5):(.tuple [.int (t-2),.int 1]:Dat)=qD ((t-2:Int):Rat)/\SR 3 ((t-2:Int):Rat):=by
 refine⟨rfl,?_,?_⟩
 ·show(t-2).natAbs<8;omega
 ·show 1<8;decide
theorem M5(T:TX P K mg){Fn:List Dat->List Dat->Option (Dat×List Dat)}(rn:uP P w K mg base 44 "_law_reel" ["cell"] 1 og)(cM:k7 P w K mg base 44 "_law_take" ["reel","many"] 2 jg)(Mn:k7 P w K mg base 44 "_law_line" ["reel","many","great"] 3 mJ)(Mm:k7 P w K mg base 44 "_law_near" ["reel","line","point"] 3 Fn)(hN:SI Fn)(U:FnAt K mg "_law_group" (top 63) ["cells","many","great","near"]):
  ∃F,Dn P w K mg base 45 "_law_group" ["cells","many","great","near"] 4 F/\T1 F:=by
 refine⟨_,cq ["cells","many","great","near","reel","point","lines","cell","own","line"] U fun nd _ _ _ _ _ _ _ hr=>
  (ae (iC 4 nd (si rn hr (a6 (dg (ee T.seer hr (ah (a5 0) a8) a8) a8) a9 (hs:=cP))))
  (ae (dE 5 nd (wm T.tuple (aR (yg (wj 4 rfl (zT (tn:=["k"]) (fv:=["reel"]) (js:=[4]) rfl (by decide +kernel) (by decide +kernel) rfl (by decide +kernel) (by decide +kernel) rfl
   (fun x hx=>by((have fO:x="reel":=(by simpa using hx));(rcases fO with rfl<;>exact⟨_,rfl⟩)))
   (fun p hp=>by((have g9:p=(("reel" : Str),(4:Nat)):=(by simpa using hp));(rcases g9 with rfl<;>exact⟨rfl,.inr (.inl rfl),.inl rfl,fun z=>by cases z⟩)))) (j8 T.range (a6 (a5 1) a9)) (fun _ _ _ _=>(az 1 (show(["reel","k"]:List Str).Nodup by decide +kernel))) (fun _ _ _ _=>(v7 (aR (v8 (cK 0 cM hr (aR (aP a8) bG)) (aP a8)) (aR (aP a8) bG) (hst:=cP)))) (dA rfl))) bG)))
  (ae (iC 6 nd (gT a9))
  (ae (du PassesOwn.never rfl (a5 0) (az 7 nd)
  (ae (iC 8 nd (si rn hr (a6 (a5 7) a9)))
  (ae (dE 9 nd (cK 8 Mn hr (aR (aP (a5 1)) (aR (aP (a5 2)) bG))))
  (ae (aN (ba (a5 3)) (af (dE 9 nd (cK 8 Mm hr (aR (aP (a5 9)) (aR (aP (a5 5)) bG))))) aJ)
  (af (i9 6 (a5 9)))))))
  (af (aq (a5 6))))))),?_⟩
 intro cs m g nr hc K9 hm;obtain⟨c0,o8,rfl⟩:∃c0 o8,cs=c0::o8:=by cases cs with|nil=>exact absurd rfl hc|cons a b=>exact⟨a,b,rfl⟩
 have z0:0<=sizeLine:=zero_le _;have z2:2<=sizeLine:=sz (by decide);have e0:bp (.list ((c0::o8).map .int)) (.int 0)=some (.int c0):=o9 (n:=0) Dat.int rfl;have ed:=gh (a:=c0) (b:=5) (by decide) (by decide);have hR:=yc (c0.fdiv 5+3);have er:og [.int (c0.fdiv 5+3)]=some (rD (w9 (c0.fdiv 5+3))):=rfl;generalize w9 (c0.fdiv 5+3)=r0 at hR er;have wK:m<sizeLine:=lt_of_lt_of_le (show m<1000 by omega) (sz (by decide));have eR:jS [.int (m:Int)]=some (gm 0 m):=Cv m (by omega);obtain⟨xs,r1,ec,R1,xl,hx⟩:=Cc (gt:=aName 1) (fe:=CZ (iy (L3.h2 xX (oS 0 2 jg (iy (iw (fC (.int 5))) mn)) (iw (fC (.int 2)))) (iy (iw (fC (.int 1))) mn))) (tl:=[none]) qD (SR 3) (gm 0 m) (fun d _ r hr=>by
  have f5:=cJ (m:=5) hr (by decide) (by decide);have b5:=gz r (m:=5) (by decide);have R1:=f6 (m:=5) hr;obtain⟨p1,p2⟩:=V8 b5;refine⟨[(1,d)],rfl,_,tr r 5,[some (.a7 d)],?_,R1,p2⟩;rw[<- p1];simp![f5,eY,z2]) r0 hR
 rw[i8]at xl;have ze:c0::o8≠[]:=hc;generalize mX:c0::o8=cl at *;have ug:∀r:R,gI r->∃(o:FM.Ol) (r':R),mJ [.int r.1,.int r.2] [.int (m:Int),.bool g]=some (ar o,rD r')/\gI r'/\rO 100 m o:=fun r hr=>LC hr (by omega) g;generalize (m:Int)=mi at *;refine QC ?_;simp!;rw[ao (ag:=[some (.a7 (.list (cl.map .int))),some (.a7 (.int mi)),some (.a7 (.bool g)),some (.a7 (.bool nr)),some (.own (rD r0)),none,none,none,none,none]) (by dsimp![e0,ed,bP,er])];rw[ao (ag:=[some (.a7 (.list (cl.map .int))),some (.a7 (.int mi)),some (.a7 (.bool g)),some (.a7 (.bool nr)),some (.own (rD r1)),some (.a7 (bI xs)),none,none,none,none]) (Ea (Ii rfl (mj rfl eR) (by rw[i8];exact wK) ec))];rw[ao (ag:=[some (.a7 (.list (cl.map .int))),some (.a7 (.int mi)),some (.a7 (.bool g)),some (.a7 (.bool nr)),some (.own (rD r1)),some (.a7 (bI xs)),some (.own ([])),none,none,none]) (by simp![z0])];have h63':cl.length<=63:=K9;obtain⟨ag,e1,os,u7,u8,u9,e2,hl,bh⟩:=BP (gt:=aName 7) (gb:=dr (rZ 8 (Di 1 og (aT (aI 7) bW))) (dr (mQ 9 (oS 8 3 mJ (iy (iw (aI 1)) (iy (iw (aI 2)) mn)))) (dr (kb (ju (aI 3)) (mQ 9 (oS 8 3 Fn (iy (iw (aI 9)) (iy (iw (aI 5)) mn)))) ij) (pT 6 (aI 9))))) Dat.int (fun k Γ=>∃(os:List FM.Ol) (u7 u8 u9:Option Slot),Γ=[some (.a7 (.list (cl.map .int))),some (.a7 (.int mi)),some (.a7 (.bool g)),some (.a7 (.bool nr)),some (.own (rD r1)),some (.a7 (bI xs)),some (.own (os.map ar)),u7,u8,u9]/\os.length=k/\∀o∈os,uK m o) 63 cl 0 [some (.a7 (.list (cl.map .int))),some (.a7 (.int mi)),some (.a7 (.bool g)),some (.a7 (.bool nr)),some (.own (rD r1)),some (.a7 (bI xs)),some (.own ([])),none,none,none] (by omega) (by
   rintro c _ k Γ hk ⟨os,u7,u8,u9,rfl,hl,bh⟩;have zl:os.length<sizeLine:=lt_of_lt_of_le (show os.length<1000 by omega) (sz (by decide));refine⟨[(7,.int c)],rfl,?_⟩;dsimp!;obtain⟨o,r',eL,R',BI⟩:=ug (w9 c) (yc c);have OA:og [.int c]=some (rD (w9 c)):=rfl;have mo:∀o',uK m o'->∀q∈os++[o'],uK m q:=fun o' mW q hq=>by
    rcases mem_append.mp hq with h|h
    ·exact bh q h
    ·rw[mem_singleton.mp h];exact mW
   have ma:∀o':FM.Ol,os.map ar++[ar o']=(os++[o']).map ar:=fun o'=>by rw[map_append];rfl
   generalize w9 c=rc at *;cases nr with
   |false=>
    refine⟨[some (.a7 (.list (cl.map .int))),some (.a7 (.int mi)),some (.a7 (.bool g)),some (.a7 (.bool false)),some (.own (rD r1)),some (.a7 (bI xs)),some (.own ((os++[o]).map ar)),some (.a7 (.int c)),some (.own (rD r')),some (.a7 (ar o))],?_,os++[o],_,_,_,rfl,by rw[length_append];simp;omega,mo o ⟨BI.1,BI.2.1,BI.2.2.up (by decide)⟩⟩;simp![OA,eL,ma,length_map,zl]
   |true=>
    obtain⟨β,r2,eN,R2,V0⟩:=hN r' o xs R' (by rw[xl];exact BI) (by omega) hx;refine⟨[some (.a7 (.list (cl.map .int))),some (.a7 (.int mi)),some (.a7 (.bool g)),some (.a7 (.bool true)),some (.own (rD r1)),some (.a7 (bI xs)),some (.own ((os++[(o.1,o.2.1,β)]).map ar)),some (.a7 (.int c)),some (.own (rD r2)),some (.a7 (ar (o.1,o.2.1,β)))],?_,os++[(o.1,o.2.1,β)],_,_,_,rfl,by rw[length_append];simp;omega,mo _ ⟨BI.1,BI.2.1,V0⟩⟩;simp![OA,eL,eN,ma,length_map,zl]) ⟨[],none,none,none,rfl,rfl,fun o ho=>by simp at ho⟩
 refine⟨os,?_,by omega,bh⟩;refine(ao (ag:=ag) ?_).trans ?_
 ·exact e1
 ·rw[e2];simp![]
theorem zI{c:Nat}:∀{p:List Rat},(∀q∈p,SR c q)->eO p<=2^(c*p.length)
 |[],_=>by show 1<=2^(c*0);rw[Nat.mul_zero];exact le_refl _
 |q::p,h=>by
  show q.den*eO p<=_;rw[length_cons,Nat.mul_succ,add_comm,pow_add];exact mul_le_mul (Nat.le_of_lt (h q mem_cons_self).ld) (zI fun x hx=>h x (mem_cons_of_mem _ hx))
theorem rj:∀(i:Nat) {r s:Nat},r<=s->FM.cb r i<=FM.cb s i
 |0,_,_,h=>h
 |i+1,r,s,h=>rj i (add_le_add h (Nat.div_le_div_right (mul_le_mul h h)))
theorem Qg(hm:m<=3)(h:uK m o):vL 400 800 m o:=by
 refine⟨h.1,fun q hq=>(h.2.1 q hq).up (by decide),h.2.2,?_⟩;have h1:eO o.2.1<=2^300:=le_trans (zI h.2.1) (pow_le_pow_right (by decide) (by rw[h.1];omega));have h2:=h.2.2.ld;calc eO o.2.1*o.2.2.den<=2^300*2^400:=mul_le_mul h1 (Nat.le_of_lt h2)
  _=2^700:=(pow_add 2 300 400).symm
  _<2^800:=Nat.pow_lt_pow_right (by decide) (by decide)
theorem PZ(hm:m<=3)(hk:k<=13):Pc 400 800 m k/\(bL 400 800 m+bL 400 800 m+1)+(bL 400 800 m+bL 400 800 m)+(400+1)*(k+1)<=3900000/\Kq 400 (xL 400 800 m) m<=3900000/\400+xL 400 800 m<=3900000/\400<=bL 400 800 m:=by
 have wM:FM.cb (k+1) m<sizeLine:=by
  refine lt_of_le_of_lt (rj m (show k+1<=14 by omega)) ?_;rw[sizeLine_eq];rcases(show m=0\/m=1\/m=2\/m=3 by omega)with e|e|e|e<;>subst e<;>decide
 rcases(show m=0\/m=1\/m=2\/m=3 by omega)with e|e|e|e<;>subst e
 ·refine⟨⟨by decide,by decide,by decide,by decide,by omega,by decide,wM,trivial⟩,?_,by decide,by decide,by decide⟩;show(1200+1200+1)+(1200+1200)+(400+1)*(k+1)<=3900000;omega
 ·refine⟨⟨by decide,by decide,by decide,by decide,by omega,by decide,wM,by decide,trivial⟩,?_,by decide,by decide,by decide⟩;show(2401+2401+1)+(2401+2401)+(400+1)*(k+1)<=3900000;omega
 ·refine⟨⟨by decide,by decide,by decide,by decide,by omega,by decide,wM,by decide,by decide,trivial⟩,?_,by decide,by decide,by decide⟩;show(4803+4803+1)+(4803+4803)+(400+1)*(k+1)<=3900000;omega
 ·refine⟨⟨by decide,by decide,by decide,by decide,by omega,by decide,wM,by decide,by decide,by decide,trivial⟩,?_,by decide,by decide,by decide⟩;show(9607+9607+1)+(9607+9607)+(400+1)*(k+1)<=3900000;omega
theorem P1(hm:m<=3)(ho:uK m o)(ke:∀q∈os,uK m q)(hk:os.length<=13):nt 400 800 o.2.1 os/\SR (bL 400 800 o.2.1.length) o.2.2:=by
 obtain⟨s1,s2,s3,s4,s5⟩:=PZ hm hk;rw[<- ho.1]at s1 s2 s3 s4 s5;refine⟨⟨⟨s1,fun q hq=>(ho.2.1 q hq).up (by decide),?_,fun q hq=>by rw[ho.1];exact Qg hm (ke q hq)⟩,s2,s3,s4⟩,ho.2.2.up s5⟩;exact lt_of_le_of_lt (zI ho.2.1) (Nat.pow_lt_pow_right (by decide) (by rw[ho.1];omega))
theorem P4(q:Rat):Al 2 (qD q):=⟨by show 2<=1000;decide,fun d hd=>by
 rcases mem_cons.mp hd with e|hd
 ·rw[e];exact trivial
 ·rw[mem_singleton.mp hd];exact trivial⟩
theorem Al.up:∀{n:Nat} {d:Dat},Al n d->Al (n+1) d
 |0,_,h=>h.elim
 |n+1,.tuple ds,h=>⟨h.1,fun d hd=>(h.2 d hd).up⟩
 |n+1,.list ds,h=>⟨h.1,fun d hd=>(h.2 d hd).up⟩
 |n+1,.int _,_=>trivial
 |n+1,.str _,_=>trivial
theorem QN(h:o.2.1.length<=1000):Al 4 (ar o):=⟨by show 3<=1000;decide,fun d hd=>by
 rcases mem_cons.mp hd with e|hd
 ·rw[e];exact trivial
 ·rcases mem_cons.mp hd with e|hd
  ·rw[e];refine⟨by rw[length_map];exact h,fun d hd=>?_⟩;obtain⟨q,_,rfl⟩:=mem_map.mp hd;exact P4 q
  ·rw[mem_singleton.mp hd];exact(P4 _).up⟩
theorem QM(h:∀o∈os,o.2.1.length<=1000)(hl:os.length<=1000):Al 5 (.list (os.map ar)):=⟨by rw[length_map];exact hl,fun d hd=>by
 obtain⟨o,ho,rfl⟩:=mem_map.mp hd;exact QN (h o ho)⟩
theorem P5(a b:List FM.Ol)(h:a.length+b.length<=1000):qA (.list (a.map ar)) (.list (b.map ar))=some (.list ((a++b).map ar)):=by
 show(if(a.map ar).length+(b.map ar).length<=sizeLine then some (Dat.list (a.map ar++b.map ar))else none)=_;rw[if_pos (by rw[length_map,length_map];exact sz h),map_append]
abbrev Sv (F:List Dat->Option Dat):Prop:=∀(os:List FM.Ol) (t m:Nat),t<os.length->os.length<=14->m<=3->(∀o∈os,uK m o)->F [.list (os.map ar),nat t]=some (.bool true)
theorem Iy(T:TX P K mg){Ff:List Dat->Option Dat}(J4:Dn P w K mg base 51 "follows" ["line","others"] 2 Ff)(hF:T2 Ff)(Ml:Dn P w K mg base 51 "_law_told" ["line","others","found"] 3 Ft)(hT:Sr Ft)(t7:Dn P w K mg base 51 "_law_alike" ["found","due"] 2 Fa)(hA:Tp 5 Fa)(U:FnAt K mg "_law_right_group" (top 64) ["lines","at"]):
  ∃F,Dn P w K mg base 52 "_law_right_group" ["lines","at"] 2 F/\Sv F:=by
 refine⟨_,cq ["lines","at","line","others","handed","found"] U fun nd _ _ _ _ _ _ _ hr=>
  (ae (aA 2 nd (ah (a5 0) (a5 1)))
  (ae (aA 3 nd (kv (fc (a5 0) fW (fV (a5 1))) (fc (a5 0) (fV (dg (a5 1) a8)) fW)))
  (ae (aA 4 nd (cA (mR T.list (a6 (a5 3) a9))))
  (ae (aA 5 nd (ay J4 hr (a6 (a5 2) (a6 (a5 4) a9))))
  (af (aq (eJ (ay Ml hr (a6 (a5 2) (a6 (a5 3) (a6 (a5 5) a9)))) (de (ay t7 hr (a6 (a5 4) (a6 (a5 3) a9))))))))))),?_⟩
 intro os t m ht h14 hm bh;have e0:=o9 (n:=t) ar (getElem?_eq_getElem ht);have ho:=bh _ (List.getElem_mem ht);generalize os[t]=o at e0 ho;have s1:pQ (.list (os.map ar)) none (some (t:Int))=some (.list ((os.take t).map ar)):=by
  show some (Dat.list (L3.cutD (os.map ar) none (some (t:Int))))=_;rw[zL,map_take]
 have s2:pQ (.list (os.map ar)) (some ((t:Int)+1)) none=some (.list ((os.drop (t+1)).map ar)):=by
  show some (Dat.list (L3.cutD (os.map ar) (some ((t+1:Nat):Int)) none))=_;rw[Gu,map_drop]
 have s3:=P5 (os.take t) (os.drop (t+1)) (by rw[length_take,length_drop];omega);have hl:(os.take t++os.drop (t+1)).length<=13:=by rw[length_append,length_take,length_drop];omega
 have ke:∀q∈os.take t++os.drop (t+1),uK m q:=fun q hq=>by
  rcases mem_append.mp hq with h|h
  ·exact bh q (List.mem_of_mem_take h)
  ·exact bh q (List.mem_of_mem_drop h)
 generalize os.take t++os.drop (t+1)=oo at s3 hl ke;obtain⟨hB,hb⟩:=P1 hm ho ke hl;have eF:=hF 400 800 o oo hB.ln hb;have eT:=hT 400 800 o oo hB hb;have eA:=hA _ (QM (os:=oo) (fun q hq=>by rw[(ke q hq).1];omega) (by omega));have li:qY [.list (oo.map ar)]=some (oo.map ar):=rfl;generalize BR o.1 o.2.1 o.2.2 oo=fo at *;refine bH ?_;simp!;rw[ao (ag:=[some (.a7 (.list (os.map ar))),some (.a7 (nat t)),some (.a7 (ar o)),none,none,none]) (by dsimp![e0])];rw[ao (ag:=[some (.a7 (.list (os.map ar))),some (.a7 (nat t)),some (.a7 (ar o)),some (.a7 (.list (oo.map ar))),none,none]) (by dsimp![mx,kE,kG,nc,bP,s1,s2,s3])];rw[ao (ag:=[some (.a7 (.list (os.map ar))),some (.a7 (nat t)),some (.a7 (ar o)),some (.a7 (.list (oo.map ar))),some (.a7 (.list (oo.map ar))),none]) (by dsimp![li])];rw[ao (ag:=[some (.a7 (.list (os.map ar))),some (.a7 (nat t)),some (.a7 (ar o)),some (.a7 (.list (oo.map ar))),some (.a7 (.list (oo.map ar))),some (.a7 (fo))]) (by dsimp![eF])];dsimp![eT,eA]
theorem vT{ft:aw->Option Bool}{gb:aD->Option Fl}(I:List Int->aD->Prop)(stop:∀Γ,I [] Γ->ft (bU Γ)=some false)(step:∀c cs Γ,I (c::cs) Γ->ft (bU Γ)=some true/\∃o8 ag,o8.length<=cs.length/\gb Γ=some (.nx ag)/\I o8 ag):
  ∀(n:Nat) (cs:List Int) (Γ:aD),cs.length<n->I cs Γ->∃ag,dM ft gb n Γ=some (.nx ag)/\I [] ag
 |0,_,_,h,_=>absurd h (Nat.not_lt_zero _)
 |n+1,[],Γ,_,hi=>⟨Γ,rT (stop Γ hi),hi⟩
 |n+1,c::cs,Γ,h,hi=>by
  obtain⟨h1,o8,cU,h2,h3,h4⟩:=step c cs Γ hi;rw[length_cons]at h;obtain⟨pH,h5,h6⟩:=vT I stop step n o8 cU (by omega) h4;exact⟨pH,by rw[rS h1 h3];exact h5,h6⟩
theorem H0{ft:aw->Option Bool}(I:List Int->aD->Prop){J:aD->Prop}{cs:List Int}(hn:cs.length<n)(h0:I cs Γ)(fin:∀ag,I [] ag->J ag)(stop:∀Γ,I [] Γ->ft (bU Γ)=some false)(step:∀c cs Γ,I (c::cs) Γ->ft (bU Γ)=some true/\∃o8 ag,o8.length<=cs.length/\gb Γ=some (.nx ag)/\I o8 ag):∃ag,dM ft gb n Γ=some (.nx ag)/\J ag:=by
 obtain⟨ag,e,h⟩:=vT I stop step n cs Γ hn h0;exact⟨ag,e,fin ag h⟩
def Dg:aD->Nat
 |_::some (.a7 (.list ds))::_=>ds.length+1
 |_=>0
theorem Ly:fF (.list []) (.list [])=some (.bool false):=by
 unfold fF;rw[zD rfl (fun b h=>by cases h) (fun b h=>by cases h)];rfl
theorem HL(c:Int)(cs:List Int)(h:kqdOk 9 (.list ((c::cs).map .int))=true):fF (.list ((c::cs).map .int)) (.list [])=some (.bool true):=by
 have e:eqB (.list ((c::cs).map .int)) (.list [])=if kqdOk 9 (.list ((c::cs).map .int))=true/\kqdOk 9 (.list [])=true then some (kz (.list ((c::cs).map .int)) (.list []))else none:=rfl;unfold fF;rw[e,if_pos ⟨h,rfl⟩,kU (fun z=>by cases z)];rfl
variable {f:Addr} {fd:FuncData}
theorem QK(T:TX P K mg){T4:List Dat->Option Dat}(rn:uP P w K mg base 52 "_law_reel" ["cell"] 1 og)(cM:k7 P w K mg base 52 "_law_take" ["reel","many"] 2 jg)(J2:Dn P w K mg base 52 "_law_group" ["cells","many","great","near"] 4 T4)(hG:T1 T4)(vN:Dn P w K mg base 52 "_law_right_group" ["lines","at"] 2 Fr)(Oo:Sv Fr)(U:mH K "law" "law" (top 65) f fd):
  gu P w K mg base iV 53 f fd ["script"] (E5 K 1 DH):=by
 have nd:(["script","cells","reel","many","size","way","lines"]:List Str).Nodup:=by decide +kernel
 refine N3 U (N:=["script","cells","reel","many","size","way","lines"]) ⟨rfl,rfl,rfl,by decide +kernel,rfl,by decide +kernel,by decide +kernel⟩ rfl (fun bA A outer s H E hr=>
  (ae (aA 1 nd (cA (mR T.list (a6 (fc (a5 0) fW (fV a8)) a9 (hs:=aE)))))
  (ae (aN (cC hr (a5 1) (ia a9)) (af (aA 1 nd (ia (a6 a8 a9)))) aJ)
  (ae (oF Dg PassesOwn.never (cS hr (a5 1) (ia a9)) (ae (iC 2 nd (si rn hr (a6 (dg (ee T.seer hr (ah (a5 1) a8) a8) a8) a9 (hs:=cP))))
  (ae (dE 3 nd (cK 2 cM hr (aR (aP a8) bG)))
  (ae (dE 4 nd (qQ (aP a8) (cK 2 cM hr (aR (aP a8) bG))))
  (ae (dE 5 nd (cK 2 cM hr (aR (aP a8) bG)))
  (ae (aN (cC hr (a5 5) a8) (af (dE 4 nd (qQ (aP a8) (cK 2 cM hr (aR (aP a8) bG))))) aJ)
  (ae (aA 6 nd (ay J2 hr (a6 (fc (a5 1) fW (fV (a5 4))) (a6 (a5 3) (a6 (fE hr (a5 5) a8) (a6 (tQ (a5 5) a8) a9 (hs:=xY)) (hs:=xY))) (hs:=aE))))
  (ae (Hm (Ho (CC (yi vN hr (aR (aP (a5 6)) (aR (cK 2 cM hr (aR (aP (cy T.len (a6 (a5 6) a9))) bG (hst:=aY))) bG (hst:=aY)))))) (af (aq cN)) aJ)
  (af (aA 1 nd (fc (a5 1) (fV (a5 4)) fW)))))))))))
  (af (aq cN)))))) ?_
 intro ds d hl K6;unfold DH at K6;split at K6
 ·rename_i h;obtain⟨ns,rfl,K9⟩:=h;cases K6;have z0:0<=sizeLine:=zero_le _;have z1:1<=sizeLine:=sz (by decide);refine bH ?_;simp!;have s1:pQ (.list (ns.map .int)) none (some 63)=some (.list ((ns.take 63).map .int)):=by
   show some (Dat.list (L3.cutD (ns.map Dat.int) none (some ((63:Nat):Int))))=_;rw[zL,map_take]
  have mX:(ns.take 63).length<=63:=by rw[length_take];omega
  generalize ns.take 63=Gw at s1 mX;have li:qY [.list (Gw.map .int)]=some (Gw.map .int):=rfl;rw[ao (ag:=[some (.a7 (.list (ns.map .int))),some (.a7 (.list (Gw.map .int))),none,none,none,none,none]) (by dsimp![mx,kE,kG,nc,s1,li])];have hc:∃cs:List Int,cs.length<=63/\∀g2:aD->Option Fl,dr (kb (c9 (L3.f2 cZ (aI 1) (nG bW))) (iB 1 (nG (aT (fC (.int 0)) bW))) ij) g2 [some (.a7 (.list (ns.map .int))),some (.a7 (.list (Gw.map .int))),none,none,none,none,none]=g2 [some (.a7 (.list (ns.map .int))),some (.a7 (.list (cs.map .int))),none,none,none,none,none]:=by
   cases Gw with
   |nil=>exact⟨[0],by decide,fun g2=>by rw[ao (ag:=[some (.a7 (.list (ns.map .int))),some (.a7 (.list (([0]:List Int).map .int))),none,none,none,none,none]) (by dsimp![LJ,z0,z1])]⟩
   |cons c cs=>
    refine⟨c::cs,mX,fun g2=>?_⟩;have en:=Io c cs (Bk (c::cs) mX);rw[ao (ag:=[some (.a7 (.list (ns.map .int))),some (.a7 (.list ((c::cs).map .int))),none,none,none,none,none]) (by
     rw[map_cons]at en;dsimp![en,z0])]
  obtain⟨cs,ze,hg⟩:=hc;rw[hg];generalize Dat.list (ns.map .int)=lr;refine fU (I:=fun Γ=>∃x2 x3 x4 x5 x6,Γ=[some (.a7 (lr)),some (.a7 (.list (([]:List Int).map .int))),x2,x3,x4,x5,x6]) ?_ ?_
  ·show ∃ag,dM _ _ (Dg [some (.a7 (lr)),some (.a7 (.list (cs.map .int))),none,none,none,none,none]) [some (.a7 (lr)),some (.a7 (.list (cs.map .int))),none,none,none,none,none]=some (.nx ag)/\_;have ef:Dg [some (.a7 (lr)),some (.a7 (.list (cs.map .int))),none,none,none,none,none]=cs.length+1:=by
    show(cs.map Dat.int).length+1=_;rw[length_map]
   rw[ef];refine H0 (fun cs Γ=>cs.length<=63/\∃x2 x3 x4 x5 x6,Γ=[some (.a7 (lr)),some (.a7 (.list (cs.map .int))),x2,x3,x4,x5,x6]) (cs:=cs) (by omega) ⟨ze,none,none,none,none,none,rfl⟩ (fun ag h=>h.2) ?_ ?_
   ···rintro Γ ⟨_,x2,x3,x4,x5,x6,rfl⟩;rw[map_nil];dsimp![Ly,z0]
   ··rintro c cs Γ ⟨K9,x2,x3,x4,x5,x6,rfl⟩;have en:=HL c cs (Bk (c::cs) K9);have cx:c::cs≠[]:=fun z=>by cases z
     have e0:bp (.list ((c::cs).map .int)) (.int 0)=some (.int c):=o9 (n:=0) Dat.int rfl;have hlc:(c::cs).length=cs.length+1:=rfl;generalize c::cs=cl at *;refine⟨by dsimp![en,z0],?_⟩;have ed:=gh (a:=c) (b:=11) (by decide) (by decide);have hR:=yc (c.fdiv 11+7);have er:og [.int (c.fdiv 11+7)]=some (rD (w9 (c.fdiv 11+7))):=rfl;generalize w9 (c.fdiv 11+7)=r0 at hR er;have f4:=cJ (m:=4) hR (by decide) (by decide);have b4:=gz r0 (m:=4) (by decide);have R1:=f6 (m:=4) hR;generalize tk r0 4=t4 at f4 b4;generalize tr r0 4=r1 at f4 R1;have f9:=cJ (m:=9) R1 (by decide) (by decide);have b9:=gz r1 (m:=9) (by decide);have R2:=f6 (m:=9) R1;generalize tk r1 9=t9 at f9 b9;generalize tr r1 9=r2 at f9 R2;have f8:=cJ (m:=8) R2 (by decide) (by decide);have R3:=f6 (m:=8) R2;generalize tk r2 8=t8 at f8;generalize tr r2 8=r3 at f8 R3;have Oz:=cJ (m:=4) R3 (by decide) (by decide);have WS:=gz r3 (m:=4) (by decide);have R4:=f6 (m:=4) R3;generalize tk r3 4=Jm at Oz WS;generalize tr r3 4=r4 at Oz R4;obtain⟨m,rfl⟩:∃m:Nat,t4=(m:Int):=⟨t4.toNat,by omega⟩;have key:∃(ka:Nat) (rr:R),1<=ka/\ka<=13/\gI rr/\∀g2:aD->Option Fl,dr (kb (c9 (L3.f2 cZ (aI 5) (fC (.int 3)))) (mQ 4 (L3.h2 kA (iw (fC (.int 10))) (oS 2 2 jg (iy (iw (fC (.int 4))) mn)))) ij) g2 [some (.a7 (lr)),some (.a7 (.list (cl.map .int))),some (.own (rD r3)),some (.a7 (.int (m:Int))),some (.a7 (.int (1+t9))),some (.a7 (.int t8)),x6]=g2 [some (.a7 (lr)),some (.a7 (.list (cl.map .int))),some (.own (rD rr)),some (.a7 (.int (m:Int))),some (.a7 (nat ka)),some (.a7 (.int t8)),x6]:=by
      by_cases c8:t8=3
      ·refine⟨(10+Jm).toNat,r4,by omega,by omega,R4,fun g2=>?_⟩;have et:(nat (10+Jm).toNat)=.int (10+Jm):=congrArg Dat.int (by omega);rw[et,ao (ag:=[some (.a7 (lr)),some (.a7 (.list (cl.map .int))),some (.own (rD r4)),some (.a7 (.int (m:Int))),some (.a7 (.int (10+Jm))),some (.a7 (.int t8)),x6]) (by simp![dD,eq_true c8,Oz,bP])]
      ·refine⟨(1+t9).toNat,r3,by omega,by omega,R3,fun g2=>?_⟩;have et:(nat (1+t9).toNat)=.int (1+t9):=congrArg Dat.int (by omega);rw[et,ao (ag:=[some (.a7 (lr)),some (.a7 (.list (cl.map .int))),some (.own (rD r3)),some (.a7 (.int (m:Int))),some (.a7 (.int (1+t9))),some (.a7 (.int t8)),x6]) (by simp![dD,eq_false c8])]
     obtain⟨ka,rr,O3,p9,RR,hk⟩:=key;obtain⟨os,eG,lG,bh⟩:=hG (cl.take ka) m (decide (t8=7)) (decide (t8<4)) (by
      intro z;have:=congrArg List.length z;rw[length_take,length_nil]at this;omega) (by rw[length_take];omega) (by omega)
     have lT:(cl.take ka).length=min ka cl.length:=length_take;have hol:1<=os.length/\os.length<=13:=by rw[lG,lT];omega
     have lo:=iP ar os;have fL:=cJ (m:=(os.length:Int)) RR (by omega) (by
      have:(os.length:Int)<=13:=by omega
      exact Int.lt_of_le_of_lt this (by decide))
     have WR:=gz rr (m:=(os.length:Int)) (by omega);generalize tk rr (os.length:Int)=tL at fL WR;generalize tr rr (os.length:Int)=r5 at fL;obtain⟨t,rfl⟩:∃t:Nat,tL=(t:Int):=⟨tL.toNat,by omega⟩;have WK:=Oo os t m (by omega) (by omega) (by omega) bh;have s1:pQ (.list (cl.map .int)) none (some (ka:Int))=some (.list ((cl.take ka).map .int)):=by
      show some (Dat.list (L3.cutD (cl.map Dat.int) none (some (ka:Int))))=_;rw[zL,map_take]
     have s2:pQ (.list (cl.map .int)) (some (ka:Int)) none=some (.list ((cl.drop ka).map .int)):=by
      show some (Dat.list (L3.cutD (cl.map Dat.int) (some (ka:Int)) none))=_;rw[Gu,map_drop]
     refine⟨cl.drop ka,[some (.a7 (lr)),some (.a7 (.list ((cl.drop ka).map .int))),some (.own (rD r5)),some (.a7 (.int (m:Int))),some (.a7 (nat ka)),some (.a7 (.int t8)),some (.a7 (.list (os.map ar)))],by rw[length_drop];omega,?_,by rw[length_drop];omega,_,_,_,_,_,rfl⟩;rw[ao (ag:=[some (.a7 (lr)),some (.a7 (.list (cl.map .int))),some (.own (rD r0)),x3,x4,x5,x6]) (by dsimp![e0,ed,bP,er])];rw[ao (ag:=[some (.a7 (lr)),some (.a7 (.list (cl.map .int))),some (.own (rD r1)),some (.a7 (.int (m:Int))),x4,x5,x6]) (by dsimp![f4])];rw[ao (ag:=[some (.a7 (lr)),some (.a7 (.list (cl.map .int))),some (.own (rD r2)),some (.a7 (.int (m:Int))),some (.a7 (.int (1+t9))),x5,x6]) (by dsimp![f9,bP])];rw[ao (ag:=[some (.a7 (lr)),some (.a7 (.list (cl.map .int))),some (.own (rD r3)),some (.a7 (.int (m:Int))),some (.a7 (.int (1+t9))),some (.a7 (.int t8)),x6]) (by dsimp![f8])];rw[hk];rw[ao (ag:=[some (.a7 (lr)),some (.a7 (.list (cl.map .int))),some (.own (rD rr)),some (.a7 (.int (m:Int))),some (.a7 (nat ka)),some (.a7 (.int t8)),some (.a7 (.list (os.map ar)))]) (by dsimp![mx,kE,kG,nc,s1,dD,cL,eG])];generalize Dat.list (os.map ar)=Gi at *;rw[ao (ag:=[some (.a7 (lr)),some (.a7 (.list (cl.map .int))),some (.own (rD r5)),some (.a7 (.int (m:Int))),some (.a7 (nat ka)),some (.a7 (.int t8)),some (.a7 (Gi))]) (by dsimp![K5,Oj,lo,fL,WK])];dsimp![mx,kE,kG,nc,s2]
  ·rintro ag ⟨x2,x3,x4,x5,x6,rfl⟩;simp![]
 ·cases K6
theorem all_mk{lw:PySem.W.OpenLaw}{h:Heap}{fa:Addr}{od an:Option Addr}{sl:Array (Option Value)}{oc kV dc pm cd ct:Value}(X:K.In h)(G:h.Ns mainGlobals mg)(VM:mg "law"=some (.ref fa))(sW:FnAt K mg "common_divisor" (top 1) ["a","b"])(P8:FnAt K mg "make" (top 2) ["n","d"])(P6:FnAt K mg "plus" (top 3) ["a","b"])(Mh:FnAt K mg "minus" (top 4) ["a","b"])(Me:FnAt K mg "times" (top 5) ["a","b"])(P7:FnAt K mg "over" (top 6) ["a","b"])(Mi:FnAt K mg "below" (top 7) ["a","b"])(GJ:FnAt K mg "lowered" (top 12) ["numbers"])(An:FnAt K mg "whole_row" (top 13) ["kind","fractions"])(zX:FnAt K mg "first_rows" (top 14) ["parts","others"])(Mg:FnAt K mg "mixed" (top 15) ["one","much","other","more"])(As:FnAt K mg "equal_row" (top 16) ["rows","place"])(GI:FnAt K mg "without" (top 17) ["row","equal","place"])(IS:FnAt K mg "joined" (top 18) ["upper","lower","place"])(Dy:FnAt K mg "drawn_on" (top 19) ["one","other","weighed"])(IQ:FnAt K mg "paired" (top 20) ["rows","place","weighed","most"])(Ap:FnAt K mg "stages_of" (top 21) ["parts","others"])(Ar:FnAt K mg "left_over" (top 22) ["row","point"])(Dv:FnAt K mg "tightest" (top 23) ["rows","place","point","way"])(IU:FnAt K mg "end_of" (top 24) ["stages","way"])(Ao:FnAt K mg "upper_end" (top 25) ["stages"])(vG:FnAt K mg "opposite_end" (top 26) ["stages"])(Dx:FnAt K mg "is_never" (top 27) ["kind","bound"])(sV:FnAt K mg "never_by_a_row" (top 28) ["stages"])(uE:FnAt K mg "never_by_ends" (top 29) ["stages"])(Mf:FnAt K mg "never" (top 30) ["stages"])(Aq:FnAt K mg "number_of" (top 31) ["end"])(qE:FnAt K mg "turned_number_of" (top 32) ["end"])(GN:FnAt K mg "between" (top 33) ["least","greatest"])(Dw:FnAt K mg "point_of" (top 34) ["stages","number"])(vF:FnAt K mg "point_beyond" (top 35) ["stages","bound"])(IT:FnAt K mg "halves" (top 38) ["line"])(GK:FnAt K mg "is_kept" (top 39) ["line","kind","bound"])(vH:FnAt K mg "half_follows" (top 40) ["line","others"])(GL:FnAt K mg "follows" (top 41) ["line","others"])(Ax:FnAt K mg "_law_reel" (top 44) ["cell"])(Aw:FnAt K mg "_law_take" (top 45) ["reel","many"])(AA:FnAt K mg "_law_make" (top 46) ["n","d"])(Ay:FnAt K mg "_law_plus" (top 47) ["a","b"])(zY:FnAt K mg "_law_times" (top 48) ["a","b"])(A3:FnAt K mg "_law_below" (top 49) ["a","b"])(qH:FnAt K mg "_law_is_fraction" (top 50) ["found"])(oZ:FnAt K mg "_law_are_fractions" (top 51) ["found","many"])(uG:FnAt K mg "_law_fraction" (top 52) ["reel","great"])(AB:FnAt K mg "_law_line" (top 53) ["reel","many","great"])(uF:FnAt K mg "_law_together" (top 54) ["others","weights","many"])(zZ:FnAt K mg "_law_right" (top 55) ["kind","parts","bound","others","weights"])(xu:FnAt K mg "_law_turned" (top 56) ["parts","bound"])(qG:FnAt K mg "_law_paper_shows" (top 57) ["line","others","paper"])(Dz:FnAt K mg "_law_sum" (top 59) ["parts","point"])(A0:FnAt K mg "_law_holds" (top 60) ["line","point"])(Au:FnAt K mg "_law_told" (top 58) ["line","others","found"])(A4:FnAt K mg "_law_alike" (top 61) ["found","due"])(Az:FnAt K mg "_law_near" (top 62) ["reel","line","point"])(A1:FnAt K mg "_law_group" (top 63) ["cells","many","great","near"])(qF:FnAt K mg "_law_right_group" (top 64) ["lines","at"])(qC:∃a,TC K mg "ZERO_elimination" [.int (0),.int (1)] a)(QR:∃a,TC K mg "ONE" [.int (1),.int (1)] a)(QQ:∃a,TC K mg "TWO" [.int (2),.int (1)] a)(vE:∃a,TC K mg "ZERO_follows" [.int (0),.int (1)] a)(a:nsIn K mainGlobals "law"=some (some (.ref f)))(l:K.lookup f=some ⟨oc,od,.func (fnOf "law" "law" (jG (top 65)) (cT (top 65)) (aU (top 65)) .none kV dc pm an cd ct),sl⟩)(c:codeIn K cd "law"=true)(k:keepIn K (.ref f)=true)(T:TX lw.prog K mg)
  : ∃fd:FuncData,(∀(s:Shared) (v:Value),BindsTo s fd ⟨[v],[]⟩ [("script",v)])/\∀base:Heap,K.In base->base.Ns mainGlobals mg->gu lw.prog w K mg base iV 100 fa fd ["script"] (xA K):=by
 have e:=VM.symm.trans (mg_of X G a);cases e;obtain⟨_,dj⟩:=qC;obtain⟨_,Km⟩:=QR;obtain⟨_,QP⟩:=QQ;obtain⟨_,vD⟩:=vE;refine⟨fnOf "law" "law" (jG (top 65)) (cT (top 65)) (aU (top 65)) .none kV dc pm an cd ct,fun s v=>.of_eq rfl,fun base _ _=>?_⟩;have QU:=zv (st:=top 65) l c k;have D1:=UC (P:=lw.prog) (w:=w) (base:=base) T sW;have D2:=OQ T D1 P8;have D3:=OM T D2 P6;have D4:=LZ T D2 Mh;have D5:=LR T D2 Me;have D6:=ON T D2 P7;have D7:=Ma T D2 Mi;obtain⟨G8,D8,Us⟩:=Gp T D1 GJ;obtain⟨G9,D9,VU⟩:=LP T D1 An;obtain⟨G10,Xy,Wn⟩:=M6 T dj Km (D9.up (by decide)) VU (D4.up (by decide)) zX;obtain⟨G11,Ti,Oq⟩:=LY T D8 Us Mg;obtain⟨G12,Xx,Wq⟩:=M7 (P:=lw.prog) (w:=w) (base:=base) T As;obtain⟨G13,Xw,VT⟩:=Gm T Ti Oq GI;obtain⟨G14,Xv,Wf⟩:=IG T Ti Oq IS;obtain⟨G15,Xu,Wr⟩:=M9 (P:=lw.prog) (w:=w) (base:=base) T Dy;obtain⟨G16,Xt,W6⟩:=IA T (Xu.up (by decide)) Wr (Xv.up (by decide)) Wf IQ;obtain⟨G17,Xs,VY⟩:=Iw T (Xy.up (by decide)) Wn (Xx.up (by decide)) Wq (Xt.up (by decide)) W6 (Xw.up (by decide)) VT Ap;obtain⟨G18,Xr,Wc⟩:=OV T (D4.up (by decide)) (D5.up (by decide)) Ar;obtain⟨G19,Th,RW⟩:=LS T (Xr.up (by decide)) Wc (D6.up (by decide)) (D7.up (by decide)) (D2.up (by decide)) Dv;obtain⟨G20,Tg,S2⟩:=M8 T dj (Th.up (by decide)) RW IU;obtain⟨X3,Pw,Um⟩:=LQ T (Tg.up (by decide)) Ao;obtain⟨X2,Tf,Ur⟩:=OO T (Tg.up (by decide)) vG;have Oi:zW 1 X3:=fun b n m Ls rows h1 h2 h3 h4 h5 h6 h7 h8=>Um _ _ (S2 b n m Ls rows 1 (.inl rfl) h1 h2 h3 h4 h5 h6 h7 (by omega)).1;have RZ:zW (-1) X2:=fun b n m Ls rows h1 h2 h3 h4 h5 h6 h7 h8=>Ur _ _ (S2 b n m Ls rows (-1) (.inr rfl) h1 h2 h3 h4 h5 h6 h7 (by omega)).1;obtain⟨G23,Te,hIn⟩:=Gq T dj (D7.up (by decide)) Dx;obtain⟨G24,Xq,Wb⟩:=LX T (Te.up (by decide)) hIn sV;obtain⟨G25,Xp,Wa⟩:=IB T (Pw.up (by decide)) Oi (Tf.up (by decide)) RZ (Te.up (by decide)) hIn (D3.up (by decide)) uE;obtain⟨G26,Xo,W8⟩:=LW T (Xq.up (by decide)) Wb (Xp.up (by decide)) Wa Mf;obtain⟨G27,Td,S0⟩:=LV (P:=lw.prog) (w:=w) (base:=base) T Aq;obtain⟨G28,Tc,RV⟩:=Iv T dj (D4.up (by decide)) qE;obtain⟨G29,Tb,wO⟩:=Gs T dj Km QP (D3.up (by decide)) (D4.up (by decide)) (D6.up (by decide)) GN;obtain⟨G30,Xn,W3⟩:=LU T dj (Th.up (by decide)) RW (Tc.up (by decide)) RV (Td.up (by decide)) S0 (Tb.up (by decide)) wO Dw
 obtain⟨G31,Xm,W5⟩:=II T (Pw.up (by decide)) Oi (Tf.up (by decide)) RZ (Tc.up (by decide)) RV (Td.up (by decide)) S0 (Tb.up (by decide)) wO (D7.up (by decide)) (Xn.up (by decide)) W3 vF;obtain⟨G32,Xl,Wi⟩:=IH T vD (D4.up (by decide)) IT;obtain⟨G33,Xk,Wg⟩:=QL T (D7.up (by decide)) GK;obtain⟨G34,Xj,Wk⟩:=OX T (Xs.up (by decide)) VY (Xo.up (by decide)) W8 (Pw.up (by decide)) Oi (Xk.up (by decide)) Wg (Xm.up (by decide)) W5 vH;obtain⟨G35,Xi,Wm⟩:=Gr T (Xj.up (by decide)) Wk (Xl.up (by decide)) Wi GL;have Ta:=OL (P:=lw.prog) (w:=w) (base:=base) T Ax;have GY:=OK (P:=lw.prog) (w:=w) (base:=base) T Aw;have Ky:=M4 (P:=lw.prog) (w:=w) (base:=base) T AA;have Pu:=M3 T Ky Ay;have T9:=IC T Ky zY;have T8:=IF (P:=lw.prog) (w:=w) (base:=base) T A3;obtain⟨G43,Xh,Wh⟩:=OT T Ky qH;obtain⟨G44,T7,S6⟩:=OW T Xh Wh oZ;have Xg:=OY T GY Ky uG;have Xf:=OU T (GY.up (by decide)) Xg AB;obtain⟨G47,Xe,Om⟩:=OR T Pu T9 uF;obtain⟨G48,Xd,W0⟩:=ID T Xe Om (T8.up (by decide)) zZ;obtain⟨G49,Xc,VW⟩:=Gn (P:=lw.prog) (w:=w) (base:=base) T xu;obtain⟨G50,Xb,W4⟩:=M1 T (T7.up (by decide)) S6 (Xd.up (by decide)) W0 (Xc.up (by decide)) VW qG;obtain⟨G52,T6,RY⟩:=OS T Pu T9 Dz;obtain⟨G53,X9,Wj⟩:=IE T T6 RY (T8.up (by decide)) A0;obtain⟨G51,Xa,Uo⟩:=M0 T Xb (T7.up (by decide)) S6 (X9.up (by decide)) Au;have VX:=KD W4 Wj Uo;obtain⟨G60,X8,Wv⟩:=Cb (P:=lw.prog) (w:=w) (base:=base) T A4 5;obtain⟨G61,X7,W9⟩:=OP T (T6.up (by decide)) RY (GY.up (by decide)) (Pu.up (by decide)) Az;obtain⟨G62,X6,Wl⟩:=M5 T (Ta.up (by decide)) (GY.up (by decide)) (Xf.up (by decide)) (X7.up (by decide)) W9 A1;obtain⟨G63,X5,Oo⟩:=Iy T (Xi.up (by decide)) Wm (Xa.up (by decide)) VX (X8.up (by decide)) Wv qF;have DL:=QK T (Ta.up (by decide)) (GY.up (by decide)) (X6.up (by decide)) Wl (X5.up (by decide)) Oo QU;exact(NJ DL fun ns hl=>by unfold DH;exact if_pos ⟨ns,rfl,hl⟩).mono (by decide)
end
end SO
namespace PySem.W.Fast
def tw3227074472446550801:=0
def tw11347252200276295357:=0
def tw1592179467837491737:=0
def tw12379350075650265196:=0
def tw2019004083793271332:=0
def tw5228126721831781601:=0
def tw1753725303325465876:=0
def tw10897965121337305982:=0
def tw2423273494142105910:=0
def tw15087801644275696973:=0
def tw8828237568178154490:=0
def tw7445358309924769442:=0
def tw3490613844967837245:=0
def tw17528592377912634408:=0
def tw4458838704502539377:=0
def tw17408242564758431999:=0
def tw6368854722548846900:=0
def tw16518676570609084999:=0
def tw14027929486279266610:=0
def tw15692285330251620946:=0
def tw412469486882579593:=0
def tw11468196235299044415:=0
def tw7361253553608449463:=0
def tw7238515585707785631:=0
def tw7171825039463613498:=0
def tw2623399620201743235:=0
def tw4164743012825755777:=0
def tw17098331905247730928:=0
def tw3758000982945179684:=0
def tw225010794987207465:=0
def tw8764002041473998621:=0
def tw15028886998454390283:=0
def tw3576597343257207399:=0
def tw9391380399469727612:=0
def tw10103484436525110776:=0
def tw14202973646308818535:=0
def tw10503763872579706212:=0
def tw5897046851071220372:=0
def tw2425896973843036227:=0
def tw16813846507873687888:=0
def tw12948012407679817939:=0
def tw7905743605272384933:=0
def tw5116468030707119856:=0
def tw17133142315201865908:=0
def tw16780372301459971996:=0
def tw800139924393516173:=0
def tw1321498763008082631:=0
def tw16726591959640960620:=0
def tw14955352188772984590:=0
def tw17737729413445127558:=0
def tw2661775755804899451:=0
def tw12902556510047370721:=0
def tw5820003431956448790:=0
def tw509192370868455230:=0
def tw13630412524903841258:=0
def tw5699188977193593706:=0
def tw15077896152380220169:=0
def tw4697552183635909250:=0
def tw9174103093849130129:=0
def tw14950164005775776900:=0
def tw12112668839190302818:=0
def tw7442127711816485285:=0
def tw5969715797453803303:=0
def tw15590280966430736427:=0
def tw6169759695328549180:=0
def tw13257049014675792548:=0
def tw18211708488502801027:=0
def tw3244381854421722255:=0
def tw14811568513525864149:=0
def tw5697348958833588080:=0
def tw12130355397275564924:=0
def tw12755555720669000195:=0
def tw16705103019087839214:=0
def tw1728957526098243786:=0
def tw9600487175535471493:=0
def tw2977953035657323260:=0
def tw15860160575112822913:=0
def tw10243996021193627484:=0
def tw8893641583155579098:=0
def tw5343265443302477663:=0
def tw507264781056112732:=0
def tw5524093813893613602:=0
def tw3061146769248785059:=0
def tw10418893313808358836:=0
def tw15809352135121245029:=0
def tw2113441692316617245:=0
def tw4263659564392393558:=0
def tw11061289674951056950:=0
def tw17451989836720012680:=0
def tw3767739027133189832:=0
def tw6628248738610843950:=0
def tw11923110575204587362:=0
def tw9015436844365979469:=0
def tw58694217705003713:=0
def tw15158161647383584197:=0
def tw8199695507199911674:=0
def tw5121690514006959745:=0
def tw2369107996981769980:=0
def tw1760228230246114428:=0
def tw491954332926844638:=0
def tw9346348046206157171:=0
def tw11712044294567817607:=0
def tw2523855363023203490:=0
def tw13379226410838096508:=0
def tw17727936834554450642:=0
def tw17216362823765987985:=0
def tw12723468885044402118:=0
def tw7667151045859756260:=0
def tw4571094276925520061:=0
def tw12137961470553717831:=0
def tw7719864736217864824:=0
def tw10189504986787713703:=0
def tw4067454486660950454:=0
def tw6272719290618555646:=0
def tw2414374134396430986:=0
def tw8095003931738387011:=0
def tw7077756580234752719:=0
def tw4153524358553945976:=0
def tw14765953800490470314:=0
def tw15875103835537695041:=0
def tw15829757976151944749:=0
def tw17961908699286800553:=0
def tw11070958883224886165:=0
def tw8892762857834300823:=0
def tw128103324756499655:=0
def tw10682829569096255742:=0
def tw17295445176257008299:=0
def tw9310362060981515498:=0
def tw15901970510012220923:=0
def tw11658595924050484072:=0
def tw15987846376048533286:=0
def tw16540238847041001121:=0
def tw5472316541719505534:=0
def tw8985613501356115300:=0
def tw17450910969069329395:=0
def tw10808606908211969575:=0
def tw7395346330807442088:=0
def tw15752288122059053815:=0
def tw2963433865298658307:=0
def tw6839232937343927068:=0
def tw8370579851733384352:=0
def tw2550069037696173789:=0
def tw3603563022055999316:=0
def tw2327861419294656371:=0
def tw7816606114707803925:=0
def tw12170910860963791501:=0
def tw14900995930510662685:=0
def tw10297333369101590353:=0
def tw13344473837350953353:=0
def tw18443887063211734502:=0
def tw10118060112232315743:=0
def tw3848271787028758894:=0
def tw443896369198439797:=0
def tw12580228663155273895:=0
def tw8835836723971164158:=0
def tw14046353201439828135:=0
def tw11970397947023217073:=0
def tw11502347758021091931:=0
def tw7366886857361266611:=0
def tw5059125235879454764:=0
def tw5479711995773725404:=0
def tw16174690754772890472:=0
def tw9638069427931795785:=0
def tw1840940070046572037:=0
def tw8205567276231165244:=0
def tw7810126947126542114:=0
def tw7455421716026258472:=0
def tw14973315085180624954:=0
def tw10399514091794098458:=0
def tw7458769871005533317:=0
def tw7044420758916206618:=0
def tw17570782320268691324:=0
def tw17141505856479418472:=0
def tw4834968080837355125:=0
def tw3208936398073252270:=0
def tw8612176811993102652:=0
def tw7256973594049866247:=0
def tw5761364952306122193:=0
def tw16888806472096911509:=0
def tw16333440452220492124:=0
def tw1519514378523335812:=0
def tw3282651227816470412:=0
def tw15560588399471881448:=0
def tw11101598483233145084:=0
def tw1357859551021785938:=0
def tw9223718863919337373:=0
def tw7926027210026019116:=0
def tw13970743956214910165:=0
def tw9936261369586123566:=0
def tw5676816316347782527:=0
def tw18429868464733197025:=0
def tw1786659586029510123:=0
def tw14865612246851362770:=0
def tw9245961473982885753:=0
def tw4153096706643423383:=0
def tw1606794185752896364:=0
def tw14698297110399494439:=0
def tw7294490369544151286:=0
def tw7260339534101932019:=0
def tw6829443335478738473:=0
def tw17415111722480947275:=0
def tw4693399030665502293:=0
def tw1617194181496748237:=0
def tw3702987348008317925:=0
def tw16473576661078895059:=0
def tw2429037245998896668:=0
def tw11212962435405974434:=0
def tw16553901677067257198:=0
def tw545271527872324485:=0
end PySem.W.Fast
open PySem PySem.W PyProof.Rows
local macro_rules | `(tactic| simp_all!) => `(tactic| (refine' L3.Uw (by assumption) (by assumption) ?a ?l ?c ?k ?b; (case a => k_is); (case l => k_is); (case c => k_is); (case k => k_is); (case b => intro _ _ _ _ _ _ us hl; rcases us with _ | ⟨_, _ | ⟨_, _ | ⟨_, _ | ⟨_, _ | ⟨_, _ | ⟨_, _⟩⟩⟩⟩⟩⟩ <;> first | rfl | cases hl)))
set_option maxRecDepth 100000 in
set_option maxHeartbeats 0 in
theorem PySem.Challenge.cw_stepjudge_k18_whole_either_paper_or_poin_holds : PySem.Challenge.rw_stepjudge_k18_whole_either_paper_or_poin.Holds := by
 w_on;o_law;x_head;(case hw=>w_witness2)
 k_fill
 refine L3.PK (k:=1) (by decide) (l:=PySem.Challenge.rw_stepjudge_k18_whole_either_paper_or_poin) rfl rfl (fun w h Y=>PySem.W.kIn_of Y) ?F;case F=>
  intro w mg fa h KX G FF;refine' SO.all_mk KX G FF ?u1 ?u2 ?u3 ?u4 ?u5 ?u6 ?u7 ?u8 ?u9 ?u10 ?u11 ?u12 ?u13 ?u14 ?u15 ?u16 ?u17 ?u18 ?u19 ?u20 ?u21 ?u22 ?u23 ?u24 ?u25 ?u26 ?u27 ?u28 ?u29 ?u30 ?u31 ?u32 ?u33 ?u34 ?u35 ?u36 ?u37 ?u38 ?u39 ?u40 ?u41 ?u42 ?u43 ?u44 ?u45 ?u46 ?u47 ?u48 ?u49 ?u50 ?u51 ?u52 ?u53 ?u54 ?u55 ?u56 ?t1 ?t2 ?t3 ?t4 ?a ?l ?c ?k ⟨?se,mg_none_of KX G ?z1,mg_none_of KX G ?z2,mg_none_of KX G ?z3,mg_none_of KX G ?z4,mg_none_of KX G ?z5,mg_none_of KX G ?z6,mg_none_of KX G ?z7,mg_none_of KX G ?z8,mg_none_of KX G ?z9,mg_none_of KX G ?z10,mg_none_of KX G ?z11,mg_none_of KX G ?z12,mg_none_of KX G ?z13⟩
  (case se=>refine' L3.KU KX G rfl ?s1 ?s3 ?s4 ?s5 ?s7 ?s8 ?s9 ?s2 ?s6;(case s1=>k_is);(case s3=>k_is);(case s4=>k_is);(case s5=>k_is);(case s7=>k_is);(case s8=>k_is);(case s9=>k_is);(case s2=>rfl);(case s6=>rfl))
  case u1|u2|u3|u4|u5|u6|u7|u8|u9|u10|u11|u12|u13|u14|u15|u16|u17|u18|u19|u20|u21|u22|u23|u24|u25|u26|u27|u28|u29|u30|u31|u32|u33|u34|u35|u36|u37|u38|u39|u40|u41|u42|u43|u44|u45|u46|u47|u48|u49|u50|u51|u52|u53|u54|u55|u56=>simp_all!
  case t1|t2|t3|t4=>refine' L3.xx KX G ?ta ?tl;(case ta=>k_is);(case tl=>k_is)
  case a|l|c|k=>k_is
  case z1|z2|z3|z4|z5|z6|z7|z8|z9|z10|z11|z12|z13=>k_is
