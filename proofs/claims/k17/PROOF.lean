import PyProof.Rows.All
import Wide.All
import OpenK.AllK
import Wide.FinOn
import Lean
import PyProof.EqAt
import PyProof.EqKinds
import PyProof.TupleCall
import KE.KDictList
import OpenK.XHead
import PySem.Challenge.RW_stepjudge_k17_lines_that_break
open PySem.W (methodObj Frag keepIn fnOf codeIn kia_one nsIn mg_of ns_none_of mg_none_of)
open PySem.Heap (lt_size SameBut get?_push_of_some get?_push_size size_push IsTuple IsList)
open Nat (lt_of_lt_of_le lt_irrefl ne_of_lt le_trans mul_one le_refl succ_mul add_comm le_of_eq lt_of_le_of_lt lt_trans zero_le le_add_right zero_add min_self mul_le_mul_left dvd_trans one_mul lcm sub_zero add_le_add mul_le_mul le_of_dvd add_sub_cancel reduceAdd reduceSub reduceEqDiff reduceLeDiff pow_add pow_le_pow_right pow_pos one_lt_two_pow mul_add)
open List (mem_filter mem_cons_self mem_cons_of_mem mem_cons append_assoc mem_append mem_append_left getElem?_set_self getElem?_set_ne mem_append_right size_toArray append_nil nodup_cons of_mem_zip length_take getElem?_append_right getElem?_replicate getElem?_append_left getElem?_map mem_of_getElem? length_append length_map length_replicate length_drop length_set all_cons any_cons replicate_succ flatten_cons foldl foldl_cons length_singleton nil_append map_nil map_cons getElem?_cons_succ getElem?_cons_zero drop_zero drop_eq_nil_of_le length_range getElem?_eq_getElem not_mem_nil mem_map cons_append length_cons zip_cons_cons all_map all_eq_true map_map length_zip map_congr_left map_append mem_singleton zipWith getD_eq_getElem?_getD length_zipWith range_succ mem_of_find?_eq_some find?_some filter_cons length_filter_le length_nil range' set_cons_zero set_cons_succ foldl_nil isEmpty mem_replicate map_take)
open Rat (le_of_lt mkRat_self intCast_mul inv_pos mul_eq_zero)
open Array (length_toList toList forIn_toList)
open Int (ne_of_gt toNat_natCast mul_comm gcd gcd_dvd_left gcd_dvd_right natAbs_mul mul_zero natAbs_natCast mul_ne_zero mul_pos natAbs_neg)
open Bool (and_eq_true eq_false_iff or_eq_true false_eq_true)
open Option (map_some map_none bind_none)
set_option Elab.async false
set_option linter.all false
set_option maxRecDepth 100000
namespace L2
noncomputable section
open PySem PySem.Spec PyProof.Rows
abbrev Key:=Sum Int Str
def Kq:Key->Value->Bool
 | .inl k,v=>Value.isInt k v
 | .inr x,v=>Value.isStrOf x v
def UI (w:World):Key->Int
 | .inl k=>hashInt k
 | .inr x=>hashStr w x
theorem eJ:∀{k:Key} {v:Value},Kq k v=true->(∃i t,k=Sum.inl i/\v=Value.int i t)\/(∃x t,k=Sum.inr x/\v=Value.str x t)
 | .inl i,v,h=>by
  obtain⟨t,e⟩:=Value.isInt_shape (k:=i) (v:=v) h;exact .inl ⟨i,t,rfl,e⟩
 | .inr x,v,h=>by
  obtain⟨t,e⟩:=Value.isStrOf_shape (x:=x) (v:=v) h;exact .inr ⟨x,t,rfl,e⟩
theorem Oz(a b:Int):decide ((Sum.inl a:Key)=Sum.inl b)=(a==b):=by
 by_cases e:a=b
 ·subst e;simp
 ·have h:¬(Sum.inl a:Key)=Sum.inl b:=fun q=>e (Sum.inl.inj q);rw[decide_eq_false h];exact(beq_eq_false_iff_ne.mpr e).symm
theorem Ow(a b:Str):decide ((Sum.inr a:Key)=Sum.inr b)=decide (a=b):=by
 by_cases e:a=b
 ·subst e;simp
 ·have h:¬(Sum.inr a:Key)=Sum.inr b:=fun q=>e (Sum.inr.inj q);rw[decide_eq_false h,decide_eq_false e]
theorem Oy(a:Int)(b:Str):decide ((Sum.inl a:Key)=Sum.inr b)=false:=decide_eq_false (fun q=>nomatch q)
theorem Ox(a:Str)(b:Int):decide ((Sum.inr a:Key)=Sum.inl b)=false:=decide_eq_false (fun q=>nomatch q)
def vF (prog:Program) (w:World):PySem.KeyKind prog w Key where
 is:=Kq
 hash:=UI w
 inj:=fun v a b ha hb=>by
  rcases eJ ha with⟨i,t,rfl,rfl⟩|⟨x,t,rfl,rfl⟩
  ·rcases eJ hb with⟨j,u,rfl,e⟩|⟨y,u,rfl,e⟩
   ·injection e with e1 _;rw[e1]
   ·exact nomatch e
  ·rcases eJ hb with⟨j,u,rfl,e⟩|⟨y,u,rfl,e⟩
   ·exact nomatch e
   ·injection e with e1 _;rw[e1]
 byValue:=fun k v h=>by
  rcases eJ h with⟨i,t,rfl,rfl⟩|⟨x,t,rfl,rfl⟩<;>rfl
 pyHash:=fun hv h=>by
  rcases eJ hv with⟨i,t,rfl,rfl⟩|⟨x,t,rfl,rfl⟩
  ·exact wpAny_pyHash_int h
  ·exact wpAny_pyHash_str h
 eqBool:=fun hu hv h=>by
  rcases eJ hu with⟨i,t,rfl,rfl⟩|⟨x,t,rfl,rfl⟩
  ·rcases eJ hv with⟨j,u,rfl,rfl⟩|⟨y,u,rfl,rfl⟩
   ·rw[Oz]at h;exact wpAny_eqBool_int h
   ·rw[Oy]at h;exact SeqAt.EqAt.int_str i t y u _ _ _ _ h
  ·rcases eJ hv with⟨j,u,rfl,rfl⟩|⟨y,u,rfl,rfl⟩
   ·rw[Ox]at h;exact SeqAt.EqAt.str_int x t j u _ _ _ _ h
   ·rw[Ow]at h;exact wpAny_eqBool_str h
 «strs»:=fun k x t v h=>by
  rcases eJ h with⟨i,u,rfl,e⟩|⟨y,u,rfl,e⟩
  ·exact nomatch e
  ·injection e with e1 _;subst e1;cases v<;>rfl
open PySem PySem.Spec PyProof.Rows
inductive V where
 |bM|bl (b:Bool)|int (i:Int)|str (x:Str)|mP (b:Array UInt8)|Pd (b:UInt64)|ref (a:Addr)|ty (n:String)
 deriving DecidableEq
def RelV:V->Value->Prop
 | .bM,u=>u=Value.none
 | .bl b,u=>u=Value.bool b
 | .int i,u=>∃t,u=Value.int i t
 | .str x,u=>∃t,u=Value.str x t
 | .mP b,u=>∃t,u=Value.bytes b t
 | .Pd b,u=>∃t,u=Value.float b t
 | .ref a,u=>u=Value.ref a
 | .ty n,u=>u=Value.type n
abbrev Vals:List V->List Value->Prop:=Paired RelV
variable {xs:List V} {us:List Value}
theorem Vals.length(r:Vals xs us):xs.length=us.length:=Paired.length r
theorem Vals.get:∀{xs:List V} {us:List Value} {i:Nat} {x:V},Vals xs us->xs[i]?=some x->∃u,us[i]?=some u/\RelV x u
 |_,_,_,_,.nil,e=>by simp at e
 |_,_,0,_,.cons r _,e=>by simp at e;subst e;exact⟨_,rfl,r⟩
 |_,_,i+1,x,.cons _ t,e=>by
  obtain⟨u,h1,h2⟩:=Vals.get (i:=i) (x:=x) t (by simpa using e);exact⟨u,by simpa using h1,h2⟩
theorem Vals.set{x:V}{u:Value}(r:RelV x u):∀{xs:List V} {us:List Value} (i:Nat),Vals xs us->Vals (xs.set i x) (us.set i u)
 |_,_,_,.nil=>.nil
 |_,_,0,.cons _ t=>.cons r t
 |_,_,i+1,.cons q t=>.cons q (Vals.set r i t)
theorem Vals.append:∀{xs ys:List V} {us ws:List Value},Vals xs us->Vals ys ws->Vals (xs++ys) (us++ws)
 |_,_,_,_,.nil,s=>s
 |_,_,_,_,.cons r t,s=>.cons r (Vals.append t s)
theorem Vals.take:∀{xs:List V} {us:List Value} (n:Nat),Vals xs us->Vals (xs.take n) (us.take n)
 |_,_,0,_=>.nil
 |_,_,_+1,.nil=>.nil
 |_,_,n+1,.cons r t=>.cons r (Vals.take n t)
theorem Vals.drop:∀{xs:List V} {us:List Value} (n:Nat),Vals xs us->Vals (xs.drop n) (us.drop n)
 |_,_,0,r=>r
 |_,_,_+1,.nil=>.nil
 |_,_,n+1,.cons _ t=>Vals.drop n t
def Qa:Option V->Option Value->Prop
 |some v,some u=>RelV v u
 |none,none=>True
 |_,_=>False
def KV {κ:Type}:List (κ×V)->List (κ×Value)->Prop:=Paired fun(p:κ×V) (q:κ×Value)=>p.1=q.1/\RelV p.2 q.2
def kV:Key->V
 | .inl i=>.int i
 | .inr x=>.str x
inductive HO where
 /-- a list -/
 |lst (xs:List V)
 /-- a tuple (never changes) -/
 |tup (xs:List V)
 /-- a dict Qu keys are ints and texts;one Qu keys are tuples of ints and texts (Bj empty one is both) -/
 |dK (fU:List (Key×V))|dT (fU:List (List Key×V))
 /-- a set of ints: ao members,ao size -/
 |set (S:Int->Bool) (n:Nat)
 /-- an instance of Bj class at C,ao dict at dx,ao attributes -/
 |ins (C dx:Addr) (fs:List (Str×V))
 /-- Bj dict of Bj instance at x -/
 |own (x:Addr)
 /-- Bj dict of an exception -/
 |xd (fs:List (Str×V))
 /-- a bound method,f of x -/
 |met (f x:Addr)
 /-- a range object lo,lo+1,.. below hi -/
 |NC (lo hi:Int)
 /-- a Qx that is known to Bj object (Bj script;a dict Qv a loop walks it): read,never written Qv it is so -/
 |sd (o:Obj) (u:HO)
 /-- a code object's table -/
 |yq (ps:Array Value)
 /-- any other Qx,by what is true of ao one object (a def of one's own: SetO a S n:=HO.ext fun h=>..) -/
 |ext (φ:Heap->Prop)
abbrev Hp:=Addr->Option HO
def upd (H:Hp) (a:Addr) (o:HO):Hp:=fun b=>if b=a then some o else H b
variable {H:Hp} {a:Addr} {o:HO}
theorem ee:upd H a o a=some o:=by unfold upd;rw[if_pos rfl]
variable {b:Addr}
theorem bD(h:b≠a):upd H a o b=H b:=by unfold upd;rw[if_neg h]
theorem bB(h:H a=some o)(h':H b=none):a≠b:=by
 intro e;subst e;rw[h]at h';cases h'
section
variable (P:Program) (w:World)
def gC (H:Hp) (h:Heap) (a:Addr):HO->Prop
 | .lst xs=>xs.length<=sizeLine/\∃(ao:List Value) (n:Nat),Vals xs ao/\h.get? a=some {cls:=.type "list",data:=.seq ao.toArray n}
 | .tup xs=>xs.length<=sizeLine/\∃ao:List Value,Vals xs ao/\IsTup h a ao.toArray
 | .dK fU=>fU.length<=sizeLine/\(a==sysModules)=false/\∃vs,KV fU vs/\h.DictOf (vF P w) a vs
 | .dT fU=>fU.length<=sizeLine/\(a==sysModules)=false/\∃xs:List (List Key×Addr×Value),
   Paired (fun(p:List Key×V) (q:List Key×Addr×Value)=>p.1=q.1/\H q.2.1=some (.tup (p.1.map kV))/\RelV p.2 q.2.2) fU xs/\
   ∃o es ep,h.get? a=some o/\o.ExactDict/\o.data=.dict es ep/\es.toList=xs.map (entryOfKey (tupleKind (vF P w)))/\(xs.map (·.1)).Nodup
 | .set S n=>h.SetOf (intKind P w) a S n
 | .ins C dx fs=>H dx=some (.own a)/\fs.length<=1000/\dx≠a/\h.get? a=some (PySem.W.instObj C dx)/\
   ∃mA,h.Ns1 dx mA/\(∀f,Qa (fs.lookup f) (mA f))/\PySem.Within mA (fs.map (·.1))
 | .own _=>∃o,h.get? a=some o
 | .xd fs=>∃mA,h.Ns1 a mA/\∀f,Qa (fs.lookup f) (mA f)
 | .NC lo hi=>∃t u v,h.get? a=some {cls:=.type "range",data:=.fields #[.int lo t,.int hi u,.int 1 v]}
 | .sd o u=>h.get? a=some o/\gC H h a u
 | .yq ps=>h.get? a=some {cls:=.none,data:=.fields ps}
 | .met f x=>h.get? a=some (methodObj (.ref f) (.ref x))
 | .ext φ=>φ h/\(∃o,h.get? a=some o)/\∀h1 h2:Heap,φ h1->(∀o,h1.get? a=some o->h2.get? a=some o)->φ h2
def ig (H:Hp) (h:Heap):Prop:=∀a o,H a=some o->gC P w H h a o
end
variable {P:Program} {w:World} {h:Heap}
theorem gC.lt(x:gC P w H h a o):a<h.objs.size:=by
 cases o with
 |lst xs=>obtain⟨_,_,_,_,e⟩:=x;exact lt_size e
 |tup xs=>obtain⟨_,_,_,p⟩:=x;exact p.lt
 |dK fU=>obtain⟨_,_,_,_,o,_,_,e,_⟩:=x;exact lt_size e
 |dT fU=>obtain⟨_,_,_,_,o,_,_,e,_⟩:=x;exact lt_size e
 |set S n=>obtain⟨o,_,_,_,e,_⟩:=x;exact lt_size e
 |ins C dx fs=>obtain⟨_,_,_,e,_⟩:=x;exact lt_size e
 |own y=>obtain⟨_,e⟩:=x;exact lt_size e
 |xd fs=>obtain⟨_,⟨_,_,_,e,_⟩,_⟩:=x;exact lt_size e
 |NC lo hi=>obtain⟨_,_,_,e⟩:=x;exact lt_size e
 |sd ob u=>obtain⟨e,_⟩:=x;exact lt_size e
 |yq ps=>exact lt_size (show h.get? a=some _ from x)
 |met f y=>exact lt_size (show h.get? a=some _ from x)
 |ext φ=>obtain⟨_,⟨_,e⟩,_⟩:=x;exact lt_size e
theorem Paired.Od{α β:Type}{F G:α->β->Prop}:∀{l₁:List α} {l₂:List β},Paired F l₁ l₂->(∀a b,F a b->G a b)->Paired G l₁ l₂
 |_,_,.nil,_=>.nil
 |_,_,.cons r t,f=>.cons (f _ _ r) (Paired.Od t f)
variable {H':Hp} {h':Heap}
theorem gC.nJ(x:gC P w H h a o)(k:∀b u,(b=a\/H b=some (.own a))->h.get? b=some u->h'.get? b=some u)(ho:∀b,H b=some (.own a)->H' b=some (.own a))(ht:∀b xs,H b=some (.tup xs)->H' b=some (.tup xs)):gC P w H' h' a o:=by
 induction o with
 |lst xs=>obtain⟨z,ao,n,r,e⟩:=x;exact⟨z,ao,n,r,k _ _ (.inl rfl) e⟩
 |tup xs=>obtain⟨z,ao,r,ob,e,c⟩:=x;exact⟨z,ao,r,ob,k _ _ (.inl rfl) e,c⟩
 |dK fU=>obtain⟨z,y,vs,r,ob,es,ep,e,c⟩:=x;exact⟨z,y,vs,r,ob,es,ep,k _ _ (.inl rfl) e,c⟩
 |dT fU=>
  obtain⟨z,y,xs,r,ob,es,ep,e,c⟩:=x;exact⟨z,y,xs,Paired.Od r fun p q z=>⟨z.1,ht _ _ z.2.1,z.2.2⟩,ob,es,ep,k _ _ (.inl rfl) e,c⟩
 |set S n=>obtain⟨ob,es,ep,t,e,c⟩:=x;exact⟨ob,es,ep,t,k _ _ (.inl rfl) e,c⟩
 |ins C dx fs=>
  obtain⟨d,z,ne,e,mA,⟨od,es,ep,e2,c⟩,r⟩:=x;exact⟨ho _ d,z,ne,k _ _ (.inl rfl) e,mA,⟨od,es,ep,k _ _ (.inr d) e2,c⟩,r⟩
 |own y=>obtain⟨ob,e⟩:=x;exact⟨ob,k _ _ (.inl rfl) e⟩
 |xd fs=>obtain⟨mA,⟨od,es,ep,e,c⟩,r⟩:=x;exact⟨mA,⟨od,es,ep,k _ _ (.inl rfl) e,c⟩,r⟩
 |NC lo hi=>obtain⟨t,u,v,e⟩:=x;exact⟨t,u,v,k _ _ (.inl rfl) e⟩
 |sd ob u ih=>obtain⟨e,q⟩:=x;exact⟨k _ _ (.inl rfl) e,ih q⟩
 |yq ps=>
  have e:h.get? a=some {cls:=.none,data:=.fields ps}:=x;show h'.get? a=some {cls:=.none,data:=.fields ps};exact k a _ (.inl rfl) e
 |met f y=>
  have e:h.get? a=some (methodObj (.ref f) (.ref y)):=x;show h'.get? a=some (methodObj (.ref f) (.ref y));exact k a _ (.inl rfl) e
 |ext φ=>obtain⟨p,⟨o,e⟩,st⟩:=x;exact⟨st _ _ p fun o q=>k _ _ (.inl rfl) q,⟨o,k _ _ (.inl rfl) e⟩,st⟩
theorem ig.lt(x:ig P w H h)(e:H a=some o):a<h.objs.size:=(x a o e).lt
theorem ig.fresh(x:ig P w H h)(e:h.objs.size<=a):H a=none:=by
 cases q:H a with
 |none=>rfl
 |some u=>exact absurd (lt_of_lt_of_le (x.lt q) e) (lt_irrefl _)
theorem ig.kept(x:ig P w H h)(k:∀b u,h.get? b=some u->h'.get? b=some u):ig P w H h':=fun a o e=>
 (x a o e).nJ (fun b u _ q=>k b u q) (fun _ q=>q) fun _ _ q=>q
theorem ig.laid(x:ig P w H h)(k:∀b u,h.get? b=some u->h'.get? b=some u)(hp:h.objs.size<=a)(new:gC P w (upd H a o) h' a o):ig P w (upd H a o) h':=fun b u e=>by
 have hn:=x.fresh hp;by_cases hb:b=a
 ·subst hb;rw[ee]at e;cases e;exact new
 ·rw[bD hb]at e;exact(x b u e).nJ (fun c v _ q=>k c v q) (fun c q=>by rw[bD (bB q hn)];exact q) fun c xs q=>by rw[bD (bB q hn)];exact q
def Rd (H:Hp) (a:Addr) (u:HO):Prop:=H a=some u\/∃o,H a=some (.sd o u)
theorem Rd.ok{u:HO}(r:Rd H a u)(x:ig P w H h):gC P w H h a u:=by
 rcases r with r|⟨o,r⟩
 ·exact x a u r
 ·obtain⟨_,q⟩:=x a _ r;exact q
def Li:Option HO->Prop
 |some (.lst _)=>True
 |some (.dK _)=>True
 |some (.dT _)=>True
 |some (.set _ _)=>True
 |some (.ins _ _ _)=>True
 |some (.ext _)=>True
 |_=>False
variable {x e:Addr} {o':HO}
theorem ig.write(ok:ig P w H h)(mu:Li (H x))(he:e=x\/H e=some (.own x))(k:∀b u,b≠e->h.get? b=some u->h'.get? b=some u)(Ck:∃u,h'.get? e=some u)(new:gC P w (upd H x o') h' x o'):ig P w (upd H x o') h':=fun b u q=>by
 have O9:∀c y,H c=some (.own y)->c≠x:=fun c y r z=>by subst z;rw[r]at mu;exact mu
 have UA:∀c xs,H c=some (.tup xs)->c≠x:=fun c xs r z=>by subst z;rw[r]at mu;exact mu
 by_cases hb:b=x
 ·subst hb;rw[ee]at q;cases q;exact new
 ·rw[bD hb]at q;by_cases zS:b=e
  ·have q':H b=some (.own x):=by
    rcases he with z|z
    ·exact absurd (zS.trans z) hb
    ·rw[zS];exact z
   rw[q]at q';cases q';obtain⟨v,hv⟩:=Ck;exact⟨v,by rw[zS];exact hv⟩
  ·refine(ok b u q).nJ (fun c v hc r=>k c v ?_ r) (fun c r=>by rw[bD (O9 c b r)];exact r) fun c xs r=>by rw[bD (UA c xs r)];exact r
   rcases hc with rfl|hc
   ·exact zS
   ·rintro rfl;rcases he with z|z
    ·exact O9 c b hc z
    ·rw[hc]at z;cases z;exact hb rfl
structure Un (fs ex:List Addr) (H H':Hp) (h h':Heap):Prop where
 keep:∀b o,h.get? b=some o->H b=none->b∉fs->b∉ex->h'.get? b=some o
 slot:∀b o,h.get? b=some o->H b=none->b∈fs->b∉ex->∃sl,h'.get? b=some {o with slots:=sl}
 free:∀b o,h.get? b=some o->H b=none->b∉ex->H' b=none
 there:∀b o,h.get? b=some o->b∉ex->∃o',h'.get? b=some o'
 nG:∀b xs,H b=some (.tup xs)->H' b=some (.tup xs)
 mI:∀b o u,H b=some (.sd o u)->H' b=some (.sd o u)
 nI:∀b ps,H b=some (.yq ps)->∃more,H' b=some (.yq (ps++more))
variable {ex:List Addr} {H1:Hp} {h1:Heap}
variable {fs:List Addr} in
theorem Un.any(u:Un fs ex H H1 h h1){ob:Obj}(q:h.get? b=some ob)(n:H b=none)(hx:b∉ex):∃sl,h1.get? b=some {ob with slots:=sl}:=by
 by_cases hb:b∈fs
 ·exact u.slot b ob q n hb hx
 ·exact⟨ob.slots,u.keep b ob q n hb hx⟩
variable {fs:List Addr} in
theorem Un.kept(k:∀b u,h.get? b=some u->h'.get? b=some u):Un fs ex H H h h':=
 ⟨fun b ob q _ _ _=>k b ob q,fun b ob q _ _ _=>⟨ob.slots,k b ob q⟩,fun _ _ _ n _=>n,fun b ob q _=>⟨ob,k b ob q⟩,fun _ _ q=>q,fun _ _ _ q=>q,fun _ ps q=>⟨#[],by rw[q];simp⟩⟩
variable {fs:List Addr} in
theorem Un.refl:Un fs ex H H h h:=Un.kept fun _ _ q=>q
variable {fs:List Addr} in
theorem Un.laid(k:∀b u,h.get? b=some u->h'.get? b=some u)(hp:h.objs.size<=a)(hn:H a=none):Un fs ex H (upd H a o) h h' where
 keep:=fun b u q _ _ _=>k b u q
 slot:=fun b u q _ _ _=>⟨u.slots,k b u q⟩
 free:=fun b u q n _=>by rw[bD (ne_of_lt (lt_of_lt_of_le (lt_size q) hp))];exact n
 there:=fun b u q _=>⟨u,k b u q⟩
 nG:=fun b xs q=>by rw[bD (bB q hn)];exact q
 mI:=fun b u xs q=>by rw[bD (bB q hn)];exact q
 nI:=fun b ps q=>⟨#[],by rw[bD (bB q hn),q];simp⟩
variable {fs:List Addr} in
theorem Un.write(mu:Li (H x))(he:e=x\/H e=some (.own x))(k:∀b u,b≠e->h.get? b=some u->h'.get? b=some u)(Ck:∃u,h'.get? e=some u):Un fs ex H (upd H x o) h h':=by
 have hx:∀b,H b=none->b≠x:=fun b n z=>by subst z;rw[n]at mu;exact mu
 have hb:∀b,H b=none->b≠e:=fun b n z=>by
  subst z;rcases he with r|r
  ·exact hx b n r
  ·rw[n]at r;cases r
 have hm:∀b u,H b=some u->¬Li (some u)->b≠x:=fun b u q nm z=>by subst z;rw[q]at mu;exact nm mu
 refine⟨fun b u q n _ _=>k b u (hb b n) q,fun b u q n _ _=>⟨u.slots,k b u (hb b n) q⟩,fun b u q n _=>by rw[bD (hx b n)];exact n,fun b u q _=>?_,
  fun b xs q=>by rw[bD (hm b _ q fun z=>z)];exact q,fun b u xs q=>by rw[bD (hm b _ q fun z=>z)];exact q,fun b ps q=>⟨#[],by rw[bD (hm b _ q fun z=>z),q];simp⟩⟩
 by_cases zS:b=e
 ·subst zS;exact Ck
 ·exact⟨u,k b u zS q⟩
def JR (h:Heap) (H:Hp):List Addr:=(List.range h.objs.size).filter fun a=>(H a).isSome
def oR (h:Heap) (H:Hp):Heap:=PySem.W.hideAll h (JR h H)
theorem GB(h:Heap)(H:Hp):(oR h H).objs.size=h.objs.size:=PySem.W.hideAll_size _ _
variable {o:Obj}
theorem IZ(e:h.get? b=some o)(n:H b=none):(oR h H).get? b=some o:=
 PySem.W.hideAll_get _ e fun hm=>by
  have q:(H b).isSome=true:=(mem_filter.mp hm).2;rw[n]at q;simp at q
theorem M8(e:(oR h H).get? b=some o):h.get? b=some o/\H b=none:=by
 have e':h.get? b=some o:=PySem.W.of_hideAll (JR h H) e;refine⟨e',?_⟩;cases q:H b with
 |none=>rfl
 |some x=>
  have hm:b∈JR h H:=mem_filter.mpr ⟨List.mem_range.mpr (lt_size e'),by simp[q]⟩;have z:(oR h H).get? b=none:=PySem.W.hideAll_none (JR h H) hm;rw[z]at e;cases e
def ML (g h:Heap) (L:Addr):List (Addr×Obj):=(List.range h.objs.size).filterMap fun a=>if a=L\/(g.get? a).isSome=true then none else(h.get? a).map fun o=>(a,o)
def rest (g h:Heap) (L d:Addr):List (Addr×Obj):=(ML g h L).filter fun p=>decide (p.1≠d)
open PySem PySem.Spec PyProof.Rows
structure Mod (K:Frag) (mg:Str->Option Value) (base:Heap):Prop where
 uu:K.In base
 glob:base.Ns mainGlobals mg
 blt:∃mb,base.Ns builtinsNs mb/\∀x:Str,x≠"__name__"->mb x=bootBuiltins x
 nolimit:base.NoLimit
structure Cx where
 prog:Program
 w:World
 K:Frag
 mg:Str->Option Value
 base:Heap
 A:Around
 N:List Str
 aK:Shared
 aj:Hp
 env:Env
 outer:List Env
 stack:List Env
 ex:List Addr
 fn:Str->Bool
 calm:Bool
 pn:List (Addr×Obj)
 xe:Value->Shared->Prop
def l5 (l:List Env):List Addr:=l.filterMap (·.frame)
abbrev Cx.fs (X:Cx):List Addr:=l5 X.outer
def mS (sc:Scope) (x:Str):Prop:=sc.names.lookup x=some .local\/sc.names.lookup x=some .cell\/sc.names.lookup x=some .free
def Loc (sc:Scope) (x:Str):Prop:=sc.names.lookup x=some .local\/sc.names.lookup x=some .cell
def Look (env:Env) (h:Heap) (m:Str->Option Value) (x:Str) (u:Value):Prop:=
 (env.kindOf x=some .local/\m x=some u)\/((env.kindOf x=some .cell\/env.kindOf x=some .free)/\∃c,env.cells.lookup x=some c/\h.IsCell c (some u))
structure Cx.Ok (X:Cx):Prop where
 mod:Mod X.K X.mg X.base
 kind:X.env.scope.kind=.function
 glob:X.env.globals=mainGlobals
 blt:X.env.builtins=builtinsNs
 above:X.aK.heap.objs.size<=X.env.locals
 inj:∀x y c,X.env.cells.lookup x=some c->X.env.cells.lookup y=some c->x=y
 has:∀x,(X.env.kindOf x=some .cell\/X.env.kindOf x=some .free)->∃c,X.env.cells.lookup x=some c
 Hv:∀x c,X.fn x=true->X.env.cells.lookup x=some c->X.aK.heap.objs.size<=c
 hd:X.calm=true->X.A.handled=none
 frames:X.A.frames=some X.stack
 K1:X.stack=X.outer\/(X.stack=X.env::X.outer/\X.env.frame=some X.env.locals)
 CB:∀b∈X.ex,b≠X.env.locals/\∀x c,X.env.cells.lookup x=some c->c≠b
 bs:∀b o,X.base.get? b=some o->X.aK.heap.get? b=some o/\X.aj b=none
 xC:X.base.objs.size<=X.aK.heap.objs.size
 vD:∀b o,X.base.get? b=some o->b∉X.ex
 vO:∀b∈X.ex,b∉X.fs
 mH:X.aK.heap.FunFrames X.base X.outer
 Cv:∀b∈X.fs,X.aj b=none
structure Inv (X:Cx) (pins:List (Addr×Obj)) (σ:List (Option V)) (H:Hp) (s:Shared):Prop where
 ok:X.Ok
 os:s.os=X.aK.os
 bare:AllBare s.gens
 base:Un X.fs X.ex X.aj H X.aK.heap s.heap
 loc:∃m,s.heap.Ns X.env.locals m/\∀(i:Nat) (x:Str) (v:V),X.N[i]?=some x->σ[i]?=some (some v)->mS X.env.scope x->∃u,RelV v u/\Look X.env s.heap m x u
 cell:∀x c,X.env.cells.lookup x=some c->∃v,s.heap.IsCell c v
 free:H X.env.locals=none
 jy:∀x c,X.env.cells.lookup x=some c->H c=none
 pin:∀p∈X.pn++pins,s.heap.get? p.1=some p.2/\H p.1=none/\p.1≠X.env.locals/\p.1∉X.fs/\∀v,p.2.data≠.cell v
 bF:ig X.prog X.w H s.heap
 len:σ.length=X.N.length
variable {X:Cx}
theorem Cx.Ok.UD(ok:X.Ok)(e:X.base.get? b=some o):b∉X.fs:=fun hb=>by
 have:=(ok.mH.mem hb).1;rw[e]at this;cases this
variable {σ:List (Option V)} {pins:List (Addr×Obj)}
variable {s:Shared} in
theorem Inv.bs(I:Inv X pins σ H s):∀b o,X.base.get? b=some o->s.heap.get? b=some o/\H b=none:=fun b o e=>
 ⟨I.base.keep b o (I.ok.bs b o e).1 (I.ok.bs b o e).2 (I.ok.UD e) (I.ok.vD b o e),I.base.free b o (I.ok.bs b o e).1 (I.ok.bs b o e).2 (I.ok.vD b o e)⟩
variable {s:Shared} in
theorem Inv.bk(I:Inv X pins σ H s):∀b o,X.base.get? b=some o->s.heap.get? b=some o:=fun b o e=>(I.bs b o e).1
variable {s:Shared} in
theorem Inv.mod(I:Inv X pins σ H s):Mod X.K X.mg X.base:=I.ok.mod
variable {s:Shared} in
theorem Inv.pg(I:Inv X pins σ H s):X.K.In s.heap:=I.ok.mod.uu.keeps I.bk
variable {s:Shared} in
theorem Inv.nolimit(I:Inv X pins σ H s):s.heap.NoLimit:=I.ok.mod.nolimit.keeps I.bk
variable {s:Shared} in
theorem Inv.lt(I:Inv X pins σ H s):X.env.locals<s.heap.objs.size:=let ⟨_,hn,_⟩:=I.loc;hn.lt
variable {s:Shared} in
theorem Inv.sz(I:Inv X pins σ H s):X.aK.heap.objs.size<=s.heap.objs.size:=le_trans I.ok.above (Nat.le_of_lt I.lt)
variable {s:Shared} in
theorem Inv.UC(I:Inv X pins σ H s)(h:s.heap.objs.size<=a):a∉X.fs:=fun hb=>by
 obtain⟨_,o,ho,_⟩:=I.ok.mH.mem hb;exact absurd (lt_of_lt_of_le (lt_size ho) (le_trans I.sz h)) (lt_irrefl _)
variable {s:Shared} in
theorem Inv.Ap(I:Inv X pins σ H s):∀x c,X.env.cells.lookup x=some c->c≠X.env.locals:=fun x c e z=>by
 obtain⟨v,o,ho,hd⟩:=I.cell x c e;obtain⟨m,⟨o',es,ep,pv,dM,_⟩,_⟩:=I.loc;rw[z,pv]at ho;cases ho;rw[dM]at hd;cases hd
variable {s:Shared} in
theorem Inv.mH(I:Inv X pins σ H s):s.heap.FunFrames X.base X.outer:=by
 have all:∀(l:List Env),(∀b∈l5 l,b∈X.fs)->X.aK.heap.FunFrames X.base l->s.heap.FunFrames X.base l:=by
  intro l;induction l with
  |nil=>intro _ _;trivial
  |cons env r ih=>
   intro hs hl;obtain⟨hk,⟨L,o,hf,hn,ho,hd⟩,hr⟩:=hl;have hL:L∈X.fs:=hs L (by unfold l5;rw[List.filterMap_cons,hf];exact mem_cons_self);obtain⟨sl,e⟩:=I.base.slot L o ho (I.ok.Cv L hL) hL fun z=>I.ok.vO L z hL;exact⟨hk,⟨L,_,hf,hn,e,hd⟩,ih (fun b hb=>hs b (by unfold l5;rw[List.filterMap_cons,hf];exact mem_cons_of_mem _ hb)) hr⟩
 exact all X.outer (fun _ hb=>hb) I.ok.mH
variable {s:Shared} in
theorem Inv.stack(I:Inv X pins σ H s):s.heap.FunFrames X.base X.stack:=by
 rcases I.ok.K1 with e|⟨e,hf⟩
 ·rw[e];exact I.mH
 ·rw[e];obtain⟨m,hn,_⟩:=I.loc;refine .cons (by rw[I.ok.kind];decide) hf hn ?_ I.mH;exact Heap.get?_none_of_le (le_trans I.ok.xC I.ok.above)
variable {s:Shared} in
theorem Inv.tT(I:Inv X pins σ H s):∀b∈l5 X.stack,b∈X.env.locals::X.fs:=fun b hb=>by
 rcases I.ok.K1 with e|⟨e,hf⟩
 ·rw[e]at hb;exact mem_cons_of_mem _ hb
 ·rw[e]at hb;unfold l5 at hb;rw[List.filterMap_cons,hf]at hb;exact hb
variable {s:Shared} in
theorem Inv.vk(I:Inv X pins σ H s):∀b∈l5 X.stack,H b=none:=fun b hb=>by
 rcases mem_cons.mp (I.tT b hb)with e|hb
 ·rw[e];exact I.free
 ·obtain⟨_,o,ho,_⟩:=I.ok.mH.mem hb;exact I.base.free b o ho (I.ok.Cv b hb) fun z=>I.ok.vO b z hb
variable {t':Nat} {ch:List Addr}
variable {s:Shared} in
theorem Inv.step{g':Array GenState}{d':Drawn}(I:Inv X pins σ H s)(pB:∀b∈ch,(b∈X.ex\/X.aK.heap.objs.size<=b)/\b≠X.env.locals/\(∀x c,X.env.cells.lookup x=some c->c≠b)/\∀p∈X.pn++pins,p.1≠b)(keep:∀b o,b≠X.env.locals->b∉X.fs->b∉ch->s.heap.get? b=some o->H b=none->h'.get? b=some o)(slot:∀b o,b≠X.env.locals->b∈X.fs->b∉ch->s.heap.get? b=some o->H b=none->∃sl,h'.get? b=some {o with slots:=sl})(free:∀b o,b∉ch->s.heap.get? b=some o->H b=none->H' b=none)(there:∀b o,b∉ch->s.heap.get? b=some o->∃o',h'.get? b=some o')(nG:∀b xs,H b=some (.tup xs)->H' b=some (.tup xs))(mI:∀b o u,H b=some (.sd o u)->H' b=some (.sd o u))(nI:∀b ps,H b=some (.yq ps)->∃more,H' b=some (.yq (ps++more)))(ns:∀m,s.heap.Ns X.env.locals m->h'.Ns X.env.locals m)(bF:ig X.prog X.w H' h')(hg:AllBare g'):
  Inv X pins σ H' {s with heap:=h',gens:=g',drawn:=d',toks:=t'}:=by
 have S8:∀b o,X.aK.heap.get? b=some o->b≠X.env.locals:=fun b o e=>ne_of_lt (lt_of_lt_of_le (lt_size e) I.ok.above);have wU:∀b o,X.aK.heap.get? b=some o->b∉X.ex->b∉ch:=fun b o e hx hb=>by
  rcases(pB b hb).1 with z|z
  ·exact hx z
  ·exact absurd (lt_of_lt_of_le (lt_size e) z) (lt_irrefl _)
 have cellK:∀x c,X.env.cells.lookup x=some c->∀v,s.heap.IsCell c v->h'.IsCell c v:=fun x c e v aQ=>by
  obtain⟨o,ho,hd⟩:=aQ;have G6:c∉ch:=fun z=>(pB c z).2.2.1 x c e rfl;by_cases hc:c∈X.fs
  ·obtain⟨sl,q⟩:=slot c o (I.Ap x c e) hc G6 ho (I.jy x c e);exact⟨_,q,hd⟩
  ·exact⟨o,keep c o (I.Ap x c e) hc G6 ho (I.jy x c e),hd⟩
 refine⟨I.ok,I.os,hg,⟨fun b o e n hb hx=>?_,fun b o e n hb hx=>?_,fun b o e n hx=>?_,fun b o e hx=>?_,fun b xs e=>nG b xs (I.base.nG b xs e),fun b o xs e=>mI b o xs (I.base.mI b o xs e),fun b ps e=>?_⟩,?_,fun x c e=>?_,?_,fun x c e=>?_,fun p hp=>?_,bF,I.len⟩
 ·exact keep b o (S8 b o e) hb (wU b o e hx) (I.base.keep b o e n hb hx) (I.base.free b o e n hx)
 ·obtain⟨sl,e1⟩:=I.base.slot b o e n hb hx;obtain⟨RX,e2⟩:=slot b _ (S8 b o e) hb (wU b o e hx) e1 (I.base.free b o e n hx);exact⟨RX,e2⟩
 ·obtain⟨o',e1⟩:=I.base.there b o e hx;exact free b o' (wU b o e hx) e1 (I.base.free b o e n hx)
 ·obtain⟨o',e1⟩:=I.base.there b o e hx;exact there b o' (wU b o e hx) e1
 ·obtain⟨m1,e1⟩:=I.base.nI b ps e;obtain⟨m2,e2⟩:=nI b _ e1;exact⟨m1++m2,by rw[e2,Array.append_assoc]⟩
 ·obtain⟨m,hn,hl⟩:=I.loc;refine⟨m,ns m hn,fun i x v e1 e2 e3=>?_⟩;obtain⟨u,r,l⟩:=hl i x v e1 e2 e3;refine⟨u,r,?_⟩;rcases l with l|⟨k,c,e,z⟩
  ·exact .inl l
  ·exact .inr ⟨k,c,e,cellK x c e _ z⟩
 ·obtain⟨v,z⟩:=I.cell x c e;exact⟨v,cellK x c e v z⟩
 ·obtain⟨m,⟨o,_,_,ho,_⟩,_⟩:=I.loc;exact free _ o (fun z=>(pB _ z).2.1 rfl) ho I.free
 ·obtain⟨v,o,ho,hd⟩:=I.cell x c e;exact free c o (fun z=>(pB c z).2.2.1 x c e rfl) ho (I.jy x c e)
 ·obtain⟨e,n,ne,nf,d⟩:=I.pin p hp;have G6:p.1∉ch:=fun z=>(pB p.1 z).2.2.2 p hp rfl;exact⟨keep p.1 p.2 ne nf G6 e n,free p.1 p.2 G6 e n,ne,nf,d⟩
variable {s:Shared} in
theorem Inv.un(I:Inv X pins σ H s)(u:Un X.fs [] H H' s.heap h')(bF:ig X.prog X.w H' h'):Inv X pins σ H' {s with heap:=h',toks:=t'}:=by
 obtain⟨m,⟨o,es,ep,ho,r⟩,_⟩:=id I.loc;obtain⟨sl,hL⟩:=u.any ho I.free (by simp);exact I.step (g':=s.gens) (d':=s.drawn) (ch:=[]) (fun _ z=>nomatch z) (fun b o _ hb _ e n=>u.keep b o e n hb (by simp)) (fun b o _ hb _ e n=>u.slot b o e n hb (by simp)) (fun b o _ e n=>u.free b o e n (by simp)) (fun b o _ e=>u.there b o e (by simp)) u.nG u.mI u.nI (fun m' hm=>by
  obtain⟨o',CC,GY,pv,r'⟩:=hm;rw[ho]at pv;cases pv;exact⟨_,CC,GY,hL,r'⟩) bF I.bare
variable {s:Shared} in
theorem Inv.call{g':Array GenState}{d':Drawn}(I:Inv X pins σ H s)(u:Un (l5 X.stack) ch H H' s.heap h')(bF:ig X.prog X.w H' h')(hg:AllBare g')(pB:∀b∈ch,(b∈X.ex\/X.aK.heap.objs.size<=b)/\b≠X.env.locals/\(∀x c,X.env.cells.lookup x=some c->c≠b)/\∀p∈X.pn++pins,p.1≠b):
  Inv X pins σ H' {s with heap:=h',gens:=g',drawn:=d',toks:=t'}:=by
 obtain⟨m,⟨o,es,ep,ho,r⟩,_⟩:=id I.loc;obtain⟨sl,hL⟩:=u.any ho I.free fun z=>(pB _ z).2.1 rfl;exact I.step (ch:=ch) pB (fun b o hL hb hc e n=>u.keep b o e n (fun z=>(mem_cons.mp (I.tT b z)).elim hL hb) hc) (fun b o _ _ hc e n=>u.any e n hc) (fun b o hc e n=>u.free b o e n hc) (fun b o hc e=>u.there b o e hc) u.nG u.mI u.nI (fun m' hm=>by
  obtain⟨o',CC,GY,pv,r'⟩:=hm;rw[ho]at pv;cases pv;exact⟨_,CC,GY,hL,r'⟩) bF hg
variable {s:Shared} in
theorem Inv.turned{it:Addr}(I:Inv X pins σ H s)(k:∀b o,b≠it->s.heap.get? b=some o->h'.get? b=some o)(hn:H it=none)(hL:it≠X.env.locals)(h1:it∈X.ex\/X.aK.heap.objs.size<=it)(h2:∀x c,X.env.cells.lookup x=some c->c≠it)(h3:∀p∈X.pn++pins,p.1≠it):Inv X pins σ H {s with heap:=h',toks:=t'}:=by
 have S7:∀b u,H b=some u->b≠it:=fun b u e z=>by rw[z,hn]at e;cases e
 refine I.step (g':=s.gens) (d':=s.drawn) (ch:=[it]) (fun b hb=>?_) (fun b o _ _ hc e _=>k b o (fun z=>hc (by simp[z])) e) (fun b o _ _ hc e _=>⟨o.slots,k b o (fun z=>hc (by simp[z])) e⟩) (fun _ _ _ _ n=>n)
  (fun b o hc e=>⟨o,k b o (fun z=>hc (by simp[z])) e⟩) (fun _ _ e=>e) (fun _ _ _ e=>e) (fun b ps e=>⟨#[],by rw[e];simp⟩) (fun m hm=>?_) (fun b u e=>?_) I.bare
 ·have e:b=it:=by simpa using hb
  subst e;exact⟨h1,hL,h2,h3⟩
 ·obtain⟨o,es,ep,ho,r⟩:=hm;exact⟨o,es,ep,k _ o (Ne.symm hL) ho,r⟩
 ·refine(I.bF b u e).nJ (fun c v hc q=>k c v ?_ q) (fun _ q=>q) fun _ _ q=>q;rcases hc with z|z
  ·rw[z];exact S7 b u e
  ·exact S7 c _ z
variable {s:Shared} in
theorem Inv.tok(I:Inv X pins σ H s)(t:Nat):Inv X pins σ H {s with toks:=t}:=I.un (h':=s.heap) (t':=t) Un.refl I.bF
variable {s:Shared} in
theorem Inv.kept(I:Inv X pins σ H s)(k:∀b u,s.heap.get? b=some u->h'.get? b=some u):Inv X pins σ H {s with heap:=h',toks:=t'}:=I.un (Un.kept k) (I.bF.kept k)
variable {s:Shared} in
theorem Inv.laid{o:HO}(I:Inv X pins σ H s)(k:∀b u,s.heap.get? b=some u->h'.get? b=some u)(hp:s.heap.objs.size<=a)(new:gC X.prog X.w (upd H a o) h' a o):
  Inv X pins σ (upd H a o) {s with heap:=h',toks:=t'}:=I.un (Un.laid k hp (I.bF.fresh hp)) (I.bF.laid k hp new)
variable {s:Shared} in
theorem Inv.write{o:HO}(I:Inv X pins σ H s)(mu:Li (H x))(he:e=x\/H e=some (.own x))(k:∀b u,b≠e->s.heap.get? b=some u->h'.get? b=some u)(Ck:∃u,h'.get? e=some u)(new:gC X.prog X.w (upd H x o) h' x o):Inv X pins σ (upd H x o) {s with heap:=h',toks:=t'}:=I.un (Un.write mu he k Ck) (I.bF.write mu he k Ck new)
variable {s:Shared} in
theorem Inv.weak{bI:List (Option V)}(I:Inv X pins σ H s)(hl:bI.length=σ.length)(w:∀(i:Nat) v,bI[i]?=some (some v)->σ[i]?=some (some v)):Inv X pins bI H s:=
 ⟨I.ok,I.os,I.bare,I.base,let ⟨m,hn,jo⟩:=I.loc;⟨m,hn,fun i x v e1 e2 e3=>jo i x v e1 (w i v e2) e3⟩,I.cell,I.free,I.jy,I.pin,I.bF,hl.trans I.len⟩
variable {s:Shared} in
theorem Inv.jL{pins':List (Addr×Obj)}(I:Inv X pins σ H s)(h:∀p∈pins',s.heap.get? p.1=some p.2/\H p.1=none/\p.1≠X.env.locals/\p.1∉X.fs/\∀v,p.2.data≠.cell v):Inv X pins' σ H s:=
 ⟨I.ok,I.os,I.bare,I.base,I.loc,I.cell,I.free,I.jy,fun p hp=>(mem_append.mp hp).elim (fun z=>I.pin p (mem_append_left _ z)) (h p),I.bF,I.len⟩
variable {N:List Str} {i:Nat} {x:Str}
theorem zk(hN:N.Nodup){j:Nat}(a:N[i]?=some x)(b:N[j]?=some x):i=j:=by
 obtain⟨h1,e1⟩:=List.getElem?_eq_some_iff.mp a;obtain⟨h2,e2⟩:=List.getElem?_eq_some_iff.mp b;exact(List.getElem_inj hN).mp (e1.trans e2.symm)
variable {M:Model} {A:Around} {E:Value->Shared->Prop} {v:V} {u:Value}
variable {s:Shared} in
theorem wC{Q:Unit->Shared->Prop}(I:Inv X pins σ H s)(hN:X.N.Nodup)(hi:X.N[i]?=some x)(hx:Loc X.env.scope x)(r:RelV v u)(h:∀s',Inv X pins (σ.set i (some v)) H s'->(∃a,SameBut a s.heap s'.heap/\(a=X.env.locals\/X.env.cells.lookup x=some a))->Q () s')(hf:X.fn x=true\/X.env.scope.names.lookup x=some .local:=by first|exact .inl rfl|exact .inr rfl|assumption):wpAny M A (storeName X.env x u) Q E s:=by
 obtain⟨m,hn,hl⟩:=id I.loc;have V0:(X.env.scope.kind == .class || (X.env.scope.kind == .module&&X.env.locals !=X.env.globals))=false:=by rw[I.ok.kind];rfl
 have OX:i<σ.length:=by rw[I.len];exact(List.getElem?_eq_some_iff.mp hi).1
 have Ap:=I.Ap;have tracked:∀{a:Addr} {h':Heap},(∃o,s.heap.get? a=some o/\H a=none)->SameBut a s.heap h'->ig X.prog X.w H h':=fun{a h'} ha hs b ob e=>by
  obtain⟨_,_,KD⟩:=ha;refine(I.bF b ob e).nJ (fun c w' hc q=>(hs.2 c ?_).trans q) (fun _ q=>q) fun _ _ q=>q;rintro rfl;rcases hc with rfl|hc
  ·rw[KD]at e;cases e
  ·rw[KD]at hc;cases hc
 rcases hx with hk|hk
 ·refine wpAny_storeName_local hk hn (fun h' lH hs=>?_) V0;obtain⟨oL,_,_,W7,_⟩:=id hn;refine h _ ⟨I.ok,I.os,I.bare,⟨fun b o e n hb hx=>?_,fun b o e n hb hx=>?_,I.base.free,fun b o e hx=>?_,I.base.nG,I.base.mI,I.base.nI⟩,⟨_,lH,fun j y v' e1 e2 e3=>?_⟩,fun y c e=>?_,I.free,I.jy,fun p hp=>?_,tracked ⟨oL,W7,I.free⟩ hs,by simpa using I.len⟩ ⟨_,hs,.inl rfl⟩
  ·exact(hs.2 b (ne_of_lt (lt_of_lt_of_le (lt_size e) I.ok.above))).trans (I.base.keep b o e n hb hx)
  ·obtain⟨sl,e1⟩:=I.base.slot b o e n hb hx;exact⟨sl,(hs.2 b (ne_of_lt (lt_of_lt_of_le (lt_size e) I.ok.above))).trans e1⟩
  ·obtain⟨o',e1⟩:=I.base.there b o e hx;exact⟨o',(hs.2 b (ne_of_lt (lt_of_lt_of_le (lt_size e) I.ok.above))).trans e1⟩
  ·by_cases hj:j=i
   ·subst hj;rw[hi]at e1;cases e1;rw[getElem?_set_self OX]at e2;cases e2;exact⟨u,r,.inl ⟨hk,by simp⟩⟩
   ·rw[getElem?_set_ne (Ne.symm hj)]at e2;obtain⟨u',r',q⟩:=hl j y v' e1 e2 e3;refine⟨u',r',?_⟩;rcases q with⟨k,e⟩|⟨k,c,e,z⟩
    ·refine .inl ⟨k,?_⟩;have:y≠x:=fun e=>hj (zk hN e1 (e▸hi));simp[this,e]
    ·exact .inr ⟨k,c,e,z.sameBut hs (Ap y c e)⟩
  ·obtain⟨w',z⟩:=I.cell y c e;exact⟨w',z.sameBut hs (Ap y c e)⟩
  ·obtain⟨e,n,ne,nf,d⟩:=I.pin p hp;exact⟨(hs.2 p.1 ne).trans e,n,ne,nf,d⟩
 ·have uH:X.fn x=true:=by
   rcases hf with z|z
   ·exact z
   ·rw[z]at hk;cases hk
  obtain⟨c,hc⟩:=I.ok.has x (.inl hk);obtain⟨w',z⟩:=I.cell x c hc;refine wpAny_storeName_cell I.ok.kind hk hc z (fun h' iG hs=>?_);obtain⟨oc,Ss,US⟩:=id z;refine h {s with heap:=h'} ⟨I.ok,I.os,I.bare,⟨fun b o e n hb hx=>?_,fun b o e n hb hx=>?_,I.base.free,fun b o e hx=>?_,I.base.nG,I.base.mI,I.base.nI⟩,⟨m,hn.sameBut hs (Ne.symm (Ap x c hc)),fun j y v' e1 e2 e3=>?_⟩,fun y c' e=>?_,I.free,I.jy,fun p hp=>?_,tracked ⟨oc,Ss,I.jy x c hc⟩ hs,by simpa using I.len⟩ ⟨c,hs,.inr hc⟩
  ·exact(hs.2 b (ne_of_lt (lt_of_lt_of_le (lt_size e) (I.ok.Hv x c uH hc)))).trans (I.base.keep b o e n hb hx)
  ·obtain⟨sl,e1⟩:=I.base.slot b o e n hb hx;exact⟨sl,(hs.2 b (ne_of_lt (lt_of_lt_of_le (lt_size e) (I.ok.Hv x c uH hc)))).trans e1⟩
  ·obtain⟨o',e1⟩:=I.base.there b o e hx;exact⟨o',(hs.2 b (ne_of_lt (lt_of_lt_of_le (lt_size e) (I.ok.Hv x c uH hc)))).trans e1⟩
  ·by_cases hj:j=i
   ·subst hj;rw[hi]at e1;cases e1;rw[getElem?_set_self OX]at e2;cases e2;exact⟨u,r,.inr ⟨.inl hk,c,hc,iG⟩⟩
   ·rw[getElem?_set_ne (Ne.symm hj)]at e2;obtain⟨u',r',q⟩:=hl j y v' e1 e2 e3;refine⟨u',r',?_⟩;rcases q with q|⟨k,c',e,z'⟩
    ·exact .inl q
    ·refine .inr ⟨k,c',e,z'.sameBut hs ?_⟩;rintro rfl;exact hj (zk hN e1 (I.ok.inj _ _ _ e hc▸hi))
  ·by_cases GH:c'=c
   ·subst GH;exact⟨_,iG⟩
   ·obtain⟨w2,z2⟩:=I.cell y c' e;exact⟨w2,z2.sameBut hs GH⟩
  ·obtain⟨e,n,ne,nf,d⟩:=I.pin p hp;refine⟨(hs.2 p.1 ?_).trans e,n,ne,nf,d⟩;intro q;rw[q,Ss]at e;have q':oc=p.2:=Option.some.inj e;exact d w' (by rw[<- q'];exact US)
variable {s:Shared} in
theorem ox{Q:Unit->Shared->Prop}(I:Inv X pins σ H s)(hN:X.N.Nodup)(hi:X.N[i]?=some x)(hx:Loc X.env.scope x)(r:RelV v u)(h:∀s',Inv X pins (σ.set i (some v)) H s'->Q () s')(hf:X.fn x=true\/X.env.scope.names.lookup x=some .local:=by first|exact .inl rfl|exact .inr rfl|assumption):wpAny M A (storeName X.env x u) Q E s:=
 wC I hN hi hx r (fun s' I' _=>h s' I') hf
variable {s':Shared}
variable {s:Shared} in
theorem Inv.L8(I:Inv X pins σ H s)(ho:s'.os=s.os)(u:Un (l5 X.stack) ch H H' s.heap s'.heap)(bF:ig X.prog X.w H' s'.heap)(hg:AllBare s'.gens)(pB:∀b∈ch,(b∈X.ex\/X.aK.heap.objs.size<=b)/\b≠X.env.locals/\(∀x c,X.env.cells.lookup x=some c->c≠b)/\∀p∈X.pn++pins,p.1≠b):Inv X pins σ H' s':=by
 obtain⟨h',g',d',t',o'⟩:=s';have e:o'=s.os:=ho;subst e;exact I.call (g':=g') (t':=t') (d':=d') u bF hg pB
abbrev XK:=Value->Option Addr->Hp->Prop
abbrev St:=List (Option V)
abbrev VK:=V->Hp->Prop
abbrev TE:=St->Hp->VK->Prop
abbrev TT:=St->Hp->(Bool->Hp->Prop)->Prop
abbrev TA:=St->Hp->(List V->Hp->Prop)->Prop
structure Ends where
 nx:St->Hp->Prop
 rt:VK
 bk:St->Hp->Prop:=fun _ _=>False
 ct:St->Hp->Prop:=fun _ _=>False
abbrev TS:=Ends->St->Hp->Prop
def EP (X:Cx) (pins:List (Addr×Obj)) (σ:St) (Q:VK) (u:Value) (s':Shared):Prop:=∃v H',Inv X pins σ H' s'/\RelV v u/\Q v H'
def TP (X:Cx) (pins:List (Addr×Obj)) (σ:St) (Q:Bool->Hp->Prop) (b:Bool) (s':Shared):Prop:=∃H',Inv X pins σ H' s'/\Q b H'
def AP (X:Cx) (pins:List (Addr×Obj)) (σ:St) (Q:List V->Hp->Prop) (us:List Value) (s':Shared):Prop:=∃vs H',Inv X pins σ H' s'/\Vals vs us/\Q vs H'
def SP (X:Cx) (pins:List (Addr×Obj)) (D:Ends) (f:Flow) (s':Shared):Prop:=
 match f with
 | .next=>∃bI H',Inv X pins bI H' s'/\D.nx bI H'
 | .brk=>∃bI H',Inv X pins bI H' s'/\D.bk bI H'
 | .cont=>∃bI H',Inv X pins bI H' s'/\D.ct bI H'
 | .ret u=>∃v bI H',Inv X pins bI H' s'/\RelV v u/\D.rt v H'
def PE (X:Cx) (e:Expr) (t:TE):Prop:=
 ∀(pins:List (Addr×Obj)) (s:Shared) (σ:St) (H:Hp) (Q:VK),Inv X pins σ H s->t σ H Q->wpAny (model X.prog X.w) X.A (eval e X.env) (EP X pins σ Q) X.xe s
def PT (X:Cx) (e:Expr) (t:TT):Prop:=
 ∀(pins:List (Addr×Obj)) (s:Shared) (σ:St) (H:Hp) (Q:Bool->Hp->Prop),Inv X pins σ H s->t σ H Q->wpAny (model X.prog X.w) X.A (isTrue e X.env (eval e X.env)) (TP X pins σ Q) X.xe s
def PW (X:Cx) (e:Expr) (t:TT):Prop:=
 ∀(whole:Sem Value) (pins:List (Addr×Obj)) (s:Shared) (σ:St) (H:Hp) (Q:Bool->Hp->Prop),Inv X pins σ H s->t σ H Q->wpAny (model X.prog X.w) X.A (isTrue e X.env whole) (TP X pins σ Q) X.xe s
variable {e:Expr}
theorem PW.pt{t:TT}(h:PW X e t):PT X e t:=h _
def PA (X:Cx) (es:List Expr) (t:TA):Prop:=
 ∀(pos:Pos) (pins:List (Addr×Obj)) (s:Shared) (σ:St) (H:Hp) (Q:List V->Hp->Prop),Inv X pins σ H s->t σ H Q->wpAny (model X.prog X.w) X.A (spliced (backTo pos (starEach es X.env))) (AP X pins σ Q) X.xe s
def PS (X:Cx) (st:Stmt) (t:TS):Prop:=
 ∀(pins:List (Addr×Obj)) (s:Shared) (σ:St) (H:Hp) (D:Ends),Inv X pins σ H s->t D σ H->wpAny (model X.prog X.w) X.A (exec st X.env) (SP X pins D) X.xe s
def lr (X:Cx) (st:List Stmt) (t:TS):Prop:=
 ∀(pins:List (Addr×Obj)) (s:Shared) (σ:St) (H:Hp) (D:Ends),Inv X pins σ H s->t D σ H->wpAny (model X.prog X.w) X.A (execs st X.env) (SP X pins D) X.xe s
variable {α:Type}
theorem c8{t:Sem α}{Q Q':α->Shared->Prop}{s:Shared}(h:wpAny M A t Q E s)(hQ:∀a s,Q a s->Q' a s):wpAny M A t Q' E s:=wpAny_mono h hQ fun _ _ x=>x
open PySem PySem.Spec PyProof.Rows
def Uh (i:Nat):TE:=fun σ H Q=>∃v,σ[i]?=some (some v)/\Q v H
def tC (v:V):TE:=fun _ H Q=>Q v H
variable {pos:Pos}
theorem mv(hN:X.N[i]?=some x)(hv:mS X.env.scope x)(hd:(x==("__debug__" : Str))=false:=by decide)(gw:(x==("__classdict__" : Str))=false:=by decide):PE X (.Name x pos) (Uh i):=by
 intro pins s σ H Q I h;obtain⟨v,e,h⟩:=h;obtain⟨m,hn,hl⟩:=I.loc;obtain⟨u,r,l⟩:=hl i x v hN e hv;have fin:EP X pins σ Q u s:=⟨v,H,I,r,h⟩;rcases l with⟨hk,hm⟩|⟨hk,c,hc,KJ⟩
 ·exact wpAny_Name (wpAny_loadName_local I.ok.kind hk hn hm fin) hd
 ·rcases hk with hk|hk
  ·exact wpAny_Name (wpAny_loadName_cell I.ok.kind hk hc KJ fin) hd
  ·exact wpAny_Name (wpAny_loadName_free I.ok.kind hk hc KJ fin gw) hd
theorem FJ{i j pos}:PE X (.Constant (.int i) j pos) (tC (.int i)):=fun _ _ _ H _ I h=>wpAny_Constant_int ⟨.int i,H,I.tok _,⟨_,rfl⟩,h⟩
theorem Rc{b j pos}:PE X (.Constant (.bool b) j pos) (tC (.bl b)):=fun _ _ _ H _ I h=>Constant_bool ⟨.bl b,H,I,rfl,h⟩
theorem O0{j pos}:PE X (.Constant .none j pos) (tC .bM):=fun _ _ _ H _ I h=>Constant_none ⟨.bM,H,I,rfl,h⟩
theorem NX{x j pos}:PE X (.Constant (.str x) j pos) (tC (.str x)):=fun _ _ _ H _ I h=>Calls.Constant_str ⟨.str x,H,I.tok _,⟨_,rfl⟩,h⟩
def Gl (X:Cx) (x:Str):Prop:=X.env.kindOf x=some .globalImplicit
theorem Cc{s:Shared}{σ:St}{Q:Value->Shared->Prop}(I:Inv X pins σ H s)(hg:Gl X x)(hm:X.mg x=some u)(h:Q u s)(hd:(x==("__debug__" : Str))=false:=by decide):wpAny (model X.prog X.w) X.A (eval (.Name x pos) X.env) Q E s:=
 Calls.Name_function_global I.ok.kind hg (Calls.loadGlobal_global (by rw[I.ok.glob];exact I.mod.glob.keeps I.bk) hm h) hd
theorem mB{s:Shared}{σ:St}{Q:Value->Shared->Prop}(I:Inv X pins σ H s)(hg:Gl X x)(hm:X.mg x=none)(hv:bootBuiltins x=some u)(h:Q u s)(hn:x≠"__name__":=by decide)(hd:(x==("__debug__" : Str))=false:=by decide):wpAny (model X.prog X.w) X.A (eval (.Name x pos) X.env) Q E s:=by
 obtain⟨mb,h1,h2⟩:=I.mod.blt;exact Calls.Name_function_global I.ok.kind hg (Calls.loadGlobal_builtin (by rw[I.ok.glob];exact I.mod.glob.keeps I.bk) hm (by rw[I.ok.blt];exact h1.keeps I.bk) ((h2 x hn).trans hv) h) hd
theorem M3(hg:Gl X x)(hm:X.mg x=some u)(r:RelV v u)(hd:(x==("__debug__" : Str))=false:=by decide):PE X (.Name x pos) (tC v):=
 fun _ _ _ H _ I h=>Cc I hg hm ⟨v,H,I,r,h⟩ hd
theorem M4(hg:Gl X x)(hm:X.mg x=none)(hv:bootBuiltins x=some u)(r:RelV v u)(hn:x≠"__name__":=by decide)(hd:(x==("__debug__" : Str))=false:=by decide):PE X (.Name x pos) (tC v):=
 fun _ _ _ H _ I h=>mB I hg hm hv ⟨v,H,I,r,h⟩ hn hd
def Ut (t u:TT):TT:=fun σ H Q=>t σ H fun c H1=>if c=true then u σ H1 Q else Q false H1
def Vz (t u:TT):TT:=fun σ H Q=>t σ H fun c H1=>if c=true then Q true H1 else u σ H1 Q
def Uo (t:TT):TT:=fun σ H Q=>t σ H fun c H1=>Q (!c) H1
variable {tA:TT} {a:Expr}
theorem BJ(ha:PT X a tA):PW X (.BoolOp .And [a] pos) tA:=by
 intro wh pins s σ H Q I h;refine isTrue_and (c8 (ha pins s σ H Q I h) fun c s1 e=>?_);cases c with
 |true=>exact isTrue_and_nil e
 |false=>exact e
theorem NP(ha:PT X a tA):PW X (.BoolOp .Or [a] pos) tA:=by
 intro wh pins s σ H Q I h;refine isTrue_or (c8 (ha pins s σ H Q I h) fun c s1 e=>?_);cases c with
 |false=>exact isTrue_or_nil e
 |true=>exact e
variable {b:Expr} {JZ:TT}
variable {rest:List Expr} in
theorem Fz(ha:PT X a tA)(hb:PW X (.BoolOp .And (b::rest) pos) JZ):PW X (.BoolOp .And (a::b::rest) pos) (Ut tA JZ):=by
 intro wh pins s σ H Q I h;refine isTrue_and (c8 (ha pins s σ H _ I h) fun c s1 ⟨H1,I1,q1⟩=>?_);cases c with
 |true=>exact hb wh pins s1 σ H1 Q I1 q1
 |false=>exact⟨H1,I1,q1⟩
variable {rest:List Expr} in
theorem QV(ha:PT X a tA)(hb:PW X (.BoolOp .Or (b::rest) pos) JZ):PW X (.BoolOp .Or (a::b::rest) pos) (Vz tA JZ):=by
 intro wh pins s σ H Q I h;refine isTrue_or (c8 (ha pins s σ H _ I h) fun c s1 ⟨H1,I1,q1⟩=>?_);cases c with
 |true=>exact⟨H1,I1,q1⟩
 |false=>exact hb wh pins s1 σ H1 Q I1 q1
theorem NQ(ha:PT X a tA):PT X (.UnaryOp .Not a pos) (Uo tA):=by
 intro pins s σ H Q I h;exact isTrue_not (ha pins s σ H (fun c H1=>Q (!c) H1) I h)
variable {tb ta:TE}
def QL (ta tb:TE):TE:=fun σ H Q=>ta σ H fun x H1=>∃c,x=.bl c/\if c=true then tb σ H1 Q else Q (.bl false) H1
def Um (ta tb:TE):TE:=fun σ H Q=>ta σ H fun x H1=>∃c,x=.bl c/\if c=true then Q (.bl true) H1 else tb σ H1 Q
def Qz (ta:TE):TE:=fun σ H Q=>ta σ H fun x H1=>∃c,x=.bl c/\Q (.bl (!c)) H1
theorem NY{op}{t:TE}(h:PE X a t):PE X (.BoolOp op [a] pos) t:=fun pins s σ H Q I hw=>BoolOp_one (h pins s σ H Q I hw)
variable {rest:List Expr} in
theorem O1(ha:PE X a ta)(hb:PE X (.BoolOp .And (b::rest) pos) tb):PE X (.BoolOp .And (a::b::rest) pos) (QL ta tb):=by
 intro pins s σ H Q I h;refine BoolOp_and (c8 (ha pins s σ H _ I h) fun v s1 ⟨x,H1,I1,r1,q1⟩=>?_);obtain⟨c,rfl,q1⟩:=q1;cases r1;refine wpAny_truthy_bool ?_;cases c with
 |true=>exact hb pins s1 σ H1 Q I1 q1
 |false=>exact⟨.bl false,H1,I1,rfl,q1⟩
variable {rest:List Expr} in
theorem R9(ha:PE X a ta)(hb:PE X (.BoolOp .Or (b::rest) pos) tb):PE X (.BoolOp .Or (a::b::rest) pos) (Um ta tb):=by
 intro pins s σ H Q I h;refine BoolOp_or (c8 (ha pins s σ H _ I h) fun v s1 ⟨x,H1,I1,r1,q1⟩=>?_);obtain⟨c,rfl,q1⟩:=q1;cases r1;refine wpAny_truthy_bool ?_;cases c with
 |false=>exact hb pins s1 σ H1 Q I1 q1
 |true=>exact⟨.bl true,H1,I1,rfl,q1⟩
theorem NZ(ha:PE X a ta):PE X (.UnaryOp .Not a pos) (Qz ta):=by
 intro pins s σ H Q I h;refine UnaryOp_ (c8 (ha pins s σ H _ I h) fun v s1 ⟨x,H1,I1,r1,q1⟩=>?_);obtain⟨c,rfl,q1⟩:=q1;cases r1;exact not_of (wpAny_truthy_bool ⟨.bl (!c),H1,I1,rfl,q1⟩)
def VA (t:TT) (ta tb:TE):TE:=fun σ H Q=>t σ H fun c H1=>if c=true then ta σ H1 Q else tb σ H1 Q
variable {c:Expr}
theorem IB(hc:PT X c tA)(ha:PE X a ta)(hb:PE X b tb):PE X (.IfExp c a b pos) (VA tA ta tb):=by
 intro pins s σ H Q I h;refine wpAny_IfExp (c8 (hc pins s σ H _ I h) fun d s1 ⟨H1,I1,q1⟩=>?_);cases d with
 |true=>exact ha pins s1 σ H1 Q I1 q1
 |false=>exact hb pins s1 σ H1 Q I1 q1
open PySem PySem.Spec PyProof.Rows
def fF (K:Frag) (H:Hp) (a:Addr) (xs:List V):Prop:=
 Rd H a (.lst xs)\/
  ∃(o:Obj) (ao:Array Value) (n:Nat),K.lookup a=some o/\o.cls=.type "list"/\o.dict=none/\o.data=.seq ao n/\ao.size<=sizeLine/\Vals xs ao.toList
def jb (K:Frag) (H:Hp) (a:Addr) (xs:List V):Prop:=
 Rd H a (.tup xs)\/
  ∃(o:Obj) (ao:Array Value) (n:Nat),K.lookup a=some o/\o.cls=.type "tuple"/\o.data=.seq ao n/\ao.size<=sizeLine/\Vals xs ao.toList
def Vl:Value->Option V
 | .none=>some .bM
 | .bool b=>some (.bl b)
 | .int i _=>some (.int i)
 | .str x _=>some (.str x)
 | .bytes b _=>some (.mP b)
 | .float b _=>some (.Pd b)
 | .ref a=>some (.ref a)
 | .type n=>some (.ty n)
 |_=>none
theorem RelV.abs{x:V}(r:RelV x u):Vl u=some x:=by
 cases x with
 |bM=>cases r;rfl
 |bl _=>cases r;rfl
 |int _=>obtain⟨t,rfl⟩:=r;rfl
 |str _=>obtain⟨t,rfl⟩:=r;rfl
 |mP _=>obtain⟨t,rfl⟩:=r;rfl
 |Pd _=>obtain⟨t,rfl⟩:=r;rfl
 |ref _=>cases r;rfl
 |ty _=>cases r;rfl
theorem RelV.inj{x y:V}(r:RelV x u)(q:RelV y u):x=y:=Option.some.inj (r.abs.symm.trans q.abs)
theorem Vals.inj:∀{xs ys:List V} {us:List Value},Vals xs us->Vals ys us->xs=ys
 |_,_,_,.nil,.nil=>rfl
 |_,_,_,.cons r t,.cons r' t'=>by rw[r.inj r',Vals.inj t t']
variable {a:Addr} {K:Frag}
theorem fF.of(h:H a=some (.lst xs)):fF K H a xs:=.inl (.inl h)
variable {σ:St}
variable {s:Shared} in
theorem Inv.list(I:Inv X pins σ H s)(h:fF X.K H a xs):∃ao:List Value,Vals xs ao/\PlainL s.heap a ao.toArray/\xs.length<=sizeLine:=by
 rcases h with h|⟨o,ao,n,hk,hc,hd,hs,hz,r⟩
 ·obtain⟨z,ao,n,r,e⟩:=h.ok I.bF;exact⟨ao,r,⟨_,n,e,rfl,rfl,rfl⟩,z⟩
 ·refine⟨ao.toList,r,⟨o,n,I.pg a o hk,hc,hd,by simpa using hs⟩,?_⟩;have e:=r.length;simp only[length_toList]at e;omega
variable {s:Shared} in
theorem Inv.tuple(I:Inv X pins σ H s)(h:jb X.K H a xs):∃ao:List Value,Vals xs ao/\IsTup s.heap a ao.toArray/\xs.length<=sizeLine:=by
 rcases h with h|⟨o,ao,n,hk,hc,hs,hz,r⟩
 ·obtain⟨z,ao,r,p⟩:=h.ok I.bF;exact⟨ao,r,p,z⟩
 ·refine⟨ao.toList,r,⟨o,I.pg a o hk,hc,n,by simpa using hs⟩,?_⟩;have e:=r.length;simp only[length_toList]at e;omega
variable {ys:List V}
variable {s:Shared} in
theorem Inv.sZ(I:Inv X pins σ H s)(h:fF X.K H a xs)(h':fF X.K H a ys):xs=ys:=by
 obtain⟨ao,r,⟨o,n,e,_,_,d⟩,_⟩:=I.list h;obtain⟨its',r',⟨o',n',e',_,_,d'⟩,_⟩:=I.list h';rw[e]at e';cases e';rw[d]at d';injection d' with d1 _;have:ao=its':=by simpa using congrArg toList d1
 subst this;exact r.inj r'
variable {s:Shared} in
theorem Inv.wA(I:Inv X pins σ H s)(h:jb X.K H a xs)(h':jb X.K H a ys):xs=ys:=by
 obtain⟨ao,r,⟨o,e,_,n,d⟩,_⟩:=I.tuple h;obtain⟨its',r',⟨o',e',_,n',d'⟩,_⟩:=I.tuple h';rw[e]at e';cases e';rw[d]at d';injection d' with d1 _;have:ao=its':=by simpa using congrArg toList d1
 subst this;exact r.inj r'
abbrev Cx.nF (X:Cx) (E:Value->Shared->Prop):Cx:={X with xe:=E}
abbrev Cx.nZ (X:Cx):Cx:=X.nF fun _ _=>False
theorem Cx.Ok.nF(ok:X.Ok)(E:Value->Shared->Prop):(X.nF E).Ok:=
 ⟨ok.mod,ok.kind,ok.glob,ok.blt,ok.above,ok.inj,ok.has,ok.Hv,ok.hd,ok.frames,ok.K1,ok.CB,ok.bs,ok.xC,ok.vD,ok.vO,ok.mH,ok.Cv⟩
theorem Cx.Ok.kT(ok:(X.nF E).Ok):X.Ok:=
 ⟨ok.mod,ok.kind,ok.glob,ok.blt,ok.above,ok.inj,ok.has,ok.Hv,ok.hd,ok.frames,ok.K1,ok.CB,ok.bs,ok.xC,ok.vD,ok.vO,ok.mH,ok.Cv⟩
variable {s:Shared} in
theorem Inv.nF(I:Inv X pins σ H s)(E:Value->Shared->Prop):Inv (X.nF E) pins σ H s:=⟨I.ok.nF E,I.os,I.bare,I.base,I.loc,I.cell,I.free,I.jy,I.pin,I.bF,I.len⟩
variable {s:Shared} in
theorem Inv.kT(I:Inv (X.nF E) pins σ H s):Inv X pins σ H s:=⟨I.ok.kT,I.os,I.bare,I.base,I.loc,I.cell,I.free,I.jy,I.pin,I.bF,I.len⟩
variable {D:Ends}
theorem SP.kT{f:Flow}(h:SP (X.nF E) pins D f s'):SP X pins D f s':=by
 cases f with
 |next=>obtain⟨bI,H',I,q⟩:=h;exact⟨bI,H',I.kT,q⟩
 |brk=>obtain⟨bI,H',I,q⟩:=h;exact⟨bI,H',I.kT,q⟩
 |cont=>obtain⟨bI,H',I,q⟩:=h;exact⟨bI,H',I.kT,q⟩
 |ret u=>obtain⟨v,bI,H',I,r,q⟩:=h;exact⟨v,bI,H',I.kT,r,q⟩
variable {t:TS}
theorem lr.nZ{st:List Stmt}(h:lr X.nZ st t):lr X st t:=fun pins s σ H D I hw=>
 wpAny_mono (h pins s σ H D (I.nF _) hw) (fun _ _ q=>q.kT) fun _ _ z=>False.elim z
def QB:TS:=fun D σ H=>D.nx σ H
variable {u:TS}
def Uj (t u:TS):TS:=fun D σ H=>t {D with nx:=u D} σ H
theorem LP:lr X [] QB:=fun _ _ σ H _ I h=>wpAny_execs_nil ⟨σ,H,I,h⟩
variable {st:Stmt}
variable {rest:List Stmt} in
theorem Io(h1:PS X st t)(h2:lr X rest u):lr X (st::rest) (Uj t u):=by
 intro pins s σ H D I h;refine wpAny_execs_cons (c8 (h1 pins s σ H {D with nx:=u D} I h) fun f s1 q=>?_);cases f with
 |next=>
  obtain⟨bI,H',I',q⟩:=q;exact h2 pins s1 bI H' D I' q
 |ret v=>exact q
 |brk=>exact q
 |cont=>exact q
theorem BN(h1:PS X st t):lr X [st] t:=by
 intro pins s σ H D I h;refine wpAny_execs_cons (c8 (h1 pins s σ H D I h) fun f s1 q=>?_);cases f with
 |next=>exact wpAny_execs_nil q
 |ret v=>exact q
 |brk=>exact q
 |cont=>exact q
theorem Inv.quiet{σ:St}{s:Shared}(I:Inv X pins σ H s):interactive X.env=false:=by simp[interactive,I.ok.kind]
variable {te:TE}
def QJ (te:TE):TS:=fun D σ H=>te σ H fun _ H1=>D.nx σ H1
theorem LQ(he:PE X e te)(hs:swapsWith e none pos.line X.env=pure false:=by rfl):PS X (.Expr e pos) (QJ te):=by
 intro pins s σ H D I h;exact wpAny_Expr_any (c8 (he pins s σ H _ I h) fun v s1 ⟨x,H1,I1,r1,q1⟩=>⟨σ,H1,I1,q1⟩) I.quiet hs
def Uk (te:TE):TS:=fun D σ H=>te σ H D.rt
theorem ug(he:PE X e te):PS X (.Return (some e) pos) (Uk te):=by
 intro pins s σ H D I h;exact wpAny_Return_some (c8 (he pins s σ H _ I h) fun v s1 ⟨x,H1,I1,r1,q1⟩=>⟨x,σ,H1,I1,r1,q1⟩)
def Ur (c:TT) (t u:TS):TS:=fun D σ H=>c σ H fun b H1=>if b=true then t D σ H1 else u D σ H1
theorem K9{a b:List Stmt}{tc:TT}(hc:PT X c tc)(ha:lr X a t)(hb:lr X b u):PS X (.If c a b pos) (Ur tc t u):=by
 intro pins s σ H D I h;refine wpAny_If (c8 (hc pins s σ H _ I h) fun d s1 ⟨H1,I1,q1⟩=>?_);cases d with
 |true=>exact ha pins s1 σ H1 D I1 q1
 |false=>exact hb pins s1 σ H1 D I1 q1
abbrev TG:=V->St->Hp->(St->Hp->Prop)->Prop
abbrev sk:=List V->St->Hp->(St->Hp->Prop)->Prop
def PG (X:Cx) (target:Expr) (t:TG):Prop:=
 ∀(pins:List (Addr×Obj)) (s:Shared) (σ:St) (H:Hp) (v:V) (u:Value) (Q:St->Hp->Prop),Inv X pins σ H s->RelV v u->t v σ H Q->
  wpAny (model X.prog X.w) X.A (assign target X.env u) (fun _ s'=>∃bI H',Inv X pins bI H' s'/\Q bI H') X.xe s
def AI (X:Cx) (ts:List Expr) (t:sk):Prop:=
 ∀(pins:List (Addr×Obj)) (s:Shared) (σ:St) (H:Hp) (vs:List V) (us:List Value) (Q:St->Hp->Prop),Inv X pins σ H s->Vals vs us->t vs σ H Q->
  wpAny (model X.prog X.w) X.A (assignInOrder ((assignEach ts X.env).map (·.2)) us) (fun _ s'=>∃bI H',Inv X pins bI H' s'/\Q bI H') X.xe s
abbrev Ek:=V->V->V->Hp->(Hp->Prop)->Prop
def JB (X:Cx) (t:Ek):Prop:=
 ∀(pins:List (Addr×Obj)) (s:Shared) (σ:St) (H:Hp) (o i v:V) (ov iv u:Value) (Q:Hp->Prop),Inv X pins σ H s->RelV o ov->RelV i iv->RelV v u->t o i v H Q->
  wpAny (model X.prog X.w) X.A (setItem ov iv u) (fun _ s'=>∃H',Inv X pins σ H' s'/\Q H') X.xe s
def E1 (i:Nat):TG:=fun v σ H Q=>Q (σ.set i (some v)) H
theorem LZ(hN:X.N.Nodup)(hi:X.N[i]?=some x)(hx:Loc X.env.scope x)(hf:X.fn x=true\/X.env.scope.names.lookup x=some .local:=by first|exact .inl rfl|exact .inr rfl|assumption):PG X (.Name x pos) (E1 i):=by
 intro pins s σ H v u Q I r h;exact wpAny_assign_Name (ox I hN hi hx r (fun s' I'=>⟨_,H,I',h⟩) hf)
def V9:sk:=fun vs σ H Q=>vs=[]/\Q σ H
def RB (t:TG) (u:sk):sk:=fun vs σ H Q=>∃v r,vs=v::r/\t v σ H fun bI H'=>u r bI H' Q
theorem LY:AI X [] V9:=by
 intro pins s σ H vs us Q I r h;obtain⟨e,h⟩:=h;subst e;cases r;exact assignInOrder_nil ⟨σ,H,I,h⟩
variable {es:List Expr}
theorem Iy{t:TG}{u:sk}(h1:PG X e t)(h2:AI X es u)(hs:(assignEach (e::es) X.env).map (·.2)=assign e X.env::(assignEach es X.env).map (·.2):=by rfl):AI X (e::es) (RB t u):=by
 intro pins s σ H vs us Q I r h;obtain⟨v,vr,e1,h⟩:=h;subst e1;cases r with
 |cons r rr=>
  rw[hs];refine assignInOrder_cons (c8 (h1 pins s σ H _ _ _ I r h) fun _ s1 ⟨Be,H1,I1,q1⟩=>?_);exact h2 pins s1 Be H1 _ _ Q I1 rr q1
def V7 (K:Frag) (n:Nat) (t:sk):TG:=fun v σ H Q=>∃a xs,v=.ref a/\jb K H a xs/\xs.length=n/\t xs σ H Q
theorem NW{k:Nat}{t:sk}{n:Nat}(hc:X.calm=true)(h:AI X es t)(hn:(assignEach es X.env).length=n:=by rfl)(hst:(assignEach es X.env).findIdx? (·.1)=none:=by rfl):PG X (.Tuple es k pos) (V7 X.K n t):=by
 intro pins s σ H v u Q I r hw;obtain⟨a,xs,e1,hq,hl,hw⟩:=hw;subst e1;cases r;obtain⟨ao,rv,ht,hz⟩:=I.tuple hq;refine assign_Tuple_tuple (I.ok.hd hc) ht (by simp[hn,<- hl,rv.length]) hst fun h' hx=>?_;have I1:Inv X pins σ H {s with heap:=h'}:=I.kept (t':=s.toks) fun b o e=>hx b o (ne_of_lt (lt_size e)) e;exact h pins _ σ H xs _ Q I1 (by simpa using rv) hw
def V8 (to ti:TE) (t:Ek):TG:=fun v σ H Q=>to σ H fun o H1=>ti σ H1 fun i H2=>t o i v H2 fun H3=>Q σ H3
theorem yW{o i:Expr}{to ti:TE}{t:Ek}(ho:PE X o to)(hi:PE X i ti)(hs:JB X t)(ha:∀v,assign (.Subscript o i pos) X.env v=(do
   let ov <- holding [v] (eval o X.env);let iv <- holding [v,ov] (eval i X.env);standAt pos
   holding [v,ov,iv] (setItem ov iv v)
   release [v,ov,iv] []):=by intro _;rfl):PG X (.Subscript o i pos) (V8 to ti t):=by
 intro pins s σ H v u Q I r h;rw[ha];refine wpAny_bind (wpAny_holding (c8 (ho pins s σ H _ I h) fun ov s1 ⟨x,H1,I1,r1,q1⟩=>?_));refine wpAny_bind (wpAny_holding (c8 (hi pins s1 σ H1 _ I1 q1) fun iv s2 ⟨y,H2,I2,r2,q2⟩=>?_));refine wpAny_bind (wpAny_standAt (wpAny_bind (wpAny_holding (c8 (hs pins s2 σ H2 x y v ov iv u _ I2 r1 r2 r q2) fun _ s3 ⟨H3,I3,q3⟩=>?_))));exact wpAny_release ⟨σ,H3,I3,q3⟩
def HV (te:TE) (g:TG):TS:=fun D σ H=>te σ H fun x H1=>g x σ H1 D.nx
variable {tg:Expr}
theorem qg{g:TG}(he:PE X e te)(hg:PG X tg g)(hs:swapsWithSole [tg] e pos.line X.env=pure false:=by rfl)(hw:swappedStores [tg] e X.env=pure none:=by rfl)(h1:(assignEach [tg] X.env).map (·.2)=[assign tg X.env]:=by rfl):PS X (.Assign [tg] e pos) (HV te g):=by
 intro pins s σ H D I h;refine wpAny_Assign_stores (c8 (he pins s σ H _ I h) fun v s1 ⟨x,H1,I1,r1,q1⟩=>?_) hs hw;rw[h1];exact c8 (hg pins s1 σ H1 x v _ I1 r1 q1) fun _ s2 q=>q
variable {pos':Pos}
theorem qf(hN:X.N.Nodup)(hi:X.N[i]?=some x)(hx:Loc X.env.scope x)(he:PE X e te)(hs:swapsWith e (some (.Name x pos')) pos.line X.env=pure false:=by rfl)(hf:X.fn x=true\/X.env.scope.names.lookup x=some .local:=by first|exact .inl rfl|exact .inr rfl|assumption):
  PS X (.Assign [.Name x pos'] e pos) (HV te (E1 i)):=by
 intro pins s σ H D I h;refine wpAny_Assign_Name (c8 (he pins s σ H _ I h) fun v s1 ⟨y,H1,I1,r1,q1⟩=>?_) hs;exact ox I1 hN hi hx r1 (fun s2 I2=>⟨_,H1,I2,q1⟩) hf
def Ul (i j:Nat) (ta:TA):TS:=fun D σ H=>ta σ H fun vs H1=>∃v w,vs=[v,w]/\D.nx ((σ.set i (some v)).set j (some w)) H1
variable {a:Expr} {px:Pos}
theorem NR{j:Nat}{y:Str}{ta:TA}{py pt:Pos}{kt k2 yR}(hc:X.calm=true)(hN:X.N.Nodup)(hi:X.N[i]?=some x)(hj:X.N[j]?=some y)(OY:i≠j)(hx:X.env.scope.names.lookup x=some .local)(hy:X.env.scope.names.lookup y=some .local)(ha:PA X [a,b] ta)(hw:swappedStores [.Tuple [.Name x px,.Name y py] kt pt] (.Tuple [a,b] k2 yR) X.env=pure (some [x,y]))(hs:swapsWithSole [.Tuple [.Name x px,.Name y py] kt pt] (.Tuple [a,b] k2 yR) pos.line X.env=pure false:=by rfl):
  PS X (.Assign [.Tuple [.Name x px,.Name y py] kt pt] (.Tuple [a,b] k2 yR) pos) (Ul i j ta):=by
 intro pins s σ H D I h;rw[exec_Assign_arm];refine wpAny_bind (wpAny_standAt ?_);rw[hs];refine wpAny_bind (wpAny_pure ?_);rw[if_neg (by decide)];refine wpAny_bind (Tuple_ (c8 (ha _ pins s σ H _ I h) fun us s1 ⟨vs,H1,I1,r1,q1⟩=>?_));obtain⟨v,w,e1,q1⟩:=q1;subst e1;obtain⟨u1,u2,rfl,rv,pY⟩:∃u1 u2,us=[u1,u2]/\RelV v u1/\RelV w u2:=by
  cases r1 with
  |cons p q=>
   cases q with
   |cons p' q'=>
    cases q';exact⟨_,_,rfl,p,p'⟩
 refine wpAny_newObj_type ?_ (by show 2<=sizeLine;decide);have I2:Inv X pins σ H1 {s1 with heap:=s1.heap.push {cls:=.type "tuple",data:=.seq [u1,u2].toArray}}:=I1.kept (t':=s1.toks) fun b o e=>get?_push_of_some _ e;rw[hw];refine wpAny_bind (wpAny_pure ?_);show wpAny (model X.prog X.w) X.A (do rule "assign.swapped-stores";let items <- unpackItems (.ref s1.heap.objs.size) 2 none;assignInOrder [fun v=>bindName X.env y v,fun v=>bindName X.env x v] items.reverse;pure Flow.next) _ _ _
 refine wpAny_bind (wpAny_rule (wpAny_bind (unpackItems_tuple (items:=#[u1,u2]) (I.ok.hd hc) (IsTup.new s1.heap _) fun h' zF=>?_)));have I3:=I2.kept (h':=h') (t':=s1.toks) fun b o e=>zF b o (ne_of_lt (lt_size e)) e;show wpAny _ _ (assignInOrder [fun v=>bindName X.env y v,fun v=>bindName X.env x v] [u2,u1] >>= fun _=>pure Flow.next) _ _ _
 refine wpAny_bind (assignInOrder_cons (wpAny_bindName (ox I3 hN hj (.inl hy) pY (fun s2 I4=>?_) (.inr hy))));refine assignInOrder_cons (wpAny_bindName (ox I4 hN hi (.inl hx) rv (fun s3 I5=>assignInOrder_nil (wpAny_pure ?_)) (.inr hx)));rw[List.set_comm _ _ (Ne.symm OY)]at I5;exact⟨_,H1,I5,q1⟩
def Nb (c:TT) (tb:TS):TS:=fun D σ H=>∃W:Nat->St->Hp->Prop,(∃m,W m σ H)/\∀m σ H,W m σ H->
 c σ H fun b H1=>if b=true then ∃N:St->Hp->Prop,(∀bI H',N bI H'->∃m',m'<m/\W m' bI H')/\tb {D with nx:=N,ct:=N,bk:=D.nx} σ H1 else D.nx σ H1
variable {body:List Stmt}
theorem Iq{tc:TT}{tb:TS}(hp:PassesOwn (model X.prog X.w) X.A X.env X.xe)(hc:PT X c tc)(hb:lr X body tb):PS X (.While c body [] pos) (Nb tc tb):=by
 intro pins s σ H D I h;obtain⟨W,⟨m0,w0⟩,turn⟩:=h;refine wpAny_While (codeAny_whileLoop (fun n s'=>∃bI H',Inv X pins bI H' s'/\W n bI H') ?_ m0 ⟨σ,H,I,w0⟩);rintro n s1 ⟨Be,H1,I1,w1⟩;refine wpAny_passesOwn hp (c8 (hc pins s1 Be H1 _ I1 (turn n Be H1 w1)) fun b s2 ⟨H2,I2,q2⟩=>?_);cases b with
 |true=>
  obtain⟨N,hN,q2⟩:=q2;rw[if_pos rfl];refine wpAny_passesOwn hp (c8 (hb pins s2 Be H2 _ I2 q2) fun f s3 q3=>?_);cases f with
  |next=>
   obtain⟨pM,H3,I3,n3⟩:=q3;obtain⟨m',hm,w3⟩:=hN pM H3 n3;exact⟨m',hm,pM,H3,I3,w3⟩
  |cont=>
   obtain⟨pM,H3,I3,n3⟩:=q3;obtain⟨m',hm,w3⟩:=hN pM H3 n3;exact⟨m',hm,pM,H3,I3,w3⟩
  |brk=>exact q3
  |ret v=>exact q3
 |false=>
  rw[if_neg Bool.false_ne_true];exact wpAny_execs_nil ⟨Be,H2,I2,q2⟩
structure It where
 go:Nat->Hp->Prop
 wy:Nat->Hp->V->Hp->Prop
 stop:Nat->Hp->Prop
def p9 (X:Cx) (pins:List (Addr×Obj)) (H:Hp) (b:Addr):Prop:=
 H b=none/\b≠X.env.locals/\b∉X.fs/\(b∈X.ex\/X.aK.heap.objs.size<=b)/\(∀x c,X.env.cells.lookup x=some c->c≠b)/\∀p∈X.pn++pins,p.1≠b
theorem Inv.vM{σ:St}{s:Shared}{b:Addr}(I:Inv X pins σ H s)(hb:s.heap.objs.size<=b)(hn:H' b=none):p9 X pins H' b:=by
 refine⟨hn,Nat.ne_of_gt (lt_of_lt_of_le I.lt hb),I.UC hb,.inr (le_trans I.sz hb),fun x c e z=>?_,fun p hp z=>?_⟩
 ·obtain⟨v,q⟩:=I.cell x c e;exact absurd (lt_of_lt_of_le q.lt (by rw[z];exact hb)) (lt_irrefl _)
 ·exact absurd (lt_of_lt_of_le (lt_size (I.pin p hp).1) (by rw[z];exact hb)) (lt_irrefl _)
structure Turn (P:Program) (w:World) (K:Frag) (tg:Expr) (J:It) (fp:List Addr) (it:Addr) (tn:Nat->Heap->Prop):Prop where
 mem:it∈fp
 obj:∀i h,tn i h->∀b∈fp,∃o,h.get? b=some o/\∀v,o.data≠.cell v
 keep:∀i h h',tn i h->(∀b∈fp,∀o,h.get? b=some o->h'.get? b=some o)->tn i h'
 item:∀(X:Cx),X.prog=P->X.w=w->X.K=K->X.calm=true->∀(i:Nat) (pins:List (Addr×Obj)) (s:Shared) (σ:St) (H:Hp) (E:Value->Shared->Prop),Inv X pins σ H s->(∀b∈fp,p9 X pins H b)->tn i s.heap->J.go i H->
  wpAny (model P w) X.A (pyNext (.ref it)) (fun r s1=>∃u,r=some u/\
   wpAny (model P w) X.A (letOwnedTupleGo tg (.ref it) u) (fun _ s2=>∃x H',Inv X pins σ H' s2/\RelV x u/\J.wy i H x H'/\tn (i+1) s2.heap/\∀b∈fp,H' b=none) E s1) E s
 done:∀(X:Cx),X.prog=P->X.w=w->X.K=K->X.calm=true->∀(i:Nat) (pins:List (Addr×Obj)) (s:Shared) (σ:St) (H:Hp) (E:Value->Shared->Prop),Inv X pins σ H s->(∀b∈fp,p9 X pins H b)->tn i s.heap->J.stop i H->
  wpAny (model P w) X.A (pyNext (.ref it)) (fun r s1=>r=none/\Inv X pins σ H s1) E s
 self:∀(A:Around) (i:Nat) (s:Shared) (Q:Value->Shared->Prop) (E:Value->Shared->Prop),tn i s.heap->Q (.ref it) s->wpAny (model P w) A (pyIter (.ref it)) Q E s
abbrev TI:=St->Hp->(It->Hp->Prop)->Prop
def Qe (X:Cx) (pins:List (Addr×Obj)) (σ:St) (tg:Expr) (R:It->Hp->Prop) (Kt:Value) (s2:Shared):Prop:=
 ∃(it:Addr) (fp:List Addr) (tn:Nat->Heap->Prop) (J:It) (H':Hp),Kt=.ref it/\Inv X pins σ H' s2/\Turn X.prog X.w X.K tg J fp it tn/\tn 0 s2.heap/\(∀b∈fp,p9 X pins H' b)/\R J H'
def PI (X:Cx) (tg iter:Expr) (wi:TI):Prop:=
 ∀(pins:List (Addr×Obj)) (s:Shared) (σ:St) (H:Hp) (R:It->Hp->Prop),Inv X pins σ H s->wi σ H R->
  wpAny (model X.prog X.w) X.A (eval iter X.env) (fun v s1=>wpAny (model X.prog X.w) X.A (pyIter v) (Qe X pins σ tg R) X.xe s1) X.xe s
theorem yb{s:Shared}{it:Addr}{u:Value}{n:String}{vs:Array Value}{Q:Unit->Shared->Prop}(ho:s.heap.get? it=some o)(hc:o.cls=.type n)(hd:o.data=.fields vs)(hn:["enumerate","zip","dict_itemiterator","dict_reverseitemiterator","odict_iterator","itertools.zip_longest","itertools.pairwise"].contains n=false)(hQ:Q () s):wpAny M A (letOwnedTupleGo tg (.ref it) u) Q E s:=by
 unfold letOwnedTupleGo;cases tg<;>first
  |exact wpAny_pure hQ
  |(cases u<;>first
    |exact wpAny_pure hQ
    |(refine wpAny_bind (wpAny_load ho ?_)
      rw[hc,hd];show wpAny M A (if(["enumerate","zip","dict_itemiterator","dict_reverseitemiterator","odict_iterator","itertools.zip_longest","itertools.pairwise"].contains n&&vs[0]? == some (rawInt _))=true then _ else _) Q E s;rw[if_neg (by intro h;rw[hn,Bool.false_and]at h;cases h)];exact wpAny_pure hQ))
def Qi (K:Frag) (a:Addr):It:=
 ⟨fun i H=>∃xs x,fF K H a xs/\xs[i]?=some x,fun i H x H'=>H'=H/\∀xs,fF K H a xs->xs[i]?=some x,fun i H=>∃xs,fF K H a xs/\xs.length<=i⟩
def Qh (K:Frag) (a:Addr):It:=
 ⟨fun i H=>∃xs x,jb K H a xs/\xs[i]?=some x,fun i H x H'=>H'=H/\∀xs,jb K H a xs->xs[i]?=some x,fun i H=>∃xs,jb K H a xs/\xs.length<=i⟩
def Lj (lo:Int) (n:Nat):It:=⟨fun i _=>i<n,fun i H x H'=>H'=H/\x=.int (lo+i),fun i _=>n<=i⟩
theorem ED(a it:Addr):Turn P w K tg (Qi K a) [it] it (fun i h=>h.IsListIter it a i) where
 mem:=by simp
 obj:=fun i h st b hb=>by
  have e:b=it:=by simpa using hb
  subst e;obtain⟨o,e,c,d⟩:=st;exact⟨o,e,fun v z=>by rw[d]at z;cases z⟩
 keep:=fun i h h' st k=>st.at fun o e=>k it (by simp) o e
 item:=by
  intro X hP hw hK hc i pins s σ H E I hf st hg;subst hP hw hK;obtain⟨xs,x,hq,hx⟩:=hg;obtain⟨ao,rv,p,hz⟩:=I.list hq;obtain⟨u,hu,ru⟩:=rv.get hx;obtain⟨f0,f1,f2,f3,f4,f5⟩:=hf it (by simp);refine wpAny_pyNext_list_item st p.isList (x:=u) (by simpa using hu) fun h' wD sb=>?_;have I1:Inv X pins σ H {s with heap:=h'}:=I.turned (t':=s.toks) (fun b o hb e=>(sb.2 b hb).trans e) f0 f1 f3 f4 f5;obtain⟨o,e,c,d⟩:=id wD;exact⟨u,rfl,yb (s:={s with heap:=h'}) e c d (by decide) ⟨x,H,I1,ru,⟨rfl,fun ys hy=>by rw[I.sZ hy hq];exact hx⟩,wD,fun b hb=>(hf b hb).1⟩⟩
 done:=by
  intro X hP hw hK hc i pins s σ H E I hf st hg;subst hP hw hK;obtain⟨xs,hq,hx⟩:=hg;obtain⟨ao,rv,p,hz⟩:=I.list hq;obtain⟨f0,f1,f2,f3,f4,f5⟩:=hf it (by simp);have hl:=rv.length;exact wpAny_pyNext_list_end (I.ok.hd hc) st p.isList (by simp;omega) fun h' eb=>⟨rfl,I.turned (t':=s.toks) (fun b o hb e=>eb b o hb e) f0 f1 f3 f4 f5⟩
 self:=fun _ _ _ _ _ st h=>wpAny_pyIter_listiter st h
theorem Di(a it:Addr):Turn P w K tg (Qh K a) [it] it (fun i h=>h.IsTupleIter it a i) where
 mem:=by simp
 obj:=fun i h st b hb=>by
  have e:b=it:=by simpa using hb
  subst e;obtain⟨o,e,c,d⟩:=st;exact⟨o,e,fun v z=>by rw[d]at z;cases z⟩
 keep:=fun i h h' st k=>st.at fun o e=>k it (by simp) o e
 item:=by
  intro X hP hw hK hc i pins s σ H E I hf st hg;subst hP hw hK;obtain⟨xs,x,hq,hx⟩:=hg;obtain⟨ao,rv,p,hz⟩:=I.tuple hq;obtain⟨u,hu,ru⟩:=rv.get hx;obtain⟨f0,f1,f2,f3,f4,f5⟩:=hf it (by simp);refine wpAny_pyNext_tuple_item st (show s.heap.IsTuple a ao.toArray from p) (x:=u) (by simpa using hu) fun h' wD sb=>?_;have I1:Inv X pins σ H {s with heap:=h'}:=I.turned (t':=s.toks) (fun b o hb e=>(sb.2 b hb).trans e) f0 f1 f3 f4 f5;obtain⟨o,e,c,d⟩:=id wD;exact⟨u,rfl,yb (s:={s with heap:=h'}) e c d (by decide) ⟨x,H,I1,ru,⟨rfl,fun ys hy=>by rw[I.wA hy hq];exact hx⟩,wD,fun b hb=>(hf b hb).1⟩⟩
 done:=by
  intro X hP hw hK hc i pins s σ H E I hf st hg;subst hP hw hK;obtain⟨xs,hq,hx⟩:=hg;obtain⟨ao,rv,p,hz⟩:=I.tuple hq;obtain⟨f0,f1,f2,f3,f4,f5⟩:=hf it (by simp);have hl:=rv.length;exact wpAny_pyNext_tuple_end (I.ok.hd hc) st (show s.heap.IsTuple a ao.toArray from p) (by simp;omega) fun h' eb=>⟨rfl,I.turned (t':=s.toks) (fun b o hb e=>eb b o hb e) f0 f1 f3 f4 f5⟩
 self:=fun _ _ _ _ _ st h=>wpAny_pyIter_tupleiter st h
theorem Dj(it:Addr)(lo:Int)(n:Nat):Turn P w K tg (Lj lo n) [it] it (fun i h=>IsRangeIter h it (lo+(i:Nat)*1) ((n:Int)-(i:Nat)) 1) where
 mem:=by simp
 obj:=fun i h st b hb=>by
  have e:b=it:=by simpa using hb
  subst e;exact⟨_,st,fun v z=>by
   have z':Data.fields _=Data.cell v:=z;cases z'⟩
 keep:=fun i h h' st k=>k it (by simp) _ st
 item:=by
  intro X hP hw hK hc i pins s σ H E I hf st hg;subst hP hw hK;obtain⟨f0,f1,f2,f3,f4,f5⟩:=hf it (by simp);have W:=Walks.range (prog:=X.prog) (w:=X.w) (I.ok.hd hc) it lo 1 n;refine W.item i s _ _ hg st fun v h' tk hv wD kk=>?_;obtain⟨t,rfl⟩:=hv;have I1:Inv X pins σ H {s with heap:=h',toks:=tk}:=I.turned (fun b o hb e=>kk b o (by simpa using hb) e) f0 f1 f3 f4 f5;refine⟨_,rfl,yb (s:={s with heap:=h',toks:=tk}) (n:="range_iterator") wD rfl rfl (by decide) ⟨.int (lo+i),H,I1,⟨t,?_⟩,⟨rfl,rfl⟩,wD,fun b hb=>(hf b hb).1⟩⟩;rw[Int.mul_one]
 done:=by
  intro X hP hw hK hc i pins s σ H E I hf st hg;subst hP hw hK;obtain⟨f0,f1,f2,f3,f4,f5⟩:=hf it (by simp);exact wpAny_pyNext_range_end (I.ok.hd hc) st (by have:n<=i:=hg;omega) fun h' eb=>⟨rfl,I.turned (t':=s.toks) (fun b o hb e=>eb b o hb e) f0 f1 f3 f4 f5⟩
 self:=fun _ _ _ _ _ st h=>wpAny_pyIter_rangeiter st h
open PySem PySem.Spec PyProof.Rows
theorem Ii{σ:St}{s:Shared}{R:It->Hp->Prop}{lo hi:Int}{t u v:Tok}{tk:Nat}(I:Inv X pins σ H s)(h1: -(2^62)<=lo)(h2:lo<2^62)(h3: -(2^62)<=hi)(h4:hi<2^62)(q:R (Lj lo (hi-lo).toNat) H):wpAny (model X.prog X.w) X.A (pyIter (.ref s.heap.objs.size)) (Qe X pins σ tg R) E {s with heap:=s.heap.push {cls:=.type "range",data:=.fields #[.int lo t,.int hi u,.int 1 v]},toks:=tk}:=by
 refine wpAny_pyIter_range (IsRange.new ..) (small_one h1 h2 h3 h4) ?_;have I1:Inv X pins σ H {s with heap:=s.heap.push {cls:=.type "range",data:=.fields #[.int lo t,.int hi u,.int 1 v]},toks:=tk}:=I.kept fun b o e=>get?_push_of_some _ e;refine⟨(s.heap.push {cls:=.type "range",data:=.fields #[.int lo t,.int hi u,.int 1 v]}).objs.size,[(s.heap.push {cls:=.type "range",data:=.fields #[.int lo t,.int hi u,.int 1 v]}).objs.size],_,_,H,rfl,
  I1.kept (t':=tk) fun b o e=>get?_push_of_some _ e,Dj _ lo (hi-lo).toNat,?_,fun b hb=>?_,q⟩
 ·have e1:lo+((0:Nat):Int)*1=lo:=by simp
  have e2:(((hi-lo).toNat:Nat):Int)-((0:Nat):Int)=Builtin.Range.rangeSize lo hi 1:=by rw[rangeSize_one];split<;>omega
  show IsRangeIter _ _ (lo+((0:Nat):Int)*1) ((((hi-lo).toNat:Nat):Int)-((0:Nat):Int)) 1;rw[e1,e2];exact get?_push_size _ rfl
 ·have e:b=(s.heap.push {cls:=.type "range",data:=.fields #[.int lo t,.int hi u,.int 1 v]}).objs.size:=by simpa using hb
  subst e;exact I1.vM (le_refl _) (I1.bF.fresh (le_refl _))
def Ro (ta:TA):TI:=fun σ H R=>ta σ H fun vs H1=>∃j:Int,vs=[.int j]/\-(2^62)<=j/\j<2^62/\R (Lj 0 j.toNat) H1
theorem qh{ta:TA}{p:Pos}(hg:Gl X "range")(hm:X.mg "range"=none)(ha:PA X [a] ta)(hs:starEach [a] X.env=[(false,eval a X.env)]:=by rfl):PI X tg (.Call (.Name "range" p) [a] [] pos) (Ro ta):=by
 intro pins s σ H R I h;refine Call_ (mB I hg hm boot_range (PyProof.Rows.callWith_type1 (c8 (ha pos pins s σ H _ I h) fun us s1 ⟨vs,H1,I1,r1,q1⟩=>?_) hs rfl));obtain⟨j,e,q1,q2,q⟩:=q1;subst e;cases r1 with
 |cons r rr=>
  cases rr;obtain⟨t,rfl⟩:=r;exact call_range_1 (Ii I1 (by omega) (by omega) q1 q2 (by simpa using q))
def Us (wi:TI) (g:TG) (tb:TS):TS:=fun D σ H=>wi σ H fun J H1=>∃W:Nat->Nat->St->Hp->Prop,(∃m,W 0 m σ H1)/\∀i m σ H,W i m σ H->
 (J.stop i H/\D.nx σ H)\/(J.go i H/\∃N:St->Hp->Prop,(∀bI H',N bI H'->∃m',m'<m/\W (i+1) m' bI H')/\∀x H',J.wy i H x H'->g x σ H' fun fY H2=>tb {D with nx:=N,ct:=N,bk:=D.nx} fY H2)
def nY (fp:List Addr) (h:Heap):List (Addr×Obj):=fp.filterMap fun b=>(h.get? b).map fun o=>(b,o)
variable {fp:List Addr}
theorem j1{b:Addr}(hb:b∈fp)(e:h.get? b=some o):(b,o)∈nY fp h:=List.mem_filterMap.mpr ⟨b,hb,by rw[e];rfl⟩
theorem FW{p:Addr×Obj}(hp:p∈nY fp h):p.1∈fp/\h.get? p.1=some p.2:=by
 obtain⟨b,hb,e⟩:=List.mem_filterMap.mp hp;cases q:h.get? b with
 |none=>rw[q]at e;cases e
 |some o=>
  rw[q]at e;have e':(b,o)=p:=Option.some.inj e;subst e';exact⟨hb,q⟩
theorem Inv.pinned{σ:St}{s:Shared}(I:Inv X pins σ H s)(hf:∀b∈fp,p9 X pins H b)(ho:∀b∈fp,∃o,s.heap.get? b=some o/\∀v,o.data≠.cell v):Inv X (pins++nY fp s.heap) σ H s:=
 I.jL fun p hp=>(mem_append.mp hp).elim (fun z=>I.pin p (mem_append_right _ z)) fun z=>by
  obtain⟨hb,e⟩:=FW z;obtain⟨f0,f1,f2,_⟩:=hf p.1 hb;obtain⟨o,e',d⟩:=ho p.1 hb;rw[e]at e';cases e';exact⟨e,f0,f1,f2,d⟩
theorem Inv.sC{pl:List (Addr×Obj)}{σ:St}{s:Shared}(I:Inv X (pins++pl) σ H s):Inv X pins σ H s:=I.jL fun p hp=>I.pin p (mem_append_right _ (mem_append_left _ hp))
variable {iter:Expr} {wi:TI}
theorem yT{g:TG}{tb:TS}(hp:PassesOwn (model X.prog X.w) X.A X.env X.xe)(hc:X.calm=true)(hi:PI X tg iter wi)(hg:PG X tg g)(hb:lr X body tb)(hs:∀x,foldedSetIterable iter X.env x=pure x:=by intro _;rfl):PS X (.For tg iter body [] pos) (Us wi g tb):=by
 intro pins s σ H D I h;refine wpAny_For (c8 (hi pins s σ H _ I h) fun v s1 h1=>c8 h1 fun Kt s2 h2=>?_) hs;obtain⟨it,fp,tn,J,H2,e,I2,T,jZ,f2,W,⟨m0,w0⟩,turn⟩:=h2;subst e

 have mf:∀{H':Hp},(∀b∈fp,H' b=none)->∀b∈fp,p9 X pins H' b:=fun hn b hb=>⟨hn b hb,(f2 b hb).2⟩;refine codeAny_forLoop_any (fun n s'=>∃i bI H',Inv X pins bI H' s'/\tn i s'.heap/\(∀b∈fp,H' b=none)/\W i n bI H') ?_ m0 ⟨0,σ,H2,I2,jZ,fun b hb=>(f2 b hb).1,w0⟩;rintro n s3 ⟨i,pM,H3,I3,RU,SY,w3⟩;rcases turn i n pM H3 w3 with⟨stop,qn⟩|⟨go,N,hN,step⟩
 ·refine wpAny_passesOwn hp (c8 (T.done X rfl rfl rfl hc i pins s3 pM H3 X.xe I3 (mf SY) RU stop) fun r s4 ⟨hr,I4⟩=>?_);subst hr;exact wpAny_execs_nil ⟨pM,H3,I4,qn⟩
 ·refine wpAny_passesOwn hp (c8 (T.item X rfl rfl rfl hc i pins s3 pM H3 X.xe I3 (mf SY) RU go) fun r s4 ⟨u,hr,h4⟩=>?_);subst hr;refine wpAny_passesOwn hp (c8 h4 fun _ s5 ⟨x,H5,I5,r5,y5,pV,GR⟩=>?_);have HG:=I5.pinned (mf GR) (T.obj _ _ pV);refine wpAny_passesOwn hp (c8 (hg _ s5 pM H5 x u _ HG r5 (step x H5 y5)) fun _ s6 ⟨tM,H6,I6,q6⟩=>?_);refine wpAny_passesOwn hp (c8 (hb _ s6 tM H6 _ I6 q6) fun f s7 q7=>?_);have again:∀{pL:St} {H7:Hp},Inv X (pins++nY fp s5.heap) pL H7 s7->N pL H7->∃m,m<n/\∃i bI H',Inv X pins bI H' s7/\tn i s7.heap/\(∀b∈fp,H' b=none)/\W i m bI H':=fun{pL H7} I7 n7=>by
   obtain⟨m',hm,w7⟩:=hN pL H7 n7;refine⟨m',hm,i+1,pL,H7,I7.sC,T.keep _ _ _ pV fun b hb o e=>(I7.pin (b,o) (mem_append_right _ (mem_append_right _ (j1 hb e)))).1,fun b hb=>?_,w7⟩;obtain⟨o,e,d⟩:=T.obj _ _ pV b hb;exact(I7.pin (b,o) (mem_append_right _ (mem_append_right _ (j1 hb e)))).2.1
  cases f with
  |next=>obtain⟨pL,H7,I7,n7⟩:=q7;exact again I7 n7
  |cont=>obtain⟨pL,H7,I7,n7⟩:=q7;exact again I7 n7
  |brk=>obtain⟨pL,H7,I7,q7⟩:=q7;exact⟨pL,H7,I7.sC,q7⟩
  |ret v=>obtain⟨x7,pL,H7,I7,r7,q7⟩:=q7;exact⟨x7,pL,H7,I7.sC,r7,q7⟩
open PySem PySem.Spec PyProof.Rows
abbrev R2:=V->V->Hp->VK->Prop
def dZ (X:Cx) (f:Value->Value->Sem Value) (r:R2):Prop:=
 ∀(pins:List (Addr×Obj)) (s:Shared) (σ:St) (H:Hp) (x y:V) (v u:Value) (Q:VK),Inv X pins σ H s->RelV x v->RelV y u->r x y H Q->
  wpAny (model X.prog X.w) X.A (f v u) (EP X pins σ Q) X.xe s
def Lb (X:Cx) (f:Value->Sem Value) (r:V->Hp->VK->Prop):Prop:=
 ∀(pins:List (Addr×Obj)) (s:Shared) (σ:St) (H:Hp) (x:V) (v:Value) (Q:VK),Inv X pins σ H s->RelV x v->r x H Q->
  wpAny (model X.prog X.w) X.A (f v) (EP X pins σ Q) X.xe s
def ko (X:Cx) (f:Value) (r:List V->Hp->VK->Prop):Prop:=
 ∀(pins:List (Addr×Obj)) (s:Shared) (σ:St) (H:Hp) (xs:List V) (us:List Value) (Q:VK),Inv X pins σ H s->Vals xs us->r xs H Q->
  wpAny (model X.prog X.w) X.A (call f us) (EP X pins σ Q) X.xe s
def Vm (X:Cx) (r:V->Hp->(Bool->Hp->Prop)->Prop):Prop:=
 ∀(pins:List (Addr×Obj)) (s:Shared) (σ:St) (H:Hp) (x:V) (v:Value) (Q:Bool->Hp->Prop),Inv X pins σ H s->RelV x v->r x H Q->
  wpAny (model X.prog X.w) X.A (truthy v) (TP X pins σ Q) X.xe s
def Bn (r:R2) (ta tb:TE):TE:=fun σ H Q=>ta σ H fun x H1=>tb σ H1 fun y H2=>r x y H2 Q
def Vx (r:V->Hp->VK->Prop) (ta:TE):TE:=fun σ H Q=>ta σ H fun x H1=>r x H1 Q
def rI (C:Int->Int->Prop) (g:Int->Int->V):R2:=fun x y H Q=>∃i j,x=.int i/\y=.int j/\C i j/\Q (g i j) H
def wJ (g:Int->Int->V):R2:=fun x y H Q=>∃i j,x=.int i/\y=.int j/\Q (g i j) H
def rU (g:Int->V):V->Hp->VK->Prop:=fun x H Q=>∃i,x=.int i/\Q (g i) H
variable {f:Value->Value->Sem Value}
theorem Jv(ha:PE X a ta)(hb:PE X b tb){s:Shared}{σ:St}{R:V->V->Hp->Prop}(I:Inv X pins σ H s)(h:ta σ H fun x H1=>tb σ H1 fun y H2=>R x y H2){Q:Value->Shared->Prop}(hf:∀v u s2 x y H2,Inv X pins σ H2 s2->RelV x v->RelV y u->R x y H2->wpAny (model X.prog X.w) X.A (f v u) Q X.xe s2):
  wpAny (model X.prog X.w) X.A (eval a X.env) (fun v bU=>wpAny (model X.prog X.w) X.A (eval b X.env) (fun u bC=>wpAny (model X.prog X.w) X.A (f v u) Q X.xe bC) X.xe bU) X.xe s:=by
 refine c8 (ha pins s σ H _ I h) fun v s1 ⟨x,H1,I1,r1,q1⟩=>?_;refine c8 (hb pins s1 σ H1 _ I1 q1) fun u s2 ⟨y,H2,I2,r2,q2⟩=>?_;exact hf v u s2 x y H2 I2 r1 r2 q2
theorem xZ{op:Operator}{r:R2}(ho:dZ X (binaryOp op) r)(ha:PE X a ta)(hb:PE X b tb):PE X (.BinOp a op b pos) (Bn r ta tb):=by
 intro pins s σ H Q I h;exact wpAny_BinOp (Jv ha hb I h fun v u s2 x y H2 I2 rx ry q=>ho pins s2 σ H2 x y v u Q I2 rx ry q)
theorem R8{op:UnaryOp}{r:V->Hp->VK->Prop}(ho:Lb X (unaryOp op) r)(ha:PE X a ta):PE X (.UnaryOp op a pos) (Vx r ta):=by
 intro pins s σ H Q I h;exact UnaryOp_ (c8 (ha pins s σ H _ I h) fun v s1 ⟨x,H1,I1,r1,q1⟩=>ho pins s1 σ H1 x v Q I1 r1 q1)
variable {C:Int->Int->Prop}
theorem Ki{g:Int->Int->Int}(rule:∀(i j:Int) (t u:Tok) (s:Shared) (Q:Value->Shared->Prop) (E:Value->Shared->Prop),C i j->Q (.int (g i j) s.toks) {s with toks:=s.toks+1}->wpAny (model X.prog X.w) X.A (f (.int i t) (.int j u)) Q E s):
  dZ X f (rI C fun i j=>.int (g i j)):=by
 intro pins s σ H x y v u Q I rx ry h;obtain⟨i,j,rfl,rfl,hc,q⟩:=h;obtain⟨t,rfl⟩:=rx;obtain⟨t',rfl⟩:=ry;exact rule i j t t' s _ _ hc ⟨.int (g i j),H,I.tok _,⟨_,rfl⟩,q⟩
theorem Uz{g:Int->Int->Int}(rule:∀(i j:Int) (t u:Tok) (s:Shared) (Q:Value->Shared->Prop) (E:Value->Shared->Prop),Q (.int (g i j) s.toks) {s with toks:=s.toks+1}->wpAny (model X.prog X.w) X.A (f (.int i t) (.int j u)) Q E s):
  dZ X f (wJ fun i j=>.int (g i j)):=by
 intro pins s σ H x y v u Q I rx ry h;obtain⟨i,j,rfl,rfl,q⟩:=h;obtain⟨t,rfl⟩:=rx;obtain⟨t',rfl⟩:=ry;exact rule i j t t' s _ _ ⟨.int (g i j),H,I.tok _,⟨_,rfl⟩,q⟩
theorem DI{g:Int->Int->Bool}(rule:∀(i j:Int) (t u:Tok) (s:Shared) (Q:Value->Shared->Prop) (E:Value->Shared->Prop),Q (.bool (g i j)) s->wpAny (model X.prog X.w) X.A (f (.int i t) (.int j u)) Q E s):
  dZ X f (wJ fun i j=>.bl (g i j)):=by
 intro pins s σ H x y v u Q I rx ry h;obtain⟨i,j,rfl,rfl,q⟩:=h;obtain⟨t,rfl⟩:=rx;obtain⟨t',rfl⟩:=ry;exact rule i j t t' s _ _ ⟨.bl (g i j),H,I,rfl,q⟩
def wq (i j:Int):Prop:=0<=j/\j<=1000000/\i.natAbs<2^64
theorem zg:dZ X (binaryOp .Add) (wJ fun i j=>.int (i+j)):=Uz fun _ _ _ _ _ _ _ q=>add_int q
theorem O4:dZ X (binaryOp .Pow) (rI wq fun i j=>.int (i^j.toNat)):=Ki fun _ _ _ _ _ _ _ hc q=>pow_int_small hc.1 hc.2.1 hc.2.2 q
theorem Vw{f:Value->Sem Value}{g:Int->Int}(rule:∀(i:Int) (t:Tok) (s:Shared) (Q:Value->Shared->Prop) (E:Value->Shared->Prop),Q (.int (g i) s.toks) {s with toks:=s.toks+1}->wpAny (model X.prog X.w) X.A (f (.int i t)) Q E s):
  Lb X f (rU fun i=>.int (g i)):=by
 intro pins s σ H x v Q I rx h;obtain⟨i,rfl,q⟩:=h;obtain⟨t,rfl⟩:=rx;exact rule i t s _ _ ⟨.int (g i),H,I.tok _,⟨_,rfl⟩,q⟩
theorem N6:Lb X (unaryOp .USub) (rU fun i=>.int (-i)):=Vw fun _ _ _ _ _ q=>neg_int q
def Nv:V->V->Bool
 | .bM,.bM=>true| .bM,.int _=>true| .int _,.bM=>true| .bM,.bl _=>true| .bl _,.bM=>true| .bM,.str _=>true| .str _,.bM=>true
 | .int _,.int _=>true| .bl _,.bl _=>true| .str _,.str _=>true| .mP _,.mP _=>true
 | .int _,.str _=>true| .str _,.int _=>true| .bl _,.str _=>true| .str _,.bl _=>true
 |_,_=>false
def S1:R2:=fun x y H Q=>Nv x y=true/\Q (.bl (decide (x=y))) H
def RZ:R2:=fun x y H Q=>Nv x y=true/\Q (.bl (!decide (x=y))) H
theorem CO{i j:Int}:decide (V.int i=V.int j)=(i==j):=by
 rw[Bool.eq_iff_iff];simp
theorem uP{i j:Bool}:decide (V.bl i=V.bl j)=(i==j):=by
 rw[Bool.eq_iff_iff];simp
theorem CN{i j:Str}:decide (V.str i=V.str j)=(i==j):=by
 rw[Bool.eq_iff_iff];simp
theorem CP{i j:Array UInt8}:decide (V.mP i=V.mP j)=(i.toList==j.toList):=by
 rw[Bool.eq_iff_iff];cases i;cases j;simp
variable {Q:VK}
theorem bR{σ:St}{s:Shared}{k k':Bool}(I:Inv X pins σ H s)(q:Q (.bl k) H)(e:k=k'):EP X pins σ Q (.bool k') s:=by
 subst e;exact⟨.bl k,H,I,rfl,q⟩
theorem y6:dZ X (compareOp .Eq) S1:=by
 intro pins s σ H x y v u Q I rx ry h;obtain⟨hs,q⟩:=h;cases x with
 |bM=>
  cases rx;cases y with
  |bM=>cases ry;exact PySem.EqNone.eq_none_none (bR I q (by simp))
  |bl j=>cases ry;exact PySem.EqNone.eq_none_bool (bR I q (by simp))
  |int j=>obtain⟨t',rfl⟩:=ry;exact PySem.EqNone.eq_none_int (bR I q (by simp))
  |str j=>obtain⟨t',rfl⟩:=ry;exact PySem.EqNone.eq_none_str (bR I q (by simp))
  |_=>exact absurd (show false=true from hs) Bool.false_ne_true
 |bl i=>
  cases rx;cases y with
  |bM=>cases ry;exact PySem.EqNone.eq_bool_none (bR I q (by simp))
  |bl j=>cases ry;exact eq_bool (bR I q uP)
  |str j=>obtain⟨t',rfl⟩:=ry;exact PySem.EqMixed.eq_bool_str (bR I q (by simp))
  |_=>exact absurd (show false=true from hs) Bool.false_ne_true
 |int i=>
  obtain⟨t,rfl⟩:=rx;cases y with
  |bM=>cases ry;exact PySem.EqNone.eq_int_none (bR I q (by simp))
  |int j=>obtain⟨t',rfl⟩:=ry;exact eq_int (bR I q CO)
  |str j=>obtain⟨t',rfl⟩:=ry;exact PySem.EqMixed.eq_int_str (bR I q (by simp))
  |_=>exact absurd (show false=true from hs) Bool.false_ne_true
 |str i=>
  obtain⟨t,rfl⟩:=rx;cases y with
  |bM=>cases ry;exact PySem.EqNone.eq_str_none (bR I q (by simp))
  |bl j=>cases ry;exact PySem.EqMixed.eq_str_bool (bR I q (by simp))
  |int j=>obtain⟨t',rfl⟩:=ry;exact PySem.EqMixed.eq_str_int (bR I q (by simp))
  |str j=>obtain⟨t',rfl⟩:=ry;exact eq_str (bR I q CN)
  |_=>exact absurd (show false=true from hs) Bool.false_ne_true
 |mP i=>
  obtain⟨t,rfl⟩:=rx;cases y with
  |mP j=>obtain⟨t',rfl⟩:=ry;exact PySem.W.eq_bytes (bR I q CP)
  |_=>exact absurd (show false=true from hs) Bool.false_ne_true
 |_=>cases y<;>exact absurd (show false=true from hs) Bool.false_ne_true
theorem Kf:dZ X (compareOp .NotEq) RZ:=by
 intro pins s σ H x y v u Q I rx ry h;obtain⟨hs,q⟩:=h;cases x with
 |bM=>
  cases rx;cases y with
  |bM=>cases ry;exact PySem.EqNone.ne_none_none (bR I q (by simp))
  |bl j=>cases ry;exact PySem.EqNone.ne_none_bool (bR I q (by simp))
  |int j=>obtain⟨t',rfl⟩:=ry;exact PySem.EqNone.ne_none_int (bR I q (by simp))
  |str j=>obtain⟨t',rfl⟩:=ry;exact PySem.EqNone.ne_none_str (bR I q (by simp))
  |_=>exact absurd (show false=true from hs) Bool.false_ne_true
 |bl i=>
  cases rx;cases y with
  |bM=>cases ry;exact PySem.EqNone.ne_bool_none (bR I q (by simp))
  |bl j=>cases ry;exact ne_bool (bR I q (congrArg not uP))
  |str j=>obtain⟨t',rfl⟩:=ry;exact PySem.EqMixed.ne_bool_str (bR I q (by simp))
  |_=>exact absurd (show false=true from hs) Bool.false_ne_true
 |int i=>
  obtain⟨t,rfl⟩:=rx;cases y with
  |bM=>cases ry;exact PySem.EqNone.ne_int_none (bR I q (by simp))
  |int j=>obtain⟨t',rfl⟩:=ry;exact ne_int (bR I q (congrArg not CO))
  |str j=>obtain⟨t',rfl⟩:=ry;exact PySem.EqMixed.ne_int_str (bR I q (by simp))
  |_=>exact absurd (show false=true from hs) Bool.false_ne_true
 |str i=>
  obtain⟨t,rfl⟩:=rx;cases y with
  |bM=>cases ry;exact PySem.EqNone.ne_str_none (bR I q (by simp))
  |bl j=>cases ry;exact PySem.EqMixed.ne_str_bool (bR I q (by simp))
  |int j=>obtain⟨t',rfl⟩:=ry;exact PySem.EqMixed.ne_str_int (bR I q (by simp))
  |str j=>obtain⟨t',rfl⟩:=ry;exact ne_str (bR I q (congrArg not CN))
  |_=>exact absurd (show false=true from hs) Bool.false_ne_true
 |mP i=>
  obtain⟨t,rfl⟩:=rx;cases y with
  |mP j=>obtain⟨t',rfl⟩:=ry;exact PySem.W.ne_bytes (bR I q (congrArg not CP))
  |_=>exact absurd (show false=true from hs) Bool.false_ne_true
 |_=>cases y<;>exact absurd (show false=true from hs) Bool.false_ne_true
theorem Kg:dZ X (compareOp .Lt) (wJ fun i j=>.bl (decide (i<j))):=DI fun _ _ _ _ _ _ _ q=>lt_int q
theorem Rf:dZ X (compareOp .LtE) (wJ fun i j=>.bl (decide (i<=j))):=DI fun _ _ _ _ _ _ _ q=>le_int q
theorem Kh:dZ X (compareOp .Gt) (wJ fun i j=>.bl (decide (j<i))):=DI fun _ _ _ _ _ _ _ q=>gt_int q
theorem Rg:dZ X (compareOp .GtE) (wJ fun i j=>.bl (decide (j<=i))):=DI fun _ _ _ _ _ _ _ q=>ge_int q
theorem FR:dZ X (compareOp .In) (fun x y H Q=>∃i j,x=.str i/\y=.str j/\Q (.bl (!(Builtin.Str.occurrences j i 0 j.length 1).isEmpty)) H):=by
 intro pins s σ H x y v u Q I rx ry h;obtain⟨i,j,rfl,rfl,q⟩:=h;obtain⟨t,rfl⟩:=rx;obtain⟨t',rfl⟩:=ry;exact in_str (bR I q rfl)
theorem FQ:dZ X (compareOp .Is) (fun x y H Q=>y=.bM/\Q (.bl (decide (x=.bM))) H):=by
 intro pins s σ H x y v u Q I rx ry h;obtain⟨rfl,q⟩:=h;cases ry;refine is_none_gen (bR I q ?_);cases x<;>first
  |(cases rx;rfl)
  |(obtain⟨t,rfl⟩:=rx;rfl)
variable {r:R2}
theorem dZ.or{r':R2}(h:dZ X f r)(h':dZ X f r'):dZ X f (fun x y H Q=>r x y H Q\/r' x y H Q):=by
 intro pins s σ H x y v u Q I rx ry q;rcases q with q|q
 ·exact h pins s σ H x y v u Q I rx ry q
 ·exact h' pins s σ H x y v u Q I rx ry q
variable {op:CmpOp}
theorem gj(b:Expr)(h:op≠.In:=by decide)(h2:op≠.NotIn:=by decide):behindInMarks op b=false:=by
 have e1:(op==CmpOp.In)=false:=by cases op<;>first|rfl|exact absurd rfl h
 have e2:(op==CmpOp.NotIn)=false:=by cases op<;>first|rfl|exact absurd rfl h2
 cases b<;>simp[behindInMarks,e1,e2]
theorem BQ(ho:dZ X (compareOp op) r)(ha:PE X a ta)(hb:PE X b tb)(hm:behindInMarks op b=false):PE X (.Compare a [op] [b] pos) (Bn r ta tb):=by
 intro pins s σ H Q I h;exact wpAny_Compare1 (Jv ha hb I h fun v u s2 x y H2 I2 rx ry q=>ho pins s2 σ H2 x y v u Q I2 rx ry q) hm
def JT (t:TE):TT:=fun σ H Q=>t σ H fun x H'=>∃k,x=.bl k/\Q k H'
theorem BL(ho:dZ X (compareOp op) r)(ha:PE X a ta)(hb:PE X b tb)(hm:behindInMarks op b=false):PT X (.Compare a [op] [b] pos) (JT (Bn r ta tb)):=by
 intro pins s σ H Q I h;refine wpAny_isTrue_Compare1 (c8 (ha pins s σ H _ I h) fun v s1 ⟨x,H1,I1,r1,q1⟩=>c8 (hb pins s1 σ H1 _ I1 q1) fun u s2 ⟨y,H2,I2,r2,q2⟩=>
  c8 (ho pins s2 σ H2 x y v u _ I2 r1 r2 q2) fun c s3 ⟨z,H3,I3,r3,k,e,q3⟩=>?_) hm
 subst e;cases r3;exact wpAny_truthy_bool ⟨H3,I3,q3⟩
def JA (K:Frag) (x:V) (H:Hp) (k:Bool):Prop:=
 match x with
 | .bM=>k=false
 | .bl b=>k=b
 | .int i=>k=(i !=0)
 | .str y=>y.length<=sizeLine/\k=((y.length:Int) !=0)
 | .mP y=>y.size<=sizeLine/\k=((y.size:Int) !=0)
 | .ref p=>(∃xs,fF K H p xs/\k=!xs.isEmpty)\/(∃xs,jb K H p xs/\k=!xs.isEmpty)\/∃fU,H p=some (.dK fU)/\k=!fU.isEmpty
 |_=>False
theorem DO{κ:Type}{fU:List (κ×V)}{vs:List (κ×Value)}(r:KV fU vs):(!vs.isEmpty)=!fU.isEmpty:=by
 cases r<;>rfl
variable {ao:List Value}
theorem uz(r:Vals xs ao):(!ao.toArray.isEmpty)=!xs.isEmpty:=by
 cases r<;>simp
theorem qr:(sizeLine:Nat)<2^63:=by rw[sizeLine_eq];decide
theorem N9:Vm X (fun x H Q=>∃k,JA X.K x H k/\Q k H):=by
 intro pins s σ H x v Q I rx h;obtain⟨k,e,q⟩:=h;have hl:=qr;have hs:sizeLine=16777216:=sizeLine_eq;cases x with
 |bM=>
  cases rx;have e':k=false:=e;subst e';exact truthy_none ⟨H,I,q⟩
 |bl b=>
  cases rx;have e':k=b:=e;subst e';exact wpAny_truthy_bool ⟨H,I,q⟩
 |int i=>
  obtain⟨t,rfl⟩:=rx;have e':k=(i !=0):=e;subst e';exact PySem.P.truthy_int ⟨H,I,q⟩
 |str y=>
  obtain⟨t,rfl⟩:=rx;obtain⟨hy,e'⟩:y.length<=sizeLine/\k=((y.length:Int) !=0):=e;subst e';exact PySem.P.truthy_str (by omega) ⟨H,I.tok _,q⟩
 |mP y=>
  obtain⟨t,rfl⟩:=rx;obtain⟨hy,e'⟩:y.size<=sizeLine/\k=((y.size:Int) !=0):=e;subst e';exact PySem.W.truthy_bytes (by omega) ⟨H,I.tok _,q⟩
 |ref p=>
  cases rx;have e':(∃xs,fF X.K H p xs/\k=!xs.isEmpty)\/(∃xs,jb X.K H p xs/\k=!xs.isEmpty)\/∃fU,H p=some (.dK fU)/\k=!fU.isEmpty:=e;rcases e' with⟨xs,hx,e'⟩|⟨xs,hx,e'⟩|⟨fU,hx,e'⟩
  ·subst e';obtain⟨ao,r,pl,hz⟩:=I.list hx;have hlen:=r.length;exact wpAny_truthy_list pl.isList (by simp only[size_toArray];omega) ⟨H,I.tok _,by rw[uz r];exact q⟩
  ·subst e';obtain⟨ao,r,pl,hz⟩:=I.tuple hx;have hlen:=r.length;exact truthy_tuple pl (by simp only[size_toArray];omega) ⟨H,I.tok _,by rw[uz r];exact q⟩
  ·subst e';obtain⟨hz,hS,vs,r,m⟩:fU.length<=sizeLine/\(p==sysModules)=false/\∃vs,KV fU vs/\s.heap.DictOf (vF X.prog X.w) p vs:=I.bF p _ hx;have hlen:fU.length=vs.length:=Paired.length r;exact wpAny_truthy_dict hS m (by omega) ⟨H,I.tok _,by rw[DO r];exact q⟩
 |_=>exact(show False from e).elim
theorem Im(ha:PE X a ta)(he:∀whole,isTrue a X.env whole=(do let v <- whole;standAt a.pos;holding [v] (truthy v))):
  PT X a (fun σ H Q=>ta σ H fun x H'=>∃k,JA X.K x H' k/\Q k H'):=by
 intro pins s σ H Q I h;exact isTrue_plain (c8 (ha pins s σ H _ I h) fun v s1 ⟨x,H1,I1,r1,q1⟩=>N9 pins s1 σ H1 x v Q I1 r1 q1) (he _)
theorem oE:dZ X (binaryOp .Add) (fun x y H Q=>∃i j,x=.str i/\y=.str j/\i.length+j.length<=sizeLine/\Q (.str (i++j)) H):=by
 intro pins s σ H x y v u Q I rx ry h;obtain⟨i,j,rfl,rfl,hz,q⟩:=h;obtain⟨t,rfl⟩:=rx;obtain⟨t',rfl⟩:=ry;exact add_str (fun t' tk=>⟨.str (i++j),H,I.tok _,⟨_,rfl⟩,q⟩) hz
theorem vals1{x:V}(r:Vals [x] us):∃u,us=[u]/\RelV x u:=by
 cases r with
 |cons r1 r2=>cases r2;exact⟨_,rfl,r1⟩
variable {y:V}
theorem vals2{x:V}(r:Vals [x,y] us):∃u w',us=[u,w']/\RelV x u/\RelV y w':=by
 cases r with
 |cons r1 r2=>
  cases r2 with
  |cons r3 r4=>cases r4;exact⟨_,_,rfl,r1,r3⟩
theorem Ju:ko X (.builtin "abs") (fun xs H Q=>∃i,xs=[.int i]/\Q (.int (if i<0 then -i else i)) H):=by
 intro pins s σ H xs us Q I r h;obtain⟨i,rfl,q⟩:=h;obtain⟨u,rfl,t,rfl⟩:=vals1 r;exact call_abs_int fun u tk=>⟨.int (if i<0 then -i else i),H,I.tok _,⟨_,rfl⟩,q⟩
def Qg (K:Frag) (x:V) (H:Hp) (n:Nat):Prop:=
 match x with
 | .str y=>y.length<=sizeLine/\n=y.length
 | .mP y=>y.size<=sizeLine/\n=y.size
 | .ref p=>(∃xs,fF K H p xs/\n=xs.length)\/∃xs,jb K H p xs/\n=xs.length
 |_=>False
theorem Jt:ko X (.builtin "len") (fun xs H Q=>∃x n,xs=[x]/\Qg X.K x H n/\Q (.int n) H):=by
 intro pins s σ H xs us Q I r h;obtain⟨x,n,rfl,e,q⟩:=h;obtain⟨u,rfl,rx⟩:=vals1 r;have hl:=qr;have hs:sizeLine=16777216:=sizeLine_eq;cases x with
 |str y=>
  obtain⟨t,rfl⟩:=rx;obtain⟨hy,e'⟩:y.length<=sizeLine/\n=y.length:=e;subst e';exact len_str (by omega) ⟨.int _,H,I.tok _,⟨_,rfl⟩,q⟩
 |mP y=>
  obtain⟨t,rfl⟩:=rx;obtain⟨hy,e'⟩:y.size<=sizeLine/\n=y.size:=e;subst e';exact PySem.W.len_bytes (by omega) ⟨.int _,H,I.tok _,⟨_,rfl⟩,q⟩
 |ref p=>
  cases rx;have e':(∃xs,fF X.K H p xs/\n=xs.length)\/∃xs,jb X.K H p xs/\n=xs.length:=e;rcases e' with⟨xs,hx,e'⟩|⟨xs,hx,e'⟩
  ·subst e';obtain⟨ao,r',pl,hz⟩:=I.list hx;have hlen:=r'.length;exact Calls.call_len_list pl.isList (by simp only[size_toArray];omega) ⟨.int xs.length,H,I.tok _,⟨_,by simp only[size_toArray];rw[hlen]⟩,q⟩
  ·subst e';obtain⟨ao,r',pl,hz⟩:=I.tuple hx;have hlen:=r'.length;exact len_tuple pl (by simp only[size_toArray];omega) ⟨.int xs.length,H,I.tok _,⟨_,by simp only[size_toArray];rw[hlen]⟩,q⟩
 |_=>exact(show False from e).elim
open PySem PySem.Spec PyProof.Rows
structure cw (k:Nat) (A:Around):Prop where
 hd:A.handled=none
 dp:A.depth+3*k+5<recursionLimit
 un:A.units+16*k+200<cLine
variable {j k:Nat}
theorem cw.mono(r:cw k A)(h:j<=k):cw j A:=⟨r.hd,by have:=r.dp;omega,by have:=r.un;omega⟩
theorem cw.deeper(r:cw (k+1) A)(env:Env):cw k (A.deeper env):=
 ⟨r.hd,by have:=r.dp;show A.depth+1+3*k+5<_;omega,by have:=r.un;show A.units+3+16*k+200<_;omega⟩
theorem cw.depth(r:cw k A):A.depth<recursionLimit:=by have:=r.dp;omega
theorem cw.units(r:cw k A):A.units+64<cLine:=by have:=r.un;omega
def Up:TA:=fun _ H Q=>Q [] H
def QK (ta:TE) (tr:TA):TA:=fun σ H Q=>ta σ H fun x H1=>tr σ H1 fun xs H2=>Q (x::xs) H2
theorem qk:PA X [] Up:=fun _ _ _ _ H Q I h=>Calls.spliced_nil ⟨[],H,I,.nil,h⟩
variable {t:TA}
theorem kD(ha:PE X e te)(hr:PA X es t)(hs:starEach (e::es) X.env=(false,eval e X.env)::starEach es X.env:=by rfl):PA X (e::es) (QK te t):=by
 intro pos pins s σ H Q I h;rw[hs];show wpAny _ _ (spliced ((false,eval e X.env)::backTo pos (starEach es X.env))) _ _ s;refine Calls.spliced_cons (c8 (ha pins s σ H _ I h) fun u s1 ⟨x,H1,I1,r1,q1⟩=>?_);exact c8 (hr pos pins s1 σ H1 _ I1 q1) fun us s2 ⟨xs,H2,I2,r2,q2⟩=>⟨x::xs,H2,I2,.cons r1 r2,q2⟩
def Ui (t:TA):TE:=fun σ H Q=>t σ H fun xs H1=>xs.length<=sizeLine/\∀p,H1 p=none->Q (.ref p) (upd H1 p (.tup xs))
def Uq (t:TA):TE:=fun σ H Q=>t σ H fun xs H1=>xs.length<=sizeLine/\∀p,H1 p=none->Q (.ref p) (upd H1 p (.lst xs))
theorem FH{x1}(h:PA X es t):PE X (.Tuple es x1 pos) (Ui t):=by
 intro pins s σ H Q I hq;refine wpAny_Tuple_spliced (c8 (h pos pins s σ H _ I hq) fun us s1 ⟨xs,H1,I1,r,z,q⟩=>⟨by rw[<- r.length];exact z,?_⟩);have hf:H1 s1.heap.objs.size=none:=I1.bF.fresh (le_refl _);refine⟨.ref s1.heap.objs.size,upd H1 s1.heap.objs.size (.tup xs),I1.laid (t':=s1.toks) (fun b u e=>get?_push_of_some _ e) (le_refl _) ?_,rfl,q _ hf⟩;exact⟨z,us,r,⟨_,get?_push_size _ rfl,rfl,_,rfl⟩⟩
theorem FI(h:PA X es t):PE X (.List es pos) (Uq t):=by
 intro pins s σ H Q I hq;refine wpAny_List_spliced (c8 (h pos pins s σ H _ I hq) fun us s1 ⟨xs,H1,I1,r,z,q⟩=>⟨by rw[<- r.length];exact z,?_⟩);have hf:H1 s1.heap.objs.size=none:=I1.bF.fresh (le_refl _);refine⟨.ref s1.heap.objs.size,upd H1 s1.heap.objs.size (.lst xs),I1.laid (t':=s1.toks) (fun b u e=>get?_push_of_some _ e) (le_refl _) ?_,rfl,q _ hf⟩;exact⟨z,us,0,r,get?_push_size _ rfl⟩
abbrev Sp:=List V->Hp->VK->XK->Prop
abbrev xN:=List Env->Hp->Shared->XK->Value->Shared->Prop
structure Er (P:Program) (w:World) (K:Frag) (mg:Str->Option Value) (base:Heap) (A:Around) (outer:List Env) (s:Shared) (H:Hp):Prop where
 frames:A.frames=some outer
 mod:Mod K mg base
 bs:∀b o,base.get? b=some o->s.heap.get? b=some o/\H b=none
 xC:base.objs.size<=s.heap.objs.size
 mH:s.heap.FunFrames base outer
 Cv:∀b∈l5 outer,H b=none
 bF:ig P w H s.heap
 bare:AllBare s.gens
def CE (outer:List Env) (P:Program) (w:World) (H:Hp) (s:Shared) (Q:VK) (u:Value) (s':Shared):Prop:=
 ∃v H',s'.os=s.os/\AllBare s'.gens/\Un (l5 outer) [] H H' s.heap s'.heap/\ig P w H' s'.heap/\RelV v u/\Q v H'
def CR (CX:xN) (outer:List Env) (P:Program) (w:World) (H:Hp) (s:Shared) (Q:VK) (E:XK) (r:Result) (s':Shared):Prop:=
 match r with
 | .ok (.ret u)=>CE outer P w H s Q u s'
 | .ok _=>False
 | .error e=>CX outer H s E e s'
structure gG (P:Program) (w:World) (K:Frag) (mg:Str->Option Value) (base:Heap) (CX:xN) (k:Nat) (f:Addr) (fd:FuncData) (ps:List Str) (sp:Sp):Prop where
 len:∀vs H Q E,sp vs H Q E->vs.length=ps.length
 run:∀(A:Around) (outer:List Env) (s:Shared) (H:Hp) (args:Args) (us:List Value) (vs:List V) (Q:VK) (E:XK),cw k A->Er P w K mg base A outer s H->BindsTo s fd args (ps.zip us)->Vals vs us->sp vs H Q E->
  codeAny (model P w) A (.call (.ref f) args) (CR CX outer P w H s Q E) s
variable {mg:Str->Option Value} {base:Heap} {CX:xN} {f:Addr} {fd:FuncData} {ps:List Str} {sp:Sp}
theorem gG.mono(F:gG P w K mg base CX j f fd ps sp)(h:j<=k):
  gG P w K mg base CX k f fd ps sp:=⟨F.len,fun A outer s H args us vs Q E hr=>F.run A outer s H args us vs Q E (hr.mono h)⟩
theorem gG.imp{RW:Sp}(F:gG P w K mg base CX k f fd ps sp)(h:∀vs H Q E,RW vs H Q E->sp vs H Q E):gG P w K mg base CX k f fd ps RW:=
 ⟨fun vs H Q E q=>F.len vs H Q E (h _ _ _ _ q),fun A outer s H args us vs Q E hr he hb hv hs=>F.run A outer s H args us vs Q E hr he hb hv (h _ _ _ _ hs)⟩
variable {s:Shared} in
theorem Inv.Vd(I:Inv X pins σ H s):Er X.prog X.w X.K X.mg X.base X.A X.stack s H:=
 ⟨I.ok.frames,I.ok.mod,I.bs,le_trans I.ok.xC I.sz,I.stack,I.vk,I.bF,I.bare⟩
variable {u:Value}
variable {s:Shared} in
theorem Inv.after(I:Inv X pins σ H s)(h:CE X.stack X.prog X.w H s Q u s'):EP X pins σ Q u s':=by
 obtain⟨v,H',os,bare,un,bF,r,q⟩:=h;obtain⟨hh,g,d,t,VJ⟩:=s';obtain rfl:VJ=s.os:=os;exact⟨v,H',I.call (h':=hh) (g':=g) (d':=d) (t':=t) (ch:=[]) un bF bare (fun b z=>absurd z (by simp)),r,q⟩
def JX (sp:Sp) (xx:List V) (E:XK) (t:TA):TE:=fun σ H Q=>t σ H fun vs H1=>sp (vs++xx) H1 Q E
def Binds (K:Frag) (fd:FuncData) (ps:List Str) (ds:List Value):Prop:=
 ∀(s:Shared) (us:List Value),K.In s.heap->(us++ds).length=ps.length->BindsTo s fd ⟨us,[]⟩ (ps.zip (us++ds))
theorem Binds.all(h:∀us:List Value,us.length=ps.length->bindArgs fd ⟨us,[]⟩=pure (ps.zip us)):Binds K fd ps []:=fun s us _ hl=>by
 rw[append_nil]at hl ⊢;exact .of_eq (h us hl)
def Passes (CX:xN) (X:Cx) (E:XK):Prop:=∀(pins:List (Addr×Obj)) (σ:St) (H:Hp) (s:Shared) (e:Value) (s':Shared),Inv X pins σ H s->CX X.stack H s E e s'->X.xe e s'
variable {ds:List Value} {E:XK} {xx:List V}
theorem Nz{σ:St}{s:Shared}{vs:List V}(F:gG X.prog X.w X.K X.mg X.base CX k f fd ps sp)(hr:cw k X.A)(hb:Binds X.K fd ps ds)(hd:Vals xx ds)(hx:Passes CX X E)(I:Inv X pins σ H s)(r:Vals vs us)(h:sp (vs++xx) H Q E):wpAny (model X.prog X.w) X.A (call (.ref f) us) (EP X pins σ Q) X.xe s:=by
 have r2:Vals (vs++xx) (us++ds):=r.append hd;have hl:(us++ds).length=ps.length:=by rw[<- r2.length];exact F.len _ _ _ _ h
 refine wpAny_call (codeAny_mono (F.run X.A X.stack s H ⟨us,[]⟩ (us++ds) (vs++xx) Q E hr I.Vd (hb s us I.pg hl) r2 h) fun r s' hq=>?_);cases r with
 |error e=>exact hx pins σ H s e s' I hq
 |ok fl=>
  cases fl with
  |ret u=>exact I.after hq
  |next=>exact False.elim hq
  |brk=>exact False.elim hq
  |cont=>exact False.elim hq
variable {p:Pos}
theorem rB(F:gG X.prog X.w X.K X.mg X.base CX k f fd ps sp)(hr:cw k X.A)(hg:Gl X x)(hm:X.mg x=some (.ref f))(hk:keepIn X.K (.ref f)=true)(hb:Binds X.K fd ps ds)(hd:Vals xx ds)(hx:Passes CX X E)(ha:PA X (e::es) t)(jq:(x==("__debug__" : Str))=false:=by decide)(he:starEach (e::es) X.env=(false,eval e X.env)::starEach es X.env:=by rfl)(eY:(backTo pos (starEach es X.env)).any (·.1)=false:=by rfl):
  PE X (.Call (.Name x p) (e::es) [] pos) (JX sp xx E t):=by
 intro pins s σ H Q I h;refine wpAny_Call_Name_kw (Cc I hg hm ?_ jq);refine PySem.W.callWith_K (h₀:=X.base) I.ok.mod.uu hk (c8 (ha pos pins s σ H _ I h) fun us s1 ⟨vs,H1,I1,r,q⟩=>⟨I1.pg,?_⟩) he eY;exact Nz F hr hb hd hx I1 r q
structure fX (N P:List Str) (sc:Scope):Prop where
 kind:sc.kind=.function
 co:sc.isCoroutine=false
 gen:sc.isGenerator=false
 nd:N.Nodup
 pre:N.take P.length=P
 par:∀x∈P,sc.names.lookup x=some .local\/sc.names.lookup x=some .cell
 Oa:∀y∈sc.names,y.2≠.free
theorem xD{kindOf:Str->Option NameKind}{x:Str}:∀{binds:List (Str×Value)} {m:Str->Option Value},(∀v,(x,v)∉binds)->bindL kindOf binds m x=m x
 |[],_,_=>rfl
 |(n,v)::r,m,h=>by
  unfold bindL;rw[xD fun w hw=>h w (mem_cons_of_mem _ hw)];split
  ·have:x≠n:=by rintro rfl;exact h v mem_cons_self
   simp[this]
  ·rfl
theorem xF{kindOf:Str->Option NameKind}{x:Str}:∀{binds:List (Str×Value)} {m:Str->Option Value},(∀v,(x,v)∉binds)->bindC kindOf binds m x=m x
 |[],_,_=>rfl
 |(n,v)::r,m,h=>by
  unfold bindC;rw[xF fun w hw=>h w (mem_cons_of_mem _ hw)];split
  ·rfl
  ·have:x≠n:=by rintro rfl;exact h v mem_cons_self
   simp[this]
theorem xE{kindOf:Str->Option NameKind}{x:Str}{v:Value}:∀{P:List Str} {vs:List Value} {i:Nat} {m:Str->Option Value},P.Nodup->P[i]?=some x->vs[i]?=some v->kindOf x=some .local->
  bindL kindOf (P.zip vs) m x=some v
 |[],_,_,_,_,h,_,_=>by simp at h
 |_::_,[],_,_,_,_,h,_=>by simp at h
 |p::P,w::vs,0,m,nd,h1,h2,hk=>by
  simp at h1 h2;subst h1;subst h2;show bindL kindOf ((p,w)::P.zip vs) m p=_;unfold bindL;rw[xD fun v hv=>(nodup_cons.mp nd).1 (of_mem_zip hv).1,if_pos hk];simp
 |p::P,w::vs,i+1,m,nd,h1,h2,hk=>by
  show bindL kindOf ((p,w)::P.zip vs) m x=_;unfold bindL;exact xE (i:=i) (nodup_cons.mp nd).2 (by simpa using h1) (by simpa using h2) hk
theorem xG{kindOf:Str->Option NameKind}{x:Str}{v:Value}:∀{P:List Str} {vs:List Value} {i:Nat} {m:Str->Option Value},P.Nodup->P[i]?=some x->vs[i]?=some v->kindOf x≠some .local->
  bindC kindOf (P.zip vs) m x=some v
 |[],_,_,_,_,h,_,_=>by simp at h
 |_::_,[],_,_,_,_,h,_=>by simp at h
 |p::P,w::vs,0,m,nd,h1,h2,hk=>by
  simp at h1 h2;subst h1;subst h2;show bindC kindOf ((p,w)::P.zip vs) m p=_;unfold bindC;rw[xF fun v hv=>(nodup_cons.mp nd).1 (of_mem_zip hv).1,if_neg hk];simp
 |p::P,w::vs,i+1,m,nd,h1,h2,hk=>by
  show bindC kindOf ((p,w)::P.zip vs) m x=_;unfold bindC;exact xG (i:=i) (nodup_cons.mp nd).2 (by simpa using h1) (by simpa using h2) hk
def start (N:List Str) (vs:List V):St:=vs.map some++List.replicate (N.length-vs.length) none
def jG (CX:xN) (P:Program) (w:World) (K:Frag) (mg:Str->Option Value) (base:Heap) (N:List Str) (qual:Str) (scope:Scope) (f:Addr) (cd:Value) (A:Around) (outer:List Env) (s:Shared) (H:Hp) (E:XK):Cx where
 prog:=P
 w:=w
 K:=K
 mg:=mg
 base:=base
 A:=A.deeper (envOfC qual scope s.heap.objs.size f cd)
 N:=N
 aK:=s
 aj:=H
 env:=envOfC qual scope s.heap.objs.size f cd
 outer:=outer
 stack:=envOfC qual scope s.heap.objs.size f cd::outer
 ex:=[]
 calm:=true
 fn:=fun _=>true
 pn:=[]
 xe:=fun e s'=>wpAny (model P w) (A.deeper (envOfC qual scope s.heap.objs.size f cd)) (leaving (envOfC qual scope s.heap.objs.size f cd) e) (fun _ nS=>CX outer H s E e nS) (fun e' nS=>CX outer H s E e' nS) s'
variable {n:Nat}
theorem Aq{sc:Scope}(h:sc.names.lookup x=some .cell):∃c,(cellsFrom n sc.names []).lookup x=some c:=by
 have q:=PySem.W.cellsFrom_some sc.names n [] (.inl h);exact Option.isSome_iff_exists.mp q
variable {qual:Str} {scope:Scope}
theorem Gp{cd:Value}{outer:List Env}{s s1:Shared}{vs:List V}(S:fX N ps scope)(hd:A.handled=none)(e0:Er P w K mg base A outer s H)(hl:vs.length=ps.length)(r:Vals vs us)(x:InCallC s s.heap.objs.size (bindL (envOfC qual scope s.heap.objs.size f cd).kindOf (ps.zip us) fun _=>none) (cellsFrom (s.heap.objs.size+1) scope.names []) (bindC (envOfC qual scope s.heap.objs.size f cd).kindOf (ps.zip us) fun _=>none) s1):
  Inv (jG CX P w K mg base N qual scope f cd A outer s H E) [] (start N vs) H s1:=by
 have eY:ps.length<=N.length:=by have:=congrArg List.length S.pre;rw[length_take]at this;omega
 obtain⟨h1,tk,rfl,hk⟩:=x.done;have FZ:∀b:Addr,b∉(jG CX P w K mg base N qual scope f cd A outer s H E).ex:=fun b z=>absurd (show b∈([]:List Addr)from z) (by simp);refine⟨⟨e0.mod,S.kind,rfl,rfl,le_refl _,fun y z c h1 h2=>?_,fun y hy=>?_,fun y c _ h=>?_,fun _=>hd,Around.frames_deeper e0.frames,.inr ⟨rfl,rfl⟩,fun b z=>absurd z (FZ b),e0.bs,e0.xC,fun b _ _=>FZ b,fun b z=>absurd z (FZ b),e0.mH,e0.Cv⟩,
  rfl,e0.bare,Un.kept hk,⟨_,x.toInCall.ns,fun i y v h1 h2 h3=>?_⟩,fun y c h=>⟨_,x.cell y c h⟩,e0.bF.fresh (le_refl _),fun y c h=>?_,fun p hp=>absurd (show p∈([]:List (Addr×Obj))from hp) (by simp),e0.bF.kept hk,?_⟩
 ·exact name_of_addr x.apart (PySem.mem_of_lookup h1) (PySem.mem_of_lookup h2)
 ·have hy:scope.names.lookup y=some .cell\/scope.names.lookup y=some .free:=hy;rcases hy with hy|hy
  ·exact Aq hy
  ·exact absurd rfl (S.Oa _ (PySem.mem_of_lookup hy))
 ·exact Nat.le_of_lt (x.above y c (PySem.mem_of_lookup h))
 ·have hi:i<vs.length:=by
   unfold start at h2;by_cases hi:i<vs.length
   ·exact hi
   ·rw[getElem?_append_right (by simpa using hi)]at h2;rw[getElem?_replicate]at h2;split at h2<;>cases h2
  have ha:vs[i]?=some v:=by
   unfold start at h2;rw[getElem?_append_left (by simpa using hi),getElem?_map]at h2;cases e:vs[i]? with
   |none=>rw[e]at h2;cases h2
   |some a=>rw[e]at h2;cases h2;rfl
  obtain⟨u,hu,rv⟩:=r.get ha;have hp:ps[i]?=some y:=by
   rw[<- S.pre,List.getElem?_take_of_lt (by omega)];exact h1
  have S9:ps.Nodup:=by rw[<- S.pre];exact S.nd.sublist (List.take_sublist _ _)
  refine⟨u,rv,?_⟩;rcases S.par y (mem_of_getElem? hp)with k|k
  ·exact .inl ⟨k,xE S9 hp hu k⟩
  ·obtain⟨c,e⟩:=Aq (n:=s.heap.objs.size+1) k;refine .inr ⟨.inl k,c,e,?_⟩;have q:=x.cell y c e;rw[xG S9 hp hu (by show scope.names.lookup y≠_;rw[k];decide)]at q;exact q
 ·exact e0.bF.fresh (Nat.le_of_lt (x.above y c (PySem.mem_of_lookup h)))
 ·unfold start;show _=N.length;rw[length_append,length_map,length_replicate];omega
variable {doc pm bG ct oc:Value} {an od:Option Addr} {rT:Array (Option Value)}
theorem RD{name:Str}{params:Arguments}{dV kV:Value}(lk:K.lookup f=some ⟨oc,od,.func (fnOf name qual params body scope dV kV doc pm an bG ct),rT⟩)(gw:codeIn K bG qual=true)(S:fX N ps scope)(len:∀vs H Q E,sp vs H Q E->vs.length=ps.length)(hbody:∀(A:Around) (outer:List Env) (s:Shared) (H:Hp) (vs:List V) (Q:VK) (E:XK),cw k (A.deeper (envOfC qual scope s.heap.objs.size f bG))->sp vs H Q E->
   ∃t,lr (jG CX P w K mg base N qual scope f bG A outer s H E) body t/\t {nx:=fun _ H'=>Q .bM H',rt:=Q} (start N vs) H):
  gG P w K mg base CX (k+1) f (fnOf name qual params body scope dV kV doc pm an bG ct) ps sp:=by
 refine⟨len,fun A outer s H args us vs Q E hr e0 hb r lF=>?_⟩;have hl:=len _ _ _ _ lF;have KX:K.In s.heap:=e0.mod.uu.keeps fun b o e=>(e0.bs b o e).1;have lim:s.heap.NoLimit:=e0.mod.nolimit.keeps fun b o e=>(e0.bs b o e).1;have Ru:∀y∈ps.zip us,scope.names.lookup y.1=some .local\/(scope.names.lookup y.1=some .cell/\((cellsFrom (s.heap.objs.size+1) scope.names []).lookup y.1).isSome=true):=fun⟨n,v⟩ hy=>by
  rcases S.par n (of_mem_zip hy).1 with q|q
  ·exact .inl q
  ·exact .inr ⟨q,PySem.W.cellsFrom_some _ _ _ (.inl q)⟩
 refine codeAny_call_function hr.depth (KX _ _ lk) rfl S.co S.gen rfl (PySem.W.codeRec_of KX gw) (hb _ _ _ _ ?_);refine wpAny_newFunctionEnv_cells S.kind Ru fun env he s1 x=>?_;subst he;refine⟨lim.keeps x.toInCall.keep,codeAny_func ?_⟩;obtain⟨t,ht,hq⟩:=hbody A outer s H vs Q E (hr.deeper _) lF;have I:Inv (jG CX P w K mg base N qual scope f bG A outer s H E) [] (start N vs) H s1:=Gp S hr.hd e0 hl r x;refine wpAny_mono (ht [] s1 (start N vs) H _ I hq) (fun fl s' hs=>?_) fun e s' hs=>hs;have fin:∀{bI:St} {H':Hp} {v:V} {u:Value},Inv (jG CX P w K mg base N qual scope f bG A outer s H E) [] bI H' s'->RelV v u->Q v H'->CE outer P w H s Q u s':=
  fun{bI H' v u} J rv q=>⟨v,H',J.os,J.bare,J.base,J.bF,rv,q⟩
 cases fl with
 |ret u=>
  obtain⟨v,bI,H',J,rv,q⟩:=hs;exact fin J rv q
 |next=>
  obtain⟨bI,H',J,q⟩:=hs;exact fin (v:=V.bM) (u:=Value.none) J rfl q
 |brk=>
  obtain⟨_,_,_,q⟩:=hs;exact False.elim q
 |cont=>
  obtain⟨_,_,_,q⟩:=hs;exact False.elim q
open PySem PySem.Spec PyProof.Rows
variable {r:List V->Hp->VK->Prop}
def JY (r:List V->Hp->VK->Prop) (t:TA):TE:=fun σ H Q=>t σ H fun vs H1=>r vs H1 Q
variable {id:String}
theorem yY(hc:ko X (.builtin id) r)(hg:Gl X x)(hm:X.mg x=none)(hv:bootBuiltins x=some (.builtin id))(ha:PA X (e::es) t)(hn:x≠"__name__":=by decide)(jq:(x==("__debug__" : Str))=false:=by decide)(he:starEach (e::es) X.env=(false,eval e X.env)::starEach es X.env:=by rfl)(eY:(backTo pos (starEach es X.env)).any (·.1)=false:=by rfl):PE X (.Call (.Name x p) (e::es) [] pos) (JY r t):=by
 intro pins s σ H Q I h;refine wpAny_Call_Name_kw (mB I hg hm hv ?_ hn jq);exact PyProof.Rows.callWith_builtin1 (c8 (ha pos pins s σ H _ I h) fun us s1 ⟨vs,H1,I1,r1,q1⟩=>hc pins s1 σ H1 vs us Q I1 r1 q1) he eY
variable {T:String}
theorem nh(hc:ko X (.type T) r)(hg:Gl X x)(hm:X.mg x=none)(hv:bootBuiltins x=some (.type T))(ha:PA X (e::es) t)(hn:x≠"__name__":=by decide)(jq:(x==("__debug__" : Str))=false:=by decide)(he:starEach (e::es) X.env=(false,eval e X.env)::starEach es X.env:=by rfl)(eY:(backTo pos (starEach es X.env)).any (·.1)=false:=by rfl):PE X (.Call (.Name x p) (e::es) [] pos) (JY r t):=by
 intro pins s σ H Q I h;refine wpAny_Call_Name_kw (mB I hg hm hv ?_ hn jq);exact PyProof.Rows.callWith_type1 (c8 (ha pos pins s σ H _ I h) fun us s1 ⟨vs,H1,I1,r1,q1⟩=>hc pins s1 σ H1 vs us Q I1 r1 q1) he eY
end
end L2
namespace HT
noncomputable section
open PySem PyProof.Rows
def bY (n d:Nat):Option Int->Nat
 |none=>d
 |some v=>if v<0 then(v+(n:Int)).toNat else min v.toNat n
theorem sJ(n d:Nat):bY n d none=d:=rfl
theorem qZ(n d k:Nat):bY n d (some (k:Int))=min k n:=by
 show(if(k:Int)<0 then((k:Int)+(n:Int)).toNat else min (k:Int).toNat n)=min k n;rw[if_neg (by omega),toNat_natCast]
theorem Nw(n d:Nat)(hd:d<=n)(o:Option Int):bY n d o<=n:=by
 cases o with
 |none=>exact hd
 |some v=>
  show(if v<0 then(v+(n:Int)).toNat else min v.toNat n)<=n;by_cases hv:v<0
  ·rw[if_pos hv];omega
  ·rw[if_neg hv];exact Nat.min_le_right _ _
theorem CS(v:Int)(n d:Nat):(if v<0 then max (v+(n:Int)) 0 else min v (n:Int))=((bY n d (some v):Nat):Int):=by
 show(if v<0 then max (v+(n:Int)) 0 else min v (n:Int))=(((if v<0 then(v+(n:Int)).toNat else min v.toNat n):Nat):Int);by_cases hv:v<0
 ·simp only[if_pos hv];omega
 ·simp only[if_neg hv];omega
theorem Ed(lo hi:Option Int)(n:Nat):Builtin.Slice.sliceAdjust lo hi 1 (n:Int)=(((bY n 0 lo:Nat):Int),((bY n n hi:Nat):Int)):=by
 have h1:¬((1:Int)<0):=by omega
 unfold Builtin.Slice.sliceAdjust;simp only[h1,if_false];refine Prod.ext ?_ ?_
 ·cases lo with
  |none=>rfl
  |some v=>exact CS v n 0
 ·cases hi with
  |none=>rfl
  |some v=>exact CS v n n
theorem DG(i j:Nat):Builtin.Slice.slicePlaces (i:Int) (j:Int) 1=j-i:=by
 unfold Builtin.Slice.slicePlaces;have h1:(1:Int)>0:=by omega
 simp only[h1,if_true,Int.ediv_one];split<;>omega
variable {A:Around} {prog:Program} {w:World} {E:Value->Shared->Prop} {v:Value}
variable {s:Shared} in
theorem tX{o:Option Int}{Q:Option Int->Shared->Prop}(p:IsPart v o)(h:Q o s):wpAny (model prog w) A (Builtin.Slice.slicePartIndex v) Q E s:=by
 cases p with
 |none=>exact slicePart_none h
 |int i t=>exact slicePart_int h
variable {n:Nat}
variable {s:Shared} in
theorem sI{sl:Addr}{vl vu:Value}{lo hi:Option Int}{Q:Int×Int×Nat->Shared->Prop}(hs:s.heap.IsSliceOf sl vl vu .none)(pl:IsPart vl lo)(pu:IsPart vu hi)(h:Q (((bY n 0 lo:Nat):Int),1,bY n n hi-bY n 0 lo) s):wpAny (model prog w) A (Builtin.Slice.sliceApplied (.ref sl) (pure (n:Int))) Q E s:=by
 obtain⟨os,kY,KI,KH⟩:=id hs;unfold Builtin.Slice.sliceApplied Builtin.Slice.sliceFields;refine wpAny_bind (wpAny_bind (wpAny_field kY KH (x:=vl) rfl (wpAny_bind (wpAny_field kY KH (x:=vu) rfl (wpAny_bind (wpAny_field kY KH (x:=.none) rfl (wpAny_pure ?_)))))));refine wpAny_bind (slicePart_none ?_);show wpAny _ _ (if((1:Int)==0)=true then _ else _) _ _ s;rw[if_neg (by decide)];refine wpAny_bind (tX pl (wpAny_bind (tX pu (wpAny_bind (wpAny_pure ?_)))));show wpAny _ _ (match Builtin.Slice.sliceAdjust lo hi 1 (n:Int)with|(lo,hi)=>pure (lo,(1:Int),Builtin.Slice.slicePlaces lo hi 1)) _ _ s
 rw[Ed lo hi n];show wpAny _ _ (pure (((bY n 0 lo:Nat):Int),(1:Int),Builtin.Slice.slicePlaces ((bY n 0 lo:Nat):Int) ((bY n n hi:Nat):Int) 1)) _ _ s;rw[DG];exact wpAny_pure h
theorem Iw(xs:Array Value)(i k:Nat):((List.range k).filterMap fun(m:Nat)=>xs[((i:Int)+(m:Int)*1).toNat]?).toArray=((xs.toList.drop i).take k).toArray:=by
 have e:(fun(m:Nat)=>xs[((i:Int)+(m:Int)*1).toNat]?)=fun m=>xs[i+m]?:=by
  funext m
  have:((i:Int)+(m:Int)*1).toNat=i+m:=by omega
  rw[this]
 rw[e];have:=pick_run xs i k;rw[List.filterMap_map]at this;have e2:((fun x=>xs[x]?) ∘ fun x=>i+x)=fun m=>xs[i+m]?:=rfl;rw[e2]at this;rw[this]
variable {Q:Value->Shared->Prop}
variable {s:Shared} in
theorem rP{t sl:Addr}{items:Array Value}{vl vu:Value}{lo hi:Option Int}(ht:IsTup s.heap t items)(hs:s.heap.IsSliceOf sl vl vu .none)(pl:IsPart vl lo)(pu:IsPart vu hi)(hw:¬(bY items.size 0 lo=0/\bY items.size items.size hi=items.size))(h:Q (.ref s.heap.objs.size) {s with heap:=s.heap.push {cls:=.type "tuple",data:=.seq ((items.toList.drop (bY items.size 0 lo)).take (bY items.size items.size hi-bY items.size 0 lo)).toArray}})(hsz:items.size<=sizeLine):wpAny (model prog w) A (getItem (.ref t) (.ref sl)) Q E s:=by
 have y8:sizeOk (.seq ((items.toList.drop (bY items.size 0 lo)).take (bY items.size items.size hi-bY items.size 0 lo)).toArray):=by
  show((items.toList.drop (bY items.size 0 lo)).take (bY items.size items.size hi-bY items.size 0 lo)).toArray.size<=sizeLine;rw[size_toArray,length_take,length_drop,length_toList];omega
 have hj:bY items.size items.size hi<=items.size:=Nw _ _ (le_refl _) hi;obtain⟨os,kY,KI,KH⟩:=id hs;have WA:s.TypeIs (.ref sl) "slice":=⟨os,kY,KI⟩;unfold getItem;try with_reducible refine wpAny_holding ?_
 first|refine wpAny_bind (wpAny_pure ?_)|skip
 refine wpAny_bind (wpAny_sequenceKey ht.typeIs (by decide) ?_);refine wpAny_bind (wpAny_callSpecial?_slot (name:=Str.ofString "__getitem__") ht.typeIs PyProof.Rows.slot_tuple_getitem
  (wpAny_call_entry PyProof.Rows.slot_tuple_getitem ht.typeIs entry_tuple_getitem ?_ (args_tuple_getitem _ _)))
 show wpAny _ _ (Builtin.Tuple.tupleItemsOf (.ref t) >>= _) _ _ s;refine wpAny_bind (tupleItemsOf_ ht ?_);refine wpAny_bind (wpAny_typeOf WA ?_);rw[if_pos (by decide)];refine wpAny_bind (sI hs pl pu ?_);have uF:¬((((bY items.size 0 lo:Nat):Int)==0&&(1:Int)==1&&(bY items.size items.size hi-bY items.size 0 lo)==items.size)=true):=by
  intro q;rw[and_eq_true,and_eq_true]at q;have q1:((bY items.size 0 lo:Nat):Int)=0:=eq_of_beq q.1.1;have q2:bY items.size items.size hi-bY items.size 0 lo=items.size:=eq_of_beq q.2;exact hw ⟨by omega,by omega⟩
 show wpAny _ _ (if(((bY items.size 0 lo:Nat):Int)==0&&(1:Int)==1&&(bY items.size items.size hi-bY items.size 0 lo)==items.size)=true then _ else _) _ _ s;rw[if_neg uF,Iw];first
  |exact wpAny_bind (m:=Builtin.Tuple.tupleExact _) (wpAny_newObj_type (wpAny_pure ⟨_,rfl,wpAny_pure h⟩) y8)
  |exact wpAny_bind (m:=Builtin.Tuple.tupleExact _) (wpAny_newObj_type (wpAny_bind (wpAny_pure (wpAny_pure ⟨_,rfl,wpAny_pure h⟩))) y8)
  |exact wpAny_bind (wpAny_bind (m:=Builtin.Tuple.tupleExact _) (wpAny_newObj_type (wpAny_pure (wpAny_pure ⟨_,rfl,wpAny_pure h⟩)) y8))
  |exact wpAny_bind (wpAny_bind (m:=Builtin.Tuple.tupleExact _) (wpAny_newObj_type (wpAny_pure ⟨_,rfl,wpAny_pure h⟩) y8))
end
end HT
namespace L2
noncomputable section
open PySem PySem.Spec PyProof.Rows
abbrev TO:=St->Hp->(Option Int->Hp->Prop)->Prop
def PO (X:Cx) (e:Option Expr) (t:TO):Prop:=
 ∀(pins:List (Addr×Obj)) (s:Shared) (σ:St) (H:Hp) (Q:Option Int->Hp->Prop),Inv X pins σ H s->t σ H Q->
  wpAny (model X.prog X.w) X.A (evalPart e X.env) (fun u s'=>∃o H',Inv X pins σ H' s'/\IsPart u o/\Q o H') X.xe s
def Lx:TO:=fun _ H Q=>Q none H
def Qy (t:TE):TO:=fun σ H Q=>t σ H fun x H1=>∃i,x=.int i/\Q (some i) H1
variable {X:Cx}
theorem LU:PO X none Lx:=by
 intro pins s σ H Q I h;rw[evalPart_none];exact wpAny_pure ⟨none,H,I,.none,h⟩
variable {e:Expr} {te:TE}
theorem LS(h:PE X e te):PO X (some e) (Qy te):=by
 intro pins s σ H Q I hw;rw[evalPart_some];refine c8 (h pins s σ H _ I hw) fun u s1 ⟨x,H1,I1,r1,q1⟩=>?_;obtain⟨i,rfl,q⟩:=q1;obtain⟨t,rfl⟩:=r1;exact⟨some i,H1,I1,.int i t,q⟩
variable {hi lo:Option Expr}
def AG (X:Cx) (r:V->Option Int->Option Int->Hp->VK->Prop):Prop:=
 ∀(pins:List (Addr×Obj)) (s:Shared) (σ:St) (H:Hp) (x:V) (v vl vu:Value) (lo hi:Option Int) (sl:Addr) (Q:VK),Inv X pins σ H s->RelV x v->s.heap.IsSliceOf sl vl vu .none->IsPart vl lo->IsPart vu hi->r x lo hi H Q->
  ∃T id,typeLookup (.type T) "__getitem__"=pure (some (.builtin id))/\s.TypeIs v T/\wpAny (model X.prog X.w) X.A (getItem v (.ref sl)) (EP X pins σ Q) X.xe s
theorem AG.or{r r':V->Option Int->Option Int->Hp->VK->Prop}(h:AG X r)(h':AG X r'):AG X (fun x lo hi H Q=>r x lo hi H Q\/r' x lo hi H Q):=by
 intro pins s σ H x v vl vu lo hi sl Q I rx hs pl pu q;rcases q with q|q
 ·exact h pins s σ H x v vl vu lo hi sl Q I rx hs pl pu q
 ·exact h' pins s σ H x v vl vu lo hi sl Q I rx hs pl pu q
variable {th tl:TO}
def Vy (r:V->Option Int->Option Int->Hp->VK->Prop) (te:TE) (tl th:TO):TE:=fun σ H Q=>te σ H fun x H1=>tl σ H1 fun l H2=>th σ H2 fun u H3=>r x l u H3 Q
variable {pos p2:Pos}
theorem IA{r:V->Option Int->Option Int->Hp->VK->Prop}(hr:AG X r)(he:PE X e te)(hl:PO X lo tl)(hu:PO X hi th):PE X (.Subscript e (.Slice lo hi none p2) pos) (Vy r te tl th):=by
 intro pins s σ H Q I h;refine Subscript_ (c8 (he pins s σ H _ I h) fun v s1 ⟨x,H1,I1,r1,q1⟩=>?_);refine wpAny_Slice (c8 (hl pins s1 σ H1 _ I1 q1) fun vl s2 ⟨l,H2,I2,pl,q2⟩=>c8 (hu pins s2 σ H2 _ I2 q2) fun vu s3 ⟨u,H3,I3,pu,q3⟩=>?_);rw[evalPart_none];refine wpAny_pure ?_;have I4:Inv X pins σ H3 {s3 with heap:=s3.heap.push {cls:=.type "slice",data:=.fields #[vl,vu,.none]}}:=I3.kept (t':=s3.toks) fun b ob q=>get?_push_of_some _ q;obtain⟨T,id,hT,ht,hg⟩:=hr pins {s3 with heap:=s3.heap.push {cls:=.type "slice",data:=.fields #[vl,vu,.none]}} σ H3 x v vl vu l u s3.heap.objs.size Q I4 r1 (Heap.IsSliceOf.new ..) pl pu q3;show wpAny (model X.prog X.w) X.A (subscriptTail e (.Slice lo hi none p2) v (.ref s3.heap.objs.size)) (EP X pins σ Q) X.xe {s3 with heap:=s3.heap.push {cls:=.type "slice",data:=.fields #[vl,vu,.none]}};exact tail_any (ops:=[.ref s3.heap.objs.size,v]) ht hT hg (by with_unfolding_all rfl)
def qH (xs:List V) (lo hi:Option Int):List V:=(xs.drop (HT.bY xs.length 0 lo)).take (HT.bY xs.length xs.length hi-HT.bY xs.length 0 lo)
theorem si(xs:List V)(lo hi:Option Int):(qH xs lo hi).length<=xs.length:=by
 unfold qH;rw[length_take,length_drop];omega
def Uw (K:Frag):V->Option Int->Option Int->Hp->VK->Prop:=fun x lo hi H Q=>∃a xs,x=.ref a/\jb K H a xs/\
 ¬(HT.bY xs.length 0 lo=0/\HT.bY xs.length xs.length hi=xs.length)/\∀p,H p=none->Q (.ref p) (upd H p (.tup (qH xs lo hi)))
theorem Nq:AG X (Uw X.K):=by
 intro pins s σ H x v vl vu lo hi sl Q I rx hs pl pu h;obtain⟨a,xs,rfl,hx,hw,q⟩:=h;cases rx;obtain⟨ao,r,ht,hz⟩:=I.tuple hx;have hlen:ao.toArray.size=xs.length:=by rw[size_toArray];exact r.length.symm
 refine⟨"tuple",_,PyProof.Rows.slot_tuple_getitem.lookup,ht.typeIs,?_⟩;refine HT.rP ht hs pl pu (by rw[hlen];exact hw) ?_ (by rw[hlen];exact hz);rw[hlen];refine⟨.ref s.heap.objs.size,_,I.laid (t':=s.toks) (o:=.tup (qH xs lo hi)) (fun b ob q=>get?_push_of_some _ q) (le_refl _) ?_,rfl,q _ (I.bF.fresh (le_refl _))⟩;exact⟨le_trans (si xs lo hi) hz,_,(r.drop (HT.bY xs.length 0 lo)).take (HT.bY xs.length xs.length hi-HT.bY xs.length 0 lo),IsTup.new _ _⟩
variable {xs:List V}
theorem Vals.rF{us:List Value}(r:Vals xs us):us=[]↔xs=[]:=by
 cases r with
 |nil=>simp
 |cons _ _=>simp
open PySem PySem.Spec PyProof.Rows
def lE (n:Nat) (i:Int):Option Nat:=if 0<=i then(if i<n then some i.toNat else none)else if -(n:Int)<=i then some (i+n).toNat else none
def fS {α:Type} (xs:List α) (i:Int):Option α:=(lE xs.length i).bind fun j=>xs[j]?
variable {n j:Nat}
theorem Ce{i:Int}(h:lE n i=some j):seqIndex? i n=some j/\j<n/\-(n:Int)<=i/\i<n:=by
 unfold lE at h;by_cases h0:0<=i
 ·rw[if_pos h0]at h;by_cases h1:i<n
  ·rw[if_pos h1]at h;have e:i.toNat=j:=Option.some.inj h;exact⟨by rw[seqIndex_of h0 h1,e],by omega,by omega,h1⟩
  ·rw[if_neg h1]at h;cases h
 ·rw[if_neg h0]at h;by_cases h1: -(n:Int)<=i
  ·rw[if_pos h1]at h;have e:(i+n).toNat=j:=Option.some.inj h;exact⟨by rw[seqIndex_neg (by omega) h1,e],by omega,h1,by omega⟩
  ·rw[if_neg h1]at h;cases h
variable {α:Type}
theorem CW{xs:List α}{i:Int}{v:α}(h:fS xs i=some v):∃j,seqIndex? i xs.length=some j/\xs[j]?=some v/\j<xs.length/\-(xs.length:Int)<=i/\i<xs.length:=by
 unfold fS at h;cases e:lE xs.length i with
 |none=>rw[e]at h;cases h
 |some j=>
  rw[e]at h;obtain⟨h1,h2,h3,h4⟩:=Ce e;exact⟨j,h1,h,h2,h3,h4⟩
def w5 (b:Expr):Prop:=∀o i,subscripted b false o i=operate [o,i] (getItem o i)
def AJ (X:Cx) (r:R2):Prop:=
 ∀(value slice:Expr) (pins:List (Addr×Obj)) (s:Shared) (σ:St) (H:Hp) (x y:V) (v u:Value) (Q:VK),Inv X pins σ H s->RelV x v->RelV y u->r x y H Q->
  subscripted slice false v u=operate [v,u] (getItem v u)->wpAny (model X.prog X.w) X.A (subscriptTail value slice v u) (EP X pins σ Q) X.xe s
def XF (X:Cx) (id:String) (r:V->List V->Hp->VK->Prop):Prop:=
 ∀(pins:List (Addr×Obj)) (s:Shared) (σ:St) (H:Hp) (x:V) (xs:List V) (v:Value) (us:List Value) (Q:VK),Inv X pins σ H s->RelV x v->Vals xs us->r x xs H Q->
  wpAny (model X.prog X.w) X.A (call (.builtin id) (v::us)) (EP X pins σ Q) X.xe s
theorem AJ.or{r r':R2}(h:AJ X r)(h':AJ X r'):AJ X (fun x y H Q=>r x y H Q\/r' x y H Q):=by
 intro value slice pins s σ H x y v u Q I rx ry q hs;rcases q with q|q
 ·exact h value slice pins s σ H x y v u Q I rx ry q hs
 ·exact h' value slice pins s σ H x y v u Q I rx ry q hs
variable {tb ta:TE} {b a:Expr}
theorem Kc{r:R2}(hr:AJ X r)(ha:PE X a ta)(hb:PE X b tb)(hs:w5 b):PE X (.Subscript a b pos) (Bn r ta tb):=by
 intro pins s σ H Q I h;exact Subscript_ (Jv ha hb I h fun v u s2 x y H2 I2 rx ry q=>hr a b pins s2 σ H2 x y v u Q I2 rx ry q (hs _ _))
def NJ (K:Frag):R2:=fun x y H Q=>∃p xs i v,x=.ref p/\y=.int i/\fF K H p xs/\fS xs i=some v/\Q v H
def NI (K:Frag):R2:=fun x y H Q=>∃p xs i v,x=.ref p/\y=.int i/\jb K H p xs/\fS xs i=some v/\Q v H
theorem Cd:AJ X (NJ X.K):=by
 intro value slice pins s σ H x y v u Q I rx ry h hs;obtain⟨p,xs,i,z,rfl,rfl,hq,he,q⟩:=h;cases rx;obtain⟨t,rfl⟩:=ry;obtain⟨ao,r,pl,hz⟩:=I.list hq;obtain⟨j,h1,h2,h3,h4,h5⟩:=CW he;obtain⟨w,ew,pY⟩:=r.get h2;have hl:=r.length;have hn:=qr;have fin:EP X pins σ Q w s:=⟨z,H,I,pY,q⟩;by_cases h0:0<=i
 ·have hj:i.toNat=j:=by
   rw[seqIndex_of h0 h5]at h1;exact Option.some.inj h1
  exact item_listR pl.isList h0 (by omega) (by rw[hj];simpa using ew) fin hs
 ·have hj:(i+(ao.toArray.size:Int)).toNat=j:=by
   rw[seqIndex_neg (by omega) h4]at h1;rw[size_toArray,<- hl];exact Option.some.inj h1
  exact subscriptTail_builtinR (x:=w) pl.isList.typeIs slot_list_getitem.lookup
   (wpAny_getItem_list_neg (Q:=fun r s'=>r=w/\EP X pins σ Q r s') pl.isList (by omega) (by rw[size_toArray]<;>omega) (by omega) (by rw[hj];simpa using ew) ⟨rfl,fin⟩) hs
theorem Gn:AJ X (NI X.K):=by
 intro value slice pins s σ H x y v u Q I rx ry h hs;obtain⟨p,xs,i,z,rfl,rfl,hq,he,q⟩:=h;cases rx;obtain⟨t,rfl⟩:=ry;obtain⟨ao,r,pl,hz⟩:=I.tuple hq;obtain⟨j,h1,h2,h3,h4,h5⟩:=CW he;obtain⟨w,ew,pY⟩:=r.get h2;have hl:=r.length;have hn:=qr;have fin:EP X pins σ Q w s:=⟨z,H,I,pY,q⟩;exact subscriptTail_builtinR (x:=w) pl.typeIs slot_tuple_getitem.lookup
  (getItem_tuple (j:=j) (Q:=fun r s'=>r=w/\EP X pins σ Q r s') pl (by omega) (by omega) (by rw[size_toArray,<- hl];exact h1) (by simpa using ew) ⟨rfl,fin⟩) hs
theorem DK(ao:List Value)(n j:Nat)(u:Value):Obj.mapSeq (·.setIfInBounds j u) {cls:=.type "list",data:=.seq ao.toArray n}={cls:=.type "list",data:=.seq (ao.set j u).toArray n}:=by
 simp[Obj.mapSeq]
theorem Inv.lst{pins:List (Addr×Obj)}{σ:St}{H:Hp}{s:Shared}{p:Addr}{xs:List V}(I:Inv X pins σ H s)(h:H p=some (.lst xs)):
  ∃(ao:List Value) (n:Nat),Vals xs ao/\s.heap.get? p=some {cls:=.type "list",data:=.seq ao.toArray n}/\xs.length<=sizeLine:=by
 obtain⟨z,ao,n,r,e⟩:=I.bF p _ h;exact⟨ao,n,r,e,z⟩
variable {pins:List (Addr×Obj)} {H:Hp} {p:Addr} {ys:List V} {ao:List Value}
theorem Inv.Of{σ:St}{s:Shared}{its':List Value}{n':Nat}{f:Obj->Obj}(I:Inv X pins σ H s)(h:H p=some (.lst xs))(ho:s.heap.get? p=some {cls:=.type "list",data:=.seq ao.toArray n})(hf:f {cls:=.type "list",data:=.seq ao.toArray n}={cls:=.type "list",data:=.seq its'.toArray n'})(r:Vals ys its')(hz:ys.length<=sizeLine)(t:Nat):
  Inv X pins σ (upd H p (.lst ys)) {s with heap:=s.heap.update p f,toks:=t}:=by
 have e:(s.heap.update p f).get? p=some {cls:=.type "list",data:=.seq its'.toArray n'}:=by
  rw[Heap.get?_update_self f ho (by rw[hf]<;>rfl),hf]
 refine I.write (x:=p) (e:=p) (by rw[h];trivial) (.inl rfl) (fun b u hb q=>(Heap.get?_update_other _ _ (Ne.symm hb)).trans q) ⟨_,e⟩ ?_;exact⟨hz,its',n',r,e⟩
def QR:V->V->V->Hp->(Hp->Prop)->Prop:=fun o i v H Q=>∃p xs k j,o=.ref p/\i=.int k/\H p=some (.lst xs)/\lE xs.length k=some j/\Q (upd H p (.lst (xs.set j v)))
theorem set_list:JB X QR:=by
 intro pins s σ H o i v ov iv u Q I ro ri rv h;obtain⟨p,xs,k,j,rfl,rfl,hp,hj,q⟩:=h;cases ro;obtain⟨t,rfl⟩:=ri;obtain⟨ao,n,r,ho,hz⟩:=I.lst hp;obtain⟨h1,h2,h3,h4⟩:=Ce hj;have hl:=r.length;have hn:=qr;have I':Inv X pins σ (upd H p (.lst (xs.set j v))) {s with heap:=s.heap.update p (Obj.mapSeq (·.setIfInBounds j u))}:=
  I.Of hp ho (DK ao n j u) (r.set rv j) (by rw[length_set];exact hz) s.toks
 by_cases h0:0<=k
 ·have hk:k.toNat=j:=by
   rw[seqIndex_of h0 h4]at h1;exact Option.some.inj h1
  exact PySem.W.ki_setAt ho h0 (by omega) (by rw[size_toArray,<- hl];exact h4) (by rw[hk];exact⟨_,I',q⟩)
 ·have hk:(k+(ao.toArray.size:Int)).toNat=j:=by
   rw[seqIndex_neg (by omega) h3]at h1;rw[size_toArray,<- hl];exact Option.some.inj h1
  exact PySem.W.ki_setBack ho (by omega) (by rw[size_toArray,<- hl];exact h3) (by omega) (by rw[hk];exact⟨_,I',q⟩)
theorem yx(lo hi:Option Int)(n:Nat):(sliceBounds lo hi none n).1=((HT.bY n 0 lo:Nat):Int)/\(sliceBounds lo hi none n).2.1=((HT.bY n n hi:Nat):Int)/\(sliceBounds lo hi none n).2.2=1:=by
 refine⟨?_,?_,rfl⟩
 ·cases lo with
  |none=>simp[sliceBounds,HT.bY]
  |some i=>
   simp only[sliceBounds,HT.bY,Option.getD_none,show(1:Int)>0 by decide,if_true];by_cases h:i<0
   ·simp only[h,if_true]<;>omega
   ·simp only[h,if_false]<;>omega
 ·cases hi with
  |none=>simp[sliceBounds,HT.bY]
  |some i=>
   simp only[sliceBounds,HT.bY,Option.getD_none,show(1:Int)>0 by decide,if_true];by_cases h:i<0
   ·simp only[h,if_true]<;>omega
   ·simp only[h,if_false]<;>omega
theorem xO(ao:List Value)(lo hi:Option Int):slicePick ao.toArray lo hi none=((ao.drop (HT.bY ao.length 0 lo)).take (HT.bY ao.length ao.length hi-HT.bY ao.length 0 lo)).toArray:=by
 obtain⟨h1,h2,h3⟩:=yx lo hi ao.toArray.size;unfold slicePick;rw[h1,h2,h3];simp only[sliceRange_one,pick_run,size_toArray]<;>rfl
def Ux (K:Frag):V->Option Int->Option Int->Hp->VK->Prop:=fun x lo hi H Q=>∃a xs,x=.ref a/\fF K H a xs/\∀p,H p=none->Q (.ref p) (upd H p (.lst (qH xs lo hi)))
theorem LA:AG X (Ux X.K):=by
 intro pins s σ H x v vl vu lo hi sl Q I rx hs pl pu h;obtain⟨a,xs,rfl,hx,q⟩:=h;cases rx;obtain⟨ao,r,ht,hz⟩:=I.list hx;have hlen:=r.length;refine⟨"list",_,slot_list_getitem.lookup,ht.isList.typeIs,?_⟩;refine wpAny_getItem_list_slice ht.isList hs pl pu .none (by simp) ?_ (by rw[size_toArray]<;>omega);rw[xO,<- hlen];refine⟨.ref s.heap.objs.size,_,I.laid (t':=s.toks) (o:=.lst (qH xs lo hi)) (fun b ob q=>get?_push_of_some _ q) (le_refl _) ?_,rfl,q _ (I.bF.fresh (le_refl _))⟩;exact⟨le_trans (si xs lo hi) hz,_,0,(r.drop (HT.bY xs.length 0 lo)).take (HT.bY xs.length xs.length hi-HT.bY xs.length 0 lo),get?_push_size _ rfl⟩
def kM:V->Bool
 | .bM=>true
 | .bl _=>true
 | .int _=>true
 | .str _=>true
 |_=>false
def uM:V->V->Bool
 | .bM,.bM=>true
 | .bl a,.bl b=>a==b
 | .bl a,.int b=>(if a then 1 else 0)==b
 | .int a,.bl b=>a==(if b then 1 else 0)
 | .int a,.int b=>a==b
 | .str a,.str b=>a==b
 |_,_=>false
variable {A:Around} {x:V}
theorem Pg{s:Shared}{y:V}{u v:Value}(ry:RelV y u)(rx:RelV x v)(fy:kM y=true)(fx:kM x=true):SeqAt.EqAt A s u v (uM y x):=by
 cases y with
 |bM=>
  cases ry;cases x with
  |bM=>cases rx;exact SeqAt.EqAt.same _
  |bl b=>cases rx;exact SeqAt.EqAt.none_bool b
  |int b=>obtain⟨t,rfl⟩:=rx;exact SeqAt.EqAt.none_int b t
  |str b=>obtain⟨t,rfl⟩:=rx;exact SeqAt.EqAt.none_str b t
  |_=>exact absurd (show false=true from fx) Bool.false_ne_true
 |bl a=>
  cases ry;cases x with
  |bM=>cases rx;exact SeqAt.EqAt.bool_none a
  |bl b=>cases rx;exact SeqAt.EqAt.bool_bool a b
  |int b=>obtain⟨t,rfl⟩:=rx;exact SeqAt.EqAt.bool_int a b t
  |str b=>obtain⟨t,rfl⟩:=rx;exact SeqAt.EqAt.bool_str a b t
  |_=>exact absurd (show false=true from fx) Bool.false_ne_true
 |int a=>
  obtain⟨t',rfl⟩:=ry;cases x with
  |bM=>cases rx;exact SeqAt.EqAt.int_none a t'
  |bl b=>cases rx;exact SeqAt.EqAt.int_bool a t' b
  |int b=>obtain⟨t,rfl⟩:=rx;exact SeqAt.EqAt.int_int a t' b t
  |str b=>obtain⟨t,rfl⟩:=rx;exact SeqAt.EqAt.int_str a t' b t
  |_=>exact absurd (show false=true from fx) Bool.false_ne_true
 |str a=>
  obtain⟨t',rfl⟩:=ry;cases x with
  |bM=>cases rx;exact SeqAt.EqAt.str_none a t'
  |bl b=>cases rx;exact SeqAt.EqAt.str_bool a t' b
  |int b=>obtain⟨t,rfl⟩:=rx;exact SeqAt.EqAt.str_int a t' b t
  |str b=>obtain⟨t,rfl⟩:=rx;exact SeqAt.EqAt.str_str a t' b t
  |_=>exact absurd (show false=true from fx) Bool.false_ne_true
 |_=>exact absurd (show false=true from fy) Bool.false_ne_true
def uN (x:V) (u:Value):Bool:=match u with
 | .none=>uM .bM x
 | .bool b=>uM (.bl b) x
 | .int i _=>uM (.int i) x
 | .str z _=>uM (.str z) x
 |_=>false
theorem GX{y:V}{u:Value}(r:RelV y u)(f:kM y=true):uN x u=uM y x:=by
 cases y with
 |bM=>cases r;rfl
 |bl b=>cases r;rfl
 |int i=>obtain⟨t,rfl⟩:=r;rfl
 |str z=>obtain⟨t,rfl⟩:=r;rfl
 |_=>exact absurd (show false=true from f) Bool.false_ne_true
theorem vT{x:V}:∀{xs:List V} {us:List Value},Vals xs us->xs.all kM=true->us.any (uN x)=xs.any fun y=>uM y x
 |_,_,.nil,_=>rfl
 |y::xs,u::us,.cons r t,f=>by
  rw[all_cons,and_eq_true]at f;rw[any_cons,any_cons,GX r f.1,vT t f.2]
theorem sX{A:Around}{s:Shared}{x:V}{v:Value}(rx:RelV x v)(fx:kM x=true):∀{xs:List V} {us:List Value},Vals xs us->xs.all kM=true->∀u∈us,SeqAt.EqAt A s u v (uN x u)
 |_,_,.nil,_=>fun u hu=>by cases hu
 |y::xs,u::us,.cons r t,f=>fun u' hu=>by
  rw[all_cons,and_eq_true]at f;rcases mem_cons.mp hu with rfl|hu
  ·rw[GX r f.1];exact Pg r rx f.1 fx
  ·exact sX rx fx t f.2 u' hu
def zA (x:V) (xs:List V):Bool:=xs.any fun y=>uM y x
def S0 (K:Frag) (neg:Bool):R2:=fun x y H Q=>∃p xs,y=.ref p/\(fF K H p xs\/jb K H p xs)/\kM x=true/\xs.all kM=true/\Q (.bl (if neg then !zA x xs else zA x xs)) H
theorem FT:dZ X (compareOp .In) (S0 X.K false):=by
 intro pins s σ H x y v u Q I rx ry h;obtain⟨p,xs,rfl,hq,fx,fs,q⟩:=h;cases ry;rcases hq with hq|hq
 ·obtain⟨ao,r,pl,hz⟩:=I.list hq;refine SeqAt.in_listAt (uN x) pl.isList (fun w hw=>sX rx fx r fs w (by simpa using hw)) ⟨.bl _,H,I,rfl,?_⟩;rw[show ao.toArray.any (uN x)=ao.any (uN x) by simp,vT r fs];exact q
 ·obtain⟨ao,r,pl,hz⟩:=I.tuple hq;refine SeqAt.in_tupleAt (uN x) pl (fun w hw=>sX rx fx r fs w (by simpa using hw)) ⟨.bl _,H,I,rfl,?_⟩;rw[show ao.toArray.any (uN x)=ao.any (uN x) by simp,vT r fs];exact q
theorem Ar:ko X (.type "list") (fun xs H Q=>∃p ys,xs=[.ref p]/\(fF X.K H p ys\/jb X.K H p ys)/\∀l,H l=none->Q (.ref l) (upd H l (.lst ys))):=by
 intro pins s σ H xs us Q I r h;obtain⟨p,ys,rfl,hq,q⟩:=h;obtain⟨u,rfl,rx⟩:=vals1 r;cases rx;have fin:∀(ao:List Value),Vals ys ao->ys.length<=sizeLine->∀(h':Heap) (c':Nat),(∀b o',s.heap.get? b=some o'->h'.get? b=some o')->
   h'.get? s.heap.objs.size=some {cls:=.type "list",dict:=none,data:=.seq ao.toArray c',slots:=#[]}->EP X pins σ Q (.ref s.heap.objs.size) {s with heap:=h'}:=fun ao r' hz h' c' kp e=>
  ⟨.ref s.heap.objs.size,_,I.laid (t':=s.toks) kp (le_refl _) (show gC X.prog X.w _ h' _ (.lst ys)from⟨hz,ao,c',r',e⟩),rfl,q _ (I.bF.fresh (le_refl _))⟩
 rcases hq with hq|hq
 ·obtain⟨ao,r',pl,hz⟩:=I.list hq;have hlen:=r'.length;obtain⟨o,ho,hc,n,hd⟩:=pl.isList;exact call_list_seq p (.inl rfl) ho hc hd (fun h' c' kp e=>fin ao r' hz h' c' kp e) (by simp only[size_toArray]<;>omega)
 ·obtain⟨ao,r',pl,hz⟩:=I.tuple hq;have hlen:=r'.length;obtain⟨o,ho,hc,n,hd⟩:=pl;exact call_list_seq p (.inr rfl) ho hc hd (fun h' c' kp e=>fin ao r' hz h' c' kp e) (by simp only[size_toArray]<;>omega)
theorem pG:ko X (.type "tuple") (fun xs H Q=>∃p ys,xs=[.ref p]/\((fF X.K H p ys/\∀l,H l=none->Q (.ref l) (upd H l (.tup ys)))\/(jb X.K H p ys/\Q (.ref p) H))):=by
 intro pins s σ H xs us Q I r h;obtain⟨p,ys,rfl,h⟩:=h;obtain⟨u,rfl,rx⟩:=vals1 r;cases rx;rcases h with⟨hq,q⟩|⟨hq,q⟩
 ·obtain⟨ao,r',pl,hz⟩:=I.list hq;have hlen:=r'.length;refine call_tuple_list pl.isList (fun h' kp=>?_) (by simp only[size_toArray]<;>omega);have I1:Inv X pins σ H {s with heap:=h'}:=I.kept (t':=s.toks) kp;have I2:Inv X pins σ (upd H h'.objs.size (.tup ys)) {s with heap:=h'.push {cls:=.type "tuple",data:=.seq ao.toArray}}:=
   I1.laid (t':=s.toks) (fun b o e=>get?_push_of_some _ e) (le_refl _) (show gC X.prog X.w _ _ _ (.tup ys)from⟨hz,ao,r',IsTup.new _ _⟩)
  exact⟨.ref h'.objs.size,_,I2,rfl,q _ (I1.bF.fresh (le_refl _))⟩
 ·obtain⟨ao,r',pl,hz⟩:=I.tuple hq;exact call_tuple_same pl ⟨.ref p,H,I,rfl,q⟩
def RR (K:Frag) (T:String) (x:V) (H:Hp):Prop:=match x with
 | .str _=>T="str"
 | .int _=>T="int"
 | .ref p=>(T="list"/\∃xs,fF K H p xs)\/(T="tuple"/\∃o,K.lookup p=some o/\o.cls=.type "tuple"/\o.dict=none)\/
   (T="dict"/\((∃fU,H p=some (.dK fU))\/∃fU,H p=some (.dT fU)))\/(T="set"/\∃S n,H p=some (.set S n))
 |_=>False
variable {T:String}
theorem N7{σ:St}{s:Shared}{v:Value}(I:Inv X pins σ H s)(r:RelV x v)(ty:RR X.K T x H):
  s.TypeIs v T/\∀a,v=.ref a->∃ob,s.heap.get? a=some ob/\ob.dict=none:=by
 cases x with
 |str z=>
  obtain⟨t,rfl⟩:=r;cases(show T="str" from ty);exact⟨typeIs_str s z t,fun _ e=>nomatch e⟩
 |int i=>
  obtain⟨t,rfl⟩:=r;cases(show T="int" from ty);exact⟨typeIs_int s i t,fun _ e=>nomatch e⟩
 |ref p=>
  cases r;rcases ty with⟨rfl,xs,hq⟩|⟨rfl,o,hk,hc,hd⟩|⟨rfl,hk⟩|⟨rfl,S,n,hk⟩
  ·obtain⟨ao,_,pl,_⟩:=I.list hq;refine⟨pl.isList.typeIs,fun a e=>?_⟩;cases e;obtain⟨o,n,e,c,hd,_⟩:=pl;exact⟨o,e,hd⟩
  ·refine⟨⟨o,I.pg p o hk,hc⟩,fun a e=>?_⟩;cases e;exact⟨o,I.pg _ o hk,hd⟩
  ·have z:∃o,s.heap.get? p=some o/\o.ExactDict:=by
    rcases hk with⟨fU,hk⟩|⟨fU,hk⟩
    ·obtain⟨_,_,_,_,o,_,_,e,ex,_⟩:=I.bF p _ hk;exact⟨o,e,ex⟩
    ·obtain⟨_,_,_,_,o,_,_,e,ex,_⟩:=I.bF p _ hk;exact⟨o,e,ex⟩
   obtain⟨o,e,ex⟩:=z;refine⟨⟨o,e,ex.1⟩,fun a e2=>?_⟩;cases e2;exact⟨o,e,ex.2.1⟩
  ·obtain⟨o,_,_,_,e,ex,_⟩:=I.bF p _ hk;refine⟨⟨o,e,ex.1⟩,fun a e2=>?_⟩;cases e2;exact⟨o,e,ex.2.1⟩
 |_=>exact False.elim ty
def VB (K:Frag) (T:String) (r:V->List V->Hp->VK->Prop) (to:TE) (t:TA):TE:=fun σ H Q=>to σ H fun x H1=>RR K T x H1/\t σ H1 fun xs H2=>r x xs H2 Q
variable {id:String} {t:TA} {r:V->List V->Hp->VK->Prop} {to:TE} {apos tq:Pos} {o:Expr} {name:Str} {es:List Expr}
theorem Ra(pa:PlainAttrs T)(slot:Slot T name id)(W0:typeOf (.builtin id)=pure (.type "method_descriptor"))(hm:XF X id r)(ho:PE X o to)(ha:PA X (e::es) t)(DW:attributeBase o name X.env (eval o X.env)=eval o X.env:=by rfl)(J0:((backTo tq (starEach (e::es) X.env)).all (fun x=>!x.1)&&(backToKw tq (keywordEach [] X.env)).all (fun x=>x.1.isSome)
   &&decide ((e::es).length+([]:List Keyword).length+(if([]:List Keyword).isEmpty then 0 else 1)<30))=true:=by rfl)(DU:(apos.endLine==tq.line)=true:=by rfl)(hs:starEach (e::es) X.env=(false,eval e X.env)::starEach es X.env:=by rfl)(zM:(backTo tq (starEach es X.env)).any (·.1)=false:=by rfl):
  PE X (.Call (.Attribute o name apos) (e::es) [] tq) (VB X.K T r to t):=by
 intro pins s σ H Q I h;refine wpAny_Call_method_late DW J0 DU rfl (c8 (ho pins s σ H _ I h) fun v s1 ⟨x,H1,I1,r1,ty,q1⟩=>?_);obtain⟨h1,h2⟩:=N7 I1 r1 ty;refine⟨T,id,pa,slot,W0,h1,h2,?_⟩;have hA:=ha tq pins s1 σ H1 _ I1 q1;rw[hs]at hA ⊢;refine Calls.callWith_builtin (by show(false || (backTo tq (starEach es X.env)).any (·.1))=false;rw[zM]<;>rfl) (Calls.evalArgs_plain ?_);exact c8 hA fun us s2 ⟨vs,H2,I2,r2,q2⟩=>hm pins s2 σ H2 x vs v us Q I2 r1 r2 q2
open PySem PySem.Spec PyProof.Rows
def XG (X:Cx) (id:String) (r:V->List V->Hp->VK->Prop):Prop:=
 ∀(pins:List (Addr×Obj)) (s:Shared) (σ:St) (H:Hp) (x:V) (xs:List V) (v:Value) (us:List Value) (Q:VK),Inv X pins σ H s->RelV x v->Vals xs us->r x xs H Q->
  wpAny (model X.prog X.w) X.A (call (.builtin id) (v::us)) (EP X pins σ Q) X.xe s
theorem Vals.one:∀{x:V} {us:List Value},Vals [x] us->∃u,us=[u]/\RelV x u
 |_,_,.cons r .nil=>⟨_,rfl,r⟩
theorem Vals.rep{xs:List V}{us:List Value}(h:Vals xs us):∀k:Nat,Vals (List.replicate k xs).flatten (List.replicate k us).flatten
 |0=>.nil
 |k+1=>by
  rw[replicate_succ,replicate_succ,flatten_cons,flatten_cons];exact Vals.append h (Vals.rep h k)
theorem foldl_rep(ao:List Value):∀(k:Nat) (acc:List Value),
  foldl (fun x1 x2=>x1++x2) acc.toArray (List.replicate k ao.toArray)=(acc++(List.replicate k ao).flatten).toArray
 |0,acc=>by simp
 |k+1,acc=>by
  have e:acc.toArray++ao.toArray=(acc++ao).toArray:=by simp
  have e2:(acc++ao)++(List.replicate k ao).flatten=acc++(List.replicate (k+1) ao).flatten:=by
   rw[replicate_succ,flatten_cons,append_assoc]
  rw[<- e2,<- foldl_rep ao k (acc++ao),<- e,replicate_succ,foldl_cons]
variable {l:Addr} {σ:St}
variable {s:Shared} in
theorem Inv.UG{its':List Value}{f:Array Value->Array Value}{t':Nat}(I:Inv X pins σ H s)(hH:H l=some (.lst xs))(e:s.heap.get? l=some {cls:=.type "list",data:=.seq ao.toArray n})(hf:f ao.toArray=its'.toArray)(hv:Vals ys its')(hz:ys.length<=sizeLine):
  Inv X pins σ (upd H l (.lst ys)) {s with heap:=s.heap.update l (Obj.mapSeq f),toks:=t'}:=by
 have q:=PySem.IsL.update e f;rw[hf]at q;refine I.write (x:=l) (e:=l) (by rw[hH];exact trivial) (.inl rfl) (fun b' u hb hu=>(Heap.get?_update_other s.heap (Obj.mapSeq f) (Ne.symm hb)).trans hu) ⟨_,q⟩ ?_;exact⟨hz,its',_,hv,q⟩
variable {s:Shared} in
theorem Inv.Oj{t':Nat}(I:Inv X pins σ H s)(hv:Vals ys ao)(hz:ys.length<=sizeLine):
  Inv X pins σ (upd H s.heap.objs.size (.lst ys)) {s with heap:=s.heap.push {cls:=.type "list",data:=.seq ao.toArray},toks:=t'}:=
 I.laid (fun _ _ q=>get?_push_of_some _ q) (le_refl _) ⟨hz,ao,0,hv,get?_push_size _ rfl⟩
variable {s:Shared} in
theorem Inv.fresh(I:Inv X pins σ H s):H s.heap.objs.size=none:=I.bF.fresh (le_refl _)
variable {s:Shared} in
theorem Inv.Og(I:Inv X pins σ H s)(hH:H l=some (.lst xs)):xs.length<=sizeLine/\∃(ao:List Value) (n:Nat),Vals xs ao/\xs.length=ao.length/\s.heap.get? l=some {cls:=.type "list",data:=.seq ao.toArray n}:=by
 obtain⟨z,ao,n,r,e⟩:=I.bF l _ hH;exact⟨z,ao,n,r,r.length,e⟩
theorem IH(h:n<=sizeLine):Builtin.List.listTooLong n=false:=by
 unfold Builtin.List.listTooLong;exact decide_eq_false (by omega)
def LH:V->List V->Hp->VK->Prop:=fun x vs H Q=>∃l xs y,x=.ref l/\vs=[y]/\H l=some (.lst xs)/\xs.length<sizeLine/\Q .bM (upd H l (.lst (xs++[y])))
theorem G7:XG X "list.append" LH:=by
 intro pins s σ H x vs v us Q I rx rv h;obtain⟨l,xs,y,rfl,rfl,hH,hz,q⟩:=h;cases rx;obtain⟨u,rfl,ru⟩:=rv.one;obtain⟨z,ao,n,r,hl,e⟩:=I.Og hH;refine call_meets F.slot_list_append ⟨_,e,rfl⟩ F.entry_list_append (F.args_list_append_2 _ _) (PySem.list_append l ao.toArray n u (by rw[size_toArray];omega)) ⟨e,?_⟩;refine⟨.bM,_,I.UG (its':=ao++[u]) hH e (by simp) (r.append (.cons ru .nil)) ?_,rfl,q⟩;rw[length_append,length_singleton];omega
def Uy:R2:=fun x y H Q=>∃l k xs,x=.ref l/\y=.int k/\H l=some (.lst xs)/\-(2^63)<=k/\k<2^63/\xs.length*k.toNat<=sizeLine/\
 ∀p,H p=none->Q (.ref p) (upd H p (.lst (List.replicate k.toNat xs).flatten))
theorem len_rep(xs:List α)(k:Nat):(List.replicate k xs).flatten.length=k*xs.length:=by
 induction k with
 |zero=>simp
 |succ k ih=>rw[replicate_succ,flatten_cons,length_append,ih,succ_mul,add_comm]
theorem O3:dZ X (binaryOp .Mult) Uy:=by
 intro pins s σ H x y v u Q I rx ry h;obtain⟨l,k,xs,rfl,rfl,hH,h1,h2,hz,q⟩:=h;cases rx;obtain⟨t,rfl⟩:=ry;obtain⟨z,ao,n,r,hl,e⟩:=I.Og hH;have hlen:ao.toArray.size*k.toNat<=sizeLine:=by rw[size_toArray,<- hl];exact hz
 have oS:¬ao.toArray.size*k.toNat>(2^63-1)/8:=by
  have:(sizeLine:Nat)<=(2^63-1)/8:=by decide
  omega
 have UY:¬(!Builtin.List.listFitsIndex k)=true:=by
  rw[fitsIndex_both h1 h2];exact Bool.false_ne_true
 have Rt:¬Builtin.List.listTooLong (ao.toArray.size*k.toNat)=true:=by
  rw[IH hlen];exact Bool.false_ne_true
 have UU:foldl (fun x1 x2=>x1++x2) #[] (List.replicate (if ao.toArray.isEmpty=true then 0 else k.toNat) ao.toArray)=(List.replicate k.toNat ao).flatten.toArray:=by
  have f0:∀m:Nat,foldl (fun x1 x2=>x1++x2) #[] (List.replicate m ao.toArray)=(List.replicate m ao).flatten.toArray:=fun m=>by
   have:=foldl_rep ao m [];rw[nil_append]at this;exact this
  rw[f0];cases ao with
  |nil=>simp
  |cons a r'=>rw[if_neg (by simp)]
 refine wpAny_binaryOp_repeat_ref (T:="list") (U:="int") (by decide) ⟨_,e,rfl⟩ (fun s'=>typeIs_int s' k t) noFill_list_mul F.fills_int_mul F.slot_int_rmul repeat_list F.slot_int_index.lookup
  (call_meets F.slot_int_rmul (typeIs_int s k t) F.entry_int_rmul (F.args_int_rmul_2 _ _) (int___rmul___int_list k t l ao.toArray n)
   ⟨e,rfl,⟨_,e,rfl⟩,call_meets F.slot_list_mul ⟨_,e,rfl⟩ F.entry_list_mul (F.args_list_mul_2 _ _) (AutoListH.list___mul___list_int_3 l ao.toArray n k t UY oS Rt) ⟨e,?_⟩⟩)
 rw[UU];exact⟨.ref _,_,I.Oj (t':=s.toks) (r.rep k.toNat) (by rw[len_rep,Nat.mul_comm];exact hz),rfl,q _ I.fresh⟩
end
end L2
namespace Ue
noncomputable section
open PySem PySem.W PySem.Calls PyProof.Rows
variable {h:Heap}
theorem uB{P:Params}:∀(ns:List Int) (vs:List Value),WellAll P h vs (ns.map WData.int)->IntsAre vs ns:=by
 intro ns;induction ns with
 |nil=>
  intro vs w;rw[map_nil]at w;cases w;exact .nil
 |cons n ns ih=>
  intro vs w;rw[map_cons]at w;cases w with
  |cons a b=>
   cases a;exact .cons _ _ (ih _ b)
variable {n:Nat}
theorem EV{l:OpenLaw}(hn:l.most=some n){P:Params}{args:List WData}{vals:List Value}(DQ:l.row.toRowW.claim.pre args=true)(Gr:WellAll P h vals args):
  ∃a vs ns,vals=[Value.ref a]/\args=[WData.list (ns.map WData.int)]/\h.get? a=some {cls:=.type "list",data:=.seq vs.toArray}/\IntsAre vs ns/\ns.length<=n:=by
 have W3:WShape.hasAll [] args [.list .int]=true:=(pre_splitW DQ).1;have hc:l.pre.holds [] {args:=args}=true:=(pre_splitW DQ).2;obtain⟨d,r,rfl,h1,h2⟩:=hasAllW_cons W3;obtain rfl:=hasAllW_nil h2;obtain⟨xs,rfl,h3⟩:=hasW_list h1;obtain⟨ns,rfl⟩:=items_int h3;have hlen:ns.length<=n:=by
  unfold OpenLaw.pre at hc;have h4:(WTm.not (.lt (.lit (.int (n:Int))) (.len (.arg 0)))).holds [] {args:=[.list (ns.map .int)]}=true:=by
   have h4:=(holds_andW hc).1;rw[hn]at h4;exact h4
  have h5:=condW_of h4 (w_not (w_lt w_lit (w_len_list (w_arg rfl))));rw[length_map]at h5;refine Nat.le_of_not_lt fun q=>?_;have q':(n:Int)<((ns.length:Nat):Int):=by omega
  first
   |(rw[decide_eq_true q']at h5;exact absurd h5 (by decide))
   |(simp at h5;omega)
 cases Gr with
 |cons w1 w2=>
  cases w2;cases w1 with
  |list ho oT=>exact⟨_,_,ns,rfl,rfl,ho,uB ns _ oT,hlen⟩
theorem FD(l:OpenLaw)(args:List WData):l.row.toRowW.claim.post args (.bool true) args=true:=
 postW_of (r:=l.row.toRowW) (X:=(true==true))
  (show WShape.has [] (.bool true) .bool=true by first|rfl|decide|simp[WShape.has,WShape.arms,WShape.armsAll])
  (show(WTm.eq .res (.lit (.bool true))).value [] {args:=args,res:=some (.bool true),after:=args}=some (.bool (true==true))from w_eq_bool (w_res rfl) w_lit) rfl
variable {q:Program} {loose:List Str} {XP:(Str->Option Value)->Heap->Prop} {YP:World->Heap->Prop}
theorem AY{l:OpenLaw}{d:DefRec}(hn:l.most=some n)(GF:d.params.defaults=[])(call:∀(w:World) (aK bU:Shared) (mg mb:Str->Option Value) (fa:Addr) (o:Obj) (pm cd doc:Value) (a:Addr) (vs:List Value) (ns:List Int),
   Ground q loose [] XP w aK mg mb bU.heap->YP w bU.heap->
   bU.heap.get? fa=some o->o.data=.func (docDef d.name d.params d.body d.scope pm cd doc)->bU.heap.CodeRec cd d.name->mg d.name=some (.ref fa)->
   bU.heap.get? a=some {cls:=.type "list",data:=.seq vs.toArray}->IntsAre vs ns->ns.length<=n->bU.gens=#[]->
   codeAny (model l.prog w) callerA (.call (.ref fa) ⟨[.ref a],[]⟩) (fun r s'=>r=.ok (.ret (.bool true))/\OldK bU.heap s'.heap/\s'.os=bU.os/\AllBare s'.gens) bU):
  WalkO q loose XP YP l.row.toRowW d [] (fun f vs=>PySem.call f vs):=by
 intro w aK bU mg mb G Y fa o pm cd doc dV kV ho hd gw hD Gy hg args vals as DQ hlay hrd Gr gQ;obtain rfl:dV=.none:=Dflts.none hD GF;obtain rfl:kV=.none:=Dflts.noKw hD;obtain⟨a,vs,ns,rfl,rfl,IW,hints,hlen⟩:=EV hn DQ Gr;refine enter_call (codeAny_mono (call w aK bU mg mb fa o pm cd doc a vs ns G Y ho (fd_plain hd) gw Gy IW hints hlen hg) fun r s' hq=>?_);obtain⟨rfl,h2,h3,h4⟩:=hq;exact⟨.inl ⟨.bool true,.bool true,[],rfl,fun _=>rfl,.bool true,FD l _,fun _=>⟨List.Pairwise.nil,fun _ hm=>(nomatch hm)⟩⟩,h2,h3,h4⟩
end
end Ue
namespace L2
noncomputable section
open PySem PySem.Spec PyProof.Rows
theorem wz:∀{vs:List Value} {ns:List Int},IntsAre vs ns->Vals (ns.map V.int) vs
 |_,_,.nil=>.nil
 |_,_,.cons n t h=>.cons ⟨t,rfl⟩ (wz h)
def JC (H:Hp):Prop:=∀b,H b=none\/∃o xs,H b=some (.sd o (.lst xs))
variable {P:Program} {w:World} {mg:Str->Option Value} {k:Nat} {a:Addr} {fd:FuncData} {x:Str}
theorem IQ{K:Frag}{mb:Str->Option Value}{CX:xN}{fa:Addr}{sp:Sp}{bU:Shared}{vs:List Value}{ns:List Int}(KX:K.In bU.heap)(Sv:bU.heap.Ns mainGlobals mg)(hb:bU.heap.Ns builtinsNs mb)(xj:∀x:Str,x≠"__name__"->mb x=bootBuiltins x)(UX:bU.heap.NoLimit)(hg:bU.gens=#[])(ha:bU.heap.get? a=some {cls:=.type "list",data:=.seq vs.toArray})(hi:IntsAre vs ns)(hl:ns.length<=sizeLine)(hr:cw k callerA)(F:∀base:Heap,K.In base->base.Ns mainGlobals mg->gG P w K mg base CX k fa fd [x] sp)(Rz:∀(s:Shared) (u:Value),BindsTo s fd ⟨[u],[]⟩ [(x,u)])(lF:∀H:Hp,JC H->fF K H a (ns.map V.int)->sp [.ref a] H (fun v _=>v=.bl true) fun _ _ _=>False)(P8:∀H e s',CX [] H bU (fun _ _ _=>False) e s'->False):
  codeAny (model P w) callerA (.call (.ref fa) ⟨[.ref a],[]⟩) (fun r s'=>r=.ok (.ret (.bool true))/\OldK bU.heap s'.heap/\s'.os=bU.os/\AllBare s'.gens) bU:=by
 have rv:=wz hi;have UH:=hi.length

 have core:∀H:Hp,JC H->fF K H a (ns.map V.int)->ig P w H bU.heap->(∀b,H b≠none->b=a)->(H a≠none->K.lookup a=none)->
   codeAny (model P w) callerA (.call (.ref fa) ⟨[.ref a],[]⟩) (fun r s'=>r=.ok (.ret (.bool true))/\OldK bU.heap s'.heap/\s'.os=bU.os/\AllBare s'.gens) bU:=by
  intro H hO hS bF hA hK;have CU:∀{b:Addr} {o:Obj},bU.heap.get? b=some o->H b=none->(oR bU.heap H).get? b=some o:=fun e n=>IZ e n;have FZ:∀{b:Addr} {o:Obj} {es:Array DictEntry} {ep:Nat},bU.heap.get? b=some o->o.data=.dict es ep->H b=none:=fun{b o es ep} e d=>by
   cases q:H b with
   |none=>rfl
   |some u=>
    have e':b=a:=hA b (by rw[q];simp);subst e';rw[ha]at e;cases e;have d':Data.seq vs.toArray _=Data.dict es ep:=d;cases d'
  have Kj:∀{b:Addr} {m:Str->Option Value},bU.heap.Ns b m->(oR bU.heap H).Ns b m:=fun{b m} ⟨o,es,ep,e,d,r⟩=>⟨o,es,ep,CU e (FZ e d),d,r⟩;have SN:K.In (oR bU.heap H):=fun b o e=>CU (KX b o e) (by
   cases q:H b with
   |none=>rfl
   |some u=>
    have e':b=a:=hA b (by rw[q];simp);subst e';rw[hK (by rw[q];simp)]at e;cases e)
  have hM:Mod K mg (oR bU.heap H):=⟨SN,Kj Sv,⟨mb,Kj hb,xj⟩,let ⟨mc,h1,h2⟩:=UX;⟨mc,Kj h1,h2⟩⟩;have e0:Er P w K mg (oR bU.heap H) callerA [] bU H:=⟨rfl,hM,fun b o e=>M8 e,le_of_eq (GB _ _),trivial,fun b hb=>absurd (show b∈([]:List Addr)from hb) (by simp),bF,.of_eq hg⟩;refine codeAny_mono ((F _ SN (Kj Sv)).run callerA [] bU H ⟨[.ref a],[]⟩ [.ref a] [.ref a] _ _ hr e0 (Rz bU (.ref a)) (.cons rfl .nil) (lF H hO hS)) fun r s' h=>?_;cases r with
  |error e=>exact(P8 H e s' h).elim
  |ok fl=>
   cases fl with
   |next=>exact False.elim h
   |brk=>exact False.elim h
   |cont=>exact False.elim h
   |ret u=>
    obtain⟨v,H',os,bare,un,UR,r',q⟩:=h;have q':v=.bl true:=q;subst q';obtain rfl:u=Value.bool true:=r';refine⟨rfl,OldK.of_keep fun b o e=>?_,os,bare⟩;cases q:H b with
    |none=>exact un.keep b o e q (by intro z;exact absurd (show b∈([]:List Addr)from z) (by simp)) (by simp)
    |some u=>
     rcases hO b with z|⟨ob,xs,z⟩
     ·rw[q]at z;cases z
     ·have z2:=un.mI b ob _ z;obtain⟨e1,_⟩:=bF b _ z;obtain⟨e2,_⟩:=UR b _ z2;rw[e]at e1;cases e1;exact e2
 cases hk:K.lookup a with
 |some o=>

  have e:=KX a o hk;rw[ha]at e;cases e;refine core (fun _=>none) (fun _=>.inl rfl) (.inr ⟨_,vs.toArray,_,hk,rfl,rfl,rfl,by rw[size_toArray,UH];exact hl,by simpa using rv⟩) (fun b u z=>by have z':(none:Option HO)=some u:=z;cases z') (fun b z=>absurd rfl z) fun z=>absurd rfl z
 |none=>
  refine core (fun b=>if b=a then some (.sd {cls:=.type "list",data:=.seq vs.toArray} (.lst (ns.map V.int)))else none) (fun b=>?_) (.inl (.inr ⟨{cls:=.type "list",data:=.seq vs.toArray},if_pos rfl⟩)) (fun b u z=>?_) (fun b z=>?_) fun _=>hk
  ·by_cases hb:b=a
   ·exact .inr ⟨_,_,if_pos hb⟩
   ·exact .inl (if_neg hb)
  ·by_cases hb:b=a
   ·have z':=(if_pos hb).symm.trans z;cases z';subst hb;exact⟨ha,by rw[length_map];exact hl,vs,_,rv,ha⟩
   ·have z':=(if_neg hb).symm.trans z;cases z'
  ·by_cases hb:b=a
   ·exact hb
   ·exact absurd (if_neg hb) z
open PySem PySem.Spec PyProof.Rows
variable {n:Nat}
theorem Lo{l:PySem.W.OpenLaw}{q:Program}{loose:List Str}{XP:(Str->Option Value)->Heap->Prop}{YP:World->Heap->Prop}{d:DefRec}{K:Params->Frag}{CX:World->xN}{sp:World->Sp}(hn:l.most=some n)(Sy:n<=sizeLine)(GF:d.params.defaults=[])(hr:cw k callerA)(hY:∀(w:World) (h:Heap),YP w h->(K w.params).In h)(F:∀(w:World) (mg:Str->Option Value) (fa:Addr) (h:Heap),(K w.params).In h->h.Ns mainGlobals mg->mg d.name=some (.ref fa)->
   ∃fd:FuncData,(∀(s:Shared) (u:Value),BindsTo s fd ⟨[u],[]⟩ [(x,u)])/\
    ∀base:Heap,(K w.params).In base->base.Ns mainGlobals mg->gG l.prog w (K w.params) mg base (CX w) k fa fd [x] (sp w))(lF:∀(w:World) (H:Hp) (a:Addr) (ns:List Int),ns.length<=n->JC H->fF (K w.params) H a (ns.map V.int)->sp w [.ref a] H (fun v _=>v=.bl true) fun _ _ _=>False)(P8:∀(w:World) (H:Hp) (s:Shared) (e:Value) (s':Shared),CX w [] H s (fun _ _ _=>False) e s'->False):
  PySem.W.WalkO q loose XP YP l.row.toRowW d [] (fun f vs=>PySem.call f vs):=by
 refine Ue.AY hn GF fun w aK bU mg mb fa o pm cd doc a vs ns G Y ho hd gw Gy IW hints hlen hg=>?_;have KX:=hY w _ Y;obtain⟨fd,hb,hF⟩:=F w mg fa _ KX G.T.g Gy;exact IQ KX G.T.g G.T.b G.T.builtins G.T.nolimit hg IW hints (le_trans hlen Sy) hr hF hb (fun H hO hS=>lF w H a ns hlen hO hS) fun H e s'=>P8 w H bU e s'
open PySem PySem.Spec PyProof.Rows
def jR (s:Stmt):Arguments:=match s with
 | .FunctionDef _ a _ _ _ _ _ _ _ _=>a
 |_=>{posonlyargs:=[],args:=[],vararg:=none,kwonlyargs:=[],kw_defaults:=[],kwarg:=none,defaults:=[]}
def d8 (s:Stmt):List Stmt:=match s with
 | .FunctionDef _ _ b _ _ _ _ _ _ _=>b
 |_=>[]
def bc (s:Stmt):Scope:=match s with
 | .FunctionDef _ _ _ _ _ _ sc _ _ _=>sc
 |_=>{kind:=.function,names:=[],isGenerator:=false,isCoroutine:=false}
abbrev je:xN:=fun _ _ _ _ _ _=>False
abbrev E0:XK:=fun _ _ _=>False
variable {X:Cx}
theorem y0:Passes je X E0:=fun _ _ _ _ _ _ _ h=>h.elim
structure mT (K:Frag) (x qual:Str) (st:Stmt) (f:Addr) (fd:FuncData):Prop where
 ex:∃(oc:Value) (od:Option Addr) (kV doc pm:Value) (an:Option Addr) (bG ct:Value) (rT:Array (Option Value)),
  fd=fnOf x qual (jR st) (d8 st) (bc st) .none kV doc pm an bG ct/\K.lookup f=some ⟨oc,od,.func fd,rT⟩/\codeIn K bG qual=true
 kp:keepIn K (.ref f)=true
variable {base:Heap} {K:Frag} {qual:Str} {st:Stmt} {f:Addr} {N ps:List Str}
theorem mT.ok{sp:Sp}(F:mT K x qual st f fd)(S:fX N ps (bc st))(len:∀vs H Q E,sp vs H Q E->vs.length=ps.length)(hbody:∀(bG:Value) (A:Around) (outer:List Env) (s:Shared) (H:Hp) (vs:List V) (Q:VK) (E:XK),cw k (A.deeper (envOfC qual (bc st) s.heap.objs.size f bG))->sp vs H Q E->
   ∃t,lr (jG je P w K mg base N qual (bc st) f bG A outer s H E).nZ (d8 st) t/\t {nx:=fun _ H'=>Q .bM H',rt:=Q} (start N vs) H):gG P w K mg base je (k+1) f fd ps sp:=by
 obtain⟨oc,od,kV,doc,pm,an,bG,ct,rT,rfl,lk,gw⟩:=F.ex;refine RD lk gw S len fun A outer s H vs Q E hr lF=>?_;obtain⟨t,h,q⟩:=hbody bG A outer s H vs Q E hr lF;exact⟨t,h.nZ,q⟩
theorem mT.binds(F:mT K x qual st f fd)(h:∀(kV doc pm:Value) (an:Option Addr) (bG ct:Value) (us:List Value),us.length=ps.length->bindArgs (fnOf x qual (jR st) (d8 st) (bc st) .none kV doc pm an bG ct) ⟨us,[]⟩=pure (ps.zip us)):Binds K fd ps []:=by
 obtain⟨oc,od,kV,doc,pm,an,bG,ct,rT,rfl,lk,gw⟩:=F.ex;exact .all (h kV doc pm an bG ct)
variable {oc pm ct:Value} {od an:Option Addr}
theorem A3{rT:Array (Option Value)}{kV doc bG:Value}(l:K.lookup f=some ⟨oc,od,.func (fnOf x qual (jR st) (d8 st) (bc st) .none kV doc pm an bG ct),rT⟩)(c:codeIn K bG qual=true)(k:keepIn K (.ref f)=true):mT K x qual st f (fnOf x qual (jR st) (d8 st) (bc st) .none kV doc pm an bG ct):=⟨⟨oc,od,kV,doc,pm,an,bG,ct,rT,rfl,l,c⟩,k⟩
theorem wH(h:n<=1000):n<sizeLine:=lt_of_le_of_lt h (by decide)
def bg (H H':Hp):Prop:=∀b o,H b=some o->H' b=some o
theorem bg.refl(H:Hp):bg H H:=fun _ _ h=>h
variable {H H1:Hp}
theorem bg.trans{H2:Hp}(a:bg H H1)(b:bg H1 H2):bg H H2:=fun c o h=>b c o (a c o h)
open PySem PySem.Spec PyProof.Rows
variable {σ:St} {pins:List (Addr×Obj)}
variable {s:Shared} in
theorem Inv.big(I:Inv X pins σ H s):sysModules<s.heap.objs.size:=by
 have h:mainGlobals<s.heap.objs.size:=(I.mod.glob.keeps I.bk).lt;exact lt_trans (by decide) h
open PySem PySem.Spec PyProof.Rows
variable {prog:Program} {A:Around} {elt iter:Expr} {ifs:List Expr} {scope:Scope} {pos:Pos} {env:Env}
theorem qJ{R:Result->Shared->Prop}{s:Shared}{target:Expr}{it acc:Value}(I:Nat->Shared->Prop)(turn:∀n s,I n s->wpAny (model prog w) A (pyNext it) (fun r bU=>match r with
   |none=>R (.ok .next) bU
   |some v=>wpAny (model prog w) A (letOwnedTupleGo target it v) (fun _ K0=>wpAny (model prog w) A (assign target env v) (fun _ bC=>
     wpAny (model prog w) A (forIn ifs true fun c r=>if r=true then do let ok <- isTrue c env (eval c env);pure (ForInStep.yield ok)else pure (ForInStep.yield r)) (fun ok ma=>
      if ok=true then wpAny (model prog w) A (eval elt env) (fun x Nj=>
       wpAny (model prog w) A (call (.builtin "list.append") [acc,x]) (fun _ Ni=>∃m,m<n/\I m Ni) (notedBy (model prog w) A env fun e s'=>R (.error e) s') Nj) (notedBy (model prog w) A env fun e s'=>R (.error e) s') ma
      else ∃m,m<n/\I m ma) (notedBy (model prog w) A env fun e s'=>R (.error e) s') bC) (notedBy (model prog w) A env fun e s'=>R (.error e) s') K0) (notedBy (model prog w) A env fun e s'=>R (.error e) s') bU) (notedBy (model prog w) A env fun e s'=>R (.error e) s') s)(n:Nat)(h:I n s):
  codeAny (model prog w) A (.compLoop (.ListComp elt [⟨target,iter,ifs,0⟩] scope pos) 0 it acc env) R s:=by
 refine codeAny_loop rfl I (fun n s hI=>?_) n h;show wpAny _ A ((compTurn (.ListComp elt [⟨target,iter,ifs,0⟩] scope pos) 0 it acc env).onRaise (fun x=>do noteFrame x env;theTreesLotGoes x)) _ _ s
 refine wpAny_noted ?_;rw[compTurn_list];refine wpAny_bind (wpAny_standAt (wpAny_bind (wpAny_mono (turn n s hI) (fun r bU jh=>?_) fun _ _ h'=>h')));cases r with
 |none=>exact wpAny_pure jh
 |some v=>
  refine wpAny_bind (wpAny_mono jh (fun _ K0 Rr=>?_) fun _ _ h'=>h');refine wpAny_bind (wpAny_mono Rr (fun _ bC zC=>wpAny_bind (wpAny_mono zC (fun ok ma OG=>?_) fun _ _ h'=>h')) fun _ _ h'=>h');cases ok with
  |false=>exact wpAny_pure ⟨rfl,OG⟩
  |true=>
   exact wpAny_bind (wpAny_bind (wpAny_mono OG (fun x Nj UL=>wpAny_bind (wpAny_mono UL (fun _ Ni UK=>wpAny_pure (wpAny_pure ⟨rfl,UK⟩)) fun _ _ h'=>h')) fun _ _ h'=>h'))
abbrev dg (X:Cx) (scope:Scope) (cl:List (Str×Addr)) (N':List Str) (C:Addr) (aK:Shared) (aj:Hp) (ex:List Addr):Cx:=
 {prog:=X.prog,w:=X.w,K:=X.K,mg:=X.mg,base:=X.base,A:=X.A,N:=N',aK:=aK,aj:=aj,env:=compEnvC scope cl C X.env,outer:=X.stack,stack:=X.stack,ex:=ex,fn:=fun _=>false,calm:=X.calm,pn:=[],xe:=fun _ _=>False}
def HE (X:Cx) (ifs:List Expr) (t:TT):Prop:=
 ∀(pins:List (Addr×Obj)) (s:Shared) (σ:St) (H:Hp) (Q:Bool->Hp->Prop),Inv X pins σ H s->t σ H Q->
  wpAny (model X.prog X.w) X.A (forIn ifs true fun c r=>if r=true then do let ok <- isTrue c X.env (eval c X.env);pure (ForInStep.yield ok)else pure (ForInStep.yield r)) (TP X pins σ Q) X.xe s
def yr:TT:=fun _ H Q=>Q true H
theorem rq:HE X [] yr:=fun _ _ _ H _ I h=>wpAny_tests_nil ⟨H,I,h⟩
variable {c:Expr}
theorem LO{t:TT}(h:PT X c t):HE X [c] t:=fun pins s σ H Q I hw=>wpAny_tests_one (h pins s σ H Q I hw)
def bW (bh:List (Option Nat)) (σ:St):St:=bh.map fun o=>o.bind fun j=>(σ[j]?).join
structure pK (X:Cx) (scope:Scope) (cl:List (Str×Addr)) (N':List Str) (bh:List (Option Nat)):Prop where
 Js:closureFor scope X.env=pure cl
 cells:∀y∈scope.names,y.2≠.cell
 kind:scope.kind=.function
 names:∀y∈scope.names,y.2=.local->scope.names.lookup y.1=some .local
 nd:N'.Nodup
 len:bh.length=N'.length
 sub:∀x c,cl.lookup x=some c->X.env.cells.lookup x=some c
 has:∀x,((relabel scope X.env).names.lookup x=some .cell\/(relabel scope X.env).names.lookup x=some .free)->∃c,cl.lookup x=some c
 bh:∀(i:Nat) (x:Str) (j:Nat),N'[i]?=some x->bh[i]?=some (some j)->X.N[j]?=some x/\mS X.env.scope x/\((relabel scope X.env).names.lookup x=some .cell\/(relabel scope X.env).names.lookup x=some .free)/\X.env.scope.names.lookup x≠some .local
def eI:St->St->Prop
 |[],[]=>True
 |none::a,_::b=>eI a b
 |some v::a,u::b=>u=some v/\eI a b
 |_,_=>False
theorem eI.len:∀{a b:St},eI a b->a.length=b.length
 |[],[],_=>rfl
 |none::a,_::b,h=>congrArg (· + 1) (eI.len (a:=a) (b:=b) h)
 |some v::a,u::b,h=>congrArg (· + 1) (eI.len (a:=a) (b:=b) h.2)
 |[],_::_,h=>h.elim
 |none::_,[],h=>h.elim
 |some _::_,[],h=>h.elim
theorem eI.get:∀{a b:St},eI a b->∀(i:Nat) (v:V),a[i]?=some (some v)->b[i]?=some (some v)
 |[],[],_,i,v,e=>by simp at e
 |none::a,_::b,h,0,v,e=>by simp at e
 |none::a,_::b,h,i+1,v,e=>by
  rw[getElem?_cons_succ]at e ⊢;exact eI.get (a:=a) (b:=b) h i v e
 |some x::a,u::b,h,0,v,e=>by
  rw[getElem?_cons_zero]at e ⊢;rw[h.1];exact e
 |some x::a,u::b,h,i+1,v,e=>by
  rw[getElem?_cons_succ]at e ⊢;exact eI.get (a:=a) (b:=b) h.2 i v e
 |[],_::_,h,_,_,_=>h.elim
 |none::_,[],h,_,_,_=>h.elim
 |some _::_,[],h,_,_,_=>h.elim
def qY (bh:List (Option Nat)) (wi:TI) (g:TG) (tQ:TT) (te:TE):TE:=fun σ H Q=>wi σ H fun J H1=>∃W:Nat->Nat->List V->Hp->Prop,(∃m,W 0 m [] H1)/\∀i m ys H,W i m ys H->ys.length<sizeLine/\
 ((J.stop i H/\∀D,H D=none->Q (.ref D) (upd H D (.lst ys)))\/
  (J.go i H/\∀x H',J.wy i H x H'->g x (bW bh σ) H' fun fY H2=>eI (bW bh σ) fY/\tQ fY H2 fun b H3=>if b=true then te fY H3 fun v H4=>∃m',m'<m/\W (i+1) m' (ys++[v]) H4 else ∃m',m'<m/\W (i+1) m' ys H3))
variable {tg:Expr} {cl:List (Str×Addr)} {N':List Str}
theorem rA{bh:List (Option Nat)}{wi:TI}{g:TG}{tQ:TT}{te:TE}(hc:X.calm=true)(B:pK X scope cl N' bh)(hi:PI X tg iter wi)(hg:∀C aK aj ex,PG (dg X scope cl N' C aK aj ex) tg g)(ht:∀C aK aj ex,HE (dg X scope cl N' C aK aj ex) ifs tQ)(he:∀C aK aj ex,PE (dg X scope cl N' C aK aj ex) elt te)(hs:∀x,foldedSetIterable iter X.env x=pure x:=by intro _;rfl):
  PE X (.ListComp elt [⟨tg,iter,ifs,0⟩] scope pos) (qY bh wi g tQ te):=by
 intro pins s σ H Q I h;rw[eval_ListComp];refine wpAny_comprehension_free (use:=none) rfl hs B.Js B.kind B.names (c8 (hi pins s σ H _ I h) fun xv bU jh=>c8 jh fun Kt bC zC=>?_);obtain⟨it,fp,tn,J,H2,e,I2,T,jZ,f2,W,⟨m0,w0⟩,turn⟩:=zC;subst e;refine wpAny_newObj_type (wpAny_newFunctionEnv B.cells (by intro y hy;simp at hy) (fun jh mD kc=>?_) B.kind);dsimp only at mD kc ⊢;generalize zW:bC.heap.push {cls:=.type "list",dict:=none,data:=.seq ([]:List Value).toArray}=HH at mD kc ⊢;have hC:HH.objs.size=bC.heap.objs.size+1:=by rw[<- zW,size_push]
 have GK:bC.heap.objs.size≠HH.objs.size:=by rw[hC];exact ne_of_lt (Nat.lt_succ_self _)
 have below:∀b,b<bC.heap.objs.size->b≠HH.objs.size/\b≠bC.heap.objs.size:=fun b hb=>⟨by rw[hC];exact ne_of_lt (Nat.lt_succ_of_lt hb),ne_of_lt hb⟩;have old:∀b o,bC.heap.get? b=some o->jh.get? b=some o:=fun b o e=>kc.extBut b o (below b (lt_size e)).1 (get?_push_of_some _ (zW▸get?_push_of_some _ e));have vL:jh.get? bC.heap.objs.size=some {cls:=.type "list",data:=.seq ([]:List Value).toArray}:=kc.extBut _ _ GK (get?_push_of_some _ (zW▸get?_push_size _ rfl));have pE:bC.heap.objs.size<=HH.objs.size:=by rw[hC];exact Nat.le_succ _
 generalize hD:bC.heap.objs.size=D at *;generalize X7:HH.objs.size=C at *

 have A4:∀b∈fp,b<D:=fun b hb=>by
  obtain⟨o,e,_⟩:=T.obj _ _ jZ b hb;rw[<- hD];exact lt_size e
 have Ea:∀x c,cl.lookup x=some c->c<D:=fun x c e=>by
  obtain⟨v,q⟩:=I2.cell x c (B.sub x c e);rw[<- hD];exact q.lt
 have Pa:∀b∈l5 X.stack,b∈X.env.locals::X.fs:=fun b hb=>I2.tT b hb;have ok:(dg X scope cl N' C bC H2 fp).Ok:=by
  refine⟨I2.mod,B.kind,I2.ok.glob,I2.ok.blt,?_,fun x y c h1 h2=>I2.ok.inj x y c (B.sub x c h1) (B.sub y c h2),fun x hx=>B.has x hx,fun x c hf=>absurd hf (by simp),I2.ok.hd,I2.ok.frames,.inl rfl,fun b hb=>⟨?_,fun x c e z=>?_⟩,I2.bs,le_trans I2.ok.xC I2.sz,fun b o e hb=>?_,fun b hb hf=>?_,I2.stack,I2.vk⟩
  ·show bC.heap.objs.size<=C;rw[hD];exact pE
  ·exact ne_of_lt (lt_of_lt_of_le (A4 b hb) pE)
  ·exact(f2 b hb).2.2.2.2.1 x c (B.sub x c e) z
  ·have h1:=f2 b hb;rcases h1.2.2.2.1 with z|z
   ·exact I2.ok.vD b o e z
   ·have h2:=(I2.ok.bs b o e).1;exact absurd (lt_of_lt_of_le (lt_size h2) z) (lt_irrefl _)
  ·rcases mem_cons.mp (Pa b hf)with z|z
   ·exact(f2 b hb).2.1 z
   ·exact(f2 b hb).2.2.1 z
 have qA:∀a,D<=a->H2 a=none:=fun a ha=>I2.bF.fresh (by rw[hD];exact ha);have I4:Inv (dg X scope cl N' C bC H2 fp) [] (bW bh σ) H2 {bC with heap:=jh,toks:=bC.toks+([]:List (Str×Value)).length}:=by
  refine⟨ok,rfl,I2.bare,Un.kept old,⟨_,mD,fun i x v e1 e2 e3=>?_⟩,fun x c e=>?_,qA C pE,fun x c e=>I2.jy x c (B.sub x c e),fun p hp=>absurd (show p∈([]:List (Addr×Obj))from hp) (by simp),I2.bF.kept old,?_⟩
  ·have CL:N'[i]?=some x:=e1;unfold bW at e2;rw[getElem?_map]at e2;cases oS:bh[i]? with
   |none=>rw[oS]at e2;cases e2
   |some o=>
    rw[oS]at e2;cases o with
    |none=>cases e2
    |some j=>
     obtain⟨hN,hv,hk,Gx⟩:=B.bh i x j CL oS;have e4:σ[j]?=some (some v):=by
      have e5:some ((σ[j]?).join)=some (some v):=e2;cases hq:σ[j]? with
      |none=>rw[hq]at e5;cases e5
      |some q=>rw[hq]at e5;exact e5
     obtain⟨m,hn,hl⟩:=I2.loc;obtain⟨u,r,l⟩:=hl j x v hN e4 hv;refine⟨u,r,.inr ⟨hk,?_⟩⟩;rcases l with⟨k,_⟩|⟨k,c,pA,o,ho,hd⟩
     ·exact absurd k Gx
     ·obtain⟨c',iG⟩:=B.has x hk;have e6:=B.sub x c' iG;rw[pA]at e6;cases e6;exact⟨c,iG,o,old c o ho,hd⟩
  ·obtain⟨v,o,ho,hd⟩:=I2.cell x c (B.sub x c e);exact⟨v,o,old c o ho,hd⟩
  ·show(bW bh σ).length=N'.length;unfold bW;rw[length_map];exact B.len
 have sW:D≠C:=GK;have Pq:D∉l5 X.stack:=fun hb=>by
  obtain⟨_,o,ho,_⟩:=I2.stack.mem hb;have:=lt_size ho;rw[hD]at this;exact absurd this (lt_irrefl _)
 have mf:∀{P:List (Addr×Obj)} {H':Hp},(∀p∈P,p.1=D)->(∀b∈fp,H' b=none)->∀b∈fp,p9 (dg X scope cl N' C bC H2 fp) P H' b:=fun hP hn b hb=>
  ⟨hn b hb,(ok.CB b hb).1,ok.vO b hb,.inl hb,(ok.CB b hb).2,fun p hp z=>by
   have gq:p∈_:=hp;rw[hP p (by simpa using gq)]at z;exact Nat.ne_of_gt (A4 b hb) z⟩
 have loop:∀ma:Shared,ma={bC with heap:=jh,toks:=bC.toks+([]:List (Str×Value)).length}->
   codeAny (model X.prog X.w) X.A (.compLoop (.ListComp elt [⟨tg,iter,ifs,0⟩] scope pos) 0 (.ref it) (.ref D) (compEnvC scope cl C X.env))
    (compPost (model X.prog X.w) X.A X.xe none (EP X pins σ Q) (.ref D) C) ma:=by
  rintro ma rfl;refine qJ (fun n s'=>∃i ys ao H' k,Inv (dg X scope cl N' C bC H2 fp) [] (bW bh σ) H' s'/\tn i s'.heap/\(∀b∈fp,H' b=none)/\H' D=none/\s'.heap.get? D=some {cls:=.type "list",data:=.seq (ao:List Value).toArray k}/\Vals ys ao/\W i n ys H') ?_ m0
   ⟨0,[],[],H2,0,I4,T.keep _ _ _ jZ fun b _ o e=>old b o e,fun b hb=>(f2 b hb).1,qA D (le_refl _),vL,.nil,w0⟩
  rintro n s' ⟨i,ys,ao,H',k,Ia,EK,GQ,mF,P7,rv,wa⟩;obtain⟨hsz,tu⟩:=turn i n ys H' wa;have Ib:Inv (dg X scope cl N' C bC H2 fp) [(D,{cls:=.type "list",data:=.seq ao.toArray k})] (bW bh σ) H' s':=Ia.jL fun p hp=>by
   have gq:p=(D,{cls:=.type "list",data:=.seq ao.toArray k}):=by simpa using hp
   subst gq;exact⟨P7,mF,sW,Pq,fun v z=>nomatch z⟩
  have zV:∀p∈[((D,{cls:=.type "list",data:=.seq ao.toArray k}):Addr×Obj)],p.1=D:=fun p hp=>by
   have gq:p=(D,{cls:=.type "list",data:=.seq ao.toArray k}):=by simpa using hp
   rw[gq]
  rcases tu with⟨stop,qn⟩|⟨go,step⟩
  ·refine wpAny_mono (T.done (dg X scope cl N' C bC H2 fp) rfl rfl rfl hc i _ s' (bW bh σ) H' (fun _ _=>False) Ib (mf zV GQ) EK stop) (fun r s4 zK=>?_) fun _ _ z=>z.elim;obtain⟨hr,Ic⟩:=zK;subst hr;obtain⟨m,hn,_⟩:=Ic.loc;refine⟨m,hn,fun h' ph=>?_⟩;have J3:s4.heap.get? D=some {cls:=.type "list",data:=.seq ao.toArray k}:=(Ic.pin (D,_) (by simp)).1;have KS:H' C=none:=Ic.free;have un:Un (l5 X.stack) fp H2 (upd H' D (.lst ys)) bC.heap h':=by
    have bs:=Ic.base;have wU:∀b o,bC.heap.get? b=some o->h'.get? b=s4.heap.get? b:=fun b o e=>by
     have:b<D:=by rw[<- hD];exact lt_size e
     exact ph.2 b (ne_of_lt (lt_of_lt_of_le this pE))
    refine⟨fun b o e n h1 h2=>(wU b o e).trans (bs.keep b o e n h1 h2),fun b o e n h1 h2=>?_,fun b o e n h2=>?_,fun b o e h2=>?_,fun b xs e=>?_,fun b o u e=>?_,fun b ps e=>?_⟩
    ·obtain⟨sl,q⟩:=bs.slot b o e n h1 h2;exact⟨sl,(wU b o e).trans q⟩
    ·have:b<D:=by rw[<- hD];exact lt_size e
     rw[bD (ne_of_lt this)];exact bs.free b o e n h2
    ·obtain⟨o',q⟩:=bs.there b o e h2;exact⟨o',(wU b o e).trans q⟩
    ·have q:=bs.nG b xs e;rw[bD (bB q mF)];exact q
    ·have q:=bs.mI b o u e;rw[bD (bB q mF)];exact q
    ·obtain⟨more,q⟩:=bs.nI b ps e;exact⟨more,by rw[bD (bB q mF)];exact q⟩
   have bF:ig X.prog X.w (upd H' D (.lst ys)) h':=fun b u e=>by
    by_cases hb:b=D
    ·subst hb;rw[ee]at e;cases e;exact⟨Nat.le_of_lt hsz,ao,k,rv,(ph.2 _ (by show _≠C;exact sW)).trans J3⟩
    ·rw[bD hb]at e;refine(Ic.bF b u e).nJ (fun c v GH q=>(ph.2 c ?_).trans q) (fun c q=>by rw[bD (bB q mF)];exact q) fun c xs q=>by rw[bD (bB q mF)];exact q
     rcases GH with z|z
     ·rw[z];exact bB e KS
     ·exact bB z KS
   have If:=I2.L8 (s':={s4 with heap:=h'}) (H':=upd H' D (.lst ys)) (ch:=fp) Ic.os un bF Ic.bare fun b hb=>⟨(f2 b hb).2.2.2.1,(f2 b hb).2.1,(f2 b hb).2.2.2.2.1,(f2 b hb).2.2.2.2.2⟩;exact⟨.ref D,_,If,rfl,qn D mF⟩
  ·refine wpAny_mono (T.item (dg X scope cl N' C bC H2 fp) rfl rfl rfl hc i _ s' (bW bh σ) H' (fun _ _=>False) Ib (mf zV GQ) EK go) (fun r s4 zK=>?_) fun _ _ z=>z.elim;obtain⟨u,hr,h4⟩:=zK;subst hr;refine wpAny_mono h4 (fun _ s5 h5=>?_) fun _ _ z=>z.elim;obtain⟨x,H5,I5,r5,y5,pV,GR⟩:=h5;have HG:=I5.pinned (mf zV GR) (T.obj _ _ pV);refine wpAny_mono (hg C bC H2 fp _ s5 (bW bh σ) H5 x u _ HG r5 (step x H5 y5)) (fun _ s6 h6=>?_) fun _ _ z=>z.elim;obtain⟨tM,H6,I6,ur,q6⟩:=h6;refine wpAny_mono (ht C bC H2 fp _ s6 tM H6 _ I6 q6) (fun b s7 h7=>?_) fun _ _ z=>z.elim;obtain⟨H7,I7,q7⟩:=h7

   have back:∀{bI:St} {v9:Hp} {nS:Shared},Inv (dg X scope cl N' C bC H2 fp) ([((D,{cls:=.type "list",data:=.seq ao.toArray k}):Addr×Obj)]++nY fp s5.heap) bI v9 nS->
     nS.heap.get? D=some {cls:=.type "list",data:=.seq ao.toArray k}/\v9 D=none/\(∀b∈fp,v9 b=none)/\tn (i+1) nS.heap:=fun{bI v9 nS} Iz=>by
    have pz:=fun p hp=>Iz.pin p (mem_append_right _ hp);have pD:=pz (D,{cls:=.type "list",data:=.seq ao.toArray k}) (mem_append_left _ mem_cons_self);refine⟨pD.1,pD.2.1,fun b hb=>?_,T.keep _ _ _ pV fun b hb o e=>(pz (b,o) (mem_append_right _ (j1 hb e))).1⟩;obtain⟨o,e,_⟩:=T.obj _ _ pV b hb;exact(pz (b,o) (mem_append_right _ (j1 hb e))).2.1
   have hits:ao.length=ys.length:=rv.length.symm;cases b with
   |false=>
    rw[if_neg Bool.false_ne_true]at q7 ⊢;obtain⟨m',hm,w7⟩:=q7;obtain⟨b1,b2,b3,b4⟩:=back I7;exact⟨m',hm,i+1,ys,ao,H7,k,(I7.jL (pins':=[]) fun p hp=>absurd hp (by simp)).weak ur.len ur.get,b4,b3,b2,b1,rv,w7⟩
   |true=>
    rw[if_pos rfl]at q7 ⊢;refine wpAny_mono (he C bC H2 fp _ s7 tM H7 _ I7 q7) (fun y s8 h8=>?_) fun _ _ z=>z.elim;obtain⟨v,H8,I8,r8,m',hm,w8⟩:=h8;obtain⟨b1,b2,b3,b4⟩:=back I8;refine wpAny_list_append_plain (l:=D) (items:=ao.toArray) (hsz:=by rw[size_toArray];omega) ⟨k,b1⟩ fun h' jo ph=>?_;obtain⟨k',e'⟩:=jo;have I9:Inv (dg X scope cl N' C bC H2 fp) [] tM H8 {s8 with heap:=h',toks:=s8.toks}:=(I8.jL (pins':=[]) fun p hp=>absurd hp (by simp)).turned (it:=D) (fun b o hb e=>(ph.2 b hb).trans e) b2 sW (.inr (le_of_eq hD))
     (fun x c e=>ne_of_lt (Ea x c e)) (fun p hp=>absurd (show p∈([]:List (Addr×Obj))from hp) (by simp))
    refine⟨m',hm,i+1,ys++[v],ao++[y],H8,k',I9.weak ur.len ur.get,T.keep _ _ _ b4 fun b hb o e=>(ph.2 b (ne_of_lt (A4 b hb))).trans e,b3,b2,?_,rv.append (.cons r8 .nil),w8⟩;have Hc:h'.get? D=_:=e';rw[List.push_toArray]at Hc;exact Hc
 exact codeAny_compStart_list (loop _ rfl) (T.self X.A 0 _ _ _ (T.keep _ _ _ jZ fun b _ o e=>old b o e) (loop _ rfl))
open PySem PySem.Spec PyProof.Rows
def Ng (i:Nat) (bh:List (Option Nat)) (wi:TI) (g:TG) (tQ:TT) (te:TE):TS:=fun D σ H=>qY bh wi g tQ te σ H fun v H'=>D.nx (σ.set i (some v)) H'
variable {oy pos':Pos}
theorem vB{bh:List (Option Nat)}{wi:TI}{g:TG}{tQ:TT}{te:TE}{iz:Nat}(hc:X.calm=true)(B:pK X scope cl N' bh)(hi:PI X tg iter wi)(hg:∀C aK aj ex,PG (dg X scope cl N' C aK aj ex) tg g)(ht:∀C aK aj ex,HE (dg X scope cl N' C aK aj ex) ifs tQ)(he:∀C aK aj ex,PE (dg X scope cl N' C aK aj ex) elt te)(hN:X.N.Nodup)(zE:X.N[iz]?=some x)(hx:Loc X.env.scope x)(zI:swapsWith (.ListComp elt [⟨tg,iter,ifs,0⟩] scope pos) (some (.Name x pos')) oy.line X.env=pure true)(zO:X.fn x=true\/X.env.scope.names.lookup x=some .local)(hs:∀x,foldedSetIterable iter X.env x=pure x:=by intro _;rfl):
  PS X (.Assign [.Name x pos'] (.ListComp elt [⟨tg,iter,ifs,0⟩] scope pos) oy) (Ng iz bh wi g tQ te):=by
 intro pins s σ H DD I h;rw[exec_Assign_Name_used _ _ _ _ zI];refine wpAny_bind (wpAny_standAt (wpAny_bind ?_));show wpAny _ X.A (do let _ <- comprehension (.ListComp elt [⟨tg,iter,ifs,0⟩] scope pos) scope X.env _ (newList []) false (eval iter X.env) (some (assign (.Name x pos') X.env))) _ _ s
 refine wpAny_bind (wpAny_mono (wpAny_comprehension_free (use:=some (assign (.Name x pos') X.env)) (Q:=fun _ s'=>SP X pins DD .next s') rfl hs B.Js B.kind B.names (c8 (hi pins s σ H _ I h) fun xv bU jh=>c8 jh fun Kt bC zC=>?_)) (fun _ s' hq=>wpAny_pure (wpAny_pure hq)) fun _ _ e=>e)
 obtain⟨it,fp,tn,J,H2,e,I2,T,jZ,f2,W,⟨m0,w0⟩,turn⟩:=zC;subst e;refine wpAny_newObj_type (wpAny_newFunctionEnv B.cells (by intro y hy;simp at hy) (fun jh mD kc=>?_) B.kind);dsimp only at mD kc ⊢;generalize zW:bC.heap.push {cls:=.type "list",dict:=none,data:=.seq ([]:List Value).toArray}=HH at mD kc ⊢;have hC:HH.objs.size=bC.heap.objs.size+1:=by rw[<- zW,size_push]
 have GK:bC.heap.objs.size≠HH.objs.size:=by rw[hC];exact ne_of_lt (Nat.lt_succ_self _)
 have below:∀b,b<bC.heap.objs.size->b≠HH.objs.size/\b≠bC.heap.objs.size:=fun b hb=>⟨by rw[hC];exact ne_of_lt (Nat.lt_succ_of_lt hb),ne_of_lt hb⟩;have old:∀b o,bC.heap.get? b=some o->jh.get? b=some o:=fun b o e=>kc.extBut b o (below b (lt_size e)).1 (get?_push_of_some _ (zW▸get?_push_of_some _ e));have vL:jh.get? bC.heap.objs.size=some {cls:=.type "list",data:=.seq ([]:List Value).toArray}:=kc.extBut _ _ GK (get?_push_of_some _ (zW▸get?_push_size _ rfl));have pE:bC.heap.objs.size<=HH.objs.size:=by rw[hC];exact Nat.le_succ _
 generalize hD:bC.heap.objs.size=D at *;generalize X7:HH.objs.size=C at *

 have A4:∀b∈fp,b<D:=fun b hb=>by
  obtain⟨o,e,_⟩:=T.obj _ _ jZ b hb;rw[<- hD];exact lt_size e
 have Ea:∀x c,cl.lookup x=some c->c<D:=fun x c e=>by
  obtain⟨v,q⟩:=I2.cell x c (B.sub x c e);rw[<- hD];exact q.lt
 have Pa:∀b∈l5 X.stack,b∈X.env.locals::X.fs:=fun b hb=>I2.tT b hb;have ok:(dg X scope cl N' C bC H2 fp).Ok:=by
  refine⟨I2.mod,B.kind,I2.ok.glob,I2.ok.blt,?_,fun x y c h1 h2=>I2.ok.inj x y c (B.sub x c h1) (B.sub y c h2),fun x hx=>B.has x hx,fun x c hf=>absurd hf (by simp),I2.ok.hd,I2.ok.frames,.inl rfl,fun b hb=>⟨?_,fun x c e z=>?_⟩,I2.bs,le_trans I2.ok.xC I2.sz,fun b o e hb=>?_,fun b hb hf=>?_,I2.stack,I2.vk⟩
  ·show bC.heap.objs.size<=C;rw[hD];exact pE
  ·exact ne_of_lt (lt_of_lt_of_le (A4 b hb) pE)
  ·exact(f2 b hb).2.2.2.2.1 x c (B.sub x c e) z
  ·have h1:=f2 b hb;rcases h1.2.2.2.1 with z|z
   ·exact I2.ok.vD b o e z
   ·have h2:=(I2.ok.bs b o e).1;exact absurd (lt_of_lt_of_le (lt_size h2) z) (lt_irrefl _)
  ·rcases mem_cons.mp (Pa b hf)with z|z
   ·exact(f2 b hb).2.1 z
   ·exact(f2 b hb).2.2.1 z
 have qA:∀a,D<=a->H2 a=none:=fun a ha=>I2.bF.fresh (by rw[hD];exact ha);have I4:Inv (dg X scope cl N' C bC H2 fp) [] (bW bh σ) H2 {bC with heap:=jh,toks:=bC.toks+([]:List (Str×Value)).length}:=by
  refine⟨ok,rfl,I2.bare,Un.kept old,⟨_,mD,fun i x v e1 e2 e3=>?_⟩,fun x c e=>?_,qA C pE,fun x c e=>I2.jy x c (B.sub x c e),fun p hp=>absurd (show p∈([]:List (Addr×Obj))from hp) (by simp),I2.bF.kept old,?_⟩
  ·have CL:N'[i]?=some x:=e1;unfold bW at e2;rw[getElem?_map]at e2;cases oS:bh[i]? with
   |none=>rw[oS]at e2;cases e2
   |some o=>
    rw[oS]at e2;cases o with
    |none=>cases e2
    |some j=>
     obtain⟨hN,hv,hk,Gx⟩:=B.bh i x j CL oS;have e4:σ[j]?=some (some v):=by
      have e5:some ((σ[j]?).join)=some (some v):=e2;cases hq:σ[j]? with
      |none=>rw[hq]at e5;cases e5
      |some q=>rw[hq]at e5;exact e5
     obtain⟨m,hn,hl⟩:=I2.loc;obtain⟨u,r,l⟩:=hl j x v hN e4 hv;refine⟨u,r,.inr ⟨hk,?_⟩⟩;rcases l with⟨k,_⟩|⟨k,c,pA,o,ho,hd⟩
     ·exact absurd k Gx
     ·obtain⟨c',iG⟩:=B.has x hk;have e6:=B.sub x c' iG;rw[pA]at e6;cases e6;exact⟨c,iG,o,old c o ho,hd⟩
  ·obtain⟨v,o,ho,hd⟩:=I2.cell x c (B.sub x c e);exact⟨v,o,old c o ho,hd⟩
  ·show(bW bh σ).length=N'.length;unfold bW;rw[length_map];exact B.len
 have sW:D≠C:=GK;have Pq:D∉l5 X.stack:=fun hb=>by
  obtain⟨_,o,ho,_⟩:=I2.stack.mem hb;have:=lt_size ho;rw[hD]at this;exact absurd this (lt_irrefl _)
 have mf:∀{P:List (Addr×Obj)} {H':Hp},(∀p∈P,p.1=D)->(∀b∈fp,H' b=none)->∀b∈fp,p9 (dg X scope cl N' C bC H2 fp) P H' b:=fun hP hn b hb=>
  ⟨hn b hb,(ok.CB b hb).1,ok.vO b hb,.inl hb,(ok.CB b hb).2,fun p hp z=>by
   have gq:p∈_:=hp;rw[hP p (by simpa using gq)]at z;exact Nat.ne_of_gt (A4 b hb) z⟩
 have loop:∀ma:Shared,ma={bC with heap:=jh,toks:=bC.toks+([]:List (Str×Value)).length}->
   codeAny (model X.prog X.w) X.A (.compLoop (.ListComp elt [⟨tg,iter,ifs,0⟩] scope pos) 0 (.ref it) (.ref D) (compEnvC scope cl C X.env))
    (compPost (model X.prog X.w) X.A X.xe (some (assign (.Name x pos') X.env)) (fun _ s'=>SP X pins DD .next s') (.ref D) C) ma:=by
  rintro ma rfl;refine qJ (fun n s'=>∃i ys ao H' k,Inv (dg X scope cl N' C bC H2 fp) [] (bW bh σ) H' s'/\tn i s'.heap/\(∀b∈fp,H' b=none)/\H' D=none/\s'.heap.get? D=some {cls:=.type "list",data:=.seq (ao:List Value).toArray k}/\Vals ys ao/\W i n ys H') ?_ m0
   ⟨0,[],[],H2,0,I4,T.keep _ _ _ jZ fun b _ o e=>old b o e,fun b hb=>(f2 b hb).1,qA D (le_refl _),vL,.nil,w0⟩
  rintro n s' ⟨i,ys,ao,H',k,Ia,EK,GQ,mF,P7,rv,wa⟩;obtain⟨hsz,tu⟩:=turn i n ys H' wa;have Ib:Inv (dg X scope cl N' C bC H2 fp) [(D,{cls:=.type "list",data:=.seq ao.toArray k})] (bW bh σ) H' s':=Ia.jL fun p hp=>by
   have gq:p=(D,{cls:=.type "list",data:=.seq ao.toArray k}):=by simpa using hp
   subst gq;exact⟨P7,mF,sW,Pq,fun v z=>nomatch z⟩
  have zV:∀p∈[((D,{cls:=.type "list",data:=.seq ao.toArray k}):Addr×Obj)],p.1=D:=fun p hp=>by
   have gq:p=(D,{cls:=.type "list",data:=.seq ao.toArray k}):=by simpa using hp
   rw[gq]
  rcases tu with⟨stop,qn⟩|⟨go,step⟩
  ·refine wpAny_mono (T.done (dg X scope cl N' C bC H2 fp) rfl rfl rfl hc i _ s' (bW bh σ) H' (fun _ _=>False) Ib (mf zV GQ) EK stop) (fun r s4 zK=>?_) fun _ _ z=>z.elim;obtain⟨hr,Ic⟩:=zK;subst hr;obtain⟨m,hn,_⟩:=Ic.loc;have J3:s4.heap.get? D=some {cls:=.type "list",data:=.seq ao.toArray k}:=(Ic.pin (D,_) (by simp)).1;have KS:H' C=none:=Ic.free;have un:Un (l5 X.stack) fp H2 (upd H' D (.lst ys)) bC.heap s4.heap:=by
    have bs:=Ic.base;refine⟨fun b o e n h1 h2=>bs.keep b o e n h1 h2,fun b o e n h1 h2=>bs.slot b o e n h1 h2,fun b o e n h2=>?_,fun b o e h2=>bs.there b o e h2,fun b xs e=>?_,fun b o u e=>?_,fun b ps e=>?_⟩
    ·have:b<D:=by rw[<- hD];exact lt_size e
     rw[bD (ne_of_lt this)];exact bs.free b o e n h2
    ·have q:=bs.nG b xs e;rw[bD (bB q mF)];exact q
    ·have q:=bs.mI b o u e;rw[bD (bB q mF)];exact q
    ·obtain⟨more,q⟩:=bs.nI b ps e;exact⟨more,by rw[bD (bB q mF)];exact q⟩
   have bF:ig X.prog X.w (upd H' D (.lst ys)) s4.heap:=fun b u e=>by
    by_cases hb:b=D
    ·subst hb;rw[ee]at e;cases e;exact⟨Nat.le_of_lt hsz,ao,k,rv,J3⟩
    ·rw[bD hb]at e;exact(Ic.bF b u e).nJ (fun c v GH q=>q) (fun c q=>by rw[bD (bB q mF)];exact q) fun c xs q=>by rw[bD (bB q mF)];exact q
   have If:=I2.L8 (s':=s4) (H':=upd H' D (.lst ys)) (ch:=fp) Ic.os un bF Ic.bare fun b hb=>⟨(f2 b hb).2.2.2.1,(f2 b hb).2.1,(f2 b hb).2.2.2.2.1,(f2 b hb).2.2.2.2.2⟩;have SS:C≠X.env.locals:=Nat.ne_of_gt (lt_of_lt_of_le (by rw[<- hD];exact I2.lt) pE);have SU:∀y c,X.env.cells.lookup y=some c->c≠C:=fun y c e=>by
    obtain⟨v,q⟩:=I2.cell y c e;exact ne_of_lt (lt_of_lt_of_le (by rw[<- hD];exact q.lt) pE)
   refine wpAny_assign_Name (wC If hN zE hx (v:=.ref D) rfl (fun s5 I5 pB=>?_) zO);obtain⟨aa,UQ,Wx⟩:=pB;have X5:C≠aa:=by
    rcases Wx with z|z
    ·rw[z];exact SS
    ·exact Ne.symm (SU x aa z)
   refine⟨m,hn.sameBut UQ X5,fun h' ph=>?_⟩;have X6:upd H' D (.lst ys) C=none:=by rw[bD (Ne.symm sW)];exact KS
   have I6:Inv X pins (σ.set iz (some (.ref D))) (upd H' D (.lst ys)) {s5 with heap:=h',toks:=s5.toks}:=I5.turned (it:=C) (fun b o hb e=>(ph.2 b hb).trans e) X6 SS (.inr (le_trans I2.sz (by rw[hD];exact pE))) SU (fun p hp z=>by
    have h1:=(I2.pin p hp).1;have h2:p.1<D:=by rw[<- hD];exact lt_size h1
    exact absurd z (ne_of_lt (lt_of_lt_of_le h2 pE)))
   exact⟨_,_,I6,qn D mF⟩
  ·refine wpAny_mono (T.item (dg X scope cl N' C bC H2 fp) rfl rfl rfl hc i _ s' (bW bh σ) H' (fun _ _=>False) Ib (mf zV GQ) EK go) (fun r s4 zK=>?_) fun _ _ z=>z.elim;obtain⟨u,hr,h4⟩:=zK;subst hr;refine wpAny_mono h4 (fun _ s5 h5=>?_) fun _ _ z=>z.elim;obtain⟨x,H5,I5,r5,y5,pV,GR⟩:=h5;have HG:=I5.pinned (mf zV GR) (T.obj _ _ pV);refine wpAny_mono (hg C bC H2 fp _ s5 (bW bh σ) H5 x u _ HG r5 (step x H5 y5)) (fun _ s6 h6=>?_) fun _ _ z=>z.elim;obtain⟨tM,H6,I6,ur,q6⟩:=h6;refine wpAny_mono (ht C bC H2 fp _ s6 tM H6 _ I6 q6) (fun b s7 h7=>?_) fun _ _ z=>z.elim;obtain⟨H7,I7,q7⟩:=h7

   have back:∀{bI:St} {v9:Hp} {nS:Shared},Inv (dg X scope cl N' C bC H2 fp) ([((D,{cls:=.type "list",data:=.seq ao.toArray k}):Addr×Obj)]++nY fp s5.heap) bI v9 nS->
     nS.heap.get? D=some {cls:=.type "list",data:=.seq ao.toArray k}/\v9 D=none/\(∀b∈fp,v9 b=none)/\tn (i+1) nS.heap:=fun{bI v9 nS} Iz=>by
    have pz:=fun p hp=>Iz.pin p (mem_append_right _ hp);have pD:=pz (D,{cls:=.type "list",data:=.seq ao.toArray k}) (mem_append_left _ mem_cons_self);refine⟨pD.1,pD.2.1,fun b hb=>?_,T.keep _ _ _ pV fun b hb o e=>(pz (b,o) (mem_append_right _ (j1 hb e))).1⟩;obtain⟨o,e,_⟩:=T.obj _ _ pV b hb;exact(pz (b,o) (mem_append_right _ (j1 hb e))).2.1
   have hits:ao.length=ys.length:=rv.length.symm;cases b with
   |false=>
    rw[if_neg Bool.false_ne_true]at q7 ⊢;obtain⟨m',hm,w7⟩:=q7;obtain⟨b1,b2,b3,b4⟩:=back I7;exact⟨m',hm,i+1,ys,ao,H7,k,(I7.jL (pins':=[]) fun p hp=>absurd hp (by simp)).weak ur.len ur.get,b4,b3,b2,b1,rv,w7⟩
   |true=>
    rw[if_pos rfl]at q7 ⊢;refine wpAny_mono (he C bC H2 fp _ s7 tM H7 _ I7 q7) (fun y s8 h8=>?_) fun _ _ z=>z.elim;obtain⟨v,H8,I8,r8,m',hm,w8⟩:=h8;obtain⟨b1,b2,b3,b4⟩:=back I8;refine wpAny_list_append_plain (l:=D) (items:=ao.toArray) (hsz:=by rw[size_toArray];omega) ⟨k,b1⟩ fun h' jo ph=>?_;obtain⟨k',e'⟩:=jo;have I9:Inv (dg X scope cl N' C bC H2 fp) [] tM H8 {s8 with heap:=h',toks:=s8.toks}:=(I8.jL (pins':=[]) fun p hp=>absurd hp (by simp)).turned (it:=D) (fun b o hb e=>(ph.2 b hb).trans e) b2 sW (.inr (le_of_eq hD))
     (fun x c e=>ne_of_lt (Ea x c e)) (fun p hp=>absurd (show p∈([]:List (Addr×Obj))from hp) (by simp))
    refine⟨m',hm,i+1,ys++[v],ao++[y],H8,k',I9.weak ur.len ur.get,T.keep _ _ _ b4 fun b hb o e=>(ph.2 b (ne_of_lt (A4 b hb))).trans e,b3,b2,?_,rv.append (.cons r8 .nil),w8⟩;have Hc:h'.get? D=_:=e';rw[List.push_toArray]at Hc;exact Hc
 exact codeAny_compStart_list (loop _ rfl) (T.self X.A 0 _ _ _ (T.keep _ _ _ jZ fun b _ o e=>old b o e) (loop _ rfl))
end
end L2
namespace L3
noncomputable section
open PySem PySem.Spec PyProof.Rows L2
open PySem.W (Dat kqdOk kqdP kqdPs kqd_lay kqd_eqv)
abbrev Fg:=Frag
abbrev fV:=Addr->Prop
abbrev aw:=List (Option Dat)
def Em (K:Fg) (H:Hp) (Av:fV) (a:Addr) (xs:List V):Prop:=
 (Rd H a (.tup xs)/\¬Av a)\/∃(o:Obj) (ao:Array Value) (n:Nat),K.lookup a=some o/\o.cls=.type "tuple"/\o.data=.seq ao n/\ao.size<=sizeLine/\Vals xs ao.toList
def En (K:Fg) (H:Hp) (Av:fV) (a:Addr) (xs:List V):Prop:=
 (Rd H a (.lst xs)/\¬Av a)\/∃(o:Obj) (ao:Array Value) (n:Nat),K.lookup a=some o/\o.cls=.type "list"/\o.dict=none/\o.data=.seq ao n/\ao.size<=sizeLine/\Vals xs ao.toList
variable {K:Fg} {H:Hp} {Av:fV} {a:Addr} {xs:List V}
theorem Em.sq(h:Em K H Av a xs):jb K H a xs:=h.elim (fun z=>.inl z.1) .inr
theorem En.sq(h:En K H Av a xs):fF K H a xs:=h.elim (fun z=>.inl z.1) .inr
mutual
inductive aS (K:Fg) (H:Hp) (Av:fV):V->Dat->Prop
 |bM:aS K H Av .bM .none
 |bl (b:Bool):aS K H Av (.bl b) (.bool b)
 |int (i:Int):aS K H Av (.int i) (.int i)
 |str (x:Str):aS K H Av (.str x) (.str x)
 |tup {a:Addr} {xs:List V} {ds:List Dat}:Em K H Av a xs->ay K H Av xs ds->aS K H Av (.ref a) (.tuple ds)
 |lst {a:Addr} {xs:List V} {ds:List Dat}:En K H Av a xs->ay K H Av xs ds->aS K H Av (.ref a) (.list ds)
inductive ay (K:Fg) (H:Hp) (Av:fV):List V->List Dat->Prop
 |nil:ay K H Av [] []
 |cons {v:V} {vs:List V} {d:Dat} {ds:List Dat}:aS K H Av v d->ay K H Av vs ds->ay K H Av (v::vs) (d::ds)
end
variable {H':Hp} {iI:fV}
def lB (H:Hp) (Av:fV) (H':Hp) (iI:fV):Prop:=∀b o,H b=some o->¬Av b->H' b=some o/\¬iI b
theorem Bz(k:lB H Av H' iI){u:HO}(h:Rd H a u/\¬Av a):Rd H' a u/\¬iI a:=by
 obtain⟨h,n⟩:=h;rcases h with h|⟨o,h⟩
 ·exact⟨.inl (k _ _ h n).1,(k _ _ h n).2⟩
 ·exact⟨.inr ⟨o,(k _ _ h n).1⟩,(k _ _ h n).2⟩
mutual
theorem aS.mono(k:lB H Av H' iI):∀{v:V} {d:Dat},aS K H Av v d->aS K H' iI v d
 |_,_,.bM=>.bM
 |_,_,.bl b=>.bl b
 |_,_,.int i=>.int i
 |_,_,.str x=>.str x
 |_,_,.tup h r=>.tup (h.elim (fun z=>.inl (Bz k z)) .inr) (ay.mono k r)
 |_,_,.lst h r=>.lst (h.elim (fun z=>.inl (Bz k z)) .inr) (ay.mono k r)
theorem ay.mono (k:lB H Av H' iI):∀{vs:List V} {ds:List Dat},ay K H Av vs ds->ay K H' iI vs ds
 |_,_,.nil=>.nil
 |_,_,.cons h r=>.cons (aS.mono k h) (ay.mono k r)
end
theorem xa(e:bg H H'):lB H Av H' Av:=fun b o h n=>⟨e b o h,n⟩
theorem wZ(w:∀a,iI a->Av a):lB H Av H iI:=fun b o h n=>⟨h,fun z=>n (w _ z)⟩
theorem aS.same(e:bg H H'){v:V}{d:Dat}(r:aS K H Av v d):aS K H' Av v d:=r.mono (xa e)
theorem ay.same(e:bg H H'){v:List V}{d:List Dat}(r:ay K H Av v d):ay K H' Av v d:=r.mono (xa e)
theorem aS.weak(w:∀a,iI a->Av a){v:V}{d:Dat}(r:aS K H Av v d):aS K H iI v d:=r.mono (wZ w)
theorem ay.weak(w:∀a,iI a->Av a){v:List V}{d:List Dat}(r:ay K H Av v d):ay K H iI v d:=r.mono (wZ w)
theorem ay.length:∀{vs:List V} {ds:List Dat},ay K H Av vs ds->vs.length=ds.length
 |_,_,.nil=>rfl
 |_,_,.cons _ r=>congrArg (· + 1) (ay.length r)
theorem ay.get:∀{vs:List V} {ds:List Dat} {i:Nat} {d:Dat},ay K H Av vs ds->ds[i]?=some d->∃v,vs[i]?=some v/\aS K H Av v d
 |_,_,_,_,.nil,e=>by simp at e
 |_,_,0,_,.cons h _,e=>by simp at e;subst e;exact⟨_,rfl,h⟩
 |_,_,i+1,d,.cons _ r,e=>by
  obtain⟨v,h1,h2⟩:=ay.get (i:=i) (d:=d) r (by simpa using e);exact⟨v,by simpa using h1,h2⟩
theorem ay.append:∀{vs ws:List V} {ds es:List Dat},ay K H Av vs ds->ay K H Av ws es->ay K H Av (vs++ws) (ds++es)
 |_,_,_,_,.nil,s=>s
 |_,_,_,_,.cons h r,s=>.cons h (ay.append r s)
theorem ay.take:∀{vs:List V} {ds:List Dat} (n:Nat),ay K H Av vs ds->ay K H Av (vs.take n) (ds.take n)
 |_,_,0,_=>.nil
 |_,_,_+1,.nil=>.nil
 |_,_,n+1,.cons r t=>.cons r (ay.take n t)
theorem ay.drop:∀{vs:List V} {ds:List Dat} (n:Nat),ay K H Av vs ds->ay K H Av (vs.drop n) (ds.drop n)
 |_,_,0,r=>r
 |_,_,_+1,.nil=>.nil
 |_,_,n+1,.cons _ t=>ay.drop n t
theorem ay.ints(ns:List Int):ay K H Av (ns.map V.int) (ns.map Dat.int):=by
 induction ns with
 |nil=>exact .nil
 |cons n ns ih=>exact .cons (.int n) ih
variable {p:Addr}
theorem bV(h:H p=none)(o:HO):bg H (upd H p o):=fun b u q=>by rw[bD (bB q h)];exact q
def gE (H:Hp) (Av:fV):Prop:=∀a,Av a->∃o,H a=some o
theorem gE.same(e:bg H H')(h:gE H Av):gE H' Av:=fun a z=>let ⟨o,q⟩:=h a z;⟨o,e a o q⟩
theorem gE.new(h:gE H Av)(e:H p=none):¬Av p:=fun z=>by
 obtain⟨o,q⟩:=h p z;rw[e]at q;cases q
variable {ds:List Dat}
theorem aS.sV(h:gE H Av)(e:H p=none)(r:ay K H Av xs ds):aS K (upd H p (.tup xs)) Av (.ref p) (.tuple ds):=
 .tup (.inl ⟨.inl ee,h.new e⟩) (r.same (bV e _))
theorem aS.oK(h:gE H Av)(e:H p=none)(r:ay K H Av xs ds):aS K (upd H p (.lst xs)) Av (.ref p) (.list ds):=
 .lst (.inl ⟨.inl ee,h.new e⟩) (r.same (bV e _))
def eZ (K:Fg) (H:Hp) (Av:fV) (σ:L2.St) (ρ:aw):Prop:=∀(i:Nat) (d:Dat),ρ[i]?=some (some d)->∃v,σ[i]?=some (some v)/\aS K H Av v d
variable {ρ:aw}
theorem eZ.same{σ:L2.St}(e:bg H H')(h:eZ K H Av σ ρ):eZ K H' Av σ ρ:=fun i d q=>let ⟨v,a,r⟩:=h i d q;⟨v,a,r.same e⟩
def tF (K:Fg) (f:aw->Option Dat):TE:=fun σ H Q=>∃Av ρ d,gE H Av/\eZ K H Av σ ρ/\f ρ=some d/\∀v H',bg H H'->aS K H' Av v d->Q v H'
def mZ (K:Fg) (f:aw->Option Bool):TT:=fun σ H Q=>∃Av ρ b,gE H Av/\eZ K H Av σ ρ/\f ρ=some b/\∀H',bg H H'->Q b H'
def JW (K:Fg) (f:aw->Option (List Dat)):TA:=fun σ H Q=>∃Av ρ ds,gE H Av/\eZ K H Av σ ρ/\f ρ=some ds/\∀vs H',bg H H'->ay K H' Av vs ds->Q vs H'
abbrev PF (X:Cx) (e:Expr) (f:aw->Option Dat):Prop:=PE X e (tF X.K f)
abbrev XE (X:Cx) (e:Expr) (f:aw->Option Bool):Prop:=PT X e (mZ X.K f)
abbrev Lh (X:Cx) (e:List Expr) (f:aw->Option (List Dat)):Prop:=PA X e (JW X.K f)
variable {e:Expr} {X:Cx}
theorem bp{t t':TE}(h:PE X e t)(m:∀σ H Q,t' σ H Q->t σ H Q):PE X e t':=fun pins s σ H Q I q=>h pins s σ H Q I (m σ H Q q)
theorem nW{t t':TT}(h:PT X e t)(m:∀σ H Q,t' σ H Q->t σ H Q):PT X e t':=fun pins s σ H Q I q=>h pins s σ H Q I (m σ H Q q)
theorem vz{t t':TT}(h:PW X e t)(m:∀σ H Q,t' σ H Q->t σ H Q):PW X e t':=fun w pins s σ H Q I q=>h w pins s σ H Q I (m σ H Q q)
variable {es:List Expr}
theorem rC{t t':TA}(h:PA X es t)(m:∀σ H Q,t' σ H Q->t σ H Q):PA X es t':=fun p pins s σ H Q I q=>h p pins s σ H Q I (m σ H Q q)
def aH (i:Nat):aw->Option Dat:=fun ρ=>(ρ[i]?).join
def fC (d:Dat):aw->Option Dat:=fun _=>some d
variable {d:Dat}
theorem join_some{o:Option (Option Dat)}(h:o.join=some d):o=some (some d):=by
 cases o with
 |none=>cases h
 |some q=>exact congrArg some h
variable {fb fa:aw->Option Dat} {a b:Expr}
def f2 (g:Dat->Dat->Option Dat) (fa fb:aw->Option Dat):aw->Option Dat:=fun ρ=>(fa ρ).bind fun a=>(fb ρ).bind fun b=>g a b
def lJ (K:Fg) (r:R2) (g:Dat->Dat->Option Dat):Prop:=∀(H:Hp) (Av:fV) (x y:V) (dx dy d:Dat) (Q:VK),gE H Av->aS K H Av x dx->aS K H Av y dy->g dx dy=some d->(∀v H',bg H H'->aS K H' Av v d->Q v H')->r x y H Q
variable {α:Type}
theorem bind_some{β:Type}{o:Option α}{g:α->Option β}{b:β}(h:o.bind g=some b):∃a,o=some a/\g a=some b:=by
 cases o with
 |none=>cases h
 |some a=>exact⟨a,rfl,h⟩
variable {r:R2} {g:Dat->Dat->Option Dat}
theorem xU(hr:lJ K r g):∀σ H Q,tF K (f2 g fa fb) σ H Q->Bn r (tF K fa) (tF K fb) σ H Q:=by
 rintro σ H Q ⟨Av,ρ,d,hA,hE,hf,q⟩;obtain⟨dx,e1,hf⟩:=bind_some hf;obtain⟨dy,e2,hf⟩:=bind_some hf;refine⟨Av,ρ,dx,hA,hE,e1,fun x H1 s1 r1=>⟨Av,ρ,dy,hA.same s1,hE.same s1,e2,fun y H2 s2 r2=>?_⟩⟩;exact hr H2 Av x y dx dy d Q (hA.same (s1.trans s2)) (r1.same s2) r2 hf fun v H' s3 r3=>q v H' (s1.trans (s2.trans s3)) r3
variable {pos:Pos}
theorem mr{op:Operator}(ho:dZ X (binaryOp op) r)(hd:lJ X.K r g)(ha:PF X a fa)(hb:PF X b fb):PF X (.BinOp a op b pos) (f2 g fa fb):=bp (xZ ho ha hb) (xU hd)
theorem qi{op:CmpOp}(ho:dZ X (compareOp op) r)(hd:lJ X.K r g)(ha:PF X a fa)(hb:PF X b fb)(hm:behindInMarks op b=false):PF X (.Compare a [op] [b] pos) (f2 g fa fb):=bp (BQ ho ha hb hm) (xU hd)
def lj:Dat->Option Bool
 | .bool b=>some b
 |_=>none
variable {f:aw->Option Dat}
def cc (f:aw->Option Dat):aw->Option Bool:=fun ρ=>(f ρ).bind lj
theorem mQ{b:Bool}(h:lj d=some b):d=.bool b:=by
 cases d<;>first|(cases h;done)|(simp only[lj,Option.some.injEq]at h;rw[h])
variable {v:V}
theorem aS.kP{b:Bool}(h:aS K H Av v (.bool b)):v=.bl b:=by cases h;rfl
theorem aS.cY{b:Int}(h:aS K H Av v (.int b)):v=.int b:=by cases h;rfl
theorem aS.iy{b:Str}(h:aS K H Av v (.str b)):v=.str b:=by cases h;rfl
theorem aS.Rj(h:aS K H Av v .none):v=.bM:=by cases h;rfl
theorem aS.fT(h:aS K H Av v (.tuple ds)):∃a xs,v=.ref a/\Em K H Av a xs/\ay K H Av xs ds:=by cases h with|tup h r=>exact⟨_,_,rfl,h,r⟩
theorem aS.gm(h:aS K H Av v (.list ds)):∃a xs,v=.ref a/\En K H Av a xs/\ay K H Av xs ds:=by cases h with|lst h r=>exact⟨_,_,rfl,h,r⟩
theorem Lw{t:TE}(m:∀σ H Q,tF K f σ H Q->t σ H Q):∀σ H Q,mZ K (cc f) σ H Q->JT t σ H Q:=by
 rintro σ H Q ⟨Av,ρ,b,hA,hE,hf,q⟩;obtain⟨d,e1,hf⟩:=bind_some hf;have e2:=mQ hf;subst e2;exact m σ H _ ⟨Av,ρ,.bool b,hA,hE,e1,fun v H' s r=>⟨b,r.kP,q H' s⟩⟩
theorem jM{op:CmpOp}(ho:dZ X (compareOp op) r)(hd:lJ X.K r g)(ha:PF X a fa)(hb:PF X b fb)(hm:behindInMarks op b=false):XE X (.Compare a [op] [b] pos) (cc (f2 g fa fb)):=nW (BL ho ha hb hm) (Lw (xU hd))
def nH:Dat->Option Bool
 | .none=>some false
 | .bool b=>some b
 | .int i=>some (i !=0)
 | .str y=>if y.length<=sizeLine then some ((y.length:Int) !=0)else none
 | .list ds=>some (!ds.isEmpty)
 | .tuple ds=>some (!ds.isEmpty)
 |_=>none
def iR (f:aw->Option Dat):aw->Option Bool:=fun ρ=>(f ρ).bind nH
variable {vs:List V}
theorem ay.emp(h:ay K H Av vs ds):ds.isEmpty=vs.isEmpty:=by cases h<;>rfl
theorem Na{k:Bool}(r:aS K H Av v d)(h:nH d=some k):JA K v H k:=by
 cases r with
 |bM=>cases h;exact rfl
 |bl b=>cases h;exact rfl
 |int i=>cases h;exact rfl
 |str x=>
  simp only[nH]at h;split at h
  ·rename_i hz;cases h;exact⟨hz,rfl⟩
  ·cases h
 |tup hq rs=>cases h;exact .inr (.inl ⟨_,hq.sq,by rw[rs.emp]⟩)
 |lst hq rs=>cases h;exact .inl ⟨_,hq.sq,by rw[rs.emp]⟩
variable {c:Expr}
def jz (f g:aw->Option Bool):aw->Option Bool:=fun ρ=>(f ρ).bind fun c=>if c=true then g ρ else some false
def iw (f g:aw->Option Bool):aw->Option Bool:=fun ρ=>(f ρ).bind fun c=>if c=true then some true else g ρ
def j4 (f:aw->Option Bool):aw->Option Bool:=fun ρ=>(f ρ).map (!·)
abbrev Yi (X:Cx) (e:Expr) (f:aw->Option Bool):Prop:=PW X e (mZ X.K f)
def nO (f g:aw->Option Dat):aw->Option Dat:=fun ρ=>(f ρ).bind fun d=>(lj d).bind fun c=>if c=true then g ρ else some (.bool false)
def sf (f g:aw->Option Dat):aw->Option Dat:=fun ρ=>(f ρ).bind fun d=>(lj d).bind fun c=>if c=true then some (.bool true)else g ρ
def qG (f:aw->Option Dat):aw->Option Dat:=fun ρ=>(f ρ).bind fun d=>(lj d).map fun c=>.bool (!c)
variable {ft:aw->Option Bool}
def uL (ft:aw->Option Bool) (f g:aw->Option Dat):aw->Option Dat:=fun ρ=>(ft ρ).bind fun c=>if c=true then f ρ else g ρ
def f1 (g:Dat->Option Dat) (fa:aw->Option Dat):aw->Option Dat:=fun ρ=>(fa ρ).bind g
def XA (K:Fg) (r:V->Hp->VK->Prop) (g:Dat->Option Dat):Prop:=∀(H:Hp) (Av:fV) (x:V) (dx d:Dat) (Q:VK),gE H Av->aS K H Av x dx->g dx=some d->(∀v H',bg H H'->aS K H' Av v d->Q v H')->r x H Q
theorem R0{op:UnaryOp}{r:V->Hp->VK->Prop}{g:Dat->Option Dat}(ho:Lb X (unaryOp op) r)(hd:XA X.K r g)(ha:PF X a fa):PF X (.UnaryOp op a pos) (f1 g fa):=bp (R8 ho ha) fun σ H Q aQ=>by
 obtain⟨Av,ρ,d,hA,hE,hf,q⟩:=aQ;obtain⟨dx,e1,hf⟩:=bind_some hf;exact⟨Av,ρ,dx,hA,hE,e1,fun x H1 s1 r1=>hd H1 Av x dx d Q (hA.same s1) r1 hf fun v H2 s2 r2=>q v H2 (s1.trans s2) r2⟩
def bS:aw->Option (List Dat):=fun _=>some []
def aU (f:aw->Option Dat) (g:aw->Option (List Dat)):aw->Option (List Dat):=fun ρ=>(f ρ).bind fun d=>(g ρ).map (d::·)
theorem ba{β:Type}{o:Option α}{g:α->β}{b:β}(h:o.map g=some b):∃a,o=some a/\g a=b:=by
 cases o with
 |none=>cases h
 |some a=>exact⟨a,rfl,Option.some.inj h⟩
def ly (g:aw->Option (List Dat)):aw->Option Dat:=fun ρ=>(g ρ).bind fun ds=>if ds.length<=sizeLine then some (.tuple ds)else none
def nN (g:aw->Option (List Dat)):aw->Option Dat:=fun ρ=>(g ρ).bind fun ds=>if ds.length<=sizeLine then some (.list ds)else none
variable {fs:aw->Option (List Dat)} in
def gy (g:List Dat->Option Dat) (fs:aw->Option (List Dat)):aw->Option Dat:=fun ρ=>(fs ρ).bind g
def nC (K:Fg) (r:List V->Hp->VK->Prop) (g:List Dat->Option Dat):Prop:=∀(H:Hp) (Av:fV) (xs:List V) (ds:List Dat) (d:Dat) (Q:VK),gE H Av->ay K H Av xs ds->g ds=some d->(∀v H',bg H H'->aS K H' Av v d->Q v H')->r xs H Q
variable {r:List V->Hp->VK->Prop} {g:List Dat->Option Dat}
variable {fs:aw->Option (List Dat)} in
theorem Bo(hr:nC K r g):∀σ H Q,tF K (gy g fs) σ H Q->JY r (JW K fs) σ H Q:=by
 rintro σ H Q ⟨Av,ρ,d,hA,hE,hf,q⟩;obtain⟨ds,e1,hf⟩:=bind_some hf;exact⟨Av,ρ,ds,hA,hE,e1,fun xs H1 s1 r1=>hr H1 Av xs ds d Q (hA.same s1) r1 hf fun v H2 s2 r2=>q v H2 (s1.trans s2) r2⟩
variable {x:Str}
variable {fs:aw->Option (List Dat)} in
theorem yX{p:Pos}{id:String}(hc:ko X (.builtin id) r)(hd:nC X.K r g)(hm:X.mg x=none)(ha:Lh X (e::es) fs)(hg:Gl X x:=by rfl)(hv:bootBuiltins x=some (.builtin id):=by rfl)(hn:x≠"__name__":=by decide)(jq:(x==("__debug__" : Str))=false:=by decide)(he:starEach (e::es) X.env=(false,eval e X.env)::starEach es X.env:=by rfl)(eY:(backTo pos (starEach es X.env)).any (·.1)=false:=by rfl):PF X (.Call (.Name x p) (e::es) [] pos) (gy g fs):=bp (yY hc hg hm hv ha hn jq he eY) (Bo hd)
variable {T:String}
variable {fs:aw->Option (List Dat)} in
theorem FG{p:Pos}(hc:ko X (.type T) r)(hd:nC X.K r g)(hm:X.mg x=none)(ha:Lh X (e::es) fs)(hg:Gl X x:=by rfl)(hv:bootBuiltins x=some (.type T):=by rfl)(hn:x≠"__name__":=by decide)(jq:(x==("__debug__" : Str))=false:=by decide)(he:starEach (e::es) X.env=(false,eval e X.env)::starEach es X.env:=by rfl)(eY:(backTo pos (starEach es X.env)).any (·.1)=false:=by rfl):PF X (.Call (.Name x p) (e::es) [] pos) (gy g fs):=bp (nh hc hg hm hv ha hn jq he eY) (Bo hd)
def EN (K:Fg) (n:Nat) (F:List Dat->Option Dat):Sp:=fun vs H Q _=>∃Av ds d,gE H Av/\ay K H Av vs ds/\ds.length=n/\F ds=some d/\∀v H',bg H H'->aS K H' Av v d->Q v H'
variable {fs:aw->Option (List Dat)} in
def iS (n:Nat) (F:List Dat->Option Dat) (fs:aw->Option (List Dat)):aw->Option Dat:=fun ρ=>(fs ρ).bind fun ds=>if ds.length=n then F ds else none
variable {n:Nat} {F:List Dat->Option Dat}
variable {fs:aw->Option (List Dat)} in
theorem QD{E:XK}:∀σ H Q,tF K (iS n F fs) σ H Q->JX (EN K n F) [] E (JW K fs) σ H Q:=by
 rintro σ H Q ⟨Av,ρ,d,hA,hE,hf,q⟩;obtain⟨ds,e1,hf⟩:=bind_some hf;split at hf
 ·rename_i hl;exact⟨Av,ρ,ds,hA,hE,e1,fun xs H1 s1 r1=>⟨Av,ds,d,hA.same s1,by rw[append_nil];exact r1,hl,hf,fun v H2 s2 r2=>q v H2 (s1.trans s2) r2⟩⟩
 ·cases hf
structure Dn (P:Program) (w:World) (K:Fg) (mg:Str->Option Value) (base:Heap) (k:Nat) (x:Str) (ps:List Str) (n:Nat) (F:List Dat->Option Dat):Prop where
 ex:∃(f:Addr) (fd:FuncData),gG P w K mg base je k f fd ps (EN K n F)/\mg x=some (.ref f)/\keepIn K (.ref f)=true/\Binds K fd ps []
variable {P:Program} {w:World} {mg:Str->Option Value} {base:Heap} {ps:List Str}
theorem Dn.up{j k:Nat}(D:Dn P w K mg base j x ps n F)(h:j<=k):Dn P w K mg base k x ps n F:=by
 obtain⟨f,fd,h1,h2⟩:=D.ex;exact⟨f,fd,h1.mono h,h2⟩
open PySem PySem.Spec PyProof.Rows L2
open PySem.W (Dat)
inductive Slot where
 |a7 (d:Dat)
 |own (ds:List Dat)
 |obj (O:Addr->List V->Heap->Prop) (ds:List Dat)
def Slot.mt:Slot->Bool
 | .a7 _=>false
 |_=>true
abbrev ax:=List (Option Slot)
def bx (Γ:ax):aw:=Γ.map fun o=>match o with|some (.a7 d)=>some d|_=>none
def bX (Γ:ax):aw:=Γ.map fun o=>match o with|some (.a7 d)=>some d|some (.own ds)=>some (.list ds)|_=>none
def aR (Av:fV) (Γ:ax) (ad:Nat->Addr):fV:=fun a=>Av a\/∃(i:Nat) (s:Slot),Γ[i]?=some (some s)/\s.mt=true/\ad i=a
abbrev Hid:=List (V×Dat)
structure GA (K:Fg) (aj:Hp) (Av:fV) (pn:Option Addr) (aE:Hid) (H:Hp) (σ:L2.St) (Γ:ax) (ad:Nat->Addr):Prop where
 same:bg aj H
 ja:gE aj Av
 len:σ.length=Γ.length
 a7:∀(i:Nat) (d:Dat),Γ[i]?=some (some (.a7 d))->∃v,σ[i]?=some (some v)/\aS K H (aR Av Γ ad) v d
 own:∀(i:Nat) (ds:List Dat),Γ[i]?=some (some (.own ds))->∃xs,σ[i]?=some (some (.ref (ad i)))/\H (ad i)=some (.lst xs)/\ay K H (aR Av Γ ad) xs ds/\aj (ad i)=none
 inj:∀(i j:Nat) (s t:Slot),Γ[i]?=some (some s)->Γ[j]?=some (some t)->s.mt=true->t.mt=true->ad i=ad j->i=j
 aE:∀p∈aE,aS K H (aR Av Γ ad) p.1 p.2
 pin:∀a ds,pn=some a->Γ[0]?=some (some (.own ds))->ad 0=a
 obj:∀(i:Nat) (O:Addr->List V->Heap->Prop) (ds:List Dat),Γ[i]?=some (some (.obj O ds))->∃xs,σ[i]?=some (some (.ref (ad i)))/\H (ad i)=some (.ext (O (ad i) xs))/\ay K H (aR Av Γ ad) xs ds/\aj (ad i)=none
def lC (K:Fg) (aj:Hp) (Av:fV) (pn:Option Addr) (aE:Hid) (H:Hp) (σ:L2.St) (Γ:ax):Prop:=∃ad,GA K aj Av pn aE H σ Γ ad
variable {Γ:ax} {aj:Hp} {ad:Nat->Addr} {aE:Hid} {σ:L2.St} {pn:Option Addr} {i:Nat}
theorem GA.mt(G:GA K aj Av pn aE H σ Γ ad){s:Slot}(h:Γ[i]?=some (some s))(m:s.mt=true):(∃o,H (ad i)=some o)/\aj (ad i)=none:=by
 cases s with
 |a7 d=>cases m
 |own ds=>obtain⟨xs,_,a,_,b⟩:=G.own i ds h;exact⟨⟨_,a⟩,b⟩
 |obj O ds=>obtain⟨xs,_,a,_,b⟩:=G.obj i O ds h;exact⟨⟨_,a⟩,b⟩
theorem GA.OC(G:GA K aj Av pn aE H σ Γ ad)(i j:Nat)(ds es:List Dat)(h1:Γ[i]?=some (some (.own ds)))(h2:Γ[j]?=some (some (.own es)))(e:ad i=ad j):i=j:=G.inj i j _ _ h1 h2 rfl rfl e
theorem GA.gz(G:GA K aj Av pn aE H σ Γ ad):gE H (aR Av Γ ad):=by
 rintro a (z|⟨i,s,e,m,rfl⟩)
 ·exact(G.ja.same G.same) a z
 ·exact(G.mt e m).1
theorem GA.iT(G:GA K aj Av pn aE H σ Γ ad):eZ K H (aR Av Γ ad) σ (bx Γ):=fun i d e=>by
 unfold bx at e;rw[getElem?_map]at e;cases h:Γ[i]? with
 |none=>rw[h]at e;cases e
 |some o=>
  rw[h]at e;cases o with
  |none=>cases e
  |some s=>
   cases s with
   |a7 d'=>cases e;exact G.a7 i d h
   |own ds=>cases e
   |obj O ds=>cases e
theorem GA.p0(G:GA K aj Av pn aE H σ Γ ad):eZ K H Av σ (bX Γ):=fun i d e=>by
 unfold bX at e;rw[getElem?_map]at e;cases h:Γ[i]? with
 |none=>rw[h]at e;cases e
 |some o=>
  rw[h]at e;cases o with
  |none=>cases e
  |some s=>
   cases s with
   |a7 d'=>
    cases e;obtain⟨v,h1,h2⟩:=G.a7 i d h;exact⟨v,h1,h2.weak fun _ z=>.inl z⟩
   |own ds=>
    cases e;obtain⟨xs,h1,h2,h3,h4⟩:=G.own i ds h;refine⟨_,h1,.lst (.inl ⟨.inl h2,fun z=>?_⟩) (h3.weak fun _ z=>.inl z)⟩;obtain⟨o,q⟩:=G.ja _ z;rw[h4]at q;cases q
   |obj O ds=>cases e
theorem GA.grow(G:GA K aj Av pn aE H σ Γ ad)(e:bg H H'):GA K aj Av pn aE H' σ Γ ad:=
 ⟨G.same.trans e,G.ja,G.len,fun i d h=>let ⟨v,a,r⟩:=G.a7 i d h;⟨v,a,r.same e⟩,fun i ds h=>let ⟨xs,a,b,r,c⟩:=G.own i ds h;⟨xs,a,e _ _ b,r.same e,c⟩,G.inj,fun p hp=>(G.aE p hp).same e,G.pin,fun i O ds h=>let ⟨xs,a,b,r,c⟩:=G.obj i O ds h;⟨xs,a,e _ _ b,r.same e,c⟩⟩
theorem aV{l:List α}{j:Nat}{a b:α}(h:(l.set i a)[j]?=some b):(j=i/\b=a)\/(j≠i/\l[j]?=some b):=by
 by_cases e:j=i
 ·subst e;left
  refine⟨rfl,?_⟩;by_cases hl:j<l.length
  ·rw[getElem?_set_self hl]at h;exact(Option.some.inj h).symm
  ·rw[List.getElem?_eq_none (by rw[length_set];omega)]at h;cases h
 ·right
  rw[getElem?_set_ne (Ne.symm e)]at h;exact⟨e,h⟩
theorem dY{l:List α}{a:α}(h:l[i]?=some a):i<l.length:=(List.getElem?_eq_some_iff.mp h).1
theorem aR.jJ:∀a,aR Av (Γ.set i (some (.a7 d))) ad a->aR Av Γ ad a:=by
 rintro a (z|⟨j,s,e,m,r⟩)
 ·exact .inl z
 ·rcases aV e with⟨_,q⟩|⟨_,q⟩
  ·cases q;cases m
  ·exact .inr ⟨j,s,q,m,r⟩
theorem GA.set(G:GA K aj Av pn aE H σ Γ ad)(i:Nat)(r:aS K H (aR Av Γ ad) v d):GA K aj Av pn aE H (σ.set i (some v)) (Γ.set i (some (.a7 d))) ad:=by
 refine⟨G.same,G.ja,by rw[length_set,length_set];exact G.len,fun j d' h=>?_,fun j ds h=>?_,fun j k s t h1 h2 m1 m2 e=>?_,fun p hp=>(G.aE p hp).weak aR.jJ,fun a ds e h=>?_,fun j O ds h=>?_⟩
 ·have dJ:=dY h;rw[length_set]at dJ;rcases aV h with⟨e,q⟩|⟨e,q⟩
  ·subst e;cases q;exact⟨v,getElem?_set_self (by rw[G.len];exact dJ),r.weak aR.jJ⟩
  ·obtain⟨u,a,b⟩:=G.a7 j d' q;exact⟨u,by rw[getElem?_set_ne (Ne.symm e)];exact a,b.weak aR.jJ⟩
 ·rcases aV h with⟨e,q⟩|⟨e,q⟩
  ·cases q
  ·obtain⟨xs,a,b,c,e'⟩:=G.own j ds q;exact⟨xs,by rw[getElem?_set_ne (Ne.symm e)];exact a,b,c.weak aR.jJ,e'⟩
 ·rcases aV h1 with⟨_,q⟩|⟨_,q1⟩
  ·cases q;cases m1
  rcases aV h2 with⟨_,q⟩|⟨_,q2⟩
  ·cases q;cases m2
  exact G.inj j k s t q1 q2 m1 m2 e
 ·rcases aV h with⟨_,q⟩|⟨_,q⟩
  ·cases q
  ·exact G.pin a ds e q
 ·rcases aV h with⟨e,q⟩|⟨e,q⟩
  ·cases q
  ·obtain⟨xs,a,b,c,e'⟩:=G.obj j O ds q;exact⟨xs,by rw[getElem?_set_ne (Ne.symm e)];exact a,b,c.weak aR.jJ,e'⟩
theorem GA.Nt(G:GA K aj Av pn aE H σ Γ ad)(i:Nat)(o8:i≠0)(hp:H p=none)(r:ay K H (aR Av Γ ad) xs ds):
  GA K aj Av pn aE (upd H p (.lst xs)) (σ.set i (some (.ref p))) (Γ.set i (some (.own ds))) (fun j=>if j=i then p else ad j):=by
 have sm:bg H (upd H p (.lst xs)):=bV hp _;have FX:∀j s,Γ[j]?=some (some s)->Slot.mt s=true->ad j≠p:=fun j s h m=>by
  obtain⟨⟨o,b⟩,_⟩:=G.mt h m;exact bB b hp
 have kp:lB H (aR Av Γ ad) (upd H p (.lst xs)) (aR Av (Γ.set i (some (.own ds))) (fun j=>if j=i then p else ad j)):=by
  intro b o h n;refine⟨sm b o h,?_⟩;rintro(z|⟨j,es,e,m,r⟩)
  ·exact n (.inl z)
  ·rcases aV e with⟨e1,_⟩|⟨e1,q⟩
   ·have r':p=b:=by simpa [e1]using r
    exact bB h hp r'.symm
   ·have r':ad j=b:=by simpa [e1]using r
    exact n (.inr ⟨j,es,q,m,r'⟩)
 have IF:∀{vs:List V} {d:List Dat},ay K H (aR Av Γ ad) vs d->ay K (upd H p (.lst xs)) (aR Av (Γ.set i (some (.own ds))) (fun j=>if j=i then p else ad j)) vs d:=fun h=>h.mono kp
 ·refine⟨G.same.trans sm,G.ja,by rw[length_set,length_set];exact G.len,fun j d' h=>?_,fun j es h=>?_,fun j l es fs h1 h2 m1 m2 e=>?_,fun q hq=>(G.aE q hq).mono kp,fun a es e h=>?_,fun j O es h=>?_⟩
  ·rcases aV h with⟨e,q⟩|⟨e,q⟩
   ·cases q
   ·obtain⟨u,a,b⟩:=G.a7 j d' q;exact⟨u,by rw[getElem?_set_ne (Ne.symm e)];exact a,b.mono kp⟩
  ·have dJ:=dY h;rw[length_set]at dJ;rcases aV h with⟨e,q⟩|⟨e,q⟩
   ·subst e;cases q;refine⟨xs,?_,?_,IF r,?_⟩
    ·rw[if_pos rfl];exact getElem?_set_self (by rw[G.len];exact dJ)
    ·rw[if_pos rfl];exact ee
    ·rw[if_pos rfl];cases e0:aj p with
     |none=>rfl
     |some o=>have:=G.same p o e0;rw[hp]at this;cases this
   ·obtain⟨ys,a,b,c,e'⟩:=G.own j es q;refine⟨ys,?_,?_,IF c,?_⟩
    ·rw[if_neg e,getElem?_set_ne (Ne.symm e)];exact a
    ·rw[if_neg e];exact sm _ _ b
    ·rw[if_neg e];exact e'
  ·rcases aV h1 with⟨e1,q1⟩|⟨e1,q1⟩
   ·rcases aV h2 with⟨e2,q2⟩|⟨e2,q2⟩
    ·rw[e1,e2]
    ·rw[if_pos e1,if_neg e2]at e;exact absurd e.symm (FX l fs q2 m2)
   ·rcases aV h2 with⟨e2,q2⟩|⟨e2,q2⟩
    ·rw[if_neg e1,if_pos e2]at e;exact absurd e (FX j es q1 m1)
    ·rw[if_neg e1,if_neg e2]at e;exact G.inj j l es fs q1 q2 m1 m2 e
  ·rcases aV h with⟨z,_⟩|⟨_,q⟩
   ·exact absurd z.symm o8
   ·show(if 0=i then p else ad 0)=a;rw[if_neg (Ne.symm o8)];exact G.pin a es e q
  ·rcases aV h with⟨e,q⟩|⟨e,q⟩
   ·cases q
   ·obtain⟨ys,a,b,c,e'⟩:=G.obj j O es q;refine⟨ys,?_,?_,IF c,?_⟩
    ·rw[if_neg e,getElem?_set_ne (Ne.symm e)];exact a
    ·rw[if_neg e];exact sm _ _ b
    ·rw[if_neg e];exact e'
variable {es:List Dat}
theorem GA.change(G:GA K aj Av pn aE H σ Γ ad){ys:List V}(hi:Γ[i]?=some (some (.own ds)))(r:ay K H (aR Av Γ ad) ys es):
  GA K aj Av pn aE (upd H (ad i) (.lst ys)) σ (Γ.set i (some (.own es))) ad:=by
 have dJ:i<Γ.length:=dY hi;have av:∀a,aR Av (Γ.set i (some (.own es))) ad a->aR Av Γ ad a:=by
  rintro a (z|⟨j,fs,e,m,q⟩)
  ·exact .inl z
  ·rcases aV e with⟨e1,_⟩|⟨e1,q1⟩
   ·subst e1;exact .inr ⟨j,_,hi,rfl,q⟩
   ·exact .inr ⟨j,fs,q1,m,q⟩
 have kp:lB H (aR Av Γ ad) (upd H (ad i) (.lst ys)) (aR Av (Γ.set i (some (.own es))) ad):=by
  intro b o h n;refine⟨?_,fun z=>n (av b z)⟩;rw[bD fun z=>n (.inr ⟨i,_,hi,rfl,z.symm⟩)];exact h
 obtain⟨N2,g1,g2,g3,g4⟩:=G.own i ds hi;refine⟨fun b o h=>?_,G.ja,by rw[length_set];exact G.len,fun j d' h=>?_,fun j fs h=>?_,fun j l fs gs h1 h2 m1 m2 e=>?_,fun p hp=>(G.aE p hp).mono kp,fun a fs e h=>?_,fun j O fs h=>?_⟩
 ·rw[bD (bB h g4)];exact G.same b o h
 ·rcases aV h with⟨e,q⟩|⟨e,q⟩
  ·cases q
  ·obtain⟨u,a,b⟩:=G.a7 j d' q;exact⟨u,a,b.mono kp⟩
 ·rcases aV h with⟨e,q⟩|⟨e,q⟩
  ·subst e;cases q;exact⟨ys,g1,ee,r.mono kp,g4⟩
  ·obtain⟨zs,a,b,c,e'⟩:=G.own j fs q;refine⟨zs,a,?_,c.mono kp,e'⟩;rw[bD fun z=>e (G.OC j i fs ds q hi z)];exact b
 ·rcases aV h1 with⟨e1,q1⟩|⟨e1,q1⟩
  ·rcases aV h2 with⟨e2,q2⟩|⟨e2,q2⟩
   ·rw[e1,e2]
   ·subst e1;exact G.inj j l _ gs hi q2 rfl m2 e
  ·rcases aV h2 with⟨e2,q2⟩|⟨e2,q2⟩
   ·subst e2;exact G.inj j l fs _ q1 hi m1 rfl e
   ·exact G.inj j l fs gs q1 q2 m1 m2 e
 ·rcases aV h with⟨z,_⟩|⟨_,q⟩
  ·subst z;exact G.pin a ds e hi
  ·exact G.pin a fs e q
 ·rcases aV h with⟨e,q⟩|⟨e,q⟩
  ·cases q
  ·obtain⟨zs,a,b,c,e'⟩:=G.obj j O fs q;refine⟨zs,a,?_,c.mono kp,e'⟩;rw[bD fun z=>e (G.inj j i _ _ q hi rfl rfl z)];exact b
theorem GA.hide(G:GA K aj Av pn aE H σ Γ ad)(r:aS K H (aR Av Γ ad) v d):GA K aj Av pn ((v,d)::aE) H σ Γ ad:=
 ⟨G.same,G.ja,G.len,G.a7,G.own,G.inj,fun p hp=>by
  rcases mem_cons.mp hp with e|h
  ·subst e;exact r
  ·exact G.aE p h,G.pin,G.obj⟩
theorem GA.pQ(G:GA K aj Av pn ((v,d)::aE) H σ Γ ad):GA K aj Av pn aE H σ Γ ad:=
 ⟨G.same,G.ja,G.len,G.a7,G.own,G.inj,fun p hp=>G.aE p (mem_cons_of_mem _ hp),G.pin,G.obj⟩
inductive Fl where
 |nx (Γ:ax)|rt (d:Dat)|bk (Γ:ax)|ct (Γ:ax)|rm (d:Dat) (Γ:ax)
def Jc (K:Fg) (aj:Hp) (Av:fV) (pn:Option Addr) (aE:Hid) (D:Ends):Fl->Prop
 | .nx Γ=>∀σ H,lC K aj Av pn aE H σ Γ->D.nx σ H
 | .rt d=>∀v H,bg aj H->aS K H Av v d->D.rt v H
 | .bk Γ=>∀σ H,lC K aj Av pn aE H σ Γ->D.bk σ H
 | .ct Γ=>∀σ H,lC K aj Av pn aE H σ Γ->D.ct σ H
 | .rm d Γ=>∀σ v H ad,GA K aj Av pn aE H σ Γ ad->aS K H (aR Av Γ ad) v d->D.rt v H
def yt (K:Fg) (g:ax->Option Fl):TS:=fun D σ H=>∃aj Av pn aE Γ fl,lC K aj Av pn aE H σ Γ/\g Γ=some fl/\Jc K aj Av pn aE D fl
abbrev Tq (X:Cx) (st:Stmt) (g:ax->Option Fl):Prop:=PS X st (yt X.K g)
abbrev Qd (X:Cx) (st:List Stmt) (g:ax->Option Fl):Prop:=lr X st (yt X.K g)
variable {st:Stmt}
theorem cm{t t':TS}(h:PS X st t)(m:∀D σ H,t' D σ H->t D σ H):PS X st t':=fun pins s σ H D I q=>h pins s σ H D I (m D σ H q)
variable {rest:List Stmt} in
theorem yS{t t':TS}(h:lr X rest t)(m:∀D σ H,t' D σ H->t D σ H):lr X rest t':=fun pins s σ H D I q=>h pins s σ H D I (m D σ H q)
def iA:ax->Option Fl:=fun Γ=>some (.nx Γ)
variable {g2 g1:ax->Option Fl}
def dO (g1 g2:ax->Option Fl):ax->Option Fl:=fun Γ=>(g1 Γ).bind fun fl=>match fl with
 | .nx af=>g2 af
 | .rt d=>some (.rt d)
 | .bk af=>some (.bk af)
 | .ct af=>some (.ct af)
 | .rm d af=>some (.rm d af)
def k6 (f:aw->Option Dat):ax->Option Fl:=fun Γ=>(f (bX Γ)).map .rt
def kv (ft:aw->Option Bool) (g1 g2:ax->Option Fl):ax->Option Fl:=fun Γ=>(ft (bX Γ)).bind fun c=>if c=true then g1 Γ else g2 Γ
def EW:Dat->Bool
 | .none=>true| .bool _=>true| .int _=>true| .str _=>true
 |_=>false
theorem aS.sc(h:aS K H Av v d)(s:EW d=true):aS K H iI v d:=by
 cases h with
 |bM=>exact .bM
 |bl b=>exact .bl b
 |int i=>exact .int i
 |str x=>exact .str x
 |tup _ _=>cases s
 |lst _ _=>cases s
def ik (i:Nat) (f:aw->Option Dat):ax->Option Fl:=fun Γ=>match f (bx Γ)with
 |some d=>some (.nx (Γ.set i (some (.a7 d))))
 |none=>(f (bX Γ)).bind fun d=>if EW d=true then some (.nx (Γ.set i (some (.a7 d))))else none
theorem Nc:∀D σ H,yt K (ik i f) D σ H->HV (tF K f) (E1 i) D σ H:=by
 rintro D σ H ⟨aj,Av,pn,aE,Γ,fl,⟨ad,G⟩,hf,q⟩;unfold ik at hf;split at hf
 ·rename_i d e1;cases hf;exact⟨aR Av Γ ad,bx Γ,d,G.gz,G.iT,e1,fun v H' s r=>q _ _ ⟨ad,(G.grow s).set i r⟩⟩
 ·obtain⟨d,e1,hf⟩:=bind_some hf;split at hf
  ·rename_i hs;cases hf;exact⟨Av,bX Γ,d,G.ja.same G.same,G.p0,e1,fun v H' s r=>q _ _ ⟨ad,(G.grow s).set i (r.sc hs)⟩⟩
  ·cases hf
abbrev cW:=List (Nat×Dat)
inductive kj (K:Fg) (H:Hp) (Av:fV):List (Nat×V)->cW->Prop
 |nil:kj K H Av [] []
 |cons {i:Nat} {v:V} {d:Dat} {vs:List (Nat×V)} {ds:cW}:aS K H Av v d->kj K H Av vs ds->kj K H Av ((i,v)::vs) ((i,d)::ds)
def oz (σ:L2.St) (ws:List (Nat×V)):L2.St:=ws.foldl (fun σ p=>σ.set p.1 (some p.2)) σ
def setG (Γ:ax) (ws:cW):ax:=ws.foldl (fun Γ p=>Γ.set p.1 (some (.a7 p.2))) Γ
def kC (ρ:aw) (ws:cW):aw:=ws.foldl (fun ρ p=>ρ.set p.1 (some p.2)) ρ
theorem kj.append{K:Fg}{H:Hp}{Av:fV}:∀{a b:List (Nat×V)} {c d:cW},kj K H Av a c->kj K H Av b d->kj K H Av (a++b) (c++d)
 |_,_,_,_,.nil,s=>s
 |_,_,_,_,.cons h r,s=>.cons h (kj.append r s)
def j8 (K:Fg) (gt:Dat->Option cW):TG:=fun v σ H Q=>∃Av d as,aS K H Av v d/\gt d=some as/\∀ws,kj K H Av ws as->Q (oz σ ws) H
def Dk (K:Fg) (gt:List Dat->Option cW):sk:=fun vs σ H Q=>∃Av ds as,ay K H Av vs ds/\gt ds=some as/\∀ws,kj K H Av ws as->Q (oz σ ws) H
theorem BP{t t':TG}{tg:Expr}(h:PG X tg t)(m:∀v σ H Q,t' v σ H Q->t v σ H Q):PG X tg t':=fun pins s σ H v u Q I r q=>h pins s σ H v u Q I r (m v σ H Q q)
theorem yV{t t':sk}{tg:List Expr}(h:AI X tg t)(m:∀v σ H Q,t' v σ H Q->t v σ H Q):AI X tg t':=fun pins s σ H v u Q I r q=>h pins s σ H v u Q I r (m v σ H Q q)
def aName (i:Nat):Dat->Option cW:=fun d=>some [(i,d)]
def mR:List Dat->Option cW:=fun ds=>match ds with|[]=>some []|_=>none
variable {g:ax->Option Fl}
def gM (g:Dat->Option cW) (gs:List Dat->Option cW):List Dat->Option cW:=fun ds=>match ds with
 |[]=>none
 |d::r=>(g d).bind fun a=>(gs r).map (a++·)
def kG (n:Nat) (gs:List Dat->Option cW):Dat->Option cW:=fun d=>match d with
 | .tuple ds=>if ds.length=n then gs ds else none
 |_=>none
variable {ws:List (Nat×V)} {as:cW}
theorem GA.ia{JK:ax}{σ:L2.St}(h:kj K H (aR Av JK ad) ws as)(hw:∀a,aR Av Γ ad a->aR Av JK ad a)(G:GA K aj Av pn aE H σ Γ ad):
  GA K aj Av pn aE H (oz σ ws) (setG Γ as) ad:=by
 induction h generalizing σ Γ with
 |nil=>exact G
 | @cons i v d vs ds h r ih=>exact ih (σ:=σ.set i (some v)) (Γ:=Γ.set i (some (.a7 d))) (fun a z=>hw a (aR.jJ a z)) (G.set i (h.weak hw))
def pX (gt:Dat->Option cW) (f:aw->Option Dat):ax->Option Fl:=fun Γ=>(f (bx Γ)).bind fun d=>(gt d).map fun as=>.nx (setG Γ as)
open PySem PySem.Spec PyProof.Rows L2
open PySem.W (Dat)
def OF (K:Fg) (tl:TE):TI:=fun σ H R=>tl σ H fun x H1=>∃a,x=.ref a/\(((∃xs,fF K H1 a xs)/\R (Qi K a) H1)\/((∃xs,jb K H1 a xs)/\R (Qh K a) H1))
variable {tg:Expr}
theorem uh{l:Expr}{tl:TE}(hl:PE X l tl):PI X tg l (OF X.K tl):=by
 intro pins s σ H R I h;refine c8 (hl pins s σ H _ I h) fun v s1 ⟨x,H1,I1,r1,q1⟩=>?_;obtain⟨a,e,q⟩:=q1;subst e;cases r1;rcases q with⟨⟨xs,hq⟩,q⟩|⟨⟨xs,hq⟩,q⟩
 ·obtain⟨ao,rv,p,hz⟩:=I1.list hq;refine wpAny_pyIter_list p.isList ?_;refine⟨s1.heap.objs.size,[s1.heap.objs.size],_,_,H1,rfl,I1.kept (t':=s1.toks) fun b o e=>get?_push_of_some _ e,ED a _,⟨_,get?_push_size _ rfl,rfl,rfl⟩,fun b hb=>?_,q⟩;have e:b=s1.heap.objs.size:=by simpa using hb
  subst e;exact I1.vM (le_refl _) (I1.bF.fresh (le_refl _))
 ·obtain⟨ao,rv,p,hz⟩:=I1.tuple hq;refine wpAny_pyIter_tuple (show s1.heap.IsTuple a ao.toArray from p) ?_;refine⟨s1.heap.objs.size,[s1.heap.objs.size],_,_,H1,rfl,I1.kept (t':=s1.toks) fun b o e=>get?_push_of_some _ e,Di a _,⟨_,get?_push_size _ rfl,rfl,rfl⟩,fun b hb=>?_,q⟩;have e:b=s1.heap.objs.size:=by simpa using hb
  subst e;exact I1.vM (le_refl _) (I1.bF.fresh (le_refl _))
def cJ:Dat->Option (List Dat)
 | .list ds=>some ds
 | .tuple ds=>some ds
 |_=>none
def Over (K:Fg) (J:It) (x:V) (d:Dat) (ds:List Dat):Prop:=∀(i:Nat) (H:Hp) (Av:fV),aS K H Av x d->(ds.length<=i->J.stop i H)/\(∀di,ds[i]?=some di->J.go i H/\∀y H',J.wy i H y H'->H'=H/\aS K H Av y di)
theorem qm{a:Addr}:Over K (Qi K a) (.ref a) (.list ds) ds:=by
 intro i H Av r;obtain⟨b,xs,e,hq,rs⟩:=r.gm;cases e;refine⟨fun h=>⟨xs,hq.sq,by rw[rs.length];exact h⟩,fun di hd=>?_⟩;obtain⟨v,hv,rv⟩:=rs.get hd;refine⟨⟨xs,v,hq.sq,hv⟩,fun y H' hy=>?_⟩;obtain⟨e,hy⟩:=hy;have:=hy xs hq.sq;rw[hv]at this;cases this;exact⟨e,rv⟩
theorem sT{a:Addr}:Over K (Qh K a) (.ref a) (.tuple ds) ds:=by
 intro i H Av r;obtain⟨b,xs,e,hq,rs⟩:=r.fT;cases e;refine⟨fun h=>⟨xs,hq.sq,by rw[rs.length];exact h⟩,fun di hd=>?_⟩;obtain⟨v,hv,rv⟩:=rs.get hd;refine⟨⟨xs,v,hq.sq,hv⟩,fun y H' hy=>?_⟩;obtain⟨e,hy⟩:=hy;have:=hy xs hq.sq;rw[hv]at this;cases this;exact⟨e,rv⟩
theorem drop_cons{l:List α}{a:α}(h:l[i]?=some a):l.drop i=a::l.drop (i+1):=by
 obtain⟨hl,e⟩:=List.getElem?_eq_some_iff.mp h;rw[List.drop_eq_getElem_cons hl,e]
def forL (gt:Dat->Option cW) (gb:ax->Option Fl):List Dat->ax->Option Fl
 |[],Γ=>some (.nx Γ)
 |d::r,Γ=>(gt d).bind fun as=>(gb (setG Γ as)).bind fun fl=>match fl with
  | .nx af=>forL gt gb r af
  | .ct af=>forL gt gb r af
  | .bk af=>some (.nx af)
  | .rt v=>some (.rt v)
  | .rm v af=>some (.rm v af)
def nK (gt:Dat->Option cW) (gb:ax->Option Fl) (f:aw->Option Dat):ax->Option Fl:=fun Γ=>(f (bx Γ)).bind fun d=>(cJ d).bind fun ds=>forL gt gb ds Γ
variable {gt:Dat->Option cW} {gb:ax->Option Fl} {J:It}
theorem qB{D:Ends}{x:V}{σ:L2.St}{H1:Hp}{fl:Fl}(ov:Over K J x d ds)(G:lC K aj Av pn ((x,d)::aE) H1 σ Γ)(hf:forL gt gb ds Γ=some fl)(q:Jc K aj Av pn aE D fl):
  ∃W:Nat->Nat->L2.St->Hp->Prop,(∃m,W 0 m σ H1)/\∀i m σ H,W i m σ H->
   (J.stop i H/\D.nx σ H)\/(J.go i H/\∃N:L2.St->Hp->Prop,(∀bI H',N bI H'->∃m',m'<m/\W (i+1) m' bI H')/\∀x H',J.wy i H x H'->j8 K gt x σ H' fun fY H2=>yt K gb {D with nx:=N,ct:=N,bk:=D.nx} fY H2):=by
 refine⟨fun i m σ H=>m=ds.length-i/\i<=ds.length/\∃Γ,lC K aj Av pn ((x,d)::aE) H σ Γ/\forL gt gb (ds.drop i) Γ=some fl,⟨_,rfl,zero_le _,Γ,G,by rw[drop_zero];exact hf⟩,?_⟩;rintro i m σ H ⟨rfl,hi,Γ,⟨ad,G⟩,hf⟩;have rx:=G.aE (x,d) mem_cons_self;cases gu:ds[i]? with
 |none=>
  have hl:ds.length<=i:=List.getElem?_eq_none_iff.mp gu;rw[drop_eq_nil_of_le hl]at hf;cases hf;exact .inl ⟨(ov i H _ rx).1 hl,q σ H ⟨ad,G.pQ⟩⟩
 |some di=>
  have dJ:=dY gu;rw[drop_cons gu]at hf;obtain⟨as,e1,hf⟩:=bind_some (show(gt di).bind _=some fl from hf);obtain⟨qE,e2,hf⟩:=bind_some hf;obtain⟨go,yl⟩:=(ov i H _ rx).2 di gu;refine .inr ⟨go,fun bI H'=>∃af,lC K aj Av pn ((x,d)::aE) H' bI af/\forL gt gb (ds.drop (i+1)) af=some fl,fun bI H' ⟨af,G',h'⟩=>⟨ds.length-(i+1),by omega,rfl,by omega,af,G',h'⟩,fun y H' hy=>?_⟩;obtain⟨eH,ry⟩:=yl y H' hy;subst eH;refine⟨aR Av Γ ad,di,as,ry,e1,fun ws hw=>⟨aj,Av,pn,(x,d)::aE,setG Γ as,qE,⟨ad,GA.ia hw (fun _ z=>z) G⟩,e2,?_⟩⟩;cases qE with
  |nx af=>exact fun fY H2 G2=>⟨af,G2,hf⟩
  |ct af=>exact fun fY H2 G2=>⟨af,G2,hf⟩
  |bk af=>cases hf;exact fun fY H2 ⟨pH,G2⟩=>q fY H2 ⟨pH,G2.pQ⟩
  |rt v=>cases hf;exact q
  |rm v af=>cases hf;exact fun fY v2 H2 pH G2 r2=>q fY v2 H2 pH G2.pQ r2
def fO (lo:Int) (n:Nat):List Dat:=(List.range n).map fun(i:Nat)=>Dat.int (lo+(i:Int))
theorem sM{lo:Int}{di:Dat}(h:(fO lo n)[i]?=some di):i<n/\di=.int (lo+(i:Int)):=by
 unfold fO at h;rw[getElem?_map]at h;cases e:(List.range n)[i]? with
 |none=>rw[e]at h;cases h
 |some k=>
  rw[e]at h;cases h;obtain⟨hl,e2⟩:=List.getElem?_eq_some_iff.mp e;rw[length_range]at hl;rw[List.getElem_range]at e2;subst e2;exact⟨hl,rfl⟩
theorem oD{lo:Int}:Over K (Lj lo n) .bM .none (fO lo n):=by
 intro i H Av _;refine⟨fun h=>?_,fun di hd=>?_⟩
 ·have:(fO lo n).length=n:=by unfold fO;rw[length_map,length_range]
  show n<=i;omega
 ·obtain⟨hl,e⟩:=sM hd;refine⟨hl,fun y H' hy=>?_⟩;obtain⟨e1,e2⟩:=hy;subst e2;rw[e];exact⟨e1,.int _⟩
def ip:List Dat->Option (List Dat)
 |[.int j]=>if -(2^62)<=j/\j<2^62 then some (fO 0 j.toNat)else none
 |_=>none
variable {fs:aw->Option (List Dat)} in
def xX (rg:List Dat->Option (List Dat)) (gt:Dat->Option cW) (gb:ax->Option Fl) (fs:aw->Option (List Dat)):ax->Option Fl:=fun Γ=>(fs (bX Γ)).bind fun as=>(rg as).bind fun ds=>forL gt gb ds Γ
theorem ay.eh(h:ay K H Av vs [d]):∃v,vs=[v]/\aS K H Av v d:=by
 cases h with|cons a r=>cases r;exact⟨_,rfl,a⟩
variable {e:Dat}
theorem ay.fG(h:ay K H Av vs [d,e]):∃v u,vs=[v,u]/\aS K H Av v d/\aS K H Av u e:=by
 cases h with|cons a r=>obtain⟨u,rfl,b⟩:=r.eh;exact⟨_,u,rfl,a,b⟩
def fK (ft:aw->Option Bool) (gb:ax->Option Fl):Nat->ax->Option Fl
 |0,_=>none
 |n+1,Γ=>(ft (bX Γ)).bind fun c=>if c=true then(gb Γ).bind fun fl=>match fl with
   | .nx af=>fK ft gb n af
   | .ct af=>fK ft gb n af
   | .bk af=>some (.nx af)
   | .rt v=>some (.rt v)
   | .rm v af=>some (.rm v af)
  else some (.nx Γ)
def mh (fuel:ax->Nat) (ft:aw->Option Bool) (gb:ax->Option Fl):ax->Option Fl:=fun Γ=>fK ft gb (fuel Γ) Γ
def jY (K:Fg) (f:aw->Option (List Dat)):TE:=fun σ H Q=>∃Av ρ ds,gE H Av/\eZ K H Av σ ρ/\f ρ=some ds/\∀H1 p xs,bg H H1->H1 p=none->ay K H1 Av xs ds->Q (.ref p) (upd H1 p (.lst xs))
def gd {α:Type} (c:Prop) [Decidable c] (o:Option α):Option α:=if c then o else none
theorem Cu{c:Prop}[Decidable c]{o:Option α}{a:α}(h:gd c o=some a):c/\o=some a:=by
 unfold gd at h;split at h
 ·rename_i hc;exact⟨hc,h⟩
 ·cases h
variable {fs:aw->Option (List Dat)} in
def nr (fs:aw->Option (List Dat)):aw->Option (List Dat):=fun ρ=>(fs ρ).bind fun ds=>gd (ds.length<=sizeLine) (some ds)
def vq (i:Nat) (f:aw->Option (List Dat)):ax->Option Fl:=fun Γ=>(f (bx Γ)).map fun ds=>.nx (Γ.set i (some (.own ds)))
def sL (i:Nat) (f:aw->Option Dat):ax->Option Fl:=fun Γ=>match Γ[i]? with
 |some (some (.own ds))=>(f (bx Γ)).bind fun d=>gd (ds.length<sizeLine) (some (.nx (Γ.set i (some (.own (ds++[d]))))))
 |_=>none
def cT (N:List Str) (ds:List Dat):ax:=ds.map (fun d=>some (.a7 d))++List.replicate (N.length-ds.length) none
def jB (N:List Str) (g:ax->Option Fl):List Dat->Option Dat:=fun ds=>match g (cT N ds)with
 |some (.rt d)=>some d
 |some (.nx _)=>some .none
 |_=>none
variable {N:List Str}
theorem tf(hA:gE H Av)(r:ay K H Av vs ds)(hl:ds.length<=N.length):lC K H Av none [] H (start N vs) (cT N ds):=by
 have oI:∀(i:Nat) (s:Slot),(cT N ds)[i]?=some (some s)->s.mt=false:=fun i s h=>by
  unfold cT at h;by_cases hi:i<ds.length
  ·rw[getElem?_append_left (by rw[length_map];exact hi),getElem?_map,getElem?_eq_getElem hi]at h;cases h;rfl
  ·rw[getElem?_append_right (by rw[length_map];omega),getElem?_replicate]at h;split at h<;>cases h
 refine⟨fun _=>0,bg.refl H,hA,?_,fun i d h=>?_,fun i es h=>absurd (oI i _ h) (by simp[Slot.mt]),fun i j s _ h _ m=>absurd (oI i s h) (by rw[m];decide),fun p hp=>absurd hp (by simp),fun a es e=>(by cases e),fun i O es h=>absurd (oI i _ h) (by simp[Slot.mt])⟩
 ·unfold L2.start cT;rw[length_append,length_append,length_map,length_map,length_replicate,length_replicate,r.length]
 ·unfold cT at h;by_cases hi:i<ds.length
  ·rw[getElem?_append_left (by rw[length_map];exact hi),getElem?_map,getElem?_eq_getElem hi]at h;cases h;obtain⟨v,hv,rv⟩:=r.get (getElem?_eq_getElem hi);refine⟨v,?_,rv.weak ?_⟩
   ·unfold L2.start;rw[getElem?_append_left (by rw[length_map,r.length];exact hi),getElem?_map,hv];rfl
   ·rintro a (z|⟨j,s,e,m,_⟩)
    ·exact z
    ·exact absurd (oI j s e) (by rw[m];decide)
  ·rw[getElem?_append_right (by rw[length_map];omega),getElem?_replicate]at h;split at h<;>cases h
variable {qual:Str} {fa:Addr} {fd:FuncData}
theorem RF{k:Nat}(U:mT K x qual st fa fd)(hm:mg x=some (.ref fa))(hB:Binds K fd ps [])(S:fX N ps (bc st))(hn:ps.length=n)(hbody:∀(bG:Value) (A:Around) (outer:List Env) (s:Shared) (H:Hp) (E:XK),cw k (A.deeper (envOfC qual (bc st) s.heap.objs.size fa bG))->Qd (jG je P w K mg base N qual (bc st) fa bG A outer s H E).nZ (d8 st) g)(hF:∀ds d,ds.length=n->F ds=some d->jB N g ds=some d):Dn P w K mg base (k+1) x ps n F:=by
 have eY:ps.length<=N.length:=by have:=congrArg List.length S.pre;rw[length_take]at this;omega
 refine⟨fa,fd,U.ok S (fun vs H Q E h=>?_) (fun bG A outer s H vs Q E hr h=>?_),hm,U.kp,hB⟩
 ·obtain⟨Av,ds,d,_,r,hl,_⟩:=h;rw[r.length,hl,hn]
 ·obtain⟨Av,ds,d,hA,r,hl,hd,q⟩:=h;have dM:=hF ds d hl hd;unfold jB at dM;refine⟨_,hbody bG A outer s H E hr,?_⟩;cases hg:g (cT N ds)with
  |none=>rw[hg]at dM;cases dM
  |some fl=>
   refine⟨H,Av,none,[],cT N ds,fl,tf hA r (by omega),hg,?_⟩;rw[hg]at dM;cases fl with
   |nx Γ=>cases dM;exact fun bI H' ⟨ad,G⟩=>q _ H' G.same .bM
   |rt d'=>cases dM;exact fun v H' s r=>q v H' s r
   |bk Γ=>cases dM
   |ct Γ=>cases dM
   |rm d' Γ=>cases dM
open PySem PySem.Spec PyProof.Rows L2
open PySem.W (Dat kqdOk kqdP kqdPs kqd_lay kqd_eqv)
def lz (d e:Dat):Bool:=@decide (d=e) (Classical.propDecidable _)
theorem Ak:lz d e=true↔d=e:=@decide_eq_true_iff _ (Classical.propDecidable _)
theorem mM(h:d=e):lz d e=true:=Ak.mpr h
theorem mN(h:d≠e):lz d e=false:=eq_false_iff.mpr fun z=>h (Ak.mp z)
def iD (C:Int->Int->Prop) (g:Int->Int->Dat):Dat->Dat->Option Dat:=open Classical in fun x y=>match x,y with
 | .int i,.int j=>if C i j then some (g i j)else none
 |_,_=>none
variable {C:Int->Int->Prop}
theorem iE{g:Int->Int->Dat}{i j:Int}(h:C i j):iD C g (.int i) (.int j)=some (g i j):=by
 unfold iD;exact if_pos h
theorem Gq{g:Int->Int->Dat}{x y:Dat}(h:iD C g x y=some d):∃i j,x=.int i/\y=.int j/\C i j/\d=g i j:=by
 unfold iD at h;split at h
 ·split at h
  ·rename_i i j hc;cases h;exact⟨i,j,rfl,rfl,hc,rfl⟩
  ·cases h
 ·cases h
theorem oF{g:Int->Int->Int}:lJ K (rI C fun i j=>.int (g i j)) (iD C fun i j=>.int (g i j)):=by
 intro H Av x y dx dy d Q hA rx ry h q;obtain⟨i,j,rfl,rfl,hc,rfl⟩:=Gq h;exact⟨i,j,rx.cY,ry.cY,hc,q _ H (bg.refl H) (.int _)⟩
theorem rE{g:Int->Int->Bool}:lJ K (wJ fun i j=>.bl (g i j)) (iD (fun _ _=>True) fun i j=>.bool (g i j)):=by
 intro H Av x y dx dy d Q hA rx ry h q;obtain⟨i,j,rfl,rfl,hc,rfl⟩:=Gq h;exact⟨i,j,rx.cY,ry.cY,q _ H (bg.refl H) (.bl _)⟩
def lA:Dat->Dat->Option Dat
 | .int i,.int j=>some (.int (i+j))
 | .str x,.str y=>if x.length+y.length<=sizeLine then some (.str (x++y))else none
 |_,_=>none
def Qp (_ _:Int):Prop:=True
def Lm (_ j:Int):Prop:=j≠0
theorem BS:dZ X (binaryOp .Sub) (rI Qp fun i j=>.int (i-j)):=Ki fun _ _ _ _ _ _ _ _ q=>sub_int q
theorem BU:dZ X (binaryOp .Mult) (rI IntMulOk fun i j=>.int (i*j)):=Ki fun _ _ _ _ _ _ _ hc q=>mul_int q hc
theorem IC:dZ X (binaryOp .Mod) (rI Lm fun i j=>.int (i.fmod j)):=Ki fun _ _ _ _ _ _ _ hc q=>mod_int' hc q
abbrev Dm:Dat->Dat->Option Dat:=iD Qp fun i j=>.int (i-j)
abbrev jE:Dat->Dat->Option Dat:=iD IntMulOk fun i j=>.int (i*j)
abbrev vE:Dat->Dat->Option Dat:=iD Lm fun i j=>.int (i.fmod j)
abbrev sS:Dat->Dat->Option Dat:=iD wq fun i j=>.int (i^j.toNat)
abbrev Ge:Dat->Dat->Option Dat:=iD (fun _ _=>True) fun i j=>.bool (decide (i<j))
abbrev Sf:Dat->Dat->Option Dat:=iD (fun _ _=>True) fun i j=>.bool (decide (i<=j))
abbrev GN:Dat->Dat->Option Dat:=iD (fun _ _=>True) fun i j=>.bool (decide (j<i))
abbrev SX:Dat->Dat->Option Dat:=iD (fun _ _=>True) fun i j=>.bool (decide (j<=i))
def nL:Dat->Option Dat
 | .int i=>some (.int (-i))
 |_=>none
mutual
theorem aS.reads{pins:List (Addr×Obj)}{σ:L2.St}{H:Hp}{s:Shared}{Av:fV}(I:Inv X pins σ H s):∀{v:V} {d:Dat} (n:Nat),aS X.K H Av v d->kqdOk n d=true->∀u,RelV v u->∃as,Reads s.heap u (kqdP d) as
 |_,_,n,.bM,_,u,r=>by cases(show u=Value.none from r);rw[kqdP];exact⟨_,.none⟩
 |_,_,n,.bl b,_,u,r=>by cases(show u=Value.bool b from r);rw[kqdP];exact⟨_,.bool b⟩
 |_,_,n,.int i,_,u,r=>by obtain⟨t,q⟩:=(show ∃t,u=Value.int i t from r);subst q;rw[kqdP];exact⟨_,.int i t⟩
 |_,_,n,.str x,_,u,r=>by obtain⟨t,q⟩:=(show ∃t,u=Value.str x t from r);subst q;rw[kqdP];exact⟨_,.str x t⟩
 |_,_,0,.tup _ _,hk,_,_=>by simp[kqdOk]at hk
 |_,_,0,.lst _ _,hk,_,_=>by simp[kqdOk]at hk
 |_,_,n+1,.tup (a:=a) hq rs,hk,u,r=>by
  cases(show u=Value.ref a from r);obtain⟨ao,rv,⟨o,h1,h2,m,h3⟩,_⟩:=I.tuple hq.sq;obtain⟨as,q⟩:=ay.reads I n rs (by simpa [kqdOk]using hk) ao rv;rw[kqdP];exact⟨as,.tuple h1 h2 h3 (by simpa using q)⟩
 |_,_,n+1,.lst (a:=a) hq rs,hk,u,r=>by
  cases(show u=Value.ref a from r);obtain⟨ao,rv,⟨o,m,h1,h2,_,h3⟩,_⟩:=I.list hq.sq;obtain⟨as,q⟩:=ay.reads I n rs (by simpa [kqdOk]using hk) ao rv;rw[kqdP];exact⟨_,.list h1 h2 h3 (by simpa using q)⟩
theorem ay.reads {pins:List (Addr×Obj)} {σ:L2.St} {H:Hp} {s:Shared} {Av:fV} (I:Inv X pins σ H s):∀{vs:List V} {ds:List Dat} (n:Nat),ay X.K H Av vs ds->(∀d∈ds,kqdOk n d=true)->∀us,Vals vs us->∃as,ReadsAll s.heap us (kqdPs ds) as
 |_,_,n,.nil,_,us,r=>by cases r;rw[kqdPs];exact⟨_,.nil⟩
 |_,_,n,.cons h t,hk,us,r=>by
  cases r with
  |cons r1 r2=>
   obtain⟨as,q⟩:=aS.reads I n h (hk _ (.head _)) _ r1;obtain⟨bs,p⟩:=ay.reads I n t (fun d hm=>hk d (.tail _ hm)) _ r2;rw[kqdPs];exact⟨_,.cons q p⟩
end
theorem vP(d e:Dat)(h1:kqdOk 9 d=true)(h2:kqdOk 9 e=true):PyData.eqv (kqdP d) (kqdP e)=(lz d e):=by
 have q:=kqd_eqv 9 d e 9 h1 h2;by_cases hq:d=e
 ·rw[mM hq];exact q.mpr hq
 ·rw[mN hq];exact eq_false_iff.mpr fun x=>hq (q.mp x)
theorem n9(d:Dat)(h:kqdOk 9 d=true):SeqAt.shaped (kqdP d)=true:=by
 have l:=kqd_lay 9 d h;unfold SeqAt.shaped;rw[l.1,Bool.true_and];exact decide_eq_true (le_trans l.2 (by decide))
variable {e:Expr}
def NK (K:Fg):R2:=fun x y H Q=>∃Av d e,aS K H Av x d/\aS K H Av y e/\kqdOk 9 d=true/\kqdOk 9 e=true/\Q (.bl (lz d e)) H
def NH (K:Fg):R2:=fun x y H Q=>∃Av d e,aS K H Av x d/\aS K H Av y e/\kqdOk 9 d=true/\kqdOk 9 e=true/\Q (.bl (!(lz d e))) H
theorem ui(hu:X.A.units+64<cLine):dZ X (compareOp .Eq) (NK X.K):=by
 intro pins s σ H x y v u Q I rx ry h;obtain⟨Av,d,e,r1,r2,k1,k2,q⟩:=h;obtain⟨as,ra⟩:=r1.reads I 9 k1 v rx;obtain⟨bs,rb⟩:=r2.reads I 9 k2 u ry;exact eq_dataH ra rb (n9 d k1) (n9 e k2) hu ⟨.bl _,H,I,by rw[vP d e k1 k2];rfl,q⟩
theorem FP(hu:X.A.units+64<cLine):dZ X (compareOp .NotEq) (NH X.K):=by
 intro pins s σ H x y v u Q I rx ry h;obtain⟨Av,d,e,r1,r2,k1,k2,q⟩:=h;obtain⟨as,ra⟩:=r1.reads I 9 k1 v rx;obtain⟨bs,rb⟩:=r2.reads I 9 k2 u ry;exact ne_dataH ra rb (n9 d k1) (n9 e k2) hu ⟨.bl _,H,I,by rw[vP d e k1 k2];rfl,q⟩
def eqB:Dat->Dat->Option Bool:=open Classical in fun x y=>match x,y with
 | .bool a,.bool b=>some (a==b)
 | .str a,.str b=>some (decide (a=b))
 |d,e=>if kqdOk 9 d=true/\kqdOk 9 e=true then some (lz d e)else none
def cU:Dat->Dat->Option Dat:=fun x y=>(eqB x y).map .bool
def gk:Dat->Dat->Option Dat:=fun x y=>(eqB x y).map fun k=>.bool (!k)
theorem xr{x y:Dat}{k:Bool}(h:eqB x y=some k):(∃a b,x=.bool a/\y=.bool b/\k=(a==b))\/(∃a b,x=.str a/\y=.str b/\k=decide (a=b))\/(kqdOk 9 x=true/\kqdOk 9 y=true/\k=(lz x y)):=by
 unfold eqB at h;split at h
 ·cases h;exact .inl ⟨_,_,rfl,rfl,rfl⟩
 ·cases h;exact .inr (.inl ⟨_,_,rfl,rfl,by congr⟩)
 ·split at h
  ·rename_i hk;cases h;exact .inr (.inr ⟨hk.1,hk.2,rfl⟩)
  ·cases h
theorem uj:lJ K (fun x y H Q=>S1 x y H Q\/NK K x y H Q) cU:=by
 intro H Av x y dx dy d Q hA rx ry h q;obtain⟨k,e1,rfl⟩:=ba h;rcases xr e1 with⟨a,b,rfl,rfl,rfl⟩|⟨a,b,rfl,rfl,rfl⟩|⟨k1,k2,rfl⟩
 ·rw[rx.kP,ry.kP];exact .inl ⟨rfl,by rw[uP];exact q _ H (bg.refl H) (.bl _)⟩
 ·rw[rx.iy,ry.iy];exact .inl ⟨rfl,by
   have:decide (V.str a=V.str b)=decide (a=b):=by simp
   rw[this];exact q _ H (bg.refl H) (.bl _)⟩
 ·exact .inr ⟨Av,dx,dy,rx,ry,k1,k2,q _ H (bg.refl H) (.bl _)⟩
theorem FU:lJ K (fun x y H Q=>RZ x y H Q\/NH K x y H Q) gk:=by
 intro H Av x y dx dy d Q hA rx ry h q;obtain⟨k,e1,rfl⟩:=ba h;rcases xr e1 with⟨a,b,rfl,rfl,rfl⟩|⟨a,b,rfl,rfl,rfl⟩|⟨k1,k2,rfl⟩
 ·rw[rx.kP,ry.kP];exact .inl ⟨rfl,by rw[uP];exact q _ H (bg.refl H) (.bl _)⟩
 ·rw[rx.iy,ry.iy];exact .inl ⟨rfl,by
   have:decide (V.str a=V.str b)=decide (a=b):=by simp
   rw[this];exact q _ H (bg.refl H) (.bl _)⟩
 ·exact .inr ⟨Av,dx,dy,rx,ry,k1,k2,q _ H (bg.refl H) (.bl _)⟩
def Ee:List Dat->Option Dat
 |[.int i]=>some (.int (if i<0 then -i else i))
 |_=>none
theorem Hu:nC K (fun xs H Q=>∃i,xs=[.int i]/\Q (.int (if i<0 then -i else i)) H) Ee:=by
 intro H Av xs ds d Q hA r h q;unfold Ee at h;split at h
 ·cases h;obtain⟨v,rfl,rv⟩:=r.eh;rw[rv.cY];exact⟨_,rfl,q _ H (bg.refl H) (.int _)⟩
 ·cases h
def i6:List Dat->Option Dat
 |[.str z]=>if z.length<=sizeLine then some (.int z.length)else none
 |[.list ds]=>some (.int ds.length)
 |[.tuple ds]=>some (.int ds.length)
 |_=>none
theorem Ht:nC K (fun xs H Q=>∃x n,xs=[x]/\Qg K x H n/\Q (.int n) H) i6:=by
 intro H Av xs ds d Q hA r h q;unfold i6 at h;split at h
 ·split at h
  ·rename_i hz;cases h;obtain⟨v,rfl,rv⟩:=r.eh;rw[rv.iy];exact⟨_,_,rfl,⟨hz,rfl⟩,q _ H (bg.refl H) (.int _)⟩
  ·cases h
 ·cases h;obtain⟨v,rfl,rv⟩:=r.eh;obtain⟨a,ys,rfl,hq,rs⟩:=rv.gm;exact⟨_,_,rfl,.inl ⟨ys,hq.sq,rfl⟩,by rw[rs.length];exact q _ H (bg.refl H) (.int _)⟩
 ·cases h;obtain⟨v,rfl,rv⟩:=r.eh;obtain⟨a,ys,rfl,hq,rs⟩:=rv.fT;exact⟨_,_,rfl,.inr ⟨ys,hq.sq,rfl⟩,by rw[rs.length];exact q _ H (bg.refl H) (.int _)⟩
 ·cases h
def N8:Dat->Option String
 | .none=>some "NoneType"| .bool _=>some "bool"| .int _=>some "int"| .str _=>some "str"| .tuple _=>some "tuple"| .list _=>some "list"
 | .bytes _=>none
theorem lV(K:Fg)(t T:String)(ht:t∈["NoneType","bool","int","str","tuple","list"])(hT:T∈["bool","int","str","tuple","list"]):PySem.W.kitOne K (.type t) (.type T)=some (decide (t=T) || (decide (t="bool")&&decide (T="int"))):=by
 simp only[mem_cons,not_mem_nil,or_false]at ht hT;rcases ht with rfl|rfl|rfl|rfl|rfl|rfl<;>rcases hT with rfl|rfl|rfl|rfl|rfl<;>rfl
def gP (T:String):Dat->Option Dat:=fun d=>(N8 d).bind fun t=>if T∈["bool","int","str","tuple","list"]then some (.bool (decide (t=T) || (decide (t="bool")&&decide (T="int"))))else none
theorem AX(T:String):ko X (.builtin "isinstance") (fun xs H Q=>∃Av x d dd,xs=[x,.ty T]/\aS X.K H Av x d/\gP T d=some (.bool dd)/\Q (.bl dd) H):=by
 intro pins s σ H xs us Q I r h;obtain⟨Av,x,d,dd,rfl,rd,hi,q⟩:=h;obtain⟨u,t,rfl,ru,rt⟩:=vals2 r;cases(show t=Value.type T from rt);obtain⟨ty,e1,hi⟩:=bind_some (show(N8 d).bind _=some (Dat.bool dd)from hi);split at hi
 ·rename_i hT;have gX:=(Option.some.inj hi).symm;injection gX with vJ;have fin:∀tk,EP X pins σ Q (.bool dd) {s with toks:=tk}:=fun tk=>⟨.bl dd,H,I.tok tk,rfl,q⟩;cases rd with
  |bM=>cases e1;cases(show u=Value.none from ru);exact kia_one PySem.W.kitx_none I.pg True.intro (by rw[lV _ _ _ (by simp) hT,vJ]) (fun z=>nomatch z) fin
  |bl y=>cases e1;cases(show u=Value.bool y from ru);exact kia_one PySem.W.kitx_bool I.pg True.intro (by rw[lV _ _ _ (by simp) hT,vJ]) (fun z=>nomatch z) fin
  |int i=>cases e1;obtain⟨t,z⟩:=(show ∃t,u=Value.int i t from ru);cases z;exact kia_one PySem.W.kitx_int I.pg True.intro (by rw[lV _ _ _ (by simp) hT,vJ]) (fun z=>nomatch z) fin
  |str y=>cases e1;obtain⟨t,z⟩:=(show ∃t,u=Value.str y t from ru);cases z;exact kia_one PySem.W.kitx_str I.pg True.intro (by rw[lV _ _ _ (by simp) hT,vJ]) (fun z=>nomatch z) fin
  | @lst a xs ds hq rs=>
   cases e1;cases(show u=Value.ref a from ru);obtain⟨ao,_,⟨o,m,h1,h2,_⟩,_⟩:=I.list hq.sq;exact kia_one PySem.W.kitx_list I.pg ⟨o,h1,h2⟩ (by rw[lV _ _ _ (by simp) hT,vJ]) (fun z=>nomatch z) fin
  | @tup a xs ds hq rs=>
   cases e1;cases(show u=Value.ref a from ru);obtain⟨ao,_,⟨o,h1,h2,_⟩,_⟩:=I.tuple hq.sq;exact kia_one PySem.W.kitx_tuple I.pg ⟨o,h1,h2⟩ (by rw[lV _ _ _ (by simp) hT,vJ]) (fun z=>nomatch z) fin
 ·cases hi
theorem IS{r:Dat}(h:gP T d=some r):∃k,r=.bool k:=by
 obtain⟨t,e1,h⟩:=bind_some (show(N8 d).bind _=some r from h);split at h
 ·cases h;exact⟨_,rfl⟩
 ·cases h
def bz:Dat->Dat->Option Dat:=fun x y=>match x,y with
 | .list ds,.int i=>fS ds i
 | .tuple ds,.int i=>fS ds i
 |_,_=>none
theorem ay.fS{i:Int}(r:ay K H Av vs ds)(h:L2.fS ds i=some d):∃v,L2.fS vs i=some v/\aS K H Av v d:=by
 unfold L2.fS at h ⊢;rw[r.length];obtain⟨j,e1,h⟩:=bind_some h;obtain⟨v,hv,rv⟩:=r.get h;exact⟨v,by rw[e1];exact hv,rv⟩
def cutD (ds:List Dat) (lo hi:Option Int):List Dat:=(ds.drop (HT.bY ds.length 0 lo)).take (HT.bY ds.length ds.length hi-HT.bY ds.length 0 lo)
def RS (K:Fg) (f:aw->Option (Option Int)):TO:=fun σ H Q=>∃Av ρ o,gE H Av/\eZ K H Av σ ρ/\f ρ=some o/\∀H',bg H H'->Q o H'
abbrev Ts (X:Cx) (e:Option Expr) (f:aw->Option (Option Int)):Prop:=PO X e (RS X.K f)
theorem BO{o:Option Expr}{t t':TO}(h:PO X o t)(m:∀σ H Q,t' σ H Q->t σ H Q):PO X o t':=fun pins s σ H Q I q=>h pins s σ H Q I (m σ H Q q)
def qL:Dat->Option Int
 | .int i=>some i
 |_=>none
theorem Ax{b:Int}(h:qL d=some b):d=.int b:=by
 cases d<;>first|(cases h;done)|(simp only[qL,Option.some.injEq]at h;rw[h])
def oH:aw->Option (Option Int):=fun _=>some none
def oG (f:aw->Option Dat):aw->Option (Option Int):=fun ρ=>(f ρ).bind fun d=>(qL d).map some
def dF (bh:List (Option Nat)) (ρ:aw):aw:=bh.map fun o=>o.bind fun j=>(ρ[j]?).join
def cf (gt:Dat->Option cW) (ft:aw->Option Bool) (fe:aw->Option Dat) (pN:aw):List Dat->Option (List Dat)
 |[]=>some []
 |d::r=>(gt d).bind fun as=>(ft (kC pN as)).bind fun c=>if c=true then(fe (kC pN as)).bind fun v=>(cf gt ft fe pN r).map (v::·)else cf gt ft fe pN r
def nt (bh:List (Option Nat)) (gt:Dat->Option cW) (ft:aw->Option Bool) (fe:aw->Option Dat) (fi:aw->Option Dat):aw->Option (List Dat):=fun ρ=>(fi ρ).bind fun d=>(cJ d).bind fun ds=>if ds.length<sizeLine then cf gt ft fe (dF bh ρ) ds else none
theorem eZ.bh{σ:L2.St}(h:eZ K H Av σ ρ)(bh:List (Option Nat)):eZ K H Av (bW bh σ) (dF bh ρ):=fun i d e=>by
 unfold dF at e;rw[getElem?_map]at e;cases hc:bh[i]? with
 |none=>rw[hc]at e;cases e
 |some o=>
  rw[hc]at e;cases o with
  |none=>cases e
  |some j=>
   have e2:some ((ρ[j]?).join)=some (some d):=e;obtain⟨v,hv,r⟩:=h j d (join_some (Option.some.inj e2));refine⟨v,?_,r⟩;unfold bW;rw[getElem?_map,hc];show some ((σ[j]?).join)=_;rw[hv];rfl
theorem eZ.ia{σ:L2.St}(h:kj K H Av ws as)(hl:σ.length=ρ.length)(E:eZ K H Av σ ρ):eZ K H Av (oz σ ws) (kC ρ as):=by
 induction h generalizing σ ρ with
 |nil=>exact E
 | @cons i v d vs ds h r ih=>
  refine ih (σ:=σ.set i (some v)) (ρ:=ρ.set i (some d)) (by rw[length_set,length_set];exact hl) fun j d' e=>?_;have dJ:=dY e;rw[length_set]at dJ;rcases aV e with⟨e1,q⟩|⟨e1,q⟩
  ·subst e1;cases q;exact⟨v,getElem?_set_self (by rw[hl];exact dJ),h⟩
  ·obtain⟨u,a,b⟩:=E j d' q;exact⟨u,by rw[getElem?_set_ne (Ne.symm e1)];exact a,b⟩
theorem eI.refl:∀(a:L2.St),eI a a
 |[]=>trivial
 |none::a=>eI.refl a
 |some v::a=>⟨rfl,eI.refl a⟩
theorem eI.set:∀{a b:L2.St} {i:Nat} {x:Option V},eI a b->a[i]?=some none->eI a (b.set i x)
 |none::a,_::b,0,x,h,_=>h
 |some v::a,_::b,0,x,h,e=>by simp at e
 |none::a,_::b,i+1,x,h,e=>eI.set (a:=a) (b:=b) (i:=i) h (by simpa using e)
 |some v::a,_::b,i+1,x,h,e=>⟨h.1,eI.set (a:=a) (b:=b) (i:=i) h.2 (by simpa using e)⟩
 |[],_,_,_,_,e=>by simp at e
 |none::_,[],_,_,h,_=>h.elim
 |some _::_,[],_,_,h,_=>h.elim
theorem eI.ia{a b:L2.St}(h:kj K H Av ws as)(hs:∀p∈as,a[p.1]?=some none)(l:eI a b):eI a (oz b ws):=by
 induction h generalizing b with
 |nil=>exact l
 | @cons i v d vs ds h r ih=>exact ih (fun p hp=>hs p (mem_cons_of_mem _ hp)) (eI.set l (hs _ mem_cons_self))
def kH (gt:Dat->Option cW) (bh:List (Option Nat)):Prop:=∀d as,gt d=some as->∀p∈as,bh[p.1]?=some none
theorem d4{bh:List (Option Nat)}(h:bh[i]?=some none):kH (aName i) bh:=fun d as e p hp=>by
 cases e;have:p=(i,d):=by simpa using hp
 subst this;exact h
theorem Br{bh:List (Option Nat)}{fe fi:aw->Option Dat}(ht:kH gt bh):∀σ H Q,jY K (nt bh gt ft fe fi) σ H Q->qY bh (OF K (tF K fi)) (j8 K gt) (mZ K ft) (tF K fe) σ H Q:=by
 rintro σ H Q ⟨Av,ρ,out,hA,hE,hf,q⟩;obtain⟨d,e1,hf⟩:=bind_some hf;obtain⟨ds,e2,hf⟩:=bind_some hf;split at hf
 ·rename_i hz;refine⟨Av,ρ,d,hA,hE,e1,fun x H1 s1 r=>?_⟩;have main:∀J:It,Over K J x d ds->∃W:Nat->Nat->List V->Hp->Prop,(∃m,W 0 m [] H1)/\∀i m ys H,W i m ys H->ys.length<sizeLine/\
    ((J.stop i H/\∀D,H D=none->Q (.ref D) (upd H D (.lst ys)))\/
     (J.go i H/\∀x H',J.wy i H x H'->j8 K gt x (bW bh σ) H' fun fY H2=>eI (bW bh σ) fY/\mZ K ft fY H2 fun b H3=>if b=true then tF K fe fY H3 fun v H4=>∃m',m'<m/\W (i+1) m' (ys++[v]) H4 else ∃m',m'<m/\W (i+1) m' ys H3)):=by
   intro J ov;refine⟨fun i m ys H2=>m=ds.length-i/\i<=ds.length/\bg H1 H2/\∃o1 o2,ay K H2 Av ys o1/\o1.length<=i/\cf gt ft fe (dF bh ρ) (ds.drop i)=some o2/\out=o1++o2,
    ⟨_,rfl,zero_le _,bg.refl _,[],out,.nil,le_refl _,by rw[drop_zero];exact hf,rfl⟩,?_⟩
   rintro i m ys H2 ⟨rfl,hi,s2,o1,o2,ro,hl,hc,rfl⟩;refine⟨by have:=ro.length;omega,?_⟩;have rx:=r.same s2;cases gu:ds[i]? with
   |none=>
    have hle:ds.length<=i:=List.getElem?_eq_none_iff.mp gu;rw[drop_eq_nil_of_le hle]at hc;cases hc;refine .inl ⟨(ov i H2 _ rx).1 hle,fun D hD=>q H2 D ys (s1.trans s2) hD (by rw[append_nil];exact ro)⟩
   |some di=>
    have dJ:=dY gu;rw[drop_cons gu]at hc;obtain⟨as,a1,hc⟩:=bind_some (show(gt di).bind _=some o2 from hc);obtain⟨k,a2,hc⟩:=bind_some hc;obtain⟨go,yl⟩:=(ov i H2 _ rx).2 di gu;refine .inr ⟨go,fun y H' hy=>?_⟩;obtain⟨eH,ry⟩:=yl y H' hy;subst eH;refine⟨Av,di,as,ry,a1,fun ws hw=>?_⟩;have cs:∀p∈as,(bW bh σ)[p.1]?=some none:=fun p hp=>by
     unfold bW;rw[getElem?_map,ht di as a1 p hp];rfl
    have A2:=hA.same (s1.trans s2);have E2:eZ K H' Av (oz (bW bh σ) ws) (kC (dF bh ρ) as):=eZ.ia hw (by unfold bW dF;rw[length_map,length_map]) ((hE.same (s1.trans s2)).bh bh);refine⟨eI.ia hw cs (eI.refl _),Av,_,k,A2,E2,a2,fun H3 s3=>?_⟩;cases k with
    |false=>
     rw[if_neg Bool.false_ne_true]at hc ⊢;exact⟨ds.length-(i+1),by omega,rfl,by omega,s2.trans s3,o1,o2,ro.same s3,by omega,hc,rfl⟩
    |true=>
     rw[if_pos rfl]at hc ⊢;obtain⟨dv,a3,hc⟩:=bind_some hc;obtain⟨o3,a4,hc⟩:=ba hc;subst hc;refine⟨Av,_,dv,A2.same s3,E2.same s3,a3,fun v H4 s4 rv=>⟨ds.length-(i+1),by omega,rfl,by omega,s2.trans (s3.trans s4),o1++[dv],o3,(ro.same (s3.trans s4)).append (.cons rv .nil),?_,a4,?_⟩⟩
     ·rw[length_append,length_singleton];omega
     ·rw[append_assoc];rfl
  cases d with
  |list dN=>
   cases e2;obtain⟨a,xs,rfl,hq,rs⟩:=r.gm;exact⟨a,rfl,.inl ⟨⟨xs,hq.sq⟩,main _ qm⟩⟩
  |tuple dN=>
   cases e2;obtain⟨a,xs,rfl,hq,rs⟩:=r.fT;exact⟨a,rfl,.inr ⟨⟨xs,hq.sq⟩,main _ sT⟩⟩
  |_=>cases e2
 ·cases hf
def fL (f:aw->Option (List Dat)):aw->Option Dat:=fun ρ=>(f ρ).map .list
def gL:aw->Option Bool:=fun _=>some true
open PySem PySem.Spec PyProof.Rows L2
open PySem.W (Dat kqdOk)
variable {fs:aw->Option (List Dat)} in
def HZ (i j:Nat) (fs:aw->Option (List Dat)):ax->Option Fl:=fun Γ=>(fs (bx Γ)).bind fun ds=>match ds with
 |[d,d']=>some (.nx ((Γ.set i (some (.a7 d))).set j (some (.a7 d'))))
 |_=>none
variable {scope:Scope} {N':List Str}
theorem jT(hf:∀y∈scope.names,y.2≠.free:=by decide +kernel)(hc:∀y∈scope.names,y.2≠.cell:=by decide +kernel)(hk:scope.kind=.function:=by rfl)(hn:∀y∈scope.names,y.2=.local->scope.names.lookup y.1=some .local:=by decide +kernel)(nd:N'.Nodup:=by decide +kernel):pK X scope [] N' (N'.map fun _=>none):=by
 have rl:(relabel scope X.env).names=scope.names:=by
  unfold relabel;exact map_eq_self (l:=scope.names) fun x hx=>by
   obtain⟨n,k⟩:=x;have:(k==NameKind.free)=false:=by simpa using hf _ hx
   simp[this]
 refine⟨closureFor_none hf,hc,hk,hn,nd,by rw[length_map],fun x c h=>(by cases h),fun x h=>?_,fun i x j e1 e2=>?_⟩
 ·rw[rl]at h;rcases h with h|h
  ·exact absurd rfl (hc _ (PySem.mem_of_lookup h))
  ·exact absurd rfl (hf _ (PySem.mem_of_lookup h))
 ·rw[getElem?_map]at e2;cases h:N'[i]? with
  |none=>rw[h]at e2;cases e2
  |some y=>rw[h]at e2;cases e2
def xV (K:Fg):Sp:=fun vs H Q _=>∃(a:Addr) (ns:List Int),vs=[.ref a]/\fF K H a (ns.map V.int)/\ns.length<=63/\∀H',Q (.bl true) H'
variable {k:Nat}
theorem Ov{f:Addr}(h:gG P w K mg base je k f fd ps (EN K 1 F))(hF:∀ns:List Int,ns.length<=63->F [.list (ns.map .int)]=some (.bool true)):gG P w K mg base je k f fd ps (xV K):=
 h.imp fun vs H Q E aQ=>by
  obtain⟨a,ns,e,hS,hl,q⟩:=aQ;subst e;refine⟨fun _=>False,[.list (ns.map .int)],.bool true,fun _ z=>z.elim,.cons (.lst ?_ (ay.ints ns)) .nil,rfl,hF ns hl,fun v H' _ r=>by rw[r.kP];exact q H'⟩;rcases hS with h|h
  ·exact .inl ⟨h,fun z=>z⟩
  ·exact .inr h
theorem Qw{l:PySem.W.OpenLaw}{q:Program}{loose:List Str}{XP:(Str->Option Value)->Heap->Prop}{YP:World->Heap->Prop}{d:DefRec}{K:Params->Fg}(hk:k<=100)(hn:l.most=some 63)(GF:d.params.defaults=[])(hY:∀(w:World) (h:Heap),YP w h->(K w.params).In h)(F:∀(w:World) (mg:Str->Option Value) (fa:Addr) (h:Heap),(K w.params).In h->h.Ns mainGlobals mg->mg d.name=some (.ref fa)->
   ∃fd:FuncData,(∀(s:Shared) (u:Value),BindsTo s fd ⟨[u],[]⟩ [("script",u)])/\∀base:Heap,(K w.params).In base->base.Ns mainGlobals mg->gG l.prog w (K w.params) mg base je 100 fa fd ["script"] (xV (K w.params))):
  PySem.W.WalkO q loose XP YP l.row.toRowW d [] (fun f vs=>PySem.call f vs):=
 L2.Lo (n:=63) (k:=100) (x:="script") (CX:=fun _=>je) (sp:=fun w=>xV (K w.params)) hn (by decide) GF ⟨rfl,by decide,by decide⟩ hY F (fun _ _ a ns hl _ hS=>⟨a,ns,rfl,hS,hl,fun _=>rfl⟩) fun _ _ _ _ _ z=>z
open PySem PySem.Spec PyProof.Rows L2
open PySem.W (Dat kqdOk)
def K6 (K:Fg):R2:=fun x y H Q=>∃l b xs zs,x=.ref l/\y=.ref b/\fF K H l xs/\fF K H b zs/\xs.length+zs.length<=sizeLine/\∀p,H p=none->Q (.ref p) (upd H p (.lst (xs++zs)))
theorem BV:dZ X (binaryOp .Add) (K6 X.K):=by
 intro pins s σ H x y v u Q I rx ry h;obtain⟨l,b,xs,zs,rfl,rfl,hH,hB,hz,q⟩:=h;cases rx;cases ry;obtain⟨ao,r,⟨⟨cls,dd,data,sl⟩,n,ho,hc,SF,hd⟩,_⟩:=I.list hH;obtain⟨jg,r2,⟨⟨Vh,Hf,data2,ET⟩,n2,qy,zR,hd02,hd2⟩,_⟩:=I.list hB;simp only at hc hd zR hd2;subst hc hd zR hd2;have h1:=r.length;have h2:=r2.length;have e:ao.toArray++jg.toArray=(ao++jg).toArray:=by simp
 refine PySem.concat_meets ⟨_,ho,rfl⟩ ⟨_,qy,rfl⟩ PySem.noFill_list_add PySem.seq_list_add PySem.F.slot_list_add PySem.F.entry_list_add (PySem.F.args_list_add_2 _ _) (list_addW l b ao.toArray jg.toArray n n2 dd Hf sl ET (by rw[size_toArray,size_toArray];omega)) ⟨ho,qy,?_⟩;rw[e];exact⟨.ref _,_,I.Oj (t':=s.toks) (r.append r2) (by rw[length_append];omega),rfl,q _ I.fresh⟩
open PySem PySem.Spec PyProof.Rows L2
open PySem.W (Dat kqdOk)
def oA (i:Nat) (f:aw->Option (List Dat)):ax->Option Fl:=fun Γ=>(f (bx Γ)).map fun ds=>.nx (Γ.set i (some (.a7 (.list ds))))
theorem wW{f:Str->Addr}:∀{fv:List Str} {y:Str},y∈fv->(fv.map fun x=>(x,f x)).lookup y=some (f y)
 |x::r,y,h=>by
  rw[map_cons,List.lookup_cons];by_cases e:y=x
  ·subst e;simp
  ·have:(y==x)=false:=by simpa using e
   rw[this];exact wW (by simpa [e]using h)
theorem qo{f:Str->Addr}:∀{fv:List Str} {y:Str} {c:Addr},(fv.map fun x=>(x,f x)).lookup y=some c->y∈fv/\c=f y
 |[],y,c,h=>by simp at h
 |x::r,y,c,h=>by
  rw[map_cons,List.lookup_cons]at h;by_cases e:y=x
  ·subst e;simp at h;exact⟨mem_cons_self,h.symm⟩
  ·have:(y==x)=false:=by simpa using e
   rw[this]at h;obtain⟨h1,h2⟩:=qo h;exact⟨mem_cons_of_mem _ h1,h2⟩
theorem fI{tn fv:List Str}{js:List Nat}(pA:closureFor scope X.env=pure (fv.map fun x=>(x,(X.env.cells.lookup x).getD 0)))(hf:∀y∈scope.names,y.2=.free->y.1∈fv)(hc:∀y∈scope.names,y.2≠.cell)(hk:scope.kind=.function)(hn:∀y∈scope.names,y.2=.local->scope.names.lookup y.1=some .local)(nd:(tn++fv).Nodup)(hl:fv.length=js.length)(hs:∀x∈fv,∃c,X.env.cells.lookup x=some c)(hj:∀p∈fv.zip js,X.N[p.2]?=some p.1/\mS X.env.scope p.1/\((relabel scope X.env).names.lookup p.1=some .cell\/(relabel scope X.env).names.lookup p.1=some .free)/\X.env.scope.names.lookup p.1≠some .local):
  pK X scope (fv.map fun x=>(x,(X.env.cells.lookup x).getD 0)) (tn++fv) ((tn.map fun _=>none)++js.map some):=by
 refine⟨pA,hc,hk,hn,nd,by rw[length_append,length_append,length_map,length_map,hl],fun y c h=>?_,fun y h=>?_,fun i x j e1 e2=>?_⟩
 ·obtain⟨h1,h2⟩:=qo h;obtain⟨c',e⟩:=hs y h1;rw[h2,e];rfl
 ·have hm:(y,NameKind.cell)∈(relabel scope X.env).names\/(y,NameKind.free)∈(relabel scope X.env).names:=h.elim (fun z=>.inl (PySem.mem_of_lookup z)) fun z=>.inr (PySem.mem_of_lookup z);have:y∈fv:=by
   rcases hm with hm|hm;all_goals
    obtain⟨⟨n,k⟩,hp,e⟩:=mem_map.mp hm;dsimp only at e;split at e
    ·rename_i Ry;have hk:k=.free:=by
      cases k<;>first|rfl|(simp at Ry)
     first
      |(cases e;done)
      |(cases e;exact hf _ hp hk)
    ·first
      |(cases e;done)
      |(cases e;exact absurd rfl (hc _ hp))
      |(cases e;exact hf _ hp rfl)
  exact⟨_,wW this⟩
 ·by_cases hi:i<tn.length
  ·rw[getElem?_append_left (by rw[length_map];exact hi),getElem?_map,getElem?_eq_getElem hi]at e2;cases e2
  ·rw[getElem?_append_right (by omega)]at e1;rw[getElem?_append_right (by rw[length_map];omega),length_map,getElem?_map]at e2;cases ej:js[i-tn.length]? with
   |none=>rw[ej]at e2;cases e2
   |some j'=>
    rw[ej]at e2;cases e2;refine hj (x,j) ?_;have h1:=(List.getElem?_eq_some_iff.mp e1);have h2:=(List.getElem?_eq_some_iff.mp ej);have h3:(fv.zip js)[i-tn.length]?=some (x,j):=by rw[List.getElem?_zip_eq_some];exact⟨e1,ej⟩
    exact mem_of_getElem? h3
open PySem PySem.Spec PyProof.Rows L2
open PySem.W (Dat kqdOk)
def kN:Dat->Bool
 | .none=>true| .bool _=>true| .int _=>true| .str _=>true
 |_=>false
def CD:Dat->Dat->Bool
 | .none,.none=>true
 | .bool a,.bool b=>a==b
 | .bool a,.int b=>(if a then 1 else 0)==b
 | .int a,.bool b=>a==(if b then 1 else 0)
 | .int a,.int b=>a==b
 | .str a,.str b=>a==b
 |_,_=>false
theorem aS.flat(r:aS K H Av v d)(h:kN d=true):kM v=true:=by
 cases r<;>first|rfl|cases h
theorem aS.CD{u:V}{e:Dat}(r:aS K H Av v d)(q:aS K H Av u e)(h:kN d=true)(k:kN e=true):uM v u=L3.CD d e:=by
 cases r<;>cases q<;>first|rfl|cases h|cases k
theorem ay.flat{K:Fg}{H:Hp}{Av:fV}:∀{vs:List V} {ds:List Dat},ay K H Av vs ds->ds.all kN=true->vs.all kM=true
 |_,_,.nil,_=>rfl
 |_,_,.cons r t,h=>by
  simp only[all_cons,and_eq_true]at h ⊢;exact⟨r.flat h.1,t.flat h.2⟩
theorem ay.OD{K:Fg}{H:Hp}{Av:fV}{x:V}{dx:Dat}(rx:aS K H Av x dx)(hx:kN dx=true):∀{vs:List V} {ds:List Dat},ay K H Av vs ds->ds.all kN=true->zA x vs=ds.any fun y=>CD y dx
 |_,_,.nil,_=>rfl
 |_,_,.cons r t,h=>by
  simp only[all_cons,and_eq_true]at h;unfold zA;rw[any_cons,any_cons,r.CD rx h.1 hx];have:=ay.OD rx hx t h.2;unfold zA at this;rw[this]
def Sl:Dat->Dat->Option Bool:=fun x y=>match y with
 | .list ds=>if kN x=true/\ds.all kN=true then some (ds.any fun z=>CD z x)else none
 | .tuple ds=>if kN x=true/\ds.all kN=true then some (ds.any fun z=>CD z x)else none
 | .str j=>match x with
  | .str i=>some (!(Builtin.Str.occurrences j i 0 j.length 1).isEmpty)
  |_=>none
 |_=>none
def inD:Dat->Dat->Option Dat:=fun x y=>(Sl x y).map .bool
theorem O6:lJ K (fun x y H Q=>S0 K false x y H Q\/(∃i j,x=.str i/\y=.str j/\Q (.bl (!(Builtin.Str.occurrences j i 0 j.length 1).isEmpty)) H)) inD:=by
 intro H Av x y dx dy d Q hA rx ry h q;obtain⟨k,e1,rfl⟩:=ba h;unfold Sl at e1;split at e1
 ·split at e1
  ·rename_i ds hc;cases e1;obtain⟨p,xs,rfl,hq,rs⟩:=ry.gm;refine .inl ⟨p,xs,rfl,.inl hq.sq,rx.flat hc.1,rs.flat hc.2,?_⟩;show Q (.bl (zA x xs)) H;rw[ay.OD rx hc.1 rs hc.2];exact q _ H (bg.refl H) (.bl _)
  ·cases e1
 ·split at e1
  ·rename_i ds hc;cases e1;obtain⟨p,xs,rfl,hq,rs⟩:=ry.fT;refine .inl ⟨p,xs,rfl,.inr hq.sq,rx.flat hc.1,rs.flat hc.2,?_⟩;show Q (.bl (zA x xs)) H;rw[ay.OD rx hc.1 rs hc.2];exact q _ H (bg.refl H) (.bl _)
  ·cases e1
 ·split at e1
  ·cases e1;exact .inr ⟨_,_,rx.iy,ry.iy,q _ H (bg.refl H) (.bl _)⟩
  ·cases e1
 ·cases e1
def oN:Dat->Bool
 | .none=>true
 |_=>false
theorem aS.UB(r:aS K H Av v d):decide (v=.bM)=oN d:=by cases r<;>rfl
theorem BW:lJ K (fun x y H Q=>y=.bM/\Q (.bl (decide (x=.bM))) H) (fun x y=>if oN y=true then some (.bool (oN x))else none):=by
 intro H Av x y dx dy d Q hA rx ry h q;dsimp only at h;split at h
 ·rename_i hy;cases h;have e:dy=.none:=by cases dy<;>first|rfl|cases hy
  subst e;exact⟨ry.Rj,by rw[rx.UB];exact q _ H (bg.refl H) (.bl _)⟩
 ·cases h
def ka:Dat->Dat->Option Dat:=fun x y=>if oN y=true then some (.bool (oN x))else none
def uk:List Dat->Option (List Dat)
 |[.list ds]=>some ds
 |[.tuple ds]=>some ds
 |_=>none
def fM:List Dat->Option Dat
 |[.list ds]=>some (.tuple ds)
 |[.tuple ds]=>some (.tuple ds)
 |_=>none
theorem sj:nC K (fun xs H Q=>∃p ys,xs=[.ref p]/\((fF K H p ys/\∀l,H l=none->Q (.ref l) (upd H l (.tup ys)))\/(jb K H p ys/\Q (.ref p) H))) fM:=by
 intro H Av xs ds d Q hA r h q;unfold fM at h;split at h
 ·cases h;obtain⟨v,rfl,rv⟩:=r.eh;obtain⟨p,xs,rfl,hq,rs⟩:=rv.gm;exact⟨p,xs,rfl,.inl ⟨hq.sq,fun l hl=>q _ _ (bV hl _) (.sV hA hl rs)⟩⟩
 ·cases h;obtain⟨v,rfl,rv⟩:=r.eh;have EX:=rv;obtain⟨p,xs,rfl,hq,rs⟩:=rv.fT;exact⟨p,xs,rfl,.inr ⟨hq.sq,q _ H (bg.refl H) EX⟩⟩
 ·cases h
open PySem PySem.Spec PyProof.Rows L2
open PySem.W (Dat kqdOk)
def ModT (K:Fg) (a:Addr) (ds:List Dat):Prop:=∃(xs:List V) (o:Obj) (ao:Array Value) (n:Nat),K.lookup a=some o/\o.cls=.type "tuple"/\o.data=.seq ao n/\ao.size<=sizeLine/\Vals xs ao.toList/\∀H Av,ay K H Av xs ds
open PySem PySem.Spec PyProof.Rows L2
open PySem.W (Dat kqdOk)
theorem aR.set_own(hi:Γ[i]?=some (some (.own ds))):∀a,aR Av (Γ.set i (some (.own es))) ad a->aR Av Γ ad a:=by
 rintro a (z|⟨j,fs,e,m,q⟩)
 ·exact .inl z
 ·rcases aV e with⟨e1,_⟩|⟨e1,q1⟩
  ·subst e1;exact .inr ⟨j,_,hi,rfl,q⟩
  ·exact .inr ⟨j,fs,q1,m,q⟩
theorem aR.gi(hi:Γ[i]?=some (some (.own ds))):∀a,aR Av Γ ad a->aR Av (Γ.set i (some (.own es))) ad a:=by
 rintro a (z|⟨j,fs,e,m,q⟩)
 ·exact .inl z
 ·by_cases e1:j=i
  ·subst e1;exact .inr ⟨j,.own es,getElem?_set_self (dY hi),rfl,q⟩
  ·exact .inr ⟨j,fs,by rw[getElem?_set_ne (Ne.symm e1)];exact e,m,q⟩
theorem IP(hi:Γ[i]?=some (some (.own ds)))(k:∀b o,H b=some o->b≠ad i->H' b=some o):lB H (aR Av Γ ad) H' (aR Av (Γ.set i (some (.own es))) ad):=
 fun b o h n=>⟨k b o h fun z=>n (.inr ⟨i,_,hi,rfl,z.symm⟩),fun z=>n (aR.set_own hi b z)⟩
variable {ys:List V}
theorem GA.lend(G:GA K aj Av pn aE H σ Γ ad)(hi:Γ[i]?=some (some (.own ds)))(k:∀b o,H b=some o->b≠ad i->H' b=some o)(hn:H' (ad i)=some (.lst ys))(r:ay K H' (aR Av Γ ad) ys es):
  GA K aj Av pn aE H' σ (Γ.set i (some (.own es))) ad:=by
 have dJ:i<Γ.length:=dY hi;have kp:=IP (Av:=Av) (es:=es) hi k;obtain⟨N2,g1,g2,g3,g4⟩:=G.own i ds hi;refine⟨fun b o h=>k b o (G.same b o h) (bB h g4),G.ja,by rw[length_set];exact G.len,fun j d' h=>?_,fun j fs h=>?_,fun j l fs gs h1 h2 m1 m2 e=>?_,fun p hp=>(G.aE p hp).mono kp,fun a fs e h=>?_,fun j O fs h=>?_⟩
 ·rcases aV h with⟨_,q⟩|⟨_,q⟩
  ·cases q
  ·obtain⟨u,a,b⟩:=G.a7 j d' q;exact⟨u,a,b.mono kp⟩
 ·rcases aV h with⟨e,q⟩|⟨e,q⟩
  ·subst e;cases q;exact⟨ys,g1,hn,r.weak (aR.set_own hi),g4⟩
  ·obtain⟨zs,a,b,c,e'⟩:=G.own j fs q;exact⟨zs,a,k _ _ b fun z=>e (G.OC j i fs ds q hi z),c.mono kp,e'⟩
 ·rcases aV h1 with⟨e1,q1⟩|⟨e1,q1⟩
  ·rcases aV h2 with⟨e2,q2⟩|⟨e2,q2⟩
   ·rw[e1,e2]
   ·subst e1;exact G.inj j l _ gs hi q2 rfl m2 e
  ·rcases aV h2 with⟨e2,q2⟩|⟨e2,q2⟩
   ·subst e2;exact G.inj j l fs _ q1 hi m1 rfl e
   ·exact G.inj j l fs gs q1 q2 m1 m2 e
 ·rcases aV h with⟨z,_⟩|⟨_,q⟩
  ·subst z;exact G.pin a ds e hi
  ·exact G.pin a fs e q
 ·rcases aV h with⟨e,q⟩|⟨e,q⟩
  ·cases q
  ·obtain⟨zs,a,b,c,e'⟩:=G.obj j O fs q;exact⟨zs,a,k _ _ b fun z=>e (G.inj j i _ _ q hi rfl rfl z),c.mono kp,e'⟩
abbrev HF:=ax->Option (Dat×ax)
def tH (K:Fg) (f:HF):TE:=fun σ H Q=>∃aj Av pn aE Γ ad d af,GA K aj Av pn aE H σ Γ ad/\f Γ=some (d,af)/\∀v H' iH,GA K aj Av pn aE H' σ af iH->aS K H' (aR Av af iH) v d->Q v H'
def JU (K:Fg) (f:ax->Option (Bool×ax)):TT:=fun σ H Q=>∃aj Av pn aE Γ ad d af,GA K aj Av pn aE H σ Γ ad/\f Γ=some (d,af)/\∀H' iH,GA K aj Av pn aE H' σ af iH->Q d H'
def Nf (K:Fg) (f:ax->Option (List Dat×ax)):TA:=fun σ H Q=>∃aj Av pn aE Γ ad d af,GA K aj Av pn aE H σ Γ ad/\f Γ=some (d,af)/\∀vs H' iH,GA K aj Av pn aE H' σ af iH->ay K H' (aR Av af iH) vs d->Q vs H'
abbrev PH (X:Cx) (e:Expr) (f:HF):Prop:=PE X e (tH X.K f)
abbrev XC (X:Cx) (e:Expr) (f:ax->Option (Bool×ax)):Prop:=PT X e (JU X.K f)
abbrev XD (X:Cx) (es:List Expr) (f:ax->Option (List Dat×ax)):Prop:=PA X es (Nf X.K f)
def j3 (f:aw->Option Dat):HF:=fun Γ=>match f (bx Γ)with
 |some d=>some (d,Γ)
 |none=>(f (bX Γ)).bind fun d=>if EW d=true then some (d,Γ)else none
def zU (f:aw->Option Bool):ax->Option (Bool×ax):=fun Γ=>(f (bX Γ)).map fun k=>(k,Γ)
def h2 (g:Dat->Dat->Option Dat) (fa fb:HF):HF:=fun Γ=>(fa Γ).bind fun p=>(fb p.2).bind fun r=>(g p.1 r.1).map fun d=>(d,r.2)
variable {ha hb:HF} {r:R2} {g:Dat->Dat->Option Dat}
theorem xT(hr:lJ K r g):∀σ H Q,tH K (h2 g ha hb) σ H Q->Bn r (tH K ha) (tH K hb) σ H Q:=by
 rintro σ H Q ⟨aj,Av,pn,aE,Γ,ad,d,af,G,hf,q⟩;obtain⟨⟨dx,Γ1⟩,e1,hf⟩:=bind_some hf;obtain⟨⟨dy,tN⟩,e2,hf⟩:=bind_some hf;obtain⟨d',e3,hf⟩:=ba hf;cases hf;refine⟨aj,Av,pn,aE,Γ,ad,dx,Γ1,G,e1,fun x H1 gA G1 r1=>⟨aj,Av,pn,(x,dx)::aE,Γ1,gA,dy,tN,G1.hide r1,e2,fun y H2 pH G2 r2=>?_⟩⟩;exact hr H2 (aR Av tN pH) x y dx dy _ Q G2.gz (G2.aE (x,dx) mem_cons_self) r2 e3 fun v H3 s3 r3=>q v H3 pH (G2.pQ.grow s3) r3
theorem yU{op:Operator}(ho:dZ X (binaryOp op) r)(hd:lJ X.K r g)(pa:PH X a ha)(pb:PH X b hb):PH X (.BinOp a op b pos) (h2 g ha hb):=bp (xZ ho pa pb) (xT hd)
theorem NV{op:CmpOp}(ho:dZ X (compareOp op) r)(hd:lJ X.K r g)(pa:PH X a ha)(pb:PH X b hb)(hm:behindInMarks op b=false):PH X (.Compare a [op] [b] pos) (h2 g ha hb):=bp (BQ ho pa pb hm) (xT hd)
def ya (f:HF):ax->Option (Bool×ax):=fun Γ=>(f Γ).bind fun p=>(lj p.1).map fun k=>(k,p.2)
theorem LX{op:CmpOp}(ho:dZ X (compareOp op) r)(hd:lJ X.K r g)(pa:PH X a ha)(pb:PH X b hb)(hm:behindInMarks op b=false):XC X (.Compare a [op] [b] pos) (ya (h2 g ha hb)):=nW (BL ho pa pb hm) fun σ H Q aQ=>by
 obtain⟨aj,Av,pn,aE,Γ,ad,d,af,G,hf,q⟩:=aQ;obtain⟨⟨dv,Γ1⟩,e1,hf⟩:=bind_some hf;obtain⟨k,e2,hf⟩:=ba hf;cases hf;have e3:=mQ e2;subst e3;exact xT hd σ H _ ⟨aj,Av,pn,aE,Γ,ad,_,Γ1,G,e1,fun v H' iH G' r=>⟨_,r.kP,q H' iH G'⟩⟩
def DX (f g:ax->Option (Bool×ax)):ax->Option (Bool×ax):=fun Γ=>(f Γ).bind fun p=>if p.1=true then g p.2 else some (false,p.2)
abbrev Yh (X:Cx) (e:Expr) (f:ax->Option (Bool×ax)):Prop:=PW X e (JU X.K f)
theorem O5:lJ K (fun x y H Q=>NJ K x y H Q\/NI K x y H Q) bz:=by
 intro H Av x y dx dy d Q hA rx ry h q;unfold bz at h;split at h
 ·obtain⟨p,xs,rfl,hq,rs⟩:=rx.gm;obtain⟨v,hv,rv⟩:=rs.fS h;exact .inl ⟨p,xs,_,v,rfl,ry.cY,hq.sq,hv,q v H (bg.refl H) rv⟩
 ·obtain⟨p,xs,rfl,hq,rs⟩:=rx.fT;obtain⟨v,hv,rv⟩:=rs.fS h;exact .inr ⟨p,xs,_,v,rfl,ry.cY,hq.sq,hv,q v H (bg.refl H) rv⟩
 ·cases h
def iO:ax->Option (List Dat×ax):=fun Γ=>some ([],Γ)
def eM (f:HF) (g:ax->Option (List Dat×ax)):ax->Option (List Dat×ax):=fun Γ=>(f Γ).bind fun p=>(g p.2).map fun r=>(p.1::r.1,r.2)
def zT (g:ax->Option (List Dat×ax)):HF:=fun Γ=>(g Γ).bind fun p=>if p.1.length<=sizeLine then some (.tuple p.1,p.2)else none
def kL (g:List Dat->Option Dat) (fs:ax->Option (List Dat×ax)):HF:=fun Γ=>(fs Γ).bind fun p=>(g p.1).map fun d=>(d,p.2)
variable {hs:ax->Option (List Dat×ax)}
theorem Ly{r:List V->Hp->VK->Prop}{g:List Dat->Option Dat}(hr:nC K r g):∀σ H Q,tH K (kL g hs) σ H Q->JY r (Nf K hs) σ H Q:=by
 rintro σ H Q ⟨aj,Av,pn,aE,Γ,ad,d,af,G,hf,q⟩;obtain⟨⟨ds,Γ1⟩,e1,hf⟩:=bind_some hf;obtain⟨d',e2,hf⟩:=ba hf;cases hf;exact⟨aj,Av,pn,aE,Γ,ad,ds,Γ1,G,e1,fun xs H1 gA G1 r1=>hr H1 _ xs ds _ Q G1.gz r1 e2 fun v H2 s2 r2=>q v H2 gA (G1.grow s2) r2⟩
variable {es:List Expr} {p:Pos}
theorem FE{r:List V->Hp->VK->Prop}{g:List Dat->Option Dat}(hc:ko X (.type T) r)(hd:nC X.K r g)(hm:X.mg x=none)(pa:XD X (e::es) hs)(hg:Gl X x:=by rfl)(hv:bootBuiltins x=some (.type T):=by rfl)(hn:x≠"__name__":=by decide)(jq:(x==("__debug__" : Str))=false:=by decide)(he:starEach (e::es) X.env=(false,eval e X.env)::starEach es X.env:=by rfl)(eY:(backTo pos (starEach es X.env)).any (·.1)=false:=by rfl):PH X (.Call (.Name x p) (e::es) [] pos) (kL g hs):=bp (nh hc hg hm hv pa hn jq he eY) (Ly hd)
def GJ (n:Nat) (F:List Dat->Option Dat) (fs:ax->Option (List Dat×ax)):HF:=fun Γ=>(fs Γ).bind fun p=>if p.1.length=n then(F p.1).map fun d=>(d,p.2)else none
def VD (K:Fg) (n:Nat) (F:List Dat->List Dat->Option (Dat×List Dat)):Sp:=fun vs H Q _=>∃Av a ws xs ds es d dN,vs=.ref a::ws/\gE H Av/\Av a/\H a=some (.lst xs)/\ay K H Av xs ds/\ay K H Av ws es/\es.length+1=n/\F ds es=some (d,dN)/\
 ∀v H' ys,(∀b o,H b=some o->b≠a->H' b=some o)->H' a=some (.lst ys)->ay K H' Av ys dN->aS K H' Av v d->Q v H'
structure iW (P:Program) (w:World) (K:Fg) (mg:Str->Option Value) (base:Heap) (k:Nat) (x:Str) (ps:List Str) (n:Nat) (F:List Dat->List Dat->Option (Dat×List Dat)):Prop where
 ex:∃(f:Addr) (fd:FuncData),gG P w K mg base je k f fd ps (VD K n F)/\mg x=some (.ref f)/\keepIn K (.ref f)=true/\Binds K fd ps []
variable {j:Nat}
theorem iW.up{F:List Dat->List Dat->Option (Dat×List Dat)}(D:iW P w K mg base j x ps n F)(h:j<=k):iW P w K mg base k x ps n F:=by
 obtain⟨f,fd,h1,h2⟩:=D.ex;exact⟨f,fd,h1.mono h,h2⟩
def oV (i n:Nat) (F:List Dat->List Dat->Option (Dat×List Dat)) (fs:ax->Option (List Dat×ax)):HF:=fun Γ=>match Γ[i]? with
 |some (some (.own _))=>(fs Γ).bind fun p=>match p.2[i]? with
  |some (some (.own ds))=>if p.1.length+1=n then(F ds p.1).map fun r=>(r.1,p.2.set i (some (.own r.2)))else none
  |_=>none
 |_=>none
def startM (N:List Str) (ds es:List Dat):ax:=some (.own ds)::(es.map (fun d=>some (.a7 d))++List.replicate (N.length-(es.length+1)) none)
theorem GP{a:Addr}{ws:List V}{es:List Dat}(hA:gE H Av)(ha:Av a)(hx:H a=some (.lst xs))(rx:ay K H Av xs ds)(pY:ay K H Av ws es):
  GA K (fun b=>if b=a then none else H b) (fun b=>Av b/\b≠a) (some a) [] H (start N (.ref a::ws)) (startM N ds es) (fun _=>a):=by
 have oI:∀(i:Nat) (s:Slot),(startM N ds es)[i+1]?=some (some s)->s.mt=false:=fun i s h=>by
  unfold startM at h;rw[getElem?_cons_succ]at h;by_cases hi:i<es.length
  ·rw[getElem?_append_left (by rw[length_map];exact hi),getElem?_map,getElem?_eq_getElem hi]at h;cases h;rfl
  ·rw[getElem?_append_right (by rw[length_map];omega),getElem?_replicate]at h;split at h<;>cases h
 have wk:∀b,aR (fun b=>Av b/\b≠a) (startM N ds es) (fun _=>a) b->Av b:=by
  rintro b (z|⟨i,fs,_,_,rfl⟩)
  ·exact z.1
  ·exact ha
 refine⟨fun b o h=>?_,fun b z=>?_,?_,fun i d h=>?_,fun i fs h=>?_,fun i j fs gs h1 h2 m1 m2 _=>?_,fun p hp=>absurd hp (by simp),(fun a' fs e _=>by cases e;rfl),fun i O fs h=>?_⟩
 ·split at h
  ·cases h
  ·exact h
 ·obtain⟨o,e⟩:=hA b z.1;exact⟨o,by rw[if_neg z.2];exact e⟩
 ·unfold L2.start startM;simp only[map_cons,cons_append,length_cons,length_append,length_map,length_replicate,pY.length]
 ·cases i with
  |zero=>cases h
  |succ i=>
   unfold startM at h;rw[getElem?_cons_succ]at h;by_cases hi:i<es.length
   ·rw[getElem?_append_left (by rw[length_map];exact hi),getElem?_map,getElem?_eq_getElem hi]at h;cases h;obtain⟨v,hv,rv⟩:=pY.get (getElem?_eq_getElem hi);refine⟨v,?_,rv.weak wk⟩;unfold L2.start;rw[map_cons,cons_append,getElem?_cons_succ,getElem?_append_left (by rw[length_map,pY.length];exact hi),getElem?_map,hv];rfl
   ·rw[getElem?_append_right (by rw[length_map];omega),getElem?_replicate]at h;split at h<;>cases h
 ·cases i with
  |zero=>cases h;exact⟨xs,rfl,hx,rx.weak wk,by rw[if_pos rfl]⟩
  |succ i=>exact absurd (oI i _ h) (by simp[Slot.mt])
 ·cases i with
  |succ i=>exact absurd (oI i _ h1) (by rw[m1];decide)
  |zero=>
   cases j with
   |succ j=>exact absurd (oI j _ h2) (by rw[m2];decide)
   |zero=>rfl
 ·cases i with
  |zero=>cases h
  |succ i=>exact absurd (oI i _ h) (by simp[Slot.mt])
def runM (N:List Str) (g:ax->Option Fl) (ds es:List Dat):Option (Dat×List Dat):=match g (startM N ds es)with
 |some (.rm d af)=>match (af[0]? : Option (Option Slot))with
  |some (some (.own dN))=>some (d,dN)
  |_=>none
 |_=>none
variable {g:ax->Option Fl}
theorem Po{F:List Dat->List Dat->Option (Dat×List Dat)}(U:mT K x qual st fa fd)(hm:mg x=some (.ref fa))(hB:Binds K fd ps [])(S:fX N ps (bc st))(hn:ps.length=n)(hbody:∀(bG:Value) (A:Around) (outer:List Env) (s:Shared) (H:Hp) (E:XK),cw k (A.deeper (envOfC qual (bc st) s.heap.objs.size fa bG))->Qd (jG je P w K mg base N qual (bc st) fa bG A outer s H E).nZ (d8 st) g)(hF:∀ds es d dN,es.length+1=n->F ds es=some (d,dN)->runM N g ds es=some (d,dN)):iW P w K mg base (k+1) x ps n F:=by
 refine⟨fa,fd,U.ok S (fun vs H Q E h=>?_) (fun bG A outer s H vs Q E hr h=>?_),hm,U.kp,hB⟩
 ·obtain⟨Av,a,ws,xs,ds,es,d,dN,rfl,_,_,_,_,r,hl,_⟩:=h;rw[length_cons,r.length,hl,hn]
 ·obtain⟨Av,a,ws,xs,ds,es,d,dN,rfl,hA,ha,hx,rx,pY,hl,hd,q⟩:=h;have dM:=hF ds es d dN hl hd;unfold runM at dM;refine⟨_,hbody bG A outer s H E hr,?_⟩;split at dM
  ·rename_i d1 Γ1 hg;split at dM
   ·rename_i ds1 h0;cases dM;refine⟨_,_,some a,[],startM N ds es,_,⟨_,GP hA ha hx rx pY⟩,hg,fun bI v H' iH G' rv=>?_⟩;obtain⟨ys,y1,y2,y3,y4⟩:=G'.own 0 _ h0;have ea:iH 0=a:=G'.pin a _ rfl h0;have wk:∀b,Av b->aR (fun b=>Av b/\b≠a) Γ1 iH b:=fun b z=>by
     by_cases eb:b=a
     ·exact .inr ⟨0,_,h0,rfl,ea.trans eb.symm⟩
     ·exact .inl ⟨z,eb⟩
    exact q v H' ys (fun b o h ne=>G'.same b o (by rw[if_neg ne];exact h)) (by rw[<- ea];exact y2) (y3.weak wk) (rv.weak wk)
   ·cases dM
  ·cases dM
def nc (i:Nat) (f:HF):ax->Option Fl:=fun Γ=>(f Γ).map fun p=>.nx (p.2.set i (some (.a7 p.1)))
def Dt (gt:Dat->Option cW) (f:HF):ax->Option Fl:=fun Γ=>(f Γ).bind fun p=>(gt p.1).map fun as=>.nx (setG p.2 as)
def Ds (f:HF):ax->Option Fl:=fun Γ=>(f Γ).map fun p=>.rm p.1 p.2
def I0 (ft:ax->Option (Bool×ax)) (g1 g2:ax->Option Fl):ax->Option Fl:=fun Γ=>(ft Γ).bind fun p=>if p.1=true then g1 p.2 else g2 p.2
theorem ay.set{K:Fg}{H:Hp}{Av:fV}:∀{vs:List V} {ds:List Dat} {j:Nat} {v:V} {d:Dat},ay K H Av vs ds->aS K H Av v d->ay K H Av (vs.set j v) (ds.set j d)
 |_,_,_,_,_,.nil,_=>.nil
 |_,_,0,_,_,.cons _ r,h=>.cons h r
 |_,_,j+1,_,_,.cons a r,h=>.cons a (ay.set (j:=j) r h)
def yA (i:Nat) (k:Int) (f:HF):ax->Option Fl:=fun Γ=>(f Γ).bind fun p=>match p.2[i]? with
 |some (some (.own ds))=>(lE ds.length k).map fun j=>.nx (p.2.set i (some (.own (ds.set j p.1))))
 |_=>none
def VC (K:Fg) (n:Nat) (F:List Dat->Option (List Dat)):Sp:=fun vs H Q _=>∃Av ds out,gE H Av/\ay K H Av vs ds/\ds.length=n/\F ds=some out/\∀H1 p xs,bg H H1->H1 p=none->ay K H1 Av xs out->Q (.ref p) (upd H1 p (.lst xs))
structure xM (P:Program) (w:World) (K:Fg) (mg:Str->Option Value) (base:Heap) (k:Nat) (x:Str) (ps:List Str) (n:Nat) (F:List Dat->Option (List Dat)):Prop where
 ex:∃(f:Addr) (fd:FuncData),gG P w K mg base je k f fd ps (VC K n F)/\mg x=some (.ref f)/\keepIn K (.ref f)=true/\Binds K fd ps []
theorem xM.up{F:List Dat->Option (List Dat)}(D:xM P w K mg base j x ps n F)(h:j<=k):xM P w K mg base k x ps n F:=by
 obtain⟨f,fd,h1,h2⟩:=D.ex;exact⟨f,fd,h1.mono h,h2⟩
def J8 (n:Nat) (F:List Dat->Option (List Dat)) (fs:aw->Option (List Dat)):aw->Option (List Dat):=fun ρ=>(fs ρ).bind fun ds=>if ds.length=n then F ds else none
variable {px:Pos}
theorem Pn{fs:aw->Option (List Dat)}{F:List Dat->Option (List Dat)}(U:mT K x qual st fa fd)(hm:mg x=some (.ref fa))(hB:Binds K fd ps [])(S:fX N ps (bc st))(hn:ps.length=n){ex:Expr}(hb:d8 st=[.Return (some ex) px])(hbody:∀(bG:Value) (A:Around) (outer:List Env) (s:Shared) (H:Hp) (E:XK),cw k (A.deeper (envOfC qual (bc st) s.heap.objs.size fa bG))->PE (jG je P w K mg base N qual (bc st) fa bG A outer s H E).nZ ex (jY K fs))(hF:∀ds out,ds.length=n->F ds=some out->fs (bX (cT N ds))=some out):xM P w K mg base (k+1) x ps n F:=by
 have eY:ps.length<=N.length:=by have:=congrArg List.length S.pre;rw[length_take]at this;omega
 refine⟨fa,fd,U.ok S (fun vs H Q E h=>?_) (fun bG A outer s H vs Q E hr h=>?_),hm,U.kp,hB⟩
 ·obtain⟨Av,ds,d,_,r,hl,_⟩:=h;rw[r.length,hl,hn]
 ·obtain⟨Av,ds,out,hA,r,hl,hd,q⟩:=h;obtain⟨ad,G⟩:=tf (K:=K) (N:=N) hA r (by omega);rw[hb];exact⟨_,BN (ug (hbody bG A outer s H E hr)),Av,bX (cT N ds),out,hA,G.p0,hF ds out hl hd,fun H1 p xs s1 hp r1=>q H1 p xs s1 hp r1⟩
open PySem PySem.Spec PyProof.Rows L2
open PySem.W (Dat kqdOk)
def ye (K:Fg) (J:It) (xs:List V) (kg:List Dat) (ds:List Dat):Prop:=∀(i:Nat) (H:Hp) (Av:fV),ay K H Av xs kg->(ds.length<=i->J.stop i H)/\(∀di,ds[i]?=some di->J.go i H/\∀y H',gE H Av->J.wy i H y H'->bg H H'/\aS K H' Av y di)
theorem Over.s{x:V}(o:Over K J x d ds):ye K J [x] [d] ds:=fun i H Av r=>by
 obtain⟨v,e,rv⟩:=r.eh;cases e;obtain⟨h1,h2⟩:=o i H Av rv;refine⟨h1,fun di hd=>?_⟩;obtain⟨g,y⟩:=h2 di hd;refine⟨g,fun z H' _ hz=>?_⟩;obtain⟨e,r'⟩:=y z H' hz;subst e;exact⟨bg.refl _,r'⟩
def JV (K:Fg) (fi:aw->Option (List Dat)):TI:=fun σ H R=>∃Av ρ ds,gE H Av/\eZ K H Av σ ρ/\fi ρ=some ds/\∀J xs kg H1,bg H H1->ay K H1 Av xs kg->ye K J xs kg ds->R J H1
abbrev Tr (X:Cx) (tg iter:Expr) (fi:aw->Option (List Dat)):Prop:=PI X tg iter (JV X.K fi)
variable {iter:Expr}
theorem lU{t t':TI}(h:PI X tg iter t)(m:∀σ H R,t' σ H R->t σ H R):PI X tg iter t':=fun pins s σ H R I q=>h pins s σ H R I (m σ H R q)
def Cf (f:aw->Option Dat):aw->Option (List Dat):=fun ρ=>(f ρ).bind cJ
variable {fs:aw->Option (List Dat)} in
def qv (rg:List Dat->Option (List Dat)) (fs:aw->Option (List Dat)):aw->Option (List Dat):=fun ρ=>(fs ρ).bind rg
variable {fi:aw->Option (List Dat)}
def lK (gt:Dat->Option cW) (gb:ax->Option Fl) (fi:aw->Option (List Dat)):ax->Option Fl:=fun Γ=>(fi (bx Γ)).bind fun ds=>forL gt gb ds Γ
theorem E4{D:Ends}{kg:List Dat}{σ:L2.St}{H1:Hp}{fl:Fl}(ov:ye K J xs kg ds)(G:GA K aj Av pn aE H1 σ Γ ad)(rx:ay K H1 (aR Av Γ ad) xs kg)(hf:forL gt gb ds Γ=some fl)(q:Jc K aj Av pn aE D fl):
  ∃W:Nat->Nat->L2.St->Hp->Prop,(∃m,W 0 m σ H1)/\∀i m σ H,W i m σ H->
   (J.stop i H/\D.nx σ H)\/(J.go i H/\∃N:L2.St->Hp->Prop,(∀bI H',N bI H'->∃m',m'<m/\W (i+1) m' bI H')/\∀x H',J.wy i H x H'->j8 K gt x σ H' fun fY H2=>yt K gb {D with nx:=N,ct:=N,bk:=D.nx} fY H2):=by
 have Rv:∀{vs:List V} {us:List Dat} {aE:Hid} {H:Hp} {σ:L2.St} {Γ:ax} {ad:Nat->Addr},GA K aj Av pn aE H σ Γ ad->ay K H (aR Av Γ ad) vs us->GA K aj Av pn (vs.zip us++aE) H σ Γ ad:=by
  intro vs us aE H σ Γ ad G r;refine⟨G.same,G.ja,G.len,G.a7,G.own,G.inj,fun p hp=>?_,G.pin,G.obj⟩;rcases mem_append.mp hp with h|h
  ·clear G hp;induction vs generalizing us with
   |nil=>simp at h
   |cons v vs ih=>
    cases r with
    |cons r1 r2=>
     rw[zip_cons_cons]at h;rcases mem_cons.mp h with e|h
     ·subst e;exact r1
     ·exact ih r2 h
  ·exact G.aE p h
 have vi:∀{vs:List V} {us:List Dat} {aE:Hid} {H:Hp} {σ:L2.St} {Γ:ax} {ad:Nat->Addr},GA K aj Av pn (vs.zip us++aE) H σ Γ ad->GA K aj Av pn aE H σ Γ ad:=fun G=>⟨G.same,G.ja,G.len,G.a7,G.own,G.inj,fun p hp=>G.aE p (mem_append_right _ hp),G.pin,G.obj⟩;have back:∀{vs:List V} {us:List Dat} {aE:Hid} {H:Hp} {σ:L2.St} {Γ:ax} {ad:Nat->Addr},vs.length=us.length->GA K aj Av pn (vs.zip us++aE) H σ Γ ad->ay K H (aR Av Γ ad) vs us:=by
  intro vs us aE H σ Γ ad hl G;have hp:∀p∈vs.zip us,aS K H (aR Av Γ ad) p.1 p.2:=fun p hp=>G.aE p (mem_append_left _ hp);clear G;induction vs generalizing us with
  |nil=>cases us with|nil=>exact .nil|cons _ _=>simp at hl
  |cons v vs ih=>
   cases us with
   |nil=>simp at hl
   |cons u us=>
    rw[zip_cons_cons]at hp;exact .cons (hp (v,u) mem_cons_self) (ih (by simpa using hl) fun p h=>hp p (mem_cons_of_mem _ h))
 have Wf:=rx.length;refine⟨fun i m σ H=>m=ds.length-i/\i<=ds.length/\∃Γ,lC K aj Av pn (xs.zip kg++aE) H σ Γ/\forL gt gb (ds.drop i) Γ=some fl,⟨_,rfl,zero_le _,Γ,⟨ad,Rv G rx⟩,by rw[drop_zero];exact hf⟩,?_⟩;rintro i m σ H ⟨rfl,hi,Γ,⟨ad,G⟩,hf⟩;have rx:=back Wf G;cases gu:ds[i]? with
 |none=>
  have hl:ds.length<=i:=List.getElem?_eq_none_iff.mp gu;rw[drop_eq_nil_of_le hl]at hf;cases hf;exact .inl ⟨(ov i H _ rx).1 hl,q σ H ⟨ad,vi G⟩⟩
 |some di=>
  have dJ:=dY gu;rw[drop_cons gu]at hf;obtain⟨as,e1,hf⟩:=bind_some (show(gt di).bind _=some fl from hf);obtain⟨qE,e2,hf⟩:=bind_some hf;obtain⟨go,yl⟩:=(ov i H _ rx).2 di gu;refine .inr ⟨go,fun bI H'=>∃af,lC K aj Av pn (xs.zip kg++aE) H' bI af/\forL gt gb (ds.drop (i+1)) af=some fl,fun bI H' ⟨af,G',h'⟩=>⟨ds.length-(i+1),by omega,rfl,by omega,af,G',h'⟩,fun y H' hy=>?_⟩;obtain⟨sH,ry⟩:=yl y H' G.gz hy;refine⟨aR Av Γ ad,di,as,ry,e1,fun ws hw=>⟨aj,Av,pn,xs.zip kg++aE,setG Γ as,qE,⟨ad,GA.ia hw (fun _ z=>z) (G.grow sH)⟩,e2,?_⟩⟩;cases qE with
  |nx af=>exact fun fY H2 G2=>⟨af,G2,hf⟩
  |ct af=>exact fun fY H2 G2=>⟨af,G2,hf⟩
  |bk af=>cases hf;exact fun fY H2 ⟨pH,G2⟩=>q fY H2 ⟨pH,vi G2⟩
  |rt v=>cases hf;exact q
  |rm v af=>cases hf;exact fun fY v2 H2 pH G2 r2=>q fY v2 H2 pH (vi G2) r2
def gS (bh:List (Option Nat)) (gt:Dat->Option cW) (ft:aw->Option Bool) (fe:aw->Option Dat) (fi:aw->Option (List Dat)):aw->Option (List Dat):=fun ρ=>(fi ρ).bind fun ds=>if ds.length<sizeLine then cf gt ft fe (dF bh ρ) ds else none
theorem Bq{bh:List (Option Nat)}{fe:aw->Option Dat}(ht:kH gt bh):∀σ H Q,jY K (gS bh gt ft fe fi) σ H Q->qY bh (JV K fi) (j8 K gt) (mZ K ft) (tF K fe) σ H Q:=by
 rintro σ H Q ⟨Av,ρ,out,hA,hE,hf,q⟩;obtain⟨ds,e1,hf⟩:=bind_some hf;split at hf
 ·rename_i hz;refine⟨Av,ρ,ds,hA,hE,e1,fun J xs kg H1 s1 r ov=>?_⟩;refine⟨fun i m ys H2=>m=ds.length-i/\i<=ds.length/\bg H1 H2/\∃o1 o2,ay K H2 Av ys o1/\o1.length<=i/\cf gt ft fe (dF bh ρ) (ds.drop i)=some o2/\out=o1++o2,
   ⟨_,rfl,zero_le _,bg.refl _,[],out,.nil,le_refl _,by rw[drop_zero];exact hf,rfl⟩,?_⟩
  rintro i m ys H2 ⟨rfl,hi,s2,o1,o2,ro,hl,hc,rfl⟩;refine⟨by have:=ro.length;omega,?_⟩;have rx:=r.same s2;cases gu:ds[i]? with
  |none=>
   have hle:ds.length<=i:=List.getElem?_eq_none_iff.mp gu;rw[drop_eq_nil_of_le hle]at hc;cases hc;refine .inl ⟨(ov i H2 _ rx).1 hle,fun D hD=>q H2 D ys (s1.trans s2) hD (by rw[append_nil];exact ro)⟩
  |some di=>
   have dJ:=dY gu;rw[drop_cons gu]at hc;obtain⟨as,a1,hc⟩:=bind_some (show(gt di).bind _=some o2 from hc);obtain⟨k,a2,hc⟩:=bind_some hc;obtain⟨go,yl⟩:=(ov i H2 _ rx).2 di gu;refine .inr ⟨go,fun y H' hy=>?_⟩;obtain⟨sH,ry⟩:=yl y H' (hA.same (s1.trans s2)) hy;refine⟨Av,di,as,ry,a1,fun ws hw=>?_⟩;have cs:∀p∈as,(bW bh σ)[p.1]?=some none:=fun p hp=>by
    unfold bW;rw[getElem?_map,ht di as a1 p hp];rfl
   have A2:=hA.same (s1.trans (s2.trans sH));have E2:eZ K H' Av (oz (bW bh σ) ws) (kC (dF bh ρ) as):=eZ.ia hw (by unfold bW dF;rw[length_map,length_map]) ((hE.same (s1.trans (s2.trans sH))).bh bh);refine⟨eI.ia hw cs (eI.refl _),Av,_,k,A2,E2,a2,fun H3 s3=>?_⟩;cases k with
   |false=>
    rw[if_neg Bool.false_ne_true]at hc ⊢;exact⟨ds.length-(i+1),by omega,rfl,by omega,s2.trans (sH.trans s3),o1,o2,ro.same (sH.trans s3),by omega,hc,rfl⟩
   |true=>
    rw[if_pos rfl]at hc ⊢;obtain⟨dv,a3,hc⟩:=bind_some hc;obtain⟨o3,a4,hc⟩:=ba hc;subst hc;refine⟨Av,_,dv,A2.same s3,E2.same s3,a3,fun v H4 s4 rv=>⟨ds.length-(i+1),by omega,rfl,by omega,s2.trans (sH.trans (s3.trans s4)),o1++[dv],o3,(ro.same (sH.trans (s3.trans s4))).append (.cons rv .nil),?_,a4,?_⟩⟩
    ·rw[length_append,length_singleton];omega
    ·rw[append_assoc];rfl
 ·cases hf
def EI (K:Fg) (f:ax->Option (List Dat×ax)):TE:=fun σ H Q=>∃aj Av pn aE Γ ad d af,GA K aj Av pn aE H σ Γ ad/\f Γ=some (d,af)/\∀H1 p xs gA,GA K aj Av pn aE H1 σ af gA->H1 p=none->ay K H1 (aR Av af gA) xs d->Q (.ref p) (upd H1 p (.lst xs))
def hL (f:ax->Option (List Dat×ax)):HF:=fun Γ=>(f Γ).map fun p=>(.list p.1,p.2)
def kb:aw->ax:=fun ρ=>ρ.map fun o=>o.map Slot.a7
def kh (gt:Dat->Option cW) (fe:HF) (tl:ax):List Dat->List Dat->Option (List Dat×List Dat)
 |[],ds=>some ([],ds)
 |x::r,ds=>(gt x).bind fun as=>(fe (setG (some (.own ds)::tl) as)).bind fun p=>match (p.2[0]? : Option (Option Slot))with
  |some (some (.own dN))=>(kh gt fe tl r dN).map fun q=>(p.1::q.1,q.2)
  |_=>none
def lO (i:Nat) (cg:List (Option Nat)) (gt:Dat->Option cW) (fe:HF) (fi:aw->Option (List Dat)):ax->Option (List Dat×ax):=fun Γ=>match Γ[i]? with
 |some (some (.own ds))=>(fi (bx Γ)).bind fun ao=>if ao.length<sizeLine then(kh gt fe (kb (dF cg (bx Γ))) ao ds).map fun q=>(q.1,Γ.set i (some (.own q.2)))else none
 |_=>none
theorem zB{es:List Dat}(hi:Γ[i]?=some (some (.own ds))):bx (Γ.set i (some (.own es)))=bx Γ:=by
 unfold bx;apply List.ext_getElem?
 intro j;rw[getElem?_map,getElem?_map];by_cases e:j=i
 ·subst e;rw[getElem?_set_self (dY hi),hi];rfl
 ·rw[getElem?_set_ne (Ne.symm e)]
theorem mC{s:Slot}(h:(kb ρ)[j]?=some (some s)):∃d,s=.a7 d/\ρ[j]?=some (some d):=by
 unfold kb at h;rw[getElem?_map]at h;cases e:ρ[j]? with
 |none=>rw[e]at h;cases h
 |some o=>
  rw[e]at h;cases o with
  |none=>cases h
  |some d=>cases h;exact⟨d,rfl,rfl⟩
theorem A1{a:Addr}{MX:L2.St}{JJ:aw}(hA:gE H Av)(ha:Av a)(hx:H a=some (.lst xs))(rx:ay K H Av xs ds)(E:eZ K H Av MX JJ)(hl:MX.length=JJ.length):
  GA K (fun b=>if b=a then none else H b) (fun b=>Av b/\b≠a) (some a) [] H (some (.ref a)::MX) (some (.own ds)::kb JJ) (fun _=>a):=by
 have wk:∀b,aR (fun b=>Av b/\b≠a) (some (.own ds)::kb JJ) (fun _=>a) b->Av b:=by
  rintro b (z|⟨i,fs,_,_,rfl⟩)
  ·exact z.1
  ·exact ha
 refine⟨fun b o h=>?_,fun b z=>?_,?_,fun i d h=>?_,fun i fs h=>?_,fun i j fs gs h1 h2 m1 m2 _=>?_,fun p hp=>absurd hp (by simp),(fun a' fs e _=>by cases e;rfl),fun i O fs h=>?_⟩
 ·split at h
  ·cases h
  ·exact h
 ·obtain⟨o,e⟩:=hA b z.1;exact⟨o,by rw[if_neg z.2];exact e⟩
 ·unfold kb;rw[length_cons,length_cons,length_map,hl]
 ·cases i with
  |zero=>cases h
  |succ i=>
   rw[getElem?_cons_succ]at h;obtain⟨d',e,h⟩:=mC h;cases e;obtain⟨v,hv,rv⟩:=E i d h;exact⟨v,by rw[getElem?_cons_succ];exact hv,rv.weak wk⟩
 ·cases i with
  |zero=>cases h;exact⟨xs,rfl,hx,rx.weak wk,by rw[if_pos rfl]⟩
  |succ i=>
   rw[getElem?_cons_succ]at h;obtain⟨_,e,_⟩:=mC h;cases e
 ·cases i with
  |succ i=>
   rw[getElem?_cons_succ]at h1;obtain⟨_,e,_⟩:=mC h1;rw[e]at m1;cases m1
  |zero=>
   cases j with
   |succ j=>
    rw[getElem?_cons_succ]at h2;obtain⟨_,e,_⟩:=mC h2;rw[e]at m2;cases m2
   |zero=>rfl
 ·cases i with
  |zero=>cases h
  |succ i=>
   rw[getElem?_cons_succ]at h;obtain⟨_,e,_⟩:=mC h;cases e
theorem GA.Bw{Ud:fV}{σ:L2.St}(h:kj K H Ud ws as)(hw:∀a,aR Av Γ ad a->Ud a)(G:GA K aj Av pn aE H σ Γ ad):
  GA K aj Av pn aE H (oz σ ws) (setG Γ as) ad:=by
 induction h generalizing σ Γ with
 |nil=>exact G
 | @cons i v d vs ds h r ih=>exact ih (σ:=σ.set i (some v)) (Γ:=Γ.set i (some (.a7 d))) (fun a z=>hw a (aR.jJ a z)) (G.set i (h.weak hw))
variable {cg:List (Option Nat)}
theorem Lz{fe:HF}(ht:kH gt (some i::cg)):∀σ H Q,EI K (lO i cg gt fe fi) σ H Q->qY (some i::cg) (JV K fi) (j8 K gt) yr (tH K fe) σ H Q:=by
 rintro σ H Q ⟨aj,Av,pn,aE,Γ,ad,out,af,G,hf,q⟩;unfold lO at hf;split at hf
 ·rename_i Ag hi;obtain⟨ao,e1,hf⟩:=bind_some hf;split at hf
  ·rename_i hz;obtain⟨⟨ze,Ae⟩,e2,hf⟩:=ba hf;obtain⟨h1,h2⟩:=Prod.mk.inj hf;subst h1 h2;clear hf;dsimp only at q;refine⟨aR Av Γ ad,bx Γ,ao,G.gz,G.iT,e1,fun J xs kg H1 s1 rx ov=>?_⟩;refine⟨fun k m ys H2=>m=ao.length-k/\k<=ao.length/\∃l8 o1 o2 df,GA K aj Av pn aE H2 σ (Γ.set i (some (.own l8))) ad/\ay K H2 (aR Av Γ ad) xs kg/\ay K H2 (aR Av Γ ad) ys o1/\o1.length<=k/\kh gt fe (kb (dF cg (bx Γ))) (ao.drop k) l8=some (o2,df)/\ze=o1++o2/\Ae=df,
    ⟨_,rfl,zero_le _,Ag,[],ze,Ae,?_,rx,.nil,le_refl _,by rw[drop_zero];exact e2,rfl,rfl⟩,?_⟩
   ·have:Γ.set i (some (.own Ag))=Γ:=by
     apply List.ext_getElem?
     intro j;by_cases e:j=i
     ·subst e;rw[getElem?_set_self (dY hi),hi]
     ·rw[getElem?_set_ne (Ne.symm e)]
    rw[this];exact G.grow s1
   rintro k m ys H2 ⟨rfl,hk,l8,o1,o2,df,G2,rx,ro,hl,hc,rfl,rfl⟩;have GC:(Γ.set i (some (Slot.own l8)))[i]?=some (some (.own l8)):=getElem?_set_self (dY hi);refine⟨by have:=ro.length;omega,?_⟩;have Q1:gE H2 (aR Av Γ ad):=fun b z=>G2.gz b (aR.gi hi b z);cases gu:ao[k]? with
   |none=>
    have hle:ao.length<=k:=List.getElem?_eq_none_iff.mp gu;rw[drop_eq_nil_of_le hle]at hc;cases hc;refine .inl ⟨(ov k H2 _ rx).1 hle,fun D hD=>q H2 D ys ad G2 hD ?_⟩;rw[append_nil];exact ro.weak (aR.set_own hi)
   |some di=>
    have dJ:=dY gu;rw[drop_cons gu]at hc;obtain⟨as,a1,hc⟩:=bind_some (show(gt di).bind _=some (o2,Ae)from hc);obtain⟨⟨dv,Ex⟩,a2,hc⟩:=bind_some hc;dsimp only at hc;split at hc
    ·rename_i Af h0;obtain⟨⟨o3,Pr⟩,a3,hc⟩:=ba hc;cases hc;obtain⟨go,yl⟩:=(ov k H2 _ rx).2 di gu;refine .inr ⟨go,fun y H' hy=>?_⟩;obtain⟨sH,ry⟩:=yl y H' Q1 hy;refine⟨aR Av Γ ad,di,as,ry,a1,fun ws hw=>?_⟩;have cs:∀p∈as,(bW (some i::cg) σ)[p.1]?=some none:=fun p hp=>by
      unfold bW;rw[getElem?_map,ht di as a1 p hp];rfl
     have G3:=G2.grow sH;obtain⟨zs,g1,g2,g3,g4⟩:=G3.own i l8 GC;have GG:bW (some i::cg) σ=some (.ref (ad i))::bW cg σ:=by
      unfold bW;rw[map_cons];show((σ[i]?).join)::_=_;rw[g1];rfl
     have E3:eZ K H' (aR Av Γ ad) (bW cg σ) (dF cg (bx Γ)):=by
      have:=G3.iT;rw[zB hi]at this;exact eZ.bh (fun j d h=>let ⟨v,e,r⟩:=this j d h;⟨v,e,r.weak (aR.gi hi)⟩) cg
     have Q0:gE H' (aR Av Γ ad):=fun b z=>G3.gz b (aR.gi hi b z);have Gb:=A1 (K:=K) (a:=ad i) Q0 (.inr ⟨i,_,hi,rfl,rfl⟩) g2 (g3.weak (aR.gi hi)) E3 (by unfold bW dF;rw[length_map,length_map]);have N3:∀b,aR (fun b=>aR Av Γ ad b/\b≠ad i) (some (.own l8)::kb (dF cg (bx Γ))) (fun _=>ad i) b->aR Av Γ ad b:=by
      rintro b (z|⟨_,_,_,_,rfl⟩)
      ·exact z.1
      ·exact .inr ⟨i,_,hi,rfl,rfl⟩
     rw[GG];rw[GG]at cs;refine⟨eI.ia hw cs (eI.refl _),?_⟩;simp only[yr,if_true];refine⟨_,_,some (ad i),[],_,_,dv,Ex,GA.Bw hw N3 Gb,a2,fun v H4 Hw G4 r4=>?_⟩;obtain⟨us,u1,u2,u3,u4⟩:=G4.own 0 Af h0;have ea:Hw 0=ad i:=G4.pin _ _ rfl h0;have EC:∀b,aR Av Γ ad b->aR (fun b=>aR Av Γ ad b/\b≠ad i) Ex Hw b:=fun b z=>by
      by_cases eb:b=ad i
      ·exact .inr ⟨0,_,h0,rfl,ea.trans eb.symm⟩
      ·exact .inl ⟨z,eb⟩
     have kk:∀b o,H' b=some o->b≠ad i->H4 b=some o:=fun b o h ne=>G4.same b o (by rw[if_neg ne];exact h);have kp:lB H' (aR Av Γ ad) H4 (aR Av Γ ad):=fun b o h n=>⟨kk b o h fun z=>n (.inr ⟨i,_,hi,rfl,z.symm⟩),n⟩;have G5:=G3.lend (es:=Af) GC kk (by rw[<- ea];exact u2) (u3.weak fun b z=>EC b (aR.set_own (es:=l8) hi b z));rw[List.set_set]at G5;refine⟨ao.length-(k+1),by omega,rfl,by omega,Af,o1++[dv],o3,Pr,G5,(rx.same sH).mono kp,((ro.same sH).mono kp).append (.cons (r4.weak EC) .nil),?_,a3,?_,rfl⟩
     ·rw[length_append,length_singleton];omega
     ·rw[append_assoc];rfl
    ·cases hc
  ·cases hf
 ·cases hf
theorem p7{tn fv:List Str}{js:List Nat}(pA:closureFor scope X.env=pure (fv.map fun x=>(x,(X.env.cells.lookup x).getD 0)))(hf:∀y∈scope.names,y.2=.free->y.1∈fv)(hc:∀y∈scope.names,y.2≠.cell)(hk:scope.kind=.function)(hn:∀y∈scope.names,y.2=.local->scope.names.lookup y.1=some .local)(nd:(tn++fv).Nodup)(hl:fv.length=js.length)(hs:∀x∈fv,∃c,X.env.cells.lookup x=some c)(hj:∀p∈fv.zip js,X.N[p.2]?=some p.1/\mS X.env.scope p.1/\((relabel scope X.env).names.lookup p.1=some .cell\/(relabel scope X.env).names.lookup p.1=some .free)/\X.env.scope.names.lookup p.1≠some .local):
  pK X scope (fv.map fun x=>(x,(X.env.cells.lookup x).getD 0)) (fv++tn) (js.map some++(tn.map fun _=>none)):=by
 have B:=fI (X:=X) (tn:=tn) (js:=js) pA hf hc hk hn nd hl hs hj;refine⟨B.Js,B.cells,B.kind,B.names,?_,by rw[length_append,length_append,length_map,length_map,hl],B.sub,B.has,fun i x j e1 e2=>?_⟩
 ·exact(List.perm_append_comm (l₁:=tn) (l₂:=fv)).nodup_iff.mp nd
 ·by_cases hi:i<fv.length
  ·rw[getElem?_append_left hi]at e1;rw[getElem?_append_left (by rw[length_map,<- hl];exact hi),getElem?_map]at e2;cases ej:js[i]? with
   |none=>rw[ej]at e2;cases e2
   |some j'=>
    rw[ej]at e2;cases e2;refine hj (x,j) (mem_of_getElem? (i:=i) ?_);rw[List.getElem?_zip_eq_some];exact⟨e1,ej⟩
  ·rw[getElem?_append_right (by rw[length_map,<- hl];omega),getElem?_map]at e2;cases ej:tn[i-(js.map some).length]? with
   |none=>rw[ej]at e2;cases e2
   |some j'=>rw[ej]at e2;cases e2
set_option maxHeartbeats 4000000
open PySem PySem.Spec PyProof.Rows L2
open PySem.W (Dat kqdOk)
def lI:Bool->Heap->Addr->Array Value->Prop
 |true,h,a,ao=>h.IsList a ao
 |false,h,a,ao=>h.IsTuple a ao
def jc:Bool->Heap->Addr->Addr->Nat->Prop
 |true,h,it,a,i=>h.IsListIter it a i
 |false,h,it,a,i=>h.IsTupleIter it a i
variable {k:Bool} {h h':Heap} {a:Addr} {ao:Array Value}
theorem lI.on(x:lI k h a ao)(e:∀o,h.get? a=some o->h'.get? a=some o):lI k h' a ao:=by
 cases k<;>exact let ⟨o,ho,r⟩:=x;⟨o,e o ho,r⟩
variable {it:Addr}
theorem jc.on(x:jc k h it a i)(e:∀o,h.get? it=some o->h'.get? it=some o):jc k h' it a i:=by
 cases k<;>exact let ⟨o,ho,r⟩:=x;⟨o,e o ho,r⟩
theorem jc.obj(x:jc k h it a i):∃o,h.get? it=some o/\∀v,o.data≠.cell v:=by
 cases k<;>exact let ⟨o,ho,_,hd⟩:=x;⟨o,ho,fun v z=>by rw[hd]at z;cases z⟩
theorem lI.obj(x:lI k h a ao):∃o,h.get? a=some o:=by
 cases k<;>exact let ⟨o,ho,_⟩:=x;⟨o,ho⟩
variable {A:Around} {prog:Program} {E Q:Value->Shared->Prop}
variable {s:Shared} in
theorem E7{ii la:Addr}{x:Value}(hit:jc k s.heap ii la i)(hq:lI k s.heap la ao)(hx:ao[i]?=some x)(hQ:∀h',jc k h' ii la (i+1)->SameBut ii s.heap h'->Q x {s with heap:=h'}):wpAny (model prog w) A (Builtin.SmallTypes.nextOf (.ref ii)) Q E s:=by
 cases k with
 |true=>exact wpAny_nextOf_list_item hit hq hx hQ
 |false=>
  have t6:s.heap.IsTupleIter ii la i:=hit;obtain⟨oi,pi,ci,di⟩:=id t6;obtain⟨oa,pa,_,na,da⟩:=(show s.heap.IsTuple la ao from hq);unfold Builtin.SmallTypes.nextOf;refine wpAny_bind (wpAny_callSpecial?_slot (name:=Str.ofString "__next__") t6.typeIs F.slot_tuple_iterator_next (wpAny_call_entry F.slot_tuple_iterator_next t6.typeIs F.entry_tuple_iterator_next ?_ (F.args_tuple_iterator_next_1 _)));show wpAny _ _ (field (.ref ii) 0 >>= _) _ _ s;refine wpAny_bind (wpAny_field pi di (x:=.ref la) rfl ?_);show wpAny _ _ (if(Value.ref la==Value.none)=true then _ else _) _ _ s;rw[if_neg (show ¬((Value.ref la==Value.none)=true)from Bool.false_ne_true)];show wpAny _ _ (field (.ref ii) 1 >>= _) _ _ s;refine wpAny_bind (wpAny_field pi di (x:=.int i 0) rfl ?_);show wpAny _ _ (seqItems? (.ref la) >>= _) _ _ s;refine wpAny_bind (wpAny_seqItems pa da ?_);simp only[hx,toNat_natCast];exact wpAny_bind (wpAny_setField pi di (by simp) (wpAny_pure ⟨x,rfl,wpAny_pure (hQ _ ⟨_,Heap.get?_update_self _ pi (Obj.isFreed_of_fields (Obj.data_mapFields di _)),(Obj.cls_mapFields ..).trans ci,by rw[Obj.data_mapFields di];simp[rawInt]⟩ (SameBut.update ..))⟩))
variable {s:Shared} in
theorem xy{ii la:Addr}(hh:A.handled=none)(hit:jc k s.heap ii la i)(hq:lI k s.heap la ao)(hx:ao[i]?=none)(hE:∀h' e,Heap.ExtBut ii s.heap h'->(∃o,h'.get? e=some o/\o.cls=.type "StopIteration")->E (.ref e) {s with heap:=h'}):wpAny (model prog w) A (Builtin.SmallTypes.nextOf (.ref ii)) Q E s:=by
 cases k with
 |true=>exact wpAny_nextOf_list_end hh hit hq hx hE
 |false=>
  have t6:s.heap.IsTupleIter ii la i:=hit;obtain⟨oi,pi,ci,di⟩:=id t6;obtain⟨oa,pa,_,na,da⟩:=(show s.heap.IsTuple la ao from hq);unfold Builtin.SmallTypes.nextOf;refine wpAny_bind (wpAny_callSpecial?_slot (name:=Str.ofString "__next__") t6.typeIs F.slot_tuple_iterator_next (wpAny_call_entry F.slot_tuple_iterator_next t6.typeIs F.entry_tuple_iterator_next ?_ (F.args_tuple_iterator_next_1 _)));show wpAny _ _ (field (.ref ii) 0 >>= _) _ _ s;refine wpAny_bind (wpAny_field pi di (x:=.ref la) rfl ?_);show wpAny _ _ (if(Value.ref la==Value.none)=true then _ else _) _ _ s;rw[if_neg (show ¬((Value.ref la==Value.none)=true)from Bool.false_ne_true)];show wpAny _ _ (field (.ref ii) 1 >>= _) _ _ s;refine wpAny_bind (wpAny_field pi di (x:=.int i 0) rfl ?_);show wpAny _ _ (seqItems? (.ref la) >>= _) _ _ s;refine wpAny_bind (wpAny_seqItems pa da ?_);simp only[hx,toNat_natCast];refine wpAny_bind (wpAny_rule (wpAny_bind (wpAny_setField pi di (by simp) (?_:wpAny _ _ (newExc (.type "StopIteration") [] >>= _) _ _ _))));refine wpAny_bind (by
   simp only[newExc,newTuple];exact wpAny_bind (wpAny_newObj_type (wpAny_bind (m:=firstArgMember _ _) (wpAny_of_eq (a:=Value.none) (by first|rfl|(simp only[firstArgMember];rfl)) (wpAny_newObj_type (by
    simp only[raiseNew];exact wpAny_bind (wpAny_handled (by
     (first|rw[show A.in1.handled=none from hh]|rw[hh])
     exact wpAny_bind (wpAny_pure (wpAny_throw (hE _ _ (((SameBut.update ..).extBut.push _).push _) ⟨_,get?_push_size _ rfl,rfl⟩)))))) (by size_fits)))) (by size_fits)))
abbrev La (h:Heap) (z TI TO i1 i2:Addr) (f0:Value) (x y:Value):Prop:=IsZip h z TI TO f0/\IsPair h TI (.ref i1) (.ref i2)/\IsPair h TO x y
variable {k1 k2:Bool} {z i1 i2 l1 l2:Addr} {n1 n2:Nat} {xs ys:Array Value}
variable {s:Shared} in
theorem EA{TI TO:Addr}{x y a b:Value}(D:ZipApart z TI TO i1 i2 l1 l2)(Z:La s.heap z TI TO i1 i2 .none a b)(w1:jc k1 s.heap i1 l1 n1)(w2:jc k2 s.heap i2 l2 n2)(q1:lI k1 s.heap l1 xs)(q2:lI k2 s.heap l2 ys)(hx:xs[n1]?=some x)(hy:ys[n2]?=some y)(hQ:∀h',IsZip h' z TI TO (rawInt s.heap.objs.size)->IsPair h' TO x y->jc k1 h' i1 l1 (n1+1)->jc k2 h' i2 l2 (n2+1)->IsPair h' s.heap.objs.size x y->
   (∀c o,c≠z->c≠TO->c≠i1->c≠i2->s.heap.get? c=some o->h'.get? c=some o)->Q (.ref s.heap.objs.size) {s with heap:=h'}):
  wpAny (model prog w) A (Builtin.«zip.__next__» ⟨[.ref z],[]⟩) (fun fin s'=>∃v,fin=.done (.ret v)/\Q v s') E s:=by
 obtain⟨Zz,ZI,ZO⟩:=Z;refine(?_:wpAny _ _ (field (.ref z) 2 >>= _) _ _ _);refine wpAny_bind (wpAny_field Zz rfl (x:=.bool false) rfl (?_:wpAny _ _ (field (.ref z) 3 >>= _) _ _ _));refine wpAny_bind (wpAny_field Zz rfl (x:=.ref TI) rfl (wpAny_bind (wpAny_seqItems ZI rfl ?_)));refine(?_:wpAny _ _ (Builtin.SmallTypes.ownedTupleIsFree (.ref z) >>= _) _ _ _);refine wpAny_bind (by
  unfold Builtin.SmallTypes.ownedTupleIsFree;exact wpAny_bind (wpAny_field Zz rfl (x:=.none) rfl (wpAny_pure (by
   simp only[if_true];refine wpAny_bind (wpAny_rule (wpAny_bind (wpAny_field Zz rfl (x:=.ref TO) rfl (wpAny_bind (wpAny_setField_rec Zz (by simp) fun g1 z1 m1=>?_)))));have JL:IsZip g1 z TI TO .ellipsis:=z1;refine wpAny_bind ?_;simp only[List.forIn_cons,List.forIn_nil,List.zipIdx_cons,List.zipIdx_nil];refine wpAny_bind (wpAny_bind (wpAny_onRaise (?_:wpAny _ _ (Builtin.SmallTypes.nextOf (.ref i1) >>= _) _ _ _)));refine wpAny_bind (E7 (w1.on fun o e=>m1.extBut _ _ D.i1z e) (q1.on fun o e=>m1.extBut _ _ D.l1z e) hx fun g2 v2 m2=>wpAny_pure ?_);have o2:IsPair g2 TO a b:=m2.extBut _ _ D.TOi1 (m1.extBut _ _ D.TOz ZO);refine wpAny_bind (wpAny_seqItems o2 rfl (wpAny_bind (wpAny_updateSeq_pair o2 fun g3 p3 m3=>wpAny_bind (wpAny_letGo (wpAny_pure ?_)))));have o3:IsPair g3 TO x b:=p3;refine wpAny_bind (wpAny_bind (wpAny_onRaise (?_:wpAny _ _ (Builtin.SmallTypes.nextOf (.ref i2) >>= _) _ _ _)));refine wpAny_bind (E7 (w2.on fun o e=>m3.extBut _ _ D.TOi2.symm (m2.extBut _ _ D.i12.symm (m1.extBut _ _ D.i2z e))) (q2.on fun o e=>m3.extBut _ _ D.l2TO (m2.extBut _ _ D.l2i1 (m1.extBut _ _ D.l2z e))) hy fun g4 v4 m4=>wpAny_pure ?_);have o4:IsPair g4 TO x b:=m4.extBut _ _ D.TOi2 o3;refine wpAny_bind (wpAny_seqItems o4 rfl (wpAny_bind (wpAny_updateSeq_pair o4 fun g5 p5 m5=>wpAny_bind (wpAny_letGo (wpAny_pure (wpAny_pure ?_))))));have o5:IsPair g5 TO x y:=p5;refine wpAny_bind (wpAny_seqItems o5 rfl (wpAny_bind (wpAny_newTuple ?_)));have sz:g5.objs.size=s.heap.objs.size:=by rw[m5.1,m4.1,m3.1,m2.1,m1.1]
   have z5:IsZip g5 z TI TO .ellipsis:=m5.extBut _ _ D.TOz.symm (m4.extBut _ _ D.i2z.symm (m3.extBut _ _ D.TOz.symm (m2.extBut _ _ D.i1z.symm JL)));have k5:∀c o,c≠z->c≠TO->c≠i1->c≠i2->s.heap.get? c=some o->g5.get? c=some o:=fun c o a1 a2 a3 a4 e=>m5.extBut _ _ a2 (m4.extBut _ _ a4 (m3.extBut _ _ a2 (m2.extBut _ _ a3 (m1.extBut _ _ a1 e))));have v5:jc k1 g5 i1 l1 (n1+1):=v2.on fun o e=>m5.extBut _ _ D.TOi1.symm (m4.extBut _ _ D.i12 (m3.extBut _ _ D.TOi1.symm e));have v6:jc k2 g5 i2 l2 (n2+1):=v4.on fun o e=>m5.extBut _ _ D.TOi2.symm e;have zl:z<g5.objs.size:=lt_size z5;refine(?_:wpAny _ _ (Builtin.SmallTypes.ownedTupleHandOut (.ref z) (.ref g5.objs.size) >>= _) _ _ _);refine wpAny_bind (by
    unfold Builtin.SmallTypes.ownedTupleHandOut;have z6:IsZip (g5.push {cls:=.type "tuple",data:=.seq #[x,y]}) z TI TO .ellipsis:=get?_push_of_some _ z5;refine wpAny_bind (wpAny_setField_rec z6 (by simp) fun g7 z7 m7=>?_);have Vo:IsZip g7 z TI TO (rawInt g5.objs.size):=z7;refine wpAny_setField_rec Vo (by simp) fun g8 z8 m8=>?_;have RP:IsZip g8 z TI TO (rawInt g5.objs.size):=z8;have up:∀c o,c≠z->g5.get? c=some o->g8.get? c=some o:=fun c o c1 e=>m8.extBut _ _ c1 (m7.extBut _ _ c1 (get?_push_of_some _ e));have t8:IsPair g8 g5.objs.size x y:=m8.extBut _ _ (Nat.ne_of_gt zl) (m7.extBut _ _ (Nat.ne_of_gt zl) (get?_push_size _ rfl));rw[sz]at RP t8;refine wpAny_pure ⟨_,rfl,(?_:Q (.ref g5.objs.size) _)⟩;rw[sz];exact hQ g8 RP (up _ _ D.TOz o5) (v5.on fun o e=>up _ o D.i1z e) (v6.on fun o e=>up _ o D.i2z e) t8 fun c o c1 c2 c3 c4 e=>up c o c1 (k5 c o c1 c2 c3 c4 e)))))
  )
variable {s:Shared} in
theorem Ez{TI TO:Addr}{a b:Value}{Q:Fin->Shared->Prop}(hh:A.handled=none)(D:ZipApart z TI TO i1 i2 l1 l2)(Z:La s.heap z TI TO i1 i2 .none a b)(w1:jc k1 s.heap i1 l1 n1)(w2:jc k2 s.heap i2 l2 n2)(q1:lI k1 s.heap l1 xs)(q2:lI k2 s.heap l2 ys)(J1:xs[n1]?=none\/ys[n2]?=none)(hE:∀h' e,(∀c o,c≠z->c≠TO->c≠i1->c≠i2->s.heap.get? c=some o->h'.get? c=some o)->(∃o,h'.get? e=some o/\o.cls=.type "StopIteration")->E (.ref e) {s with heap:=h'}):
  wpAny (model prog w) A (Builtin.«zip.__next__» ⟨[.ref z],[]⟩) Q E s:=by
 obtain⟨Zz,ZI,ZO⟩:=Z;refine(?_:wpAny _ _ (field (.ref z) 2 >>= _) _ _ _);refine wpAny_bind (wpAny_field Zz rfl (x:=.bool false) rfl (?_:wpAny _ _ (field (.ref z) 3 >>= _) _ _ _));refine wpAny_bind (wpAny_field Zz rfl (x:=.ref TI) rfl (wpAny_bind (wpAny_seqItems ZI rfl ?_)));refine(?_:wpAny _ _ (Builtin.SmallTypes.ownedTupleIsFree (.ref z) >>= _) _ _ _);refine wpAny_bind (by
  unfold Builtin.SmallTypes.ownedTupleIsFree;exact wpAny_bind (wpAny_field Zz rfl (x:=.none) rfl (wpAny_pure (by
   simp only[if_true];refine wpAny_bind (wpAny_rule (wpAny_bind (wpAny_field Zz rfl (x:=.ref TO) rfl (wpAny_bind (wpAny_setField_rec Zz (by simp) fun g1 z1 m1=>?_)))));have JL:IsZip g1 z TI TO .ellipsis:=z1;refine wpAny_bind ?_;simp only[List.forIn_cons,List.forIn_nil,List.zipIdx_cons,List.zipIdx_nil];refine wpAny_bind (wpAny_bind (wpAny_onRaise (?_:wpAny _ _ (Builtin.SmallTypes.nextOf (.ref i1) >>= _) _ _ _)));cases hx:xs[n1]? with
   |none=>
    refine wpAny_bind (xy hh (w1.on fun o e=>m1.extBut _ _ D.i1z e) (q1.on fun o e=>m1.extBut _ _ D.l1z e) hx fun g2 e m2 he=>?_);obtain⟨oe,pe,ce⟩:=he;have z2:IsZip g2 z TI TO .ellipsis:=m2 _ _ D.i1z.symm JL;have ez:e≠z:=fun x=>by subst x;rw[z2]at pe;cases pe;simp at ce
    exact wpAny_setField_rec z2 (by simp) fun g3 _ m3=>hE g3 e (fun c o c1 _ c3 _ x=>m3.extBut _ _ c1 (m2 _ _ c3 (m1.extBut _ _ c1 x))) ⟨oe,m3.extBut _ _ ez pe,ce⟩
   |some x=>
    have hy:ys[n2]?=none:=J1.elim (fun h=>by rw[hx]at h;cases h) id;refine wpAny_bind (E7 (w1.on fun o e=>m1.extBut _ _ D.i1z e) (q1.on fun o e=>m1.extBut _ _ D.l1z e) hx fun g2 v2 m2=>wpAny_pure ?_);have o2:IsPair g2 TO a b:=m2.extBut _ _ D.TOi1 (m1.extBut _ _ D.TOz ZO);refine wpAny_bind (wpAny_seqItems o2 rfl (wpAny_bind (wpAny_updateSeq_pair o2 fun g3 p3 m3=>wpAny_bind (wpAny_letGo (wpAny_pure ?_)))));refine wpAny_bind (wpAny_bind (wpAny_onRaise (?_:wpAny _ _ (Builtin.SmallTypes.nextOf (.ref i2) >>= _) _ _ _)));refine wpAny_bind (xy hh (w2.on fun o e=>m3.extBut _ _ D.TOi2.symm (m2.extBut _ _ D.i12.symm (m1.extBut _ _ D.i2z e))) (q2.on fun o e=>m3.extBut _ _ D.l2TO (m2.extBut _ _ D.l2i1 (m1.extBut _ _ D.l2z e))) hy fun g4 e m4 he=>?_);obtain⟨oe,pe,ce⟩:=he;have z4:IsZip g4 z TI TO .ellipsis:=m4 _ _ D.i2z.symm (m3.extBut _ _ D.TOz.symm (m2.extBut _ _ D.i1z.symm JL));have ez:e≠z:=fun x=>by subst x;rw[z4]at pe;cases pe;simp at ce
    exact wpAny_setField_rec z4 (by simp) fun g5 _ m5=>hE g5 e (fun c o c1 c2 c3 c4 x=>m5.extBut _ _ c1 (m4 _ _ c4 (m3.extBut _ _ c2 (m2.extBut _ _ c3 (m1.extBut _ _ c1 x))))) ⟨oe,m5.extBut _ _ ez pe,ce⟩))))
def kK (k:Bool) (l:Addr):Obj:={cls:=.type (if k then "list_iterator" else "tuple_iterator"),data:=.fields #[.ref l,.int 0 0]}
def tO (k1 k2:Bool) (h:Heap) (l1 l2:Addr):Heap:=(h.push (kK k1 l1)).push (kK k2 l2)
def Bf (k1 k2:Bool) (h:Heap) (l1 l2:Addr):Heap:=((tO k1 k2 h l1 l2).push {cls:=.type "tuple",data:=.seq #[.ref h.objs.size,.ref (h.push (kK k1 l1)).objs.size]}).push {cls:=.type "tuple",data:=.seq #[.none,.none]}
def rQ (k1 k2:Bool) (h:Heap) (l1 l2:Addr):Heap:=(Bf k1 k2 h l1 l2).push {cls:=.type "zip",data:=.fields #[.none,.bool false,.bool false,.ref (tO k1 k2 h l1 l2).objs.size,.ref ((tO k1 k2 h l1 l2).push {cls:=.type "tuple",data:=.seq #[.ref h.objs.size,.ref (h.push (kK k1 l1)).objs.size]}).objs.size]}
variable {s:Shared} in
theorem HR(k1 k2:Bool)(l1 l2:Addr)(xs ys:Array Value):
  Meets (Builtin.«zip.__new__» ⟨[.type "zip",.ref l1,.ref l2],[]⟩) (fun _ R s=>lI k1 s.heap l1 xs/\lI k2 s.heap l2 ys/\R (.ok (.ret (.ref (Bf k1 k2 s.heap l1 l2).objs.size))) {s with heap:=rQ k1 k2 s.heap l1 l2}):=
 .of_wp fun prog w A R s h=>by
  obtain⟨hp,g,d,tk,os⟩:=s;obtain⟨c1,c2,h⟩:=h;have UP:=sub_zip;cases k1<;>cases k2
  ·have e1:IsTuple (Shared.heap ⟨hp,g,d,tk,os⟩) l1 xs:=c1;have e2:IsTuple (Shared.heap ⟨hp.push {cls:=.type "tuple_iterator",data:=.fields #[.ref l1,.int 0 0]},g,d,tk,os⟩) l2 ys:=IsTuple.push c2 _;wp_walk using wpAny_pyIter_tuple e1,wpAny_pyIter_tuple e2
   exact⟨_,rfl,h⟩
  ·have e1:IsTuple (Shared.heap ⟨hp,g,d,tk,os⟩) l1 xs:=c1;have e2:IsList (Shared.heap ⟨hp.push {cls:=.type "tuple_iterator",data:=.fields #[.ref l1,.int 0 0]},g,d,tk,os⟩) l2 ys:=IsList.push c2 _;wp_walk using wpAny_pyIter_tuple e1,wpAny_pyIter_list e2
   exact⟨_,rfl,h⟩
  ·have e1:IsList (Shared.heap ⟨hp,g,d,tk,os⟩) l1 xs:=c1;have e2:IsTuple (Shared.heap ⟨hp.push {cls:=.type "list_iterator",data:=.fields #[.ref l1,.int 0 0]},g,d,tk,os⟩) l2 ys:=IsTuple.push c2 _;wp_walk using wpAny_pyIter_list e1,wpAny_pyIter_tuple e2
   exact⟨_,rfl,h⟩
  ·have e1:IsList (Shared.heap ⟨hp,g,d,tk,os⟩) l1 xs:=c1;have e2:IsList (Shared.heap ⟨hp.push {cls:=.type "list_iterator",data:=.fields #[.ref l1,.int 0 0]},g,d,tk,os⟩) l2 ys:=IsList.push c2 _;wp_walk using wpAny_pyIter_list e1,wpAny_pyIter_list e2
   exact⟨_,rfl,h⟩
variable {s:Shared} in
theorem Hr(c1:lI k1 s.heap l1 xs)(c2:lI k2 s.heap l2 ys)(h:∀h' z TI TO i1 i2,ZipApart z TI TO i1 i2 l1 l2->La h' z TI TO i1 i2 .none .none .none->jc k1 h' i1 l1 0->jc k2 h' i2 l2 0->(∀c o,s.heap.get? c=some o->h'.get? c=some o)->(∀b∈[z,TI,TO,i1,i2],s.heap.objs.size<=b)->Q (.ref z) {s with heap:=h'}):
  wpAny (model prog w) A (call (.type "zip") [.ref l1,.ref l2]) Q E s:=by
 obtain⟨o1,p1⟩:=c1.obj;obtain⟨o2,p2⟩:=c2.obj;refine callType_new F.called_zip (by decide) (F.typeCall_zip_2 _ _) (F.newCall_zip_2 _ _) (fun obj=>F.args_object_init_3 obj _ _) F.entry_zip_new (HR k1 k2 l1 l2 xs ys) ⟨c1,c2,?_⟩;generalize hn:s.heap.objs.size=n;have VN:l1<n:=hn▸lt_size p1;have Oe:l2<n:=hn▸lt_size p2;have y1:(s.heap.push (kK k1 l1)).objs.size=n+1:=by rw[size_push,hn]
 have y2:(tO k1 k2 s.heap l1 l2).objs.size=n+2:=by unfold tO;rw[size_push,y1]
 have y3:((tO k1 k2 s.heap l1 l2).push {cls:=.type "tuple",data:=.seq #[.ref s.heap.objs.size,.ref (s.heap.push (kK k1 l1)).objs.size]}).objs.size=n+3:=by rw[size_push,y2]
 have y4:(Bf k1 k2 s.heap l1 l2).objs.size=n+4:=by unfold Bf;rw[size_push,y3]
 have N4:∀c o,(Bf k1 k2 s.heap l1 l2).get? c=some o->(rQ k1 k2 s.heap l1 l2).get? c=some o:=fun c o e=>get?_push_of_some _ e;have N5:∀c o,(tO k1 k2 s.heap l1 l2).get? c=some o->(rQ k1 k2 s.heap l1 l2).get? c=some o:=fun c o e=>N4 c o (get?_push_of_some _ (get?_push_of_some _ e));have f5:(rQ k1 k2 s.heap l1 l2).get? (Bf k1 k2 s.heap l1 l2).objs.size=some _:=get?_push_size _ rfl;have f4:(rQ k1 k2 s.heap l1 l2).get? ((tO k1 k2 s.heap l1 l2).push {cls:=.type "tuple",data:=.seq #[.ref s.heap.objs.size,.ref (s.heap.push (kK k1 l1)).objs.size]}).objs.size=some _:=N4 _ _ (get?_push_size _ rfl);have f3:(rQ k1 k2 s.heap l1 l2).get? (tO k1 k2 s.heap l1 l2).objs.size=some _:=N4 _ _ (get?_push_of_some _ (get?_push_size _ rfl));have f2:(rQ k1 k2 s.heap l1 l2).get? (s.heap.push (kK k1 l1)).objs.size=some (kK k2 l2):=N5 _ _ (get?_push_size _ (by cases k2<;>rfl));have f1:(rQ k1 k2 s.heap l1 l2).get? s.heap.objs.size=some (kK k1 l1):=N5 _ _ (get?_push_of_some _ (get?_push_size _ (by cases k1<;>rfl)));rw[y2,y3,y4]at f5;rw[y3]at f4;rw[y2,y1,hn]at f3;rw[y1]at f2;rw[hn]at f1;have r1:jc k1 (rQ k1 k2 s.heap l1 l2) n l1 0:=by cases k1<;>exact⟨_,f1,rfl,rfl⟩
 have r2:jc k2 (rQ k1 k2 s.heap l1 l2) (n+1) l2 0:=by cases k2<;>exact⟨_,f2,rfl,rfl⟩
 refine(?_:_/\_);rw[y4];refine⟨⟨_,f5,rfl⟩,h _ (n+4) (n+2) (n+3) n (n+1) (zipApart_new VN Oe) ⟨f5,f3,f4⟩ r1 r2 (fun c o e=>N5 _ _ (get?_push_of_some _ (get?_push_of_some _ e))) fun b hb=>?_⟩;rw[hn];simp only[mem_cons,not_mem_nil,or_false]at hb;rcases hb with e|e|e|e|e<;>(rw[e];first|exact le_refl _|exact le_add_right _ _)
open PySem PySem.Spec PyProof.Rows L2
open PySem.W (Dat kqdOk)
variable {pins:List (Addr×Obj)}
variable {s:Shared} in
theorem qX{t':Nat}{ch:List Addr}(I:Inv X pins σ H s)(k:∀b o,b∉ch->s.heap.get? b=some o->h'.get? b=some o)(hf:∀b∈ch,p9 X pins H b):Inv X pins σ H {s with heap:=h',toks:=t'}:=by
 have out:∀b u,H b=some u->b∉ch:=fun b u e z=>by rw[(hf b z).1]at e;cases e
 refine I.step (g':=s.gens) (d':=s.drawn) (ch:=ch) (fun b hb=>?_) (fun b o _ _ hc e _=>k b o hc e) (fun b o _ _ hc e _=>⟨o.slots,k b o hc e⟩) (fun _ _ _ _ n=>n)
  (fun b o hc e=>⟨o,k b o hc e⟩) (fun _ _ e=>e) (fun _ _ _ e=>e) (fun b ps e=>⟨#[],by rw[e];simp⟩) (fun m hm=>?_) (fun b u e=>?_) I.bare
 ·obtain⟨_,f1,_,f3,f4,f5⟩:=hf b hb;exact⟨f3,f1,f4,f5⟩
 ·obtain⟨o,es,ep,ho,r⟩:=hm;exact⟨o,es,ep,k _ o (fun z=>(hf _ z).2.1 rfl) ho,r⟩
 ·refine(I.bF b u e).nJ (fun c v hc q=>k c v (hc.elim (fun z=>by rw[z];exact out b u e) fun z=>out c _ z) q) (fun _ q=>q) fun _ _ q=>q
def pI (K:Fg):Bool->Hp->Addr->List V->Prop
 |true,H,a,xs=>fF K H a xs
 |false,H,a,xs=>jb K H a xs
variable {xs:List V}
theorem vn{σ:L2.St}{s:Shared}(I:Inv X pins σ H s)(h:pI X.K k H a xs):∃ao:List Value,Vals xs ao/\lI k s.heap a ao.toArray:=by
 cases k with
 |true=>obtain⟨ao,r,p,_⟩:=I.list h;exact⟨ao,r,p.isList⟩
 |false=>obtain⟨ao,r,p,_⟩:=I.tuple h;exact⟨ao,r,show s.heap.IsTuple a ao.toArray from p⟩
theorem yz{σ:L2.St}{s:Shared}{ys:List V}(I:Inv X pins σ H s)(h:pI X.K k H a xs)(h':pI X.K k H a ys):xs=ys:=by
 cases k with
 |true=>exact I.sZ h h'
 |false=>exact I.wA h h'
def TJ (K:Fg) (k1 k2:Bool) (a1 a2:Addr):It:=
 ⟨fun i H=>∃xs ys x y,pI K k1 H a1 xs/\pI K k2 H a2 ys/\xs[i]?=some x/\ys[i]?=some y,
  fun i H v H'=>∃T x y,v=.ref T/\H T=none/\H'=upd H T (.tup [x,y])/\∀xs ys,pI K k1 H a1 xs->pI K k2 H a2 ys->xs[i]?=some x/\ys[i]?=some y,
  fun i H=>∃xs ys,pI K k1 H a1 xs/\pI K k2 H a2 ys/\(xs.length<=i\/ys.length<=i)⟩
variable {kt:Nat} {a1 a2:Addr}
theorem HU{dU:List Expr}{pt:Pos}{TI TO:Addr}(D:ZipApart z TI TO i1 i2 a1 a2):
  Turn P w K (.Tuple dU kt pt) (TJ K k1 k2 a1 a2) [z,TI,TO,i1,i2] z (fun i h=>(∃a b,La h z TI TO i1 i2 .none a b)/\jc k1 h i1 a1 i/\jc k2 h i2 a2 i) where
 mem:=mem_cons_self
 obj:=fun i h st b hb=>by
  obtain⟨⟨u,v,Z1,Z2,Z3⟩,w1,w2⟩:=st;simp only[mem_cons,not_mem_nil,or_false]at hb;rcases hb with e|e|e|e|e
  ·rw[e];exact⟨_,Z1,fun v z=>nomatch z⟩
  ·rw[e];exact⟨_,Z2,fun v z=>nomatch z⟩
  ·rw[e];exact⟨_,Z3,fun v z=>nomatch z⟩
  ·rw[e];exact w1.obj
  ·rw[e];exact w2.obj
 keep:=fun i h h' st k=>by
  obtain⟨⟨u,v,Z1,Z2,Z3⟩,w1,w2⟩:=st;exact⟨⟨u,v,k z (by simp) _ Z1,k TI (by simp) _ Z2,k TO (by simp) _ Z3⟩,w1.on (k i1 (by simp)),w2.on (k i2 (by simp))⟩
 item:=by
  intro X hP hw hK hc i pins s σ H E I hf st hg;subst hP hw hK;obtain⟨⟨u,v,Z⟩,w1,w2⟩:=st;obtain⟨xs,ys,x,y,c1,c2,hx,hy⟩:=hg;obtain⟨DN,r1,p1⟩:=vn I c1;obtain⟨jg,r2,p2⟩:=vn I c2;obtain⟨ux,ON,rx⟩:=r1.get hx;obtain⟨uy,VY,ry⟩:=r2.get hy;have hT:s.TypeIs (.ref z) "zip":=⟨_,Z.1,rfl⟩;have lt:∀b∈[z,TI,TO,i1,i2],b<s.heap.objs.size:=fun b hb=>by
   simp only[mem_cons,not_mem_nil,or_false]at hb;rcases hb with e|e|e|e|e
   ·rw[e];exact lt_size Z.1
   ·rw[e];exact lt_size Z.2.1
   ·rw[e];exact lt_size Z.2.2
   ·rw[e];obtain⟨o,q,_⟩:=w1.obj;exact lt_size q
   ·rw[e];obtain⟨o,q,_⟩:=w2.obj;exact lt_size q
  unfold pyNext;refine wpAny_bind (wpAny_attempt (wpAny_callSpecial?_slot (name:=Str.ofString "__next__") hT F.slot_zip_next (wpAny_call_entry F.slot_zip_next hT F.entry_zip_next (EA D Z w1 w2 p1 p2 (x:=ux) (y:=uy) (by simpa using ON) (by simpa using VY) fun g b1 b2 b3 b4 b5 b6=>wpAny_pure ?_) (F.args_zip_next_1 _))));refine⟨_,rfl,wpAny_letOwnedTupleGo_zip (s:={s with heap:=g}) b1 fun g' b7 b8=>?_⟩;have In:Inv X pins σ (upd H s.heap.objs.size (.tup [x,y])) {s with heap:=s.heap.push {cls:=.type "tuple",data:=.seq #[ux,uy]},toks:=s.toks}:=
   I.laid (t':=s.toks) (fun b u e=>get?_push_of_some _ e) (le_refl _) ⟨by show 2<=sizeLine;decide,[ux,uy],.cons rx (.cons ry .nil),⟨_,get?_push_size _ rfl,rfl,_,rfl⟩⟩
  have uH:∀b∈[z,TI,TO,i1,i2],(upd H s.heap.objs.size (.tup [x,y])) b=none:=fun b hb=>by
   rw[bD (ne_of_lt (lt b hb))];exact(hf b hb).1
  have cn:∀b,b∉[z,TI,TO,i1,i2]->b≠z/\b≠TO/\b≠i1/\b≠i2:=fun b h=>by
   simp only[mem_cons,not_mem_nil,or_false,not_or]at h;exact⟨h.1,h.2.2.1,h.2.2.2.1,h.2.2.2.2⟩
  have nT:s.heap.objs.size≠z:=Nat.ne_of_gt (lt z (by simp));have I3:Inv X pins σ (upd H s.heap.objs.size (.tup [x,y])) {s with heap:=g',toks:=s.toks}:=qX (s:={s with heap:=s.heap.push {cls:=.type "tuple",data:=.seq #[ux,uy]},toks:=s.toks}) (h':=g') (t':=s.toks) (ch:=[z,TI,TO,i1,i2]) In (fun b o hb e=>by
   obtain⟨n1,n2,n3,n4⟩:=cn b hb;refine b8.extBut _ _ n1 ?_;rcases Heap.get?_push_cases (show(s.heap.push {cls:=.type "tuple",data:=.seq #[ux,uy]}).get? b=some o from e)with⟨e1,e2⟩|e1
   ·rw[e1,e2];exact b5
   ·exact b6 b o n1 n2 n3 n4 e1) fun b hb=>⟨uH b hb,(hf b hb).2⟩
  refine⟨.ref s.heap.objs.size,upd H s.heap.objs.size (.tup [x,y]),I3,rfl,⟨_,x,y,rfl,I.bF.fresh (le_refl _),rfl,fun xs' ys' d1 d2=>?_⟩,⟨⟨_,_,b7,b8.extBut _ _ D.TIz (b6 _ _ D.TIz D.TITO D.TIi1 D.TIi2 Z.2.1),b8.extBut _ _ D.TOz b2⟩,b3.on fun o e=>b8.extBut _ _ D.i1z e,b4.on fun o e=>b8.extBut _ _ D.i2z e⟩,uH⟩;rw[yz I d1 c1,yz I d2 c2];exact⟨hx,hy⟩
 done:=by
  intro X hP hw hK hc i pins s σ H E I hf st hg;subst hP hw hK;obtain⟨⟨u,v,Z⟩,w1,w2⟩:=st;obtain⟨xs,ys,c1,c2,hl⟩:=hg;obtain⟨DN,r1,p1⟩:=vn I c1;obtain⟨jg,r2,p2⟩:=vn I c2;have l1:=r1.length;have l2:=r2.length;have hT:s.TypeIs (.ref z) "zip":=⟨_,Z.1,rfl⟩;have J1:DN.toArray[i]?=none\/jg.toArray[i]?=none:=hl.elim (fun h=>.inl (by simp;omega)) fun h=>.inr (by simp;omega);unfold pyNext;refine wpAny_bind (wpAny_attempt (wpAny_callSpecial?_slot (name:=Str.ofString "__next__") hT F.slot_zip_next (wpAny_call_entry F.slot_zip_next hT F.entry_zip_next (Ez (I.ok.hd hc) D Z w1 w2 p1 p2 J1 fun g e k he=>?_) (F.args_zip_next_1 _))));obtain⟨o,ho,pA⟩:=he;refine wpAny_bind (wpAny_isInstance (T:="StopIteration") (b:=true) ⟨o,ho,pA⟩ isSubtype_stop (wpAny_pure ⟨rfl,?_⟩));exact qX (h':=g) (t':=s.toks) (ch:=[z,TI,TO,i1,i2]) I (fun b o hb e=>by
   simp only[mem_cons,not_mem_nil,or_false,not_or]at hb;exact k b o hb.1 hb.2.2.1 hb.2.2.2.1 hb.2.2.2.2 e) hf
 self:=fun A i s Q E st h=>wpAny_pyIter_zip st.1.choose_spec.choose_spec.1 h
def UJ (K:Fg) (ta:TA):TI:=fun σ H R=>ta σ H fun vs H1=>∃k1 k2 a1 a2,vs=[.ref a1,.ref a2]/\(∃xs,pI K k1 H1 a1 xs)/\(∃ys,pI K k2 H1 a2 ys)/\R (TJ K k1 k2 a1 a2) H1
variable {a:Expr} {ta:TA}
theorem NU{dU:List Expr}{pt:Pos}(hg:Gl X "zip")(hm:X.mg "zip"=none)(ha:PA X [a,b] ta)(hs:starEach [a,b] X.env=[(false,eval a X.env),(false,eval b X.env)]:=by rfl)(qx:starEach [b] X.env=[(false,eval b X.env)]:=by rfl):
  PI X (.Tuple dU kt pt) (.Call (.Name "zip" p) [a,b] [] pos) (UJ X.K ta):=by
 intro pins s σ H R I h;refine Call_ (mB I hg hm boot_zip (PyProof.Rows.callWith_type1 (c8 (ha pos pins s σ H _ I h) fun us s1 ⟨vs,H1,I1,r1,q1⟩=>?_) (by rw[hs,qx]) (by rw[qx];rfl)));obtain⟨k1,k2,a1,a2,e,⟨xs,c1⟩,⟨ys,c2⟩,q⟩:=q1;subst e;cases r1 with
 |cons r rr=>
  cases rr with
  |cons r' rr=>
   cases rr;cases r;cases r';obtain⟨DN,_,p1⟩:=vn I1 c1;obtain⟨jg,_,p2⟩:=vn I1 c2;exact Hr p1 p2 fun h' z TI TO i1 i2 D Z w1 w2 kk new=>wpAny_pyIter_zip Z.1 ⟨z,[z,TI,TO,i1,i2],_,_,H1,rfl,I1.kept (t':=s1.toks) kk,HU D,⟨⟨_,_,Z⟩,w1,w2⟩,fun b hb=>I1.vM (new b hb) (I1.bF.fresh (new b hb)),q⟩
def dz:List Dat->List Dat->List Dat
 |x::xs,y::ys=>.tuple [x,y]::dz xs ys
 |_,_=>[]
variable {fs:aw->Option (List Dat)} in
def DP (fs:aw->Option (List Dat)):aw->Option (List Dat):=fun ρ=>(fs ρ).bind fun ds=>match ds with
 |[d1,d2]=>(cJ d1).bind fun x=>(cJ d2).map fun y=>dz x y
 |_=>none
theorem m6:∀{xs ys:List Dat} {i:Nat},(dz xs ys).length=min xs.length ys.length/\∀d,(dz xs ys)[i]?=some d->∃x y,xs[i]?=some x/\ys[i]?=some y/\d=.tuple [x,y]
 |[],ys,i=>⟨by simp[dz],fun d h=>by simp[dz]at h⟩
 |x::xs,[],i=>⟨by simp[dz],fun d h=>by simp[dz]at h⟩
 |x::xs,y::ys,0=>⟨by
   have:=(m6 (xs:=xs) (ys:=ys) (i:=0)).1;simp only[dz,length_cons,this];omega,fun d h=>by simp[dz]at h;exact⟨x,y,rfl,rfl,h.symm⟩⟩
 |x::xs,y::ys,i+1=>⟨by
   have:=(m6 (xs:=xs) (ys:=ys) (i:=i)).1;simp only[dz,length_cons,this];omega,fun d h=>by
   obtain⟨a,b,h1,h2,h3⟩:=(m6 (xs:=xs) (ys:=ys) (i:=i)).2 d (by simpa [dz]using h);exact⟨a,b,by simpa using h1,by simpa using h2,h3⟩⟩
theorem zz(r:aS K H Av v d)(h:cJ d=some ds):∃k a,v=.ref a/\∀H' iI,aS K H' iI (.ref a) d->∃xs,pI K k H' a xs/\ay K H' iI xs ds:=by
 cases d with
 |list dN=>
  cases h;obtain⟨a,xs,rfl,_,_⟩:=r.gm;refine⟨true,a,rfl,fun H' iI r'=>?_⟩;obtain⟨_,xs,e,hq,rs⟩:=r'.gm;cases e;exact⟨xs,hq.sq,rs⟩
 |tuple dN=>
  cases h;obtain⟨a,xs,rfl,_,_⟩:=r.fT;refine⟨false,a,rfl,fun H' iI r'=>?_⟩;obtain⟨_,xs,e,hq,rs⟩:=r'.fT;cases e;exact⟨xs,hq.sq,rs⟩
 |_=>cases h
open PySem PySem.Spec PyProof.Rows L2
open PySem.W (Dat kqdOk)
theorem tR{bh:List (Option Nat)}(hi:bh[i]?=some none)(hj:bh[j]?=some none):kH (kG 2 (gM (aName i) (gM (aName j) mR))) bh:=fun d as e p hp=>by
 unfold kG at e;split at e
 ·split at e
  ·rename_i ds hl;match ds,hl with
   |[a,b],_=>
    cases e;rcases mem_cons.mp hp with e|hp
    ·rw[e];exact hi
    ·rcases mem_cons.mp hp with e|hp
     ·rw[e];exact hj
     ·simp at hp
  ·cases e
 ·cases e
open PySem PySem.Spec PyProof.Rows L2
open PySem.W (Dat kqdOk)
theorem ay.rep{K:Fg}{H:Hp}{Av:fV}{vs:List V}{ds:List Dat}(h:ay K H Av vs ds):∀k:Nat,ay K H Av (List.replicate k vs).flatten (List.replicate k ds).flatten
 |0=>.nil
 |k+1=>by
  rw[replicate_succ,replicate_succ,flatten_cons,flatten_cons];exact h.append (ay.rep h k)
variable {fs:aw->Option (List Dat)} in
def oX (fs:aw->Option (List Dat)) (fb:aw->Option Dat):aw->Option (List Dat):=fun ρ=>(fs ρ).bind fun ds=>(fb ρ).bind fun d=>match d with
 | .int k=>if(-(2^63)<=k/\k<2^63)/\ds.length*k.toNat<=sizeLine then some (List.replicate k.toNat ds).flatten else none
 |_=>none
def yB (i:Nat) (f:ax->Option (List Dat×ax)):ax->Option Fl:=fun Γ=>(f Γ).map fun p=>.nx (p.2.set i (some (.a7 (.list p.1))))
variable {k:Nat}
theorem Mq(U:mT K x qual st fa fd)(hm:mg x=some (.ref fa))(hB:Binds K fd ps []):Dn P w K mg base k x ps n (fun _=>none):=
 ⟨fa,fd,⟨fun vs H Q E ⟨_,_,_,_,_,_,h,_⟩=>(by cases h),fun A outer s H args us vs Q E _ _ _ _ ⟨_,_,_,_,_,_,h,_⟩=>(by cases h)⟩,hm,U.kp,hB⟩
open PySem PySem.Spec PyProof.Rows L2
open PySem.W (Dat kqdOk)
variable {ts:List Expr} {env:Env}
theorem dB{k}:starEach (.Tuple ts k p::es) env=(false,eval (.Tuple ts k p) env)::starEach es env:=by rw[starEach];intro _ _ h;cases h
theorem dC{op}:starEach (.BinOp a op b p::es) env=(false,eval (.BinOp a op b p) env)::starEach es env:=by rw[starEach];intro _ _ h;cases h
theorem gN{op}:starEach (.UnaryOp op a p::es) env=(false,eval (.UnaryOp op a p) env)::starEach es env:=by rw[starEach];intro _ _ h;cases h
theorem aJ:starEach (.Subscript a b p::es) env=(false,eval (.Subscript a b p) env)::starEach es env:=by rw[starEach];intro _ _ h;cases h
theorem aX{ks}:starEach (.Call a ts ks p::es) env=(false,eval (.Call a ts ks p) env)::starEach es env:=by rw[starEach];intro _ _ h;cases h
open PySem PySem.Spec PyProof.Rows L2
open PySem.W (Dat kqdOk)
structure QE (X:Cx) (e:Expr) (t:TE):Prop where
 o:PE X e t
structure QT (X:Cx) (e:Expr) (t:TT):Prop where
 o:PT X e t
structure QW (X:Cx) (e:Expr) (t:TT):Prop where
 o:PW X e t
structure QA (X:Cx) (e:List Expr) (t:TA):Prop where
 o:PA X e t
structure QS (X:Cx) (e:Stmt) (t:TS):Prop where
 o:PS X e t
structure XB (X:Cx) (e:List Stmt) (t:TS):Prop where
 o:lr X e t
structure QG (X:Cx) (e:Expr) (t:TG):Prop where
 o:PG X e t
structure Lf (X:Cx) (e:List Expr) (t:sk):Prop where
 o:AI X e t
structure QI (X:Cx) (tg e:Expr) (t:TI):Prop where
 o:PI X tg e t
structure QO (X:Cx) (e:Option Expr) (t:TO):Prop where
 o:PO X e t
structure CZ (X:Cx) (e:List Expr) (t:TT):Prop where
 o:HE X e t
abbrev QF (X:Cx) (e:Expr) (f:aw->Option Dat):Prop:=QE X e (tF X.K f)
abbrev jt (X:Cx) (e:Expr) (f:aw->Option Bool):Prop:=QT X e (mZ X.K f)
abbrev AH (X:Cx) (e:Expr) (f:aw->Option Bool):Prop:=QW X e (mZ X.K f)
abbrev ky (X:Cx) (e:List Expr) (f:aw->Option (List Dat)):Prop:=QA X e (JW X.K f)
abbrev gB (X:Cx) (e:Stmt) (f:ax->Option Fl):Prop:=QS X e (yt X.K f)
abbrev iU (X:Cx) (e:List Stmt) (f:ax->Option Fl):Prop:=XB X e (yt X.K f)
abbrev QH (X:Cx) (e:Expr) (f:HF):Prop:=QE X e (tH X.K f)
abbrev Dc (X:Cx) (e:Expr) (f:ax->Option (Bool×ax)):Prop:=QT X e (JU X.K f)
abbrev Le (X:Cx) (e:Expr) (f:ax->Option (Bool×ax)):Prop:=QW X e (JU X.K f)
abbrev xI (X:Cx) (e:List Expr) (f:ax->Option (List Dat×ax)):Prop:=QA X e (Nf X.K f)
abbrev v3 (X:Cx) (tg e:Expr) (f:aw->Option (List Dat)):Prop:=QI X tg e (JV X.K f)
abbrev Lg (X:Cx) (e:Option Expr) (f:aw->Option (Option Int)):Prop:=QO X e (RS X.K f)
theorem a5(i:Nat)(hN:X.N[i]?=some x:=by rfl)(hv:mS X.env.scope x:=by first|exact Or.inl rfl|exact Or.inr (Or.inl rfl)|exact Or.inr (Or.inr rfl))(hd:(x==("__debug__" : Str))=false:=by decide)(gw:(x==("__classdict__" : Str))=false:=by decide):
  QF X (.Name x pos) (aH i):=⟨bp (mv hN hv hd gw) fun σ H Q aQ=>by
 obtain⟨Av,ρ,d,hA,hE,hf,q⟩:=aQ;obtain⟨v,e1,r⟩:=hE i d (join_some hf);exact⟨v,e1,q v H (bg.refl H) r⟩⟩
theorem a8{i j pos}:
  QF X (.Constant (.int i) j pos) (fC (.int i)):=⟨bp FJ fun σ H Q ⟨Av,ρ,d,hA,hE,hf,q⟩=>by cases hf;exact q _ H (bg.refl H) (.int i)⟩
theorem cF{i j pos}:
  QF X (.Constant (.bool i) j pos) (fC (.bool i)):=⟨bp Rc fun σ H Q ⟨Av,ρ,d,hA,hE,hf,q⟩=>by cases hf;exact q _ H (bg.refl H) (.bl i)⟩
theorem cz{j pos}:
  QF X (.Constant .none j pos) (fC .none):=⟨bp O0 fun σ H Q ⟨Av,ρ,d,hA,hE,hf,q⟩=>by cases hf;exact q _ H (bg.refl H) .bM⟩
theorem aY{i j pos}:
  QF X (.Constant (.str i) j pos) (fC (.str i)):=⟨bp NX fun σ H Q ⟨Av,ρ,d,hA,hE,hf,q⟩=>by cases hf;exact q _ H (bg.refl H) (.str i)⟩
variable {fa:aw->Option Dat}
theorem bf(ha:QF X a fa)(he:∀whole,isTrue a X.env whole=(do let v <- whole;standAt a.pos;holding [v] (truthy v)):=by intro _;rfl):
  jt X a (iR fa):=⟨nW (Im ha.o he) fun σ H Q aQ=>by
 obtain⟨Av,ρ,b,hA,hE,hf,q⟩:=aQ;obtain⟨d,e1,hf⟩:=bind_some hf;exact⟨Av,ρ,d,hA,hE,e1,fun v H' s r=>⟨b,Na r hf,q H' s⟩⟩⟩
theorem eV(ha:jt X a ft):
  AH X (.BoolOp .And [a] pos) ft:=⟨BJ ha.o⟩
theorem dj(ha:jt X a ft):
  AH X (.BoolOp .Or [a] pos) ft:=⟨NP ha.o⟩
variable {gt:aw->Option Bool}
variable {rest:List Expr} in
theorem fP(ha:jt X a ft)(hb:AH X (.BoolOp .And (b::rest) pos) gt):
  AH X (.BoolOp .And (a::b::rest) pos) (jz ft gt):=⟨vz (Fz ha.o hb.o) fun σ H Q aQ=>by
 obtain⟨Av,ρ,k,hA,hE,hf,q⟩:=aQ;obtain⟨c,e1,hf⟩:=bind_some hf;refine⟨Av,ρ,c,hA,hE,e1,fun H1 s1=>?_⟩;cases c with
 |true=>rw[if_pos rfl]at hf ⊢;exact⟨Av,ρ,k,hA.same s1,hE.same s1,hf,fun H2 s2=>q H2 (s1.trans s2)⟩
 |false=>rw[if_neg Bool.false_ne_true]at hf ⊢;cases hf;exact q H1 s1⟩
variable {rest:List Expr} in
theorem cS(ha:jt X a ft)(hb:AH X (.BoolOp .Or (b::rest) pos) gt):
  AH X (.BoolOp .Or (a::b::rest) pos) (iw ft gt):=⟨vz (QV ha.o hb.o) fun σ H Q aQ=>by
 obtain⟨Av,ρ,k,hA,hE,hf,q⟩:=aQ;obtain⟨c,e1,hf⟩:=bind_some hf;refine⟨Av,ρ,c,hA,hE,e1,fun H1 s1=>?_⟩;cases c with
 |false=>rw[if_neg Bool.false_ne_true]at hf ⊢;exact⟨Av,ρ,k,hA.same s1,hE.same s1,hf,fun H2 s2=>q H2 (s1.trans s2)⟩
 |true=>rw[if_pos rfl]at hf ⊢;cases hf;exact q H1 s1⟩
theorem cC(h:AH X e ft):
  jt X e ft:=⟨h.o.pt⟩
theorem cN(ha:jt X a ft):
  jt X (.UnaryOp .Not a pos) (j4 ft):=⟨nW (NQ ha.o) fun σ H Q aQ=>by
 obtain⟨Av,ρ,k,hA,hE,hf,q⟩:=aQ;unfold j4 at hf;cases e:ft ρ with
 |none=>rw[e]at hf;cases hf
 |some c=>rw[e]at hf;cases hf;exact⟨Av,ρ,c,hA,hE,e,q⟩⟩
theorem dG{op}(h:QF X a fa):
  QF X (.BoolOp op [a] pos) fa:=⟨NY h.o⟩
variable {rest:List Expr} in
theorem fH(ha:QF X a fa)(hb:QF X (.BoolOp .And (b::rest) pos) fb):
  QF X (.BoolOp .And (a::b::rest) pos) (nO fa fb):=⟨bp (O1 ha.o hb.o) fun σ H Q aQ=>by
 obtain⟨Av,ρ,k,hA,hE,hf,q⟩:=aQ;obtain⟨d,e1,zP⟩:=bind_some hf;clear hf;obtain⟨c,e2,hf⟩:=bind_some zP;clear zP;have e3:=mQ e2;subst e3;refine⟨Av,ρ,_,hA,hE,e1,fun x H1 s1 r=>⟨c,r.kP,?_⟩⟩;cases c with
 |true=>rw[if_pos rfl]at hf ⊢;exact⟨Av,ρ,k,hA.same s1,hE.same s1,hf,fun v H2 s2 r2=>q v H2 (s1.trans s2) r2⟩
 |false=>rw[if_neg Bool.false_ne_true]at hf ⊢;cases hf;exact q _ H1 s1 (.bl false)⟩
variable {rest:List Expr} in
theorem qb(ha:QF X a fa)(hb:QF X (.BoolOp .Or (b::rest) pos) fb):
  QF X (.BoolOp .Or (a::b::rest) pos) (sf fa fb):=⟨bp (R9 ha.o hb.o) fun σ H Q aQ=>by
 obtain⟨Av,ρ,k,hA,hE,hf,q⟩:=aQ;obtain⟨d,e1,zP⟩:=bind_some hf;clear hf;obtain⟨c,e2,hf⟩:=bind_some zP;clear zP;have e3:=mQ e2;subst e3;refine⟨Av,ρ,_,hA,hE,e1,fun x H1 s1 r=>⟨c,r.kP,?_⟩⟩;cases c with
 |false=>rw[if_neg Bool.false_ne_true]at hf ⊢;exact⟨Av,ρ,k,hA.same s1,hE.same s1,hf,fun v H2 s2 r2=>q v H2 (s1.trans s2) r2⟩
 |true=>rw[if_pos rfl]at hf ⊢;cases hf;exact q _ H1 s1 (.bl true)⟩
theorem BI(ha:QF X a fa):
  QF X (.UnaryOp .Not a pos) (qG fa):=⟨bp (NZ ha.o) fun σ H Q aQ=>by
 obtain⟨Av,ρ,k,hA,hE,hf,q⟩:=aQ;obtain⟨d,e1,hf⟩:=bind_some hf;cases e2:lj d with
 |none=>rw[e2]at hf;cases hf
 |some c=>
  rw[e2]at hf;cases hf;have e3:=mQ e2;subst e3;exact⟨Av,ρ,_,hA,hE,e1,fun x H1 s1 r=>⟨c,r.kP,q _ H1 s1 (.bl _)⟩⟩⟩
theorem gf(hc:jt X c ft)(ha:QF X a fa)(hb:QF X b fb):
  QF X (.IfExp c a b pos) (uL ft fa fb):=⟨bp (IB hc.o ha.o hb.o) fun σ H Q aQ=>by
 obtain⟨Av,ρ,k,hA,hE,hf,q⟩:=aQ;obtain⟨c',e1,hf⟩:=bind_some hf;refine⟨Av,ρ,c',hA,hE,e1,fun H1 s1=>?_⟩;cases c' with
 |true=>rw[if_pos rfl]at hf ⊢;exact⟨Av,ρ,k,hA.same s1,hE.same s1,hf,fun v H2 s2 r2=>q v H2 (s1.trans s2) r2⟩
 |false=>rw[if_neg Bool.false_ne_true]at hf ⊢;exact⟨Av,ρ,k,hA.same s1,hE.same s1,hf,fun v H2 s2 r2=>q v H2 (s1.trans s2) r2⟩⟩
theorem a9:
  ky X [] bS:=⟨rC qk fun σ H Q ⟨Av,ρ,d,hA,hE,hf,q⟩=>by cases hf;exact q _ H (bg.refl H) .nil⟩
variable {fs:aw->Option (List Dat)} in
theorem a6(ha:QF X e fa)(hr:ky X es fs)(hs:starEach (e::es) X.env=(false,eval e X.env)::starEach es X.env:=by rfl):
  ky X (e::es) (aU fa fs):=⟨rC (kD ha.o hr.o hs) fun σ H Q aQ=>by
 obtain⟨Av,ρ,d,hA,hE,hf,q⟩:=aQ;obtain⟨dx,e1,hf⟩:=bind_some hf;obtain⟨ds,e2,hf⟩:=ba hf;subst hf;exact⟨Av,ρ,dx,hA,hE,e1,fun x H1 s1 r1=>⟨Av,ρ,ds,hA.same s1,hE.same s1,e2,fun xs H2 s2 r2=>q _ H2 (s1.trans s2) (.cons (r1.same s2) r2)⟩⟩⟩
variable {fs:aw->Option (List Dat)} in
theorem bo{k:Nat}(h:ky X es fs){x1}:
  QF X (.Tuple es x1 pos) (ly fs):=⟨bp (FH h.o) fun σ H Q aQ=>by
 obtain⟨Av,ρ,d,hA,hE,hf,q⟩:=aQ;obtain⟨ds,e1,hf⟩:=bind_some hf;split at hf
 ·rename_i hz;cases hf;exact⟨Av,ρ,ds,hA,hE,e1,fun xs H1 s1 r1=>⟨by rw[r1.length];exact hz,fun p hp=>q _ _ (s1.trans (bV hp _)) (.sV (hA.same s1) hp r1)⟩⟩
 ·cases hf⟩
variable {fs:aw->Option (List Dat)} in
theorem ij(h:ky X es fs):
  QF X (.List es pos) (nN fs):=⟨bp (FI h.o) fun σ H Q aQ=>by
 obtain⟨Av,ρ,d,hA,hE,hf,q⟩:=aQ;obtain⟨ds,e1,hf⟩:=bind_some hf;split at hf
 ·rename_i hz;cases hf;exact⟨Av,ρ,ds,hA,hE,e1,fun xs H1 s1 r1=>⟨by rw[r1.length];exact hz,fun p hp=>q _ _ (s1.trans (bV hp _)) (.oK (hA.same s1) hp r1)⟩⟩
 ·cases hf⟩
variable {fs:aw->Option (List Dat)} in
theorem az(D:Dn X.prog X.w X.K X.mg X.base k x ps n F)(hr:cw k X.A)(ha:ky X (e::es) fs)(hg:Gl X x:=by rfl)(jq:(x==("__debug__" : Str))=false:=by decide)(he:starEach (e::es) X.env=(false,eval e X.env)::starEach es X.env:=by rfl)(eY:(backTo pos (starEach es X.env)).any (·.1)=false:=by rfl):
  QF X (.Call (.Name x p) (e::es) [] pos) (iS n F fs):=⟨by
 obtain⟨f,fd,h1,h2,h3,h4⟩:=D.ex;exact bp (rB h1 hr hg h2 h3 h4 .nil y0 ha.o jq he eY) QD⟩
theorem aL:
  iU X [] iA:=⟨yS LP fun D σ H ⟨aj,Av,pn,aE,Γ,fl,G,hf,q⟩=>by cases hf;exact q σ H G⟩
theorem ag(h:gB X st g):
  iU X [st] g:=⟨BN h.o⟩
variable {rest:List Stmt} in
theorem ae(h1:gB X st g1)(h2:iU X rest g2):
  iU X (st::rest) (dO g1 g2):=⟨yS (Io h1.o h2.o) fun D σ H aQ=>by
 obtain⟨aj,Av,pn,aE,Γ,fl,G,hf,q⟩:=aQ;obtain⟨qE,e1,hf⟩:=bind_some hf;refine⟨aj,Av,pn,aE,Γ,qE,G,e1,?_⟩;cases qE with
 |nx af=>exact fun bI H' G'=>⟨aj,Av,pn,aE,af,fl,G',hf,q⟩
 |rt d=>cases hf;exact q
 |bk af=>cases hf;exact q
 |ct af=>cases hf;exact q
 |rm d af=>cases hf;exact q⟩
theorem aq(h:QF X e f):
  gB X (.Return (some e) pos) (k6 f):=⟨cm (ug h.o) fun D σ H aQ=>by
 obtain⟨aj,Av,pn,aE,Γ,fl,⟨ad,G⟩,hf,q⟩:=aQ;obtain⟨d,e1,hf⟩:=ba hf;subst hf;exact⟨Av,bX Γ,d,G.ja.same G.same,G.p0,e1,fun v H' s r=>q v H' (G.same.trans s) r⟩⟩
theorem aT{a b:List Stmt}(hc:jt X c ft)(ha:iU X a g1)(hb:iU X b g2):
  gB X (.If c a b pos) (kv ft g1 g2):=⟨cm (K9 hc.o ha.o hb.o) fun D σ H aQ=>by
 obtain⟨aj,Av,pn,aE,Γ,fl,⟨ad,G⟩,hf,q⟩:=aQ;obtain⟨k,e1,hf⟩:=bind_some hf;refine⟨Av,bX Γ,k,G.ja.same G.same,G.p0,e1,fun H' s=>?_⟩;cases k with
 |true=>rw[if_pos rfl]at hf ⊢;exact⟨aj,Av,pn,aE,Γ,fl,⟨ad,G.grow s⟩,hf,q⟩
 |false=>rw[if_neg Bool.false_ne_true]at hf ⊢;exact⟨aj,Av,pn,aE,Γ,fl,⟨ad,G.grow s⟩,hf,q⟩⟩
variable {pos':Pos}
theorem aB(i:Nat)(hN:X.N.Nodup)(h:QF X e f)(hi:X.N[i]?=some x:=by rfl)(hx:Loc X.env.scope x:=by first|exact .inl rfl|exact .inr rfl)(hs:swapsWith e (some (.Name x pos')) pos.line X.env=pure false:=by rfl)(hf:X.fn x=true\/X.env.scope.names.lookup x=some .local:=by first|exact .inl rfl|exact .inr rfl):
  gB X (.Assign [.Name x pos'] e pos) (ik i f):=⟨cm (qf hN hi hx h.o hs hf) Nc⟩
theorem ar(i:Nat)(hN:X.N.Nodup)(hi:X.N[i]?=some x:=by rfl)(hx:Loc X.env.scope x:=by first|exact .inl rfl|exact .inr rfl)(hf:X.fn x=true\/X.env.scope.names.lookup x=some .local:=by first|exact .inl rfl|exact .inr rfl):
  QG X (.Name x pos) (j8 X.K (aName i)):=⟨BP (LZ hN hi hx hf) fun v σ H Q ⟨Av,d,as,r,e,q⟩=>by cases e;exact q [(i,v)] (.cons r .nil)⟩
theorem cM:
  Lf X [] (Dk X.K mR):=⟨yV LY fun vs σ H Q aQ=>by
 obtain⟨Av,ds,as,r,e,q⟩:=aQ;cases r with
 |nil=>cases e;exact⟨rfl,q [] .nil⟩
 |cons _ _=>cases e⟩
variable {gt:Dat->Option cW}
theorem aW{dU:List Expr}{GL:List Dat->Option cW}(h1:QG X tg (j8 X.K gt))(h2:Lf X dU (Dk X.K GL))(hs:(assignEach (tg::dU) X.env).map (·.2)=assign tg X.env::(assignEach dU X.env).map (·.2):=by rfl):
  Lf X (tg::dU) (Dk X.K (gM gt GL)):=⟨yV (Iy h1.o h2.o hs) fun vs σ H Q aQ=>by
 obtain⟨Av,ds,as,r,e,q⟩:=aQ;cases r with
 |nil=>cases e
 | @cons v Vs d dN rd rr=>
  obtain⟨a,e1,e⟩:=bind_some (show(gt d).bind _=some as from e);obtain⟨b,e2,e⟩:=ba e;subst e;refine⟨v,Vs,rfl,Av,d,a,rd,e1,fun ws hw=>⟨Av,dN,b,rr,e2,fun us hu=>?_⟩⟩;have:=q (ws++us) (hw.append hu);unfold oz at this ⊢;rw[List.foldl_append]at this;exact this⟩
theorem dh{dU:List Expr}{GL:List Dat->Option cW}(hc:X.calm=true)(h:Lf X dU (Dk X.K GL))(hn:(assignEach dU X.env).length=n:=by rfl)(hst:(assignEach dU X.env).findIdx? (·.1)=none:=by rfl):
  QG X (.Tuple dU k pos) (j8 X.K (kG n GL)):=⟨BP (NW hc h.o hn hst) fun v σ H Q aQ=>by
 obtain⟨Av,d,as,r,e,q⟩:=aQ;unfold kG at e;split at e
 ·split at e
  ·rename_i ds hl;obtain⟨a,xs,rfl,hq,rs⟩:=r.fT;exact⟨a,xs,rfl,hq.sq,by rw[rs.length];exact hl,Av,ds,as,rs,e,q⟩
  ·cases e
 ·cases e⟩
theorem sN(h:QF X e f)(hg:QG X tg (j8 X.K gt))(hs:swapsWithSole [tg] e pos.line X.env=pure false:=by rfl)(hw:swappedStores [tg] e X.env=pure none:=by rfl)(h1:(assignEach [tg] X.env).map (·.2)=[assign tg X.env]:=by rfl):
  gB X (.Assign [tg] e pos) (pX gt f):=⟨cm (qg h.o hg.o hs hw h1) fun D σ H aQ=>by
 obtain⟨aj,Av,pn,aE,Γ,fl,⟨ad,G⟩,hf,q⟩:=aQ;obtain⟨d,e1,hf⟩:=bind_some hf;obtain⟨as,e2,hf⟩:=ba hf;subst hf;exact⟨aR Av Γ ad,bx Γ,d,G.gz,G.iT,e1,fun v H' s r=>⟨aR Av Γ ad,d,as,r,e2,fun ws hw=>q _ _ ⟨ad,GA.ia hw (fun _ z=>z) (G.grow s)⟩⟩⟩⟩
variable {body:List Stmt}
theorem dD(hp:PassesOwn (model X.prog X.w) X.A X.env X.xe)(hc:X.calm=true)(hi:QF X iter f)(hg:QG X tg (j8 X.K gt))(hb:iU X body gb)(hs:∀x,foldedSetIterable iter X.env x=pure x:=by intro _;rfl):
  gB X (.For tg iter body [] pos) (nK gt gb f):=⟨cm (yT hp hc (uh hi.o) hg.o hb.o hs) fun D σ H aQ=>by
 obtain⟨aj,Av,pn,aE,Γ,fl,⟨ad,G⟩,hf,q⟩:=aQ;obtain⟨d,e1,hf⟩:=bind_some hf;obtain⟨ds,e2,hf⟩:=bind_some hf;refine⟨aR Av Γ ad,bx Γ,d,G.gz,G.iT,e1,fun x H1 s1 r=>?_⟩;cases d with
 |list dN=>
  cases e2;obtain⟨a,xs,rfl,hq,rs⟩:=r.gm;exact⟨a,rfl,.inl ⟨⟨xs,hq.sq⟩,qB qm ⟨ad,(G.grow s1).hide r⟩ hf q⟩⟩
 |tuple dN=>
  cases e2;obtain⟨a,xs,rfl,hq,rs⟩:=r.fT;exact⟨a,rfl,.inr ⟨⟨xs,hq.sq⟩,qB sT ⟨ad,(G.grow s1).hide r⟩ hf q⟩⟩
 |_=>cases e2⟩
variable {fs:aw->Option (List Dat)} in
theorem oC(hp:PassesOwn (model X.prog X.w) X.A X.env X.xe)(hc:X.calm=true)(hm:X.mg "range"=none)(ha:ky X [a] fs)(hg:QG X tg (j8 X.K gt))(hb:iU X body gb)(GD:Gl X "range":=by rfl)(hst:starEach [a] X.env=[(false,eval a X.env)]:=by rfl)(hs:∀x,foldedSetIterable (.Call (.Name "range" p) [a] [] pos') X.env x=pure x:=by intro _;rfl):
  gB X (.For tg (.Call (.Name "range" p) [a] [] pos') body [] pos) (xX ip gt gb fs):=⟨cm (yT hp hc (qh GD hm ha.o hst) hg.o hb.o hs) fun D σ H aQ=>by
 obtain⟨aj,Av,pn,aE,Γ,fl,⟨ad,G⟩,hf,q⟩:=aQ;obtain⟨as,e1,hf⟩:=bind_some hf;obtain⟨ds,e2,hf⟩:=bind_some hf;refine⟨Av,bX Γ,as,G.ja.same G.same,G.p0,e1,fun vs H1 s1 r=>?_⟩;unfold ip at e2;split at e2
 ·rename_i j;split at e2
  ·rename_i hj;cases e2;obtain⟨v,rfl,rv⟩:=r.eh;rw[rv.cY];exact⟨j,rfl,hj.1,hj.2,qB oD ⟨ad,(G.grow s1).hide .bM⟩ hf q⟩
  ·cases e2
 ·cases e2⟩
theorem uc(fuel:ax->Nat)(hp:PassesOwn (model X.prog X.w) X.A X.env X.xe)(hc:jt X c ft)(hb:iU X body gb):
  gB X (.While c body [] pos) (mh fuel ft gb):=⟨cm (Iq hp hc.o hb.o) fun D σ H aQ=>by
 obtain⟨aj,Av,pn,aE,Γ,fl,G,hf,q⟩:=aQ;refine⟨fun m σ H=>∃Γ,lC X.K aj Av pn aE H σ Γ/\fK ft gb m Γ=some fl,⟨_,Γ,G,hf⟩,?_⟩;rintro m σ H ⟨Γ,⟨ad,G⟩,hf⟩;cases m with
 |zero=>cases hf
 |succ m=>
  obtain⟨k,e1,hf⟩:=bind_some (show(ft (bX Γ)).bind _=some fl from hf);refine⟨Av,bX Γ,k,G.ja.same G.same,G.p0,e1,fun H1 s1=>?_⟩;cases k with
  |false=>
   rw[if_neg Bool.false_ne_true]at hf ⊢;cases hf;exact q σ H1 ⟨ad,G.grow s1⟩
  |true=>
   rw[if_pos rfl]at hf ⊢;obtain⟨qE,e2,hf⟩:=bind_some hf;refine⟨fun bI H'=>∃af,lC X.K aj Av pn aE H' bI af/\fK ft gb m af=some fl,fun bI H' ⟨af,G',h'⟩=>⟨m,Nat.lt_succ_self m,af,G',h'⟩,aj,Av,pn,aE,Γ,qE,⟨ad,G.grow s1⟩,e2,?_⟩;cases qE with
   |nx af=>exact fun fY H2 G2=>⟨af,G2,hf⟩
   |ct af=>exact fun fY H2 G2=>⟨af,G2,hf⟩
   |bk af=>cases hf;exact fun fY H2 G2=>q fY H2 G2
   |rt v=>cases hf;exact q
   |rm v af=>cases hf;exact q⟩
variable {fs:aw->Option (List Dat)} in
theorem iJ(h:ky X es fs):
  QE X (.List es pos) (jY X.K (nr fs)):=⟨bp (FI h.o) fun σ H Q aQ=>by
 obtain⟨Av,ρ,d,hA,hE,hf,q⟩:=aQ;obtain⟨ds,e1,hf⟩:=bind_some hf;obtain⟨hz,e2⟩:=Cu hf;cases e2;exact⟨Av,ρ,d,hA,hE,e1,fun xs H1 s1 r1=>⟨by rw[r1.length];exact hz,fun p hp=>q H1 p xs s1 hp r1⟩⟩⟩
variable {fs:aw->Option (List Dat)} in
theorem mj(i:Nat)(hN:X.N.Nodup)(h:QE X e (jY X.K fs))(o8:i≠0:=by decide)(hi:X.N[i]?=some x:=by rfl)(hx:Loc X.env.scope x:=by first|exact .inl rfl|exact .inr rfl)(hs:swapsWith e (some (.Name x pos')) pos.line X.env=pure false:=by rfl)(hf:X.fn x=true\/X.env.scope.names.lookup x=some .local:=by first|exact .inl rfl|exact .inr rfl):
  gB X (.Assign [.Name x pos'] e pos) (vq i fs):=⟨cm (qf hN hi hx h.o hs hf) fun D σ H aQ=>by
 obtain⟨aj,Av,pn,aE,Γ,fl,⟨ad,G⟩,hf,q⟩:=aQ;obtain⟨ds,e1,hf⟩:=ba hf;subst hf;exact⟨aR Av Γ ad,bx Γ,ds,G.gz,G.iT,e1,fun H1 p xs s hp r=>q _ _ ⟨_,(G.grow s).Nt i o8 hp r⟩⟩⟩
variable {p1 p2 p3:Pos}
theorem jl(i:Nat)(h:QF X e f)(hN:X.N[i]?=some x:=by rfl)(hv:mS X.env.scope x:=by first|exact Or.inl rfl|exact Or.inr (Or.inl rfl)|exact Or.inr (Or.inr rfl))(hd:(x==("__debug__" : Str))=false:=by decide)(gw:(x==("__classdict__" : Str))=false:=by decide)(DW:attributeBase (.Name x p1) "append" X.env (eval (.Name x p1) X.env)=eval (.Name x p1) X.env:=by rfl)(J0:((backTo p3 (starEach [e] X.env)).all (fun x=>!x.1)&&(backToKw p3 (keywordEach [] X.env)).all (fun x=>x.1.isSome)&&decide (([e]:List Expr).length+([]:List Keyword).length+(if([]:List Keyword).isEmpty then 0 else 1)<30))=true:=by rfl)(DU:(p2.endLine==p3.line)=true:=by rfl)(Sr:starEach [e] X.env=(false,eval e X.env)::starEach [] X.env:=by rfl)(zM:(backTo p3 (starEach [] X.env)).any (·.1)=false:=by rfl)(hs:swapsWith (.Call (.Attribute (.Name x p1) "append" p2) [e] [] p3) none pos.line X.env=pure false:=by rfl):
  gB X (.Expr (.Call (.Attribute (.Name x p1) "append" p2) [e] [] p3) pos) (sL i f):=⟨cm (LQ (Ra PySem.F.plainAttrs_list PySem.F.slot_list_append PySem.F.type_list_append G7 (mv hN hv hd gw) (kD h.o qk Sr) DW J0 DU Sr zM) hs) fun D σ H aQ=>by
 obtain⟨aj,Av,pn,aE,Γ,fl,⟨ad,G⟩,hf,q⟩:=aQ;unfold sL at hf;split at hf
 ·rename_i ds hi;obtain⟨d,e1,hf⟩:=bind_some hf;obtain⟨hz,hf⟩:=Cu hf;cases hf;obtain⟨xs,g1,g2,g3,g4⟩:=G.own i ds hi;refine⟨_,g1,.inl ⟨rfl,xs,.of g2⟩,aR Av Γ ad,bx Γ,d,G.gz,G.iT,e1,fun v H1 s1 r=>?_⟩;have G1:=G.grow s1;obtain⟨N1,k1,k2,k3,k4⟩:=G1.own i ds hi;exact⟨_,N1,v,rfl,rfl,k2,by rw[k3.length];exact hz,q _ _ ⟨ad,G1.change hi (k3.append (.cons r .nil))⟩⟩
 ·cases hf⟩
theorem ib{fa:Addr}(U:mT K x qual st fa fd)(hm:mg x=some (.ref fa))(hB:Binds K fd ps [])(S:fX N ps (bc st))(hn:ps.length=n)(hbody:∀(bG:Value) (A:Around) (outer:List Env) (s:Shared) (H:Hp) (E:XK),cw k (A.deeper (envOfC qual (bc st) s.heap.objs.size fa bG))->iU (jG je P w K mg base N qual (bc st) fa bG A outer s H E).nZ (d8 st) g)(hF:∀ds d,ds.length=n->F ds=some d->jB N g ds=some d):
  Dn P w K mg base (k+1) x ps n F:=
 RF (U:=U) (hm:=hm) (hB:=hB) (S:=S) (hn:=hn) (hbody:=(fun a b c d e f g=>(hbody a b c d e f g).o)) (hF:=hF)
theorem fg(ha:QF X a fa)(hb:QF X b fb):
  QF X (.BinOp a .Add b pos) (f2 lA fa fb):=⟨mr (zg.or oE) (by
 intro H Av x y dx dy d Q hA rx ry h q;unfold lA at h;split at h
 ·cases h;exact .inl ⟨_,_,rx.cY,ry.cY,q _ H (bg.refl H) (.int _)⟩
 ·split at h
  ·rename_i hz;cases h;exact .inr ⟨_,_,rx.iy,ry.iy,hz,q _ H (bg.refl H) (.str _)⟩
  ·cases h
 ·cases h) ha.o hb.o⟩
theorem nV(ha:QF X a fa)(hb:QF X b fb):
  QF X (.BinOp a .Sub b pos) (f2 Dm fa fb):=⟨mr BS oF ha.o hb.o⟩
theorem bK(ha:QF X a fa)(hb:QF X b fb):
  QF X (.BinOp a .Mult b pos) (f2 jE fa fb):=⟨mr BU oF ha.o hb.o⟩
theorem iZ(ha:QF X a fa)(hb:QF X b fb):
  QF X (.BinOp a .Mod b pos) (f2 vE fa fb):=⟨mr IC oF ha.o hb.o⟩
theorem rj(ha:QF X a fa)(hb:QF X b fb):
  QF X (.BinOp a .Pow b pos) (f2 sS fa fb):=⟨mr O4 oF ha.o hb.o⟩
theorem yO(ha:QF X a fa)(hb:QF X b fb):
  QF X (.Compare a [.Lt] [b] pos) (f2 Ge fa fb):=⟨qi Kg rE ha.o hb.o (gj _)⟩
theorem Fy(ha:QF X a fa)(hb:QF X b fb):
  QF X (.Compare a [.Gt] [b] pos) (f2 GN fa fb):=⟨qi Kh rE ha.o hb.o (gj _)⟩
theorem nU(ha:QF X a fa)(hb:QF X b fb):
  jt X (.Compare a [.Lt] [b] pos) (cc (f2 Ge fa fb)):=⟨jM Kg rE ha.o hb.o (gj _)⟩
theorem LJ(ha:QF X a fa)(hb:QF X b fb):
  jt X (.Compare a [.LtE] [b] pos) (cc (f2 Sf fa fb)):=⟨jM Rf rE ha.o hb.o (gj _)⟩
theorem rh(ha:QF X a fa)(hb:QF X b fb):
  jt X (.Compare a [.Gt] [b] pos) (cc (f2 GN fa fb)):=⟨jM Kh rE ha.o hb.o (gj _)⟩
theorem LK(ha:QF X a fa)(hb:QF X b fb):
  jt X (.Compare a [.GtE] [b] pos) (cc (f2 SX fa fb)):=⟨jM Rg rE ha.o hb.o (gj _)⟩
theorem dr(ha:QF X a fa):
  QF X (.UnaryOp .USub a pos) (f1 nL fa):=⟨R0 N6 (by
 intro H Av x dx d Q hA rx h q;unfold nL at h;split at h
 ·cases h;exact⟨_,rx.cY,q _ H (bg.refl H) (.int _)⟩
 ·cases h) ha.o⟩
theorem gh(hr:cw k X.A)(ha:QF X a fa)(hb:QF X b fb):
  QF X (.Compare a [.Eq] [b] pos) (f2 cU fa fb):=⟨qi (y6.or (ui hr.units)) uj ha.o hb.o (gj _)⟩
theorem NM(hr:cw k X.A)(ha:QF X a fa)(hb:QF X b fb):
  QF X (.Compare a [.NotEq] [b] pos) (f2 gk fa fb):=⟨qi (Kf.or (FP hr.units)) FU ha.o hb.o (gj _)⟩
theorem bZ(hr:cw k X.A)(ha:QF X a fa)(hb:QF X b fb):
  jt X (.Compare a [.Eq] [b] pos) (cc (f2 cU fa fb)):=⟨jM (y6.or (ui hr.units)) uj ha.o hb.o (gj _)⟩
theorem d5(hr:cw k X.A)(ha:QF X a fa)(hb:QF X b fb):
  jt X (.Compare a [.NotEq] [b] pos) (cc (f2 gk fa fb)):=⟨jM (Kf.or (FP hr.units)) FU ha.o hb.o (gj _)⟩
variable {fs:aw->Option (List Dat)} in
theorem lT(hm:X.mg "abs"=none)(ha:ky X (e::es) fs)(hg:Gl X "abs":=by rfl)(he:starEach (e::es) X.env=(false,eval e X.env)::starEach es X.env:=by rfl)(eY:(backTo pos (starEach es X.env)).any (·.1)=false:=by rfl):
  QF X (.Call (.Name "abs" p) (e::es) [] pos) (gy Ee fs):=⟨yX Ju Hu hm ha.o hg (by decide +kernel) (by decide) (by decide) he eY⟩
variable {fs:aw->Option (List Dat)} in
theorem cA(hm:X.mg "len"=none)(ha:ky X (e::es) fs)(hg:Gl X "len":=by rfl)(he:starEach (e::es) X.env=(false,eval e X.env)::starEach es X.env:=by rfl)(eY:(backTo pos (starEach es X.env)).any (·.1)=false:=by rfl):
  QF X (.Call (.Name "len" p) (e::es) [] pos) (gy i6 fs):=⟨yX Jt Ht hm ha.o hg (by decide +kernel) (by decide) (by decide) he eY⟩
theorem bQ(T:String){TS:Str}(hm:X.mg "isinstance"=none)(We:X.mg TS=none)(ha:QF X a fa)(hv:bootBuiltins TS=some (.type T):=by decide +kernel)(hg:Gl X "isinstance":=by rfl)(Wn:Gl X TS:=by rfl)(hn:TS≠"__name__":=by decide)(jq:(TS==("__debug__" : Str))=false:=by decide)(he:starEach [a,.Name TS p2] X.env=(false,eval a X.env)::starEach [.Name TS p2] X.env:=by rfl)(Wu:starEach [.Name TS p2] X.env=(false,eval (.Name TS p2) X.env)::starEach [] X.env:=by rfl)(eY:(backTo pos (starEach [.Name TS p2] X.env)).any (·.1)=false:=by rfl):
  QF X (.Call (.Name "isinstance" p) [a,.Name TS p2] [] pos) (f1 (gP T) fa):=⟨bp (yY (AX T) hg hm (by decide +kernel) (kD ha.o (kD (M4 (v:=.ty T) Wn We hv rfl hn jq) qk Wu) he) (by decide) (by decide) he eY) fun σ H Q aQ=>by
  obtain⟨Av,ρ,d,hA,hE,hf,q⟩:=aQ;obtain⟨dx,e1,hf⟩:=bind_some hf;obtain⟨k,rfl⟩:=IS hf;exact⟨Av,ρ,dx,hA,hE,e1,fun x H1 s1 r1=>⟨Av,x,dx,k,rfl,r1,hf,q _ H1 s1 (.bl k)⟩⟩⟩
theorem ah(ha:QF X a fa)(hb:QF X b fb)(hs:w5 b:=by exact fun _ _=>rfl):
  QF X (.Subscript a b pos) (f2 bz fa fb):=⟨bp (Kc (Cd.or Gn) ha.o hb.o hs) (xU (by
 intro H Av x y dx dy d Q hA rx ry h q;unfold bz at h;split at h
 ·obtain⟨p,xs,rfl,hq,rs⟩:=rx.gm;obtain⟨v,hv,rv⟩:=rs.fS h;exact .inl ⟨p,xs,_,v,rfl,ry.cY,hq.sq,hv,q v H (bg.refl H) rv⟩
 ·obtain⟨p,xs,rfl,hq,rs⟩:=rx.fT;obtain⟨v,hv,rv⟩:=rs.fS h;exact .inr ⟨p,xs,_,v,rfl,ry.cY,hq.sq,hv,q v H (bg.refl H) rv⟩
 ·cases h))⟩
theorem kX:
  Lg X none oH:=⟨BO LU fun σ H Q ⟨Av,ρ,o,hA,hE,hf,q⟩=>by cases hf;exact q H (bg.refl H)⟩
theorem kW(h:QF X e f):
  Lg X (some e) (oG f):=⟨BO (LS h.o) fun σ H Q aQ=>by
 obtain⟨Av,ρ,o,hA,hE,hf,q⟩:=aQ;obtain⟨d,e1,hf⟩:=bind_some hf;obtain⟨i,e2,OZ⟩:=ba hf;subst OZ;have e3:=Ax e2;rw[e3]at e1;exact⟨Av,ρ,_,hA,hE,e1,fun x H' s r=>⟨i,r.cY,q H' s⟩⟩⟩
variable {elt:Expr} {ifs:List Expr} {cl:List (Str×Addr)} {fe:aw->Option Dat}
theorem gV{bh:List (Option Nat)}{fi:aw->Option Dat}(hc:X.calm=true)(B:pK X scope cl N' bh)(hi:QF X iter fi)(hg:∀C aK aj ex,QG (dg X scope cl N' C aK aj ex) tg (j8 X.K gt))(ht:∀C aK aj ex,CZ (dg X scope cl N' C aK aj ex) ifs (mZ X.K ft))(he:∀C aK aj ex,QF (dg X scope cl N' C aK aj ex) elt fe)(hT:kH gt bh)(hs:∀x,foldedSetIterable iter X.env x=pure x:=by intro _;rfl):
  QE X (.ListComp elt [⟨tg,iter,ifs,0⟩] scope pos) (jY X.K (nt bh gt ft fe fi)):=⟨bp (rA hc B (uh hi.o) ((fun C aK aj ex=>(hg C aK aj ex).o)) ((fun C aK aj ex=>(ht C aK aj ex).o)) ((fun C aK aj ex=>(he C aK aj ex).o)) hs) (Br hT)⟩
variable {fs:aw->Option (List Dat)} in
theorem cI(h:QE X e (jY X.K fs)):
  QF X e (fL fs):=⟨bp h.o fun σ H Q aQ=>by
 obtain⟨Av,ρ,d,hA,hE,hf,q⟩:=aQ;obtain⟨ds,e1,hf⟩:=ba hf;subst hf;exact⟨Av,ρ,ds,hA,hE,e1,fun H1 p xs s hp r=>q _ _ (s.trans (bV hp _)) (.oK (hA.same s) hp r)⟩⟩
theorem dm:
  CZ X [] (mZ X.K gL):=⟨fun pins s σ H Q I ⟨Av,ρ,b,hA,hE,hf,q⟩=>by cases hf;exact rq pins s σ H Q I (q H (bg.refl H))⟩
theorem kU(h:jt X c ft):
  CZ X [c] (mZ X.K ft):=⟨LO h.o⟩
variable {fs:aw->Option (List Dat)} in
theorem Ij(i j:Nat){y:Str}{py pt:Pos}{kt k2 yR}(hc:X.calm=true)(hN:X.N.Nodup)(OY:i≠j)(ha:ky X [a,b] fs)(hi:X.N[i]?=some x:=by rfl)(hj:X.N[j]?=some y:=by rfl)(hx:X.env.scope.names.lookup x=some .local:=by rfl)(hy:X.env.scope.names.lookup y=some .local:=by rfl)(hw:swappedStores [.Tuple [.Name x px,.Name y py] kt pt] (.Tuple [a,b] k2 yR) X.env=pure (some [x,y]):=by rfl)(hs:swapsWithSole [.Tuple [.Name x px,.Name y py] kt pt] (.Tuple [a,b] k2 yR) pos.line X.env=pure false:=by rfl):
  gB X (.Assign [.Tuple [.Name x px,.Name y py] kt pt] (.Tuple [a,b] k2 yR) pos) (HZ i j fs):=⟨cm (NR hc hN hi hj OY hx hy ha.o hw hs) fun D σ H aQ=>by
 obtain⟨aj,Av,pn,aE,Γ,fl,⟨ad,G⟩,hf,q⟩:=aQ;obtain⟨ds,e1,hf⟩:=bind_some hf;refine⟨aR Av Γ ad,bx Γ,ds,G.gz,G.iT,e1,fun vs H1 s1 r=>?_⟩;match ds,hf with
 |[d,d'],hf=>
  cases hf;obtain⟨v,u,rfl,rv,ru⟩:=r.fG;exact⟨v,u,rfl,q _ _ ⟨ad,((G.grow s1).set i rv).set j (ru.weak aR.jJ)⟩⟩⟩
variable {oy:Pos}
theorem q5(i:Nat){bh:List (Option Nat)}{fi:aw->Option Dat}(hN:X.N.Nodup)(hc:X.calm=true)(B:pK X scope cl N' bh)(hi:QF X iter fi)(hg:∀C aK aj ex,QG (dg X scope cl N' C aK aj ex) tg (j8 X.K gt))(ht:∀C aK aj ex,CZ (dg X scope cl N' C aK aj ex) ifs (mZ X.K ft))(he:∀C aK aj ex,QF (dg X scope cl N' C aK aj ex) elt fe)(hT:kH gt bh)(zE:X.N[i]?=some x:=by rfl)(hx:Loc X.env.scope x:=by first|exact .inl rfl|exact .inr rfl)(zI:swapsWith (.ListComp elt [⟨tg,iter,ifs,0⟩] scope pos) (some (.Name x pos')) oy.line X.env=pure true:=by rfl)(zO:X.fn x=true\/X.env.scope.names.lookup x=some .local:=by first|exact .inl rfl|exact .inr rfl)(hs:∀x,foldedSetIterable iter X.env x=pure x:=by intro _;rfl):
  gB X (.Assign [.Name x pos'] (.ListComp elt [⟨tg,iter,ifs,0⟩] scope pos) oy) (oA i (nt bh gt ft fe fi)):=⟨cm (vB hc B (uh hi.o) ((fun C aK aj ex=>(hg C aK aj ex).o)) ((fun C aK aj ex=>(ht C aK aj ex).o)) ((fun C aK aj ex=>(he C aK aj ex).o)) hN zE hx zI zO hs) fun D σ H aQ=>by
 obtain⟨aj,Av,pn,aE,Γ,fl,⟨ad,G⟩,hf,q⟩:=aQ;obtain⟨ds,e1,hf⟩:=ba hf;subst hf;exact Br hT σ H _ ⟨aR Av Γ ad,bx Γ,ds,G.gz,G.iT,e1,fun H1 p xs s hp r=>q _ _ ⟨ad,((G.grow s).grow (bV hp _)).set i (.oK (G.grow s).gz hp r)⟩⟩⟩
theorem BH(ha:QF X a fa)(hb:QF X b fb)(hm:behindInMarks .In b=false:=by with_unfolding_all rfl):
  jt X (.Compare a [.In] [b] pos) (cc (f2 inD fa fb)):=⟨jM (FT.or FR) O6 ha.o hb.o hm⟩
theorem dk(ha:QF X a fa)(hb:QF X b fb):
  jt X (.Compare a [.Is] [b] pos) (cc (f2 ka fa fb)):=⟨jM FQ BW ha.o hb.o (gj _)⟩
variable {fs:aw->Option (List Dat)} in
theorem qa(hm:X.mg "list"=none)(ha:ky X (e::es) fs)(hg:Gl X "list":=by rfl)(he:starEach (e::es) X.env=(false,eval e X.env)::starEach es X.env:=by rfl)(eY:(backTo pos (starEach es X.env)).any (·.1)=false:=by rfl):
  QE X (.Call (.Name "list" p) (e::es) [] pos) (jY X.K fun ρ=>(fs ρ).bind uk):=⟨bp (nh Ar hg hm (by decide +kernel) ha.o (by decide) (by decide) he eY) fun σ H Q aQ=>by
 obtain⟨Av,ρ,ds,hA,hE,hf,q⟩:=aQ;obtain⟨as,e1,hf⟩:=bind_some hf;refine⟨Av,ρ,as,hA,hE,e1,fun vs H1 s1 r=>?_⟩;unfold uk at hf;split at hf
 ·cases hf;obtain⟨v,rfl,rv⟩:=r.eh;obtain⟨p,xs,rfl,hq,rs⟩:=rv.gm;exact⟨p,xs,rfl,.inl hq.sq,fun l hl=>q H1 l xs s1 hl rs⟩
 ·cases hf;obtain⟨v,rfl,rv⟩:=r.eh;obtain⟨p,xs,rfl,hq,rs⟩:=rv.fT;exact⟨p,xs,rfl,.inr hq.sq,fun l hl=>q H1 l xs s1 hl rs⟩
 ·cases hf⟩
variable {fs:aw->Option (List Dat)} in
theorem gW(hm:X.mg "tuple"=none)(ha:ky X (e::es) fs)(hg:Gl X "tuple":=by rfl)(he:starEach (e::es) X.env=(false,eval e X.env)::starEach es X.env:=by rfl)(eY:(backTo pos (starEach es X.env)).any (·.1)=false:=by rfl):
  QF X (.Call (.Name "tuple" p) (e::es) [] pos) (gy fM fs):=⟨FG pG sj hm ha.o hg (by decide +kernel) (by decide) (by decide) he eY⟩
theorem c9{a:Addr}(hm:X.mg x=some (.ref a))(ht:ModT X.K a ds)(hg:Gl X x:=by rfl)(hd:(x==("__debug__" : Str))=false:=by decide):
  QF X (.Name x p) (fC (.tuple ds)):=⟨by
 obtain⟨xs,o,ao,n,h1,h2,h3,h4,h5,h6⟩:=ht;exact bp (M3 (v:=.ref a) hg hm rfl hd) fun σ H Q ⟨Av,ρ,d,hA,hE,hf,q⟩=>by cases hf;exact q _ H (bg.refl H) (.tup (.inr ⟨o,ao,n,h1,h2,h3,h4,h5⟩) (h6 H Av))⟩
theorem aM(hP:QF X e f):
  QH X e (j3 f):=⟨bp hP.o fun σ H Q aQ=>by
 obtain⟨aj,Av,pn,aE,Γ,ad,d,af,G,hf,q⟩:=aQ;unfold j3 at hf;split at hf
 ·rename_i d' e1;cases hf;exact⟨aR Av Γ ad,bx Γ,_,G.gz,G.iT,e1,fun v H' s r=>q v H' ad (G.grow s) r⟩
 ·obtain⟨d',e1,hf⟩:=bind_some hf;split at hf
  ·rename_i hs;cases hf;exact⟨Av,bX Γ,_,G.ja.same G.same,G.p0,e1,fun v H' s r=>q v H' ad (G.grow s) (r.sc hs)⟩
  ·cases hf⟩
theorem wO(hP:jt X e ft):
  Dc X e (zU ft):=⟨nW hP.o fun σ H Q aQ=>by
 obtain⟨aj,Av,pn,aE,Γ,ad,d,af,G,hf,q⟩:=aQ;obtain⟨k,e1,hf⟩:=ba hf;cases hf;exact⟨Av,bX Γ,_,G.ja.same G.same,G.p0,e1,fun H' s=>q H' ad (G.grow s)⟩⟩
variable {ht:ax->Option (Bool×ax)}
theorem wN(pa:Dc X a ht):
  Le X (.BoolOp .And [a] pos) ht:=⟨BJ pa.o⟩
theorem yM{rest:List Expr}{hu:ax->Option (Bool×ax)}(pa:Dc X a ht)(pb:Le X (.BoolOp .And (b::rest) pos) hu):
  Le X (.BoolOp .And (a::b::rest) pos) (DX ht hu):=⟨vz (Fz pa.o pb.o) fun σ H Q aQ=>by
 obtain⟨aj,Av,pn,aE,Γ,ad,d,af,G,hf,q⟩:=aQ;obtain⟨⟨k,Γ1⟩,e1,hf⟩:=bind_some hf;refine⟨aj,Av,pn,aE,Γ,ad,k,Γ1,G,e1,fun H1 gA G1=>?_⟩;cases k with
 |true=>rw[if_pos rfl]at hf ⊢;exact⟨aj,Av,pn,aE,Γ1,gA,d,af,G1,hf,q⟩
 |false=>rw[if_neg Bool.false_ne_true]at hf ⊢;cases hf;exact q H1 gA G1⟩
theorem Fq(h:Le X e ht):
  Dc X e ht:=⟨h.o.pt⟩
theorem BG(pa:QH X a ha)(pb:QH X b hb):
  QH X (.BinOp a .Add b pos) (h2 lA ha hb):=⟨yU (zg.or oE) (by
 intro H Av x y dx dy d Q hA rx ry h q;unfold lA at h;split at h
 ·cases h;exact .inl ⟨_,_,rx.cY,ry.cY,q _ H (bg.refl H) (.int _)⟩
 ·split at h
  ·rename_i hz;cases h;exact .inr ⟨_,_,rx.iy,ry.iy,hz,q _ H (bg.refl H) (.str _)⟩
  ·cases h
 ·cases h) pa.o pb.o⟩
theorem BF(pa:QH X a ha)(pb:QH X b hb):
  QH X (.BinOp a .Sub b pos) (h2 Dm ha hb):=⟨yU BS oF pa.o pb.o⟩
theorem LI(pa:QH X a ha)(pb:QH X b hb):
  QH X (.BinOp a .Mult b pos) (h2 jE ha hb):=⟨yU BU oF pa.o pb.o⟩
theorem NL(hr:cw k X.A)(pa:QH X a ha)(pb:QH X b hb):
  QH X (.Compare a [.Eq] [b] pos) (h2 cU ha hb):=⟨NV (y6.or (ui hr.units)) uj pa.o pb.o (gj _)⟩
theorem BE(hr:cw k X.A)(pa:QH X a ha)(pb:QH X b hb):
  Dc X (.Compare a [.Eq] [b] pos) (ya (h2 cU ha hb)):=⟨LX (y6.or (ui hr.units)) uj pa.o pb.o (gj _)⟩
theorem uf(pa:QH X a ha)(pb:QH X b hb)(hs:w5 b:=by exact fun _ _=>rfl):
  QH X (.Subscript a b pos) (h2 bz ha hb):=⟨bp (Kc (Cd.or Gn) pa.o pb.o hs) (xT O5)⟩
theorem bw:
  xI X [] iO:=⟨rC qk fun σ H Q ⟨aj,Av,pn,aE,Γ,ad,d,af,G,hf,q⟩=>by cases hf;exact q _ H ad G .nil⟩
variable {h:HF}
theorem aP(pa:QH X e h)(pr:xI X es hs)(hst:starEach (e::es) X.env=(false,eval e X.env)::starEach es X.env:=by rfl):
  xI X (e::es) (eM h hs):=⟨rC (kD pa.o pr.o hst) fun σ H Q aQ=>by
 obtain⟨aj,Av,pn,aE,Γ,ad,d,af,G,hf,q⟩:=aQ;obtain⟨⟨dx,Γ1⟩,e1,hf⟩:=bind_some hf;obtain⟨⟨ds,tN⟩,e2,hf⟩:=ba hf;cases hf;exact⟨aj,Av,pn,aE,Γ,ad,dx,Γ1,G,e1,fun x H1 gA G1 r1=>⟨aj,Av,pn,(x,dx)::aE,Γ1,gA,ds,tN,G1.hide r1,e2,fun vs H2 pH G2 r2=>q (x::vs) H2 pH G2.pQ (.cons (G2.aE (x,dx) mem_cons_self) r2)⟩⟩⟩
theorem vw(pa:xI X es hs){x1}:
  QH X (.Tuple es x1 pos) (zT hs):=⟨bp (FH pa.o) fun σ H Q aQ=>by
 obtain⟨aj,Av,pn,aE,Γ,ad,d,af,G,hf,q⟩:=aQ;obtain⟨⟨ds,Γ1⟩,e1,hf⟩:=bind_some hf;split at hf
 ·rename_i hz;cases hf;exact⟨aj,Av,pn,aE,Γ,ad,ds,Γ1,G,e1,fun xs H1 gA G1 r1=>⟨by rw[r1.length];exact hz,fun p hp=>q _ _ gA (G1.grow (bV hp _)) (.sV G1.gz hp r1)⟩⟩
 ·cases hf⟩
theorem yN(D:Dn X.prog X.w X.K X.mg X.base k x ps n F)(hr:cw k X.A)(pa:xI X (e::es) hs)(hg:Gl X x:=by rfl)(jq:(x==("__debug__" : Str))=false:=by decide)(he:starEach (e::es) X.env=(false,eval e X.env)::starEach es X.env:=by rfl)(eY:(backTo pos (starEach es X.env)).any (·.1)=false:=by rfl):
  QH X (.Call (.Name x p) (e::es) [] pos) (GJ n F hs):=⟨by
 obtain⟨f,fd,h1,h2,h3,h4⟩:=D.ex;refine bp (rB h1 hr hg h2 h3 h4 .nil y0 pa.o jq he eY) fun σ H Q ⟨aj,Av,pn,aE,Γ,ad,d,af,G,hf,q⟩=>?_;obtain⟨⟨ds,Γ1⟩,e1,hf⟩:=bind_some hf;split at hf
 ·rename_i hl;obtain⟨d',e2,hf⟩:=ba hf;cases hf;exact⟨aj,Av,pn,aE,Γ,ad,ds,Γ1,G,e1,fun xs H1 gA G1 r1=>⟨_,ds,_,G1.gz,by rw[append_nil];exact r1,hl,e2,fun v H2 s2 r2=>q v H2 gA (G1.grow s2) r2⟩⟩
 ·cases hf⟩
theorem cy(i:Nat){y:Str}{F:List Dat->List Dat->Option (Dat×List Dat)}(D:iW X.prog X.w X.K X.mg X.base k x ps n F)(hr:cw k X.A)(pa:xI X es hs)(hN:X.N[i]?=some y:=by rfl)(hv:mS X.env.scope y:=by first|exact Or.inl rfl|exact Or.inr (Or.inl rfl)|exact Or.inr (Or.inr rfl))(hd:(y==("__debug__" : Str))=false:=by decide)(gw:(y==("__classdict__" : Str))=false:=by decide)(hg:Gl X x:=by rfl)(jq:(x==("__debug__" : Str))=false:=by decide)(he:starEach (.Name y p1::es) X.env=(false,eval (.Name y p1) X.env)::starEach es X.env:=by rfl)(eY:(backTo pos (starEach es X.env)).any (·.1)=false:=by rfl):
  QH X (.Call (.Name x p) (.Name y p1::es) [] pos) (oV i n F hs):=⟨by
 obtain⟨f,fd,h1,h2,h3,h4⟩:=D.ex;refine bp (rB h1 hr hg h2 h3 h4 .nil y0 (kD (mv hN hv hd gw) pa.o he) jq he eY) fun σ H Q ⟨aj,Av,pn,aE,Γ,ad,d,af,G,hf,q⟩=>?_;unfold oV at hf;split at hf
 ·rename_i Ag o8;obtain⟨⟨us,Γ1⟩,e1,hf⟩:=bind_some hf;dsimp only at hf;split at hf
  ·rename_i ds KC;split at hf
   ·rename_i hl;obtain⟨⟨d',dN⟩,e2,hf⟩:=ba hf;cases hf;obtain⟨N2,g1,g2,g3,g4⟩:=G.own i Ag o8;refine⟨.ref (ad i),g1,aj,Av,pn,aE,Γ,ad,us,Γ1,G,e1,fun ws H1 gA G1 r1=>?_⟩;obtain⟨N1,k1,k2,k3,k4⟩:=G1.own i ds KC;have ea:ad i=gA i:=by rw[g1]at k1;injection k1 with k1;injection k1 with k1;injection k1
    exact⟨aR Av Γ1 gA,gA i,ws,N1,ds,us,_,_,by rw[append_nil,ea],G1.gz,.inr ⟨i,_,KC,rfl,rfl⟩,k2,k3,r1,hl,e2,fun v H' ys k hn rl rv=>q v H' gA (G1.lend KC k hn rl) (rv.weak (aR.set_own KC))⟩
   ·cases hf
  ·cases hf
 ·cases hf⟩
variable {fa:Addr}
theorem rn{F:List Dat->List Dat->Option (Dat×List Dat)}(U:mT K x qual st fa fd)(hm:mg x=some (.ref fa))(hB:Binds K fd ps [])(S:fX N ps (bc st))(hn:ps.length=n)(hbody:∀(bG:Value) (A:Around) (outer:List Env) (s:Shared) (H:Hp) (E:XK),cw k (A.deeper (envOfC qual (bc st) s.heap.objs.size fa bG))->iU (jG je P w K mg base N qual (bc st) fa bG A outer s H E).nZ (d8 st) g)(hF:∀ds es d dN,es.length+1=n->F ds es=some (d,dN)->runM N g ds es=some (d,dN)):
  iW P w K mg base (k+1) x ps n F:=
 Po (U:=U) (hm:=hm) (hB:=hB) (S:=S) (hn:=hn) (hbody:=(fun a b c d e f g=>(hbody a b c d e f g).o)) (hF:=hF)
theorem fA(i:Nat)(hN:X.N.Nodup)(pe:QH X e h)(hi:X.N[i]?=some x:=by rfl)(hx:Loc X.env.scope x:=by first|exact .inl rfl|exact .inr rfl)(hs:swapsWith e (some (.Name x pos')) pos.line X.env=pure false:=by rfl)(hf:X.fn x=true\/X.env.scope.names.lookup x=some .local:=by first|exact .inl rfl|exact .inr rfl):
  gB X (.Assign [.Name x pos'] e pos) (nc i h):=⟨cm (qf hN hi hx pe.o hs hf) fun D σ H aQ=>by
 obtain⟨aj,Av,pn,aE,Γ,fl,⟨ad,G⟩,hf,q⟩:=aQ;obtain⟨⟨d,Γ1⟩,e1,hf⟩:=ba hf;subst hf;exact⟨aj,Av,pn,aE,Γ,ad,d,Γ1,G,e1,fun v H' iH G' r=>q _ _ ⟨iH,G'.set i r⟩⟩⟩
theorem wM(pe:QH X e h)(hg:QG X tg (j8 X.K gt))(hs:swapsWithSole [tg] e pos.line X.env=pure false:=by rfl)(hw:swappedStores [tg] e X.env=pure none:=by rfl)(h1:(assignEach [tg] X.env).map (·.2)=[assign tg X.env]:=by rfl):
  gB X (.Assign [tg] e pos) (Dt gt h):=⟨cm (qg pe.o hg.o hs hw h1) fun D σ H aQ=>by
 obtain⟨aj,Av,pn,aE,Γ,fl,⟨ad,G⟩,hf,q⟩:=aQ;obtain⟨⟨d,Γ1⟩,e1,hf⟩:=bind_some hf;obtain⟨as,e2,hf⟩:=ba hf;subst hf;exact⟨aj,Av,pn,aE,Γ,ad,d,Γ1,G,e1,fun v H' iH G' r=>⟨aR Av Γ1 iH,d,as,r,e2,fun ws hw=>q _ _ ⟨iH,GA.ia hw (fun _ z=>z) G'⟩⟩⟩⟩
theorem fB(pe:QH X e h):
  gB X (.Return (some e) pos) (Ds h):=⟨cm (ug pe.o) fun D σ H aQ=>by
 obtain⟨aj,Av,pn,aE,Γ,fl,⟨ad,G⟩,hf,q⟩:=aQ;obtain⟨⟨d,Γ1⟩,e1,hf⟩:=ba hf;subst hf;exact⟨aj,Av,pn,aE,Γ,ad,d,Γ1,G,e1,fun v H' iH G' r=>q σ v H' iH G' r⟩⟩
theorem yK{a b:List Stmt}(hc:Dc X c ht)(pa:iU X a g1)(pb:iU X b g2):
  gB X (.If c a b pos) (I0 ht g1 g2):=⟨cm (K9 hc.o pa.o pb.o) fun D σ H aQ=>by
 obtain⟨aj,Av,pn,aE,Γ,fl,⟨ad,G⟩,hf,q⟩:=aQ;obtain⟨⟨k,Γ1⟩,e1,hf⟩:=bind_some hf;refine⟨aj,Av,pn,aE,Γ,ad,k,Γ1,G,e1,fun H' iH G'=>?_⟩;cases k with
 |true=>rw[if_pos rfl]at hf ⊢;exact⟨aj,Av,pn,aE,Γ1,fl,⟨iH,G'⟩,hf,q⟩
 |false=>rw[if_neg Bool.false_ne_true]at hf ⊢;exact⟨aj,Av,pn,aE,Γ1,fl,⟨iH,G'⟩,hf,q⟩⟩
theorem ud(i:Nat){k:Int}{j2:Nat}(pe:QH X e h)(hN:X.N[i]?=some x:=by rfl)(hv:mS X.env.scope x:=by first|exact Or.inl rfl|exact Or.inr (Or.inl rfl)|exact Or.inr (Or.inr rfl))(hd:(x==("__debug__" : Str))=false:=by decide)(gw:(x==("__classdict__" : Str))=false:=by decide)(ha:∀v,assign (.Subscript (.Name x p1) (.Constant (.int k) j2 p2) p3) X.env v=(do
   let ov <- holding [v] (eval (.Name x p1) X.env);let iv <- holding [v,ov] (eval (.Constant (.int k) j2 p2) X.env);standAt p3
   holding [v,ov,iv] (setItem ov iv v)
   release [v,ov,iv] []):=by intro _;rfl)(hs:swapsWithSole [.Subscript (.Name x p1) (.Constant (.int k) j2 p2) p3] e pos.line X.env=pure false:=by rfl)(hw:swappedStores [.Subscript (.Name x p1) (.Constant (.int k) j2 p2) p3] e X.env=pure none:=by rfl)(h1:(assignEach [.Subscript (.Name x p1) (.Constant (.int k) j2 p2) p3] X.env).map (·.2)=[assign (.Subscript (.Name x p1) (.Constant (.int k) j2 p2) p3) X.env]:=by rfl):
  gB X (.Assign [.Subscript (.Name x p1) (.Constant (.int k) j2 p2) p3] e pos) (yA i k h):=⟨cm (qg pe.o (yW (mv hN hv hd gw) FJ set_list ha) hs hw h1) fun D σ H aQ=>by
 obtain⟨aj,Av,pn,aE,Γ,fl,⟨ad,G⟩,hf,q⟩:=aQ;obtain⟨⟨d,Γ1⟩,e1,hf⟩:=bind_some hf;dsimp only at hf;split at hf
 ·rename_i ds hi;obtain⟨j,e2,hf⟩:=ba hf;subst hf;refine⟨aj,Av,pn,aE,Γ,ad,d,Γ1,G,e1,fun v H' iH G' r=>?_⟩;obtain⟨xs,g1,g2,g3,g4⟩:=G'.own i ds hi;exact⟨_,g1,_,xs,k,j,rfl,rfl,g2,by rw[g3.length];exact e2,q _ _ ⟨iH,G'.change hi (g3.set r)⟩⟩
 ·cases hf⟩
theorem Ik{F:List Dat->Option (List Dat)}{fs:aw->Option (List Dat)}(D:xM X.prog X.w X.K X.mg X.base k x ps n F)(hr:cw k X.A)(pa:ky X (e::es) fs)(hg:Gl X x:=by rfl)(jq:(x==("__debug__" : Str))=false:=by decide)(he:starEach (e::es) X.env=(false,eval e X.env)::starEach es X.env:=by rfl)(eY:(backTo pos (starEach es X.env)).any (·.1)=false:=by rfl):
  QE X (.Call (.Name x p) (e::es) [] pos) (jY X.K (J8 n F fs)):=⟨by
 obtain⟨f,fd,h1,h2,h3,h4⟩:=D.ex;refine bp (rB h1 hr hg h2 h3 h4 .nil y0 pa.o jq he eY) fun σ H Q ⟨Av,ρ,out,hA,hE,hf,q⟩=>?_;obtain⟨ds,e1,hf⟩:=bind_some hf;split at hf
 ·rename_i hl;exact⟨Av,ρ,ds,hA,hE,e1,fun xs H1 s1 r1=>⟨Av,ds,out,hA.same s1,by rw[append_nil];exact r1,hl,hf,fun H2 p xs s2 hp r2=>q H2 p xs (s1.trans s2) hp r2⟩⟩
 ·cases hf⟩
theorem LM{fs:aw->Option (List Dat)}{F:List Dat->Option (List Dat)}(U:mT K x qual st fa fd)(hm:mg x=some (.ref fa))(hB:Binds K fd ps [])(S:fX N ps (bc st))(hn:ps.length=n){ex:Expr}(hb:d8 st=[.Return (some ex) px])(hbody:∀(bG:Value) (A:Around) (outer:List Env) (s:Shared) (H:Hp) (E:XK),cw k (A.deeper (envOfC qual (bc st) s.heap.objs.size fa bG))->QE (jG je P w K mg base N qual (bc st) fa bG A outer s H E).nZ ex (jY K fs))(hF:∀ds out,ds.length=n->F ds=some out->fs (bX (cT N ds))=some out):
  xM P w K mg base (k+1) x ps n F:=
 Pn (U:=U) (hm:=hm) (hB:=hB) (S:=S) (hn:=hn) (hb:=hb) (hbody:=(fun a b c d e f g=>(hbody a b c d e f g).o)) (hF:=hF)
theorem yL(h:QF X iter f):
  v3 X tg iter (Cf f):=⟨lU (uh h.o) fun σ H R aQ=>by
 obtain⟨Av,ρ,ds,hA,hE,hf,q⟩:=aQ;obtain⟨d,e1,hf⟩:=bind_some hf;refine⟨Av,ρ,d,hA,hE,e1,fun x H1 s1 r=>?_⟩;cases d with
 |list dN=>
  cases hf;obtain⟨a,xs,rfl,hq,rs⟩:=r.gm;exact⟨a,rfl,.inl ⟨⟨xs,hq.sq⟩,q _ [_] [_] H1 s1 (.cons r .nil) qm.s⟩⟩
 |tuple dN=>
  cases hf;obtain⟨a,xs,rfl,hq,rs⟩:=r.fT;exact⟨a,rfl,.inr ⟨⟨xs,hq.sq⟩,q _ [_] [_] H1 s1 (.cons r .nil) sT.s⟩⟩
 |_=>cases hf⟩
variable {fs:aw->Option (List Dat)} in
theorem kJ(hm:X.mg "range"=none)(ha:ky X [a] fs)(GD:Gl X "range":=by rfl)(hst:starEach [a] X.env=[(false,eval a X.env)]:=by rfl):
  v3 X tg (.Call (.Name "range" p) [a] [] pos') (qv ip fs):=⟨lU (qh GD hm ha.o hst) fun σ H R aQ=>by
 obtain⟨Av,ρ,ds,hA,hE,hf,q⟩:=aQ;obtain⟨as,e1,e2⟩:=bind_some hf;refine⟨Av,ρ,as,hA,hE,e1,fun vs H1 s1 r=>?_⟩;unfold ip at e2;split at e2
 ·rename_i j;split at e2
  ·rename_i hj;cases e2;obtain⟨v,rfl,rv⟩:=r.eh;rw[rv.cY];exact⟨j,rfl,hj.1,hj.2,q _ [.bM] [.none] H1 s1 (.cons .bM .nil) oD.s⟩
  ·cases e2
 ·cases e2⟩
theorem jK(hp:PassesOwn (model X.prog X.w) X.A X.env X.xe)(hc:X.calm=true)(hi:v3 X tg iter fi)(hg:QG X tg (j8 X.K gt))(hb:iU X body gb)(hs:∀x,foldedSetIterable iter X.env x=pure x:=by intro _;rfl):
  gB X (.For tg iter body [] pos) (lK gt gb fi):=⟨cm (yT hp hc hi.o hg.o hb.o hs) fun D σ H aQ=>by
 obtain⟨aj,Av,pn,aE,Γ,fl,⟨ad,G⟩,hf,q⟩:=aQ;obtain⟨ds,e1,hf⟩:=bind_some hf;exact⟨aR Av Γ ad,bx Γ,ds,G.gz,G.iT,e1,fun J xs kg H1 s1 rx ov=>E4 ov (G.grow s1) rx hf q⟩⟩
theorem k8{bh:List (Option Nat)}(hc:X.calm=true)(B:pK X scope cl N' bh)(hi:v3 X tg iter fi)(hg:∀C aK aj ex,QG (dg X scope cl N' C aK aj ex) tg (j8 X.K gt))(ht:∀C aK aj ex,CZ (dg X scope cl N' C aK aj ex) ifs (mZ X.K ft))(he:∀C aK aj ex,QF (dg X scope cl N' C aK aj ex) elt fe)(hT:kH gt bh)(hs:∀x,foldedSetIterable iter X.env x=pure x:=by intro _;rfl):
  QE X (.ListComp elt [⟨tg,iter,ifs,0⟩] scope pos) (jY X.K (gS bh gt ft fe fi)):=⟨bp (rA hc B hi.o ((fun C aK aj ex=>(hg C aK aj ex).o)) ((fun C aK aj ex=>(ht C aK aj ex).o)) ((fun C aK aj ex=>(he C aK aj ex).o)) hs) (Bq hT)⟩
theorem sP{hf:ax->Option (List Dat×ax)}(h:QE X e (EI X.K hf)):
  QH X e (hL hf):=⟨bp h.o fun σ H Q aQ=>by
 obtain⟨aj,Av,pn,aE,Γ,ad,d,af,G,hf,q⟩:=aQ;obtain⟨⟨ds,Γ1⟩,e1,hf⟩:=ba hf;cases hf;exact⟨aj,Av,pn,aE,Γ,ad,ds,Γ1,G,e1,fun H1 p xs gA G1 hp r=>q _ _ gA (G1.grow (bV hp _)) (.oK G1.gz hp r)⟩⟩
theorem wQ(i:Nat){fe:HF}(hc:X.calm=true)(B:pK X scope cl N' (some i::cg))(hi:v3 X tg iter fi)(hg:∀C aK aj ex,QG (dg X scope cl N' C aK aj ex) tg (j8 X.K gt))(he:∀C aK aj ex,QH (dg X scope cl N' C aK aj ex) elt fe)(hT:kH gt (some i::cg))(hs:∀x,foldedSetIterable iter X.env x=pure x:=by intro _;rfl):
  QE X (.ListComp elt [⟨tg,iter,[],0⟩] scope pos) (EI X.K (lO i cg gt fe fi)):=⟨bp (rA hc B hi.o ((fun C aK aj ex=>(hg C aK aj ex).o)) (fun _ _ _ _=>rq) ((fun C aK aj ex=>(he C aK aj ex).o)) hs) (Lz hT)⟩
variable {fs:aw->Option (List Dat)} in
theorem mm{dU:List Expr}{pt:Pos}(hm:X.mg "zip"=none)(ha:ky X [a,b] fs)(hg:Gl X "zip":=by rfl)(hs:starEach [a,b] X.env=[(false,eval a X.env),(false,eval b X.env)]:=by rfl)(qx:starEach [b] X.env=[(false,eval b X.env)]:=by rfl):
  v3 X (.Tuple dU kt pt) (.Call (.Name "zip" p) [a,b] [] pos) (DP fs):=⟨lU (NU hg hm ha.o hs qx) fun σ H R aQ=>by
 obtain⟨Av,ρ,ds,hA,hE,hf,q⟩:=aQ;obtain⟨as,e1,hf⟩:=bind_some hf;refine⟨Av,ρ,as,hA,hE,e1,fun vs H1 s1 r=>?_⟩;match as,hf,r with
 |[d1,d2],hf,r=>
  obtain⟨x,f1,hf⟩:=bind_some hf;obtain⟨y,f2,hf⟩:=ba hf;subst hf;obtain⟨v,u,rfl,rv,ru⟩:=r.fG;obtain⟨k1,a1,rfl,g1⟩:=zz rv f1;obtain⟨k2,a2,rfl,g2⟩:=zz ru f2;obtain⟨xs,c1,_⟩:=g1 H1 Av rv;obtain⟨ys,c2,_⟩:=g2 H1 Av ru;refine⟨k1,k2,a1,a2,rfl,⟨xs,c1⟩,⟨ys,c2⟩,q _ [.ref a1,.ref a2] [d1,d2] H1 s1 r fun i H iI rr=>?_⟩;obtain⟨v',u',e,EX,VF⟩:=rr.fG;cases e;obtain⟨xs,c1,rx⟩:=g1 H iI EX;obtain⟨ys,c2,ry⟩:=g2 H iI VF;refine⟨fun hl=>⟨xs,ys,c1,c2,?_⟩,fun di hd=>?_⟩
  ·rw[(m6 (i:=0)).1]at hl;rw[rx.length,ry.length];omega
  ·obtain⟨dx,dy,h1,h2,rfl⟩:=(m6 (xs:=x) (ys:=y) (i:=i)).2 di hd;obtain⟨vx,hx,Ny⟩:=rx.get h1;obtain⟨vy,hy,VE⟩:=ry.get h2;refine⟨⟨xs,ys,vx,vy,c1,c2,hx,hy⟩,fun z H' P1 hz=>?_⟩;obtain⟨T,x',y',rfl,hT,rfl,hh⟩:=hz;obtain⟨h3,h4⟩:=hh xs ys c1 c2;rw[hx]at h3;rw[hy]at h4;cases h3;cases h4;exact⟨bV hT _,.sV P1 hT (.cons Ny (.cons VE .nil))⟩⟩
theorem q9(hm:X.mg "tuple"=none)(pa:xI X (e::es) hs)(hg:Gl X "tuple":=by rfl)(he:starEach (e::es) X.env=(false,eval e X.env)::starEach es X.env:=by rfl)(eY:(backTo pos (starEach es X.env)).any (·.1)=false:=by rfl):
  QH X (.Call (.Name "tuple" p) (e::es) [] pos) (kL fM hs):=⟨FE pG sj hm pa.o hg (by decide +kernel) (by decide) (by decide) he eY⟩
variable {fs:aw->Option (List Dat)} in
theorem sQ(ha:QE X a (jY X.K fs))(hb:QF X b fb):
  QE X (.BinOp a .Mult b pos) (jY X.K (oX fs fb)):=⟨bp (xZ O3 ha.o hb.o) fun σ H Q aQ=>by
 obtain⟨Av,ρ,out,hA,hE,hf,q⟩:=aQ;obtain⟨ds,e1,hf⟩:=bind_some hf;obtain⟨d,e2,hf⟩:=bind_some hf;split at hf
 ·rename_i k;split at hf
  ·rename_i hk;cases hf;refine⟨Av,ρ,ds,hA,hE,e1,fun H1 p xs s1 hp r=>?_⟩;have s2:=bV hp (.lst xs);refine⟨Av,ρ,.int k,hA.same (s1.trans s2),hE.same (s1.trans s2),e2,fun y H2 s3 ry=>?_⟩;exact⟨p,k,xs,rfl,ry.cY,s3 p _ ee,hk.1.1,hk.1.2,by rw[r.length];exact hk.2,fun q' hq=>q H2 q' _ (s1.trans (s2.trans s3)) hq ((r.same (s2.trans s3)).rep _)⟩
  ·cases hf
 ·cases hf⟩
theorem ue(i:Nat){bh:List (Option Nat)}(hN:X.N.Nodup)(hc:X.calm=true)(B:pK X scope cl N' bh)(hi:v3 X tg iter fi)(hg:∀C aK aj ex,QG (dg X scope cl N' C aK aj ex) tg (j8 X.K gt))(ht:∀C aK aj ex,CZ (dg X scope cl N' C aK aj ex) ifs (mZ X.K ft))(he:∀C aK aj ex,QF (dg X scope cl N' C aK aj ex) elt fe)(hT:kH gt bh)(zE:X.N[i]?=some x:=by rfl)(hx:Loc X.env.scope x:=by first|exact .inl rfl|exact .inr rfl)(zI:swapsWith (.ListComp elt [⟨tg,iter,ifs,0⟩] scope pos) (some (.Name x pos')) oy.line X.env=pure true:=by rfl)(zO:X.fn x=true\/X.env.scope.names.lookup x=some .local:=by first|exact .inl rfl|exact .inr rfl)(hs:∀x,foldedSetIterable iter X.env x=pure x:=by intro _;rfl):
  gB X (.Assign [.Name x pos'] (.ListComp elt [⟨tg,iter,ifs,0⟩] scope pos) oy) (oA i (gS bh gt ft fe fi)):=⟨cm (vB hc B hi.o ((fun C aK aj ex=>(hg C aK aj ex).o)) ((fun C aK aj ex=>(ht C aK aj ex).o)) ((fun C aK aj ex=>(he C aK aj ex).o)) hN zE hx zI zO hs) fun D σ H aQ=>by
 obtain⟨aj,Av,pn,aE,Γ,fl,⟨ad,G⟩,hf,q⟩:=aQ;obtain⟨ds,e1,hf⟩:=ba hf;subst hf;exact Bq hT σ H _ ⟨aR Av Γ ad,bx Γ,ds,G.gz,G.iT,e1,fun H1 p xs s hp r=>q _ _ ⟨ad,((G.grow s).grow (bV hp _)).set i (.oK (G.grow s).gz hp r)⟩⟩⟩
theorem NN(U:mT K x qual st fa fd)(S:fX N ps (bc st))(hn:ps.length=n)(hbody:∀(bG:Value) (A:Around) (outer:List Env) (s:Shared) (H:Hp) (E:XK),cw k (A.deeper (envOfC qual (bc st) s.heap.objs.size fa bG))->iU (jG je P w K mg base N qual (bc st) fa bG A outer s H E).nZ (d8 st) g)(hF:∀ds d,ds.length=n->F ds=some d->jB N g ds=some d):gG P w K mg base je (k+1) fa fd ps (EN K n F):=by
 have eY:ps.length<=N.length:=by have:=congrArg List.length S.pre;rw[length_take]at this;omega
 refine U.ok S (fun vs H Q E h=>?_) (fun bG A outer s H vs Q E hr h=>?_)
 ·obtain⟨Av,ds,d,_,r,hl,_⟩:=h;rw[r.length,hl,hn]
 ·obtain⟨Av,ds,d,hA,r,hl,hd,q⟩:=h;have dM:=hF ds d hl hd;unfold jB at dM;refine⟨_,(hbody bG A outer s H E hr).o,?_⟩;cases hg:g (cT N ds)with
  |none=>rw[hg]at dM;cases dM
  |some fl=>
   refine⟨H,Av,none,[],cT N ds,fl,tf hA r (by omega),hg,?_⟩;rw[hg]at dM;cases fl with
   |nx Γ=>cases dM;exact fun bI H' ⟨ad,G⟩=>q _ H' G.same .bM
   |rt d'=>cases dM;exact fun v H' s r=>q v H' s r
   |bk Γ=>cases dM
   |ct Γ=>cases dM
   |rm d' Γ=>cases dM
open PySem PySem.Spec PyProof.Rows L2
open PySem.W (Dat kqdOk)
def yy:Dat->Option Int->Option Int->Option Dat
 | .list ds,lo,hi=>some (.list (cutD ds lo hi))
 | .tuple ds,lo,hi=>if ¬(HT.bY ds.length 0 lo=0/\HT.bY ds.length ds.length hi=ds.length)then some (.tuple (cutD ds lo hi))else none
 |_,_,_=>none
def qF (f:aw->Option Dat) (fl fh:aw->Option (Option Int)):aw->Option Dat:=fun ρ=>(f ρ).bind fun d=>(fl ρ).bind fun l=>(fh ρ).bind fun h=>yy d l h
theorem FF{lo hi:Option Expr}{fl fh:aw->Option (Option Int)}(h:PF X e f)(hl:Ts X lo fl)(hh:Ts X hi fh):PF X (.Subscript e (.Slice lo hi none p2) pos) (qF f fl fh):=bp (IA (LA.or Nq) h hl hh) fun σ H Q aQ=>by
 obtain⟨Av,ρ,d,hA,hE,hf,q⟩:=aQ;obtain⟨dx,e1,hf⟩:=bind_some hf;obtain⟨l,e2,hf⟩:=bind_some hf;obtain⟨u,e3,hf⟩:=bind_some hf;refine⟨Av,ρ,_,hA,hE,e1,fun x H1 s1 r1=>⟨Av,ρ,l,hA.same s1,hE.same s1,e2,fun H2 s2=>⟨Av,ρ,u,hA.same (s1.trans s2),hE.same (s1.trans s2),e3,fun H3 s3=>?_⟩⟩⟩;have sa:=s1.trans (s2.trans s3);unfold yy at hf;split at hf
 ·cases hf;obtain⟨a,xs,rfl,hq,rs⟩:=(r1.same (s2.trans s3)).gm;refine .inl ⟨a,xs,rfl,hq.sq,fun p hp=>q _ _ (sa.trans (bV hp _)) (.oK (hA.same sa) hp ?_)⟩;unfold qH cutD;rw[rs.length];exact(rs.drop _).take _
 ·split at hf
  ·rename_i hw;cases hf;obtain⟨a,xs,rfl,hq,rs⟩:=(r1.same (s2.trans s3)).fT;refine .inr ⟨a,xs,rfl,hq.sq,by rw[rs.length];exact hw,fun p hp=>q _ _ (sa.trans (bV hp _)) (.sV (hA.same sa) hp ?_)⟩;unfold qH cutD;rw[rs.length];exact(rs.drop _).take _
  ·cases hf
 ·cases hf
theorem k9{lo hi:Option Expr}{fl fh:aw->Option (Option Int)}(h:QF X e f)(hl:Lg X lo fl)(hh:Lg X hi fh):QF X (.Subscript e (.Slice lo hi none p2) pos) (qF f fl fh):=⟨FF h.o hl.o hh.o⟩
def K5 (K:Fg):R2:=fun x y H Q=>∃l b xs zs,x=.ref l/\y=.ref b/\jb K H l xs/\jb K H b zs/\xs.length+zs.length<=sizeLine/\(xs=[]->Q (.ref b) H)/\(xs≠[]->zs=[]->Q (.ref l) H)/\(xs≠[]->zs≠[]->∀p,H p=none->Q (.ref p) (upd H p (.tup (xs++zs))))
theorem M6:dZ X (binaryOp .Add) (K5 X.K):=by
 intro pins s σ H x y v u Q I rx ry h;obtain⟨l,b,xs,zs,rfl,rfl,hH,hB,hz,q0,q1,q2⟩:=h;cases rx;cases ry;obtain⟨ao,r,p1,_⟩:=I.tuple hH;obtain⟨jg,r2,p2,_⟩:=I.tuple hB;obtain⟨⟨cls,dd,data,sl⟩,ho,hc,n,hd⟩:=p1;obtain⟨⟨Vh,Hf,data2,ET⟩,qy,zR,n2,hd2⟩:=p2;simp only at hc hd zR hd2;subst hc hd zR hd2;have h1:=r.length;have h2:=r2.length;have e:ao.toArray++jg.toArray=(ao++jg).toArray:=by simp
 have nf:=PySem.noFill_tuple_add;have sa:=PySem.seq_tuple_add;by_cases hv:ao=[]
 ·have hx:xs=[]:=r.rF.mp hv;exact concat_meets ⟨_,ho,rfl⟩ ⟨_,qy,rfl⟩ nf sa F.slot_tuple_add F.entry_tuple_add (F.args_tuple_add_2 _ _) (tuple_addW0 l b ao.toArray jg.toArray n n2 dd Hf sl ET (by simp[hv])) ⟨ho,qy,⟨.ref b,H,I,rfl,q0 hx⟩⟩
 ·have hx:xs≠[]:=fun z=>hv (r.rF.mpr z);by_cases hw:jg=[]
  ·have hy:zs=[]:=r2.rF.mp hw;exact concat_meets ⟨_,ho,rfl⟩ ⟨_,qy,rfl⟩ nf sa F.slot_tuple_add F.entry_tuple_add (F.args_tuple_add_2 _ _) (tuple_addW1 l b ao.toArray jg.toArray n n2 dd Hf sl ET (by simpa using hv) (by simp[hw])) ⟨ho,qy,⟨.ref l,H,I,rfl,q1 hx hy⟩⟩
  ·have hy:zs≠[]:=fun z=>hw (r2.rF.mpr z);refine concat_meets ⟨_,ho,rfl⟩ ⟨_,qy,rfl⟩ nf sa F.slot_tuple_add F.entry_tuple_add (F.args_tuple_add_2 _ _) (tuple_addW2 l b ao.toArray jg.toArray n n2 dd Hf sl ET (by simpa using hv) (by simpa using hw) (by rw[size_toArray,size_toArray];omega)) ⟨ho,qy,?_⟩;rw[e];refine⟨.ref s.heap.objs.size,upd H s.heap.objs.size (.tup (xs++zs)),I.laid (t':=s.toks) (fun b u e=>get?_push_of_some _ e) (le_refl _) ?_,rfl,q2 hx hy _ I.fresh⟩;exact⟨by rw[length_append];exact hz,_,r.append r2,⟨_,get?_push_size _ rfl,rfl,_,rfl⟩⟩
def tw:Dat->Dat->Option Dat
 | .list xs,.list ys=>if xs.length+ys.length<=sizeLine then some (.list (xs++ys))else none
 | .tuple xs,.tuple ys=>if xs.length+ys.length<=sizeLine then some (.tuple (xs++ys))else none
 |x,y=>lA x y
theorem IE:lJ X.K (fun x y H Q=>(K6 X.K x y H Q\/K5 X.K x y H Q)\/((∃i j,x=.int i/\y=.int j/\Q (.int (i+j)) H)\/∃i j,x=.str i/\y=.str j/\i.length+j.length<=sizeLine/\Q (.str (i++j)) H)) tw:=by
 intro H Av x y dx dy d Q hA rx ry h q;unfold tw at h;split at h
 ·split at h
  ·rename_i hz;cases h;obtain⟨l,xs,rfl,hq,rs⟩:=rx.gm;obtain⟨m,ys,rfl,Ci,u0⟩:=ry.gm;exact .inl (.inl ⟨l,m,xs,ys,rfl,rfl,hq.sq,Ci.sq,by rw[rs.length,u0.length];exact hz,fun p hp=>q _ _ (bV hp _) (.oK hA hp (rs.append u0))⟩)
  ·cases h
 ·split at h
  ·rename_i hz;cases h;obtain⟨l,xs,rfl,hq,rs⟩:=rx.fT;obtain⟨m,ys,rfl,Ci,u0⟩:=ry.fT;refine .inl (.inr ⟨l,m,xs,ys,rfl,rfl,hq.sq,Ci.sq,by rw[rs.length,u0.length];exact hz,fun e=>?_,fun _ e=>?_,fun _ _ p hp=>q _ _ (bV hp _) (.sV hA hp (rs.append u0))⟩)
   ·subst e;cases rs;exact q _ H (bg.refl H) (.tup Ci u0)
   ·subst e;cases u0;rw[append_nil]at q;exact q _ H (bg.refl H) (.tup hq rs)
  ·cases h
 ·unfold lA at h;split at h
  ·cases h;exact .inr (.inl ⟨_,_,rx.cY,ry.cY,q _ H (bg.refl H) (.int _)⟩)
  ·split at h
   ·rename_i hz;cases h;exact .inr (.inr ⟨_,_,rx.iy,ry.iy,hz,q _ H (bg.refl H) (.str _)⟩)
   ·cases h
  ·cases h
variable {fa:aw->Option Dat}
theorem mn(pa:QF X a fa)(pb:QF X b fb):QF X (.BinOp a .Add b pos) (f2 tw fa fb):=⟨mr ((BV.or M6).or (zg.or oE)) IE pa.o pb.o⟩
theorem LL(pa:QF X a fa)(pb:QF X b fb):QF X (.Compare a [.Is] [b] pos) (f2 ka fa fb):=⟨qi FQ BW pa.o pb.o (gj _)⟩
open PySem PySem.Spec PyProof.Rows L2
open PySem.W (Dat kqdOk)
def Ad (h:Heap) (l:Addr):Heap:=h.push {cls:=.type "list_iterator",data:=.fields #[.ref l,.int 0 0]}
theorem GZ(l:Addr)(ao:Array Value):Meets (Builtin.«enumerate.__new__» ⟨[.type "enumerate",.ref l],[]⟩) (fun _ R s=>s.heap.IsList l ao/\R (.ok (.ret (.ref (Ad s.heap l).objs.size))) {s with heap:=(Ad s.heap l).push {cls:=.type "enumerate",data:=.fields #[.none,.bool false,.ref s.heap.objs.size,rawInt 0,.none,.none]}}):=
 .of_wp fun prog w A R s h=>by
  obtain⟨hp,g,d,tk,os⟩:=s;obtain⟨c1,h⟩:=h;have UP:=sub_enumerate;have e1:IsList (Shared.heap ⟨hp,g,d,tk,os⟩) l ao:=c1;wp_walk using wpAny_pyIter_list e1
  refine wpAny_stack_any fun st=>wpAny_pure ?_;split
  ·rename_i c _ _ _ _ _;cases(c==Value.type "enumerate")<;>(wp_walk using wpAny_pyIter_list e1;exact⟨_,rfl,h⟩)
  ·wp_walk using wpAny_pyIter_list e1
   exact⟨_,rfl,h⟩
theorem Eb{s:Shared}{l:Addr}(c1:s.heap.IsList l ao)(h:∀h' e it,e≠it->IsEnum h' e it 0 .none->h'.IsListIter it l 0->(∀b o,s.heap.get? b=some o->h'.get? b=some o)->(∀b∈[e,it],s.heap.objs.size<=b)->Q (.ref e) {s with heap:=h'}):
  wpAny (model prog w) A (call (.type "enumerate") [.ref l]) Q E s:=by
 refine callType_new F.called_enumerate (by decide) (F.typeCall_enumerate_1 _) (F.newCall_enumerate_1 _) (fun obj=>F.args_object_init_2 obj _) F.entry_enumerate_new (GZ l ao) ⟨c1,?_⟩;have y1:(Ad s.heap l).objs.size=s.heap.objs.size+1:=by unfold Ad;rw[size_push]
 have f2:((Ad s.heap l).push {cls:=.type "enumerate",data:=.fields #[.none,.bool false,.ref s.heap.objs.size,rawInt 0,.none,.none]}).get? (Ad s.heap l).objs.size=some _:=get?_push_size _ rfl;have f1:((Ad s.heap l).push {cls:=.type "enumerate",data:=.fields #[.none,.bool false,.ref s.heap.objs.size,rawInt 0,.none,.none]}).get? s.heap.objs.size=some _:=get?_push_of_some _ (get?_push_size _ rfl);refine(?_:_/\_);refine⟨⟨_,f2,rfl⟩,h _ _ s.heap.objs.size (by rw[y1];exact Nat.succ_ne_self _) f2 ⟨_,f1,rfl,rfl⟩ (fun b o e=>get?_push_of_some _ (get?_push_of_some _ e)) fun b hb=>?_⟩;simp only[mem_cons,not_mem_nil,or_false]at hb;rcases hb with e|e
 ·rw[e,y1];exact Nat.le_succ _
 ·rw[e];exact le_refl _
def TK (K:Fg) (a:Addr):It:=
 ⟨fun i H=>∃xs x,fF K H a xs/\xs[i]?=some x,
  fun i H v H'=>∃T x,v=.ref T/\H T=none/\H'=upd H T (.tup [.int i,x])/\∀xs,fF K H a xs->xs[i]?=some x,
  fun i H=>∃xs,fF K H a xs/\xs.length<=i⟩
theorem EE{dU:List Expr}{pt:Pos}{a e:Addr}(ne:e≠it):
  Turn P w K (.Tuple dU kt pt) (TK K a) [e,it] e (fun i h=>(∃old,IsEnum h e it (i:Int) old)/\h.IsListIter it a i) where
 mem:=mem_cons_self
 obj:=fun i h st b hb=>by
  obtain⟨⟨old,Z⟩,o,ho,_,hd⟩:=st;simp only[mem_cons,not_mem_nil,or_false]at hb;rcases hb with q|q
  ·rw[q];exact⟨_,Z,fun v z=>nomatch z⟩
  ·rw[q];exact⟨o,ho,fun v z=>by rw[hd]at z;cases z⟩
 keep:=fun i h h' st k=>by
  obtain⟨⟨old,Z⟩,o,ho,r⟩:=st;exact⟨⟨old,k e (by simp) _ Z⟩,o,k it (by simp) _ ho,r⟩
 item:=by
  intro X hP hw hK hc i pins s σ H E I hf st hg;subst hP hw hK;obtain⟨⟨old,Z⟩,w1⟩:=st;obtain⟨xs,x,c1,hx⟩:=hg;obtain⟨ao,r1,p1,_⟩:=I.list c1;obtain⟨ux,ON,rx⟩:=r1.get hx;have lt:∀b∈[e,it],b<s.heap.objs.size:=fun b hb=>by
   simp only[mem_cons,not_mem_nil,or_false]at hb;rcases hb with q|q
   ·rw[q];exact lt_size Z
   ·rw[q];obtain⟨o,ho,_⟩:=w1;exact lt_size ho
  refine wpAny_pyNext_enum_item Z w1 p1.isList (x:=ux) (by simpa using ON) ne fun g b1 b2 b3 b4 b5=>⟨_,rfl,?_⟩;refine wpAny_letOwnedTupleGo_enum (s:={s with heap:=g,toks:=s.toks+1}) b1 fun g' b6 b7=>?_;have In:Inv X pins σ (upd H s.heap.objs.size (.tup [.int i,x])) {s with heap:=s.heap.push {cls:=.type "tuple",data:=.seq #[.int i s.toks,ux]},toks:=s.toks+1}:=
   I.laid (t':=s.toks+1) (fun b u e=>get?_push_of_some _ e) (le_refl _) ⟨by show 2<=sizeLine;decide,[.int i s.toks,ux],.cons ⟨_,rfl⟩ (.cons rx .nil),⟨_,get?_push_size _ rfl,rfl,_,rfl⟩⟩
  have uH:∀b∈[e,it],(upd H s.heap.objs.size (.tup [.int i,x])) b=none:=fun b hb=>by
   rw[bD (ne_of_lt (lt b hb))];exact(hf b hb).1
  have I3:Inv X pins σ (upd H s.heap.objs.size (.tup [.int i,x])) {s with heap:=g',toks:=s.toks+1}:=qX (s:={s with heap:=s.heap.push {cls:=.type "tuple",data:=.seq #[.int i s.toks,ux]},toks:=s.toks+1}) (h':=g') (t':=s.toks+1) (ch:=[e,it]) In (fun b o hb q=>by
   simp only[mem_cons,not_mem_nil,or_false,not_or]at hb;refine b7.extBut _ _ hb.1 ?_;rcases Heap.get?_push_cases (show(s.heap.push {cls:=.type "tuple",data:=.seq #[.int i s.toks,ux]}).get? b=some o from q)with⟨e1,e2⟩|e1
   ·rw[e1,e2];exact b3
   ·exact b5 b o hb.1 hb.2 e1) fun b hb=>⟨uH b hb,(hf b hb).2⟩
  refine⟨.ref s.heap.objs.size,upd H s.heap.objs.size (.tup [.int i,x]),I3,rfl,⟨_,x,rfl,I.bF.fresh (le_refl _),rfl,fun ys d1=>?_⟩,⟨⟨_,b6⟩,?_⟩,uH⟩
  ·rw[I.sZ d1 c1];exact hx
  ·obtain⟨o,ho,r⟩:=b2;exact⟨o,b7.extBut _ _ ne.symm ho,r⟩
 done:=by
  intro X hP hw hK hc i pins s σ H E I hf st hg;subst hP hw hK;obtain⟨⟨old,Z⟩,w1⟩:=st;obtain⟨xs,c1,hl⟩:=hg;obtain⟨ao,r1,p1,_⟩:=I.list c1;have l1:=r1.length;refine wpAny_pyNext_enum_end (I.ok.hd hc) Z w1 p1.isList (by simp;omega) fun g k=>⟨rfl,?_⟩;exact qX (h':=g) (t':=s.toks) (ch:=[e,it]) I (fun b o hb q=>by
   simp only[mem_cons,not_mem_nil,or_false,not_or]at hb;exact k b o hb.2 q) hf
 self:=fun A i s Q E st h=>wpAny_pyIter_enum st.1.choose_spec h
def Rp (K:Fg) (ta:TA):TI:=fun σ H R=>ta σ H fun vs H1=>∃a1,vs=[.ref a1]/\(∃xs,fF K H1 a1 xs)/\R (TK K a1) H1
theorem LV{dU:List Expr}{pt:Pos}(hg:Gl X "enumerate")(hm:X.mg "enumerate"=none)(ha:PA X [a] ta)(hs:starEach [a] X.env=[(false,eval a X.env)]:=by rfl):
  PI X (.Tuple dU kt pt) (.Call (.Name "enumerate" p) [a] [] pos) (Rp X.K ta):=by
 intro pins s σ H R I h;refine Call_ (mB I hg hm boot_enumerate (PyProof.Rows.callWith_type1 (c8 (ha pos pins s σ H _ I h) fun us s1 ⟨vs,H1,I1,r1,q1⟩=>?_) (by rw[hs];rfl) (by rfl)));obtain⟨a1,e,⟨xs,c1⟩,q⟩:=q1;subst e;cases r1 with
 |cons r rr=>
  cases rr;cases r;obtain⟨DN,_,p1,_⟩:=I1.list c1;exact Eb p1.isList fun h' e it ne Z w1 kk new=>wpAny_pyIter_enum Z ⟨e,[e,it],_,_,H1,rfl,I1.kept (t':=s1.toks) kk,EE ne,⟨⟨_,Z⟩,w1⟩,fun b hb=>I1.vM (new b hb) (I1.bF.fresh (new b hb)),q⟩
def kf:Nat->List Dat->List Dat
 |_,[]=>[]
 |i,x::xs=>.tuple [.int i,x]::kf (i+1) xs
variable {fs:aw->Option (List Dat)} in
def qw (fs:aw->Option (List Dat)):aw->Option (List Dat):=fun ρ=>(fs ρ).bind fun ds=>match ds with
 |[.list xs]=>some (kf 0 xs)
 |_=>none
theorem xt:∀(xs:List Dat) (i:Nat),(kf i xs).length=xs.length
 |[],_=>rfl
 |x::xs,i=>congrArg (· + 1) (xt xs (i+1))
theorem xu:∀{xs:List Dat} {k i:Nat} {d:Dat},(kf k xs)[i]?=some d->∃x,xs[i]?=some x/\d=.tuple [.int ((k+i:Nat):Int),x]
 |[],k,i,d,h=>by simp[kf]at h
 |x::xs,k,0,d,h=>by simp[kf]at h;exact⟨x,rfl,h.symm⟩
 |x::xs,k,i+1,d,h=>by
  obtain⟨y,h1,h2⟩:=xu (xs:=xs) (k:=k+1) (i:=i) (by simpa [kf]using h);exact⟨y,by simpa using h1,by rw[h2,show k+1+i=k+(i+1) by omega]⟩
variable {fs:aw->Option (List Dat)} in
theorem Iu{dU:List Expr}{pt:Pos}(hm:X.mg "enumerate"=none)(ha:Lh X [a] fs)(hg:Gl X "enumerate":=by rfl)(hs:starEach [a] X.env=[(false,eval a X.env)]:=by rfl):
  Tr X (.Tuple dU kt pt) (.Call (.Name "enumerate" p) [a] [] pos) (qw fs):=lU (LV hg hm ha hs) fun σ H R aQ=>by
 obtain⟨Av,ρ,ds,hA,hE,hf,q⟩:=aQ;obtain⟨as,e1,hf⟩:=bind_some hf;refine⟨Av,ρ,as,hA,hE,e1,fun vs H1 s1 r=>?_⟩;match as,hf,r with
 |[.list x],hf,r=>
  cases hf;obtain⟨v,rfl,rv⟩:=r.eh;obtain⟨a1,xs,rfl,c1,_⟩:=rv.gm;refine⟨a1,rfl,⟨xs,c1.sq⟩,q _ [.ref a1] [.list x] H1 s1 r fun i H iI rr=>?_⟩;obtain⟨v',e,EX⟩:=rr.eh;cases e;obtain⟨_,xs,e,c1,rx⟩:=EX.gm;cases e;refine⟨fun hl=>⟨xs,c1.sq,?_⟩,fun di hd=>?_⟩
  ·rw[xt]at hl;rw[rx.length];exact hl
  ·obtain⟨dx,h1,rfl⟩:=xu hd;obtain⟨vx,hx,Ny⟩:=rx.get h1;refine⟨⟨xs,vx,c1.sq,hx⟩,fun z H' P1 hz=>?_⟩;obtain⟨T,x',rfl,hT,rfl,hh⟩:=hz;have h3:=hh xs c1.sq;rw[hx]at h3;cases h3;rw[zero_add];exact⟨bV hT _,.sV P1 hT (.cons (.int _) (.cons Ny .nil))⟩
variable {fs:aw->Option (List Dat)} in
theorem q8{dU:List Expr}{pt:Pos}(hm:X.mg "enumerate"=none)(ha:ky X [a] fs)(hg:Gl X "enumerate":=by rfl)(hs:starEach [a] X.env=[(false,eval a X.env)]:=by rfl):
  v3 X (.Tuple dU kt pt) (.Call (.Name "enumerate" p) [a] [] pos) (qw fs):=⟨Iu hm ha.o hg hs⟩
open PySem PySem.Spec PyProof.Rows L2
open PySem.W (Dat kqdOk)
def Lk (hi:Int) (n:Nat):It:=⟨fun i _=>i<n,fun i H x H'=>H'=H/\x=.int (hi-i),fun i _=>n<=i⟩
theorem EF(it:Addr)(hi:Int)(n:Nat):Turn P w K tg (Lk hi n) [it] it (fun i h=>IsRangeIter h it (hi+(i:Nat)*(-1)) ((n:Int)-(i:Nat)) (-1)) where
 mem:=by simp
 obj:=fun i h st b hb=>by
  have q:b=it:=by simpa using hb
  rw[q];exact⟨_,st,fun v z=>by
   have z2:Data.fields _=Data.cell v:=z;cases z2⟩
 keep:=fun i h h' st k=>k it (by simp) _ st
 item:=by
  intro X hP hw hK hc i pins s σ H E I hf st hg;subst hP hw hK;obtain⟨f0,f1,f2,f3,f4,f5⟩:=hf it (by simp);refine wpAny_pyNext_range_item st (by have:i<n:=hg;omega) fun g b1 b2=>?_;have I1:Inv X pins σ H {s with heap:=g,toks:=s.toks+1}:=I.turned (fun b o hb e=>b2.extBut b o hb e) f0 f1 f3 f4 f5;have b3:IsRangeIter g it (hi+((i+1:Nat):Int)*(-1)) ((n:Int)-((i+1:Nat):Int)) (-1):=by
   have e1:hi+((i+1:Nat):Int)*(-1)=hi+(i:Int)*(-1)+(-1):=by omega
   have e2:(n:Int)-((i+1:Nat):Int)=(n:Int)-(i:Int)-1:=by omega
   rw[e1,e2];exact b1
  refine⟨_,rfl,yb (s:={s with heap:=g,toks:=s.toks+1}) (n:="range_iterator") b1 rfl rfl (by decide) ⟨.int (hi-i),H,I1,⟨s.toks,?_⟩,⟨rfl,rfl⟩,b3,fun b hb=>(hf b hb).1⟩⟩;rw[show hi+(i:Int)*(-1)=hi-i by omega]
 done:=by
  intro X hP hw hK hc i pins s σ H E I hf st hg;subst hP hw hK;obtain⟨f0,f1,f2,f3,f4,f5⟩:=hf it (by simp);exact wpAny_pyNext_range_end (I.ok.hd hc) st (by have:n<=i:=hg;omega) fun g eb=>⟨rfl,I.turned (t':=s.toks) (fun b o hb e=>eb b o hb e) f0 f1 f3 f4 f5⟩
 self:=fun _ _ _ _ _ st h=>wpAny_pyIter_rangeiter st h
theorem wI(a b:Int):Builtin.Range.rangeSize a b (-1)=((a-b).toNat:Int):=by
 unfold Builtin.Range.rangeSize;rw[if_neg (by decide)];split
 ·rw[show(- (-1:Int))=1 by decide,Int.ediv_one];omega
 ·omega
variable {hi:Int}
theorem small_down{lo:Int}(h1: -(2^62)<=hi)(h2:hi<2^62)(h3: -(2^62)<=lo)(h4:lo<2^62):Builtin.Range.small hi lo (-1)=true:=by
 unfold Builtin.Range.small;rw[wI];simp only[Builtin.Range.rangeFitsLong,and_eq_true,or_eq_true,decide_eq_true_eq,beq_iff_eq,show ¬(-1:Int)>0 by decide,if_false];omega
theorem F6{σ:L2.St}{s:Shared}{R:It->Hp->Prop}{lo:Int}{t u v:Tok}{tk:Nat}(I:Inv X pins σ H s)(h1: -(2^62)<=hi)(h2:hi<2^62)(h3: -(2^62)<=lo)(h4:lo<2^62)(q:R (Lk hi (hi-lo).toNat) H):wpAny (model X.prog X.w) X.A (pyIter (.ref s.heap.objs.size)) (Qe X pins σ tg R) E {s with heap:=s.heap.push {cls:=.type "range",data:=.fields #[.int hi t,.int lo u,.int (-1) v]},toks:=tk}:=by
 refine wpAny_pyIter_range (IsRange.new ..) (small_down h1 h2 h3 h4) ?_;generalize ho:({cls:=.type "range",data:=.fields #[.int hi t,.int lo u,.int (-1) v]}:Obj)=o;have I1:Inv X pins σ H {s with heap:=s.heap.push o,toks:=tk}:=I.kept fun b o e=>get?_push_of_some _ e;refine⟨(s.heap.push o).objs.size,[(s.heap.push o).objs.size],_,_,H,rfl,I1.kept (t':=tk) fun b o e=>get?_push_of_some _ e,EF _ hi (hi-lo).toNat,?_,fun b hb=>?_,q⟩
 ·have e1:hi+((0:Nat):Int)*(-1)=hi:=by simp
  have e2:(((hi-lo).toNat:Nat):Int)-((0:Nat):Int)=Builtin.Range.rangeSize hi lo (-1):=by rw[wI];omega
  show IsRangeIter _ _ (hi+((0:Nat):Int)*(-1)) ((((hi-lo).toNat:Nat):Int)-((0:Nat):Int)) (-1);rw[e1,e2];exact get?_push_size _ rfl
 ·have e:b=(s.heap.push o).objs.size:=by simpa using hb
  rw[e];exact I1.vM (le_refl _) (I1.bF.fresh (le_refl _))
def Rq (ta:TA):TI:=fun σ H R=>ta σ H fun vs H1=>∃i j:Int,vs=[.int i,.int j,.int (-1)]/\(-(2^62)<=i/\i<2^62/\-(2^62)<=j/\j<2^62)/\R (Lk i (i-j).toNat) H1
theorem LW(hg:Gl X "range")(hm:X.mg "range"=none)(ha:PA X [a,b,c] ta)(hs:starEach [a,b,c] X.env=[(false,eval a X.env),(false,eval b X.env),(false,eval c X.env)]:=by rfl)(qx:starEach [b,c] X.env=[(false,eval b X.env),(false,eval c X.env)]:=by rfl):
  PI X tg (.Call (.Name "range" p) [a,b,c] [] pos) (Rq ta):=by
 intro pins s σ H R I h;refine Call_ (mB I hg hm boot_range (PyProof.Rows.callWith_type1 (c8 (ha pos pins s σ H _ I h) fun us s1 ⟨vs,H1,I1,r1,q1⟩=>?_) (by rw[hs,qx]) (by rw[qx];rfl)));obtain⟨i,j,e,⟨q1,q2,q3,q4⟩,q⟩:=q1;subst e;cases r1 with
 |cons r rr=>
  cases rr with
  |cons r' rr=>
   cases rr with
   |cons VI rr=>
    cases rr;obtain⟨t,rfl⟩:=r;obtain⟨t',rfl⟩:=r';obtain⟨t'',rfl⟩:=VI;exact call_range_3 (by decide) (F6 I1 q1 q2 q3 q4 q) (.inl (PyProof.noPylong_of_log2 (by decide +kernel)))
def iY (hi:Int) (n:Nat):List Dat:=(List.range n).map fun(i:Nat)=>Dat.int (hi-(i:Int))
def Du:List Dat->Option (List Dat)
 |[.int i,.int j,.int k]=>if k=-1/\(-(2^62)<=i/\i<2^62)/\(-(2^62)<=j/\j<2^62)then some (iY i (i-j).toNat)else none
 |_=>none
theorem FO:Over K (Lk hi n) .bM .none (iY hi n):=by
 intro i H Av _;refine⟨fun h=>?_,fun di hd=>?_⟩
 ·have:(iY hi n).length=n:=by unfold iY;rw[length_map,length_range]
  show n<=i;omega
 ·unfold iY at hd;rw[getElem?_map]at hd;cases e:(List.range n)[i]? with
  |none=>rw[e]at hd;cases hd
  |some k=>
   rw[e]at hd;cases hd;obtain⟨hl,e2⟩:=List.getElem?_eq_some_iff.mp e;rw[length_range]at hl;rw[List.getElem_range]at e2;subst e2;refine⟨hl,fun y H' hy=>?_⟩;obtain⟨e1,e3⟩:=hy;subst e3;exact⟨e1,.int _⟩
theorem ay.EH{e g:Dat}(h:ay K H Av vs [d,e,g]):∃v u t,vs=[v,u,t]/\aS K H Av v d/\aS K H Av u e/\aS K H Av t g:=by
 cases h with|cons a r=>obtain⟨u,t,rfl,b,c⟩:=r.fG;exact⟨_,u,t,rfl,a,b,c⟩
variable {fs:aw->Option (List Dat)} in
theorem Iv(hm:X.mg "range"=none)(ha:Lh X [a,b,c] fs)(hg:Gl X "range":=by rfl)(hs:starEach [a,b,c] X.env=[(false,eval a X.env),(false,eval b X.env),(false,eval c X.env)]:=by rfl)(qx:starEach [b,c] X.env=[(false,eval b X.env),(false,eval c X.env)]:=by rfl):
  Tr X tg (.Call (.Name "range" p) [a,b,c] [] pos) (qv Du fs):=lU (LW hg hm ha hs qx) fun σ H R aQ=>by
 obtain⟨Av,ρ,ds,hA,hE,hf,q⟩:=aQ;obtain⟨as,e1,e2⟩:=bind_some hf;refine⟨Av,ρ,as,hA,hE,e1,fun vs H1 s1 r=>?_⟩;unfold Du at e2;split at e2
 ·rename_i i j k;split at e2
  ·rename_i hj;obtain⟨rfl,⟨g1,g2⟩,g3,g4⟩:=hj;cases e2;obtain⟨v,u,t,rfl,rv,ru,rt⟩:=r.EH;rw[rv.cY,ru.cY,rt.cY];exact⟨i,j,rfl,⟨g1,g2,g3,g4⟩,q _ [.bM] [.none] H1 s1 (.cons .bM .nil) FO.s⟩
  ·cases e2
 ·cases e2
variable {fs:aw->Option (List Dat)} in
theorem Fc(hm:X.mg "range"=none)(ha:ky X [a,b,c] fs)(hg:Gl X "range":=by rfl)(hs:starEach [a,b,c] X.env=[(false,eval a X.env),(false,eval b X.env),(false,eval c X.env)]:=by rfl)(qx:starEach [b,c] X.env=[(false,eval b X.env),(false,eval c X.env)]:=by rfl):
  v3 X tg (.Call (.Name "range" p) [a,b,c] [] pos) (qv Du fs):=⟨Iv hm ha.o hg hs qx⟩
def E5 (fa fb:aw->Option (List Dat)):aw->Option (List Dat):=fun ρ=>(fa ρ).bind fun x=>(fb ρ).bind fun y=>if x.length+y.length<=sizeLine then some (x++y)else none
variable {gs:aw->Option (List Dat)}
variable {fs:aw->Option (List Dat)} in
theorem M0(ha:PE X a (jY X.K fs))(hb:PE X b (jY X.K gs)):PE X (.BinOp a .Add b pos) (jY X.K (E5 fs gs)):=bp (xZ BV ha hb) fun σ H Q aQ=>by
 obtain⟨Av,ρ,out,hA,hE,hf,q⟩:=aQ;obtain⟨x,e1,hf⟩:=bind_some hf;obtain⟨y,e2,hf⟩:=bind_some hf;split at hf
 ·rename_i hz;cases hf;refine⟨Av,ρ,x,hA,hE,e1,fun H1 p xs s1 hp r=>?_⟩;have s2:=bV hp (.lst xs);refine⟨Av,ρ,y,hA.same (s1.trans s2),hE.same (s1.trans s2),e2,fun H2 p2 ys s3 fu r2=>?_⟩;have s4:=bV fu (.lst ys);refine⟨p,p2,xs,ys,rfl,rfl,.of (s4 p _ (s3 p _ ee)),.of ee,by rw[r.length,r2.length];exact hz,fun p3 W5=>?_⟩;exact q _ p3 _ (s1.trans (s2.trans (s3.trans s4))) W5 ((r.same (s2.trans (s3.trans s4))).append (r2.same s4))
 ·cases hf
variable {fs:aw->Option (List Dat)} in
theorem Il(ha:QE X a (jY X.K fs))(hb:QE X b (jY X.K gs)):QE X (.BinOp a .Add b pos) (jY X.K (E5 fs gs)):=⟨M0 ha.o hb.o⟩
def FY:Nat->Dat->Bool
 |0,_=>false
 |n+1,d=>match d with
  | .list _=>false
  | .tuple ds=>ds.all (FY n)
  | .none=>true
  | .bool _=>true
  | .int _=>true
  | .str _=>true
  |_=>false
theorem aS.apart{K:Fg}{aj H H':Hp}{Av:fV}{pn:Option Addr}{aE:Hid}{σ:L2.St}{Γ:ax}{ad:Nat->Addr}(G:GA K aj Av pn aE H σ Γ ad)(s:bg H H'):∀(n:Nat) {v:V} {d:Dat},FY n d=true->aS K H' Av v d->aS K H' (aR Av Γ ad) v d
 |0,v,d,h,_=>by cases h
 |n+1,v,d,h,r=>by
  cases r with
  |bM=>exact .bM
  |bl b=>exact .bl b
  |int i=>exact .int i
  |str x=>exact .str x
  | @tup a xs ds hq rs=>
   have oT:ds.all (FY n)=true:=h;have VG:ay K H' (aR Av Γ ad) xs ds:=by
    clear hq h;induction xs generalizing ds with
    |nil=>cases rs;exact .nil
    |cons x xs ih=>
     cases rs with
     |cons r1 r2=>
      rw[all_cons,and_eq_true]at oT;exact .cons (aS.apart G s n oT.1 r1) (ih r2 oT.2)
   refine .tup ?_ VG;rcases hq with⟨h1,h2⟩|h1
   ·refine .inl ⟨h1,?_⟩;rintro(z|⟨i,sl,ei,mi,z⟩)
    ·exact h2 z
    ·cases sl with
     |a7 d=>cases mi
     |own es=>
      obtain⟨ys,_,hl,_⟩:=G.own i es ei;have jo:=s _ _ hl;rw[z]at jo;rcases h1 with h1|⟨o,h1⟩
      ·rw[h1]at jo;cases jo
      ·rw[h1]at jo;cases jo
     |obj O es=>
      obtain⟨ys,_,hl,_⟩:=G.obj i O es ei;have jo:=s _ _ hl;rw[z]at jo;rcases h1 with h1|⟨o,h1⟩
      ·rw[h1]at jo;cases jo
      ·rw[h1]at jo;cases jo
   ·exact .inr h1
  |lst _ _=>cases h
def xW (i:Nat) (f:aw->Option Dat):ax->Option Fl:=fun Γ=>(f (bX Γ)).bind fun d=>if FY 9 d=true then some (.nx (Γ.set i (some (.a7 d))))else none
theorem Ip(i:Nat)(hN:X.N.Nodup)(h:PF X e f)(hi:X.N[i]?=some x:=by rfl)(hx:Loc X.env.scope x:=by first|exact .inl rfl|exact .inr rfl)(hs:swapsWith e (some (.Name x pos')) pos.line X.env=pure false:=by rfl)(hf:X.fn x=true\/X.env.scope.names.lookup x=some .local:=by first|exact .inl rfl|exact .inr rfl):
  Tq X (.Assign [.Name x pos'] e pos) (xW i f):=cm (qf hN hi hx h hs hf) fun D σ H aQ=>by
 obtain⟨aj,Av,pn,aE,Γ,fl,⟨ad,G⟩,hf,q⟩:=aQ;obtain⟨d,e1,hf⟩:=bind_some hf;split at hf
 ·rename_i hn;cases hf;exact⟨Av,bX Γ,d,G.ja.same G.same,G.p0,e1,fun v H' s r=>q _ _ ⟨ad,(G.grow s).set i (aS.apart G s 9 hn r)⟩⟩
 ·cases hf
theorem wK(i:Nat)(hN:X.N.Nodup)(h:QF X e f)(hi:X.N[i]?=some x:=by rfl)(hx:Loc X.env.scope x:=by first|exact .inl rfl|exact .inr rfl)(hs:swapsWith e (some (.Name x pos')) pos.line X.env=pure false:=by rfl)(hf:X.fn x=true\/X.env.scope.names.lookup x=some .local:=by first|exact .inl rfl|exact .inr rfl):
  gB X (.Assign [.Name x pos'] e pos) (xW i f):=⟨Ip i hN h.o hi hx hs hf⟩
open PySem PySem.Spec PyProof.Rows L2
open PySem.W (Dat kqdOk)
def vp (i:Nat) (f fb:aw->Option Dat):ax->Option Fl:=fun Γ=>(f (bx Γ)).bind fun d=>(fb (bx Γ)).bind fun k=>(qL k).bind fun k=>match Γ[i]? with
 |some (some (.own ds))=>(lE ds.length k).map fun j=>.nx (Γ.set i (some (.own (ds.set j d))))
 |_=>none
theorem DC(i:Nat)(pe:PF X e f)(pb:PF X b fb)(hN:X.N[i]?=some x:=by rfl)(hv:mS X.env.scope x:=by first|exact Or.inl rfl|exact Or.inr (Or.inl rfl)|exact Or.inr (Or.inr rfl))(hd:(x==("__debug__" : Str))=false:=by decide)(gw:(x==("__classdict__" : Str))=false:=by decide)(ha:∀v,assign (.Subscript (.Name x p1) b p3) X.env v=(do
   let ov <- holding [v] (eval (.Name x p1) X.env);let iv <- holding [v,ov] (eval b X.env);standAt p3
   holding [v,ov,iv] (setItem ov iv v)
   release [v,ov,iv] []):=by intro _;rfl)(hs:swapsWithSole [.Subscript (.Name x p1) b p3] e pos.line X.env=pure false:=by rfl)(hw:swappedStores [.Subscript (.Name x p1) b p3] e X.env=pure none:=by rfl)(h1:(assignEach [.Subscript (.Name x p1) b p3] X.env).map (·.2)=[assign (.Subscript (.Name x p1) b p3) X.env]:=by rfl):
  Tq X (.Assign [.Subscript (.Name x p1) b p3] e pos) (vp i f fb):=cm (qg pe (yW (mv hN hv hd gw) pb set_list ha) hs hw h1) fun D σ H aQ=>by
 obtain⟨aj,Av,pn,aE,Γ,fl,⟨ad,G⟩,hf,q⟩:=aQ;obtain⟨d,e1,Wt⟩:=bind_some hf;obtain⟨kd,e2,OZ⟩:=bind_some Wt;obtain⟨k,e3,ic⟩:=bind_some OZ;have e4:=Ax e3;subst e4;cases hi:Γ[i]? with
 |none=>rw[hi]at ic;cases ic
 |some o=>
  cases o with
  |none=>rw[hi]at ic;cases ic
  |some sl=>
   cases sl with
   |a7 _=>rw[hi]at ic;cases ic
   |obj _ _=>rw[hi]at ic;cases ic
   |own ds=>
    rw[hi]at ic;obtain⟨j,e5,Ws⟩:=ba (show(lE ds.length k).map _=some fl from ic);subst Ws;refine⟨aR Av Γ ad,bx Γ,d,G.gz,G.iT,e1,fun v H' s r=>?_⟩;have G1:=G.grow s;obtain⟨xs,g1,g2,g3,g4⟩:=G1.own i ds hi;refine⟨_,g1,aR Av Γ ad,bx Γ,.int k,G1.gz,G1.iT,e2,fun y H2 s2 ry=>?_⟩;have G2:=G1.grow s2;obtain⟨ys,g5,g6,g7,g8⟩:=G2.own i ds hi;refine⟨_,ys,k,j,rfl,ry.cY,g6,by rw[g7.length];exact e5,q _ _ ⟨ad,G2.change hi (g7.set (r.same s2))⟩⟩
theorem AQ(i:Nat)(pe:QF X e f)(pb:QF X b fb)(hN:X.N[i]?=some x:=by rfl)(hv:mS X.env.scope x:=by first|exact Or.inl rfl|exact Or.inr (Or.inl rfl)|exact Or.inr (Or.inr rfl))(hd:(x==("__debug__" : Str))=false:=by decide)(gw:(x==("__classdict__" : Str))=false:=by decide)(ha:∀v,assign (.Subscript (.Name x p1) b p3) X.env v=(do
   let ov <- holding [v] (eval (.Name x p1) X.env);let iv <- holding [v,ov] (eval b X.env);standAt p3
   holding [v,ov,iv] (setItem ov iv v)
   release [v,ov,iv] []):=by intro _;rfl)(hs:swapsWithSole [.Subscript (.Name x p1) b p3] e pos.line X.env=pure false:=by rfl)(hw:swappedStores [.Subscript (.Name x p1) b p3] e X.env=pure none:=by rfl)(h1:(assignEach [.Subscript (.Name x p1) b p3] X.env).map (·.2)=[assign (.Subscript (.Name x p1) b p3) X.env]:=by rfl):
  gB X (.Assign [.Subscript (.Name x p1) b p3] e pos) (vp i f fb):=⟨DC i pe.o pb.o hN hv hd gw ha hs hw h1⟩
open PySem PySem.Spec PyProof.Rows L2
open PySem.W (Dat kqdOk kqdP kqdPs kqd_lay)
abbrev RK:=Str×List Int
def dP (k:RK):Dat:=.tuple [.str k.1,.tuple (k.2.map .int)]
def rf (w:World) (k:RK):Int:=reduceHash (Builtin.Tuple.tupleHashOf [hashStr w k.1,reduceHash (Builtin.Tuple.tupleHashOf (k.2.map hashInt))])
def dS (P:Program) (w:World) (h:Heap) (k:RK) (a:Addr):Prop:=∃o n t b,h.get? a=some o/\o.cls=.type "tuple"/\o.data=.seq #[.str k.1 t,.ref b] n/\IsTupleKey (intKind P w) h k.2 b/\PyData.strOk k.1=true
variable {k:RK} {a:Addr}
variable {s:Shared} in
theorem dS.ty(x:dS P w s.heap k a):s.TypeIs (.ref a) "tuple":=by
 obtain⟨o,n,t,b,h1,h2,_⟩:=x;exact⟨o,h1,h2⟩
variable {h:Heap} {x y:RK}
theorem dS.same(p:dS P w h x a)(q:dS P w h y a):x=y:=by
 obtain⟨o,n,t,b,h1,h2,h3,h4,_⟩:=p;obtain⟨o',n',t',b',g1,g2,g3,g4,_⟩:=q;have e:o=o':=Option.some.inj (h1.symm.trans g1);subst e;rw[h3]at g3;injection g3 with g3 _;injection g3 with g3;injection g3 with e1 e2;injection e2 with e2 _;injection e1 with e1 _;injection e2 with e2;subst e2;exact Prod.ext e1 (h4.inj g4)
variable {d:Addr}
theorem dS.nJ{o:Obj}{es ep}(x:dS P w h k a)(ho:h.get? d=some o)(hd:o.data=.dict es ep)(hs:SameBut d h h'):dS P w h' k a:=by
 obtain⟨o',n,t,b,h1,h2,h3,h4,h5⟩:=x;refine⟨o',n,t,b,(hs.2 a ?_).trans h1,h2,h3,h4.keeps ho hd hs,h5⟩;intro z;subst z;rw[h1]at ho;cases ho;rw[hd]at h3;cases h3
variable {s:Shared} in
theorem dS.hash{Q:Int->Shared->Prop}(hu:A.units+8<cLine)(hk:dS P w s.heap k a)(h:Q (rf w k) {s with toks:=s.toks+(k.2.length+3)}):wpAny (model P w) A (pyHash (.ref a)) Q E s:=by
 have ty:=hk.ty;obtain⟨o,n,t,b,ho,_,hd,hb,_⟩:=hk;unfold pyHash pyHashByItsType;refine wpAny_bind (wpAny_cRoomFor_or (.inr (by omega)) (wpAny_bind (wpAny_specialOf ty F.slot_tuple_hash.lookup ?_)));have nb:¬((some (Value.builtin "tuple.__hash__")==some Value.none)=true):=by rw[beq_builtin_none];exact Bool.false_ne_true
 refine(?_:wpAny _ _ (if(some (Value.builtin "tuple.__hash__")==some Value.none)=true then _ else _) Q E s);rw[if_neg nb];refine wpAny_bind (wpAny_specialOf ty F.slot_tuple_hash.lookup (?_:wpAny _ _ (callSpecialIfBoundUnlessNone? (.ref a) "__hash__" _ >>= _) Q E s));refine wpAny_bind (wpAny_callSpecialIfBoundUnlessNone?_slot ty F.slot_tuple_hash (wpAny_call_entry F.slot_tuple_hash ty F.entry_tuple_hash ?_ (F.args_tuple_hash_1 _)));refine(?_:wpAny _ _ (Builtin.Tuple.tupleItemsOf (.ref a) >>= _) _ _ s);refine wpAny_bind (wpAny_tupleItemsOf ho hd (wpAny_bind ?_));rw[<- forIn_toList];refine wpAny_forIn_list _ (fun rest (arr:Array Int) s'=>(rest=[.str k.1 t,.ref b]/\arr.toList=[]/\s'=s)\/(rest=[.ref b]/\arr.toList=[hashStr w k.1]/\s'={s with toks:=s.toks+1})\/
  (rest=[]/\arr.toList=[hashStr w k.1,tupleKeyHash (intKind P w) k.2]/\s'={s with toks:=s.toks+1+(k.2.length+1)})) _ ?_ ?_ _ _ (.inl ⟨rfl,rfl,rfl⟩)
 ·rintro x rest arr s' (⟨h1,h2,rfl⟩|⟨h1,h2,rfl⟩|⟨h1,_⟩)
  ·cases h1;refine wpAny_bind (wpAny_pyHash_str ?_);first
    |exact wpAny_pure (.inr (.inl ⟨rfl,by simp[h2],rfl⟩))
    |exact wpAny_bind (wpAny_pure (wpAny_pure (.inr (.inl ⟨rfl,by simp[h2],rfl⟩))))
  ·cases h1;refine wpAny_bind (wpAny_pyHash_tuple (by first|omega|(show A.units+1<cLine;omega)|(show A.units+2<cLine;omega)) hb ?_)
   first
    |exact wpAny_pure (.inr (.inr ⟨rfl,by simp[h2],rfl⟩))
    |exact wpAny_bind (wpAny_pure (wpAny_pure (.inr (.inr ⟨rfl,by simp[h2],rfl⟩))))
  ·cases h1
 ·rintro arr s' (⟨h1,_⟩|⟨h1,_⟩|⟨_,h2,rfl⟩)
  ·cases h1
  ·cases h1
  ·refine(?_:wpAny _ _ (retInt (Builtin.Tuple.tupleHashOf arr.toList)) _ _ _);rw[h2];refine wpAny_ret_mkInt ?_;have e1:tupleKeyHash (intKind P w) k.2=reduceHash (Builtin.Tuple.tupleHashOf (k.2.map hashInt)):=rfl;rw[e1];unfold rf at h;generalize hz:Builtin.Tuple.tupleHashOf [hashStr w k.1,reduceHash (Builtin.Tuple.tupleHashOf (k.2.map hashInt))]=z at h;refine(?_:wpAny _ _ (if(decide (-(2:Int)^63<=z)&&decide (z<2^63))=true then _ else _) Q E _);have et:s.toks+1+(k.2.length+1)+1=s.toks+(k.2.length+3):=by omega
   unfold reduceHash at h;by_cases hr:(decide (-(2:Int)^63<=z)&&decide (z<2^63))=true
   ·rw[if_pos hr]at h ⊢;exact wpAny_pure (by rw[<- et]at h;exact h)
   ·rw[if_neg hr]at h ⊢;exact wpAny_bind (wpAny_rule (wpAny_pure (by rw[<- et]at h;exact h)))
theorem uA{h:Heap}:∀{ns:List Int} {vs:List Value},ItemsAre (intKind P w) ns vs->ReadsAll h vs (kqdPs (ns.map Dat.int)) []
 |[],_,.nil=>by rw[map_nil,kqdPs];exact .nil
 |n::ns,_,.cons h1 hr=>by
  obtain⟨t,rfl⟩:=Value.isInt_shape (k:=n) h1;rw[map_cons,kqdPs,kqdP];have:=ReadsAll.cons (Reads.int n t) (uA (h:=h) hr);exact this
theorem dS.reads(x:dS P w h k a):Reads h (.ref a) (kqdP (dP k)) []:=by
 obtain⟨o,n,t,b,h1,h2,h3,⟨o',ao,n',g1,g2,g3,g4⟩,_⟩:=x;unfold dP;rw[kqdP,kqdPs,kqdPs,kqdPs,kqdP,kqdP];refine .tuple h1 h2 h3 ?_;have:=ReadsAll.cons (Reads.str (h:=h) k.1 t) (ReadsAll.cons (Reads.tuple g1 g2 g3 (uA (h:=h) g4)) .nil);exact this
theorem dS.EO(x:dS P w h k a):PyData.strOk k.1=true:=let ⟨_,_,_,_,_,_,_,_,q⟩:=x;q
theorem lS(hk:PyData.strOk k.1=true):kqdOk 9 (dP k)=true:=by
 have e:(k.2.map Dat.int).all (kqdOk 7)=true:=by rw[all_map,all_eq_true];exact fun _ _=>rfl
 unfold dP;simp only[kqdOk,all_cons,List.all_nil,e,hk,Bool.and_true,Bool.true_and]
theorem oB(h:dP x=dP y):x=y:=by
 unfold dP at h;simp only[PySem.W.Dat.tuple.injEq,List.cons.injEq,PySem.W.Dat.str.injEq,and_true]at h;exact Prod.ext h.1 ((List.map_inj_right fun a b e=>by simpa using e).mp h.2)
variable {Q:Bool->Shared->Prop}
variable {s:Shared} in
theorem dS.eqv{b:Addr}(hu:A.units+8<cLine)(hx:dS P w s.heap x a)(hy:dS P w s.heap y b)(h:Q (decide (x=y)) s):wpAny (model P w) A (eqBool (.ref a) (.ref b)) Q E s:=by
 have l1:=kqd_lay 9 _ (lS hx.EO);have l2:=kqd_lay 9 _ (lS hy.EO);have d3:(kqdP (dP x)).depth<=3:=by
  have e:kqdOk 3 (dP x)=true:=by
   have e:(x.2.map Dat.int).all (kqdOk 1)=true:=by rw[all_map,all_eq_true];exact fun _ _=>rfl
   unfold dP;simp only[kqdOk,all_cons,List.all_nil,e,hx.EO,Bool.and_true,Bool.true_and]
  exact(kqd_lay 3 _ e).2
 refine PySem.SeqAt.eqBoolOverData P w A E s _ _ _ _ _ _ Q hx.reads hy.reads l1.1 l2.1 (by omega) ?_;rw[vP _ _ (lS hx.EO) (lS hy.EO)];by_cases e:x=y
 ·subst e;rw[mM rfl];rw[decide_eq_true rfl]at h;exact h
 ·rw[mN fun z=>e (oB z)];rw[decide_eq_false e]at h;exact h
variable {m:Nat}
variable {s:Shared} in
theorem Dv{ks:List Int}(hk:IsTupleKey (intKind P w) s.heap ks a)(h:Q true s):wpAny (model P w) A (eqIsQuiet (m+1) (.ref a)) Q E s:=by
 have hT:=hk.typeIs;obtain⟨o,ao,n,ho,_,hd,hi⟩:=hk;unfold eqIsQuiet;refine wpAny_bind (wpAny_specialOf hT F.slot_tuple_eq.lookup (?_:wpAny _ _ (isInstance (.ref a) (.type "tuple") >>= _) _ _ s));refine wpAny_bind (wpAny_isInstance hT isSubtype_tuple_tuple ?_);simp only[Bool.not_true,false_eq_true,if_false];refine wpAny_bind (wpAny_seqItems ho hd (wpAny_bind (?_:wpAny _ _ (forIn ao _ _) _ _ s)));rw[<- forIn_toList];refine wpAny_forIn_list _ (fun tl acc s2=>(∀x∈tl,carriedByValue x=true)/\s2=s/\acc.1=none) _ ?_ ?_ _ _ ⟨hi.byValue,rfl,rfl⟩
 ·rintro x tl acc s2 ⟨hv,rfl,ha⟩;rw[eqIsQuiet_byValue _ (hv x mem_cons_self)];refine wpAny_bind (wpAny_pure ?_);simp only[Bool.not_true,false_eq_true,if_false];exact wpAny_pure ⟨fun u q=>hv u (mem_cons_of_mem _ q),rfl,rfl⟩
 ·rintro⟨c1,c2⟩ s2 ⟨_,rfl,ha⟩;simp only at ha;subst ha;exact wpAny_pure h
variable {s:Shared} in
theorem dS.quiet(hk:dS P w s.heap k a)(h:Q true s):wpAny (model P w) A (eqIsQuiet 8 (.ref a)) Q E s:=by
 have hT:=hk.ty;obtain⟨o,n,t,b,ho,_,hd,hb,_⟩:=hk;unfold eqIsQuiet;refine wpAny_bind (wpAny_specialOf hT F.slot_tuple_eq.lookup (?_:wpAny _ _ (isInstance (.ref a) (.type "tuple") >>= _) _ _ s));refine wpAny_bind (wpAny_isInstance hT isSubtype_tuple_tuple ?_);simp only[Bool.not_true,false_eq_true,if_false];refine wpAny_bind (wpAny_seqItems ho hd (wpAny_bind (?_:wpAny _ _ (forIn #[Value.str k.1 t,.ref b] _ _) _ _ s)));rw[<- forIn_toList];refine wpAny_forIn_list _ (fun rest r s'=>r.1=none/\s'=s/\(∀v∈rest,carriedByValue v=true\/v=.ref b)) _ ?_ ?_ _ _ ⟨rfl,rfl,fun v hv=>by
  simp only[mem_cons,not_mem_nil,or_false]at hv;rcases hv with e|e
  ·rw[e];exact .inl rfl
  ·exact .inr e⟩
 ·rintro v rest acc s2 ⟨ha,rfl,oT⟩;rcases oT v mem_cons_self with e|e
  ·rw[eqIsQuiet_byValue _ e];refine wpAny_bind (wpAny_pure ?_);simp only[Bool.not_true,false_eq_true,if_false];exact wpAny_pure ⟨rfl,rfl,fun u q=>oT u (mem_cons_of_mem _ q)⟩
  ·rw[e];refine wpAny_bind (Dv hb ?_);simp only[Bool.not_true,false_eq_true,if_false];exact wpAny_pure ⟨rfl,rfl,fun u q=>oT u (mem_cons_of_mem _ q)⟩
 ·rintro⟨c1,c2⟩ s2 ⟨ha,rfl,_⟩;simp only at ha;subst ha;exact wpAny_pure h
def vv (P:Program) (w:World):HeapKind P w RK where
 is:=dS P w
 hash:=rf w
 draws:=fun k=>k.2.length+3
 room:=fun A=>A.units+8<cLine
 inj:=fun p q=>p.same q
 keeps:=fun x ho hd hs=>x.nJ ho hd hs
 pyHash:=fun hu hk h=>hk.hash hu h
 eqBool:=fun hu hx hy h=>hx.eqv hu hy h
 quiet:=fun hk h=>hk.quiet h
open PySem PySem.Spec PyProof.Rows L2
open PySem.W (Dat kqdOk)
variable {hI:ax->Option (List Dat×ax)}
def RT (K:Fg) (hI:ax->Option (List Dat×ax)):TI:=fun σ H R=>∃aj Av pn aE Γ ad ao af,GA K aj Av pn aE H σ Γ ad/\hI Γ=some (ao,af)/\∀J xs kg H1 gA,GA K aj Av pn aE H1 σ af gA->ay K H1 (aR Av af gA) xs kg->ye K J xs kg ao->R J H1
abbrev Qb (X:Cx) (tg iter:Expr) (hI:ax->Option (List Dat×ax)):Prop:=QI X tg iter (RT X.K hI)
def J2 (rg:List Dat->Option (List Dat)) (hs:ax->Option (List Dat×ax)):ax->Option (List Dat×ax):=fun Γ=>(hs Γ).bind fun p=>(rg p.1).map fun ao=>(ao,p.2)
variable {a:Expr}
theorem rS(hm:X.mg "range"=none)(ha:xI X [a] hs)(GD:Gl X "range":=by rfl)(hst:starEach [a] X.env=[(false,eval a X.env)]:=by rfl):Qb X tg (.Call (.Name "range" p) [a] [] pos') (J2 ip hs):=⟨lU (qh GD hm ha.o hst) fun σ H R aQ=>by
 obtain⟨aj,Av,pn,aE,Γ,ad,ao,af,G,hf,q⟩:=aQ;obtain⟨⟨as,Γ1⟩,e1,hf⟩:=bind_some hf;obtain⟨its',e2,hf⟩:=ba hf;obtain⟨h1,h2⟩:=Prod.mk.inj hf;subst h1 h2;refine⟨aj,Av,pn,aE,Γ,ad,as,Γ1,G,e1,fun vs H1 gA G1 r=>?_⟩;dsimp only at e2;unfold ip at e2;split at e2
 ·rename_i j;split at e2
  ·rename_i hj;cases e2;obtain⟨v,rfl,rv⟩:=r.eh;rw[rv.cY];exact⟨_,rfl,hj.1,hj.2,q _ [.bM] [.none] H1 gA G1 (.cons .bM .nil) oD.s⟩
  ·cases e2
 ·cases e2⟩
def mG (i:Nat) (cg:List (Option Nat)) (gt:Dat->Option cW) (fe:HF) (hI:ax->Option (List Dat×ax)):ax->Option (List Dat×ax):=fun JK=>(hI JK).bind fun p=>match p.2[i]? with
 |some (some (.own ds))=>if p.1.length<sizeLine then(kh gt fe (kb (dF cg (bx p.2))) p.1 ds).map fun q=>(q.1,p.2.set i (some (.own q.2)))else none
 |_=>none
variable {fe:HF}
theorem Bp(ht:kH gt (some i::cg)):∀σ H Q,EI K (mG i cg gt fe hI) σ H Q->qY (some i::cg) (RT K hI) (j8 K gt) yr (tH K fe) σ H Q:=by
 rintro σ H Q ⟨aj,Av,pn,aE,Vn,Xz,out,af,Gi,hf,q⟩;obtain⟨⟨ao,Γ⟩,e1,hf⟩:=bind_some hf;dsimp only at hf;split at hf
 ·rename_i Ag hi;split at hf
  ·rename_i hz;obtain⟨⟨ze,Ae⟩,e2,hf⟩:=ba hf;obtain⟨h1,h2⟩:=Prod.mk.inj hf;subst h1 h2;clear hf;dsimp only at q;refine⟨aj,Av,pn,aE,Vn,Xz,ao,Γ,Gi,e1,fun J xs kg H1 ad G rx ov=>?_⟩;refine⟨fun k m ys H2=>m=ao.length-k/\k<=ao.length/\∃l8 o1 o2 df,GA K aj Av pn aE H2 σ (Γ.set i (some (.own l8))) ad/\ay K H2 (aR Av Γ ad) xs kg/\ay K H2 (aR Av Γ ad) ys o1/\o1.length<=k/\kh gt fe (kb (dF cg (bx Γ))) (ao.drop k) l8=some (o2,df)/\ze=o1++o2/\Ae=df,
    ⟨_,rfl,zero_le _,Ag,[],ze,Ae,?_,rx,.nil,le_refl _,by rw[drop_zero];exact e2,rfl,rfl⟩,?_⟩
   ·have:Γ.set i (some (.own Ag))=Γ:=by
     apply List.ext_getElem?
     intro j;by_cases e:j=i
     ·subst e;rw[getElem?_set_self (dY hi),hi]
     ·rw[getElem?_set_ne (Ne.symm e)]
    rw[this];exact G
   rintro k m ys H2 ⟨rfl,hk,l8,o1,o2,df,G2,rx,ro,hl,hc,rfl,rfl⟩;have GC:(Γ.set i (some (Slot.own l8)))[i]?=some (some (.own l8)):=getElem?_set_self (dY hi);refine⟨by have:=ro.length;omega,?_⟩;have Q1:gE H2 (aR Av Γ ad):=fun b z=>G2.gz b (aR.gi hi b z);cases gu:ao[k]? with
   |none=>
    have hle:ao.length<=k:=List.getElem?_eq_none_iff.mp gu;rw[drop_eq_nil_of_le hle]at hc;cases hc;refine .inl ⟨(ov k H2 _ rx).1 hle,fun D hD=>q H2 D ys ad G2 hD ?_⟩;rw[append_nil];exact ro.weak (aR.set_own hi)
   |some di=>
    have dJ:=dY gu;rw[drop_cons gu]at hc;obtain⟨as,a1,hc⟩:=bind_some (show(gt di).bind _=some (o2,Ae)from hc);obtain⟨⟨dv,Ex⟩,a2,hc⟩:=bind_some hc;dsimp only at hc;split at hc
    ·rename_i Af h0;obtain⟨⟨o3,Pr⟩,a3,hc⟩:=ba hc;cases hc;obtain⟨go,yl⟩:=(ov k H2 _ rx).2 di gu;refine .inr ⟨go,fun y H' hy=>?_⟩;obtain⟨sH,ry⟩:=yl y H' Q1 hy;refine⟨aR Av Γ ad,di,as,ry,a1,fun ws hw=>?_⟩;have cs:∀p∈as,(bW (some i::cg) σ)[p.1]?=some none:=fun p hp=>by
      unfold bW;rw[getElem?_map,ht di as a1 p hp];rfl
     have G3:=G2.grow sH;obtain⟨zs,g1,g2,g3,g4⟩:=G3.own i l8 GC;have GG:bW (some i::cg) σ=some (.ref (ad i))::bW cg σ:=by
      unfold bW;rw[map_cons];show((σ[i]?).join)::_=_;rw[g1];rfl
     have E3:eZ K H' (aR Av Γ ad) (bW cg σ) (dF cg (bx Γ)):=by
      have:=G3.iT;rw[zB hi]at this;exact eZ.bh (fun j d h=>let ⟨v,e,r⟩:=this j d h;⟨v,e,r.weak (aR.gi hi)⟩) cg
     have Q0:gE H' (aR Av Γ ad):=fun b z=>G3.gz b (aR.gi hi b z);have Gb:=A1 (K:=K) (a:=ad i) Q0 (.inr ⟨i,_,hi,rfl,rfl⟩) g2 (g3.weak (aR.gi hi)) E3 (by unfold bW dF;rw[length_map,length_map]);have N3:∀b,aR (fun b=>aR Av Γ ad b/\b≠ad i) (some (.own l8)::kb (dF cg (bx Γ))) (fun _=>ad i) b->aR Av Γ ad b:=by
      rintro b (z|⟨_,_,_,_,rfl⟩)
      ·exact z.1
      ·exact .inr ⟨i,_,hi,rfl,rfl⟩
     rw[GG];rw[GG]at cs;refine⟨eI.ia hw cs (eI.refl _),?_⟩;simp only[yr,if_true];refine⟨_,_,some (ad i),[],_,_,dv,Ex,GA.Bw hw N3 Gb,a2,fun v H4 Hw G4 r4=>?_⟩;obtain⟨us,u1,u2,u3,u4⟩:=G4.own 0 Af h0;have ea:Hw 0=ad i:=G4.pin _ _ rfl h0;have EC:∀b,aR Av Γ ad b->aR (fun b=>aR Av Γ ad b/\b≠ad i) Ex Hw b:=fun b z=>by
      by_cases eb:b=ad i
      ·exact .inr ⟨0,_,h0,rfl,ea.trans eb.symm⟩
      ·exact .inl ⟨z,eb⟩
     have kk:∀b o,H' b=some o->b≠ad i->H4 b=some o:=fun b o h ne=>G4.same b o (by rw[if_neg ne];exact h);have kp:lB H' (aR Av Γ ad) H4 (aR Av Γ ad):=fun b o h n=>⟨kk b o h fun z=>n (.inr ⟨i,_,hi,rfl,z.symm⟩),n⟩;have G5:=G3.lend (es:=Af) GC kk (by rw[<- ea];exact u2) (u3.weak fun b z=>EC b (aR.set_own (es:=l8) hi b z));rw[List.set_set]at G5;refine⟨ao.length-(k+1),by omega,rfl,by omega,Af,o1++[dv],o3,Pr,G5,(rx.same sH).mono kp,((ro.same sH).mono kp).append (.cons (r4.weak EC) .nil),?_,a3,?_,rfl⟩
     ·rw[length_append,length_singleton];omega
     ·rw[append_assoc];rfl
    ·cases hc
  ·cases hf
 ·cases hf
theorem Dw(i j:Nat){x:Str}(hN:X.N.Nodup)(hc:X.calm=true)(B:pK X scope cl N' (some j::cg))(hi:Qb X tg iter hI)(hg:∀C aK aj ex,QG (dg X scope cl N' C aK aj ex) tg (j8 X.K gt))(he:∀C aK aj ex,QH (dg X scope cl N' C aK aj ex) elt fe)(hT:kH gt (some j::cg))(zE:X.N[i]?=some x:=by rfl)(hx:Loc X.env.scope x:=by first|exact .inl rfl|exact .inr rfl)(zI:swapsWith (.ListComp elt [⟨tg,iter,[],0⟩] scope pos) (some (.Name x pos')) oy.line X.env=pure true:=by rfl)(zO:X.fn x=true\/X.env.scope.names.lookup x=some .local:=by first|exact .inl rfl|exact .inr rfl)(hs:∀x,foldedSetIterable iter X.env x=pure x:=by intro _;rfl):
  gB X (.Assign [.Name x pos'] (.ListComp elt [⟨tg,iter,[],0⟩] scope pos) oy) (yB i (mG j cg gt fe hI)):=⟨cm (vB hc B hi.o (fun C aK aj ex=>(hg C aK aj ex).o) (fun _ _ _ _=>rq) (fun C aK aj ex=>(he C aK aj ex).o) hN zE hx zI zO hs) fun D σ H aQ=>by
 obtain⟨aj,Av,pn,aE,Γ,fl,⟨ad,G⟩,hf,q⟩:=aQ;obtain⟨⟨ds,Γ1⟩,e1,hf⟩:=ba hf;subst hf;exact Bp hT σ H _ ⟨aj,Av,pn,aE,Γ,ad,ds,Γ1,G,e1,fun H1 p xs gA G1 hp r=>q _ _ ⟨gA,(G1.grow (bV hp _)).set i (.oK G1.gz hp r)⟩⟩⟩
open PySem PySem.Spec PyProof.Rows L2
open PySem.W (Dat kqdOk)
def sA (h:Heap) (d:Addr) (es:Array DictEntry) (ep:Nat):Prop:=∃o,h.get? d=some o/\o.ExactDict/\o.data=.dict es ep
variable {ep:Nat} {es:Array DictEntry}
variable {s:Shared} in
theorem sA.ty(m:sA s.heap d es ep):s.TypeIs (.ref d) "dict":=let ⟨o,e,c,_⟩:=m;⟨o,e,c.1⟩
variable {s:Shared} in
theorem Mp{Q:Value->Shared->Prop}(nd:(d==sysModules)=false)(m:sA s.heap d es ep)(q:Q (.ref s.heap.objs.size) {s with heap:=s.heap.push {cls:=.type "dict_keyiterator",data:=.fields #[.ref d,.int 0 0,.int es.size 0,.int ep 0]}}):wpAny (model P w) A (pyIter (.ref d)) Q E s:=by
 have ty:=m.ty;obtain⟨o,e,c,da⟩:=m;refine wpAny_pyIter_slot ty F.slot_dict_iter (wpAny_call_entry F.slot_dict_iter ty F.entry_dict_iter ?_ (F.args_dict_iter_1 _));unfold Builtin.«dict.__iter__» Builtin.Dict.dictSlotNone;refine wpAny_bind (wpAny_bind (wpAny_notOrdered_dict ty (wpAny_pure ?_)));refine(?_:wpAny _ _ (Builtin.Dict.showsAll d >>= _) _ _ s);unfold Builtin.Dict.showsAll;rw[if_neg (fun z=>Bool.false_ne_true (nd.symm.trans z))];refine wpAny_bind (wpAny_pure (wpAny_bind (wpAny_dictEntries e da (wpAny_bind (wpAny_dictEpoch e da (wpAny_bind (wpAny_newObj_type (wpAny_pure ⟨_,rfl,"dict_keyiterator",_,⟨_,get?_push_size _ rfl,rfl⟩,F.slot_dict_keyiterator_next.lookup,?_⟩))))))));simpa [rawInt]using q
variable {s:Shared} in
theorem Mo{Q:Option Value->Shared->Prop}{x:DictEntry}(ki:s.heap.IsKeyIter it d i es.size ep)(m:sA s.heap d es ep)(hx:es[i]?=some x)(q:∀h',h'.IsKeyIter it d (i+1) es.size ep->SameBut it s.heap h'->Q (some x.key) {s with heap:=h'}):wpAny (model P w) A (pyNext (.ref it)) Q E s:=by
 have ty:=ki.typeIs;obtain⟨o,e,c,da⟩:=id ki;obtain⟨o2,e2,c2,Hg⟩:=id m;have lt:i<es.size:=by
  by_cases z:i<es.size
  ·exact z
  ·rw[Array.getElem?_eq_none (by omega)]at hx;cases hx
 unfold pyNext;refine wpAny_bind (wpAny_attempt (wpAny_callSpecial?_slot (name:=Str.ofString "__next__") ty F.slot_dict_keyiterator_next (wpAny_call_entry F.slot_dict_keyiterator_next ty F.entry_dict_keyiterator_next (wpAny_bind (wpAny_pure (wpAny_bind (wpAny_bind ?_)))) (F.args_dict_keyiterator_next_1 _))));first|refine wpAny_bind (wpAny_typeNameOfWhole_keyiter ty (wpAny_pure (wpAny_bind (wpAny_fieldsOf e da ?_))))|refine wpAny_bind (wpAny_typeNameOf_keyiter ty (wpAny_pure (wpAny_bind (wpAny_fieldsOf e da ?_))))
 have ow:Builtin.Dict_items.ownsTuple "dict_keyiterator"=false:=by decide
 simp only[ow,false_eq_true,if_false];refine(?_:wpAny _ _ (if(Value.ref d==Value.none)=true then _ else _) _ _ s);have nn:¬((Value.ref d==Value.none)=true):=Bool.false_ne_true;rw[if_neg nn];refine wpAny_bind (wpAny_pure (wpAny_bind (wpAny_dictEntries e2 Hg ?_)));rw[if_neg (by simp)];refine wpAny_bind (wpAny_pure (wpAny_bind (wpAny_dictEpoch e2 Hg ?_)));rw[if_neg (by simp)];refine wpAny_pure ?_;simp only[show ¬((i:Int)<0) by omega,if_false,toNat_natCast,hx];refine wpAny_bind ?_;first|refine wpAny_bind (wpAny_typeNameOfWhole_keyiter ty (wpAny_pure (wpAny_bind (wpAny_isOneOf_keyiter ty ?_))))|refine wpAny_bind (wpAny_typeNameOf_keyiter ty (wpAny_pure (wpAny_bind (wpAny_isOneOf_keyiter ty ?_))))
 refine(?_:wpAny _ _ (setField (.ref it) 1 (rawInt ((i:Int)+1)) >>= _) _ _ s);refine wpAny_bind (wpAny_setField e da (by simp) ?_);have Si:(s.heap.update it (Obj.mapFields (·.setIfInBounds 1 (rawInt ((i:Int)+1))))).IsKeyIter it d (i+1) es.size ep:=⟨_,Heap.get?_update_self _ e (Obj.isFreed_of_fields (Obj.data_mapFields da _)),(Obj.cls_mapFields ..).trans c,by rw[Obj.data_mapFields da];simp[rawInt]⟩;refine wpAny_bind (wpAny_holding (wpAny_bind (wpAny_isOneOf_keyiter (s:={s with heap:=s.heap.update it (Obj.mapFields (·.setIfInBounds 1 (rawInt ((i:Int)+1))))}) Si.typeIs ?_)));refine(?_:wpAny _ _ (pure x.key) _ _ _);exact wpAny_pure (wpAny_pure ⟨_,rfl,wpAny_pure (q _ Si (SameBut.update ..))⟩)
variable {s:Shared} in
theorem Pj{Q:Option Value->Shared->Prop}(hh:A.handled=none)(ki:s.heap.IsKeyIter it d es.size es.size ep)(m:sA s.heap d es ep)(q:∀h',Heap.ExtBut it s.heap h'->Q none {s with heap:=h'}):wpAny (model P w) A (pyNext (.ref it)) Q E s:=by
 have ty:=ki.typeIs;obtain⟨o,e,c,da⟩:=id ki;obtain⟨o2,e2,c2,Hg⟩:=id m;unfold pyNext;refine wpAny_bind (wpAny_attempt (wpAny_callSpecial?_slot (name:=Str.ofString "__next__") ty F.slot_dict_keyiterator_next (wpAny_call_entry F.slot_dict_keyiterator_next ty F.entry_dict_keyiterator_next (wpAny_bind (wpAny_pure (wpAny_bind (wpAny_bind ?_)))) (F.args_dict_keyiterator_next_1 _))));first|refine wpAny_bind (wpAny_typeNameOfWhole_keyiter ty (wpAny_pure (wpAny_bind (wpAny_fieldsOf e da ?_))))|refine wpAny_bind (wpAny_typeNameOf_keyiter ty (wpAny_pure (wpAny_bind (wpAny_fieldsOf e da ?_))))
 have ow:Builtin.Dict_items.ownsTuple "dict_keyiterator"=false:=by decide
 simp only[ow,false_eq_true,if_false];refine(?_:wpAny _ _ (if(Value.ref d==Value.none)=true then _ else _) _ _ s);have nn:¬((Value.ref d==Value.none)=true):=Bool.false_ne_true;rw[if_neg nn];refine wpAny_bind (wpAny_pure (wpAny_bind (wpAny_dictEntries e2 Hg ?_)));rw[if_neg (by simp)];refine wpAny_bind (wpAny_pure (wpAny_bind (wpAny_dictEpoch e2 Hg ?_)));rw[if_neg (by simp)];refine wpAny_pure ?_;simp only[show ¬((es.size:Int)<0) by omega,if_false,toNat_natCast,Array.getElem?_eq_none (le_refl es.size)];refine wpAny_bind ?_;first|refine wpAny_bind (wpAny_typeNameOfWhole_keyiter ty (wpAny_pure ?_))|refine wpAny_bind (wpAny_typeNameOf_keyiter ty (wpAny_pure ?_))
 refine(?_:wpAny _ _ (setField (.ref it) 0 .none >>= _) _ _ s);refine wpAny_bind (wpAny_setField e da (by simp) (?_:wpAny _ _ (newExc (.type "StopIteration") [] >>= _) _ _ _));refine wpAny_bind ?_;simp only[newExc,newTuple];refine wpAny_bind (wpAny_newObj_type (wpAny_bind (m:=firstArgMember _ _) (wpAny_of_eq (a:=Value.none) (by first|rfl|(simp only[firstArgMember];rfl)) (wpAny_newObj_type ?_ (by size_fits)))) (by size_fits))
 simp only[raiseNew];refine wpAny_bind (wpAny_handled ?_);have h0:A.in1.handled=none:=hh;rw[h0];refine wpAny_bind (wpAny_pure (wpAny_throw (wpAny_bind ?_)));refine wpAny_isInstance (T:="StopIteration") (b:=true) ⟨_,get?_push_size _ rfl,rfl⟩ isSubtype_stop (?_:wpAny _ _ _ _ _ _);exact wpAny_pure (q _ (((SameBut.update ..).extBut.push _).push _))
theorem sA.of(m:sA h d es ep)(k:∀o,h.get? d=some o->h'.get? d=some o):sA h' d es ep:=let ⟨o,e,r⟩:=m;⟨o,k o e,r⟩
theorem Jf(hh:A.handled=none)(it d:Addr)(ne:d≠it)(es:Array DictEntry)(ep:Nat):Walks P w A it [it,d] [it] es.size (fun i v=>∃x,es[i]?=some x/\v=x.key) (fun i h=>h.IsKeyIter it d i es.size ep/\sA h d es ep) where
 sub:=fun b hb=>by simp at hb;simp[hb]
 frame:=fun _ _ _ st k=>⟨st.1.at fun o e=>k it (by simp) o e,st.2.of fun o e=>k d (by simp) o e⟩
 item:=fun i s Q E hi st q=>Mo st.1 st.2 (Array.getElem?_eq_getElem hi) fun h' k1 sb=>q _ h' s.toks ⟨_,Array.getElem?_eq_getElem hi,rfl⟩ ⟨k1,st.2.of fun o e=>sb.extBut d o ne e⟩ fun b o hb e=>sb.extBut b o (fun z=>hb (by simp[z])) e
 done:=fun s Q E st q=>Pj hh st.1 st.2 fun h' eb=>q h' s.toks fun b o hb e=>eb b o (fun z=>hb (by simp[z])) e
 self:=fun _ _ _ _ st q=>wpAny_pyIter_keyiter st.1 q
theorem Ph(nd:(d==sysModules)=false):PySem.W.KdlSrc P w "dict" d d es.size (fun i v=>∃x,es[i]?=some x/\v=x.key) (fun h=>sA h d es ep) where
 type:=fun _ m=>m.ty
 there:=fun _ ⟨_,e,_⟩=>⟨lt_size e,lt_size e⟩
 keep:=fun _ _ m k=>m.of fun o e=>k d (.inl rfl) o e
 notList:=by decide
 notTuple:=by decide
 hint:=fun _ _ _ _ m q=>PySem.W.kdl_hint_dict m.ty q
 iter:=fun _ s hh m=>⟨_,_,(fun _ _ q=>Mp nd m q),Jf hh _ d (let ⟨_,e,_⟩:=m;ne_of_lt (lt_size e)) es ep,⟨⟨_,get?_push_size _ rfl,rfl,rfl⟩,m.of fun o e=>get?_push_of_some _ e⟩⟩
open PySem PySem.Spec PyProof.Rows L2
open PySem.W (Dat kqdOk)
def Jr (w:World) (p:RK×Addr):DictEntry:=⟨rf w p.1,.ref p.2,.bool true⟩
def jr (w:World) (ks:List RK) (a:Addr) (xs:List V) (h:Heap):Prop:=
 (a==sysModules)=false/\ks.length<=sizeLine/\ks.Nodup/\∃as:List Addr,as.length=ks.length/\xs=as.map V.ref/\∃o es ep,h.get? a=some o/\o.ExactDict/\o.data=.dict es ep/\es.toList=(ks.zip as).map (Jr w)
variable {a:Addr} {ks:List RK}
theorem jr.ok(m:jr w ks a xs h):gC P w H h a (.ext (jr w ks a xs)):=by
 refine⟨m,?_,fun h1 h2 m1 k=>?_⟩
 ·obtain⟨_,_,_,_,_,_,o,_,_,e,_⟩:=m;exact⟨o,e⟩
 ·obtain⟨c1,c2,c3,as,c4,c5,o,es,ep,e,r⟩:=m1;exact⟨c1,c2,c3,as,c4,c5,o,es,ep,k o e,r⟩
def QC (w:World):TE:=fun _ H Q=>∀p,H p=none->Q (.ref p) (upd H p (.ext (jr w [] p [])))
theorem M1:PE X (.Dict [] [] pos) (QC X.w):=fun pins s σ H Q I h=>by
 refine wpAny_Dict_empty ⟨.ref s.heap.objs.size,_,I.laid (a:=s.heap.objs.size) (o:=.ext (jr X.w [] s.heap.objs.size [])) (t':=s.toks) (fun _ _ q=>get?_push_of_some _ q) (le_refl _) (jr.ok ⟨?_,zero_le _,List.nodup_nil,[],rfl,rfl,_,#[],0,get?_push_size _ rfl,⟨rfl,rfl,rfl⟩,rfl,rfl⟩),rfl,h _ (I.bF.fresh (le_refl _))⟩;have b:=I.big;exact beq_eq_false_iff_ne.mpr (Nat.ne_of_gt b)
theorem xb:∀{ns:List Int} {ys:List V} {us:List Value},ay K H Av ys (ns.map Dat.int)->Vals ys us->ItemsAre (intKind P w) ns us
 |[],_,_,.nil,.nil=>.nil
 |n::ns,_,_,.cons r1 r2,.cons v1 v2=>by
  rw[r1.cY]at v1;obtain⟨t,rfl⟩:=v1;exact .cons (by simp[intKind,Value.isInt]) (xb r2 v2)
theorem F2{σ:L2.St}{s:Shared}(I:Inv X pins σ H s)(hk:PyData.strOk k.1=true)(r:aS X.K H Av v (dP k)):∃b,v=.ref b/\dS X.prog X.w s.heap k b:=by
 obtain⟨b,xs,rfl,hq,rs⟩:=r.fT;refine⟨b,rfl,?_⟩;obtain⟨ao,vs,⟨o,ho,hc,n,hd⟩,_⟩:=I.tuple hq.sq;cases rs with
 |cons r1 rs=>
  cases rs with
  |cons r2 rs=>
   cases rs;rw[r1.iy]at vs;obtain⟨c,ys,e2,Ci,u0⟩:=r2.fT;subst e2;obtain⟨jg,Vr,⟨o2,qy,zR,n2,hd2⟩,_⟩:=I.tuple Ci.sq;cases vs with
   |cons v1 vs=>
    cases vs with
    |cons v2 vs=>
     cases vs;obtain⟨t,rfl⟩:=v1;cases v2;exact⟨o,n,t,c,ho,hc,hd,⟨o2,jg.toArray,n2,qy,zR,hd2,by rw[List.toList_toArray];exact xb u0 Vr⟩,hk⟩
theorem yF{pins:List (Addr×Obj)}{σ:L2.St}{s:Shared}(I:Inv X pins σ H s):∀{ks:List RK} {as:List Addr},(∀k∈ks,PyData.strOk k.1=true)->ay X.K H Av (as.map V.ref) (ks.map dP)->∀p∈ks.zip as,dS X.prog X.w s.heap p.1 p.2
 |[],_,_,_,p,hp=>by simp at hp
 |k::ks,[],_,_,p,hp=>by simp at hp
 |k::ks,a::as,hs,.cons r1 r2,p,hp=>by
  rw[zip_cons_cons]at hp;rcases mem_cons.mp hp with e|hp
  ·obtain⟨b,e1,q⟩:=F2 I (hs k mem_cons_self) r1;injection e1 with e1;rw[e,e1];exact q
  ·exact yF I (fun k hk=>hs k (mem_cons_of_mem _ hk)) r2 p hp
def hZ (ks:List RK) (k:RK):List RK:=if k∈ks then ks else ks++[k]
def xY (ks:List RK) (xs:List V) (k:RK) (v:V):List V:=if k∈ks then xs else xs++[v]
def QU (K:Fg) (w:World):Ek:=fun o i v H Q=>∃p ks xs k Av,o=.ref p/\v=.bl true/\H p=some (.ext (jr w ks p xs))/\(∀k∈ks,PyData.strOk k.1=true)/\PyData.strOk k.1=true/\ay K H Av xs (ks.map dP)/\aS K H Av i (dP k)/\ks.length<sizeLine/\Q (upd H p (.ext (jr w (hZ ks k) p (xY ks xs k i))))
def pF (ks:List RK) (as:List Addr):List (RK×Addr×Value):=(ks.zip as).map fun p=>(p.1,p.2,Value.bool true)
variable {as:List Addr}
theorem rM(h:as.length=ks.length):(pF ks as).map (·.1)=ks:=by
 unfold pF;rw[map_map];show(ks.zip as).map Prod.fst=ks;rw[List.map_fst_zip (by omega)]
theorem MK(h:as.length=ks.length):(pF ks as).length=ks.length:=by
 unfold pF;rw[length_map,length_zip,h,min_self]
theorem Q2(h:as.length=ks.length):(atKey (pF ks as) k).isSome=decide (k∈ks):=by
 unfold atKey;rw[Option.isSome_map];by_cases c:k∈ks
 ·rw[decide_eq_true c];rw[<- rM h]at c;obtain⟨x,hx,e⟩:=mem_map.mp c;exact List.find?_isSome.mpr ⟨x,hx,decide_eq_true e⟩
 ·rw[decide_eq_false c];refine eq_false_iff.mpr fun z=>?_;obtain⟨x,hx,e⟩:=List.find?_isSome.mp z;refine c ?_;rw[<- rM h];exact mem_map.mpr ⟨x,hx,of_decide_eq_true e⟩
theorem EJ{b:Addr}(h:as.length=ks.length):storedH (pF ks as) k b (.bool true)=pF (hZ ks k) (if k∈ks then as else as++[b]):=by
 have e:=Q2 (k:=k) h;unfold storedH hZ;by_cases c:k∈ks
 ·rw[decide_eq_true c]at e;rw[if_pos e,if_pos c,if_pos c];unfold pF;rw[map_map];refine map_congr_left fun p _=>?_;show putAt k (.bool true) (p.1,p.2,.bool true)=_;unfold putAt;split<;>rfl
 ·rw[decide_eq_false c]at e;rw[if_neg (by rw[e];decide),if_neg c,if_neg c];unfold pF;rw[List.zip_append h.symm,map_append];rfl
theorem H0:(pF ks as).map (entryOfKey (vv P w))=(ks.zip as).map (Jr w):=by
 unfold pF;rw[map_map];rfl
theorem Bh:∀{as:List Addr} {us:List Value},us.length=as.length->(∀(j:Nat) (a:Addr) (u:Value),as[j]?=some a->us[j]?=some u->u=.ref a)->Vals (as.map V.ref) us
 |[],[],_,_=>.nil
 |[],_::_,h,_=>by simp at h
 |_::_,[],h,_=>by simp at h
 |a::as,u::us,h,q=>.cons (q 0 a u rfl rfl) (Bh (by simpa using h) fun j b v h1 h2=>q (j+1) b v (by simpa using h1) (by simpa using h2))
theorem LB(hu:X.A.units+20<cLine):JB X (QU X.K X.w):=by
 intro pins s σ H o i v ov iv u Q I ro ri rv h;obtain⟨p,ks,xs,k,Av,rfl,rfl,hp,hs,hk,rs,rk,hz,q⟩:=h;cases ro;cases rv;obtain⟨b,rfl,hb⟩:=F2 I hk rk;cases ri;obtain⟨m,_,_⟩:=(show gC X.prog X.w H s.heap p (.ext (jr X.w ks p xs))from I.bF p _ hp);obtain⟨c1,c2,c3,as,c4,rfl,o,es,ep,e,xd,da,he⟩:=m;have hm:s.heap.DictOfH (vv X.prog X.w) p (pF ks as):=⟨o,es,ep,e,xd,da,by rw[H0];exact he,fun x hx=>by
  obtain⟨y,hy,rfl⟩:=mem_map.mp hx;exact yF I hs rs y hy,by rw[rM c4];exact c3⟩
 refine wpAny_setItem_heap (knd:=vv X.prog X.w) (show X.A.in1.units+8<cLine by first|omega|(show X.A.units+1+8<cLine;omega)) hb hm (fun h' Cj sb=>?_) (by rw[MK c4];omega)
 rw[EJ c4]at Cj;obtain⟨o',CC,GY,e',Vq,Xt,KG,_,Sa⟩:=Cj;have l2:(if k∈ks then as else as++[b]).length=(hZ ks k).length:=by
  unfold hZ;split
  ·exact c4
  ·rw[length_append,length_append,c4];rfl
 have n2:(hZ ks k).Nodup:=by rw[rM l2]at Sa;exact Sa
 have z2:(hZ ks k).length<=sizeLine:=by
  unfold hZ;split
  ·exact c2
  ·rw[length_append];show ks.length+1<=sizeLine;omega
 have x2:xY ks (as.map V.ref) k (.ref b)=(if k∈ks then as else as++[b]).map V.ref:=by
  unfold xY;split
  ·rfl
  ·rw[map_append];rfl
 refine⟨_,I.write (x:=p) (e:=p) (by rw[hp];trivial) (.inl rfl) (fun c u ne ec=>(sb.2 c ne).trans ec) ⟨o',e'⟩ (jr.ok ⟨c1,z2,n2,_,l2,x2,o',CC,GY,e',Vq,Xt,by rw[H0]at KG;exact KG⟩),q⟩
theorem Hs(hh:X.A.handled=none):ko X (.type "list") (fun vs H Q=>∃p ks xs,vs=[.ref p]/\H p=some (.ext (jr X.w ks p xs))/\∀l,H l=none->Q (.ref l) (upd H l (.lst xs))):=by
 intro pins s σ H vs us Q I hv h;obtain⟨p,ks,xs,rfl,hp,q⟩:=h;cases hv with
 |cons v1 v2=>
  cases v2;cases v1;obtain⟨m,_,_⟩:=(show gC X.prog X.w H s.heap p (.ext (jr X.w ks p xs))from I.bF p _ hp);obtain⟨c1,c2,c3,as,c4,rfl,o,es,ep,e,xd,da,he⟩:=m;have ez:es.size=ks.length:=by rw[<- length_toList,he,length_map,length_zip,c4,min_self]
  refine PySem.W.kdl_call (Ph (es:=es) (ep:=ep) c1) hh ⟨o,e,xd,da⟩ (by rw[ez];exact c2) fun h' tk acc c' k hl hi=>?_;have hv:Vals (as.map V.ref) acc.toList:=by
   have hlen:acc.toList.length=as.length:=by rw[length_toList,hi.1,ez,c4]
   refine Bh hlen fun j a u ha hu=>?_;obtain⟨x,hx,rfl⟩:=hi.2 j u (by rw[<- Array.getElem?_toList];exact hu);have hj:j<ks.length:=by rw[<- c4];exact(List.getElem?_eq_some_iff.mp ha).1
   have zF:((ks.zip as).map (Jr X.w))[j]?=some x:=by rw[<- he,Array.getElem?_toList];exact hx
   rw[getElem?_map]at zF;cases hz:(ks.zip as)[j]? with
   |none=>rw[hz]at zF;cases zF
   |some y=>
    rw[hz]at zF;cases zF;have:=(List.getElem?_zip_eq_some.mp hz).2;rw[ha]at this;cases this;rfl
  refine⟨.ref s.heap.objs.size,_,I.laid (t':=tk) (a:=s.heap.objs.size) (o:=.lst (as.map V.ref)) k (le_refl _) ?_,rfl,q _ I.fresh⟩;exact⟨by rw[length_map,c4];exact c2,acc.toList,_,hv,by rw[Array.toArray_toList];exact hl⟩
open PySem PySem.Spec PyProof.Rows L2
open PySem.W (Dat kqdOk)
theorem GA.Nu(G:GA K aj Av pn aE H σ Γ ad){O:Addr->List V->Heap->Prop}{p:Addr}(i:Nat)(o8:i≠0)(hp:H p=none)(r:ay K H (aR Av Γ ad) xs ds):
  GA K aj Av pn aE (upd H p (.ext (O p xs))) (σ.set i (some (.ref p))) (Γ.set i (some (.obj O ds))) (fun j=>if j=i then p else ad j):=by
 have sm:bg H (upd H p (.ext (O p xs))):=bV hp _;have FX:∀j s,Γ[j]?=some (some s)->Slot.mt s=true->ad j≠p:=fun j s h m=>by
  obtain⟨⟨o,b⟩,_⟩:=G.mt h m;exact bB b hp
 have kp:lB H (aR Av Γ ad) (upd H p (.ext (O p xs))) (aR Av (Γ.set i (some (.obj O ds))) (fun j=>if j=i then p else ad j)):=by
  intro b o h n;refine⟨sm b o h,?_⟩;rintro(z|⟨j,es,e,m,r⟩)
  ·exact n (.inl z)
  ·rcases aV e with⟨e1,_⟩|⟨e1,q⟩
   ·have r':p=b:=by simpa [e1]using r
    exact bB h hp r'.symm
   ·have r':ad j=b:=by simpa [e1]using r
    exact n (.inr ⟨j,es,q,m,r'⟩)
 have z0:aj p=none:=by
  cases e0:aj p with
  |none=>rfl
  |some o=>have:=G.same p o e0;rw[hp]at this;cases this
 refine⟨G.same.trans sm,G.ja,by rw[length_set,length_set];exact G.len,fun j d' h=>?_,fun j es h=>?_,fun j l es fs h1 h2 m1 m2 e=>?_,fun q hq=>(G.aE q hq).mono kp,fun a es e h=>?_,fun j O' es h=>?_⟩
 ·rcases aV h with⟨e,q⟩|⟨e,q⟩
  ·cases q
  ·obtain⟨u,a,b⟩:=G.a7 j d' q;exact⟨u,by rw[getElem?_set_ne (Ne.symm e)];exact a,b.mono kp⟩
 ·rcases aV h with⟨e,q⟩|⟨e,q⟩
  ·cases q
  ·obtain⟨ys,a,b,c,e'⟩:=G.own j es q;refine⟨ys,?_,?_,c.mono kp,?_⟩
   ·rw[if_neg e,getElem?_set_ne (Ne.symm e)];exact a
   ·rw[if_neg e];exact sm _ _ b
   ·rw[if_neg e];exact e'
 ·rcases aV h1 with⟨e1,q1⟩|⟨e1,q1⟩
  ·rcases aV h2 with⟨e2,q2⟩|⟨e2,q2⟩
   ·rw[e1,e2]
   ·rw[if_pos e1,if_neg e2]at e;exact absurd e.symm (FX l fs q2 m2)
  ·rcases aV h2 with⟨e2,q2⟩|⟨e2,q2⟩
   ·rw[if_neg e1,if_pos e2]at e;exact absurd e (FX j es q1 m1)
   ·rw[if_neg e1,if_neg e2]at e;exact G.inj j l es fs q1 q2 m1 m2 e
 ·rcases aV h with⟨z,_⟩|⟨_,q⟩
  ·exact absurd z.symm o8
  ·show(if 0=i then p else ad 0)=a;rw[if_neg (Ne.symm o8)];exact G.pin a es e q
 ·have dJ:=dY h;rw[length_set]at dJ;rcases aV h with⟨e,q⟩|⟨e,q⟩
  ·subst e;cases q;refine⟨xs,?_,?_,r.mono kp,?_⟩
   ·rw[if_pos rfl];exact getElem?_set_self (by rw[G.len];exact dJ)
   ·rw[if_pos rfl];exact ee
   ·rw[if_pos rfl];exact z0
  ·obtain⟨ys,a,b,c,e'⟩:=G.obj j O' es q;refine⟨ys,?_,?_,c.mono kp,?_⟩
   ·rw[if_neg e,getElem?_set_ne (Ne.symm e)];exact a
   ·rw[if_neg e];exact sm _ _ b
   ·rw[if_neg e];exact e'
theorem GA.Ho(G:GA K aj Av pn aE H σ Γ ad){O O':Addr->List V->Heap->Prop}{es:List Dat}{ys:List V}(hi:Γ[i]?=some (some (.obj O ds)))(r:ay K H (aR Av Γ ad) ys es):
  GA K aj Av pn aE (upd H (ad i) (.ext (O' (ad i) ys))) σ (Γ.set i (some (.obj O' es))) ad:=by
 have av:∀a,aR Av (Γ.set i (some (.obj O' es))) ad a->aR Av Γ ad a:=by
  rintro a (z|⟨j,fs,e,m,q⟩)
  ·exact .inl z
  ·rcases aV e with⟨e1,_⟩|⟨e1,q1⟩
   ·subst e1;exact .inr ⟨j,_,hi,rfl,q⟩
   ·exact .inr ⟨j,fs,q1,m,q⟩
 have kp:lB H (aR Av Γ ad) (upd H (ad i) (.ext (O' (ad i) ys))) (aR Av (Γ.set i (some (.obj O' es))) ad):=by
  intro b o h n;refine⟨?_,fun z=>n (av b z)⟩;rw[bD fun z=>n (.inr ⟨i,_,hi,rfl,z.symm⟩)];exact h
 obtain⟨N2,g1,g2,g3,g4⟩:=G.obj i O ds hi;refine⟨fun b o h=>?_,G.ja,by rw[length_set];exact G.len,fun j d' h=>?_,fun j fs h=>?_,fun j l fs gs h1 h2 m1 m2 e=>?_,fun p hp=>(G.aE p hp).mono kp,fun a fs e h=>?_,fun j O2 fs h=>?_⟩
 ·rw[bD (bB h g4)];exact G.same b o h
 ·rcases aV h with⟨e,q⟩|⟨e,q⟩
  ·cases q
  ·obtain⟨u,a,b⟩:=G.a7 j d' q;exact⟨u,a,b.mono kp⟩
 ·rcases aV h with⟨e,q⟩|⟨e,q⟩
  ·cases q
  ·obtain⟨zs,a,b,c,e'⟩:=G.own j fs q;refine⟨zs,a,?_,c.mono kp,e'⟩;rw[bD fun z=>e (G.inj j i _ _ q hi rfl rfl z)];exact b
 ·rcases aV h1 with⟨e1,q1⟩|⟨e1,q1⟩
  ·rcases aV h2 with⟨e2,q2⟩|⟨e2,q2⟩
   ·rw[e1,e2]
   ·subst e1;exact G.inj j l _ gs hi q2 rfl m2 e
  ·rcases aV h2 with⟨e2,q2⟩|⟨e2,q2⟩
   ·subst e2;exact G.inj j l fs _ q1 hi m1 rfl e
   ·exact G.inj j l fs gs q1 q2 m1 m2 e
 ·rcases aV h with⟨_,q⟩|⟨_,q⟩
  ·cases q
  ·exact G.pin a fs e q
 ·rcases aV h with⟨e,q⟩|⟨e,q⟩
  ·subst e;cases q;exact⟨ys,g1,ee,r.mono kp,g4⟩
  ·obtain⟨zs,a,b,c,e'⟩:=G.obj j O2 fs q;refine⟨zs,a,?_,c.mono kp,e'⟩;rw[bD fun z=>e (G.inj j i _ _ q hi rfl rfl z)];exact b
def K4 (w:World) (i:Nat):ax->Option Fl:=fun Γ=>some (.nx (Γ.set i (some (.obj (jr w []) []))))
variable {x:Str}
theorem Dz(i:Nat)(hN:X.N.Nodup)(hi:X.N[i]?=some x:=by rfl)(o8:i≠0:=by decide)(hx:Loc X.env.scope x:=by first|exact .inl rfl|exact .inr rfl)(hs:swapsWith (.Dict [] [] p2) (some (.Name x pos')) pos.line X.env=pure false:=by rfl)(hf:X.fn x=true\/X.env.scope.names.lookup x=some .local:=by first|exact .inl rfl|exact .inr rfl):
  gB X (.Assign [.Name x pos'] (.Dict [] [] p2) pos) (K4 X.w i):=⟨cm (qf hN hi hx M1 hs hf) fun D σ H aQ=>by
 obtain⟨aj,Av,pn,aE,Γ,fl,⟨ad,G⟩,hf,q⟩:=aQ;cases hf;exact fun p hp=>q _ _ ⟨_,G.Nu i o8 hp .nil⟩⟩
def Qm (w:World) (O:Addr->List V->Heap->Prop) (ds:List Dat) (d:Dat) (p:List RK×RK):Prop:=O=jr w p.1/\ds=p.1.map dP/\d=dP p.2/\(∀k∈p.1,PyData.strOk k.1=true)/\PyData.strOk p.2.1=true/\p.1.length<sizeLine
noncomputable def tZ (w:World) (i:Nat) (f:aw->Option Dat):ax->Option Fl:=open Classical in fun Γ=>(f (bx Γ)).bind fun d=>match Γ[i]? with
 |some (some (.obj O ds))=>if h:∃p,Qm w O ds d p then some (.nx (Γ.set i (some (.obj (jr w (hZ h.choose.1 h.choose.2)) ((hZ h.choose.1 h.choose.2).map dP)))))else none
 |_=>none
theorem F3{xs ys:List RK}(h:xs.map dP=ys.map dP):xs=ys:=(List.map_inj_right fun a b e=>oB e).mp h
theorem Ie(hi:Γ[i]?=some (some (.obj (jr w ks) (ks.map dP))))(hf:f (bx Γ)=some (dP k))(h1:∀k∈ks,PyData.strOk k.1=true)(h2:PyData.strOk k.1=true)(h3:ks.length<sizeLine):
  tZ w i f Γ=some (.nx (Γ.set i (some (.obj (jr w (hZ ks k)) ((hZ ks k).map dP))))):=by
 unfold tZ;rw[hf,Option.bind_some,hi];have ex:∃p,Qm w (jr w ks) (ks.map dP) (dP k) p:=⟨(ks,k),rfl,rfl,rfl,h1,h2,h3⟩;refine(dif_pos ex).trans ?_;obtain⟨_,g2,g3,_⟩:=ex.choose_spec;rw[<- F3 g2,<- oB g3]
variable {k:Nat}
theorem Dy(i:Nat)(hr:cw k X.A)(pe:QF X e (fC (.bool true)))(pb:QF X b f)(hN:X.N[i]?=some x:=by rfl)(hv:mS X.env.scope x:=by first|exact Or.inl rfl|exact Or.inr (Or.inl rfl)|exact Or.inr (Or.inr rfl))(hd:(x==("__debug__" : Str))=false:=by decide)(gw:(x==("__classdict__" : Str))=false:=by decide)(ha:∀v,assign (.Subscript (.Name x p1) b p3) X.env v=(do
   let ov <- holding [v] (eval (.Name x p1) X.env);let iv <- holding [v,ov] (eval b X.env);standAt p3
   holding [v,ov,iv] (setItem ov iv v)
   release [v,ov,iv] []):=by intro _;rfl)(hs:swapsWithSole [.Subscript (.Name x p1) b p3] e pos.line X.env=pure false:=by rfl)(hw:swappedStores [.Subscript (.Name x p1) b p3] e X.env=pure none:=by rfl)(h1:(assignEach [.Subscript (.Name x p1) b p3] X.env).map (·.2)=[assign (.Subscript (.Name x p1) b p3) X.env]:=by rfl):
  gB X (.Assign [.Subscript (.Name x p1) b p3] e pos) (tZ X.w i f):=⟨cm (qg pe.o (yW (mv hN hv hd gw) pb.o (LB (by have:=hr.un;omega)) ha) hs hw h1) fun D σ H aQ=>by
 obtain⟨aj,Av,pn,aE,Γ,fl,⟨ad,G⟩,hf,q⟩:=aQ;obtain⟨d,e2,ic⟩:=bind_some hf;cases hi:Γ[i]? with
 |none=>rw[hi]at ic;cases ic
 |some o=>
  cases o with
  |none=>rw[hi]at ic;cases ic
  |some sl=>
   cases sl with
   |a7 _=>rw[hi]at ic;cases ic
   |own _=>rw[hi]at ic;cases ic
   |obj O ds=>
    rw[hi]at ic;dsimp only at ic;by_cases hx:∃p,Qm X.w O ds d p
    ··rw[dif_pos hx]at ic;cases ic;obtain⟨c1,c2,c3,c4,c5,c6⟩:=hx.choose_spec;generalize hx.choose=pk at c1 c2 c3 c4 c5 c6 q;obtain⟨ks,kk⟩:=pk;dsimp only at c1 c2 c3 c4 c5 c6 q;subst c1 c2 c3;refine⟨aR Av Γ ad,bx Γ,.bool true,G.gz,G.iT,rfl,fun v H' s r=>?_⟩;have G1:=G.grow s;obtain⟨xs,g1,g2,g3,g4⟩:=G1.obj i _ _ hi;refine⟨_,g1,aR Av Γ ad,bx Γ,dP kk,G1.gz,G1.iT,e2,fun y H2 s2 ry=>?_⟩;have G2:=G1.grow s2;obtain⟨ys,g5,g6,g7,g8⟩:=G2.obj i _ _ hi;have rv:v=.bl true:=by cases r;rfl
      refine⟨ad i,ks,ys,kk,aR Av Γ ad,rfl,rv,g6,c4,c5,g7,ry,c6,q _ _ ⟨ad,G2.Ho hi ?_⟩⟩;unfold hZ xY;split
      ·exact g7
      ·rw[map_append];exact g7.append (.cons ry .nil)
    ·rw[dif_neg hx]at ic;cases ic⟩
noncomputable def tY (w:World) (i:Nat):ax->Option Fl:=open Classical in fun Γ=>match Γ[i]? with
 |some (some (.obj O ds))=>if ∃ks,O=jr w ks then some (.rt (.list ds))else none
 |_=>none
theorem HY(hi:Γ[i]?=some (some (.obj (jr w ks) ds))):tY w i Γ=some (.rt (.list ds)):=by
 unfold tY;rw[hi];exact if_pos ⟨ks,rfl⟩
theorem Dx(i:Nat)(hr:cw k X.A)(hm:X.mg "list"=none)(hN:X.N[i]?=some x:=by rfl)(hv:mS X.env.scope x:=by first|exact Or.inl rfl|exact Or.inr (Or.inl rfl)|exact Or.inr (Or.inr rfl))(hd:(x==("__debug__" : Str))=false:=by decide)(gw:(x==("__classdict__" : Str))=false:=by decide)(hg:Gl X "list":=by rfl)(he:starEach [.Name x p1] X.env=[(false,eval (.Name x p1) X.env)]:=by rfl):
  gB X (.Return (some (.Call (.Name "list" p) [.Name x p1] [] p2)) pos) (tY X.w i):=⟨cm (ug (nh (Hs hr.hd) hg hm (by decide +kernel) (kD (mv hN hv hd gw) qk he) (by decide) (by decide) he rfl)) fun D σ H aQ=>by
 obtain⟨aj,Av,pn,aE,Γ,fl,⟨ad,G⟩,hf,q⟩:=aQ;unfold tY at hf;split at hf
 ·rename_i O ds hi;split at hf
  ·rename_i hx;obtain⟨ks,rfl⟩:=hx;cases hf;obtain⟨xs,g1,g2,g3,g4⟩:=G.obj i _ _ hi;exact⟨_,g1,ad i,ks,xs,rfl,g2,fun l hl=>q _ _ (G.same.trans (bV hl _)) (.oK (G.ja.same G.same) hl (g3.weak fun _ z=>.inl z))⟩
  ·cases hf
 ·cases hf⟩
theorem F9(w:World)(i:Nat)(hN:X.N.Nodup)(hw:X.w=w:=by rfl)(hi:X.N[i]?=some x:=by rfl)(o8:i≠0:=by decide)(hx:Loc X.env.scope x:=by first|exact .inl rfl|exact .inr rfl)(hs:swapsWith (.Dict [] [] p2) (some (.Name x pos')) pos.line X.env=pure false:=by rfl)(hf:X.fn x=true\/X.env.scope.names.lookup x=some .local:=by first|exact .inl rfl|exact .inr rfl):
  gB X (.Assign [.Name x pos'] (.Dict [] [] p2) pos) (K4 w i):=hw▸Dz i hN hi o8 hx hs hf
theorem wL(w:World)(i:Nat)(hr:cw k X.A)(pe:QF X e (fC (.bool true)))(pb:QF X b f)(OL:X.w=w:=by rfl)(hN:X.N[i]?=some x:=by rfl)(hv:mS X.env.scope x:=by first|exact Or.inl rfl|exact Or.inr (Or.inl rfl)|exact Or.inr (Or.inr rfl))(hd:(x==("__debug__" : Str))=false:=by decide)(gw:(x==("__classdict__" : Str))=false:=by decide)(ha:∀v,assign (.Subscript (.Name x p1) b p3) X.env v=(do
   let ov <- holding [v] (eval (.Name x p1) X.env);let iv <- holding [v,ov] (eval b X.env);standAt p3
   holding [v,ov,iv] (setItem ov iv v)
   release [v,ov,iv] []):=by intro _;rfl)(hs:swapsWithSole [.Subscript (.Name x p1) b p3] e pos.line X.env=pure false:=by rfl)(hw:swappedStores [.Subscript (.Name x p1) b p3] e X.env=pure none:=by rfl)(h1:(assignEach [.Subscript (.Name x p1) b p3] X.env).map (·.2)=[assign (.Subscript (.Name x p1) b p3) X.env]:=by rfl):
  gB X (.Assign [.Subscript (.Name x p1) b p3] e pos) (tZ w i f):=OL▸Dy i hr pe pb hN hv hd gw ha hs hw h1
theorem F8(w:World)(i:Nat)(hr:cw k X.A)(hm:X.mg "list"=none)(OL:X.w=w:=by rfl)(hN:X.N[i]?=some x:=by rfl)(hv:mS X.env.scope x:=by first|exact Or.inl rfl|exact Or.inr (Or.inl rfl)|exact Or.inr (Or.inr rfl))(hd:(x==("__debug__" : Str))=false:=by decide)(gw:(x==("__classdict__" : Str))=false:=by decide)(hg:Gl X "list":=by rfl)(he:starEach [.Name x p1] X.env=[(false,eval (.Name x p1) X.env)]:=by rfl):
  gB X (.Return (some (.Call (.Name "list" p) [.Name x p1] [] p2)) pos) (tY w i):=OL▸Dx i hr hm hN hv hd gw hg he
open PySem PySem.Spec PyProof.Rows L2
open PySem.W (Dat kqdOk)
structure FnAt (K:Fg) (mg:Str->Option Value) (x:Str) (st:Stmt) (ps:List Str):Prop where
 ex:∃f fd,mT K x x st f fd/\mg x=some (.ref f)/\Binds K fd ps []
theorem Vb{f:Addr}{oc:Value}{od an:Option Addr}{rT:Array (Option Value)}{kV doc pm bG ct:Value}(X:K.In h)(G:h.Ns mainGlobals mg)(a:nsIn K mainGlobals x=some (some (.ref f)))(l:K.lookup f=some ⟨oc,od,.func (fnOf x x (jR st) (d8 st) (bc st) .none kV doc pm an bG ct),rT⟩)(c:codeIn K bG x=true)(k:keepIn K (.ref f)=true)(b:∀(kV doc pm:Value) (an:Option Addr) (bG ct:Value) (us:List Value),us.length=ps.length->bindArgs (fnOf x x (jR st) (d8 st) (bc st) .none kV doc pm an bG ct) ⟨us,[]⟩=pure (ps.zip us)):FnAt K mg x st ps:=
 ⟨⟨_,_,A3 l c k,mg_of X G a,(A3 l c k).binds b⟩⟩
theorem cG(N:List Str)(U:FnAt K mg x st ps)(hbody:N.Nodup->∀(fa:Addr) (bG:Value) (A:Around) (outer:List Env) (s:Shared) (H:Hp) (E:XK),cw k (A.deeper (envOfC x (bc st) s.heap.objs.size fa bG))->iU (jG je P w K mg base N x (bc st) fa bG A outer s H E).nZ (d8 st) g)(S:fX N ps (bc st):=by exact⟨rfl,rfl,rfl,by decide +kernel,rfl,by decide +kernel,by decide +kernel⟩)(hn:ps.length=n:=by rfl):Dn P w K mg base (k+1) x ps n (jB N g):=by
 obtain⟨f,fd,U,hm,hB⟩:=U.ex;exact ib U hm hB S hn (hbody S.nd f) fun _ _ _ h=>h
theorem K7(N:List Str)(U:FnAt K mg x st ps)(hbody:N.Nodup->∀(fa:Addr) (bG:Value) (A:Around) (outer:List Env) (s:Shared) (H:Hp) (E:XK),cw k (A.deeper (envOfC x (bc st) s.heap.objs.size fa bG))->iU (jG je P w K mg base N x (bc st) fa bG A outer s H E).nZ (d8 st) g)(S:fX N ps (bc st):=by exact⟨rfl,rfl,rfl,by decide +kernel,rfl,by decide +kernel,by decide +kernel⟩)(hn:ps.length=n:=by rfl):iW P w K mg base (k+1) x ps n (runM N g):=by
 obtain⟨f,fd,U,hm,hB⟩:=U.ex;exact rn U hm hB S hn (hbody S.nd f) fun _ _ _ _ _ h=>h
structure TC (K:Fg) (mg:Str->Option Value) (x:Str) (ds:List Dat) (a:Addr):Prop where
 mg:mg x=some (.ref a)
 tup:ModT K a ds
variable {sl:Array (Option Value)}
theorem xS{o:Option Addr}{i j:Int}{t u:Tok}(X:K.In h)(G:h.Ns mainGlobals mg)(e:nsIn K mainGlobals x=some (some (.ref a)))(l:K.lookup a=some ⟨.type "tuple",o,.seq #[.int i t,.int j u] n,sl⟩):∃a,TC K mg x [.int i,.int j] a:=
 ⟨a,mg_of X G e,⟨[.int i,.int j],_,_,_,l,rfl,rfl,Nat.le_of_lt (wH (by show 2<=1000;decide)),.cons ⟨_,rfl⟩ (.cons ⟨_,rfl⟩ .nil),fun H Av=>ay.ints [i,j]⟩⟩
open PySem PySem.Spec PyProof.Rows L2
open PySem.W (Dat kqdOk)
def kA (es:Array DictEntry):Bool:=es.toList.all fun e=>match e.key with| .str _ _=>true|_=>false
structure vZ (P:Program) (K:Fg) (mg:Str->Option Value):Prop where
 tree:P.given.tree=none
 st:∃(c:Value) (d:Option Addr) (es:Array DictEntry) (n:Nat) (sl:Array (Option Value)),K.lookup cStatics=some ⟨c,d,.dict es n,sl⟩/\kA es=true/\nsIn K cStatics "sys.audit-hooks"=some none/\nsIn K cStatics "sys.dict"=some none
 md:∃(c:Value) (d:Option Addr) (es:Array DictEntry) (n:Nat) (sl:Array (Option Value)),K.lookup sysModules=some ⟨c,d,.dict es n,sl⟩/\kA es=true/\nsIn K sysModules "_pylong"=some none
 bi:∃bm,mg "__builtins__"=some (.ref bm)/\∃(o:Obj),K.lookup bm=some o/\o.cls=.type "module"/\o.dict=some builtinsNs
theorem LD{c1 c2:Value}{d1 d2:Option Addr}{e1 e2:Array DictEntry}{l1 l2 l3:Array (Option Value)}{bm:Addr}{d3:Data}(X:K.In h)(G:h.Ns mainGlobals mg)(ht:P.given.tree=none)(s1:K.lookup cStatics=some ⟨c1,d1,.dict e1 n1,l1⟩)(s3:nsIn K cStatics "sys.audit-hooks"=some none)(s4:nsIn K cStatics "sys.dict"=some none)(s5:K.lookup sysModules=some ⟨c2,d2,.dict e2 n2,l2⟩)(s7:nsIn K sysModules "_pylong"=some none)(s8:nsIn K mainGlobals "__builtins__"=some (some (.ref bm)))(s9:K.lookup bm=some ⟨.type "module",some builtinsNs,d3,l3⟩)(s2:kA e1=true)(s6:kA e2=true):vZ P K mg:=
 ⟨ht,⟨_,_,_,_,_,s1,s2,s3,s4⟩,⟨_,_,_,_,_,s5,s6,s7⟩,⟨_,mg_of X G s8,_,s9,rfl,rfl⟩⟩
theorem Dp(h:kA es=true):StrKeys es:=by
 intro e he;have:=all_eq_true.mp h e (Array.mem_def.mp he);revert this;cases hk:e.key with
 |str a b=>intro _;exact⟨a,b,rfl⟩
 |_=>intro z;cases z
theorem qp{c:Value}{d:Option Addr}(X:K.In h)(l:K.lookup a=some ⟨c,d,.dict es n,sl⟩)(k:kA es=true):h.Ns a (nsFind es):=
 ⟨_,es,n,X _ _ l,rfl,Dp k,fun _=>rfl⟩
theorem vZ.no(S:vZ P K mg)(M:Mod K mg h):h.NoSeer:=by
 obtain⟨c,d,es,n,sl,l1,k1,a1,a2⟩:=S.st;obtain⟨c',d',CC,n',RX,l2,k2,b1⟩:=S.md;obtain⟨bm,m1,o,l3,o1,o2⟩:=S.bi;have g1:=qp M.uu l1 k1;have g2:=qp M.uu l2 k2;exact⟨⟨_,g1,ns_none_of M.uu g1 a1,ns_none_of M.uu g1 a2⟩,⟨_,g2,ns_none_of M.uu g2 b1⟩,M.blt,⟨mg,bm,o,M.glob,m1,M.uu _ _ l3,o1,o2⟩⟩
def De (X:Cx):Prop:=∃e l,X.stack=e::l/\e.scope.isGenerator=false/\e.scope.isCoroutine=false/\e.builtins=builtinsNs/\e.globals=mainGlobals
theorem ID(S:vZ X.prog X.K X.mg)(hr:cw k X.A)(hk:32<=k)(hp:De X):dZ X (binaryOp .FloorDiv) (rI Lm fun i j=>.int (i.fdiv j)):=by
 intro pins s σ H x y v u Q I rx ry h;obtain⟨i,j,rfl,rfl,hc,q⟩:=h;obtain⟨t,rfl⟩:=rx;obtain⟨t',rfl⟩:=ry;obtain⟨e,l,h1,h2,h3,h4,h5⟩:=hp;have hd:X.A.depth+Builtin.pylongFrames<recursionLimit:=by
  have:=hr.dp;show X.A.depth+100<_;omega
 exact floordiv_int hc ⟨.int (i.fdiv j),H,I.tok _,⟨_,rfl⟩,q⟩ (.inr (PylongRoom.of I.nolimit hd (SeerAt.of ((S.no I.mod).keeps I.bk) S.tree (by rw[I.ok.frames,h1]) h2 h3 h4 h5)))
noncomputable abbrev rK:Dat->Dat->Option Dat:=iD Lm fun i j=>.int (i.fdiv j)
variable {a:Expr}
theorem gg(S:vZ X.prog X.K X.mg)(hr:cw k X.A)(ha:QF X a fa)(hb:QF X b fb)(hk:32<=k:=by decide)(hp:De X:=by exact⟨_,_,rfl,rfl,rfl,rfl,rfl⟩):QF X (.BinOp a .FloorDiv b pos) (f2 rK fa fb):=⟨mr (ID S hr hk hp) oF ha.o hb.o⟩
open PySem PySem.Spec PyProof.Rows L2
open PySem.W (Dat kqdOk)
theorem DA(i:Nat)(hc:X.calm=true)(B:pK X scope cl N' (some i::cg))(hi:Qb X tg iter hI)(hg:∀C aK aj ex,QG (dg X scope cl N' C aK aj ex) tg (j8 X.K gt))(he:∀C aK aj ex,QH (dg X scope cl N' C aK aj ex) elt fe)(hT:kH gt (some i::cg))(hs:∀x,foldedSetIterable iter X.env x=pure x:=by intro _;rfl):QE X (.ListComp elt [⟨tg,iter,[],0⟩] scope pos) (EI X.K (mG i cg gt fe hI)):=
 ⟨bp (rA hc B hi.o (fun C aK aj ex=>(hg C aK aj ex).o) (fun _ _ _ _=>rq) (fun C aK aj ex=>(he C aK aj ex).o) hs) (Bp hT)⟩
end
end L3
namespace Fr
noncomputable section
theorem zZ(a b:Int)(hb:0<b):gcd b (a.fmod b)=gcd a b:=by
 rw[Int.fmod_eq_emod_of_nonneg a (Int.le_of_lt hb)];apply Nat.dvd_antisymm
 ·apply Int.dvd_gcd
  ·have h1:=gcd_dvd_left b (a % b);have h2:=gcd_dvd_right b (a % b);have e:a=a % b+b*(a/b):=(Int.emod_add_mul_ediv a b).symm;have h3:(↑(b.gcd (a % b)):Int)∣a % b+b*(a/b):=Int.dvd_add h2 (Int.dvd_mul_of_dvd_left h1);rw[<- e]at h3;exact h3
  ·exact gcd_dvd_left b (a % b)
 ·apply Int.dvd_gcd
  ·exact gcd_dvd_right a b
  ·have h1:=gcd_dvd_left a b;have h2:=gcd_dvd_right a b;have e:a % b=a-b*(a/b):=by have:=Int.emod_add_mul_ediv a b;omega
   rw[e];exact Int.dvd_sub h1 (Int.dvd_mul_of_dvd_left h2)
def dv (n d:Int):Int:=if d<0 then -(gcd n d:Int)else(gcd n d:Int)
def num (n d:Int):Int:=n.fdiv (dv n d)
def den (n d:Int):Int:=d.fdiv (dv n d)
variable {n d:Int}
theorem lW(h:d≠0):0<gcd n d:=Nat.pos_of_ne_zero fun e=>h (by
 have:=gcd_dvd_right n d;rw[e]at this;exact Int.zero_dvd.mp this)
theorem L6(h:d≠0):dv n d≠0:=by
 have:=lW (n:=n) h;unfold dv;split<;>omega
theorem yd(n d:Int):dv n d∣n:=by
 unfold dv;split
 ·exact Int.neg_dvd.mpr (gcd_dvd_left n d)
 ·exact gcd_dvd_left n d
theorem yc(n d:Int):dv n d∣d:=by
 unfold dv;split
 ·exact Int.neg_dvd.mpr (gcd_dvd_right n d)
 ·exact gcd_dvd_right n d
theorem num_mul(n d:Int):num n d*dv n d=n:=by
 unfold num;rw[Int.fdiv_eq_ediv_of_dvd (yd n d)];exact Int.ediv_mul_cancel (yd n d)
theorem den_mul(n d:Int):den n d*dv n d=d:=by
 unfold den;rw[Int.fdiv_eq_ediv_of_dvd (yc n d)];exact Int.ediv_mul_cancel (yc n d)
theorem den_pos(h:d≠0):0<den n d:=by
 have e:=den_mul n d;have g:=lW (n:=n) h;by_cases hd:d<0
 ·have e2:dv n d=-(gcd n d:Int):=by unfold dv;exact if_pos hd
  have IX:dv n d<0:=by omega
  rcases Int.lt_trichotomy (den n d) 0 with q|q|q
  ·have:=Int.mul_pos_of_neg_of_neg q IX;omega
  ·rw[q]at e;simp at e;omega
  ·exact q
 ·have e2:dv n d=(gcd n d:Int):=by unfold dv;exact if_neg hd
  have zL:0<dv n d:=by omega
  rcases Int.lt_trichotomy (den n d) 0 with q|q|q
  ·have:=Int.mul_neg_of_neg_of_pos q zL;omega
  ·rw[q]at e;simp at e;omega
  ·exact q
theorem uO(n d:Int):(dv n d).natAbs=gcd n d:=by
 unfold dv;split<;>simp
theorem Am(h:d≠0):gcd (num n d) (den n d)=1:=by
 unfold num den;rw[Int.fdiv_eq_ediv_of_dvd (yd n d),Int.fdiv_eq_ediv_of_dvd (yc n d),Int.gcd_ediv (yd n d) (yc n d),uO];exact Nat.div_self (lW h)
theorem E8(n d:Int):num n d*d=den n d*n:=by
 have e1:=num_mul n d;have e2:=den_mul n d;calc num n d*d=num n d*(den n d*dv n d):=by rw[e2]
  _=den n d*(num n d*dv n d):=by rw[Int.mul_left_comm]
  _=den n d*n:=by rw[e1]
theorem uniq{p q:Int}(hd:d≠0)(hq:0<q)(hc:gcd p q=1)(h:p*d=q*n):num n d=p/\den n d=q:=by
 have hx:=E8 n d;have hk:=Am (n:=n) hd;have uJ:=den_pos (n:=n) hd

 have key:p*den n d=q*num n d:=by
  have a1:(p*den n d)*d=(q*num n d)*d:=by
   calc (p*den n d)*d=(p*d)*den n d:=by rw[Int.mul_right_comm]
    _=(q*n)*den n d:=by rw[h]
    _=q*(den n d*n):=by rw[Int.mul_assoc,mul_comm n]
    _=q*(num n d*d):=by rw[hx]
    _=(q*num n d)*d:=by rw[Int.mul_assoc]
  exact Int.eq_of_mul_eq_mul_right hd a1
 have n1:q.natAbs∣(den n d).natAbs:=by
  have z:q.natAbs∣p.natAbs*(den n d).natAbs:=by
   rw[<- natAbs_mul,key,natAbs_mul];exact Nat.dvd_mul_right _ _
  have c:Nat.Coprime q.natAbs p.natAbs:=by
   show Nat.gcd q.natAbs p.natAbs=1;rw[Nat.gcd_comm];exact hc
  exact c.dvd_of_dvd_mul_left z
 have n2:(den n d).natAbs∣q.natAbs:=by
  have z:(den n d).natAbs∣q.natAbs*(num n d).natAbs:=by
   rw[<- natAbs_mul,<- key,natAbs_mul];exact Nat.dvd_mul_left _ _
  have c:Nat.Coprime (den n d).natAbs (num n d).natAbs:=by
   show Nat.gcd (den n d).natAbs (num n d).natAbs=1;rw[Nat.gcd_comm];exact hk
  exact c.dvd_of_dvd_mul_right z
 have e1:den n d=q:=by
  have:=Nat.dvd_antisymm n1 n2;omega
 refine⟨?_,e1⟩;rw[e1]at key;have:q*p=q*num n d:=by rw[mul_comm q p];exact key
 exact(Int.eq_of_mul_eq_mul_left (ne_of_gt hq) this).symm
theorem self{p q:Int}(hq:0<q)(hc:gcd p q=1):num p q=p/\den p q=q:=uniq (ne_of_gt hq) hq hc (mul_comm p q)
theorem turned(h:d≠0):num (0-n) (0-d)=num n d/\den (0-n) (0-d)=den n d:=by
 refine uniq (by omega) (den_pos h) (Am h) ?_;have:=E8 n d;rw[Int.mul_sub,Int.mul_sub,this,mul_zero,mul_zero]
theorem uT(h:d≠0):(num n d).natAbs<=n.natAbs:=by
 have e:=congrArg Int.natAbs (num_mul n d);rw[natAbs_mul]at e;have:1<=(dv n d).natAbs:=by rw[uO];exact lW h
 calc (num n d).natAbs=(num n d).natAbs*1:=(mul_one _).symm
  _<=(num n d).natAbs*(dv n d).natAbs:=mul_le_mul_left _ this
  _=n.natAbs:=e
theorem uU(h:d≠0):(den n d).natAbs<=d.natAbs:=by
 have e:=congrArg Int.natAbs (den_mul n d);rw[natAbs_mul]at e;have:1<=(dv n d).natAbs:=by rw[uO];exact lW h
 calc (den n d).natAbs=(den n d).natAbs*1:=(mul_one _).symm
  _<=(den n d).natAbs*(dv n d).natAbs:=mul_le_mul_left _ this
  _=d.natAbs:=e
end
end Fr
namespace Fr
noncomputable section
def nd:List (Int×Int)->Int×Int
 |[]=>(0,1)
 |x::l=>(x.1*(nd l).2+(nd l).1*x.2,x.2*(nd l).2)
theorem congr{n d n' d':Int}(h:d≠0)(h':d'≠0)(e:n*d'=n'*d):num n d=num n' d'/\den n d=den n' d':=by
 have c:=E8 n' d';refine uniq h (den_pos h') (Am h') ?_

 have:(num n' d'*d)*d'=(den n' d'*n)*d':=by
  calc (num n' d'*d)*d'=(num n' d'*d')*d:=by grind
   _=(den n' d'*n')*d:=by rw[c]
   _=den n' d'*(n'*d):=by grind
   _=den n' d'*(n*d'):=by rw[e]
   _=(den n' d'*n)*d':=by grind
 exact Int.eq_of_mul_eq_mul_right h' this
end
end Fr
namespace Fr
noncomputable section
theorem jk(q:Rat):(q.num:Rat)=q*(q.den:Rat):=by
 have e:q=(q.num:Rat)/(q.den:Rat):=by rw[<- Rat.mkRat_eq_div,mkRat_self]
 have h:(q.den:Rat)≠0:=fun z=>q.den_nz (Rat.natCast_eq_zero_iff.mp z);generalize (q.num:Rat)=a at *;generalize (q.den:Rat)=b at *;grind
theorem zh(n:Int)(d:Nat)(h:d≠0):num n d=(mkRat n d).num/\den n d=((mkRat n d).den:Int):=by
 refine uniq (by omega) (by have:=(mkRat n d).den_pos;omega) ?_ ?_
 ·have:=(mkRat n d).reduced;show Nat.gcd _ _=1;rw[natAbs_natCast];exact this
 ·have e:=(Rat.mkRat_eq_iff (mkRat n d).den_nz h).mp (mkRat_self (mkRat n d));rw[e];exact mul_comm _ _
theorem BD(a b:Rat):num (a.num*b.den+b.num*a.den) (a.den*b.den)=(a+b).num/\den (a.num*b.den+b.num*a.den) (a.den*b.den)=((a+b).den:Int):=by
 have:=zh (a.num*b.den+b.num*a.den) (a.den*b.den) (Nat.mul_ne_zero a.den_nz b.den_nz);rw[Rat.add_def'];rw[Int.natCast_mul]at this;exact this
theorem BA(a b:Rat):num (a.num*b.den-b.num*a.den) (a.den*b.den)=(a-b).num/\den (a.num*b.den-b.num*a.den) (a.den*b.den)=((a-b).den:Int):=by
 have:=zh (a.num*b.den-b.num*a.den) (a.den*b.den) (Nat.mul_ne_zero a.den_nz b.den_nz);rw[Rat.sub_def'];rw[Int.natCast_mul]at this;exact this
theorem BB(a b:Rat):num (a.num*b.num) (a.den*b.den)=(a*b).num/\den (a.num*b.num) (a.den*b.den)=((a*b).den:Int):=by
 have:=zh (a.num*b.num) (a.den*b.den) (Nat.mul_ne_zero a.den_nz b.den_nz);rw[Rat.mul_def'];rw[Int.natCast_mul]at this;exact this
theorem kI(n d:Int)(h:d≠0):num n d=((n:Rat)/(d:Rat)).num/\den n d=(((n:Rat)/(d:Rat)).den:Int):=by
 have hd:(d:Rat)≠0:=fun z=>h (Rat.intCast_eq_zero_iff.mp z);generalize hq:(n:Rat)/(d:Rat)=q;refine uniq h (by have:=q.den_pos;omega) ?_ ?_
 ·have:=q.reduced;show Nat.gcd _ _=1;rw[natAbs_natCast];exact this
 ·have e1:q*(d:Rat)=(n:Rat):=by rw[<- hq];exact Rat.div_mul_cancel hd
  have e2:(q.num:Rat)=q*(q.den:Rat):=jk q;have e3:((q.num*d:Int):Rat)=((q.den*n:Int):Rat):=by
   rw[intCast_mul,intCast_mul,e2,<- e1];have:(((q.den:Int)):Rat)=(q.den:Rat):=rfl;rw[this];grind
  exact Rat.intCast_inj.mp e3
theorem BC(a b:Rat)(h:b.num≠0):num (a.num*b.den) (a.den*b.num)=(a/b).num/\den (a.num*b.den) (a.den*b.num)=((a/b).den:Int):=by
 have hd:(a.den:Int)*b.num≠0:=mul_ne_zero (by have:=a.den_pos;omega) h;have:=kI (a.num*b.den) (a.den*b.num) hd;have e:((a.num*b.den:Int):Rat)/((a.den*b.num:Int):Rat)=a/b:=by
  have a1:=(jk a).symm;have b1:=(jk b).symm;have ad:(a.den:Rat)≠0:=fun z=>by
   have:=a.den_pos;have z':((a.den:Int):Rat)=0:=z;have:=Rat.intCast_eq_zero_iff.mp z';omega
  have bd:(b.den:Rat)≠0:=fun z=>by
   have:=b.den_pos;have z':((b.den:Int):Rat)=0:=z;have:=Rat.intCast_eq_zero_iff.mp z';omega
  rw[intCast_mul,intCast_mul,<- a1,<- b1];have c1:(((b.den:Int)):Rat)=(b.den:Rat):=rfl;have c2:(((a.den:Int)):Rat)=(a.den:Rat):=rfl;rw[c1,c2];have b0:b≠0:=fun z=>h (by rw[z];rfl);grind
 rw[e]at this;exact this
theorem yJ(a b:Rat):(a<b)↔a.num*b.den<b.num*a.den:=Rat.lt_iff a b
end
end Fr
namespace FM
noncomputable section
def sm:Nat->(Nat->Rat)->Rat
 |0,_=>0
 |k+1,f=>sm k f+f k
theorem aO{f g:Nat->Rat}:∀{k:Nat},(∀i,i<k->f i=g i)->sm k f=sm k g
 |0,_=>rfl
 |k+1,h=>by
  show sm k f+f k=sm k g+g k;rw[aO (fun i hi=>h i (by omega)),h k (by omega)]
theorem gO{f:Nat->Rat}:∀{k:Nat},(∀i,i<k->f i=0)->sm k f=0
 |0,_=>rfl
 |k+1,h=>by
  show sm k f+f k=0;rw[gO (fun i hi=>h i (by omega)),h k (by omega)];grind
theorem dW{f g:Nat->Rat}:∀k:Nat,sm k (fun i=>f i+g i)=sm k f+sm k g
 |0=>by show(0:Rat)=0+0;grind
 |k+1=>by
  show sm k (fun i=>f i+g i)+(f k+g k)=(sm k f+f k)+(sm k g+g k);rw[dW k];grind
theorem bE{f:Nat->Rat}(c:Rat):∀k:Nat,sm k (fun i=>c*f i)=c*sm k f
 |0=>by show(0:Rat)=c*0;grind
 |k+1=>by
  show sm k (fun i=>c*f i)+c*f k=c*(sm k f+f k);rw[bE c k];grind
theorem Dq{f g:Nat->Rat}:∀{k:Nat},(∀i,i<k->f i<=g i)->sm k f<=sm k g
 |0,_=>by show(0:Rat)<=0;grind
 |k+1,h=>by
  have:=Dq (k:=k) fun i hi=>h i (by omega);have:=h k (by omega);show sm k f+f k<=sm k g+g k;grind
theorem K3{f g:Nat->Rat}:∀{k:Nat},(∀i,i<k->f i<=g i)->(∃i,i<k/\f i<g i)->sm k f<sm k g
 |0,_,⟨i,hi,_⟩=>by omega
 |k+1,h,⟨i,hi,hl⟩=>by
  have h1:=h k (by omega);show sm k f+f k<sm k g+g k;by_cases e:i=k
  ·subst e;have:=Dq (k:=i) fun j hj=>h j (by omega);grind
  ·have:=K3 (k:=k) (fun j hj=>h j (by omega)) ⟨i,by omega,hl⟩;grind
theorem ES{f g:Nat->Rat}{p:Nat}{v:Rat}:∀{k:Nat},p<k->sm k (fun i=>(if i=p then v else f i)*g i)=sm k (fun i=>f i*g i)+(v-f p)*g p
 |0,h=>by omega
 |k+1,h=>by
  show sm k (fun i=>(if i=p then v else f i)*g i)+(if k=p then v else f k)*g k=(sm k (fun i=>f i*g i)+f k*g k)+(v-f p)*g p;by_cases e:k=p
  ·rw[aO (g:=fun i=>f i*g i) (fun i hi=>by rw[if_neg (by omega)]),if_pos e,<- e];grind
  ·rw[ES (k:=k) (by omega),if_neg e];grind
theorem vm{f:Nat->Nat->Rat}(m:Nat):∀k:Nat,sm k (fun i=>sm m (fun c=>f i c))=sm m (fun c=>sm k (fun i=>f i c))
 |0=>(gO fun _ _=>rfl).symm
 |k+1=>by
  show sm k (fun i=>sm m (fun c=>f i c))+sm m (fun c=>f k c)=_;rw[vm m k,<- dW];rfl
theorem yw{f:Nat->Rat}{p:Nat}:∀{k:Nat},p<k->sm k f=sm k (fun i=>if i=p then 0 else f i)+f p
 |0,h=>by omega
 |k+1,h=>by
  show sm k f+f k=(sm k (fun i=>if i=p then 0 else f i)+(if k=p then 0 else f k))+f p;by_cases e:k=p
  ·rw[aO (f:=fun i=>if i=p then 0 else f i) (g:=f) (fun i hi=>if_neg (by omega)),if_pos e,<- e];grind
  ·rw[yw (k:=k) (p:=p) (by omega),if_neg e];grind
theorem Aa{P:Nat->Prop}(f:Nat->Rat):∀{k:Nat},(∃i,i<k/\P i)->∃i,i<k/\P i/\∀j,j<k->P j->f i<=f j
 |0,⟨i,hi,_⟩=>by omega
 |k+1,⟨i,hi,hp⟩=>by
  by_cases h:∃i,i<k/\P i
  ·obtain⟨m,hm,pm,lm⟩:=Aa f h;by_cases c:P k/\f k<f m
   ·refine⟨k,by omega,c.1,fun j hj pj=>?_⟩;by_cases e:j=k
    ·subst e;grind
    ·have:=lm j (by omega) pj;grind
   ·refine⟨m,by omega,pm,fun j hj pj=>?_⟩;by_cases e:j=k
    ·subst e;have:¬f j<f m:=fun z=>c ⟨pj,z⟩;grind
    ·exact lm j (by omega) pj
  ·have e:i=k:=by
    by_cases e:i=k
    ·exact e
    ·exact absurd ⟨i,by omega,hp⟩ h
   subst e;refine⟨i,by omega,hp,fun j hj pj=>?_⟩;by_cases e:j=i
   ·subst e;grind
   ·exact absurd ⟨j,by omega,pj⟩ h
def cnt:Nat->(Nat->Rat)->Nat
 |0,_=>0
 |k+1,u=>cnt k u+(if u k=0 then 0 else 1)
theorem Ao{u v:Nat->Rat}:∀{k:Nat},(∀i,i<k->u i=0->v i=0)->cnt k v<=cnt k u
 |0,_=>le_refl _
 |k+1,h=>by
  have h1:=Ao (k:=k) fun i hi=>h i (by omega);show cnt k v+(if v k=0 then 0 else 1)<=cnt k u+(if u k=0 then 0 else 1);by_cases e:u k=0
  ·rw[if_pos e,if_pos (h k (by omega) e)];omega
  ·rw[if_neg e];split<;>omega
theorem uQ{u v:Nat->Rat}:∀{k:Nat},(∀i,i<k->u i=0->v i=0)->(∃i,i<k/\v i=0/\u i≠0)->cnt k v<cnt k u
 |0,_,⟨i,hi,_⟩=>by omega
 |k+1,h,⟨i,hi,h1,h2⟩=>by
  show cnt k v+(if v k=0 then 0 else 1)<cnt k u+(if u k=0 then 0 else 1);by_cases e:i=k
  ·subst e;have:=Ao (k:=i) fun j hj=>h j (by omega);rw[if_pos h1,if_neg h2];omega
  ·have:=uQ (k:=k) (fun j hj=>h j (by omega)) ⟨i,by omega,h1,h2⟩;by_cases e2:u k=0
   ·rw[if_pos e2,if_pos (h k (by omega) e2)];omega
   ·rw[if_neg e2];split<;>omega
def kz:Nat->(Nat->Rat)->List Nat
 |0,_=>[]
 |k+1,u=>if u k=0 then kz k u else k::kz k u
theorem sD{u:Nat->Rat}:∀k:Nat,(kz k u).length=cnt k u
 |0=>rfl
 |k+1=>by
  show(if u k=0 then kz k u else k::kz k u).length=cnt k u+(if u k=0 then 0 else 1);split
  ·exact sD k
  ·rw[length_cons,sD k]
theorem me{u:Nat->Rat}:∀{k i:Nat},i∈kz k u->i<k/\u i≠0
 |0,i,h=>by simp[kz]at h
 |k+1,i,h=>by
  have h':i∈(if u k=0 then kz k u else k::kz k u):=h;split at h'
  ·have:=me h';exact⟨by omega,this.2⟩
  ·rename_i e;rcases mem_cons.mp h' with r|r
   ·subst r;exact⟨by omega,e⟩
   ·have:=me r;exact⟨by omega,this.2⟩
theorem ou{u:Nat->Rat}:∀k:Nat,(kz k u).Nodup
 |0=>List.nodup_nil
 |k+1=>by
  show(if u k=0 then kz k u else k::kz k u).Nodup;split
  ·exact ou k
  ·exact nodup_cons.mpr ⟨fun h=>by have:=(me h).1;omega,ou k⟩
theorem Aj{k:Nat}:∀(E:List Nat) (B:Nat->Nat->Rat) (S:List Nat),S.Nodup->(∀i∈S,i<k)->E.length<S.length->
  ∃d:Nat->Rat,(∀i,i∉S->d i=0)/\(∃i∈S,d i≠0)/\∀c∈E,sm k (fun i=>d i*B i c)=0
 |[],B,S,hn,hk,hl=>by
  cases S with
  |nil=>simp at hl
  |cons p S=>
   refine⟨fun i=>if i=p then 1 else 0,fun i hi=>if_neg fun e=>hi (by rw[e];exact mem_cons_self),⟨p,mem_cons_self,?_⟩,fun c hc=>by simp at hc⟩;show(if p=p then(1:Rat)else 0)≠0;rw[if_pos rfl];grind
 |c::E,B,S,hn,hk,hl=>by
  rw[length_cons]at hl;by_cases h:∃p∈S,B p c≠0
  ·obtain⟨p,hp,hb⟩:=h;have Kx:p∉S.erase p:=fun z=>by
    rw[hn.mem_erase_iff]at z;exact z.1 rfl
   have rZ:E.length<(S.erase p).length:=by rw[List.length_erase_of_mem hp];omega
   obtain⟨d,d1,⟨q,hq,dq⟩,d3⟩:=Aj E (fun i c'=>B i c'-B i c/B p c*B p c') (S.erase p) (hn.erase p) (fun i hi=>hk i (List.mem_of_mem_erase hi)) rZ;have dp:d p=0:=d1 p Kx;refine⟨fun i=>if i=p then-(sm k (fun i=>d i*B i c))/B p c else d i,fun i hi=>?_,⟨q,List.mem_of_mem_erase hq,?_⟩,fun c' hc=>?_⟩
   ·have e:i≠p:=fun e=>hi (by rw[e];exact hp);dsimp only;rw[if_neg e];exact d1 i fun z=>hi (List.mem_of_mem_erase z)
   ·have e:q≠p:=fun e=>Kx (e▸hq);dsimp only;rw[if_neg e];exact dq
   ·dsimp only;rw[ES (hk p hp),dp];rcases mem_cons.mp hc with e|hc
    ·subst e;have:(- (sm k (fun i=>d i*B i c'))/B p c'-0)*B p c'=- sm k (fun i=>d i*B i c'):=by grind
     rw[this];grind
    ·have h3:=d3 c' hc;have e1:sm k (fun i=>d i*(B i c'-B i c/B p c*B p c'))=sm k (fun i=>d i*B i c')+(- (B p c'/B p c))*sm k (fun i=>d i*B i c):=by
      rw[<- bE,<- dW];exact aO fun i _=>by grind
     rw[e1]at h3;grind
  ·have h':∀p∈S,B p c=0:=fun p hp=>by
    by_cases e:B p c=0
    ·exact e
    ·exact absurd ⟨p,hp,e⟩ h
   obtain⟨d,d1,d2,d3⟩:=Aj E B S hn hk (by omega);refine⟨d,d1,d2,fun c' hc=>?_⟩;rcases mem_cons.mp hc with e|hc
   ·subst e;refine gO fun i _=>?_;by_cases m:i∈S
    ·rw[h' i m];grind
    ·rw[d1 i m];grind
   ·exact d3 c' hc
structure jI (k:Nat) (J:Nat->Prop) (E:List Nat) (B:Nat->Nat->Rat) (u:Nat->Rat):Prop where
 nn:∀i,i<k->0<=u i
 off:∀i,i<k->¬J i->u i=0
 nR:∀c∈E,sm k (fun i=>u i*B i c)=0
structure qT (k:Nat) (J:Nat->Prop) (E:List Nat) (B:Nat->Nat->Rat) (u:Nat->Rat):Prop where
 i8:jI k J E B u
 ne:∃i,i<k/\u i≠0
 alone:∀v,jI k J E B v->(∀i,i<k->u i=0->v i=0)->∃c:Rat,0<=c/\∀i,i<k->v i=c*u i
variable {a b c:Rat}
theorem Gh(hc:0<c)(h:b<=a/c):b*c<=a:=by
 have:=Rat.mul_le_mul_of_nonneg_left h (le_of_lt hc);have e:c*(a/c)=a:=by grind
 rw[e]at this;grind
theorem bJ(ha:0<a)(hb:0<b):0<a*b:=Rat.mul_pos ha hb
theorem d9(ha:0<=a)(hb:0<=b):0<=a*b:=Rat.mul_nonneg ha hb
variable {u:Nat->Rat} {k:Nat}
theorem wB{d:Nat->Rat}(hu:∀i,i<k->0<=u i)(hz:∀i,i<k->u i=0->d i=0)(hp:∃i,i<k/\0<d i):
  ∃l:Rat,0<l/\(∀i,i<k->0<=u i-l*d i)/\∃i,i<k/\0<d i/\u i-l*d i=0:=by
 obtain⟨m,hm,pm,lm⟩:=Aa (P:=fun i=>0<d i) (fun i=>u i/d i) hp;have um:0<u m:=by
  have h1:=hu m hm;have h2:u m≠0:=fun e=>by have:=hz m hm e;grind
  grind
 refine⟨u m/d m,?_,fun i hi=>?_,m,hm,pm,by grind⟩
 ·have:0<(d m)⁻¹:=inv_pos.mpr pm;have:=bJ um this;grind
 ·by_cases c:0<d i
  ·have:=Gh c (lm i hi c);grind
  ·have h1:0<u m/d m:=by
    have:0<(d m)⁻¹:=inv_pos.mpr pm;have:=bJ um this;grind
   have h2:=d9 (le_of_lt h1) (show 0<=- d i by grind);have:=hu i hi;grind
variable {J:Nat->Prop} {B:Nat->Nat->Rat} {E:List Nat}
theorem jI.sub{l:Rat}{d:Nat->Rat}(hu:jI k J E B u)(ho:∀i,i<k->¬J i->d i=0)(hd:∀c∈E,sm k (fun i=>d i*B i c)=0)(hn:∀i,i<k->0<=u i-l*d i):jI k J E B (fun i=>u i-l*d i):=by
 refine⟨hn,fun i hi hj=>by rw[hu.off i hi hj,ho i hi hj];grind,fun c hc=>?_⟩;have e:sm k (fun i=>(u i-l*d i)*B i c)=sm k (fun i=>u i*B i c)+(-l)*sm k (fun i=>d i*B i c):=by
  rw[<- bE,<- dW];exact aO fun i _=>by grind
 rw[e,hu.nR c hc,hd c hc];grind
theorem qT.Pe(h:qT k J E B u):cnt k u<=E.length+1:=by
 apply Nat.le_of_not_lt
 intro dJ;rw[<- sD]at dJ;cases hs:kz k u with
 |nil=>rw[hs]at dJ;simp at dJ
 |cons p S=>
  rw[hs,length_cons]at dJ;have Sw:=ou (u:=u) k;rw[hs]at Sw;obtain⟨Kx,Wa⟩:=nodup_cons.mp Sw;have DS:∀i∈S,i<k/\u i≠0:=fun i hi=>me (u:=u) (by rw[hs];exact mem_cons_of_mem _ hi);have Gv:p<k/\u p≠0:=me (u:=u) (by rw[hs];exact mem_cons_self);obtain⟨d,d1,⟨q,hq,dq⟩,d3⟩:=Aj E B S Wa (fun i hi=>(DS i hi).1) (by omega)

  have main:∀d:Nat->Rat,(∀i,i∉S->d i=0)->(∀c∈E,sm k (fun i=>d i*B i c)=0)->¬ ∃i,i∈S/\0<d i:=by
   rintro d d1 d3 ⟨q,hq,dq⟩;have hz:∀i,i<k->u i=0->d i=0:=fun i _ e=>d1 i fun z=>(DS i z).2 e;obtain⟨l,lp,h1,_⟩:=wB h.i8.nn hz ⟨q,(DS q hq).1,dq⟩;have hc:=h.i8.sub (fun i hi hj=>hz i hi (h.i8.off i hi hj)) d3 h1;obtain⟨c,_,hv⟩:=h.alone _ hc fun i hi e=>by rw[e,hz i hi e];grind
   have e1:=hv p Gv.1;rw[d1 p Kx]at e1;have c1:c=1:=by
    have:(c-1)*u p=0:=by grind
    rcases mul_eq_zero.mp this with e|e
    ·grind
    ·exact absurd e Gv.2
   have e2:=hv q (DS q hq).1;rw[c1]at e2;have:l*d q=0:=by grind
   have:=bJ lp dq;grind
  by_cases c:0<d q
  ·exact main d d1 d3 ⟨q,hq,c⟩
  ·refine main (fun i=>- d i) (fun i hi=>by rw[d1 i hi];grind) (fun c' hc=>?_) ⟨q,hq,by grind⟩;have:sm k (fun i=>- d i*B i c')=(-1)*sm k (fun i=>d i*B i c'):=by
    rw[<- bE];exact aO fun i _=>by grind
   rw[this,d3 c' hc];grind
variable {v:Nat->Rat}
def lsum (L:List (Nat->Rat)) (i:Nat):Rat:=match L with
 |[]=>0
 |v::r=>v i+lsum r i
theorem IL(L M:List (Nat->Rat))(i:Nat):lsum (L++M) i=lsum L i+lsum M i:=by
 induction L with
 |nil=>show lsum M i=0+lsum M i;grind
 |cons v L ih=>show v i+lsum (L++M) i=(v i+lsum L i)+lsum M i;rw[ih];grind
theorem qT.scale(hc:0<c)(h:qT k J E B u):qT k J E B (fun i=>c*u i):=by
 refine⟨⟨fun i hi=>d9 (le_of_lt hc) (h.i8.nn i hi),fun i hi hj=>by rw[h.i8.off i hi hj];grind,fun c' iG=>?_⟩,?_,fun v hv hz=>?_⟩
 ·have:sm k (fun i=>c*u i*B i c')=c*sm k (fun i=>u i*B i c'):=by
   rw[<- bE];exact aO fun i _=>by grind
  rw[this,h.i8.nR c' iG];grind
 ·obtain⟨i,hi,cE⟩:=h.ne;refine⟨i,hi,fun e=>?_⟩;rcases mul_eq_zero.mp e with e|e
  ·grind
  ·exact cE e
 ·obtain⟨l,h0,hl⟩:=h.alone v hv fun i hi e=>hz i hi (by rw[e];grind);have ci:0<c⁻¹:=inv_pos.mpr hc;refine⟨l*c⁻¹,d9 h0 (le_of_lt ci),fun i hi=>?_⟩;rw[hl i hi];grind
theorem parted:∀(m:Nat) (u:Nat->Rat),cnt k u<=m->jI k J E B u->∃L:List (Nat->Rat),(∀v∈L,qT k J E B v/\∀i,i<k->u i=0->v i=0)/\∀i,i<k->u i=lsum L i:=by
 intro m;induction m with
 |zero=>
  intro u hm hc;refine⟨[],fun v hv=>by simp at hv,fun i hi=>?_⟩;show u i=0;by_cases e:u i=0
  ·exact e
  ·have:=uQ (u:=u) (v:=fun _=>0) (k:=k) (fun _ _ _=>rfl) ⟨i,hi,rfl,e⟩;omega
 |succ m ih=>
  intro u hm hc;by_cases h0:∃i,i<k/\u i≠0
  ·by_cases he:qT k J E B u
   ·refine⟨[u],fun v hv=>?_,fun i hi=>?_⟩
    ·rw[mem_singleton.mp hv];exact⟨he,fun _ _ e=>e⟩
    ·show u i=u i+0;grind
   ·
    have hx:∃v,jI k J E B v/\(∀i,i<k->u i=0->v i=0)/\¬ ∃c:Rat,0<=c/\∀i,i<k->v i=c*u i:=by
     apply Classical.byContradiction
     intro hx;apply he
     refine⟨hc,h0,fun v hv hz=>?_⟩;apply Classical.byContradiction
     intro hn;exact hx ⟨v,hv,hz,hn⟩
    obtain⟨v,hv,hz,hn⟩:=hx

    have gH:∃i,i<k/\0<u i:=by
     obtain⟨i,hi,cE⟩:=h0;have:=hc.nn i hi;exact⟨i,hi,by grind⟩
    obtain⟨q,hq,pq,lq⟩:=Aa (P:=fun i=>0<u i) (fun i=>v i/u i) gH;have VM:0<=v q/u q:=by
     have h1:0<(u q)⁻¹:=inv_pos.mpr pq;have:=d9 (hv.nn q hq) (le_of_lt h1);grind
    have n1:∀i,i<k->0<=v i-v q/u q*u i:=fun i hi=>by
     by_cases c:0<u i
     ·have:=Gh c (lq i hi c);grind
     ·have:=hc.nn i hi;have e:u i=0:=by grind
      rw[e,hz i hi e];grind
    have c1:=hv.sub (l:=v q/u q) hc.off hc.nR n1;generalize Wc:v q/u q=mu at *;have z1:∀i,i<k->u i=0->v i-mu*u i=0:=fun i hi e=>by rw[e,hz i hi e];grind
    have Vt:v q-mu*u q=0:=by rw[<- Wc];grind
    have Vu:∃i,i<k/\0<v i-mu*u i:=by
     apply Classical.byContradiction
     intro uF;apply hn
     refine⟨mu,VM,fun i hi=>?_⟩;have a1:=n1 i hi;have a2:¬0<v i-mu*u i:=fun z=>uF ⟨i,hi,z⟩;grind
    have k1:=uQ (u:=u) (v:=fun i=>v i-mu*u i) (k:=k) z1 ⟨q,hq,Vt,by grind⟩

    obtain⟨l,lp,n2,s,hs,ps,es⟩:=wB hc.nn z1 Vu;have c2:=hc.sub c1.off c1.nR n2;have z2:∀i,i<k->u i=0->u i-l*(v i-mu*u i)=0:=fun i hi e=>by rw[z1 i hi e,e];grind
    have us:u s≠0:=fun e=>by have:=z1 s hs e;grind
    have k2:=uQ (u:=u) (v:=fun i=>u i-l*(v i-mu*u i)) (k:=k) z2 ⟨s,hs,es,us⟩;obtain⟨L1,a1,b1⟩:=ih _ (by omega) c1;obtain⟨L2,a2,b2⟩:=ih _ (by omega) c2;have sc:∀(L:List (Nat->Rat)) (i:Nat),lsum (L.map fun w=>fun i=>l*w i) i=l*lsum L i:=fun L i=>by
     induction L with
     |nil=>show(0:Rat)=l*0;grind
     |cons w L ih=>show l*w i+lsum (L.map fun w=>fun i=>l*w i) i=l*(w i+lsum L i);rw[ih];grind
    refine⟨L1.map (fun w=>fun i=>l*w i)++L2,fun w hw=>?_,fun i hi=>?_⟩
    ·rcases mem_append.mp hw with h|h
     ·obtain⟨w',zG,rfl⟩:=mem_map.mp h;obtain⟨e1,e2⟩:=a1 w' zG;exact⟨e1.scale lp,fun i hi e=>by
       show l*w' i=0;rw[e2 i hi (z1 i hi e)];grind⟩
     ·obtain⟨e1,e2⟩:=a2 w h;exact⟨e1,fun i hi e=>e2 i hi (z2 i hi e)⟩
    ·rw[IL,sc,<- b1 i hi,<- b2 i hi];grind
  ·refine⟨[],fun v hv=>by simp at hv,fun i hi=>?_⟩;show u i=0;by_cases e:u i=0
   ·exact e
   ·exact absurd ⟨i,hi,e⟩ h0
inductive Kn where
 |eq|le|lt
deriving DecidableEq
structure Rw where
 kd:Kn
 a:Nat->Rat
 b:Rat
 w:Nat->Rat
def rel:Kn->Rat->Rat->Prop
 | .eq,x,y=>x=y
 | .le,x,y=>x<=y
 | .lt,x,y=>x<y
def vl (n:Nat) (r:Rw) (x:Nat->Rat):Rat:=sm (n+1) fun c=>r.a c*x c
def Hd (n:Nat) (x:Nat->Rat) (r:Rw):Prop:=rel r.kd (vl n r x) r.b
def uo (J:Nat->Bool) (r:Rw) (i:Nat):Rat:=if J i=true then r.w i else 0
structure Sg (n k j:Nat) (J St:Nat->Bool) (E:List Nat) (B:Nat->Nat->Rat) (β:Nat->Rat) (R:List Rw):Prop where
 jn:j<=n
 zero:∀r∈R,∀c,c<j->r.a c=0
 ej:∀c∈E,c<j
 xq:∀r∈R,r.kd=.eq->∀i,i<k->J i=true->r.w i=0
 nn:∀r∈R,r.kd≠.eq->∀i,i<k->J i=true->0<=r.w i
 pos:∀r∈R,r.kd≠.eq->∃i,i<k/\J i=true/\0<r.w i
 st:∀r∈R,r.kd≠.eq->(r.kd=.lt↔∃i,i<k/\J i=true/\St i=true/\0<r.w i)
 va:∀r∈R,r.kd≠.eq->∀c,c<=n->r.a c=sm k fun i=>uo J r i*B i c
 vb:∀r∈R,r.kd≠.eq->r.b=sm k fun i=>uo J r i*β i
 all:∀u,qT k (fun i=>J i=true) E B u->∃r∈R,r.kd≠.eq/\∃c:Rat,0<c/\∀i,i<k->J i=true->r.w i=c*u i
variable {β:Nat->Rat} {n:Nat}
def gp (n:Nat) (B:Nat->Nat->Rat) (β:Nat->Rat) (x:Nat->Rat) (i:Nat):Rat:=sm (n+1) (fun c=>B i c*x c)-β i
def Fx (n k:Nat) (B:Nat->Nat->Rat) (β:Nat->Rat) (x u:Nat->Rat):Rat:=sm k fun i=>u i*gp n B β x i
variable {x:Nat->Rat}
theorem HI(p q:Rat):Fx n k B β x (fun i=>p*u i+q*v i)=p*Fx n k B β x u+q*Fx n k B β x v:=by
 unfold Fx;rw[<- bE,<- bE,<- dW];exact aO fun i _=>by grind
theorem JD(h:∀i,i<k->v i=c*u i):Fx n k B β x v=c*Fx n k B β x u:=by
 unfold Fx;rw[<- bE];exact aO fun i hi=>by rw[h i hi];grind
variable {J:Nat->Bool} {r:Rw}
theorem AK(ha:∀c,c<=n->r.a c=sm k fun i=>uo J r i*B i c)(hb:r.b=sm k fun i=>uo J r i*β i):Fx n k B β x (uo J r)=vl n r x-r.b:=by
 have e1:vl n r x=sm k (fun i=>uo J r i*sm (n+1) (fun c=>B i c*x c)):=by
  unfold vl;rw[aO (g:=fun c=>sm k fun i=>uo J r i*B i c*x c) (fun c hc=>by
   rw[ha c (by omega)];rw[show(sm k fun i=>uo J r i*B i c)*x c=x c*(sm k fun i=>uo J r i*B i c) by grind,<- bE];exact aO fun i _=>by grind)]
  rw[<- vm];refine aO fun i _=>?_;rw[<- bE];exact aO fun c _=>by grind
 rw[e1,hb];unfold Fx gp;have:(sm k fun i=>uo J r i*(sm (n+1) (fun c=>B i c*x c)-β i))=(sm k fun i=>uo J r i*sm (n+1) (fun c=>B i c*x c))+(-1)*sm k fun i=>uo J r i*β i:=by
  rw[<- bE,<- dW];exact aO fun i _=>by grind
 rw[this];grind
variable {j:Nat}
variable {R:List Rw} {St:Nat->Bool} in
theorem qW(S:Sg n k j J St E B β R)(hr:r∈R)(hk:r.kd≠.eq):jI k (fun i=>J i=true) E B (uo J r):=by
 refine⟨fun i hi=>?_,fun i hi hj=>?_,fun c hc=>?_⟩
 ·unfold uo;split
  ·exact S.nn r hr hk i hi (by assumption)
  ·grind
 ·exact if_neg hj
 ·have h:=S.va r hr hk c (by have:=S.ej c hc;have:=S.jn;omega);rw[<- h];exact S.zero r hr c (S.ej c hc)
variable {R:List Rw} {St:Nat->Bool} in
theorem E9(S:Sg n k j J St E B β R)(hx:∀r∈R,r.kd≠.eq->Hd n x r)(hu:jI k (fun i=>J i=true) E B u):
  Fx n k B β x u<=0/\((∃i,i<k/\St i=true/\0<u i)->Fx n k B β x u<0):=by
 obtain⟨L,h1,h2⟩:=parted (cnt k u) u (le_refl _) hu;have each:∀v∈L,Fx n k B β x v<=0/\((∃i,i<k/\St i=true/\0<v i)->Fx n k B β x v<0):=by
  intro v hv;obtain⟨he,hz⟩:=h1 v hv;obtain⟨r,hr,hk,c,hc,hw⟩:=S.all v he;have hd:=hx r hr hk;have e1:=AK (x:=x) (S.va r hr hk) (S.vb r hr hk);have e2:Fx n k B β x (uo J r)=c*Fx n k B β x v:=JD fun i hi=>by
   unfold uo;by_cases hj:J i=true
   ·rw[if_pos hj,hw i hi hj]
   ·rw[if_neg hj,he.i8.off i hi hj];grind
  have ci:0<c⁻¹:=inv_pos.mpr hc;have e3:Fx n k B β x v=c⁻¹*(vl n r x-r.b):=by rw[<- e1,e2];grind
  unfold Hd at hd;constructor
  ·have:vl n r x-r.b<=0:=by
    cases OW:r.kd with
    |eq=>exact absurd OW hk
    |le=>rw[OW]at hd;have:vl n r x<=r.b:=hd;grind
    |lt=>rw[OW]at hd;have:vl n r x<r.b:=hd;grind
   have:=d9 (le_of_lt ci) (show 0<=-(vl n r x-r.b) by grind);rw[e3];grind
  ·rintro⟨i,hi,hs,hp⟩;have hj:J i=true:=by
    by_cases hj:J i=true
    ·exact hj
    ·have:=he.i8.off i hi hj;grind
   have hl:r.kd=.lt:=(S.st r hr hk).mpr ⟨i,hi,hj,hs,by rw[hw i hi hj];exact bJ hc hp⟩;rw[hl]at hd;have dM:vl n r x<r.b:=hd;have:=bJ ci (show 0 < -(vl n r x-r.b) by grind);rw[e3];grind
 have Bi:∀L:List (Nat->Rat),Fx n k B β x (lsum L)=L.foldr (fun v s=>Fx n k B β x v+s) 0:=by
  intro L;induction L with
  |nil=>exact gO fun i _=>by show(0:Rat)*_=0;grind
  |cons v L ih=>
   show _=Fx n k B β x v+L.foldr (fun v s=>Fx n k B β x v+s) 0;rw[<- ih];have:=HI (n:=n) (k:=k) (B:=B) (β:=β) (x:=x) (u:=v) (v:=lsum L) 1 1;rw[show Fx n k B β x (lsum (v::L))=Fx n k B β x (fun i=>1*v i+1*lsum L i)from aO fun i _=>by
    show(v i+lsum L i)*_=(1*v i+1*lsum L i)*_;grind]
   rw[this];grind
 have eu:Fx n k B β x u=Fx n k B β x (lsum L):=aO fun i hi=>by rw[h2 i hi]
 rw[eu,Bi];have Sh:∀L:List (Nat->Rat),(∀v∈L,Fx n k B β x v<=0)->L.foldr (fun v s=>Fx n k B β x v+s) 0<=0:=by
  intro L;induction L with
  |nil=>intro _;show(0:Rat)<=0;grind
  |cons v L ih=>
   intro h;have a:=h v mem_cons_self;have b:=ih fun q hq=>h q (mem_cons_of_mem _ hq);show Fx n k B β x v+L.foldr (fun v s=>Fx n k B β x v+s) 0<=0;grind
 refine⟨Sh L fun v hv=>(each v hv).1,?_⟩;rintro⟨i,hi,hs,hp⟩;rw[h2 i hi]at hp;have S5:∀v∈L,0<=v i:=fun v hv=>(h1 v hv).1.i8.nn i hi;clear eu Bi;clear h2 hu;induction L with
 |nil=>exact absurd hp (by show ¬(0:Rat)<0;grind)
 |cons v L ih=>
  have a:=(each v mem_cons_self).1;have a':=S5 v mem_cons_self;have b:=Sh L fun q hq=>(each q (mem_cons_of_mem _ hq)).1;show Fx n k B β x v+L.foldr (fun v s=>Fx n k B β x v+s) 0<0;by_cases c:0<v i
  ·have:=(each v mem_cons_self).2 ⟨i,hi,hs,c⟩;grind
  ·have gq:0<v i+lsum L i:=hp;have:=ih (fun q hq=>h1 q (mem_cons_of_mem _ hq)) (fun q hq=>each q (mem_cons_of_mem _ hq)) (by grind) (fun q hq=>S5 q (mem_cons_of_mem _ hq));grind
structure Jd (up lo r:Rw) (j:Nat):Prop where
 kd:r.kd=if up.kd=.lt\/lo.kd=.lt then .lt else .le
 ex:∃μ:Rat,0<μ/\(∀c,r.a c=μ*(-lo.a j*up.a c+up.a j*lo.a c))/\r.b=μ*(-lo.a j*up.b+up.a j*lo.b)/\∀i,r.w i=μ*(-lo.a j*up.w i+up.a j*lo.w i)
variable {R':List Rw}
variable {R:List Rw} in
structure Pairs (k:Nat) (J:Nat->Bool) (j most:Nat) (R R':List Rw):Prop where
 oJ:∀r∈R,r.kd=.eq->r.a j=0
 gx:∀r∈R',(r∈R/\r.a j=0)\/∃up∈R,∃lo∈R,0<up.a j/\lo.a j<0/\Jd up lo r j
 keep:∀r∈R,r.a j=0->∃r'∈R',r'=r
 join:∀up∈R,∀lo∈R,0<up.a j->lo.a j<0->cnt k (fun i=>uo J up i+uo J lo i)<=most->∃r∈R',Jd up lo r j
theorem Ks{up lo:Rw}{μ:Rat}(hw:∀i,r.w i=μ*(-lo.a j*up.w i+up.a j*lo.w i))(i:Nat):uo J r i=μ*(-lo.a j*uo J up i+up.a j*uo J lo i):=by
 unfold uo;split
 ·exact hw i
 ·grind
variable {R:List Rw} {St:Nat->Bool} in
theorem Sg.pairs(S:Sg n k j J St E B β R)(hj:j<n)(P:Pairs k J j (E.length+2) R R'):Sg n k (j+1) J St (j::E) B β R':=by
 have AW:∀{up lo:Rw},up∈R->lo∈R->up.kd≠.eq->lo.kd≠.eq->0<up.a j->lo.a j<0->jI k (fun i=>J i=true) (j::E) B (fun i=>-lo.a j*uo J up i+up.a j*uo J lo i):=by
  intro up lo hu hl ku kl pu pl;have cu:=qW S hu ku;have cl:=qW S hl kl;refine⟨fun i hi=>?_,fun i hi h=>?_,fun c hc=>?_⟩
  ·have a:=d9 (show 0<=-lo.a j by grind) (cu.nn i hi);have b:=d9 (le_of_lt pu) (cl.nn i hi);grind
  ·rw[cu.off i hi h,cl.off i hi h];grind
  ·have e:sm k (fun i=>(-lo.a j*uo J up i+up.a j*uo J lo i)*B i c)=-lo.a j*sm k (fun i=>uo J up i*B i c)+up.a j*sm k (fun i=>uo J lo i*B i c):=by
    rw[<- bE,<- bE,<- dW];exact aO fun i _=>by grind
   rw[e];rcases mem_cons.mp hc with h|h
   ·subst h;rw[<- S.va up hu ku c (by omega),<- S.va lo hl kl c (by omega)];grind
   ·rw[cu.nR c h,cl.nR c h];grind
 have kq:∀{r:Rw},r∈R->r.a j≠0->r.kd≠.eq:=fun hr h e=>h (P.oJ _ hr e);have Sk:∀{up lo r:Rw},Jd up lo r j->r.kd≠.eq:=fun h=>by rw[h.kd];split<;>simp
 refine⟨by omega,fun r hr c hc=>?_,fun c hc=>?_,fun r hr hk i hi hj=>?_,fun r hr hk i hi hj=>?_,fun r hr hk=>?_,fun r hr hk=>?_,fun r hr hk c hc=>?_,fun r hr hk=>?_,fun u hu=>?_⟩
 ·rcases P.gx r hr with⟨h,h0⟩|⟨up,gH,lo,gQ,pu,pl,hd⟩
  ·by_cases e:c=j
   ·rw[e];exact h0
   ·exact S.zero r h c (by omega)
  ·obtain⟨μ,_,ea,_⟩:=hd.ex;rw[ea c];by_cases e:c=j
   ·rw[e];grind
   ·rw[S.zero up gH c (by omega),S.zero lo gQ c (by omega)];grind
 ·rcases mem_cons.mp hc with h|h
  ·omega
  ·have:=S.ej c h;omega
 ·rcases P.gx r hr with⟨h,h0⟩|⟨up,gH,lo,gQ,pu,pl,hd⟩
  ·exact S.xq r h hk i hi hj
  ·exact absurd hk (Sk hd)
 ·rcases P.gx r hr with⟨h,h0⟩|⟨up,gH,lo,gQ,pu,pl,hd⟩
  ·exact S.nn r h hk i hi hj
  ·obtain⟨μ,mp,_,_,ew⟩:=hd.ex;rw[ew i];have a:=d9 (show 0<=-lo.a j by grind) (S.nn up gH (kq gH (by grind)) i hi hj);have b:=d9 (le_of_lt pu) (S.nn lo gQ (kq gQ (by grind)) i hi hj);exact d9 (le_of_lt mp) (by grind)
 ·rcases P.gx r hr with⟨h,h0⟩|⟨up,gH,lo,gQ,pu,pl,hd⟩
  ·exact S.pos r h hk
  ·obtain⟨μ,mp,_,_,ew⟩:=hd.ex;obtain⟨i,hi,hj,hp⟩:=S.pos up gH (kq gH (by grind));refine⟨i,hi,hj,?_⟩;rw[ew i];have a:=bJ (show 0 < -lo.a j by grind) hp;have b:=d9 (le_of_lt pu) (S.nn lo gQ (kq gQ (by grind)) i hi hj);exact bJ mp (by grind)
 ·rcases P.gx r hr with⟨h,h0⟩|⟨up,gH,lo,gQ,pu,pl,hd⟩
  ·exact S.st r h hk
  ·obtain⟨μ,mp,_,_,ew⟩:=hd.ex;have su:=S.st up gH (kq gH (by grind));have sl:=S.st lo gQ (kq gQ (by grind));have nu:=S.nn up gH (kq gH (by grind));have nl:=S.nn lo gQ (kq gQ (by grind));constructor
   ·intro e;rw[hd.kd]at e;split at e
    ·rename_i h;rcases h with h|h
     ·obtain⟨i,hi,hj,hs,hp⟩:=su.mp h;refine⟨i,hi,hj,hs,?_⟩;rw[ew i];have a:=bJ (show 0 < -lo.a j by grind) hp;have b:=d9 (le_of_lt pu) (nl i hi hj);exact bJ mp (by grind)
     ·obtain⟨i,hi,hj,hs,hp⟩:=sl.mp h;refine⟨i,hi,hj,hs,?_⟩;rw[ew i];have a:=d9 (show 0<=-lo.a j by grind) (nu i hi hj);have b:=bJ pu hp;exact bJ mp (by grind)
    ·cases e
   ·rintro⟨i,hi,hj,hs,hp⟩;rw[hd.kd,if_pos];by_cases c:0<up.w i
    ·exact .inl (su.mpr ⟨i,hi,hj,hs,c⟩)
    ·right
     refine sl.mpr ⟨i,hi,hj,hs,?_⟩;have VZ:up.w i=0:=by have:=nu i hi hj;grind
     by_cases c2:0<lo.w i
     ·exact c2
     ·have Wj:lo.w i=0:=by have:=nl i hi hj;grind
      rw[ew i,VZ,Wj]at hp;grind
 ·rcases P.gx r hr with⟨h,h0⟩|⟨up,gH,lo,gQ,pu,pl,hd⟩
  ·exact S.va r h hk c hc
  ·obtain⟨μ,mp,ea,_,ew⟩:=hd.ex;rw[ea c,S.va up gH (kq gH (by grind)) c hc,S.va lo gQ (kq gQ (by grind)) c hc];rw[<- bE,<- bE,<- dW,<- bE];exact aO fun i _=>by rw[Ks ew i];grind
 ·rcases P.gx r hr with⟨h,h0⟩|⟨up,gH,lo,gQ,pu,pl,hd⟩
  ·exact S.vb r h hk
  ·obtain⟨μ,mp,_,eb,ew⟩:=hd.ex;rw[eb,S.vb up gH (kq gH (by grind)),S.vb lo gQ (kq gQ (by grind))];rw[<- bE,<- bE,<- dW,<- bE];exact aO fun i _=>by rw[Ks ew i];grind
 ·
  have Pe:=hu.Pe;rw[length_cons]at Pe;have Wv:jI k (fun i=>J i=true) E B u:=⟨hu.i8.nn,hu.i8.off,fun c hc=>hu.i8.nR c (mem_cons_of_mem _ hc)⟩;obtain⟨L,h1,h2⟩:=parted (cnt k u) u (le_refl _) Wv

  let V:(Nat->Rat)->Rat:=fun v=>sm k fun i=>v i*B i j;have rowOf:∀v∈L,∃r∈R,r.kd≠.eq/\∃c:Rat,0<c/\(∀i,i<k->uo J r i=c*v i)/\r.a j=c*V v:=by
   intro v hv;obtain⟨he,hz⟩:=h1 v hv;obtain⟨r,hr,hk,c,hc,hw⟩:=S.all v he;have e:∀i,i<k->uo J r i=c*v i:=fun i hi=>by
    unfold uo;by_cases hj:J i=true
    ·rw[if_pos hj,hw i hi hj]
    ·rw[if_neg hj,he.i8.off i hi hj];grind
   refine⟨r,hr,hk,c,hc,e,?_⟩;rw[S.va r hr hk j (by omega)];show _=c*sm k fun i=>v i*B i j;rw[<- bE];exact aO fun i hi=>by rw[e i hi];grind
  by_cases hz:∃v∈L,V v=0
  ·obtain⟨v,hv,h0⟩:=hz;obtain⟨r,hr,hk,c,hc,hw,ha⟩:=rowOf v hv;obtain⟨he,UO⟩:=h1 v hv;obtain⟨l,l0,hl⟩:=hu.alone v ⟨he.i8.nn,he.i8.off,fun c' iG=>by
    rcases mem_cons.mp iG with h|h
    ·subst h;exact h0
    ·exact he.i8.nR c' h⟩ UO
   have lp:0<l:=by
    obtain⟨i,hi,cE⟩:=he.ne;rcases Rat.le_iff_lt_or_eq.mp l0 with h|h
    ·exact h
    ·exact absurd (by rw[hl i hi,<- h];grind) cE
   obtain⟨r',cO,e⟩:=P.keep r hr (by rw[ha,h0];grind);subst e;refine⟨r',cO,hk,c*l,bJ hc lp,fun i hi hj=>?_⟩;have:=hw i hi;unfold uo at this;rw[if_pos hj,hl i hi]at this;rw[this];grind
  ·
   have Uv:∀L:List (Nat->Rat),V (lsum L)=L.foldr (fun v s=>V v+s) 0:=by
    intro L;induction L with
    |nil=>exact gO fun i _=>by show(0:Rat)*_=0;grind
    |cons v L ih=>
     show _=V v+L.foldr (fun v s=>V v+s) 0;rw[<- ih];show(sm k fun i=>(v i+lsum L i)*B i j)=(sm k fun i=>v i*B i j)+sm k fun i=>lsum L i*B i j;rw[<- dW];exact aO fun i _=>by grind
   have Bi:L.foldr (fun v s=>V v+s) 0=0:=by
    rw[<- Uv];have:=hu.i8.nR j mem_cons_self;rw[<- this];exact aO fun i hi=>by rw[h2 i hi]
   have Tz:L≠[]:=by
    intro e;obtain⟨i,hi,cE⟩:=hu.ne;apply cE
    rw[h2 i hi,e];rfl
   have nz:∀v∈L,V v≠0:=fun v hv h=>hz ⟨v,hv,h⟩;have zL:∃v∈L,0<V v:=by
    apply Classical.byContradiction
    intro uF;have neg:∀v∈L,V v<0:=fun v hv=>by
     have a:=nz v hv;have b:¬0<V v:=fun z=>uF ⟨v,hv,z⟩;grind
    have:∀M:List (Nat->Rat),M≠[]->(∀v∈M,V v<0)->M.foldr (fun v s=>V v+s) 0<0:=by
     intro M;induction M with
     |nil=>intro h;exact absurd rfl h
     |cons v M ih=>
      intro _ h;have a:=h v mem_cons_self;show V v+M.foldr (fun v s=>V v+s) 0<0;by_cases e:M=[]
      ·subst e;show V v+0<0;grind
      ·have:=ih e fun q hq=>h q (mem_cons_of_mem _ hq);grind
    have:=this L Tz neg;grind
   have IX:∃v∈L,V v<0:=by
    apply Classical.byContradiction
    intro uF;have neg:∀v∈L,0<V v:=fun v hv=>by
     have a:=nz v hv;have b:¬V v<0:=fun z=>uF ⟨v,hv,z⟩;grind
    have:∀M:List (Nat->Rat),M≠[]->(∀v∈M,0<V v)->0<M.foldr (fun v s=>V v+s) 0:=by
     intro M;induction M with
     |nil=>intro h;exact absurd rfl h
     |cons v M ih=>
      intro _ h;have a:=h v mem_cons_self;show 0<V v+M.foldr (fun v s=>V v+s) 0;by_cases e:M=[]
      ·subst e;show 0<V v+0;grind
      ·have:=ih e fun q hq=>h q (mem_cons_of_mem _ hq);grind
    have:=this L Tz neg;grind
   obtain⟨p,hp,pp⟩:=zL;obtain⟨q,hq,qn⟩:=IX;obtain⟨up,gH,ku,cu,Xu,wu,au⟩:=rowOf p hp;obtain⟨lo,gQ,kl,cl,Xv,wl,al⟩:=rowOf q hq;have pu:0<up.a j:=by rw[au];exact bJ Xu pp
   have pl:lo.a j<0:=by
    have:=bJ Xv (show 0 < - V q by grind);rw[al];grind
   have cj:=AW gH gQ ku kl pu pl;have sup:∀i,i<k->u i=0->-lo.a j*uo J up i+up.a j*uo J lo i=0:=fun i hi e=>by
    rw[wu i hi,wl i hi,(h1 p hp).2 i hi e,(h1 q hq).2 i hi e];grind
   have Uu:∀i,i<k->u i=0->uo J up i+uo J lo i=0:=fun i hi e=>by
    rw[wu i hi,wl i hi,(h1 p hp).2 i hi e,(h1 q hq).2 i hi e];grind
   obtain⟨l,l0,hl⟩:=hu.alone _ cj sup;have hcnt:=Ao (k:=k) Uu;obtain⟨r,hr,hd⟩:=P.join up gH lo gQ pu pl (by omega);obtain⟨μ,mp,_,_,ew⟩:=hd.ex;have lp:0<l:=by
    rcases Rat.le_iff_lt_or_eq.mp l0 with h|h
    ·exact h
    ·exfalso;obtain⟨i,hi,hj,hp⟩:=S.pos up gH ku;have e:=hl i hi;rw[<- h]at e;have a:=bJ (show 0 < -lo.a j by grind) hp;have b:=d9 (le_of_lt pu) (S.nn lo gQ kl i hi hj);unfold uo at e;rw[if_pos hj,if_pos hj]at e;grind
   refine⟨r,hr,Sk hd,μ*l,bJ mp lp,fun i hi hj=>?_⟩;have e:=hl i hi;unfold uo at e;rw[if_pos hj,if_pos hj]at e;rw[ew i,e];grind
structure Wo (q r r':Rw) (j:Nat):Prop where
 kd:r'.kd=r.kd
 ex:∃μ:Rat,0<μ/\(∀c,r'.a c=μ*(r.a c-r.a j/q.a j*q.a c))/\r'.b=μ*(r.b-r.a j/q.a j*q.b)/\∀i,r'.w i=μ*(r.w i-r.a j/q.a j*q.w i)
variable {R:List Rw} in
structure Eo (j:Nat) (q:Rw) (R R':List Rw):Prop where
 mem:q∈R
 eq:q.kd=.eq
 ne:q.a j≠0
 gx:∀r'∈R',∃r∈R,Wo q r r' j
 to:∀r∈R,r≠q->∃r'∈R',Wo q r r' j
variable {R:List Rw} {St:Nat->Bool} in
theorem Sg.RA{q:Rw}(S:Sg n k j J St E B β R)(hj:j<n)(G:Eo j q R R'):
  Sg n k (j+1) J St E (fun i c=>B i c-B i j/q.a j*q.a c) (fun i=>β i-B i j/q.a j*q.b) R':=by
 have q0:∀i,i<k->J i=true->q.w i=0:=S.xq q G.mem G.eq;have wu:∀{r r':Rw} {μ:Rat},(∀i,r'.w i=μ*(r.w i-r.a j/q.a j*q.w i))->∀i,i<k->uo J r' i=μ*uo J r i:=by
  intro r r' μ h i hi;unfold uo;by_cases hj:J i=true
  ·rw[if_pos hj,if_pos hj,h i,q0 i hi hj];grind
  ·rw[if_neg hj,if_neg hj];grind
 have ww:∀{r r':Rw} {μ:Rat},(∀i,r'.w i=μ*(r.w i-r.a j/q.a j*q.w i))->∀i,i<k->J i=true->r'.w i=μ*r.w i:=by
  intro r r' μ h i hi hj;rw[h i,q0 i hi hj];grind
 refine⟨by omega,fun r' cO c hc=>?_,fun c hc=>?_,fun r' cO hk i hi hj=>?_,fun r' cO hk i hi hj=>?_,fun r' cO hk=>?_,fun r' cO hk=>?_,fun r' cO hk c hc=>?_,fun r' cO hk=>?_,fun u hu=>?_⟩
 ·obtain⟨r,hr,W⟩:=G.gx r' cO;obtain⟨μ,_,ea,_⟩:=W.ex;rw[ea c];by_cases e:c=j
  ·rw[e];have:r.a j/q.a j*q.a j=r.a j:=by have:=G.ne;grind
   rw[this];grind
  ·rw[S.zero r hr c (by omega),S.zero q G.mem c (by omega)];grind
 ·have:=S.ej c hc;omega
 ·obtain⟨r,hr,W⟩:=G.gx r' cO;obtain⟨μ,mp,ea,eb,ew⟩:=W.ex;rw[ww ew i hi hj,S.xq r hr (by rw[<- W.kd];exact hk) i hi hj];grind
 ·obtain⟨r,hr,W⟩:=G.gx r' cO;obtain⟨μ,mp,ea,eb,ew⟩:=W.ex;rw[ww ew i hi hj];exact d9 (le_of_lt mp) (S.nn r hr (by rw[<- W.kd];exact hk) i hi hj)
 ·obtain⟨r,hr,W⟩:=G.gx r' cO;obtain⟨μ,mp,ea,eb,ew⟩:=W.ex;obtain⟨i,hi,hj,hp⟩:=S.pos r hr (by rw[<- W.kd];exact hk);exact⟨i,hi,hj,by rw[ww ew i hi hj];exact bJ mp hp⟩
 ·obtain⟨r,hr,W⟩:=G.gx r' cO;obtain⟨μ,mp,ea,eb,ew⟩:=W.ex;rw[W.kd,S.st r hr (by rw[<- W.kd];exact hk)];constructor
  ·rintro⟨i,hi,hj,hs,hp⟩;exact⟨i,hi,hj,hs,by rw[ww ew i hi hj];exact bJ mp hp⟩
  ·rintro⟨i,hi,hj,hs,hp⟩;refine⟨i,hi,hj,hs,?_⟩;rw[ww ew i hi hj]at hp;have nn:=S.nn r hr (by rw[<- W.kd];exact hk) i hi hj;by_cases c:0<r.w i
   ·exact c
   ·have:r.w i=0:=by grind
    rw[this]at hp;grind
 ·obtain⟨r,hr,W⟩:=G.gx r' cO;obtain⟨μ,mp,ea,eb,ew⟩:=W.ex;have kZ:r.kd≠.eq:=by rw[<- W.kd];exact hk
  rw[ea c,S.va r hr kZ c hc,S.va r hr kZ j (by omega)];rw[aO (f:=fun i=>uo J r' i*(B i c-B i j/q.a j*q.a c)) (g:=fun i=>μ*(uo J r i*B i c)+(-(μ/q.a j*q.a c))*(uo J r i*B i j)) (fun i hi=>by rw[wu ew i hi];grind)];rw[dW,bE,bE];grind
 ·obtain⟨r,hr,W⟩:=G.gx r' cO;obtain⟨μ,mp,ea,eb,ew⟩:=W.ex;have kZ:r.kd≠.eq:=by rw[<- W.kd];exact hk
  rw[eb,S.vb r hr kZ,S.va r hr kZ j (by omega)];rw[aO (f:=fun i=>uo J r' i*(β i-B i j/q.a j*q.b)) (g:=fun i=>μ*(uo J r i*β i)+(-(μ/q.a j*q.b))*(uo J r i*B i j)) (fun i hi=>by rw[wu ew i hi];grind)];rw[dW,bE,bE];grind
 ·have same:∀v,jI k (fun i=>J i=true) E (fun i c=>B i c-B i j/q.a j*q.a c) v↔jI k (fun i=>J i=true) E B v:=by
   intro v;have e:∀c∈E,(sm k fun i=>v i*(B i c-B i j/q.a j*q.a c))=sm k fun i=>v i*B i c:=fun c hc=>by
    rw[S.zero q G.mem c (S.ej c hc)];exact aO fun i _=>by grind
   exact⟨fun h=>⟨h.nn,h.off,fun c hc=>by rw[<- e c hc];exact h.nR c hc⟩,fun h=>⟨h.nn,h.off,fun c hc=>by rw[e c hc];exact h.nR c hc⟩⟩
  obtain⟨r,hr,hk,c,hc,hw⟩:=S.all u ⟨(same u).mp hu.i8,hu.ne,fun v hv=>hu.alone v ((same v).mpr hv)⟩;obtain⟨r',cO,W⟩:=G.to r hr (fun e=>hk (by rw[e];exact G.eq));obtain⟨μ,mp,ea,eb,ew⟩:=W.ex;exact⟨r',cO,by rw[W.kd];exact hk,μ*c,bJ mp hc,fun i hi hj=>by rw[ww ew i hi hj,hw i hi hj];grind⟩
def rest (n:Nat) (r:Rw) (x:Nat->Rat) (j:Nat):Rat:=sm (n+1) fun c=>if c=j then 0 else r.a c*x c
def Nm (n:Nat) (r:Rw) (x:Nat->Rat) (j:Nat):Rat:=(r.b-rest n r x j)/r.a j
theorem om(hj:j<=n):vl n r x=rest n r x j+r.a j*x j:=yw (by omega)
def put (x:Nat->Rat) (j:Nat) (v:Rat):Nat->Rat:=fun c=>if c=j then v else x c
variable {v:Rat}
theorem Ih:rest n r (put x j v) j=rest n r x j:=aO fun c _=>by
 unfold put;split<;>rfl
theorem nQ(hj:j<=n):vl n r (put x j v)=rest n r x j+r.a j*v:=by
 rw[om hj,Ih];unfold put;rw[if_pos rfl]
theorem F4(h:r.a j=0):rest n r x j=vl n r x:=aO fun c _=>by
 by_cases e:c=j
 ·rw[if_pos e,e,h];grind
 ·rw[if_neg e]
theorem zQ(hj:j<=n)(h:r.a j=0):Hd n (put x j v) r↔Hd n x r:=by
 unfold Hd;rw[nQ hj,h,F4 h,show vl n r x+0*v=vl n r x by grind]
theorem tv(h:r.a j≠0):r.b=rest n r x j+r.a j*Nm n r x j:=by unfold Nm;grind
theorem Dh(hj:j<=n)(h:0<r.a j):vl n r (put x j v)<=r.b↔v<=Nm n r x j:=by
 rw[nQ hj,tv (n:=n) (x:=x) (j:=j) (r:=r) (by grind)];constructor
 ·intro z;have z':r.a j*v<=r.a j*Nm n r x j:=by grind
  exact Rat.le_of_mul_le_mul_left z' h
 ·intro z;have:=Rat.mul_le_mul_of_nonneg_left z (le_of_lt h);grind
theorem Dg(hj:j<=n)(h:0<r.a j):vl n r (put x j v)<r.b↔v<Nm n r x j:=by
 rw[nQ hj,tv (n:=n) (x:=x) (j:=j) (r:=r) (by grind)];constructor
 ·intro z;have z':r.a j*v<r.a j*Nm n r x j:=by grind
  exact Rat.lt_of_mul_lt_mul_left z' (le_of_lt h)
 ·intro z;have:=bJ h (show 0<Nm n r x j-v by grind);grind
theorem lo_le(hj:j<=n)(h:r.a j<0):vl n r (put x j v)<=r.b↔Nm n r x j<=v:=by
 rw[nQ hj,tv (n:=n) (x:=x) (j:=j) (r:=r) (by grind)];constructor
 ·intro z;have z': -r.a j*Nm n r x j<=-r.a j*v:=by grind
  exact Rat.le_of_mul_le_mul_left z' (by grind)
 ·intro z;have:=Rat.mul_le_mul_of_nonneg_left z (show 0<=-r.a j by grind);grind
theorem DM(hj:j<=n)(h:r.a j<0):vl n r (put x j v)<r.b↔Nm n r x j<v:=by
 rw[nQ hj,tv (n:=n) (x:=x) (j:=j) (r:=r) (by grind)];constructor
 ·intro z;have z': -r.a j*Nm n r x j < -r.a j*v:=by grind
  exact Rat.lt_of_mul_lt_mul_left z' (by grind)
 ·intro z;have:=bJ (show 0 < -r.a j by grind) (show 0<v-Nm n r x j by grind);grind
theorem oZ(hj:j<=n)(h:r.a j≠0):vl n r (put x j v)=r.b↔v=Nm n r x j:=by
 rw[nQ hj,tv (n:=n) (x:=x) (j:=j) (r:=r) h];constructor
 ·intro z;have z':r.a j*(v-Nm n r x j)=0:=by grind
  rcases mul_eq_zero.mp z' with e|e
  ·exact absurd e h
  ·grind
 ·intro z;rw[z]
def isUp (r:Rw) (j:Nat):Prop:=0<r.a j\/(r.a j<0/\r.kd=.eq)
def oO (r:Rw) (j:Nat):Prop:=r.a j<0\/(0<r.a j/\r.kd=.eq)
variable {R:List Rw} in
structure Top (n:Nat) (R:List Rw) (x:Nat->Rat) (j:Nat) (g:Option (Bool×Rat)):Prop where
 none:g=none->∀r∈R,¬isUp r j
 some:∀s v,g=some (s,v)->(∃r∈R,isUp r j/\v=Nm n r x j/\(s=true->r.kd=.lt))/\∀r∈R,isUp r j->v<=Nm n r x j/\(r.kd=.lt->Nm n r x j=v->s=true)
variable {R:List Rw} in
structure Qq (n:Nat) (R:List Rw) (x:Nat->Rat) (j:Nat) (g:Option (Bool×Rat)):Prop where
 none:g=none->∀r∈R,¬oO r j
 some:∀s v,g=some (s,v)->(∃r∈R,oO r j/\v=Nm n r x j/\(s=true->r.kd=.lt))/\∀r∈R,oO r j->Nm n r x j<=v/\(r.kd=.lt->Nm n r x j=v->s=true)
def gI (least J5:Option Rat):Rat:=match least,J5 with
 |none,none=>0
 |some l,none=>l+1
 |none,some g=>g-1
 |some l,some g=>(l+g)/2
variable {R:List Rw} {St:Nat->Bool} in
theorem FN{up lo:Rw}(S':Sg n k (j+1) J St (j::E) B β R')(S:Sg n k j J St E B β R)(hj:j<n)(P:Pairs k J j (E.length+2) R R')(hx:∀r∈R',Hd n x r)(hu:up∈R)(hl:lo∈R)(pu:0<up.a j)(pl:lo.a j<0):
  Nm n lo x j<=Nm n up x j/\(up.kd=.lt\/lo.kd=.lt->Nm n lo x j<Nm n up x j):=by
 have ku:up.kd≠.eq:=fun e=>by have:=P.oJ up hu e;grind
 have kl:lo.kd≠.eq:=fun e=>by have:=P.oJ lo hl e;grind
 have cu:=qW S hu ku;have cl:=qW S hl kl;have cj:jI k (fun i=>J i=true) (j::E) B (fun i=>-lo.a j*uo J up i+up.a j*uo J lo i):=by
  refine⟨fun i hi=>?_,fun i hi h=>?_,fun c hc=>?_⟩
  ·have a:=d9 (show 0<=-lo.a j by grind) (cu.nn i hi);have b:=d9 (le_of_lt pu) (cl.nn i hi);grind
  ·rw[cu.off i hi h,cl.off i hi h];grind
  ·have e:sm k (fun i=>(-lo.a j*uo J up i+up.a j*uo J lo i)*B i c)=-lo.a j*sm k (fun i=>uo J up i*B i c)+up.a j*sm k (fun i=>uo J lo i*B i c):=by
    rw[<- bE,<- bE,<- dW];exact aO fun i _=>by grind
   rw[e];rcases mem_cons.mp hc with h|h
   ·subst h;rw[<- S.va up hu ku c (by omega),<- S.va lo hl kl c (by omega)];grind
   ·rw[cu.nR c h,cl.nR c h];grind
 obtain⟨h1,h2⟩:=E9 S' (fun r hr _=>hx r hr) cj;rw[HI,AK (S.va up hu ku) (S.vb up hu ku),AK (S.va lo hl kl) (S.vb lo hl kl)]at h1 h2;have bu:=tv (n:=n) (x:=x) (r:=up) (j:=j) (by grind);have bl:=tv (n:=n) (x:=x) (r:=lo) (j:=j) (by grind);have vu:=om (n:=n) (j:=j) (r:=up) (x:=x) (by omega);have vo:=om (n:=n) (j:=j) (r:=lo) (x:=x) (by omega);have key: -lo.a j*(vl n up x-up.b)+up.a j*(vl n lo x-lo.b)=(-lo.a j*up.a j)*(Nm n lo x j-Nm n up x j):=by
  rw[vu,vo,bu,bl];grind
 have pp:0 < -lo.a j*up.a j:=bJ (by grind) pu;rw[key]at h1 h2;constructor
 ·by_cases c:Nm n lo x j<=Nm n up x j
  ·exact c
  ·have:=bJ pp (show 0<Nm n lo x j-Nm n up x j by grind);grind
 ·intro hs;have rW:∃i,i<k/\St i=true/\0 < -lo.a j*uo J up i+up.a j*uo J lo i:=by
   rcases hs with hs|hs
   ·obtain⟨i,hi,Gz,hst,hp⟩:=(S.st up hu ku).mp hs;refine⟨i,hi,hst,?_⟩;have a:=bJ (show 0 < -lo.a j by grind) hp;have b:=d9 (le_of_lt pu) (cl.nn i hi);unfold uo at b ⊢;rw[if_pos Gz]at b ⊢;rw[if_pos Gz];grind
   ·obtain⟨i,hi,Gz,hst,hp⟩:=(S.st lo hl kl).mp hs;refine⟨i,hi,hst,?_⟩;have a:=d9 (show 0<=-lo.a j by grind) (cu.nn i hi);have b:=bJ pu hp;unfold uo at a ⊢;rw[if_pos Gz]at a ⊢;rw[if_pos Gz];grind
  have h3:=h2 rW;by_cases c:Nm n lo x j<Nm n up x j
  ·exact c
  ·have:=d9 (le_of_lt pp) (show 0<=Nm n lo x j-Nm n up x j by grind);grind
def jf (g:Option (Bool×Rat)):Option Rat:=g.map (·.2)
variable {R:List Rw} {St:Nat->Bool} in
theorem GV{g l:Option (Bool×Rat)}(S':Sg n k (j+1) J St (j::E) B β R')(S:Sg n k j J St E B β R)(hj:j<n)(P:Pairs k J j (E.length+2) R R')(hx:∀r∈R',Hd n x r)(hg:Top n R x j g)(hl:Qq n R x j l):
  ∀r∈R,Hd n (put x j (gI (jf l) (jf g))) r:=by
 have room:=fun{up lo:Rw}=>FN (up:=up) (lo:=lo) S' S hj P hx;have kq:∀{r:Rw},r∈R->r.a j≠0->r.kd≠.eq:=fun hr h e=>h (P.oJ _ hr e);have Vv:∀{r:Rw},r∈R->isUp r j->0<r.a j:=fun hr h=>h.elim id fun z=>absurd z.2 (kq hr (by have:=z.1;grind));have VO:∀{r:Rw},r∈R->oO r j->r.a j<0:=fun hr h=>h.elim id fun z=>absurd z.2 (kq hr (by have:=z.1;grind));intro r hr;by_cases h0:r.a j=0
 ·obtain⟨r',cO,e⟩:=P.keep r hr h0;rw[zQ (by omega) h0,<- e];exact hx r' cO
 ·have hk:=kq hr h0;by_cases hp:0<r.a j
  ·
   have goal:∀v:Rat,(v<=Nm n r x j)->(r.kd=.lt->v<Nm n r x j)->Hd n (put x j v) r:=by
    intro v h1 h2;unfold Hd;cases e:r.kd with
    |eq=>exact absurd e hk
    |le=>exact(Dh (by omega) hp).mpr h1
    |lt=>exact(Dg (by omega) hp).mpr (h2 e)
   cases eg:g with
   |none=>exact absurd (.inl hp) (hg.none eg r hr)
   |some gv=>
    obtain⟨sg,v⟩:=gv;obtain⟨_,g2⟩:=hg.some sg v eg;obtain⟨g3,g4⟩:=g2 r hr (.inl hp);cases el:l with
    |none=>
     have:gI (jf none) (jf (some (sg,v)))=v-1:=rfl;rw[this];exact goal _ (by grind) (fun _=>by grind)
    |some lv=>
     obtain⟨sl,v'⟩:=lv;obtain⟨⟨lo,gQ,VT,elo,_⟩,_⟩:=hl.some sl v' el;obtain⟨r1,r2⟩:=room hr gQ hp (VO gQ VT);have:gI (jf (some (sl,v'))) (jf (some (sg,v)))=(v'+v)/2:=rfl;rw[this];exact goal _ (by grind) (fun e=>by have:=r2 (.inl e);grind)
  ·have hn:r.a j<0:=by grind
   have goal:∀v:Rat,(Nm n r x j<=v)->(r.kd=.lt->Nm n r x j<v)->Hd n (put x j v) r:=by
    intro v h1 h2;unfold Hd;cases e:r.kd with
    |eq=>exact absurd e hk
    |le=>exact(lo_le (by omega) hn).mpr h1
    |lt=>exact(DM (by omega) hn).mpr (h2 e)
   cases el:l with
   |none=>exact absurd (.inl hn) (hl.none el r hr)
   |some lv=>
    obtain⟨sl,v'⟩:=lv;obtain⟨_,l2⟩:=hl.some sl v' el;obtain⟨l3,l4⟩:=l2 r hr (.inl hn);cases eg:g with
    |none=>
     have:gI (jf (some (sl,v'))) (jf none)=v'+1:=rfl;rw[this];exact goal _ (by grind) (fun _=>by grind)
    |some gv=>
     obtain⟨sg,v⟩:=gv;obtain⟨⟨up,gH,VS,eup,_⟩,_⟩:=hg.some sg v eg;obtain⟨r1,r2⟩:=room gH hr (Vv gH VS) hn;have:gI (jf (some (sl,v'))) (jf (some (sg,v)))=(v'+v)/2:=rfl;rw[this];exact goal _ (by grind) (fun e=>by have:=r2 (.inr e);grind)
variable {R:List Rw} in
theorem GW{q:Rw}{g l:Option (Bool×Rat)}(hj:j<=n)(G:Eo j q R R')(hx:∀r∈R',Hd n x r)(h0:∀r∈R',r.a j=0)(hg:Top n R x j g)(hl:Qq n R x j l):
  ∀r∈R,Hd n (put x j (gI (jf l) (jf g))) r:=by

 have at':∀r∈R,Hd n (put x j (Nm n q x j)) r:=by
  intro r hr;have hq:vl n q (put x j (Nm n q x j))=q.b:=(oZ hj G.ne).mpr rfl;by_cases e:r=q
  ·rw[e];unfold Hd;rw[G.eq];exact hq
  ·obtain⟨r',cO,W⟩:=G.to r hr e;have hd:=(zQ (n:=n) (x:=x) (v:=Nm n q x j) hj (h0 r' cO)).mpr (hx r' cO);obtain⟨μ,mp,ea,eb,_⟩:=W.ex;generalize put x j (Nm n q x j)=y at hd hq ⊢;have ev:vl n r' y=μ*(vl n r y-r.a j/q.a j*vl n q y):=by
    unfold vl;rw[aO (g:=fun c=>μ*(r.a c*y c)+(-(μ*(r.a j/q.a j)))*(q.a c*y c)) (fun c _=>by rw[ea c];grind),dW,bE,bE];grind
   unfold Hd at hd ⊢;rw[W.kd,ev,eb,hq]at hd;have mi:0<μ⁻¹:=inv_pos.mpr mp;cases hk:r.kd with
   |eq=>
    rw[hk]at hd;have dM:μ*(vl n r y-r.a j/q.a j*q.b)=μ*(r.b-r.a j/q.a j*q.b):=hd;have:μ*(vl n r y-r.b)=0:=by grind
    show vl n r y=r.b;rcases mul_eq_zero.mp this with z|z<;>grind
   |le=>
    rw[hk]at hd;have dM:μ*(vl n r y-r.a j/q.a j*q.b)<=μ*(r.b-r.a j/q.a j*q.b):=hd;have:=Rat.le_of_mul_le_mul_left dM mp;show vl n r y<=r.b;grind
   |lt=>
    rw[hk]at hd;have dM:μ*(vl n r y-r.a j/q.a j*q.b)<μ*(r.b-r.a j/q.a j*q.b):=hd;have:=Rat.lt_of_mul_lt_mul_left dM (le_of_lt mp);show vl n r y<r.b;grind
 have qu:isUp q j:=by
  have:=G.ne;by_cases c:0<q.a j
  ·exact .inl c
  ·exact .inr ⟨by grind,G.eq⟩
 have ql:oO q j:=by
  have:=G.ne;by_cases c:q.a j<0
  ·exact .inl c
  ·exact .inr ⟨by grind,G.eq⟩
 have Xa:∀r∈R,isUp r j->Nm n q x j<=Nm n r x j:=by
  intro r hr hu;have h:=at' r hr;unfold Hd at h;rcases hu with hp|⟨hn,he⟩
  ·cases hk:r.kd with
   |eq=>rw[hk]at h;have:=(oZ hj (by grind)).mp h;grind
   |le=>rw[hk]at h;exact(Dh hj hp).mp h
   |lt=>rw[hk]at h;exact le_of_lt ((Dg hj hp).mp h)
  ·rw[he]at h;have:=(oZ hj (by grind)).mp h;grind
 have VP:∀r∈R,oO r j->Nm n r x j<=Nm n q x j:=by
  intro r hr hu;have h:=at' r hr;unfold Hd at h;rcases hu with hp|⟨hn,he⟩
  ·cases hk:r.kd with
   |eq=>rw[hk]at h;have:=(oZ hj (by grind)).mp h;grind
   |le=>rw[hk]at h;exact(lo_le hj hp).mp h
   |lt=>rw[hk]at h;exact le_of_lt ((DM hj hp).mp h)
  ·rw[he]at h;have:=(oZ hj (by grind)).mp h;grind
 have eb:gI (jf l) (jf g)=Nm n q x j:=by
  cases eg:g with
  |none=>exact absurd qu (hg.none eg q G.mem)
  |some gv=>
   obtain⟨sg,v⟩:=gv;obtain⟨⟨r,hr,iu,ev,_⟩,g2⟩:=hg.some sg v eg;have a1:=(g2 q G.mem qu).1;have a2:=Xa r hr iu;cases el:l with
   |none=>exact absurd ql (hl.none el q G.mem)
   |some lv=>
    obtain⟨sl,v'⟩:=lv;obtain⟨⟨r',cO,il,ev',_⟩,l2⟩:=hl.some sl v' el;have b1:=(l2 q G.mem ql).1;have b2:=VP r' cO il;show(v'+v)/2=_;grind
 rw[eb];exact at'
abbrev Row:=Kn×List Int
def ent (r:Row) (c:Nat):Int:=r.2.getD c 0
def lowG (l:List Int):Nat:=l.foldl (fun g x=>Nat.gcd g x.natAbs) 0
def lowered (l:List Int):List Int:=l.map fun x=>x.fdiv (lowG l:Int)
def fQ (one:List Int) (bO:Int) (other:List Int) (more:Int):List Int:=zipWith (fun a b=>bO*a+more*b) one other
def mixed (one:List Int) (bO:Int) (other:List Int) (more:Int):List Int:=lowered (fQ one bO other more)
def wo (equal:Row) (j:Nat) (r:Row):Row:=(r.1,mixed r.2 ((ent equal j).natAbs:Int) equal.2 (if 0<ent equal j then -ent r j else ent r j))
def joined (j:Nat) (up lo:Row):Row:=(if up.1=.lt\/lo.1=.lt then .lt else .le,mixed up.2 (-ent lo j) lo.2 (ent up j))
def drawn (aC:List Nat) (up lo:Row):Nat:=(aC.filter fun p=>decide (ent up p≠0\/ent lo p≠0)).length
def ins (l:List Row) (r:Row):List Row:=if r∈l then l else l++[r]
def pairsOf (j:Nat) (aC:List Nat) (most:Nat) (rows:List Row):List Row:=
 (rows.filter fun r=>decide (0<ent r j)).flatMap fun up=>((rows.filter fun r=>decide (ent r j<0)).filter fun lo=>decide (drawn aC up lo<=most)).map fun lo=>joined j up lo
def paired (j:Nat) (aC:List Nat) (most:Nat) (rows:List Row):List Row:=(rows.filter (fun r=>decide (ent r j=0))++pairsOf j aC most rows).foldl ins []
def ey (j:Nat) (rows:List Row):Option Row:=rows.find? fun r=>decide (r.1=.eq/\ent r j≠0)
def cX (aC:List Nat) (j most:Nat) (rows:List Row):List Row:=match ey j rows with
 |none=>paired j aC (most+1) rows
 |some q=>(rows.filter fun r=>decide (r≠q)).map (wo q j)
def iL (j most:Nat) (rows:List Row):Nat:=match ey j rows with
 |none=>most+1
 |some _=>most
def lL (aC:List Nat):Nat->Nat->Nat->List Row->List (List Row)
 |0,_,_,rows=>[rows]
 |m+1,j,most,rows=>rows::lL aC m (j+1) (iL j most rows) (cX aC j most rows)
def aD (n:Nat) (r:Row):Rw:=⟨r.1,fun c=>(ent r c:Rat),(ent r (n+1):Rat),fun i=>(ent r (n+2+i):Rat)⟩
theorem C7:∀(l:List Int) (g:Nat),(∀x∈l,(l.foldl (fun g x=>Nat.gcd g x.natAbs) g)∣x.natAbs)/\(l.foldl (fun g x=>Nat.gcd g x.natAbs) g)∣g
 |[],g=>⟨fun x hx=>by simp at hx,Nat.dvd_refl g⟩
 |y::l,g=>by
  obtain⟨h1,h2⟩:=C7 l (Nat.gcd g y.natAbs);rw[foldl_cons];refine⟨fun x hx=>?_,dvd_trans h2 (Nat.gcd_dvd_left _ _)⟩;rcases mem_cons.mp hx with e|h
  ·rw[e];exact dvd_trans h2 (Nat.gcd_dvd_right _ _)
  ·exact h1 x h
variable {l:List Int}
theorem my{x:Int}(h:x∈l):(lowG l:Int)∣x:=Int.ofNat_dvd_left.mpr ((C7 l 0).1 x h)
theorem sY{x:Int}(h:x∈l)(hx:x≠0):0<lowG l:=by
 rcases Nat.eq_zero_or_pos (lowG l)with e|e
 ·have:=my h;rw[e]at this;exact absurd (Int.zero_dvd.mp this) hx
 ·exact e
theorem GO{f:Int->Int}(f0:f 0=0)(l:List Int)(c:Nat):(l.map f).getD c 0=f (l.getD c 0):=by
 rw[getD_eq_getElem?_getD,getD_eq_getElem?_getD,getElem?_map];cases l[c]? with
 |none=>exact f0.symm
 |some x=>rfl
variable {c:Nat}
theorem mem_getD(h:l.getD c 0≠0):l.getD c 0∈l:=by
 rw[getD_eq_getElem?_getD]at h ⊢;cases e:l[c]? with
 |none=>rw[e]at h;exact absurd rfl h
 |some x=>exact mem_of_getElem? e
theorem AS(hp:0<lowG l)(c:Nat):((lowered l).getD c 0:Rat)=(lowG l:Rat)⁻¹*(l.getD c 0:Rat):=by
 have f0:(0:Int).fdiv (lowG l:Int)=0:=Int.zero_fdiv _;unfold lowered;rw[GO f0];by_cases e:l.getD c 0=0
 ·rw[e,f0];grind
 ·obtain⟨q,hq⟩:=my (mem_getD e);have g0:(lowG l:Int)≠0:=by omega
  have e2:(l.getD c 0).fdiv (lowG l:Int)=q:=by rw[hq,mul_comm,Int.mul_fdiv_cancel _ g0]
  rw[e2,hq,intCast_mul];have g1:((lowG l:Int):Rat)≠0:=fun z=>g0 (Rat.intCast_eq_zero_iff.mp z);have g2:((lowG l:Int):Rat)=(lowG l:Rat):=rfl;rw[g2]at g1 ⊢;grind
theorem rV(l:List Int):(lowered l).length=l.length:=by unfold lowered;rw[length_map]
variable {other:List Int}
theorem mx{one:List Int}(h:one.length=other.length)(bO more:Int)(c:Nat):(fQ one bO other more).getD c 0=bO*one.getD c 0+more*other.getD c 0:=by
 unfold fQ;rw[getD_eq_getElem?_getD,getD_eq_getElem?_getD,getD_eq_getElem?_getD,List.getElem?_zipWith];by_cases hc:c<one.length
 ·rw[getElem?_eq_getElem hc,getElem?_eq_getElem (h▸hc)];rfl
 ·rw[List.getElem?_eq_none (by omega),List.getElem?_eq_none (by omega)];show(0:Int)=bO*0+more*0;omega
theorem IK{one:List Int}(h:one.length=other.length)(bO more:Int):(fQ one bO other more).length=one.length:=by
 unfold fQ;rw[length_zipWith];omega
theorem AU{g:Nat}(h:0<g):0<(g:Rat)⁻¹:=inv_pos.mpr (by
 have:((0:Nat):Rat)<(g:Rat):=Rat.natCast_lt_natCast.mpr h;exact this)
variable {p:Nat}
theorem wV{one:List Int}(h:one.length=other.length){bO more:Int}(hp:bO*one.getD p 0+more*other.getD p 0≠0):
  ∃μ:Rat,0<μ/\∀c,((mixed one bO other more).getD c 0:Rat)=μ*((bO:Rat)*(one.getD c 0:Rat)+(more:Rat)*(other.getD c 0:Rat)):=by
 have e:=mx h bO more p;have hg:0<lowG (fQ one bO other more):=sY (mem_getD (by rw[e];exact hp)) (by rw[e];exact hp);refine⟨_,AU hg,fun c=>?_⟩;unfold mixed;rw[AS hg,mx h,Rat.intCast_add,intCast_mul,intCast_mul]
theorem nj{one:List Int}(h:one.length=other.length)(bO more:Int):(mixed one bO other more).length=one.length:=by
 unfold mixed;rw[rV,IK h]
variable {r:Row}
theorem Mh{l:List Row}{x:Row}:x∈ins l r↔x∈l\/x=r:=by
 unfold ins;split
 ·rename_i h;exact⟨.inl,fun z=>z.elim id fun e=>by rw[e];exact h⟩
 ·rw[mem_append,mem_singleton]
theorem uC{x:Row}:∀{M l:List Row},x∈M.foldl ins l↔x∈l\/x∈M
 |[],l=>by simp
 |r::M,l=>by
  rw[foldl_cons,uC,Mh,mem_cons];grind
variable {most:Nat} {rows:List Row}
theorem i4{aC:List Nat}{x:Row}:x∈paired j aC most rows↔(x∈rows/\ent x j=0)\/∃up∈rows,∃lo∈rows,0<ent up j/\ent lo j<0/\drawn aC up lo<=most/\x=joined j up lo:=by
 unfold paired pairsOf;rw[uC,mem_append,mem_filter,List.mem_flatMap];constructor
 ·rintro(h|h|⟨up,hu,hx⟩)
  ·simp at h
  ·exact .inl ⟨h.1,by simpa using h.2⟩
  ·obtain⟨zH,OO⟩:=mem_filter.mp hu;obtain⟨lo,hl,e⟩:=mem_map.mp hx;obtain⟨zN,rZ⟩:=mem_filter.mp hl;obtain⟨Wi,Wh⟩:=mem_filter.mp zN;exact .inr ⟨up,zH,lo,Wi,by simpa using OO,by simpa using Wh,by simpa using rZ,e.symm⟩
 ·rintro(⟨h1,h2⟩|⟨up,hu,lo,hl,pu,pl,hd,e⟩)
  ·exact .inr (.inl ⟨h1,by simpa using h2⟩)
  ·exact .inr (.inr ⟨up,mem_filter.mpr ⟨hu,by simpa using pu⟩,mem_map.mpr ⟨lo,mem_filter.mpr ⟨mem_filter.mpr ⟨hl,by simpa using pl⟩,by simpa using hd⟩,e.symm⟩⟩)
variable {a:Int}
theorem iN:(0:Rat)<(a:Rat)↔0<a:=by
 have:((0:Int):Rat)<(a:Rat)↔0<a:=Rat.intCast_lt_intCast;exact this
theorem qt:(a:Rat)<0↔a<0:=by
 have:(a:Rat)<((0:Int):Rat)↔a<0:=Rat.intCast_lt_intCast;exact this
theorem bN:(a:Rat)=0↔a=0:=Rat.intCast_eq_zero_iff
def cB (n k:Nat) (J:Nat->Bool):List Nat:=((List.range k).filter fun i=>J i).map fun i=>n+2+i
theorem He{up lo:Row}(hu:∀i,i<k->J i=true->0<=(aD n up).w i)(hl:∀i,i<k->J i=true->0<=(aD n lo).w i):
  drawn (cB n k J) up lo=cnt k (fun i=>uo J (aD n up) i+uo J (aD n lo) i):=by
 unfold drawn cB;rw[List.filter_map,length_map,List.filter_filter];induction k with
 |zero=>rfl
 |succ k ih=>
  rw[range_succ,List.filter_append,length_append,ih (fun i hi=>hu i (by omega)) (fun i hi=>hl i (by omega))];show _=cnt k _+_;congr 1
  by_cases hj:J k=true
  ·have a:=hu k (by omega) hj;have b:=hl k (by omega) hj;have e0:uo J (aD n up) k+uo J (aD n lo) k=(ent up (n+2+k):Rat)+(ent lo (n+2+k):Rat):=by
    unfold uo;rw[if_pos hj,if_pos hj];rfl
   have a':0<=(ent up (n+2+k):Rat):=a;have b':0<=(ent lo (n+2+k):Rat):=b;by_cases e:ent up (n+2+k)≠0\/ent lo (n+2+k)≠0
   ·rw[if_neg,List.filter_cons_of_pos (by simp[hj];exact e)]
    ·simp
    ·show ¬uo J (aD n up) k+uo J (aD n lo) k=0;rw[e0];intro z;have z1:(ent up (n+2+k):Rat)=0:=by grind
     have z2:(ent lo (n+2+k):Rat)=0:=by grind
     exact e.elim (fun h=>h (bN.mp z1)) (fun h=>h (bN.mp z2))
   ·have h1:ent up (n+2+k)=0:=by
     apply Classical.byContradiction;intro z;exact e (.inl z)
    have h2:ent lo (n+2+k)=0:=by
     apply Classical.byContradiction;intro z;exact e (.inr z)
    rw[if_pos,List.filter_cons_of_neg (by simp[h1,h2])]
    ·simp
    ·show uo J (aD n up) k+uo J (aD n lo) k=0;rw[e0,h1,h2];grind
  ·rw[if_pos,List.filter_cons_of_neg (by simp[hj])]
   ·simp
   ·show uo J (aD n up) k+uo J (aD n lo) k=0;unfold uo;rw[if_neg hj,if_neg hj];grind
structure Rs (n k:Nat) (rows:List Row):Prop where
 len:∀r∈rows,r.2.length=n+2+k
 DE:∀r∈rows,r.1=.eq->∃p,ent r p≠0/\∀s∈rows,s.1=.eq->s≠r->ent s p=0
theorem Gm{up lo:Row}(hl:up.2.length=lo.2.length)(pu:0<ent up j)(pl:ent lo j<0)(hp: -ent lo j*ent up p+ent up j*ent lo p≠0):Jd (aD n up) (aD n lo) (aD n (joined j up lo)) j:=by
 refine⟨rfl,?_⟩;obtain⟨μ,mp,h⟩:=wV (bO:=-ent lo j) (more:=ent up j) hl (p:=p) hp;have h':∀c,((ent (joined j up lo) c:Int):Rat)=μ*(-(ent lo j:Rat)*(ent up c:Rat)+(ent up j:Rat)*(ent lo c:Rat)):=fun c=>by
  have:=h c;rw[Rat.intCast_neg]at this;exact this
 exact⟨μ,mp,fun c=>h' c,h' _,fun i=>h' _⟩
variable {q:Row}
theorem JO(hl:r.2.length=q.2.length)(q0:ent q j≠0)(hp:((ent q j).natAbs:Int)*ent r p+(if 0<ent q j then -ent r j else ent r j)*ent q p≠0):Wo (aD n q) (aD n r) (aD n (wo q j r)) j:=by
 refine⟨rfl,?_⟩;obtain⟨μ,mp,h⟩:=wV (bO:=((ent q j).natAbs:Int)) (more:=if 0<ent q j then -ent r j else ent r j) hl (p:=p) hp;have qn:((ent q j:Int):Rat)≠0:=fun z=>q0 (bN.mp z);have ab:(((ent q j).natAbs:Int):Rat)=if 0<ent q j then(ent q j:Rat)else -(ent q j:Rat):=by
  by_cases c:0<ent q j
  ·rw[if_pos c,show((ent q j).natAbs:Int)=ent q j by omega]
  ·rw[if_neg c,show((ent q j).natAbs:Int)=-ent q j by omega,Rat.intCast_neg]
 have ap:0<(((ent q j).natAbs:Int):Rat):=iN.mpr (by omega);have h':∀c,((ent (wo q j r) c:Int):Rat)=μ*(((ent q j).natAbs:Int):Rat)*((ent r c:Rat)-(ent r j:Rat)/(ent q j:Rat)*(ent q c:Rat)):=fun c=>by
  have e:=h c;have e2:((ent (wo q j r) c:Int):Rat)=_:=e;rw[e2,ab];show μ*((if 0<ent q j then(ent q j:Rat)else -(ent q j:Rat))*(ent r c:Rat)+((if 0<ent q j then -ent r j else ent r j:Int):Rat)*(ent q c:Rat))=_;by_cases c0:0<ent q j
  ·rw[if_pos c0,if_pos c0,Rat.intCast_neg];grind
  ·rw[if_neg c0,if_neg c0];grind
 exact⟨μ*(((ent q j).natAbs:Int):Rat),bJ mp ap,fun c=>h' c,h' _,fun i=>h' _⟩
variable {St:Nat->Bool} in
theorem yZ(hR:Rs n k rows)(S:Sg n k j J St E B β (rows.map (aD n)))(hn:ey j rows=none):
  Pairs k J j (E.length+2) (rows.map (aD n)) ((paired j (cB n k J) (E.length+2) rows).map (aD n)):=by
 have mem:∀{r:Row},r∈rows->aD n r∈rows.map (aD n):=fun h=>mem_map.mpr ⟨_,h,rfl⟩;have oJ:∀r∈rows,r.1=.eq->ent r j=0:=fun r hr he=>by
  have:=List.find?_eq_none.mp hn r hr;apply Classical.byContradiction
  intro z;exact this (by simp[he,z])
 have kq:∀{r:Row},r∈rows->ent r j≠0->(aD n r).kd≠.eq:=fun hr h e=>h (oJ _ hr e);have jd:∀{up lo:Row},up∈rows->lo∈rows->0<ent up j->ent lo j<0->Jd (aD n up) (aD n lo) (aD n (joined j up lo)) j:=by
  intro up lo hu hl pu pl;obtain⟨i,hi,hj,hp⟩:=S.pos (aD n up) (mem hu) (kq hu (by omega));have b:=S.nn (aD n lo) (mem hl) (kq hl (by omega)) i hi hj;refine Gm (by rw[hR.len up hu,hR.len lo hl]) pu pl (p:=n+2+i) ?_;have gq:0<ent up (n+2+i):=iN.mp hp;have GI:0<=ent lo (n+2+i):=by
   have b':(0:Rat)<=(ent lo (n+2+i):Rat):=b;have:((0:Int):Rat)<=(ent lo (n+2+i):Rat):=b';exact Rat.intCast_le_intCast.mp this
  have h1:=mul_pos (show 0 < -ent lo j by omega) gq;have h2:=Int.mul_nonneg (Int.le_of_lt pu) GI;omega
 refine⟨fun r hr he=>?_,fun r hr=>?_,fun r hr h0=>?_,fun up hu lo hl pu pl hc=>?_⟩
 ·obtain⟨r,cO,rfl⟩:=mem_map.mp hr;exact bN.mpr (oJ r cO he)
 ·obtain⟨r,cO,rfl⟩:=mem_map.mp hr;rcases i4.mp cO with⟨h1,h2⟩|⟨up,hu,lo,hl,pu,pl,_,rfl⟩
  ·exact .inl ⟨mem h1,bN.mpr h2⟩
  ·exact .inr ⟨aD n up,mem hu,aD n lo,mem hl,iN.mpr pu,qt.mpr pl,jd hu hl pu pl⟩
 ·obtain⟨r,cO,rfl⟩:=mem_map.mp hr;exact⟨_,mem_map.mpr ⟨r,i4.mpr (.inl ⟨cO,bN.mp h0⟩),rfl⟩,rfl⟩
 ·obtain⟨up,Gu,rfl⟩:=mem_map.mp hu;obtain⟨lo,jo,rfl⟩:=mem_map.mp hl;clear hu hl;have hu:=Gu;have hl:=jo;have S2:0<ent up j:=iN.mp pu;have S3:ent lo j<0:=qt.mp pl;refine⟨_,mem_map.mpr ⟨joined j up lo,i4.mpr (.inr ⟨up,hu,lo,hl,S2,S3,?_,rfl⟩),rfl⟩,jd hu hl S2 S3⟩;rw[He (S.nn _ (mem hu) (kq hu (by omega))) (S.nn _ (mem hl) (kq hl (by omega)))];exact hc
theorem F1(hR:Rs n k rows)(hn:ey j rows=none):Rs n k (paired j (cB n k J) most rows):=by
 have Sj:∀{r:Row},r∈paired j (cB n k J) most rows->r.1=.eq->r∈rows:=fun hr he=>by
  rcases i4.mp hr with⟨h1,h2⟩|⟨up,hu,lo,hl,pu,pl,_,e⟩
  ·exact h1
  ·rw[e]at he;unfold joined at he;dsimp only at he;split at he<;>cases he
 refine⟨fun r hr=>?_,fun r hr he=>?_⟩
 ·rcases i4.mp hr with⟨h1,h2⟩|⟨up,hu,lo,hl,pu,pl,_,e⟩
  ·exact hR.len r h1
  ·rw[e];show(mixed up.2 _ lo.2 _).length=_;rw[nj (by rw[hR.len up hu,hR.len lo hl]),hR.len up hu]
 ·obtain⟨p,h1,h2⟩:=hR.DE r (Sj hr he) he;exact⟨p,h1,fun s hs Kv cE=>h2 s (Sj hs Kv) Kv cE⟩
variable {St:Nat->Bool} in
theorem Df(hR:Rs n k rows)(S:Sg n k j J St E B β (rows.map (aD n)))(hq:q∈rows)(qe:q.1=.eq)(q0:ent q j≠0)(hr:r∈rows)(cE:r≠q):Wo (aD n q) (aD n r) (aD n (wo q j r)) j:=by
 have mem:∀{r:Row},r∈rows->aD n r∈rows.map (aD n):=fun h=>mem_map.mpr ⟨_,h,rfl⟩;have hl:r.2.length=q.2.length:=by rw[hR.len r hr,hR.len q hq]
 by_cases he:r.1=.eq
 ·obtain⟨p,h1,h2⟩:=hR.DE r hr he;refine JO hl q0 (p:=p) ?_;rw[h2 q hq qe (Ne.symm cE)];have:((ent q j).natAbs:Int)≠0:=by omega
  have:=mul_ne_zero this h1;omega
 ·obtain⟨i,hi,hj,hp⟩:=S.pos (aD n r) (mem hr) he;have hz:=S.xq (aD n q) (mem hq) qe i hi hj;refine JO hl q0 (p:=n+2+i) ?_;have zD:ent q (n+2+i)=0:=bN.mp hz;have gq:0<ent r (n+2+i):=iN.mp hp;rw[zD];have:((ent q j).natAbs:Int)≠0:=by omega
  have:=mul_ne_zero this (show ent r (n+2+i)≠0 by omega);omega
variable {St:Nat->Bool} in
theorem A0(hR:Rs n k rows)(S:Sg n k j J St E B β (rows.map (aD n)))(hq:ey j rows=some q):
  Eo j (aD n q) (rows.map (aD n)) (((rows.filter fun r=>decide (r≠q)).map (wo q j)).map (aD n)):=by
 have mem:∀{r:Row},r∈rows->aD n r∈rows.map (aD n):=fun h=>mem_map.mpr ⟨_,h,rfl⟩;have hm:=mem_of_find?_eq_some hq;have hp:=find?_some hq;have gq:q.1=.eq/\ent q j≠0:=by simpa using hp
 refine⟨mem hm,gq.1,fun z=>gq.2 (bN.mp z),fun r' cO=>?_,fun r hr cE=>?_⟩
 ·obtain⟨s,hs,rfl⟩:=mem_map.mp cO;obtain⟨r,hr,rfl⟩:=mem_map.mp hs;obtain⟨h1,h2⟩:=mem_filter.mp hr;exact⟨aD n r,mem h1,Df hR S hm gq.1 gq.2 h1 (by simpa using h2)⟩
 ·obtain⟨r,lG,rfl⟩:=mem_map.mp hr;clear hr;have hr:=lG;have DR:r≠q:=fun e=>cE (by rw[e]);exact⟨_,mem_map.mpr ⟨_,mem_map.mpr ⟨r,mem_filter.mpr ⟨hr,by simpa using DR⟩,rfl⟩,rfl⟩,Df hR S hm gq.1 gq.2 hr DR⟩
variable {St:Nat->Bool} in
theorem Ig(hR:Rs n k rows)(S:Sg n k j J St E B β (rows.map (aD n)))(hq:ey j rows=some q):Rs n k ((rows.filter fun r=>decide (r≠q)).map (wo q j)):=by
 have hm:=mem_of_find?_eq_some hq;have hp:=find?_some hq;have gq:q.1=.eq/\ent q j≠0:=by simpa using hp
 have inv:∀{s:Row},s∈(rows.filter fun r=>decide (r≠q)).map (wo q j)->∃r∈rows,r≠q/\s=wo q j r:=fun hs=>by
  obtain⟨r,hr,rfl⟩:=mem_map.mp hs;obtain⟨h1,h2⟩:=mem_filter.mp hr;exact⟨r,h1,by simpa using h2,rfl⟩
 refine⟨fun s hs=>?_,fun s hs he=>?_⟩
 ·obtain⟨r,hr,cE,rfl⟩:=inv hs;show(mixed r.2 _ q.2 _).length=_;rw[nj (by rw[hR.len r hr,hR.len q hm]),hR.len r hr]
 ·obtain⟨r,hr,cE,rfl⟩:=inv hs;obtain⟨p,h1,h2⟩:=hR.DE r hr he;have zq:=h2 q hm gq.1 (Ne.symm cE)

  have at':∀{t:Row},t∈rows->t≠q->∃μ:Rat,0<μ/\((ent (wo q j t) p:Int):Rat)=μ*(ent t p:Rat):=fun ht W2=>by
   obtain⟨μ,mp,ea,_⟩:=(Df (n:=n) hR S hm gq.1 gq.2 ht W2).ex;refine⟨μ,mp,?_⟩;have:=ea p;show(aD n (wo q j _)).a p=_;rw[this];show μ*((ent _ p:Rat)-_*(ent q p:Rat))=_;rw[zq];grind
  refine⟨p,?_,fun s' rW KG DR=>?_⟩
  ·obtain⟨μ,mp,e⟩:=at' hr cE;intro z;rw[z]at e;have e':(0:Rat)=μ*(ent r p:Rat):=e;rcases mul_eq_zero.mp e'.symm with h|h
   ·grind
   ·exact h1 (bN.mp h)
  ·obtain⟨r',cO,UT,rfl⟩:=inv rW;have OQ:r'≠r:=fun e=>DR (by rw[e]);obtain⟨μ,mp,e⟩:=at' cO UT;rw[h2 r' cO KG OQ]at e;exact bN.mp (by rw[e];grind)
def rG (r:Row):Nat->List Rat->Rat->Rat
 |_,[],acc=>acc
 |c,x::xs,acc=>rG r (c+1) xs (if ent r c≠0 then acc-(ent r c:Rat)*x else acc)
def lM (r:Row) (x:List Rat):Rat:=rG r 0 x (ent r x.length:Rat)
abbrev fz:=Bool×Rat×List Rat
def mO (j:Nat) (way:Int) (r:Row):Prop:=0<way*ent r j\/(way*ent r j<0/\r.1=.eq)
instance (j:Nat) (way:Int) (r:Row):Decidable (mO j way r):=inferInstanceAs (Decidable (_\/_))
def dE (j:Nat) (way:Int) (x:List Rat) (r:Row):Rat:=lM r x/((way*ent r j:Int):Rat)
def mY (j:Nat) (way:Int) (x:List Rat) (r:Row):List Rat:=(r.2.drop (x.length+1)).map fun(w:Int)=>(w:Rat)/((way*ent r j:Int):Rat)
def better (b:Option fz) (kd:Bool) (v:Rat):Bool:=match b with
 |none=>true
 |some b=>decide (v<b.2.1) || (decide (v=b.2.1)&&kd)
def jX (j:Nat) (way:Int) (x:List Rat) (b:Option fz) (r:Row):Option fz:=
 if mO j way r then(if better b (decide (r.1=.lt)) (dE j way x r)=true then some (decide (r.1=.lt),dE j way x r,mY j way x r)else b)else b
def c7 (rows:List Row) (j:Nat) (x:List Rat) (way:Int):Option fz:=rows.foldl (jX j way x) none
def gF (b:Option fz):Option Rat:=b.map (·.2.1)
def fZ (b:Option fz):Option Rat:=b.map fun b=>0-b.2.1
def dX (pU:List (List Row)):Nat->List Rat->List Rat
 |0,x=>x
 |m+1,x=>dX pU m (x.set m (gI (fZ (c7 (pU.getD m []) m x (-1))) (gF (c7 (pU.getD m []) m x 1))))
def dH (pU:List (List Row)) (n:Nat) (t:Rat):List Rat:=(dX pU n (List.replicate n 0++[t])).take n
def endOf (n:Nat) (rows:List Row) (way:Int):Option fz:=c7 rows n (List.replicate (n+1) 0) way
def cH:Kn->Rat->Bool
 | .eq,b=>decide (b≠0)
 | .le,b=>decide (b<0)
 | .lt,b=>decide (b<0) || decide (b=0)
def fq (n:Nat) (rows:List Row):Option (List Rat):=(rows.find? fun r=>decide (ent r n=0)&&cH r.1 (ent r (n+1):Rat)).map fun r=>
 (r.2.drop (n+2)).map fun(w:Int)=>(((if r.1=.eq/\0<ent r (n+1)then -1 else 1:Int)*w:Int):Rat)
def fD (n:Nat) (rows:List Row):Option (List Rat):=match endOf n rows 1,endOf n rows (-1)with
 |some t,some b=>if cH (if t.1=true\/b.1=true then .lt else .le) (t.2.1+b.2.1)=true then some (zipWith (fun x y=>x+y) t.2.2 b.2.2)else none
 |_,_=>none
def never (n:Nat) (rows:List Row):Option (List Rat):=match fq n rows with
 |some w=>some w
 |none=>fD n rows
def eC (n:Nat) (rows:List Row) (β:Rat):Rat:=gI (some (match fZ (endOf n rows (-1))with|none=>β|some l=>if l<β then β else l)) (gF (endOf n rows 1))
theorem zx(r:Row):∀(xs:List Rat) (c:Nat) (acc:Rat),rG r c xs acc=acc-sm xs.length (fun i=>(ent r (c+i):Rat)*xs.getD i 0)
 |[],c,acc=>by show acc=acc-0;grind
 |x::xs,c,acc=>by
  show rG r (c+1) xs _=_;rw[zx r xs (c+1)];have e:sm (xs.length+1) (fun i=>(ent r (c+i):Rat)*(x::xs).getD i 0)=(ent r c:Rat)*x+sm xs.length (fun i=>(ent r (c+1+i):Rat)*xs.getD i 0):=by
   have:∀(m:Nat) (f:Nat->Rat),sm (m+1) f=f 0+sm m (fun i=>f (i+1)):=by
    intro m f;induction m with
    |zero=>show(0:Rat)+f 0=f 0+0;grind
    |succ m ih=>show sm (m+1) f+f (m+1)=f 0+(sm m (fun i=>f (i+1))+f (m+1));rw[ih];grind
   rw[this];congr 1
   exact aO fun i _=>by
    show(ent r (c+(i+1)):Rat)*xs.getD i 0=_;rw[show c+(i+1)=c+1+i by omega]
  show _=acc-sm (xs.length+1) _;rw[e];by_cases h:ent r c=0
  ·rw[if_neg (fun z=>z h),h];grind
  ·rw[if_pos h];grind
abbrev xf (x:List Rat):Nat->Rat:=fun c=>x.getD c 0
variable {x:List Rat}
theorem zw(hx:x.length=n+1):lM r x=(aD n r).b-vl n (aD n r) (xf x):=by
 unfold lM;rw[zx,hx];show _=(ent r (n+1):Rat)-sm (n+1) (fun c=>(ent r c:Rat)*x.getD c 0);congr 1
 exact aO fun i _=>by rw[zero_add]
theorem uq(hx:x.length=n+1)(hj:j<=n)(h0:x.getD j 0=0):lM r x=(aD n r).b-rest n (aD n r) (xf x) j:=by
 rw[zw hx,om hj];show _-(_+_*x.getD j 0)=_;rw[h0];grind
structure TS (j:Nat) (way:Int) (x:List Rat) (rows:List Row) (b:Option fz):Prop where
 none:b=none->∀r∈rows,¬mO j way r
 some:∀t,b=some t->(∃r∈rows,mO j way r/\t.1=decide (r.1=.lt)/\t.2.1=dE j way x r/\t.2.2=mY j way x r)/\∀r∈rows,mO j way r->t.2.1<=dE j way x r/\(r.1=.lt->dE j way x r=t.2.1->t.1=true)
variable {way:Int}
theorem TS.step{b:Option fz}(h:TS j way x rows b)(r:Row):TS j way x (rows++[r]) (jX j way x b r):=by
 unfold jX;by_cases c:mO j way r
 ·rw[if_pos c];by_cases d:better b (decide (r.1=.lt)) (dE j way x r)=true
  ·rw[if_pos d];refine⟨(fun e=>by cases e),fun t e=>?_⟩;cases e;refine⟨⟨r,by simp,c,rfl,rfl,rfl⟩,fun s hs cs=>?_⟩;rcases mem_append.mp hs with hs|hs
   ·cases hb:b with
    |none=>exact absurd cs (h.none hb s hs)
    |some t=>
     obtain⟨h1,h2⟩:=(h.some t hb).2 s hs cs;rw[hb]at d;have d':(decide (dE j way x r<t.2.1) || (decide (dE j way x r=t.2.1)&&decide (r.1=.lt)))=true:=d;rw[or_eq_true,and_eq_true,decide_eq_true_iff,decide_eq_true_iff]at d';rcases d' with d'|⟨d',d2⟩
     ·exact⟨by show dE j way x r<=_;grind,fun _ e=>by have e':dE j way x s=dE j way x r:=e;grind⟩
     ·exact⟨by show dE j way x r<=_;grind,fun _ _=>d2⟩
   ·rw[mem_singleton.mp hs];exact⟨by show dE j way x r<=_;grind,fun e _=>decide_eq_true e⟩
  ·rw[if_neg d];cases hb:b with
   |none=>rw[hb]at d;exact absurd rfl d
   |some t=>
    refine⟨(fun e=>by cases e),fun t' e=>?_⟩;cases e;obtain⟨⟨r0,OS,h1⟩,h2⟩:=h.some t hb;refine⟨⟨r0,mem_append.mpr (.inl OS),h1⟩,fun s hs cs=>?_⟩;rcases mem_append.mp hs with hs|hs
    ·exact h2 s hs cs
    ·rw[mem_singleton.mp hs];rw[hb]at d;have d':¬(decide (dE j way x r<t.2.1) || (decide (dE j way x r=t.2.1)&&decide (r.1=.lt)))=true:=d;rw[or_eq_true,and_eq_true,decide_eq_true_iff,decide_eq_true_iff,decide_eq_true_iff]at d';have a:¬dE j way x r<t.2.1:=fun z=>d' (.inl z);exact⟨by grind,fun e1 e2=>absurd (.inr ⟨e2,e1⟩) d'⟩
 ·rw[if_neg c];refine⟨fun e s hs=>?_,fun t e=>?_⟩
  ·rcases mem_append.mp hs with hs|hs
   ·exact h.none e s hs
   ·rw[mem_singleton.mp hs];exact c
  ·obtain⟨⟨r0,OS,h1⟩,h2⟩:=h.some t e;refine⟨⟨r0,mem_append.mpr (.inl OS),h1⟩,fun s hs cs=>?_⟩;rcases mem_append.mp hs with hs|hs
   ·exact h2 s hs cs
   ·rw[mem_singleton.mp hs]at cs;exact absurd cs c
theorem TS.all{j:Nat}{way:Int}{x:List Rat}:∀(rows done:List Row) (b:Option fz),TS j way x done b->TS j way x (done++rows) (rows.foldl (jX j way x) b)
 |[],done,b,h=>by rw[append_nil];exact h
 |r::rows,done,b,h=>by
  have:=TS.all rows (done++[r]) _ (h.step r);rw[append_assoc]at this;exact this
theorem jA(rows:List Row)(j:Nat)(x:List Rat)(way:Int):TS j way x rows (c7 rows j x way):=by
 have:=TS.all (j:=j) (way:=way) (x:=x) rows [] none ⟨fun _ r hr=>by simp at hr,fun t e=>by cases e⟩;exact this
theorem vR:mO j 1 r↔isUp (aD n r) j:=by
 unfold mO isUp;rw[Int.one_mul];show _↔0<(ent r j:Rat)\/((ent r j:Rat)<0/\r.1=.eq);rw[iN,qt]
theorem vS:mO j (-1) r↔oO (aD n r) j:=by
 unfold mO oO;rw[show(-1:Int)*ent r j=-ent r j by omega];show _↔(ent r j:Rat)<0\/(0<(ent r j:Rat)/\r.1=.eq);rw[iN,qt];constructor
 ·rintro(h|⟨h,e⟩)
  ·exact .inl (by omega)
  ·exact .inr ⟨by omega,e⟩
 ·rintro(h|⟨h,e⟩)
  ·exact .inl (by omega)
  ·exact .inr ⟨by omega,e⟩
theorem BX(hx:x.length=n+1)(hj:j<=n)(h0:x.getD j 0=0):dE j 1 x r=Nm n (aD n r) (xf x) j:=by
 unfold dE Nm;rw[uq hx hj h0,Int.one_mul];rfl
theorem BY(hx:x.length=n+1)(hj:j<=n)(h0:x.getD j 0=0):dE j (-1) x r=- Nm n (aD n r) (xf x) j:=by
 unfold dE Nm;rw[uq hx hj h0,show(-1:Int)*ent r j=-ent r j by omega,Rat.intCast_neg];show _=- (_/(ent r j:Rat));grind
def vj (b:Option fz):Option (Bool×Rat):=b.map fun b=>(b.1,b.2.1)
def nP (b:Option fz):Option (Bool×Rat):=b.map fun b=>(b.1,0-b.2.1)
theorem zi(b:Option fz):jf (vj b)=gF b:=by cases b<;>rfl
theorem zj(b:Option fz):jf (nP b)=fZ b:=by cases b<;>rfl
theorem pR(hx:x.length=n+1)(hj:j<=n)(h0:x.getD j 0=0):Top n (rows.map (aD n)) (xf x) j (vj (c7 rows j x 1)):=by
 have T:=jA rows j x 1;refine⟨fun e r hr=>?_,fun s v e=>?_⟩
 ·obtain⟨r,cO,rfl⟩:=mem_map.mp hr;rw[<- vR];refine T.none ?_ r cO;cases h:c7 rows j x 1 with
  |none=>rfl
  |some b=>rw[h]at e;cases e
 ·cases h:c7 rows j x 1 with
  |none=>rw[h]at e;cases e
  |some t=>
   rw[h]at e;have e':(t.1,t.2.1)=(s,v):=Option.some.inj e;injection e' with e1 e2;obtain⟨⟨r,hr,c,k1,k2,_⟩,h2⟩:=T.some t h;refine⟨⟨aD n r,mem_map.mpr ⟨r,hr,rfl⟩,vR.mp c,?_,fun z=>?_⟩,fun r' cO hu=>?_⟩
   ·rw[<- e2,k2,BX hx hj h0]
   ·rw[<- e1,k1]at z;exact of_decide_eq_true z
   ·obtain⟨r2,lG,rfl⟩:=mem_map.mp cO;obtain⟨a,b⟩:=h2 r2 lG (vR.mpr hu);rw[BX hx hj h0]at a b;rw[<- e1,<- e2];exact⟨a,b⟩
theorem pS(hx:x.length=n+1)(hj:j<=n)(h0:x.getD j 0=0):Qq n (rows.map (aD n)) (xf x) j (nP (c7 rows j x (-1))):=by
 have T:=jA rows j x (-1);refine⟨fun e r hr=>?_,fun s v e=>?_⟩
 ·obtain⟨r,cO,rfl⟩:=mem_map.mp hr;rw[<- vS];refine T.none ?_ r cO;cases h:c7 rows j x (-1)with
  |none=>rfl
  |some b=>rw[h]at e;cases e
 ·cases h:c7 rows j x (-1)with
  |none=>rw[h]at e;cases e
  |some t=>
   rw[h]at e;have e':(t.1,0-t.2.1)=(s,v):=Option.some.inj e;injection e' with e1 e2;obtain⟨⟨r,hr,c,k1,k2,_⟩,h2⟩:=T.some t h;refine⟨⟨aD n r,mem_map.mpr ⟨r,hr,rfl⟩,vS.mp c,?_,fun z=>?_⟩,fun r' cO hu=>?_⟩
   ·rw[<- e2,k2,BY hx hj h0];grind
   ·rw[<- e1,k1]at z;exact of_decide_eq_true z
   ·obtain⟨r2,lG,rfl⟩:=mem_map.mp cO;obtain⟨a,b⟩:=h2 r2 lG (vS.mpr hu);rw[BY hx hj h0]at a b;rw[<- e1,<- e2];exact⟨by grind,fun p q=>b p (by grind)⟩
def choice (rows:List Row) (j:Nat) (x:List Rat):Rat:=gI (fZ (c7 rows j x (-1))) (gF (c7 rows j x 1))
def JE (n j:Nat) (rows QQ:List Row):Prop:=∀x:List Rat,x.length=n+1->x.getD j 0=0->(∀r∈QQ,Hd n (xf x) (aD n r))->∀r∈rows,Hd n (put (xf x) j (choice rows j x)) (aD n r)
variable {St:Nat->Bool} in
theorem C0(hR:Rs n k rows)(S:Sg n k j J St E B β (rows.map (aD n)))(hj:j<n)(hm:most=E.length+1):
  Rs n k (cX (cB n k J) j most rows)/\(∃E' B' pO,Sg n k (j+1) J St E' B' pO ((cX (cB n k J) j most rows).map (aD n))/\iL j most rows=E'.length+1)/\JE n j rows (cX (cB n k J) j most rows):=by
 unfold cX iL;cases hq:ey j rows with
 |none=>
  have P:=yZ hR S hq;have S':=S.pairs hj P;rw[show most+1=E.length+2 by omega];refine⟨F1 hR hq,⟨_,_,_,S',by rw[length_cons]⟩,fun x hx h0 hh r hr=>?_⟩;have:=GV (x:=xf x) S' S hj P (fun r hr=>by obtain⟨r,cO,rfl⟩:=mem_map.mp hr;exact hh r cO) (pR hx (by omega) h0) (pS hx (by omega) h0) (aD n r) (mem_map.mpr ⟨r,hr,rfl⟩);rw[zi,zj]at this;exact this
 |some q=>
  have G:=A0 hR S hq;have S':=S.RA hj G;refine⟨Ig hR S hq,⟨_,_,_,S',hm⟩,fun x hx h0 hh r hr=>?_⟩;have:=GW (x:=xf x) (Nat.le_of_lt hj) G (fun r hr=>by obtain⟨r,cO,rfl⟩:=mem_map.mp hr;exact hh r cO) (fun r hr=>S'.zero r hr j (by omega)) (pR hx (by omega) h0) (pS hx (by omega) h0) (aD n r) (mem_map.mpr ⟨r,hr,rfl⟩);rw[zi,zj]at this;exact this
structure nA (n k:Nat) (P:Nat->Nat->Rat) (Bd:Nat->Rat) (p:Nat->Rat) (r:Rw):Prop where
 a:∀c,c<n->r.a c=sm k (fun i=>r.w i*P i c)-r.a n*p c
 b:r.b=sm k fun i=>r.w i*Bd i
variable {P:Nat->Nat->Rat} {Bd p:Nat->Rat}
theorem nA.jd{up lo r:Rw}(hu:nA n k P Bd p up)(hl:nA n k P Bd p lo)(h:Jd up lo r j):nA n k P Bd p r:=by
 obtain⟨μ,mp,ea,eb,ew⟩:=h.ex;have key:∀g:Nat->Rat,sm k (fun i=>r.w i*g i)=μ*(-lo.a j*sm k (fun i=>up.w i*g i)+up.a j*sm k (fun i=>lo.w i*g i)):=fun g=>by
  rw[<- bE,<- bE,<- dW,<- bE];exact aO fun i _=>by rw[ew i];grind
 refine⟨fun c hc=>?_,?_⟩
 ·rw[key,ea c,ea n,hu.a c hc,hl.a c hc];grind
 ·rw[key,eb,hu.b,hl.b]
theorem nA.wo{q r r':Rw}(hq:nA n k P Bd p q)(hr:nA n k P Bd p r)(h:Wo q r r' j):nA n k P Bd p r':=by
 obtain⟨μ,mp,ea,eb,ew⟩:=h.ex;have key:∀g:Nat->Rat,sm k (fun i=>r'.w i*g i)=μ*(sm k (fun i=>r.w i*g i)+(-(r.a j/q.a j))*sm k (fun i=>q.w i*g i)):=fun g=>by
  rw[<- bE,<- dW,<- bE];exact aO fun i _=>by rw[ew i];grind
 refine⟨fun c hc=>?_,?_⟩
 ·rw[key,ea c,ea n];generalize r.a j/q.a j=ρ;rw[hr.a c hc,hq.a c hc];grind
 ·rw[key,eb];generalize r.a j/q.a j=ρ;rw[hr.b,hq.b];grind
variable {St:Nat->Bool} in
theorem IM(hR:Rs n k rows)(S:Sg n k j J St E B β (rows.map (aD n)))(hm:most=E.length+1)(h:∀r∈rows,nA n k P Bd p (aD n r)):∀r∈cX (cB n k J) j most rows,nA n k P Bd p (aD n r):=by
 unfold cX;cases hq:ey j rows with
 |none=>
  have Pp:=yZ hR S hq;rw[show most+1=E.length+2 by omega];intro r hr;rcases Pp.gx (aD n r) (mem_map.mpr ⟨r,hr,rfl⟩)with⟨h1,_⟩|⟨up,hu,lo,hl,_,_,hd⟩
  ·obtain⟨s,hs,e⟩:=mem_map.mp h1;rw[<- e];exact h s hs
  ·obtain⟨up,Gu,rfl⟩:=mem_map.mp hu;obtain⟨lo,jo,rfl⟩:=mem_map.mp hl;exact(h up Gu).jd (h lo jo) hd
 |some q=>
  have G:=A0 hR S hq;intro r hr;obtain⟨s,hs,W⟩:=G.gx (aD n r) (mem_map.mpr ⟨r,hr,rfl⟩);obtain⟨s,rW,rfl⟩:=mem_map.mp hs;exact nA.wo (h q (mem_of_find?_eq_some hq)) (h s rW) W
variable {St:Nat->Bool} in
structure Run (n k:Nat) (J St:Nat->Bool) (P:Nat->Nat->Rat) (Bd p:Nat->Rat) (j:Nat) (Ls:List (List Row)) (rows:List Row):Prop where
 len:Ls.length=n-j+1
 head:Ls.getD 0 []=rows
 ext:∀i,j+i<n->JE n (j+i) (Ls.getD i []) (Ls.getD (i+1) [])
 last:∃E B β,Sg n k n J St E B β ((Ls.getD (n-j) []).map (aD n))
 rs:Rs n k (Ls.getD (n-j) [])
 Se:∀r∈Ls.getD (n-j) [],nA n k P Bd p (aD n r)
variable {St:Nat->Bool} in
theorem EY{P:Nat->Nat->Rat}{Bd p:Nat->Rat}:∀(m j most:Nat) (rows:List Row) (E:List Nat) (B:Nat->Nat->Rat) (β:Nat->Rat),j+m=n->most=E.length+1->Rs n k rows->Sg n k j J St E B β (rows.map (aD n))->(∀r∈rows,nA n k P Bd p (aD n r))->
  Run n k J St P Bd p j (lL (cB n k J) m j most rows) rows
 |0,j,most,rows,E,B,β,hj,hm,hR,S,hL=>by
  have e:n-j=0:=by omega
  have e2:j=n:=by omega
  subst e2;refine⟨by rw[e];rfl,rfl,fun i hi=>by omega,?_,?_,?_⟩
  ·rw[e];exact⟨E,B,β,S⟩
  ·rw[e];exact hR
  ·rw[e];exact hL
 |m+1,j,most,rows,E,B,β,hj,hm,hR,S,hL=>by
  obtain⟨WH,⟨E',B',pO,S',Cj⟩,hx⟩:=C0 hR S (by omega) hm;have WS:=IM hR S hm hL;have I:=EY m (j+1) _ _ E' B' pO (by omega) Cj WH S' WS;have e:n-j=n-(j+1)+1:=by omega
  refine⟨?_,rfl,fun i hi=>?_,?_,?_,?_⟩
  ·show(lL (cB n k J) m (j+1) _ _).length+1=_;rw[I.len];omega
  ·cases i with
   |zero=>
    show JE n (j+0) rows ((lL (cB n k J) m (j+1) _ _).getD 0 []);rw[I.head];exact hx
   |succ i=>
    have:=I.ext i (by omega);rw[show j+(i+1)=j+1+i by omega];exact this
  ·rw[e];exact I.last
  ·rw[e];exact I.rs
  ·rw[e];exact I.Se
variable {m:Nat}
theorem jF(hm:m<x.length):(x.set m v).getD c 0=if c=m then v else x.getD c 0:=by
 rw[getD_eq_getElem?_getD,getD_eq_getElem?_getD];by_cases e:c=m
 ·subst e;rw[if_pos rfl,getElem?_set_self hm];rfl
 ·rw[if_neg e,getElem?_set_ne (Ne.symm e)]
variable {St:Nat->Bool} in
theorem K8{P:Nat->Nat->Rat}{Bd p:Nat->Rat}{Ls:List (List Row)}{rows:List Row}(I:Run n k J St P Bd p 0 Ls rows):∀(m:Nat) (x:List Rat),m<=n->x.length=n+1->(∀c,c<m->x.getD c 0=0)->(∀r∈Ls.getD m [],Hd n (xf x) (aD n r))->
  (dX Ls m x).length=n+1/\(dX Ls m x).getD n 0=x.getD n 0/\∀r∈rows,Hd n (xf (dX Ls m x)) (aD n r)
 |0,x,hm,hx,h0,hh=>⟨hx,rfl,by rw[<- I.head];exact hh⟩
 |m+1,x,hm,hx,h0,hh=>by
  have ex:=I.ext m (by omega);rw[zero_add]at ex;have h1:=ex x hx (h0 m (by omega)) hh;have dJ:m<x.length:=by omega
  have e:xf (x.set m (choice (Ls.getD m []) m x))=put (xf x) m (choice (Ls.getD m []) m x):=funext fun c=>jF dJ;obtain⟨a,b,c⟩:=K8 I m (x.set m (choice (Ls.getD m []) m x)) (by omega) (by rw[length_set];exact hx) (fun c hc=>by
   rw[jF dJ,if_neg (by omega)];exact h0 c (by omega)) (fun r hr=>by rw[e];exact h1 r hr)
  refine⟨a,?_,c⟩;show(dX Ls m (x.set m (choice (Ls.getD m []) m x))).getD n 0=_;rw[b,jF dJ,if_neg (by omega)]
abbrev Ol:=Kn×List Rat×Rat
def iq (qs:List Rat):Nat:=qs.foldl (fun m q=>lcm m q.den) 1
def whole (kd:Kn) (qs:List Rat):Row:=(kd,qs.map fun q=>q.num*((iq qs/q.den:Nat):Int))
def dw (k i:Nat):List Rat:=(List.range k).map fun c=>if i=c then 1 else 0
def cx (k:Nat):Nat->List Ol->List Row
 |_,[]=>[]
 |i,o::os=>whole o.1 (o.2.1++[0,o.2.2]++dw k i)::cx k (i+1) os
def eO (p:List Rat) (k:Nat):Row:=whole .eq (p.map (fun q=>0-q)++[1,0]++List.replicate k 0)
def bj (p:List Rat) (os:List Ol):List Row:=cx os.length 0 os++[eO p os.length]
def knd (os:List Ol) (i:Nat):Kn:=(os.getD i (.eq,[],0)).1
def iC (os:List Ol) (i c:Nat):Rat:=(os.getD i (.eq,[],0)).2.1.getD c 0
def jS (os:List Ol) (i:Nat):Rat:=(os.getD i (.eq,[],0)).2.2
def jO (os:List Ol) (i:Nat):Bool:=decide (knd os i≠.eq)
def sO (os:List Ol) (i:Nat):Bool:=decide (knd os i=.lt)
def bH (p:List Rat) (os:List Ol):List (List Row):=lL (cB p.length os.length (jO os)) p.length 0 1 (bj p os)
theorem lcm_dvd:∀(qs:List Rat) (m:Nat),(∀q∈qs,q.den∣qs.foldl (fun m q=>lcm m q.den) m)/\m∣qs.foldl (fun m q=>lcm m q.den) m
 |[],m=>⟨fun q hq=>by simp at hq,Nat.dvd_refl m⟩
 |y::qs,m=>by
  obtain⟨h1,h2⟩:=lcm_dvd qs (lcm m y.den);rw[foldl_cons];refine⟨fun q hq=>?_,dvd_trans (Nat.dvd_lcm_left _ _) h2⟩;rcases mem_cons.mp hq with e|h
  ·rw[e];exact dvd_trans (Nat.dvd_lcm_right _ _) h2
  ·exact h1 q h
theorem lcm_pos:∀(qs:List Rat) (m:Nat),0<m->0<qs.foldl (fun m q=>lcm m q.den) m
 |[],m,h=>h
 |y::qs,m,h=>lcm_pos qs _ (Nat.lcm_pos h y.den_pos)
theorem t5(qs:List Rat):0<iq qs:=lcm_pos qs 1 (by decide)
theorem jk(q:Rat):(q.num:Rat)=q*(q.den:Rat):=by
 have e:q=(q.num:Rat)/(q.den:Rat):=by rw[<- Rat.mkRat_eq_div,mkRat_self]
 have h:(q.den:Rat)≠0:=fun z=>q.den_nz (Rat.natCast_eq_zero_iff.mp z);generalize (q.num:Rat)=a at *;generalize (q.den:Rat)=b at *;grind
variable {qs:List Rat}
theorem Ln{q:Rat}(h:q∈qs):((q.num*((iq qs/q.den:Nat):Int):Int):Rat)=(iq qs:Rat)*q:=by
 obtain⟨d,hd⟩:=(lcm_dvd qs 1).1 q h;have dM:iq qs=q.den*d:=hd;have e:iq qs/q.den=d:=by rw[dM,Nat.mul_div_cancel_left _ q.den_pos]
 rw[e,intCast_mul,jk q,dM,Rat.natCast_mul];show q*(q.den:Rat)*(d:Rat)=(q.den:Rat)*(d:Rat)*q;grind
theorem gU{kd:Kn}(c:Nat):((ent (whole kd qs) c:Int):Rat)=(iq qs:Rat)*qs.getD c 0:=by
 unfold ent whole;rw[getD_eq_getElem?_getD,getD_eq_getElem?_getD,getElem?_map];cases h:qs[c]? with
 |none=>show((0:Int):Rat)=_*0;grind
 |some q=>exact Ln (mem_of_getElem? h)
theorem iP{ps us:List Rat}{s:Rat}(c:Nat):(ps++[s,b]++us).getD c 0=if c<ps.length then ps.getD c 0 else if c=ps.length then s else if c=ps.length+1 then b else us.getD (c-ps.length-2) 0:=by
 rw[append_assoc];simp only[getD_eq_getElem?_getD];by_cases h:c<ps.length
 ·rw[if_pos h,getElem?_append_left h]
 ·rw[if_neg h,getElem?_append_right (by omega)];by_cases h1:c=ps.length
  ·rw[if_pos h1,h1,Nat.sub_self];rfl
  ·rw[if_neg h1];by_cases h2:c=ps.length+1
   ·rw[if_pos h2,h2,Nat.add_sub_cancel_left];rfl
   ·rw[if_neg h2,show c-ps.length=(c-ps.length-2)+2 by omega];rfl
variable {i:Nat}
theorem HS(hc:c<k):(dw k i).getD c 0=if i=c then 1 else 0:=by
 unfold dw;rw[getD_eq_getElem?_getD,getElem?_map,List.getElem?_range hc];rfl
theorem oo(k i:Nat):(dw k i).length=k:=by unfold dw;rw[length_map,length_range]
theorem pW{f:Nat->Rat}{i:Nat}:∀{k:Nat},i<k->(∀c,c<k->c≠i->f c=0)->sm k f=f i
 |0,h,_=>by omega
 |k+1,h,hz=>by
  show sm k f+f k=f i;by_cases e:i=k
  ·subst e;rw[gO fun c hc=>hz c (by omega) (by omega)];grind
  ·rw[pW (i:=i) (by omega) fun c hc cE=>hz c (by omega) cE,hz k (by omega) (by omega)];grind
theorem rp(h:0<m):0<(m:Rat):=by
 have:((0:Nat):Rat)<(m:Rat):=Rat.natCast_lt_natCast.mpr h;exact this
structure ny (n k:Nat) (os:List Ol) (i:Nat) (r:Row):Prop where
 kd:r.1=knd os i
 len:r.2.length=n+2+k
 ex:∃M:Rat,0<M/\(∀c,c<n->(aD n r).a c=M*iC os i c)/\(aD n r).a n=0/\(aD n r).b=M*jS os i/\∀c,c<k->(aD n r).w c=if i=c then M else 0
structure El (n k:Nat) (p:List Rat) (r:Row):Prop where
 kd:r.1=.eq
 len:r.2.length=n+2+k
 ex:∃M:Rat,0<M/\(∀c,c<n->(aD n r).a c=- (M*p.getD c 0))/\(aD n r).a n=M/\(aD n r).b=0/\∀c,c<k->(aD n r).w c=0
variable {os:List Ol}
theorem ua{o:Ol}(ho:os[i]?=some o)(hl:o.2.1.length=n)(hk:i<k):ny n k os i (whole o.1 (o.2.1++[0,o.2.2]++dw k i)):=by
 have e0:os.getD i (.eq,[],0)=o:=by rw[getD_eq_getElem?_getD,ho];rfl
 refine⟨by unfold knd;rw[e0];rfl,?_,(iq (o.2.1++[0,o.2.2]++dw k i):Rat),rp (t5 _),fun c hc=>?_,?_,?_,fun c hc=>?_⟩
 ·show(List.map _ _).length=_;rw[length_map,length_append,length_append,oo,hl];rfl
 ·show((ent _ c:Int):Rat)=_;rw[gU,iP,if_pos (by omega)];unfold iC;rw[e0]
 ·show((ent _ n:Int):Rat)=_;rw[gU,iP,if_neg (by omega),if_pos hl.symm];grind
 ·show((ent _ (n+1):Int):Rat)=_;rw[gU,iP,if_neg (by omega),if_neg (by omega),if_pos (by omega)];unfold jS;rw[e0]
 ·show((ent _ (n+2+c):Int):Rat)=_;rw[gU,iP,if_neg (by omega),if_neg (by omega),if_neg (by omega),show n+2+c-o.2.1.length-2=c by omega,HS hc];split<;>grind
variable {p:List Rat}
theorem yv(k:Nat):El p.length k p (eO p k):=by
 have hl:(p.map (fun q=>0-q)).length=p.length:=length_map ..;refine⟨rfl,?_,(iq (p.map (fun q=>0-q)++[1,0]++List.replicate k 0):Rat),rp (t5 _),fun c hc=>?_,?_,?_,fun c hc=>?_⟩
 ·show(List.map _ _).length=_;rw[length_map,length_append,length_append,length_replicate,hl];rfl
 ·show((ent (eO p k) c:Int):Rat)=_;unfold eO;rw[gU,iP,if_pos (by omega)];have:(p.map (fun q=>0-q)).getD c 0=- p.getD c 0:=by
   rw[getD_eq_getElem?_getD,getD_eq_getElem?_getD,getElem?_map];cases p[c]? with
   |none=>show(0:Rat)=-0;grind
   |some q=>show 0-q=-q;grind
  rw[this];grind
 ·show((ent (eO p k) p.length:Int):Rat)=_;unfold eO;rw[gU,iP,if_neg (by omega),if_pos hl.symm];grind
 ·show((ent (eO p k) (p.length+1):Int):Rat)=_;unfold eO;rw[gU,iP,if_neg (by omega),if_neg (by omega),if_pos (by omega)];grind
 ·show((ent (eO p k) (p.length+2+c):Int):Rat)=_;unfold eO;rw[gU,iP,if_neg (by omega),if_neg (by omega),if_neg (by omega)];have:(List.replicate k (0:Rat)).getD (p.length+2+c-(p.map (fun q=>0-q)).length-2) 0=0:=by
   rw[getD_eq_getElem?_getD,getElem?_replicate];split<;>rfl
  rw[this];grind
theorem l7{n k:Nat}{os:List Ol}:∀(l:List Ol) (i0:Nat),(∀i,i<l.length->os[i0+i]?=l[i]?)->(∀o∈l,o.2.1.length=n)->i0+l.length<=k->∀r,r∈cx k i0 l↔∃i o,i<l.length/\l[i]?=some o/\r=whole o.1 (o.2.1++[0,o.2.2]++dw k (i0+i))
 |[],i0,_,_,_,r=>by simp[cx]
 |o::l,i0,h1,h2,h3,r=>by
  have ih:=l7 (n:=n) (k:=k) (os:=os) l (i0+1) (fun i hi=>by
   have:=h1 (i+1) (by rw[length_cons];omega);rw[show i0+1+i=i0+(i+1) by omega,this];rfl) (fun o ho=>h2 o (mem_cons_of_mem _ ho)) (by rw[length_cons]at h3;omega) r
  show r∈whole o.1 (o.2.1++[0,o.2.2]++dw k i0)::cx k (i0+1) l↔_;rw[mem_cons,ih];constructor
  ·rintro(e|⟨i,o',hi,pv,e⟩)
   ·exact⟨0,o,by rw[length_cons];omega,rfl,e⟩
   ·exact⟨i+1,o',by rw[length_cons];omega,pv,by rw[show i0+(i+1)=i0+1+i by omega];exact e⟩
  ·rintro⟨i,o',hi,pv,e⟩;cases i with
   |zero=>cases pv;exact .inl e
   |succ i=>exact .inr ⟨i,o',by rw[length_cons]at hi;omega,pv,by rw[show i0+1+i=i0+(i+1) by omega];exact e⟩
theorem jC(hl:∀o∈os,o.2.1.length=p.length)(hr:r∈bj p os):(∃i,i<os.length/\ny p.length os.length os i r)\/El p.length os.length p r:=by
 unfold bj at hr;rcases mem_append.mp hr with h|h
 ·obtain⟨i,o,hi,ho,e⟩:=(l7 (n:=p.length) (os:=os) os 0 (fun i _=>by rw[zero_add]) hl (by omega) r).mp h;rw[zero_add]at e;exact .inl ⟨i,hi,by rw[e];exact ua ho (hl o (mem_of_getElem? ho)) hi⟩
 ·rw[mem_singleton.mp h];exact .inr (yv _)
theorem yE(hl:∀o∈os,o.2.1.length=p.length)(hi:i<os.length):∃r∈bj p os,ny p.length os.length os i r:=by
 have ho:=getElem?_eq_getElem hi;refine⟨_,mem_append.mpr (.inl ((l7 (n:=p.length) (os:=os) os 0 (fun i _=>by rw[zero_add]) hl (by omega) _).mpr ⟨i,_,hi,ho,rfl⟩)),?_⟩;rw[zero_add];exact ua ho (hl _ (mem_of_getElem? ho)) hi
theorem tj(hl:∀o∈os,o.2.1.length=p.length):Rs p.length os.length (bj p os):=by
 refine⟨fun r hr=>(jC hl hr).elim (fun⟨i,hi,h⟩=>h.len) (·.len),fun r hr he=>?_⟩;have uniq:∀{r s:Row} {i:Nat},r∈bj p os->s∈bj p os->ny p.length os.length os i r->ny p.length os.length os i s->i<os.length->r=s:=by
  intro r s i hr hs h1 h2 hi

  have key:∀{t:Row},t∈bj p os->ny p.length os.length os i t->t=whole (os[i]).1 ((os[i]).2.1++[0,(os[i]).2.2]++dw os.length i):=by
   intro t ht hT;obtain⟨M,mp,_,a1,_,w1⟩:=hT.ex;unfold bj at ht;rcases mem_append.mp ht with h|h
   ·obtain⟨i',o,gX,ho,e⟩:=(l7 (n:=p.length) (os:=os) os 0 (fun i _=>by rw[zero_add]) hl (by omega) t).mp h;rw[zero_add]at e;have hR:=ua (n:=p.length) (k:=os.length) ho (hl o (mem_of_getElem? ho)) gX;rw[<- e]at hR;obtain⟨M',Ga,_,_,_,w2⟩:=hR.ex;have x1:=w1 i hi;have x2:=w2 i hi;rw[if_pos rfl]at x1;have:i'=i:=by
     apply Classical.byContradiction
     intro z;rw[if_neg z,x1]at x2;grind
    subst this;have:o=os[i']:=by
     have:=getElem?_eq_getElem gX;rw[ho]at this;exact Option.some.inj this
    rw[e,this]
   ·rw[mem_singleton.mp h]at a1;obtain⟨M',Ga,_,a2,_⟩:=(yv (p:=p) os.length).ex;rw[a1]at a2;grind
  rw[key hr h1,key hs h2]
 rcases jC hl hr with⟨i,hi,h⟩|h
 ·obtain⟨M,mp,_,_,_,w1⟩:=h.ex;refine⟨p.length+2+i,fun z=>?_,fun s hs Kv cE=>?_⟩
  ·have:=w1 i hi;rw[if_pos rfl]at this;have:(ent r (p.length+2+i):Rat)=M:=this;rw[z]at this;have:(0:Rat)=M:=this;grind
  ·rcases jC hl hs with⟨i',gX,h'⟩|h'
   ·obtain⟨M',Ga,_,_,_,w2⟩:=h'.ex;have e:=w2 i hi;have:i'≠i:=fun z=>cE (uniq hs hr (z▸h') h hi);rw[if_neg this]at e;exact bN.mp e
   ·obtain⟨M',Ga,_,_,_,w2⟩:=h'.ex;exact bN.mp (w2 i hi)
 ·obtain⟨M,mp,_,a1,_,w1⟩:=h.ex;refine⟨p.length,fun z=>?_,fun s hs Kv cE=>?_⟩
  ·have:(ent r p.length:Rat)=M:=a1;rw[z]at this;have:(0:Rat)=M:=this;grind
  ·rcases jC hl hs with⟨i',gX,h'⟩|h'
   ·obtain⟨M',Ga,_,a2,_⟩:=h'.ex;exact bN.mp a2
   ·
    exfalso;apply cE
    have key:∀{t:Row},t∈bj p os->El p.length os.length p t->t=eO p os.length:=by
     intro t ht hT;unfold bj at ht;rcases mem_append.mp ht with h|h
     ·obtain⟨i',o,gX,ho,e⟩:=(l7 (n:=p.length) (os:=os) os 0 (fun i _=>by rw[zero_add]) hl (by omega) t).mp h;rw[zero_add]at e;have hR:=ua (n:=p.length) (k:=os.length) ho (hl o (mem_of_getElem? ho)) gX;rw[<- e]at hR;obtain⟨M',Ga,_,a3,_⟩:=hR.ex;obtain⟨M2,mp2,_,a4,_⟩:=hT.ex;rw[a3]at a4;grind
     ·exact mem_singleton.mp h
    rw[key hs h',key hr h]
theorem A6(hl:∀o∈os,o.2.1.length=p.length):Sg p.length os.length 0 (jO os) (sO os) [] (fun i c=>if c<p.length then iC os i c else 0) (jS os) ((bj p os).map (aD p.length)):=by
 have G0:∀{r:Row},r∈bj p os->r.1≠.eq->∃i,i<os.length/\ny p.length os.length os i r/\jO os i=true:=fun hr hk=>by
  rcases jC hl hr with⟨i,hi,h⟩|h
  ·refine⟨i,hi,h,?_⟩;unfold jO;rw[h.kd]at hk;exact decide_eq_true hk
  ·exact absurd h.kd hk
 have JP:∀{r:Row} {i:Nat} {M:Rat},jO os i=true->(∀c,c<os.length->(aD p.length r).w c=if i=c then M else 0)->∀c,c<os.length->uo (jO os) (aD p.length r) c=if i=c then M else 0:=by
  intro r i M hj hw c hc;unfold uo;by_cases e:i=c
  ·subst e;rw[if_pos hj,hw i hc]
  ·rw[if_neg e];split
   ·rw[hw c hc,if_neg e]
   ·rfl
 refine⟨by omega,fun r hr c hc=>by omega,fun c hc=>by simp at hc,fun r hr he i hi hj=>?_,fun r hr he i hi hj=>?_,fun r hr he=>?_,fun r hr he=>?_,fun r hr he c hc=>?_,fun r hr he=>?_,fun u hu=>?_⟩
 ·obtain⟨r,lG,rfl⟩:=mem_map.mp hr;rcases jC hl lG with⟨i',gX,h⟩|h
  ·obtain⟨M,mp,_,_,_,w1⟩:=h.ex;rw[w1 i hi];apply if_neg
   intro e;subst e;have h1:r.1=.eq:=he;rw[h.kd]at h1;unfold jO at hj;exact of_decide_eq_true hj h1
  ·obtain⟨M,mp,_,_,_,w1⟩:=h.ex;exact w1 i hi
 ·obtain⟨r,hr,rfl⟩:=mem_map.mp hr;obtain⟨i',gX,h,qz⟩:=G0 (by assumption) he;obtain⟨M,mp,_,_,_,w1⟩:=h.ex;rw[w1 i hi];split<;>grind
 ·obtain⟨r,hr,rfl⟩:=mem_map.mp hr;obtain⟨i',gX,h,qz⟩:=G0 (by assumption) he;obtain⟨M,mp,_,_,_,w1⟩:=h.ex;exact⟨i',gX,qz,by rw[w1 i' gX,if_pos rfl];exact mp⟩
 ·obtain⟨r,hr,rfl⟩:=mem_map.mp hr;obtain⟨i',gX,h,qz⟩:=G0 (by assumption) he;obtain⟨M,mp,_,_,_,w1⟩:=h.ex;have hk:(aD p.length r).kd=knd os i':=h.kd;rw[hk];constructor
  ·intro e;exact⟨i',gX,qz,decide_eq_true e,by rw[w1 i' gX,if_pos rfl];exact mp⟩
  ·rintro⟨i,hi,_,hs,hp⟩;rw[w1 i hi]at hp;by_cases e:i'=i
   ·subst e;exact of_decide_eq_true hs
   ·rw[if_neg e]at hp;grind
 ·obtain⟨r,hr,rfl⟩:=mem_map.mp hr;obtain⟨i',gX,h,qz⟩:=G0 (by assumption) he;obtain⟨M,mp,a1,a2,_,w1⟩:=h.ex;have e:=pW (k:=os.length) (i:=i') (f:=fun i=>uo (jO os) (aD p.length r) i*(if c<p.length then iC os i c else 0)) gX (fun c' iG cE=>by rw[JP qz w1 c' iG,if_neg (Ne.symm cE)];grind);rw[e,JP qz w1 i' gX,if_pos rfl];by_cases Cm:c<p.length
  ·rw[if_pos Cm,a1 c Cm]
  ·rw[if_neg Cm,show c=p.length by omega,a2];grind
 ·obtain⟨r,hr,rfl⟩:=mem_map.mp hr;obtain⟨i',gX,h,qz⟩:=G0 (by assumption) he;obtain⟨M,mp,_,_,b1,w1⟩:=h.ex;have e:=pW (k:=os.length) (i:=i') (f:=fun i=>uo (jO os) (aD p.length r) i*jS os i) gX (fun c' iG cE=>by rw[JP qz w1 c' iG,if_neg (Ne.symm cE)];grind);rw[e,JP qz w1 i' gX,if_pos rfl,b1]
 ·
  obtain⟨i,hi,cE⟩:=hu.ne;have hj:jO os i=true:=by
   apply Classical.byContradiction
   intro z;exact cE (hu.i8.off i hi z)
  have ce:jI os.length (fun i=>jO os i=true) [] (fun i c=>if c<p.length then iC os i c else 0) (fun c=>if i=c then 1 else 0):=by
   refine⟨fun c hc=>?_,fun c hc hz=>if_neg fun(e:i=c)=>hz (e▸hj),fun c hc=>by simp at hc⟩;show(0:Rat)<=if i=c then 1 else 0;split<;>grind
  obtain⟨c,c0,hc⟩:=hu.alone _ ce fun i' gX z=>if_neg fun(e:i=i')=>cE (e▸z);obtain⟨r,hr,hR⟩:=yE hl hi;obtain⟨M,mp,_,_,_,w1⟩:=hR.ex;have e1:=hc i hi;rw[if_pos rfl]at e1;have cp:0<c:=by
   rcases Rat.le_iff_lt_or_eq.mp c0 with h|h
   ·exact h
   ·rw[<- h]at e1;grind
  refine⟨aD p.length r,mem_map.mpr ⟨r,hr,rfl⟩,?_,M*c,bJ mp cp,fun i' gX qz=>?_⟩
  ·show r.1≠.eq;rw[hR.kd];unfold jO at hj;exact of_decide_eq_true hj
  ·have e2:=hc i' gX;rw[w1 i' gX];split
   ·rename_i e;rw[if_pos e]at e2;rw[show M*c*u i'=M*(c*u i') by grind,<- e2];grind
   ·rename_i e;rw[if_neg e]at e2;rw[show M*c*u i'=M*(c*u i') by grind,<- e2];grind
theorem GS(hl:∀o∈os,o.2.1.length=p.length):∀r∈bj p os,nA p.length os.length (iC os) (jS os) (fun c=>p.getD c 0) (aD p.length r):=by
 intro r hr;rcases jC hl hr with⟨i,hi,h⟩|h
 ·obtain⟨M,mp,a1,a2,b1,w1⟩:=h.ex;refine⟨fun c hc=>?_,?_⟩
  ·rw[pW (k:=os.length) (i:=i) (f:=fun i=>(aD p.length r).w i*iC os i c) hi (fun c' iG cE=>by rw[w1 c' iG,if_neg (Ne.symm cE)];grind),w1 i hi,if_pos rfl,a1 c hc,a2];grind
  ·rw[pW (k:=os.length) (i:=i) (f:=fun i=>(aD p.length r).w i*jS os i) hi (fun c' iG cE=>by rw[w1 c' iG,if_neg (Ne.symm cE)];grind),w1 i hi,if_pos rfl,b1]
 ·obtain⟨M,mp,a1,a2,b1,w1⟩:=h.ex;refine⟨fun c hc=>?_,?_⟩
  ·rw[gO (k:=os.length) (f:=fun i=>(aD p.length r).w i*iC os i c) (fun c' iG=>by rw[w1 c' iG];grind),a1 c hc,a2];grind
  ·rw[gO (k:=os.length) (f:=fun i=>(aD p.length r).w i*jS os i) (fun c' iG=>by rw[w1 c' iG];grind),b1]
theorem tU(hl:∀o∈os,o.2.1.length=p.length):Run p.length os.length (jO os) (sO os) (iC os) (jS os) (fun c=>p.getD c 0) 0 (bH p os) (bj p os):=
 EY p.length 0 1 (bj p os) [] _ _ (by omega) rfl (tj hl) (A6 hl) (GS hl)
def gn (strict:Bool) (β:Rat) (kt:Bool) (v:Rat):Bool:=if v=β then(!strict || kt)else decide (v<β)
def aG (p:List Rat) (os:List Ol):List Row:=(bH p os).getD p.length []
def beyond (p:List Rat) (os:List Ol) (β:Rat):List Rat:=dH (bH p os) p.length (eC p.length (aG p os) β)
def aZ (strict:Bool) (p:List Rat) (β:Rat) (os:List Ol):Bool×List Rat:=match never p.length (aG p os)with
 |some w=>(true,w)
 |none=>match endOf p.length (aG p os) 1 with
  |none=>(false,beyond p os β)
  |some t=>if gn strict β t.1 t.2.1=true then(true,t.2.2)else(false,beyond p os β)
def g9 (os:List Ol) (ws:List Rat) (c:Nat):Rat:=sm os.length fun i=>ws.getD i 0*iC os i c
def k0 (os:List Ol) (ws:List Rat):Rat:=sm os.length fun i=>ws.getD i 0*jS os i
def sF (os:List Ol) (ws:List Rat):Prop:=∃i,i<os.length/\knd os i=.lt/\0<ws.getD i 0
structure Qr (os:List Ol) (ws:List Rat):Prop where
 len:ws.length=os.length
 nn:∀i,i<os.length->knd os i≠.eq->0<=ws.getD i 0
def Right (os:List Ol) (ws:List Rat) (strict:Bool) (p:List Rat) (β:Rat):Prop:=
 Qr os ws/\(((∀c,c<p.length->g9 os ws c=p.getD c 0)/\(k0 os ws<β\/(k0 os ws=β/\(strict=false\/sF os ws))))\/((∀c,c<p.length->g9 os ws c=0)/\(k0 os ws<0\/(k0 os ws=0/\sF os ws))))
def aF (p x:List Rat):Rat:=sm p.length fun c=>p.getD c 0*x.getD c 0
def cK (o:Ol) (x:List Rat):Prop:=rel o.1 (aF o.2.1 x) o.2.2
structure vf (os:List Ol) (strict:Bool) (p:List Rat) (β:Rat) (x:List Rat):Prop where
 len:x.length=p.length
 others:∀o∈os,cK o x
 line:¬rel (if strict=true then .lt else .le) (aF p x) β
theorem tm{f:Int->Rat}(f0:f 0=0):((l.drop m).map f).getD i 0=f (l.getD (m+i) 0):=by
 rw[getD_eq_getElem?_getD,getD_eq_getElem?_getD,getElem?_map,List.getElem?_drop];cases l[m+i]? with
 |none=>exact f0.symm
 |some x=>rfl
theorem Vf(q:Rat):((0:Int):Rat)/q=0:=by
 show(0:Rat)/q=0;grind
theorem oj(n c:Nat):(List.replicate n (0:Rat)).getD c 0=0:=by
 rw[getD_eq_getElem?_getD,getElem?_replicate];split<;>rfl
theorem wX:lM r (List.replicate (n+1) 0)=(aD n r).b:=by
 rw[zw (n:=n) (by rw[length_replicate])];have:vl n (aD n r) (xf (List.replicate (n+1) 0))=0:=gO fun c _=>by
  show _*(List.replicate (n+1) (0:Rat)).getD c 0=0;rw[oj];grind
 rw[this];grind
structure Tx (p:List Rat) (os:List Ol) (r:Row):Prop where
 len:r.2.length=p.length+2+os.length
 sums:∀c,c<p.length->sm os.length (fun i=>(aD p.length r).w i*iC os i c)=(aD p.length r).a p.length*p.getD c 0
 bd:sm os.length (fun i=>(aD p.length r).w i*jS os i)=(aD p.length r).b
 xq:r.1=.eq->∀i,i<os.length->knd os i≠.eq->(aD p.length r).w i=0
 nn:r.1≠.eq->∀i,i<os.length->knd os i≠.eq->0<=(aD p.length r).w i
 st:r.1=.lt->∃i,i<os.length/\knd os i=.lt/\0<(aD p.length r).w i
 zero:∀c,c<p.length->(aD p.length r).a c=0
theorem Gf(hl:∀o∈os,o.2.1.length=p.length)(hr:r∈aG p os):Tx p os r:=by
 have I:=tU hl;obtain⟨E,B,β,S⟩:=I.last;have L:=I.Se r (by rw[sub_zero];exact hr);have mem:aD p.length r∈((bH p os).getD (p.length-0) []).map (aD p.length):=mem_map.mpr ⟨r,by rw[sub_zero];exact hr,rfl⟩;have z:∀c,c<p.length->(aD p.length r).a c=0:=fun c hc=>S.zero _ mem c hc;refine⟨I.rs.len r (by rw[sub_zero];exact hr),fun c hc=>?_,L.b.symm,fun he i hi hk=>S.xq _ mem he i hi (decide_eq_true hk),fun he i hi hk=>S.nn _ mem he i hi (decide_eq_true hk),fun he=>?_,z⟩
 ·have:=L.a c hc;rw[z c hc]at this;grind
 ·obtain⟨i,hi,_,hs,hp⟩:=(S.st _ mem (by show r.1≠.eq;rw[he];simp)).mp he;exact⟨i,hi,of_decide_eq_true hs,hp⟩
structure Qc (p:List Rat) (os:List Ol) (ws:List Rat) (s b:Rat) (str:Bool):Prop where
 uR:Qr os ws
 parts:∀c,c<p.length->g9 os ws c=s*p.getD c 0
 bd:k0 os ws=b
 st:str=true->sF os ws
variable {ws:List Rat}
theorem qj{q:Rat}(h:Tx p os r)(hlen:ws.length=os.length)(hw:∀i,i<os.length->ws.getD i 0=q*(aD p.length r).w i)(hq:0<q\/r.1=.eq):Qc p os ws (q*(aD p.length r).a p.length) (q*(aD p.length r).b) (decide (r.1=.lt)):=by
 refine⟨⟨hlen,fun i hi hk=>?_⟩,fun c hc=>?_,?_,fun e=>?_⟩
 ·rw[hw i hi];by_cases he:r.1=.eq
  ·rw[h.xq he i hi hk];grind
  ·rcases hq with hq|hq
   ·exact d9 (le_of_lt hq) (h.nn he i hi hk)
   ·exact absurd hq he
 ·unfold g9;rw[aO (g:=fun i=>q*((aD p.length r).w i*iC os i c)) (fun i hi=>by rw[hw i hi];grind),bE,h.sums c hc];grind
 ·unfold k0;rw[aO (g:=fun i=>q*((aD p.length r).w i*jS os i)) (fun i hi=>by rw[hw i hi];grind),bE,h.bd]
 ·have e':=of_decide_eq_true e;obtain⟨i,hi,hk,hp⟩:=h.st e';refine⟨i,hi,hk,?_⟩;rw[hw i hi];rcases hq with hq|hq
  ·exact bJ hq hp
  ·rw[e']at hq;cases hq
theorem vQ(hl:∀o∈os,o.2.1.length=p.length)(ir:way=1\/way=-1){t:fz}(h:endOf p.length (aG p os) way=some t):Qc p os t.2.2 (way:Rat) t.2.1 t.1:=by
 obtain⟨⟨r,hr,hc,k1,k2,k3⟩,_⟩:=(jA (aG p os) p.length (List.replicate (p.length+1) 0) way).some t h;have L:=Gf hl hr;have oQ:way*ent r p.length≠0:=by rcases hc with hc|⟨hc,_⟩<;>omega
 have qne:((way*ent r p.length:Int):Rat)≠0:=fun z=>oQ (bN.mp z);have zL:0<((way*ent r p.length:Int):Rat)⁻¹\/r.1=.eq:=by
  rcases hc with hc|⟨_,e⟩
  ·exact .inl (inv_pos.mpr (iN.mpr hc))
  ·exact .inr e
 have hlen:t.2.2.length=os.length:=by
  rw[k3];unfold mY;rw[length_map,length_drop,L.len,length_replicate];omega
 have hw:∀i,i<os.length->t.2.2.getD i 0=((way*ent r p.length:Int):Rat)⁻¹*(aD p.length r).w i:=fun i hi=>by
  rw[k3];unfold mY;rw[length_replicate,tm (Vf _)];show(ent r (p.length+1+1+i):Rat)/_=_*(ent r (p.length+2+i):Rat);rw[show p.length+1+1+i=p.length+2+i by omega];grind
 have P:=qj L hlen hw zL;have e1:((way*ent r p.length:Int):Rat)⁻¹*(aD p.length r).a p.length=(way:Rat):=by
  show((way*ent r p.length:Int):Rat)⁻¹*(ent r p.length:Rat)=(way:Rat);have a0:(ent r p.length:Rat)≠0:=fun z=>oQ (by rw[bN.mp z];omega);rw[intCast_mul];rcases ir with e|e
  ·subst e;rw[Rat.intCast_one];grind
  ·subst e;have:((-1:Int):Rat)=-1:=rfl;rw[this];grind
 have e2:((way*ent r p.length:Int):Rat)⁻¹*(aD p.length r).b=t.2.1:=by
  rw[k2];unfold dE;rw[wX];grind
 rw[e1,e2,<- k1]at P;exact P
theorem yH{s strict:Bool}{β:Rat}(P:Qc p os ws 1 b s)(h:gn strict β s b=true):Right os ws strict p β:=by
 refine⟨P.uR,.inl ⟨fun c hc=>by rw[P.parts c hc];grind,?_⟩⟩;rw[P.bd];unfold gn at h;split at h
 ·rename_i e;refine .inr ⟨e,?_⟩;cases strict with
  |false=>exact .inl rfl
  |true=>cases s with
   |false=>simp at h
   |true=>exact .inr (P.st rfl)
 ·exact .inl (of_decide_eq_true h)
theorem AR(hl:∀o∈os,o.2.1.length=p.length)(h:never p.length (aG p os)=some ws):Qr os ws/\(∀c,c<p.length->g9 os ws c=0)/\(k0 os ws<0\/(k0 os ws=0/\sF os ws)):=by
 unfold never at h;cases hr:fq p.length (aG p os)with
 |some w=>
  rw[hr]at h;cases h;unfold fq at hr;obtain⟨r,hf,e⟩:∃r,(aG p os).find? (fun r=>decide (ent r p.length=0)&&cH r.1 (ent r (p.length+1):Rat))=some r/\_=ws:=by
   cases hf:(aG p os).find? (fun r=>decide (ent r p.length=0)&&cH r.1 (ent r (p.length+1):Rat))with
   |none=>rw[hf]at hr;cases hr
   |some r=>rw[hf]at hr;exact⟨r,rfl,Option.some.inj hr⟩
  have hm:=mem_of_find?_eq_some hf;have hp:=find?_some hf;rw[and_eq_true,decide_eq_true_iff]at hp;obtain⟨h0,hn⟩:=hp;have L:=Gf hl hm;have hlen:ws.length=os.length:=by rw[<- e,length_map,length_drop,L.len];omega
  by_cases hw:r.1=.eq/\0<ent r (p.length+1)
  ·have zG:∀i,i<os.length->ws.getD i 0=(-1)*(aD p.length r).w i:=fun i hi=>by
    rw[<- e,if_pos hw,tm (f:=fun(w:Int)=>(((-1:Int)*w:Int):Rat)) rfl,intCast_mul];rfl
   have P:=qj L hlen zG (.inr hw.1);refine⟨P.uR,fun c hc=>?_,.inl ?_⟩
   ·rw[P.parts c hc];have:(aD p.length r).a p.length=0:=bN.mpr h0;rw[this];grind
   ·rw[P.bd];have:0<(aD p.length r).b:=iN.mpr hw.2;grind
  ·have zG:∀i,i<os.length->ws.getD i 0=1*(aD p.length r).w i:=fun i hi=>by
    rw[<- e,if_neg hw,tm (f:=fun(w:Int)=>(((1:Int)*w:Int):Rat)) rfl,intCast_mul];rfl
   have P:=qj L hlen zG (.inl (by grind));have a0:(aD p.length r).a p.length=0:=bN.mpr h0;refine⟨P.uR,fun c hc=>by rw[P.parts c hc,a0];grind,?_⟩;rw[P.bd];have eb:1*(aD p.length r).b=(ent r (p.length+1):Rat):=by show 1*(ent r (p.length+1):Rat)=_;grind
   rw[eb];cases hk:r.1 with
   |eq=>
    rw[hk]at hn;have lH:(ent r (p.length+1):Rat)≠0:=of_decide_eq_true hn;have Sy:¬0<ent r (p.length+1):=fun z=>hw ⟨hk,z⟩;have hn3:ent r (p.length+1)≠0:=fun z=>lH (by rw[z];rfl);exact .inl (qt.mpr (by omega))
   |le=>rw[hk]at hn;exact .inl (of_decide_eq_true hn)
   |lt=>
    rw[hk]at hn;have lH:(decide ((ent r (p.length+1):Rat)<0) || decide ((ent r (p.length+1):Rat)=0))=true:=hn;rw[or_eq_true,decide_eq_true_iff,decide_eq_true_iff]at lH;rcases lH with z|z
    ·exact .inl z
    ·exact .inr ⟨z,P.st (decide_eq_true hk)⟩
 |none=>
  rw[hr]at h;have h':fD p.length (aG p os)=some ws:=h;unfold fD at h';cases ht:endOf p.length (aG p os) 1 with
  |none=>rw[ht]at h';cases h'
  |some t=>
   cases hb:endOf p.length (aG p os) (-1)with
   |none=>rw[ht,hb]at h';cases h'
   |some b=>
    rw[ht,hb]at h';have h2:(if cH (if t.1=true\/b.1=true then .lt else .le) (t.2.1+b.2.1)=true then some (zipWith (fun x y=>x+y) t.2.2 b.2.2)else none)=some ws:=h';by_cases hn:cH (if t.1=true\/b.1=true then .lt else .le) (t.2.1+b.2.1)=true
    ·rw[if_pos hn]at h2;have e:=Option.some.inj h2;have Pt:=vQ hl (.inl rfl) ht;have Pb:=vQ hl (.inr rfl) hb;have c1:((1:Int):Rat)=1:=rfl;have c2:((-1:Int):Rat)=-1:=rfl;rw[c1]at Pt;rw[c2]at Pb;have hlen:ws.length=os.length:=by rw[<- e,length_zipWith,Pt.uR.len,Pb.uR.len,min_self]
     have hw:∀i,i<os.length->ws.getD i 0=t.2.2.getD i 0+b.2.2.getD i 0:=fun i hi=>by
      rw[<- e,getD_eq_getElem?_getD,getD_eq_getElem?_getD,getD_eq_getElem?_getD,List.getElem?_zipWith,getElem?_eq_getElem (by rw[Pt.uR.len];exact hi),getElem?_eq_getElem (by rw[Pb.uR.len];exact hi)];rfl
     have S4:=Pt.uR.nn;have S6:=Pb.uR.nn;have hs:(t.1=true\/b.1=true)->sF os ws:=by
      rintro(z|z)
      ·obtain⟨i,hi,hk,hp⟩:=Pt.st z;have:=S6 i hi (by rw[hk];simp);exact⟨i,hi,hk,by rw[hw i hi];grind⟩
      ·obtain⟨i,hi,hk,hp⟩:=Pb.st z;have:=S4 i hi (by rw[hk];simp);exact⟨i,hi,hk,by rw[hw i hi];grind⟩
     have Xp:k0 os ws=t.2.1+b.2.1:=by
      rw[<- Pt.bd,<- Pb.bd];unfold k0;rw[<- dW];exact aO fun i hi=>by rw[hw i hi];grind
     refine⟨⟨hlen,fun i hi hk=>?_⟩,fun c hc=>?_,?_⟩
     ·have a:=S4 i hi hk;have b':=S6 i hi hk;rw[hw i hi];grind
     ·have e1:g9 os ws c=g9 os t.2.2 c+g9 os b.2.2 c:=by
       unfold g9;rw[<- dW];exact aO fun i hi=>by rw[hw i hi];grind
      rw[e1,Pt.parts c hc,Pb.parts c hc];grind
     ·rw[Xp];split at hn
      ·rename_i hst;have lH:(decide (t.2.1+b.2.1<0) || decide (t.2.1+b.2.1=0))=true:=hn;rw[or_eq_true,decide_eq_true_iff,decide_eq_true_iff]at lH;exact lH.elim .inl fun z=>.inr ⟨z,hs hst⟩
      ·exact .inl (of_decide_eq_true hn)
    ·rw[if_neg hn]at h2;cases h2
theorem vh(n:Nat)(t:Rat):xf (List.replicate n 0++[t])=put (xf (List.replicate (n+1) 0)) n t:=funext fun c=>by
 show(List.replicate n 0++[t]).getD c 0=if c=n then t else(List.replicate (n+1) (0:Rat)).getD c 0;rw[oj,getD_eq_getElem?_getD];by_cases e:c=n
 ·rw[if_pos e,e,getElem?_append_right (by rw[length_replicate];omega),length_replicate,Nat.sub_self];rfl
 ·rw[if_neg e];by_cases h:c<n
  ·rw[getElem?_append_left (by rw[length_replicate];exact h),getElem?_replicate,if_pos h];rfl
  ·rw[List.getElem?_eq_none (by rw[length_append,length_replicate,length_singleton];omega)];rfl
theorem EB{y:Nat->Rat}(h:ny p.length os.length os i r)(hy:∀c,c<p.length->y c=x.getD c 0)(ho:(os.getD i (.eq,[],0)).2.1.length=p.length):Hd p.length y (aD p.length r)->cK (os.getD i (.eq,[],0)) x:=by
 obtain⟨M,mp,a1,a2,b1,_⟩:=h.ex;intro hd;unfold Hd at hd;have ev:vl p.length (aD p.length r) y=M*aF (os.getD i (.eq,[],0)).2.1 x:=by
  unfold vl aF;show sm p.length _+(aD p.length r).a p.length*y p.length=_;rw[a2,ho,<- bE,aO (g:=fun c=>M*(iC os i c*x.getD c 0)) (fun c hc=>by rw[a1 c hc,hy c hc];grind)];show sm p.length (fun c=>M*(iC os i c*x.getD c 0))+0*y p.length=_;have:sm p.length (fun c=>M*(iC os i c*x.getD c 0))=sm p.length fun c=>M*((os.getD i (.eq,[],0)).2.1.getD c 0*x.getD c 0):=rfl;rw[this];grind
 rw[ev,b1]at hd;have hk:(aD p.length r).kd=(os.getD i (.eq,[],0)).1:=h.kd;rw[hk]at hd;unfold cK;have hb:jS os i=(os.getD i (.eq,[],0)).2.2:=rfl;rw[hb]at hd;generalize os.getD i (.eq,[],0)=o at *;cases Kz:o.1 with
 |eq=>
  rw[Kz]at hd;have dM:M*aF o.2.1 x=M*o.2.2:=hd;have:M*(aF o.2.1 x-o.2.2)=0:=by grind
  show aF o.2.1 x=o.2.2;rcases mul_eq_zero.mp this with z|z<;>grind
 |le=>rw[Kz]at hd;exact Rat.le_of_mul_le_mul_left hd mp
 |lt=>rw[Kz]at hd;exact Rat.lt_of_mul_lt_mul_left hd (le_of_lt mp)
theorem Ir(hl:∀o∈os,o.2.1.length=p.length){t:Rat}(h:∀r∈aG p os,Hd p.length (put (xf (List.replicate (p.length+1) 0)) p.length t) (aD p.length r)):
  (dH (bH p os) p.length t).length=p.length/\(∀o∈os,cK o (dH (bH p os) p.length t))/\aF p (dH (bH p os) p.length t)=t:=by
 have I:=tU hl;have h0:∀c,c<p.length->(List.replicate p.length 0++[t]).getD c 0=0:=fun c hc=>by
  have:=congrFun (vh p.length t) c;have e:(List.replicate p.length 0++[t]).getD c 0=put (xf (List.replicate (p.length+1) 0)) p.length t c:=this;rw[e];unfold put;rw[if_neg (by omega)];exact oj _ _
 obtain⟨e1,e2,e3⟩:=K8 I p.length (List.replicate p.length 0++[t]) (le_refl _) (by rw[length_append,length_replicate,length_singleton]) h0 (fun r hr=>by rw[vh];exact h r hr);generalize hX:dX (bH p os) p.length (List.replicate p.length 0++[t])=X at e1 e2 e3;have hP:dH (bH p os) p.length t=X.take p.length:=by unfold dH;rw[hX]
 have hy:∀c,c<p.length->xf X c=(X.take p.length).getD c 0:=fun c hc=>by
  show X.getD c 0=_;rw[getD_eq_getElem?_getD,getD_eq_getElem?_getD,List.getElem?_take,if_pos hc]
 have et:X.getD p.length 0=t:=by
  rw[e2];have:=congrFun (vh p.length t) p.length;have e:(List.replicate p.length 0++[t]).getD p.length 0=put (xf (List.replicate (p.length+1) 0)) p.length t p.length:=this;rw[e];unfold put;rw[if_pos rfl]
 rw[hP];refine⟨by rw[length_take,e1];omega,fun o ho=>?_,?_⟩
 ·obtain⟨i,hi,e⟩:=List.getElem_of_mem ho;obtain⟨r,hr,hR⟩:=yE hl hi;have eo:os.getD i (.eq,[],0)=o:=by rw[getD_eq_getElem?_getD,getElem?_eq_getElem hi,e];rfl
  have:=EB hR hy (by rw[eo];exact hl o ho) (e3 r hr);rw[eo]at this;exact this
 ·have hs:=e3 (eO p os.length) (by unfold bj;simp);obtain⟨M,mp,a1,a2,b1,_⟩:=(yv (p:=p) os.length).ex;unfold Hd at hs;have hk:(aD p.length (eO p os.length)).kd=.eq:=rfl;rw[hk]at hs;have rW:vl p.length (aD p.length (eO p os.length)) (xf X)=(aD p.length (eO p os.length)).b:=hs;rw[b1]at rW;have ev:vl p.length (aD p.length (eO p os.length)) (xf X)=(-M)*aF p (X.take p.length)+M*t:=by
   unfold vl aF;show sm p.length _+(aD p.length (eO p os.length)).a p.length*xf X p.length=_;rw[a2,<- bE,aO (g:=fun c=>(-M)*(p.getD c 0*(X.take p.length).getD c 0)) (fun c hc=>by rw[a1 c hc,hy c hc];grind)];show _+M*X.getD p.length 0=_;rw[et]
  rw[ev]at rW;have:M*(aF p (X.take p.length)-t)=0:=by grind
  rcases mul_eq_zero.mp this with z|z<;>grind
theorem Bs(hl:∀o∈os,o.2.1.length=p.length)(hn:never p.length (aG p os)=none){t:Rat}(hu:∀s v,vj (endOf p.length (aG p os) 1)=some (s,v)->t<=v/\(s=true->t<v))(hb:∀s v,nP (endOf p.length (aG p os) (-1))=some (s,v)->v<=t/\(s=true->v<t)):
  ∀r∈aG p os,Hd p.length (put (xf (List.replicate (p.length+1) 0)) p.length t) (aD p.length r):=by
 intro r hr;have T:=pR (n:=p.length) (j:=p.length) (rows:=aG p os) (x:=List.replicate (p.length+1) 0) (by rw[length_replicate]) (le_refl _) (oj _ _);have Bt:=pS (n:=p.length) (j:=p.length) (rows:=aG p os) (x:=List.replicate (p.length+1) 0) (by rw[length_replicate]) (le_refl _) (oj _ _);have mem:aD p.length r∈(aG p os).map (aD p.length):=mem_map.mpr ⟨r,hr,rfl⟩;have OU:fq p.length (aG p os)=none:=by
  unfold never at hn;cases h:fq p.length (aG p os)with
  |none=>rfl
  |some w=>rw[h]at hn;cases hn
 by_cases h0:ent r p.length=0
 ·have a0:(aD p.length r).a p.length=0:=bN.mpr h0;have hf:cH r.1 (ent r (p.length+1):Rat)=false:=by
   unfold fq at OU;rw[Option.map_eq_none_iff]at OU;have:=List.find?_eq_none.mp OU r hr;cases hz:cH r.1 (ent r (p.length+1):Rat)with
   |false=>rfl
   |true=>rw[hz]at this;exact absurd (by simp[h0]) this
  rw[zQ (le_refl _) a0];have hv:vl p.length (aD p.length r) (xf (List.replicate (p.length+1) 0))=0:=gO fun c _=>by
   show _*(List.replicate (p.length+1) (0:Rat)).getD c 0=0;rw[oj];grind
  unfold Hd;rw[hv];show rel r.1 0 (ent r (p.length+1):Rat);generalize (ent r (p.length+1):Rat)=b at hf;cases hk:r.1 with
  |eq=>rw[hk]at hf;have:=of_decide_eq_false hf;show 0=b;grind
  |le=>rw[hk]at hf;have:=of_decide_eq_false hf;show 0<=b;grind
  |lt=>
   rw[hk]at hf;have zP:(decide (b<0) || decide (b=0))=false:=hf;rw[Bool.or_eq_false_iff,decide_eq_false_iff_not,decide_eq_false_iff_not]at zP;show 0<b;grind
 ·
  have up:isUp (aD p.length r) p.length->t<=Nm p.length (aD p.length r) (xf (List.replicate (p.length+1) 0)) p.length/\(r.1=.lt->t<Nm p.length (aD p.length r) (xf (List.replicate (p.length+1) 0)) p.length):=by
   intro hi;cases hg:vj (endOf p.length (aG p os) 1)with
   |none=>exact absurd hi (T.none hg _ mem)
   |some g=>
    obtain⟨s,v⟩:=g;obtain⟨h1,h2⟩:=(T.some s v hg).2 _ mem hi;obtain⟨h3,h4⟩:=hu s v hg;refine⟨by grind,fun e=>?_⟩;by_cases z:Nm p.length (aD p.length r) (xf (List.replicate (p.length+1) 0)) p.length=v
    ·have:=h4 (h2 e z);grind
    ·grind
  have lo:oO (aD p.length r) p.length->Nm p.length (aD p.length r) (xf (List.replicate (p.length+1) 0)) p.length<=t/\(r.1=.lt->Nm p.length (aD p.length r) (xf (List.replicate (p.length+1) 0)) p.length<t):=by
   intro hi;cases hg:nP (endOf p.length (aG p os) (-1))with
   |none=>exact absurd hi (Bt.none hg _ mem)
   |some g=>
    obtain⟨s,v⟩:=g;obtain⟨h1,h2⟩:=(Bt.some s v hg).2 _ mem hi;obtain⟨h3,h4⟩:=hb s v hg;refine⟨by grind,fun e=>?_⟩;by_cases z:Nm p.length (aD p.length r) (xf (List.replicate (p.length+1) 0)) p.length=v
    ·have:=h4 (h2 e z);grind
    ·grind
  have a0:(aD p.length r).a p.length≠0:=fun z=>h0 (bN.mp z);unfold Hd;by_cases hp:0<(aD p.length r).a p.length
  ·cases hk:r.1 with
   |eq=>
    have kZ:(aD p.length r).kd=.eq:=hk;rw[kZ];have a:=(up (.inl hp)).1;have b:=(lo (.inr ⟨hp,hk⟩)).1;exact(oZ (le_refl _) a0).mpr (by grind)
   |le=>
    have kZ:(aD p.length r).kd=.le:=hk;rw[kZ];exact(Dh (le_refl _) hp).mpr (up (.inl hp)).1
   |lt=>
    have kZ:(aD p.length r).kd=.lt:=hk;rw[kZ];exact(Dg (le_refl _) hp).mpr ((up (.inl hp)).2 hk)
  ·have lH:(aD p.length r).a p.length<0:=by grind
   cases hk:r.1 with
   |eq=>
    have kZ:(aD p.length r).kd=.eq:=hk;rw[kZ];have a:=(up (.inr ⟨lH,hk⟩)).1;have b:=(lo (.inl lH)).1;exact(oZ (le_refl _) a0).mpr (by grind)
   |le=>
    have kZ:(aD p.length r).kd=.le:=hk;rw[kZ];exact(lo_le (le_refl _) lH).mpr (lo (.inl lH)).1
   |lt=>
    have kZ:(aD p.length r).kd=.lt:=hk;rw[kZ];exact(DM (le_refl _) lH).mpr ((lo (.inl lH)).2 hk)
theorem xw(hn:never p.length (aG p os)=none){s s':Bool}{v':Rat}(hu:vj (endOf p.length (aG p os) 1)=some (s,v))(hb:nP (endOf p.length (aG p os) (-1))=some (s',v')):v'<=v/\(s=true\/s'=true->v'<v):=by
 have cE:fD p.length (aG p os)=none:=by
  unfold never at hn;cases h:fq p.length (aG p os)with
  |none=>rw[h]at hn;exact hn
  |some w=>rw[h]at hn;cases hn
 unfold fD at cE;cases ht:endOf p.length (aG p os) 1 with
 |none=>rw[ht]at hu;cases hu
 |some t=>
  cases xj:endOf p.length (aG p os) (-1)with
  |none=>rw[xj]at hb;cases hb
  |some b=>
   rw[ht]at hu;rw[xj]at hb;have Gu:(t.1,t.2.1)=(s,v):=Option.some.inj hu;have GI:(b.1,0-b.2.1)=(s',v'):=Option.some.inj hb;injection Gu with u1 u2;injection GI with b1 b2;rw[ht,xj]at cE;have h2:(if cH (if t.1=true\/b.1=true then .lt else .le) (t.2.1+b.2.1)=true then some (zipWith (fun x y=>x+y) t.2.2 b.2.2)else none)=none:=cE;by_cases hz:cH (if t.1=true\/b.1=true then .lt else .le) (t.2.1+b.2.1)=true
   ·rw[if_pos hz]at h2;cases h2
   ·split at hz
    ·have zD:¬(decide (t.2.1+b.2.1<0) || decide (t.2.1+b.2.1=0))=true:=hz;rw[or_eq_true,decide_eq_true_iff,decide_eq_true_iff]at zD;have z1:¬t.2.1+b.2.1<0:=fun z=>zD (.inl z);have z2:¬t.2.1+b.2.1=0:=fun z=>zD (.inr z);exact⟨by grind,fun _=>by grind⟩
    ·rename_i hst;have z1:¬t.2.1+b.2.1<0:=fun z=>hz (decide_eq_true z);exact⟨by grind,fun z=>absurd (by rw[u1,b1];exact z) hst⟩
theorem xH(hl:∀o∈os,o.2.1.length=p.length){strict:Bool}{β:Rat}(hn:never p.length (aG p os)=none)(hk:∀t,endOf p.length (aG p os) 1=some t->gn strict β t.1 t.2.1=false):vf os strict p β (beyond p os β):=by

 have key:∀lst:Rat,β<=lst->(∀s v,nP (endOf p.length (aG p os) (-1))=some (s,v)->v<=lst/\(lst=v\/lst=β))->(nP (endOf p.length (aG p os) (-1))=none->lst=β)->
   (∀r∈aG p os,Hd p.length (put (xf (List.replicate (p.length+1) 0)) p.length (gI (some lst) (gF (endOf p.length (aG p os) 1)))) (aD p.length r))/\¬rel (if strict=true then .lt else .le) (gI (some lst) (gF (endOf p.length (aG p os) 1))) β:=by
  intro lst h1 h2 h3;cases ht:endOf p.length (aG p os) 1 with
  |none=>
   have eb:gI (some lst) (gF none)=lst+1:=rfl;rw[eb];refine⟨Bs hl hn (fun s v e=>by rw[ht]at e;cases e) (fun s v e=>?_),?_⟩
   ·obtain⟨a,_⟩:=h2 s v e;exact⟨by grind,fun _=>by grind⟩
   ·cases strict with
    |true=>show ¬lst+1<β;grind
    |false=>show ¬lst+1<=β;grind
  |some t=>
   have eb:gI (some lst) (gF (some t))=(lst+t.2.1)/2:=rfl;rw[eb];have xh:=hk t ht;have IU:vj (endOf p.length (aG p os) 1)=some (t.1,t.2.1):=by rw[ht];rfl
   unfold gn at xh;have dt:β<=t.2.1/\(t.2.1=β->strict=true/\t.1=false):=by
    split at xh
    ·rename_i e;refine⟨by grind,fun _=>?_⟩;cases strict with
     |false=>simp at xh
     |true=>exact⟨rfl,by simpa using xh⟩
    ·rename_i e;have:=of_decide_eq_false xh;exact⟨by grind,fun z=>absurd z e⟩
   have IY:lst<=t.2.1/\(t.1=true->lst<t.2.1):=by
    cases hb:nP (endOf p.length (aG p os) (-1))with
    |none=>
     rw[h3 hb];refine⟨dt.1,fun z=>?_⟩;have:t.2.1≠β:=fun e=>by have:=(dt.2 e).2;rw[z]at this;cases this
     have:=dt.1;grind
    |some b=>
     obtain⟨s',v'⟩:=b;obtain⟨r1,r2⟩:=xw hn IU hb;obtain⟨q1,q2⟩:=h2 s' v' hb;rcases q2 with q2|q2
     ·rw[q2];exact⟨r1,fun z=>r2 (.inl z)⟩
     ·rw[q2];refine⟨dt.1,fun z=>?_⟩;have:t.2.1≠β:=fun e=>by have:=(dt.2 e).2;rw[z]at this;cases this
      have:=dt.1;grind
   refine⟨Bs hl hn (fun s v e=>?_) (fun s v e=>?_),?_⟩
   ·rw[IU]at e;have e':(t.1,t.2.1)=(s,v):=Option.some.inj e;injection e' with u1 u2;rw[<- u1,<- u2];refine⟨by have:=IY.1;grind,fun z=>?_⟩;have:=IY.2 z;grind
   ·obtain⟨q1,q2⟩:=h2 s v e;have a:=IY.1;refine⟨by grind,fun z=>?_⟩;obtain⟨r1,r2⟩:=xw hn IU e;have:=r2 (.inr z);grind
   ·cases strict with
    |true=>
     show ¬(lst+t.2.1)/2<β;have:=dt.1;grind
    |false=>
     show ¬(lst+t.2.1)/2<=β;have a:=dt.1;have b:t.2.1≠β:=fun e=>by have:=(dt.2 e).1;cases this
     grind
 have UZ:∃lst:Rat,β<=lst/\(∀s v,nP (endOf p.length (aG p os) (-1))=some (s,v)->v<=lst/\(lst=v\/lst=β))/\(nP (endOf p.length (aG p os) (-1))=none->lst=β)/\eC p.length (aG p os) β=gI (some lst) (gF (endOf p.length (aG p os) 1)):=by
  unfold eC;cases hb:endOf p.length (aG p os) (-1)with
  |none=>exact⟨β,by grind,(fun s v e=>by cases e),fun _=>rfl,rfl⟩
  |some b=>
   by_cases c:0-b.2.1<β
   ·refine⟨β,by grind,fun s v e=>?_,fun _=>rfl,?_⟩
    ·have e':(b.1,0-b.2.1)=(s,v):=Option.some.inj e;injection e' with u1 u2;exact⟨by grind,.inr rfl⟩
    ·show gI (some (if 0-b.2.1<β then β else 0-b.2.1)) _=_;rw[if_pos c]
   ·refine⟨0-b.2.1,by grind,fun s v e=>?_,(fun e=>by cases e),?_⟩
    ·have e':(b.1,0-b.2.1)=(s,v):=Option.some.inj e;injection e' with u1 u2;exact⟨by grind,.inl u2⟩
    ·show gI (some (if 0-b.2.1<β then β else 0-b.2.1)) _=_;rw[if_neg c]
 obtain⟨lst,a1,a2,a3,a4⟩:=UZ;obtain⟨b1,b2⟩:=key lst a1 a2 a3;rw[<- a4]at b1 b2;obtain⟨c1,c2,c3⟩:=Ir hl b1;exact⟨c1,c2,by show ¬rel _ (aF p (dH (bH p os) p.length _)) β;rw[c3];exact b2⟩
theorem rH(hl:∀o∈os,o.2.1.length=p.length)(strict:Bool)(β:Rat):((aZ strict p β os).1=true/\Right os (aZ strict p β os).2 strict p β)\/((aZ strict p β os).1=false/\vf os strict p β (aZ strict p β os).2):=by
 unfold aZ;cases hn:never p.length (aG p os)with
 |some w=>
  obtain⟨h1,h2,h3⟩:=AR hl hn;exact .inl ⟨rfl,h1,.inr ⟨h2,h3⟩⟩
 |none=>
  cases ht:endOf p.length (aG p os) 1 with
  |none=>exact .inr ⟨rfl,xH hl hn fun t e=>by rw[ht]at e;cases e⟩
  |some t=>
   dsimp only;by_cases c:gn strict β t.1 t.2.1=true
   ·rw[if_pos c];have P:=vQ hl (.inl rfl) ht;have c1:((1:Int):Rat)=1:=rfl;rw[c1]at P;exact .inl ⟨rfl,yH P c⟩
   ·rw[if_neg c];refine .inr ⟨rfl,xH hl hn fun t' e=>?_⟩;rw[ht]at e;cases e;simpa using c
end
end FM
set_option maxHeartbeats 4000000
namespace L3
noncomputable section
open PySem PySem.Spec PyProof.Rows L2
open PySem.W (Dat kqdOk)
theorem CG(a b:Int):eqB (.int a) (.int b)=some (decide (a=b)):=by
 have h:eqB (.int a) (.int b)=if kqdOk 9 (.int a)=true/\kqdOk 9 (.int b)=true then some (lz (.int a) (.int b))else none:=rfl;rw[h,if_pos ⟨rfl,rfl⟩];congr 1
 by_cases e:a=b
 ·rw[mM (by rw[e]),decide_eq_true e]
 ·rw[mN (fun z=>e (by injection z)),decide_eq_false e]
theorem d7(a b:Int):cU (.int a) (.int b)=some (.bool (decide (a=b))):=by unfold cU;rw[CG];rfl
theorem dI(a b:Int):gk (.int a) (.int b)=some (.bool (!decide (a=b))):=by unfold gk;rw[CG];rfl
theorem fN(a b:Int):Dm (.int a) (.int b)=some (.int (a-b)):=iE trivial
theorem d6(a b:Int):Ge (.int a) (.int b)=some (.bool (decide (a<b))):=iE trivial
theorem Cb(a b:Int):Sf (.int a) (.int b)=some (.bool (decide (a<=b))):=iE trivial
theorem gR(a b:Int):GN (.int a) (.int b)=some (.bool (decide (b<a))):=iE trivial
theorem Ct(a b:Int):SX (.int a) (.int b)=some (.bool (decide (b<=a))):=iE trivial
variable {a b:Int}
theorem i5(h:b≠0):vE (.int a) (.int b)=some (.int (a.fmod b)):=iE h
theorem iQ(h:b≠0)(_:b.natAbs.log2<9000000):rK (.int a) (.int b)=some (.int (a.fdiv b)):=iE h
theorem oM(h:IntMulOk a b):jE (.int a) (.int b)=some (.int (a*b)):=iE h
theorem cD(a b:Int):lA (.int a) (.int b)=some (.int (a+b)):=rfl
theorem jH(c:Int):Ee [.int c]=some (.int (c.natAbs:Int)):=by
 show some (Dat.int (if c<0 then -c else c))=_;congr 2
 split<;>omega
variable {Γ af:ax} {g1 g2:ax->Option Fl}
theorem ak(h:g1 Γ=some (.nx af)):dO g1 g2 Γ=g2 af:=by unfold dO;rw[h];rfl
variable {d:Dat}
theorem LF(h:g1 Γ=some (.rt d)):dO g1 g2 Γ=some (.rt d):=by unfold dO;rw[h];rfl
variable {f:aw->Option Dat} {i:Nat}
theorem lR(h:f (bx Γ)=some d):ik i f Γ=some (.nx (Γ.set i (some (.a7 d)))):=by unfold ik;rw[h]
variable {ft:aw->Option Bool}
theorem ng(h:ft (bX Γ)=some true):kv ft g1 g2 Γ=g1 Γ:=by unfold kv;rw[h];rfl
theorem r9(h:ft (bX Γ)=some false):kv ft g1 g2 Γ=g2 Γ:=by unfold kv;rw[h];rfl
theorem Bx(h:f (bX Γ)=some d):k6 f Γ=some (.rt d):=by unfold k6;rw[h];rfl
variable {gb:ax->Option Fl} {n:Nat}
theorem yj(h:ft (bX Γ)=some false):fK ft gb (n+1) Γ=some (.nx Γ):=by show(ft (bX Γ)).bind _=_;rw[h];rfl
theorem yi(h:ft (bX Γ)=some true)(h2:gb Γ=some (.nx af)):fK ft gb (n+1) Γ=fK ft gb n af:=by
 show(ft (bX Γ)).bind _=_;rw[h];show(gb Γ).bind _=_;rw[h2];rfl
variable {ds:List Dat}
theorem bP{N:List Str}{g:ax->Option Fl}(h:g (cT N ds)=some (.rt d)):jB N g ds=some d:=by unfold jB;rw[h]
open PySem PySem.Spec PyProof.Rows L2
open PySem.W (Dat kqdOk)
theorem cZ{gt:Dat->Option cW}{fe:aw->Option Dat}{pN:aw}:∀(ao out:List Dat),ao.length=out.length->(∀(i:Nat) (d o:Dat),ao[i]?=some d->out[i]?=some o->∃as,gt d=some as/\fe (kC pN as)=some o)->cf gt gL fe pN ao=some out
 |[],[],_,_=>rfl
 |[],_::_,h,_=>by simp at h
 |_::_,[],h,_=>by simp at h
 |d::ao,o::out,h,st=>by
  obtain⟨as,e1,e2⟩:=st 0 d o rfl rfl;have ih:=cZ ao out (by simpa using h) fun i d' o' h1 h2=>st (i+1) d' o' (by simpa using h1) (by simpa using h2);simp only[cf,e1,Option.bind_some,gL,if_true,e2,ih,map_some]
open PySem PySem.Spec PyProof.Rows L2
open PySem.W (Dat kqdOk)
theorem oW{gt:Dat->Option cW}{gb:ax->Option Fl}{β τ:Type}(enc:β->Dat)(St:τ->ax->Prop)(Q:τ->List β->Prop)(dA:τ->β->τ)(step:∀s p l Γ,Q s (p::l)->St s Γ->∃as,gt (enc p)=some as/\∃af,gb (setG Γ as)=some (.nx af)/\St (dA s p) af/\Q (dA s p) l):∀(l:List β) (s:τ) (Γ:ax),Q s l->St s Γ->∃af,forL gt gb (l.map enc) Γ=some (.nx af)/\St (l.foldl dA s) af
 |[],s,Γ,_,h=>⟨Γ,rfl,h⟩
 |p::l,s,Γ,q,h=>by
  obtain⟨as,e1,Γ1,e2,h1,q1⟩:=step s p l Γ q h;obtain⟨tN,e3,h2⟩:=oW enc St Q dA step l (dA s p) Γ1 q1 h1;refine⟨tN,?_,h2⟩;rw[map_cons];show(gt (enc p)).bind _=_;rw[e1];show(gb (setG Γ as)).bind _=_;rw[e2];exact e3
variable {gt:Dat->Option cW} {β τ:Type}
theorem gY(enc:β->Dat)(St:τ->ax->Prop)(Q:τ->List β->Prop)(dA:τ->β->τ){l:List β}{s:τ}(hf:f (bx Γ)=some d)(hi:cJ d=some (l.map enc))(hq:Q s l)(hs:St s Γ)(step:∀s p l Γ,Q s (p::l)->St s Γ->∃as,gt (enc p)=some as/\∃af,gb (setG Γ as)=some (.nx af)/\St (dA s p) af/\Q (dA s p) l):∃af,nK gt gb f Γ=some (.nx af)/\St (l.foldl dA s) af:=by
 obtain⟨af,e,h⟩:=oW (gt:=gt) (gb:=gb) enc St Q dA step l s Γ hq hs;refine⟨af,?_,h⟩;unfold nK;rw[hf];show(cJ d).bind _=_;rw[hi];exact e
theorem xn{gt:Dat->Option cW}{gb:ax->Option Fl}{β:Type}(enc:β->Dat)(I:ax->Prop)(p:β->Bool)(rt:β->Dat):∀(l:List β) (Γ:ax),I Γ->(∀x∈l,∀Γ,I Γ->∃as,gt (enc x)=some as/\if p x=true then gb (setG Γ as)=some (.rt (rt x))else ∃af,gb (setG Γ as)=some (.nx af)/\I af)->
  (∃x,l.find? p=some x/\forL gt gb (l.map enc) Γ=some (.rt (rt x)))\/(l.find? p=none/\∃af,forL gt gb (l.map enc) Γ=some (.nx af)/\I af)
 |[],Γ,h,_=>.inr ⟨rfl,Γ,rfl,h⟩
 |x::l,Γ,h,st=>by
  obtain⟨as,e1,e2⟩:=st x mem_cons_self Γ h;by_cases c:p x=true
  ·rw[if_pos c]at e2;refine .inl ⟨x,by rw[List.find?_cons_of_pos c],?_⟩;rw[map_cons];show(gt (enc x)).bind _=_;rw[e1];show(gb (setG Γ as)).bind _=_;rw[e2];rfl
  ·rw[if_neg c]at e2;obtain⟨Γ1,e2,h1⟩:=e2;have e3:forL gt gb ((x::l).map enc) Γ=forL gt gb (l.map enc) Γ1:=by
    rw[map_cons];show(gt (enc x)).bind _=_;rw[e1];show(gb (setG Γ as)).bind _=_;rw[e2];rfl
   rw[e3,List.find?_cons_of_neg c];exact xn enc I p rt l Γ1 h1 fun y hy=>st y (mem_cons_of_mem _ hy)
theorem xo(enc:β->Dat)(I:ax->Prop)(p:β->Bool)(rt:β->Dat){l:List β}{fl:Option β->Fl}(hf:f (bx Γ)=some d)(hi:cJ d=some (l.map enc))(hs:I Γ)(st:∀x∈l,∀Γ,I Γ->∃as,gt (enc x)=some as/\if p x=true then gb (setG Γ as)=some (.rt (rt x))else ∃af,gb (setG Γ as)=some (.nx af)/\I af)(h1:∀x,fl (some x)=.rt (rt x))(h2:∀af,I af->g2 af=some (fl none)):
  dO (nK gt gb f) g2 Γ=some (fl (l.find? p)):=by
 have e:nK gt gb f Γ=forL gt gb (l.map enc) Γ:=by
  unfold nK;rw[hf];show(cJ d).bind _=_;rw[hi];rfl
 unfold dO;rw[e];rcases xn enc I p rt l Γ hs st with⟨x,e1,e2⟩|⟨e1,af,e2,h'⟩
 ·rw[e1,e2,h1];rfl
 ·rw[e1,e2];exact h2 af h'
theorem gc{fl:Fl}(I:ax->Prop)(h:∃af,g1 Γ=some (.nx af)/\I af)(fin:∀af,I af->g2 af=some fl):dO g1 g2 Γ=some fl:=by
 obtain⟨af,e,h⟩:=h;unfold dO;rw[e];exact fin af h
open PySem PySem.Spec PyProof.Rows L2
open PySem.W (Dat kqdOk)
theorem j6{gt:Dat->Option cW}{ft:aw->Option Bool}{fe:aw->Option Dat}{pN:aw}{β:Type}(enc:β->Dat)(Je:β->Dat)(p:β->Bool):∀(l:List β),(∀x∈l,∃as,gt (enc x)=some as/\ft (kC pN as)=some (p x)/\(p x=true->fe (kC pN as)=some (Je x)))->cf gt ft fe pN (l.map enc)=some ((l.filter p).map Je)
 |[],_=>rfl
 |x::l,h=>by
  obtain⟨as,e1,e2,e3⟩:=h x mem_cons_self;have ih:=j6 enc Je p l fun y hy=>h y (mem_cons_of_mem _ hy);rw[map_cons,cf,e1,Option.bind_some,e2,Option.bind_some,filter_cons];by_cases c:p x=true
  ·rw[if_pos c,if_pos c,e3 c,Option.bind_some,ih];rfl
  ·rw[if_neg c,if_neg c];exact ih
variable {I:ax->Prop}
theorem Mk{A:ax->Option Fl}{J:ax->Prop}(h:∃af,A Γ=some (.nx af)/\I af)(k:∀af,I af->J af):∃af,A Γ=some (.nx af)/\J af:=let ⟨af,e,i⟩:=h;⟨af,e,k af i⟩
open PySem PySem.Spec PyProof.Rows L2
open PySem.W (Dat kqdOk)
variable {fi:aw->Option (List Dat)}
theorem l6(enc:β->Dat)(St:τ->ax->Prop)(Q:τ->List β->Prop)(dA:τ->β->τ){l:List β}{s:τ}(hf:fi (bx Γ)=some (l.map enc))(hq:Q s l)(hs:St s Γ)(step:∀s p l Γ,Q s (p::l)->St s Γ->∃as,gt (enc p)=some as/\∃af,gb (setG Γ as)=some (.nx af)/\St (dA s p) af/\Q (dA s p) l):∃af,lK gt gb fi Γ=some (.nx af)/\St (l.foldl dA s) af:=by
 obtain⟨af,e,h⟩:=oW (gt:=gt) (gb:=gb) enc St Q dA step l s Γ hq hs;refine⟨af,?_,h⟩;unfold lK;rw[hf];exact e
variable {out:List Dat}
theorem Bv{g:aw->Option (List Dat)}(h:g (bx Γ)=some out):oA i g Γ=some (.nx (Γ.set i (some (.a7 (.list out))))):=by
 unfold oA;rw[h];rfl
variable {ρ:aw}
theorem An{bh:List (Option Nat)}{fe:aw->Option Dat}(h:fi ρ=some ds)(hl:ds.length<sizeLine)(hc:cf gt ft fe (dF bh ρ) ds=some out):gS bh gt ft fe fi ρ=some out:=by
 unfold gS;rw[h,Option.bind_some,if_pos hl,hc]
variable {rg:List Dat->Option (List Dat)}
theorem oP{fs:aw->Option (List Dat)}{as:List Dat}(h:fs ρ=some as)(h2:rg as=some ds):qv rg fs ρ=some ds:=by
 unfold qv;rw[h];exact h2
end
end L3
namespace FM
noncomputable section
open PySem
theorem qq{l:List Int}{p:Nat}(h:l.getD p 0≠0):∃x∈l,x≠0:=⟨_,mem_getD h,h⟩
variable {J:Nat->Bool} {B:Nat->Nat->Rat} {j n k:Nat} {β:Nat->Rat} {E:List Nat}
variable {St:Nat->Bool} in
theorem M5{rows:List Row}(hR:Rs n k rows)(S:Sg n k j J St E B β (rows.map (aD n)))(hn:ey j rows=none):
  ∀u∈rows,∀l∈rows,0<ent u j->ent l j<0->∃x∈fQ u.2 (-ent l j) l.2 (ent u j),x≠0:=by
 have mem:∀{r:Row},r∈rows->aD n r∈rows.map (aD n):=fun h=>mem_map.mpr ⟨_,h,rfl⟩;have oJ:∀r∈rows,r.1=.eq->ent r j=0:=fun r hr he=>by
  have:=List.find?_eq_none.mp hn r hr;apply Classical.byContradiction
  intro z;exact this (by simp[he,z])
 have kq:∀{r:Row},r∈rows->ent r j≠0->(aD n r).kd≠.eq:=fun hr h e=>h (oJ _ hr e);intro up hu lo hl pu pl;obtain⟨i,hi,hj,hp⟩:=S.pos (aD n up) (mem hu) (kq hu (by omega));have b:=S.nn (aD n lo) (mem hl) (kq hl (by omega)) i hi hj;have gq:0<ent up (n+2+i):=iN.mp hp;have GI:0<=ent lo (n+2+i):=by
  have b':(0:Rat)<=(ent lo (n+2+i):Rat):=b;have:((0:Int):Rat)<=(ent lo (n+2+i):Rat):=b';exact Rat.intCast_le_intCast.mp this
 have h1:=mul_pos (show 0 < -ent lo j by omega) gq;have h2:=Int.mul_nonneg (Int.le_of_lt pu) GI;refine qq (p:=n+2+i) ?_;rw[mx (by rw[hR.len up hu,hR.len lo hl])];have e1:up.2.getD (n+2+i) 0=ent up (n+2+i):=rfl;have e2:lo.2.getD (n+2+i) 0=ent lo (n+2+i):=rfl;rw[e1,e2];omega
variable {St:Nat->Bool} in
theorem Qt{rows:List Row}{q r:Row}(hR:Rs n k rows)(S:Sg n k j J St E B β (rows.map (aD n)))(hq:q∈rows)(qe:q.1=.eq)(q0:ent q j≠0)(hr:r∈rows)(cE:r≠q):
  ∃x∈fQ r.2 ((ent q j).natAbs:Int) q.2 (if 0<ent q j then -ent r j else ent r j),x≠0:=by
 have mem:∀{r:Row},r∈rows->aD n r∈rows.map (aD n):=fun h=>mem_map.mpr ⟨_,h,rfl⟩;have hl:r.2.length=q.2.length:=by rw[hR.len r hr,hR.len q hq]
 have ab:((ent q j).natAbs:Int)≠0:=by omega
 by_cases he:r.1=.eq
 ·obtain⟨p,h1,h2⟩:=hR.DE r hr he;refine qq (p:=p) ?_;rw[mx hl];have e1:q.2.getD p 0=ent q p:=rfl;have e2:r.2.getD p 0=ent r p:=rfl;rw[e1,e2,h2 q hq qe (Ne.symm cE)];have:=mul_ne_zero ab h1;rw[mul_zero];omega
 ·obtain⟨i,hi,hj,hp⟩:=S.pos (aD n r) (mem hr) he;have hz:=S.xq (aD n q) (mem hq) qe i hi hj;have zD:ent q (n+2+i)=0:=bN.mp hz;have gq:0<ent r (n+2+i):=iN.mp hp;refine qq (p:=n+2+i) ?_;rw[mx hl];have e1:q.2.getD (n+2+i) 0=ent q (n+2+i):=rfl;have e2:r.2.getD (n+2+i) 0=ent r (n+2+i):=rfl;rw[e1,e2,zD,mul_zero];have:=mul_ne_zero ab (show ent r (n+2+i)≠0 by omega);omega
def bt:Nat->Nat->Nat
 |b,0=>b
 |b,i+1=>bt (2*b+1) i
theorem p6:∀(i b:Nat),b<=bt b i
 |0,b=>le_refl _
 |i+1,b=>le_trans (by omega) (p6 i (2*b+1))
def cb:Nat->Nat->Nat
 |r,0=>r
 |r,i+1=>cb (r+r*r/4) i
theorem L7:∀(i r:Nat),r<=cb r i
 |0,r=>le_refl _
 |i+1,r=>le_trans (le_add_right _ _) (L7 i _)
theorem rO:∀(i:Nat) {r s:Nat},r<=s->cb r i<=cb s i
 |0,r,s,h=>h
 |i+1,r,s,h=>rO i (add_le_add h (Nat.div_le_div_right (mul_le_mul h h)))
variable {u:Nat}
theorem quarter{l r:Nat}(h:u+l<=r):u*l<=r*r/4:=by
 rw[Nat.le_div_iff_mul_le (by decide)];have h1:(u+l)*(u+l)<=r*r:=mul_le_mul h h;refine le_trans ?_ h1;rcases Nat.le_total u l with c|c
 ·obtain⟨d,rfl⟩:=Nat.exists_eq_add_of_le c;grind
 ·obtain⟨d,rfl⟩:=Nat.exists_eq_add_of_le c;grind
theorem KY(p q:Row->Bool)(hd:∀r,p r=true->q r=false):∀l:List Row,(l.filter p).length+(l.filter q).length<=l.length
 |[]=>le_refl _
 |r::l=>by
  have ih:=KY p q hd l;rw[filter_cons,filter_cons,length_cons];by_cases c:p r=true
  ·rw[if_pos c,hd r c,if_neg Bool.false_ne_true,length_cons];omega
  ·rw[if_neg c];split
   ·rw[length_cons];omega
   ·omega
theorem zb(rows:List Row)(j:Nat):rows.length+(rows.filter fun r=>decide (0<ent r j)).length*(rows.filter fun r=>decide (ent r j<0)).length<=rows.length+rows.length*rows.length/4:=
 Nat.add_le_add_left (quarter (KY _ _ (fun r h=>by
  have:=of_decide_eq_true h;exact decide_eq_false (by omega)) rows)) _
theorem o7(ks:List Row)(r:Row):(ins ks r).length<=ks.length+1:=by
 unfold ins;split
 ·omega
 ·rw[length_append];exact le_refl _
theorem uD:∀(M l:List Row),(M.foldl ins l).length<=l.length+M.length
 |[],l=>le_refl _
 |r::M,l=>by
  rw[foldl_cons,length_cons];have:=uD M (ins l r);have:=o7 l r;omega
theorem A5{α β:Type}(f:α->List β)(c:Nat):∀l:List α,(∀x∈l,(f x).length<=c)->(l.flatMap f).length<=l.length*c
 |[],_=>by simp
 |x::l,h=>by
  rw[List.flatMap_cons,length_append,length_cons,succ_mul];have:=A5 f c l fun y hy=>h y (mem_cons_of_mem _ hy);have:=h x mem_cons_self;omega
theorem DH(rows:List Row)(j most:Nat)(aC:List Nat):(paired j aC most rows).length<=rows.length+rows.length*rows.length/4:=by
 have h1:=uD (rows.filter (fun r=>decide (ent r j=0))++pairsOf j aC most rows) [];have h2:=zb rows j;have h3:(pairsOf j aC most rows).length<=(rows.filter fun r=>decide (0<ent r j)).length*(rows.filter fun r=>decide (ent r j<0)).length:=by
  unfold pairsOf;refine A5 _ _ _ fun x _=>?_;rw[length_map];exact length_filter_le _ _
 have h4:=length_filter_le (fun r=>decide (ent r j=0)) rows;rw[length_append]at h1;unfold paired;simp only[length_nil]at h1;omega
theorem II(rows:List Row)(j most:Nat)(aC:List Nat):(cX aC j most rows).length<=rows.length+rows.length*rows.length/4:=by
 unfold cX;split
 ·exact DH _ _ _ _
 ·rw[length_map];exact le_trans (length_filter_le _ _) (le_add_right _ _)
abbrev Nx:=List Row×Nat×List (List Row)
def dA (aC:List Nat) (s:Nx) (j:Nat):Nx:=(cX aC j s.2.1 s.1,iL j s.2.1 s.1,s.2.2++[s.1])
theorem yD(aC:List Nat):∀(m j most:Nat) (rows:List Row) (acc:List (List Row)),(((range' j m).foldl (dA aC) (rows,most,acc)).2.2++[((range' j m).foldl (dA aC) (rows,most,acc)).1])=acc++lL aC m j most rows
 |0,j,most,rows,acc=>rfl
 |m+1,j,most,rows,acc=>by
  rw[List.range'_succ,foldl_cons];show(((range' (j+1) m).foldl (dA aC) (cX aC j most rows,iL j most rows,acc++[rows])).2.2++[((range' (j+1) m).foldl (dA aC) (cX aC j most rows,iL j most rows,acc++[rows])).1])=_;rw[yD aC m (j+1),append_assoc];rfl
end
end FM
namespace L3
noncomputable section
open PySem PySem.Spec PyProof.Rows L2
open PySem.W (Dat kqdOk)
variable {gb:ax->Option Fl} {Γ:ax}
theorem qC{gt:Dat->Option cW}{rg:List Dat->Option (List Dat)}{fs:aw->Option (List Dat)}{β τ:Type}(enc:β->Dat)(St:τ->ax->Prop)(Q:τ->List β->Prop)(dA:τ->β->τ){l:List β}{s:τ}{as:List Dat}(hf:fs (bX Γ)=some as)(hr:rg as=some (l.map enc))(hq:Q s l)(hs:St s Γ)(step:∀s p l Γ,Q s (p::l)->St s Γ->∃as,gt (enc p)=some as/\∃af,gb (setG Γ as)=some (.nx af)/\St (dA s p) af/\Q (dA s p) l):∃af,xX rg gt gb fs Γ=some (.nx af)/\St (l.foldl dA s) af:=by
 obtain⟨af,e,h⟩:=oW (gt:=gt) (gb:=gb) enc St Q dA step l s Γ hq hs;refine⟨af,?_,h⟩;unfold xX;rw[hf];show(rg as).bind _=_;rw[hr];exact e
open PySem PySem.Spec PyProof.Rows L2
open PySem.W (Dat kqdOk)
variable {fi:aw->Option (List Dat)}
theorem J7{gt:Dat->Option cW}{β τ:Type}(enc:β->Dat)(St:τ->ax->Prop)(dA:τ->β->τ)(bad:β->Prop){r:Dat}{l:List β}{s:τ}(hf:fi (bx Γ)=some (l.map enc))(hs:St s Γ)(good:∀s p Γ,¬bad p->St s Γ->∃as,gt (enc p)=some as/\∃af,gb (setG Γ as)=some (.nx af)/\St (dA s p) af)(bd:∀s p Γ,bad p->St s Γ->∃as,gt (enc p)=some as/\gb (setG Γ as)=some (.rt r)):
  (∃af,lK gt gb fi Γ=some (.nx af)/\St (l.foldl dA s) af/\∀p∈l,¬bad p)\/(lK gt gb fi Γ=some (.rt r)/\∃p∈l,bad p):=by
 have e:lK gt gb fi Γ=forL gt gb (l.map enc) Γ:=by unfold lK;rw[hf];rfl
 rw[e];clear e hf;induction l generalizing s Γ with
 |nil=>exact .inl ⟨Γ,rfl,hs,fun p hp=>by simp at hp⟩
 |cons p l ih=>
  rw[map_cons];by_cases c:bad p
  ·obtain⟨as,e1,e2⟩:=bd s p Γ c hs;refine .inr ⟨?_,p,mem_cons_self,c⟩;show(gt (enc p)).bind _=_;rw[e1];show(gb (setG Γ as)).bind _=_;rw[e2];rfl
  ·obtain⟨as,e1,Γ1,e2,h1⟩:=good s p Γ c hs;have e3:forL gt gb (enc p::l.map enc) Γ=forL gt gb (l.map enc) Γ1:=by
    show(gt (enc p)).bind _=_;rw[e1];show(gb (setG Γ as)).bind _=_;rw[e2];rfl
   rw[e3];rcases ih h1 with⟨af,a,b,d⟩|⟨a,q,hq,b⟩
   ·exact .inl ⟨af,a,b,fun q hq=>(mem_cons.mp hq).elim (fun z=>by rw[z];exact c) (d q)⟩
   ·exact .inr ⟨a,q,mem_cons_of_mem _ hq,b⟩
variable {g1 g2:ax->Option Fl} {I:ax->Prop}
theorem LC{fl:Fl}{r:Dat}{C B:Prop}(h:(∃af,g1 Γ=some (.nx af)/\I af/\C)\/(g1 Γ=some (.rt r)/\B))(k1:∀af,C->I af->g2 af=some fl)(k2:B->fl=.rt r):dO g1 g2 Γ=some fl:=by
 rcases h with⟨af,e,h,c⟩|⟨e,b⟩
 ·unfold dO;rw[e];exact k1 af c h
 ·unfold dO;rw[e,k2 b];rfl
variable {gt ft:aw->Option Bool} {ρ:aw} {a b:Bool}
theorem CA(hf:ft ρ=some a)(hg:gt ρ=some b):jz ft gt ρ=some (a&&b):=by
 unfold jz;rw[hf];cases a
 ·rfl
 ·exact hg
theorem GU(hf:ft ρ=some a)(hg:gt ρ=some b):iw ft gt ρ=some (a || b):=by
 unfold iw;rw[hf];cases a
 ·exact hg
 ·rfl
variable {f g:aw->Option Dat}
theorem A9(hf:f ρ=some (.bool a))(hg:g ρ=some (.bool b)):nO f g ρ=some (.bool (a&&b)):=by
 unfold nO;rw[hf];cases a
 ·rfl
 ·exact hg
theorem L0(hf:f ρ=some (.bool a))(hg:g ρ=some (.bool b)):sf f g ρ=some (.bool (a || b)):=by
 unfold sf;rw[hf];cases a
 ·exact hg
 ·rfl
end
end L3
namespace FM
noncomputable section
theorem sG{f:Nat->Rat}:∀m:Nat,sm (m+1) f=f 0+sm m (fun i=>f (i+1))
 |0=>by show(0:Rat)+f 0=f 0+0;grind
 |m+1=>by
  show sm (m+1) f+f (m+1)=f 0+(sm m (fun i=>f (i+1))+f (m+1));rw[sG m];grind
theorem BR(Ls:List (List Row)):∀(m:Nat) (x:List Rat) (c:Nat),m<=c->(dX Ls m x).getD c 0=x.getD c 0
 |0,x,c,_=>rfl
 |m+1,x,c,h=>by
  show(dX Ls m (x.set m _)).getD c 0=_;rw[BR Ls m _ c (by omega)];rw[getD_eq_getElem?_getD,getElem?_set_ne (by omega),<- getD_eq_getElem?_getD]
end
end FM
namespace L3
noncomputable section
open PySem PySem.Spec PyProof.Rows L2
open PySem.W (Dat kqdOk)
theorem Cy{gt:Dat->Option cW}{gb:ax->Option Fl}(I:ax->Prop):∀{ds:List Dat} {Γ:ax},I Γ->(∀d∈ds,∀Γ,I Γ->∃as af,gt d=some as/\gb (setG Γ as)=some (.nx af)/\I af)->∃af,forL gt gb ds Γ=some (.nx af)/\I af
 |[],Γ,h,_=>⟨Γ,rfl,h⟩
 |d::ds,Γ,h,st=>by
  obtain⟨as,Γ1,e1,e2,h1⟩:=st d mem_cons_self Γ h;obtain⟨tN,e3,h2⟩:=Cy I (ds:=ds) h1 fun d hd=>st d (mem_cons_of_mem _ hd);refine⟨tN,?_,h2⟩;show(gt d).bind _=_;rw[e1];show(gb (setG Γ as)).bind _=_;rw[e2];exact e3
variable {gt:Dat->Option cW} {gb:ax->Option Fl} {ds:List Dat} {Γ:ax}
theorem Pc{f:aw->Option Dat}(I:ax->Prop){d:Dat}(hf:f (bx Γ)=some d)(hi:cJ d=some ds)(h0:I Γ)(st:∀d∈ds,∀Γ,I Γ->∃as af,gt d=some as/\gb (setG Γ as)=some (.nx af)/\I af):∃af,nK gt gb f Γ=some (.nx af)/\I af:=by
 obtain⟨af,e,h⟩:=Cy I (gt:=gt) (gb:=gb) h0 st;refine⟨af,?_,h⟩;unfold nK;rw[hf];show(cJ d).bind _=_;rw[hi];exact e
end
end L3
namespace FM
noncomputable section
variable {ws:List Rat} {β:Rat}
theorem AO{os:List Ol}{s:Bool}{p:List Rat}{x:List Rat}(hl:∀o∈os,o.2.1.length=p.length)(hr:Right os ws s p β)(hx:∀o∈os,cK o x):rel (if s=true then .lt else .le) (aF p x) β:=by
 obtain⟨ha,hr⟩:=hr;have at':∀i,i<os.length->os.getD i (.eq,[],0)∈os:=fun i hi=>by
  rw[getD_eq_getElem?_getD,getElem?_eq_getElem hi];exact List.getElem_mem _
 have hw:∀i,i<os.length->aF (os.getD i (.eq,[],0)).2.1 x=sm p.length fun c=>iC os i c*x.getD c 0:=fun i hi=>by
  unfold aF;rw[hl _ (at' i hi)];rfl
 have le:∀i,i<os.length->ws.getD i 0*aF (os.getD i (.eq,[],0)).2.1 x<=ws.getD i 0*jS os i:=fun i hi=>by
  have hh:=hx _ (at' i hi);unfold cK at hh;have nn:=ha.nn i hi;unfold knd at nn;unfold jS;cases hk:(os.getD i (.eq,[],0)).1 with
  |eq=>rw[hk]at hh;rw[show aF (os.getD i (.eq,[],0)).2.1 x=_ from hh];grind
  |le=>
   rw[hk]at hh;exact Rat.mul_le_mul_of_nonneg_left hh (nn (by rw[hk];simp))
  |lt=>
   rw[hk]at hh;exact Rat.mul_le_mul_of_nonneg_left (le_of_lt hh) (nn (by rw[hk];simp))
 have Bi:sm os.length (fun i=>ws.getD i 0*aF (os.getD i (.eq,[],0)).2.1 x)=sm p.length fun c=>g9 os ws c*x.getD c 0:=by
  rw[aO (g:=fun i=>sm p.length fun c=>ws.getD i 0*iC os i c*x.getD c 0) (fun i hi=>by
   rw[hw i hi,<- bE];exact aO fun c _=>by grind),vm]
  refine aO fun c _=>?_;unfold g9;rw[aO (g:=fun i=>x.getD c 0*(ws.getD i 0*iC os i c)) (fun i _=>by grind),bE];grind
 have hle:sm p.length (fun c=>g9 os ws c*x.getD c 0)<=k0 os ws:=by rw[<- Bi];exact Dq le
 have dJ:sF os ws->sm p.length (fun c=>g9 os ws c*x.getD c 0)<k0 os ws:=fun aQ=>by
  obtain⟨i,hi,hk,hp⟩:=aQ;rw[<- Bi];refine K3 le ⟨i,hi,?_⟩;have hh:=hx _ (at' i hi);unfold cK at hh;unfold knd at hk;rw[hk]at hh;exact Rat.mul_lt_mul_of_pos_left hh hp
 rcases hr with⟨h1,h2⟩|⟨h1,h2⟩
 ·have e:sm p.length (fun c=>g9 os ws c*x.getD c 0)=aF p x:=aO fun c hc=>by rw[h1 c hc]
  rw[e]at hle dJ;rcases h2 with h2|⟨h2,h3⟩
  ·cases s with
   |true=>show aF p x<β;grind
   |false=>show aF p x<=β;grind
  ·cases s with
   |true=>
    rcases h3 with h3|h3
    ·cases h3
    ·have:=dJ h3;show aF p x<β;grind
   |false=>show aF p x<=β;grind
 ·exfalso;have e:sm p.length (fun c=>g9 os ws c*x.getD c 0)=0:=gO fun c hc=>by rw[h1 c hc];grind
  rw[e]at hle dJ;rcases h2 with h2|⟨h2,h3⟩
  ·grind
  ·have:=dJ h3;grind
end
end FM
namespace TF
noncomputable section
open PySem PySem.Spec PyProof.Rows L2 L3
open PySem.W (Dat kqdOk)
local macro_rules | `(tactic| simp! [$xs,*]) => `(tactic| simp only [jB, cT, dO, ik, kv, k6, iA, pX, cc, iR, L3.f2, L3.f1, aH, fC, aU, bS, ly, nN, iS, gy, uL, nO, sf, qG, jz, iw, j4, bx, bX, lj, nH, nL, List.map_cons, List.map_nil, List.getElem?_cons_zero, List.getElem?_cons_succ, Option.join_some, Option.bind_some, Option.map_some, List.set_cons_zero, List.set_cons_succ, List.length_cons, List.length_nil, List.cons_append, List.nil_append, List.replicate, Nat.add_sub_cancel, Nat.zero_add, Nat.reduceAdd, Nat.reduceSub, if_true, if_false, Bool.false_eq_true, Bool.not_true, Bool.not_false, decide_true, decide_false, reduceIte, reduceCtorEq, Nat.reduceEqDiff, Nat.reduceLeDiff, vq, mh, fK, sL, nr, gd, bz, fL, nt, cJ, cf, aName, kC, dF, List.foldl_cons, List.foldl_nil, Option.map_none, Option.bind_none, List.isEmpty, List.reverse_cons, List.reverse_nil, and_self, and_true, true_and, Option.some.injEq, kG, gM, mR, setG, List.append_nil, j3, zU, L3.h2, ya, DX, iO, eM, zT, kL, GJ, oV, runM, startM, nc, Dt, Ds, I0, yA, J8, lK, Cf, qv, DP, dz, hL, EW, fM, List.length_set, List.append_eq, $xs,*])
local macro_rules | `(tactic| dsimp! [$xs,*]) => `(tactic| simp only [jB, cT, dO, ik, kv, k6, iA, pX, cc, iR, L3.f2, L3.f1, aH, fC, aU, bS, ly, nN, iS, gy, uL, nO, sf, qG, jz, iw, j4, bx, bX, lj, nH, nL, List.map_cons, List.map_nil, List.getElem?_cons_zero, List.getElem?_cons_succ, Option.join_some, Option.bind_some, Option.map_some, List.set_cons_zero, List.set_cons_succ, List.length_cons, List.length_nil, List.cons_append, List.nil_append, List.replicate, Nat.add_sub_cancel, Nat.zero_add, Nat.reduceAdd, Nat.reduceSub, if_true, if_false, Bool.false_eq_true, Bool.not_true, Bool.not_false, decide_true, decide_false, reduceIte, reduceCtorEq, Nat.reduceEqDiff, Nat.reduceLeDiff, vq, mh, fK, sL, nr, gd, fL, nt, cJ, cf, aName, kC, dF, List.foldl_cons, List.foldl_nil, Option.map_none, Option.bind_none, List.isEmpty, List.reverse_cons, List.reverse_nil, and_self, and_true, true_and, Option.some.injEq, kG, gM, mR, setG, List.append_nil, j3, zU, L3.h2, ya, DX, iO, eM, zT, kL, GJ, oV, runM, startM, nc, Dt, Ds, I0, yA, J8, lK, Cf, qv, DP, dz, hL, EW, fM, List.length_set, List.append_eq, $xs,*])
local macro_rules | `(tactic| simp!) => `(tactic| simp only [cT, List.map_cons, List.map_nil, List.length_cons, List.length_nil, List.cons_append, List.nil_append, List.replicate])
local macro_rules | `(tactic| dsimp!) => `(tactic| simp only [setG, List.foldl_cons, List.foldl_nil, List.set_cons_succ, List.set_cons_zero])
def top (i:Nat):Stmt:=PySem.Challenge.pw_stepjudge_k17_lines_that_break.main.body.getD i (.Pass ⟨0,0,0,0⟩)
structure TX (P:Program) (K:Fg) (mg:Str->Option Value):Prop where
 seer:vZ P K mg
 abs:mg "abs"=none
 len:mg "len"=none
 int:mg "int"=none
 isinstance:mg "isinstance"=none
 tuple:mg "tuple"=none
 bool:mg "bool"=none
 range:mg "range"=none
 zip:mg "zip"=none
 list:mg "list"=none
 str:mg "str"=none
 all:mg "all"=none
 enumerate:mg "enumerate"=none
 max:mg "max"=none
theorem sz{n:Nat}(h:n<=1000):n<=sizeLine:=Nat.le_of_lt (wH h)
def pd:List Dat->Option Dat
 |[.int a,.int b]=>if 0<=a/\0<=b then some (.int (gcd a b))else none
 |_=>none
def RC:ax->Nat
 |_::some (.a7 (.int b))::_=>b.natAbs+1
 |_=>0
abbrev T8:aw->Option Bool:=cc (f2 gk (aH 1) (fC (Dat.int 0)))
abbrev T9:ax->Option Fl:=dO (ik 2 (f2 vE (aH 0) (aH 1))) (dO (ik 0 (aH 1)) (ik 1 (aH 2)))
theorem Hq(x z:Option Slot)(b:Int)(r:ax):T8 (bX (x::some (.a7 (.int b))::r))=some (!decide (b=0)):=by
 show(gk (.int b) (.int 0)).bind lj=_;rw[dI];rfl
theorem CT:∀(n:Nat) (a b:Int) (r:Option Slot),0<=a->0<=b->b.natAbs<n->∃r',fK T8 T9 n [some (.a7 (.int a)),some (.a7 (.int b)),r]=some (.nx [some (.a7 (.int (gcd a b))),some (.a7 (.int 0)),r'])
 |0,_,_,_,_,_,h=>by omega
 |n+1,a,b,r,ha,hb,h=>by
  by_cases e:b=0
  ·subst e;refine⟨r,?_⟩;rw[yj (by rw[Hq _ none];rfl)];congr
   rw[Int.gcd_zero];omega
  ·have xg:0<=a.fmod b:=Int.fmod_nonneg_of_pos a (by omega);have hm1:a.fmod b<b:=Int.fmod_lt_of_pos a (by omega);have hbody:T9 [some (.a7 (.int a)),some (.a7 (.int b)),r]=some (.nx [some (.a7 (.int b)),some (.a7 (.int (a.fmod b))),some (.a7 (.int (a.fmod b)))]):=by
    refine(ak (lR (d:=.int (a.fmod b)) (i5 e))).trans ?_;refine(ak (lR (d:=.int b) rfl)).trans ?_;exact lR (d:=.int (a.fmod b)) rfl
   obtain⟨r',q⟩:=CT n b (a.fmod b) _ hb xg (by omega);refine⟨r',?_⟩;rw[yi (by rw[Hq _ none,decide_eq_false e];rfl) hbody,q,Fr.zZ a b (by omega)]
variable {P:Program} {base:Heap} {mg:Str->Option Value} {w:World} {K:Fg}
theorem Vg(T:TX P K mg)(U:FnAt K mg "common_divisor" (top 1) ["a","b"]):Dn P w K mg base 41 "common_divisor" ["a","b"] 2 pd:=by
 obtain⟨f,fd,U,hm,hB⟩:=U.ex;have nd:(["a","b","rest"]:List Str).Nodup:=by decide +kernel
 refine ib U hm hB (N:=["a","b","rest"]) ⟨rfl,rfl,rfl,by decide +kernel,rfl,by decide +kernel,by decide +kernel⟩ rfl (fun bG A outer s H E hr=>
  (ae (uc RC PassesOwn.never (d5 hr (a5 1) a8) (ae (aB 2 nd (iZ (a5 0) (a5 1)))
  (ae (aB 0 nd (a5 1))
  (ag (aB 1 nd (a5 2))))))
  (ag (aq (a5 0))))) ?_
 intro ds d hl hF;unfold pd at hF;split at hF
 ·rename_i a b;split at hF
  ·rename_i h;cases hF;obtain⟨r',q⟩:=CT (b.natAbs+1) a b none h.1 h.2 (by omega);refine bP ?_;refine(ak q).trans ?_;exact Bx rfl
  ·cases hF
 ·cases hF
def iV:List Dat->Option Dat
 |[.int n,.int d]=>if d≠0/\d.natAbs.log2<9000000 then some (.tuple [.int (Fr.num n d),.int (Fr.den n d)])else none
 |_=>none
theorem Mf{a b:Nat}(h:a<=b):a.log2<=b.log2:=by
 by_cases ha:a=0
 ·subst ha;exact zero_le _
 ·rw[Nat.le_log2 (by omega)];exact le_trans (Nat.log2_self_le ha) h
theorem PB(T:TX P K mg)(gD:Dn P w K mg base 41 "common_divisor" ["a","b"] 2 pd)(U:FnAt K mg "make" (top 2) ["n","d"]):Dn P w K mg base 42 "make" ["n","d"] 2 iV:=by
 obtain⟨f,fd,U,hm,hB⟩:=U.ex;have nd:(["n","d","divisor"]:List Str).Nodup:=by decide +kernel
 refine ib U hm hB (N:=["n","d","divisor"]) ⟨rfl,rfl,rfl,by decide +kernel,rfl,by decide +kernel,by decide +kernel⟩ rfl (fun bG A outer s H E hr=>
  (ae (aB 2 nd (az gD hr (a6 (lT T.abs (a6 (a5 0) a9)) (a6 (lT T.abs (a6 (a5 1) a9)) a9))))
  (ae (aT (nU (a5 1) a8) (ag (aB 2 nd (dr (a5 2)))) aL)
  (ag (aq (bo (k:=0) (a6 (gg T.seer hr (a5 0) (a5 2)) (a6 (gg T.seer hr (a5 1) (a5 2)) a9)))))))) ?_
 intro ds d' hl hF;unfold iV at hF;split at hF
 ·rename_i n d;split at hF
  ·rename_i h;cases hF;have e1:pd [.int (n.natAbs:Int),.int (d.natAbs:Int)]=some (.int (gcd n d)):=by
    have z:pd [.int (n.natAbs:Int),.int (d.natAbs:Int)]=if 0<=(n.natAbs:Int)/\0<=(d.natAbs:Int)then some (.int (gcd (n.natAbs:Int) (d.natAbs:Int)))else none:=rfl;rw[z,if_pos ⟨Int.natCast_nonneg _,Int.natCast_nonneg _⟩];simp[gcd]
   have hb:(Fr.dv n d).natAbs.log2<9000000:=by
    rw[Fr.uO];refine lt_of_le_of_lt (Mf ?_) h.2;have:=gcd_dvd_right n d;have:=Int.natAbs_dvd_natAbs.mpr this;exact le_of_dvd (by omega) (by simpa using this)
   have q1:rK (.int n) (.int (Fr.dv n d))=some (.int (Fr.num n d)):=iE (Fr.L6 h.1);have q2:rK (.int d) (.int (Fr.dv n d))=some (.int (Fr.den n d)):=iE (Fr.L6 h.1);have z2:2<=sizeLine:=sz (by decide);by_cases hd:d<0
   ·have e2: -(gcd n d:Int)=Fr.dv n d:=by unfold Fr.dv;exact(if_pos hd).symm
    simp only[jB,cT,dO,ik,kv,k6,iA,pX,cc,iR,f2,f1,aH,fC,aU,bS,ly,nN,iS,gy,uL,nO,sf,qG,jz,iw,j4,bx,bX,lj,nH,nL,map_cons,map_nil,getElem?_cons_zero,getElem?_cons_succ,Option.join_some,Option.bind_some,map_some,set_cons_zero,set_cons_succ,length_cons,length_nil,cons_append,nil_append,List.replicate,add_sub_cancel,zero_add,reduceAdd,reduceSub,if_true,if_false,false_eq_true,Bool.not_true,Bool.not_false,decide_true,decide_false,reduceIte,reduceCtorEq,reduceEqDiff,reduceLeDiff,jH,e1,d6,hd,e2,q1,q2,z2]
   ·have e2:(gcd n d:Int)=Fr.dv n d:=by unfold Fr.dv;exact(if_neg hd).symm
    simp only[jB,cT,dO,ik,kv,k6,iA,pX,cc,iR,f2,f1,aH,fC,aU,bS,ly,nN,iS,gy,uL,nO,sf,qG,jz,iw,j4,bx,bX,lj,nH,nL,map_cons,map_nil,getElem?_cons_zero,getElem?_cons_succ,Option.join_some,Option.bind_some,map_some,set_cons_zero,set_cons_succ,length_cons,length_nil,cons_append,nil_append,List.replicate,add_sub_cancel,zero_add,reduceAdd,reduceSub,if_true,if_false,false_eq_true,Bool.not_true,Bool.not_false,decide_true,decide_false,reduceIte,reduceCtorEq,reduceEqDiff,reduceLeDiff,jH,e1,d6,hd,e2,q1,q2,z2]
  ·cases hF
 ·cases hF
variable {k:Nat}
theorem log2_small{n:Nat}(hk:0<k)(h:n<2^k):n.log2<k:=by
 by_cases e:n=0
 ·subst e;simpa using hk
 ·exact(Nat.log2_lt e).mpr h
theorem lh(a b:Dat):fS [a,b] 0=some a:=rfl
theorem l9(a b:Dat):fS [a,b] 1=some b:=rfl
variable {b:Int}
theorem lX(a:Int)(h:0<b):0<=a.fmod b/\a.fmod b<b:=⟨Int.fmod_nonneg_of_pos a h,Int.fmod_lt_of_pos a h⟩
theorem mulR(a:Int)(h1: -(2^64)<b)(h2:b<2^64):jE (.int a) (.int b)=some (.int (a*b)):=oM (.of_right (intBits_le_64 h1 h2))
variable {a:Int}
theorem mulL(b:Int)(h1: -(2^64)<a)(h2:a<2^64):jE (.int a) (.int b)=some (.int (a*b)):=oM (.of_left (intBits_le_64 h1 h2))
theorem Kb:sS (.int 10) (.int 18)=some (.int (10^18)):=iE (by unfold wq;decide)
theorem QX:sS (.int 10) (.int 30)=some (.int (10^30)):=iE (by unfold wq;decide)
theorem OA(i:Int):gP "int" (.int i)=some (.bool true):=rfl
theorem OB(i:Int):gP "bool" (.int i)=some (.bool false):=rfl
theorem Rm(ds:List Dat):gP "tuple" (.tuple ds)=some (.bool true):=rfl
theorem Rn(x:Str):gP "str" (.str x)=some (.bool true):=rfl
theorem Jb{d:Dat}(h:kqdOk 9 d=true)(h1:∀b,d≠.bool b)(h2:∀b,d≠.str b):eqB d d=some true:=by
 unfold eqB;split
 ·exact absurd rfl (h1 _)
 ·exact absurd rfl (h2 _)
 ·rw[if_pos ⟨h,h⟩,mM rfl]
theorem bits_le{x:Int}(hk:0<k)(h:x.natAbs<2^k):Builtin.Int.intBits x<=k:=by
 have:=log2_small hk h;unfold Builtin.Int.intBits;split
 ·exact zero_le _
 ·omega
theorem Ma(x:Str):gk (.str x) (.str x)=some (.bool false):=by
 show some (Dat.bool (!_))=_;simp
theorem jQ{x y:Str}(h:x=y):cU (.str x) (.str y)=some (.bool true):=by
 subst h;show some (Dat.bool _)=_;simp
theorem fE{x y:Str}(h:x≠y):cU (.str x) (.str y)=some (.bool false):=by
 show some (Dat.bool _)=_;simp[h]
structure Md (x:Int):Prop where
 lt:x.natAbs<2^4000000
theorem pw(a b:Nat):2^a*2^b=2^(a+b):=(pow_add 2 a b).symm
theorem Md.mul(ha:Md a)(hb:Md b):(a*b).natAbs<2^8000000:=by
 rw[natAbs_mul];have h:=Nat.mul_lt_mul'' ha.lt hb.lt;rw[pw]at h;exact h
theorem mulM(ha:Md a)(hb:Md b):jE (.int a) (.int b)=some (.int (a*b)):=
 oM (.of_le (bits_le (k:=4000000) (by decide) ha.lt) (bits_le (k:=4000000) (by decide) hb.lt) (by decide))
theorem DJ(ha:a.natAbs<2^9000000)(hb:b.natAbs<2^9000000):jE (.int a) (.int b)=some (.int (a*b)):=
 oM (.of_le (bits_le (k:=9000000) (by decide) ha) (bits_le (k:=9000000) (by decide) hb) (by decide))
variable {n:Int}
theorem o6{d:Int}(h:d≠0)(hb:d.natAbs<2^8000000):iV [.int n,.int d]=some (.tuple [.int (Fr.num n d),.int (Fr.den n d)]):=
 if_pos ⟨h,lt_trans (log2_small (k:=8000000) (by decide) hb) (by decide)⟩
structure Gd (p q:Int):Prop where
 pos:0<q
 Am:gcd p q=1
 mp:Md p
 mq:Md q
abbrev fr (p q:Int):Dat:=.tuple [.int p,.int q]
def two (ds:List Dat):Option (Int×Int×Int×Int):=match ds with
 |[.tuple [.int p,.int q],.tuple [.int r,.int s]]=>some (p,q,r,s)
 |_=>none
def kQ (g:Int->Int->Int->Int->Option Dat):List Dat->Option Dat:=open Classical in fun ds=>match ds with
 |[.tuple [.int p,.int q],.tuple [.int r,.int s]]=>if Gd p q/\Gd r s then g p q r s else none
 |_=>none
variable {p:Int}
theorem mU{g:Int->Int->Int->Int->Option Dat}{q r s:Int}(h:Gd p q)(h':Gd r s):kQ g [fr p q,fr r s]=g p q r s:=by
 unfold kQ;exact if_pos ⟨h,h'⟩
abbrev mk (n d:Int):Dat:=fr (Fr.num n d) (Fr.den n d)
abbrev f6:=kQ fun p q r s=>some (mk (p*s+r*q) (q*s))
abbrev fm:=kQ fun p q r s=>some (mk (p*s-r*q) (q*s))
abbrev jU:=kQ fun p q r s=>some (mk (p*r) (q*s))
abbrev oh:=kQ fun p q r s=>if r≠0 then some (mk (p*s) (q*r))else none
abbrev fJ:=kQ fun p q r s=>some (.bool (decide (p*s<r*q)))
variable {ds:List Dat}
theorem fG{g:Int->Int->Int->Int->Option Dat}{d:Dat}(h:kQ g ds=some d):∃p q r s,ds=[fr p q,fr r s]/\Gd p q/\Gd r s/\g p q r s=some d:=by
 unfold kQ at h;split at h
 ·split at h
  ·rename_i hc;exact⟨_,_,_,_,rfl,hc.1,hc.2,h⟩
  ·cases h
 ·cases h
theorem Px(T:TX P K mg)(kR:Dn P w K mg base 42 "make" ["n","d"] 2 iV)(U:FnAt K mg "plus" (top 3) ["a","b"]):Dn P w K mg base 43 "plus" ["a","b"] 2 f6:=by
 obtain⟨f,fd,U,hm,hB⟩:=U.ex;have nd:(["a","b"]:List Str).Nodup:=by decide +kernel
 refine ib U hm hB (N:=["a","b"]) ⟨rfl,rfl,rfl,by decide +kernel,rfl,by decide +kernel,by decide +kernel⟩ rfl (fun bG A outer s H E hr=>
  (ag (aq (az kR hr (a6 (fg (bK (ah (a5 0) a8) (ah (a5 1) a8)) (bK (ah (a5 1) a8) (ah (a5 0) a8))) (a6 (bK (ah (a5 0) a8) (ah (a5 1) a8)) a9)))))) ?_
 intro ds d hl hF;obtain⟨p,q,r,s,rfl,g1,g2,e⟩:=fG hF;have z:=mul_ne_zero (ne_of_gt g1.pos) (ne_of_gt g2.pos);cases e;simp only[jB,cT,dO,ik,kv,k6,iA,pX,cc,iR,f2,f1,aH,fC,aU,bS,ly,nN,iS,gy,uL,nO,sf,qG,jz,iw,j4,bx,bX,lj,nH,nL,map_cons,map_nil,getElem?_cons_zero,getElem?_cons_succ,Option.join_some,Option.bind_some,map_some,set_cons_zero,set_cons_succ,length_cons,length_nil,cons_append,nil_append,List.replicate,add_sub_cancel,zero_add,reduceAdd,reduceSub,if_true,if_false,false_eq_true,Bool.not_true,Bool.not_false,decide_true,decide_false,reduceIte,reduceCtorEq,reduceEqDiff,reduceLeDiff,vq,mh,fK,sL,nr,gd,bz,fL,nt,cJ,cf,aName,kC,dF,foldl_cons,foldl_nil,map_none,bind_none,isEmpty,List.reverse_cons,List.reverse_nil,and_self,and_true,true_and,Option.some.injEq,kG,gM,mR,setG,append_nil,fr,lh,l9,cD,fN,d6,mulM g1.mp g2.mq,mulM g2.mp g1.mq,mulM g1.mq g2.mq,mulM g1.mp g2.mp,mulM g1.mq g2.mp,o6 z (g1.mq.mul g2.mq)]
theorem Mt(T:TX P K mg)(kR:Dn P w K mg base 42 "make" ["n","d"] 2 iV)(U:FnAt K mg "times" (top 5) ["a","b"]):Dn P w K mg base 43 "times" ["a","b"] 2 jU:=by
 obtain⟨f,fd,U,hm,hB⟩:=U.ex;have nd:(["a","b"]:List Str).Nodup:=by decide +kernel
 refine ib U hm hB (N:=["a","b"]) ⟨rfl,rfl,rfl,by decide +kernel,rfl,by decide +kernel,by decide +kernel⟩ rfl (fun bG A outer s H E hr=>
  (ag (aq (az kR hr (a6 (bK (ah (a5 0) a8) (ah (a5 1) a8)) (a6 (bK (ah (a5 0) a8) (ah (a5 1) a8)) a9)))))) ?_
 intro ds d hl hF;obtain⟨p,q,r,s,rfl,g1,g2,e⟩:=fG hF;have z:=mul_ne_zero (ne_of_gt g1.pos) (ne_of_gt g2.pos);cases e;simp only[jB,cT,dO,ik,kv,k6,iA,pX,cc,iR,f2,f1,aH,fC,aU,bS,ly,nN,iS,gy,uL,nO,sf,qG,jz,iw,j4,bx,bX,lj,nH,nL,map_cons,map_nil,getElem?_cons_zero,getElem?_cons_succ,Option.join_some,Option.bind_some,map_some,set_cons_zero,set_cons_succ,length_cons,length_nil,cons_append,nil_append,List.replicate,add_sub_cancel,zero_add,reduceAdd,reduceSub,if_true,if_false,false_eq_true,Bool.not_true,Bool.not_false,decide_true,decide_false,reduceIte,reduceCtorEq,reduceEqDiff,reduceLeDiff,vq,mh,fK,sL,nr,gd,bz,fL,nt,cJ,cf,aName,kC,dF,foldl_cons,foldl_nil,map_none,bind_none,isEmpty,List.reverse_cons,List.reverse_nil,and_self,and_true,true_and,Option.some.injEq,kG,gM,mR,setG,append_nil,fr,lh,l9,cD,fN,d6,mulM g1.mp g2.mq,mulM g2.mp g1.mq,mulM g1.mq g2.mq,mulM g1.mp g2.mp,mulM g1.mq g2.mp,o6 z (g1.mq.mul g2.mq)]
theorem MJ(T:TX P K mg)(kR:Dn P w K mg base 42 "make" ["n","d"] 2 iV)(U:FnAt K mg "below" (top 7) ["a","b"]):Dn P w K mg base 43 "below" ["a","b"] 2 fJ:=by
 obtain⟨f,fd,U,hm,hB⟩:=U.ex;have nd:(["a","b"]:List Str).Nodup:=by decide +kernel
 refine ib U hm hB (N:=["a","b"]) ⟨rfl,rfl,rfl,by decide +kernel,rfl,by decide +kernel,by decide +kernel⟩ rfl (fun bG A outer s H E hr=>
  (ag (aq (yO (bK (ah (a5 0) a8) (ah (a5 1) a8)) (bK (ah (a5 1) a8) (ah (a5 0) a8)))))) ?_
 intro ds d hl hF;obtain⟨p,q,r,s,rfl,g1,g2,e⟩:=fG hF;have z:=mul_ne_zero (ne_of_gt g1.pos) (ne_of_gt g2.pos);cases e;simp only[jB,cT,dO,ik,kv,k6,iA,pX,cc,iR,f2,f1,aH,fC,aU,bS,ly,nN,iS,gy,uL,nO,sf,qG,jz,iw,j4,bx,bX,lj,nH,nL,map_cons,map_nil,getElem?_cons_zero,getElem?_cons_succ,Option.join_some,Option.bind_some,map_some,set_cons_zero,set_cons_succ,length_cons,length_nil,cons_append,nil_append,List.replicate,add_sub_cancel,zero_add,reduceAdd,reduceSub,if_true,if_false,false_eq_true,Bool.not_true,Bool.not_false,decide_true,decide_false,reduceIte,reduceCtorEq,reduceEqDiff,reduceLeDiff,vq,mh,fK,sL,nr,gd,bz,fL,nt,cJ,cf,aName,kC,dF,foldl_cons,foldl_nil,map_none,bind_none,isEmpty,List.reverse_cons,List.reverse_nil,and_self,and_true,true_and,Option.some.injEq,kG,gM,mR,setG,append_nil,fr,lh,l9,cD,fN,d6,mulM g1.mp g2.mq,mulM g2.mp g1.mq,mulM g1.mq g2.mq,mulM g1.mp g2.mp,mulM g1.mq g2.mp]
abbrev R:=Int×Int
abbrev rD (r:R):List Dat:=[.int r.1,.int r.2]
def gJ (r:R):Prop:=0<=r.2/\r.2<2147483648
instance (r:R):Decidable (gJ r):=inferInstanceAs (Decidable (_/\_))
def n8 (b:Int):Int:=(b*48271+11).fmod 2147483647
def jZ (b:Int):Int:=(n8 b*n8 b).fmod 2147483629
def tk (r:R) (m:Int):Int:=if 10^18<=r.1 then r.1.fmod m else(((jZ r.2*69621).fmod 2147483587).fdiv 8).fmod m
def tr (r:R) (m:Int):R:=if 10^18<=r.1 then(r.1.fdiv m,r.2)else(r.1,n8 r.2)
variable {m:Int}
theorem hG(r:R)(h:0<m):0<=tk r m/\tk r m<m:=by
 unfold tk;split
 ·exact lX _ h
 ·exact lX _ h
theorem EL(b:Int):0<=n8 b/\n8 b<2147483647:=lX _ (by decide)
theorem Np(b:Int):0<=jZ b/\jZ b<2147483629:=lX _ (by decide)
theorem fc{r:R}(h:gJ r):gJ (tr r m):=by
 unfold tr;split
 ·exact h
 ·have:=EL r.2;exact⟨this.1,by show n8 r.2<_;omega⟩
def ju:List Dat->List Dat->Option (Dat×List Dat)
 |[.int a,.int b],[.int m]=>if gJ (a,b)/\0<m/\m<2^200 then some (.int (tk (a,b) m),rD (tr (a,b) m))else none
 |_,_=>none
theorem cR{r:R}(h:gJ r)(h1:0<m)(h2:m<2^200):ju [.int r.1,.int r.2] [.int m]=some (.int (tk r m),[.int (tr r m).1,.int (tr r m).2]):=if_pos ⟨h,h1,h2⟩
theorem Oi(h1:0<m)(h2:m<2^200):m.natAbs.log2<9000000:=lt_trans (log2_small (k:=200) (by decide) (by omega)) (by decide)
theorem Pw(T:TX P K mg)(U:FnAt K mg "_law_reel" (top 44) ["cell"]):
  xM P w K mg base 41 "_law_reel" ["cell"] 1 (fun ds=>match ds with|[.int c]=>some (rD ((c.natAbs:Int),((c.fmod 2147483647+1)*742938285).fmod 2147483647))|_=>none):=by
 obtain⟨f,fd,U,hm,hB⟩:=U.ex;have nd:(["cell"]:List Str).Nodup:=by decide +kernel
 refine LM U hm hB (N:=["cell"]) ⟨rfl,rfl,rfl,by decide +kernel,rfl,by decide +kernel,by decide +kernel⟩ rfl rfl (fun bG A outer s H E hr=>
  iJ (a6 (lT T.abs (a6 (a5 0) a9)) (a6 (iZ (bK (fg (iZ (a5 0) a8) a8) a8) a8) a9))) ?_
 intro ds out hl hF;split at hF
 ·rename_i c;cases hF;have e1:=i5 (a:=c) (b:=2147483647) (by decide);have e2:=mulR (c.fmod 2147483647+1) (b:=742938285) (by decide) (by decide);have e3:=i5 (a:=(c.fmod 2147483647+1)*742938285) (b:=2147483647) (by decide);have z2:2<=sizeLine:=sz (by decide);simp![jH,e1,e2,e3,cD,z2]
 ·cases hF
theorem Pu(T:TX P K mg)(U:FnAt K mg "_law_take" (top 45) ["reel","many"]):iW P w K mg base 41 "_law_take" ["reel","many"] 2 ju:=by
 obtain⟨f,fd,U,hm,hB⟩:=U.ex;have nd:(["reel","many","found","stir"]:List Str).Nodup:=by decide +kernel
 refine rn U hm hB (N:=["reel","many","found","stir"]) ⟨rfl,rfl,rfl,by decide +kernel,rfl,by decide +kernel,by decide +kernel⟩ rfl (fun bG A outer s H E hr=>
  (ae (aT (LK (ah (a5 0) a8) (rj a8 a8)) (ae (aB 2 nd (iZ (ah (a5 0) a8) (a5 1)))
  (ae (ud 0 (aM (gg T.seer hr (ah (a5 0) a8) (a5 1))))
  (ag (fB (aM (a5 2)))))) aL)
  (ae (ud 0 (aM (iZ (fg (bK (ah (a5 0) a8) a8) a8) a8)))
  (ae (aB 3 nd (iZ (bK (ah (a5 0) a8) (ah (a5 0) a8)) a8))
  (ag (fB (aM (iZ (gg T.seer hr (iZ (bK (a5 3) a8) a8) a8) (a5 1))))))))) ?_
 intro ds es d dN hl hF;unfold ju at hF;split at hF
 ·rename_i a b m;split at hF
  ·rename_i h;obtain⟨hR,h1,h2⟩:=h;have xg:m≠0:=by omega
   have i0:∀x y:Dat,fS [x,y] 0=some x:=fun _ _=>rfl;have i1:∀x y:Dat,fS [x,y] 1=some y:=fun _ _=>rfl;have n0:lE 2 0=some 0:=rfl;have n1:lE 2 1=some 1:=rfl;by_cases Cs:(10:Int)^18<=a
   ·have t1:tk (a,b) m=a.fmod m:=by unfold tk;exact if_pos Cs
    have t2:tr (a,b) m=(a.fdiv m,b):=by unfold tr;exact if_pos Cs
    rw[t1,t2]at hF;cases hF;have e1:=i5 (a:=a) (b:=m) xg;have e2:=iQ (a:=a) (b:=m) xg (Oi h1 h2);simp![i0,i1,Kb,Ct,e1,e2,eq_true Cs,n0,n1]
   ·have t1:tk (a,b) m=(((jZ b*69621).fmod 2147483587).fdiv 8).fmod m:=by unfold tk;exact if_neg Cs
    have t2:tr (a,b) m=(a,n8 b):=by unfold tr;exact if_neg Cs
    rw[t1,t2]at hF;cases hF;have b1:=EL b;have b2:=Np b;have e1:=mulR b (b:=48271) (by decide) (by decide);have e2:vE (.int (b*48271+11)) (.int 2147483647)=some (.int (n8 b)):=i5 (by decide);have e3:jE (.int (n8 b)) (.int (n8 b))=some (.int (n8 b*n8 b)):=mulR _ (by omega) (by omega);have e4:vE (.int (n8 b*n8 b)) (.int 2147483629)=some (.int (jZ b)):=i5 (by decide);have e5:=mulR (jZ b) (b:=69621) (by decide) (by decide);have e6:=i5 (a:=jZ b*69621) (b:=2147483587) (by decide);have e7:=iQ (a:=(jZ b*69621).fmod 2147483587) (b:=8) (by decide) (by decide);have e8:=i5 (a:=((jZ b*69621).fmod 2147483587).fdiv 8) (b:=m) xg;simp![i0,i1,Kb,Ct,cD,e1,e2,e3,e4,e5,e6,e7,e8,eq_false Cs,n0,n1]
  ·cases hF
 ·cases hF
def jV:List Dat->Option Dat
 |[.int n,.int d]=>if 0<d/\d.natAbs<2^8000000 then some (mk n d)else none
 |_=>none
theorem mz{d:Int}(h:0<d)(hb:d.natAbs<2^8000000):jV [.int n,.int d]=some (mk n d):=if_pos ⟨h,hb⟩
def KU:ax->Nat
 |_::some (.a7 (.int d))::_=>d.natAbs+1
 |_=>0
abbrev Oo:aw->Option Bool:=cc (f2 gk (aH 3) (fC (Dat.int 0)))
abbrev Oq:ax->Option Fl:=HZ 2 3 (aU (aH 3) (aU (f2 vE (aH 2) (aH 3)) bS))
theorem C9(x y:Option Slot):∀(n:Nat) (a b:Int),0<=a->0<=b->b.natAbs<n->fK Oo Oq n [x,y,some (.a7 (.int a)),some (.a7 (.int b))]=some (.nx [x,y,some (.a7 (.int (gcd a b))),some (.a7 (.int 0))])
 |0,a,b,_,_,h=>by omega
 |n+1,a,b,ha,hb,h=>by
  have eT:∀b:Int,Oo (bX [x,y,some (.a7 (.int a)),some (.a7 (.int b))])=some (!decide (b=0)):=fun b=>by
   show(gk (.int b) (.int 0)).bind lj=_;rw[dI];rfl
  by_cases e:b=0
  ·subst e;rw[yj (by rw[eT];rfl)];have:((gcd a 0:Nat):Int)=a:=by rw[Int.gcd_zero_right];omega
   rw[this]
  ·have hp:0<b:=by omega
   have bd:=lX a hp;have e1:Oq [x,y,some (.a7 (.int a)),some (.a7 (.int b))]=some (.nx [x,y,some (.a7 (.int b)),some (.a7 (.int (a.fmod b)))]):=by
    have em:=i5 (a:=a) (b:=b) e;simp![HZ,em]
   rw[yi (by rw[eT,decide_eq_false e];rfl) e1,C9 x y n b (a.fmod b) hb bd.1 (by omega),Fr.zZ a b hp]
theorem ME(T:TX P K mg)(U:FnAt K mg "_law_make" (top 46) ["n","d"]):Dn P w K mg base 41 "_law_make" ["n","d"] 2 jV:=by
 obtain⟨f,fd,U,hm,hB⟩:=U.ex;have nd:(["n","d","one","other"]:List Str).Nodup:=by decide +kernel
 refine ib U hm hB (N:=["n","d","one","other"]) ⟨rfl,rfl,rfl,by decide +kernel,rfl,by decide +kernel,by decide +kernel⟩ rfl (fun bG A outer s H E hr=>
  (ae (aB 2 nd (lT T.abs (a6 (a5 0) a9)))
  (ae (aB 3 nd (a5 1))
  (ae (uc KU PassesOwn.never (d5 hr (a5 3) a8) (ag (Ij 2 3 rfl nd (by decide) (a6 (a5 3) (a6 (iZ (a5 2) (a5 3)) a9)))))
  (ag (aq (bo (k:=0) (a6 (gg T.seer hr (a5 0) (a5 2)) (a6 (gg T.seer hr (a5 1) (a5 2)) a9))))))))) ?_
 intro ds r hl hF;unfold jV at hF;split at hF
 ·rename_i n d;split at hF
  ·rename_i h;obtain⟨h1,h2⟩:=h;cases hF;have g0:gcd (n.natAbs:Int) d=gcd n d:=by
    unfold gcd;rw[natAbs_natCast]
   have hl:=C9 (some (.a7 (.int n))) (some (.a7 (.int d))) (d.natAbs+1) n.natAbs d (by omega) (by omega) (by omega);rw[g0]at hl;have hw:mh KU Oo Oq [some (.a7 (.int n)),some (.a7 (.int d)),some (.a7 (.int n.natAbs)),some (.a7 (.int d))]=_:=hl;have gp:=Fr.lW (n:=n) (d:=d) (by omega);have gl:gcd n d<=d.natAbs:=le_of_dvd (by omega) (Int.ofNat_dvd_left.mp (gcd_dvd_right n d));have lg:(gcd n d:Int).natAbs.log2<9000000:=lt_trans (log2_small (k:=8000000) (by decide) (by rw[natAbs_natCast];exact lt_of_le_of_lt gl h2)) (by decide);have e1:=iQ (a:=n) (b:=(gcd n d:Int)) (by omega) lg;have e2:=iQ (a:=d) (b:=(gcd n d:Int)) (by omega) lg;have en:n.fdiv (gcd n d:Int)=Fr.num n d:=by unfold Fr.num Fr.dv;rw[if_neg (by omega)]
   have ed:d.fdiv (gcd n d:Int)=Fr.den n d:=by unfold Fr.den Fr.dv;rw[if_neg (by omega)]
   rw[en]at e1;rw[ed]at e2;have z2:2<=sizeLine:=sz (by decide);refine bP ?_;simp!;rw[ak (af:=[some (.a7 (.int n)),some (.a7 (.int d)),some (.a7 (.int n.natAbs)),none]) (by simp![jH])];rw[ak (af:=[some (.a7 (.int n)),some (.a7 (.int d)),some (.a7 (.int n.natAbs)),some (.a7 (.int d))]) (by simp![if_true])];rw[ak (af:=[some (.a7 (.int n)),some (.a7 (.int d)),some (.a7 (.int (gcd n d))),some (.a7 (.int 0))]) hw];simp![e1,e2,z2]
  ·cases hF
 ·cases hF
abbrev MR:=kQ fun p q r s=>some (mk (p*s+r*q) (q*s))
theorem MD(T:TX P K mg)(jW:Dn P w K mg base 41 "_law_make" ["n","d"] 2 jV)(U:FnAt K mg "_law_plus" (top 47) ["a","b"]):Dn P w K mg base 42 "_law_plus" ["a","b"] 2 MR:=by
 obtain⟨f,fd,U,hm,hB⟩:=U.ex;have nd:(["a","b"]:List Str).Nodup:=by decide +kernel
 refine ib U hm hB (N:=["a","b"]) ⟨rfl,rfl,rfl,by decide +kernel,rfl,by decide +kernel,by decide +kernel⟩ rfl (fun bG A outer s H E hr=>
  (ag (aq (az jW hr (a6 (fg (bK (ah (a5 0) a8) (ah (a5 1) a8)) (bK (ah (a5 1) a8) (ah (a5 0) a8))) (a6 (bK (ah (a5 0) a8) (ah (a5 1) a8)) a9)))))) ?_
 intro ds d hl hF;obtain⟨p,q,r,s,rfl,g1,g2,e⟩:=fG hF;have z:=mul_pos g1.pos g2.pos;cases e;simp![lh,l9,mulM g1.mp g2.mq,mulM g2.mp g1.mq,mulM g1.mq g2.mq,cD,mz z (g1.mq.mul g2.mq)]
abbrev jP (x:Int×Int):Dat:=fr x.1 x.2
structure Sm (x:Int×Int):Prop where
 pos:0<x.2
 Am:gcd x.1 x.2=1
 ln:x.1.natAbs<2^100
 ld:x.2.natAbs<2^100
def dQ (r:R) (g:Bool):(Int×Int)×R:=
 if tk r 8<4 then((tk (tr r 8) 7-3,1),tr (tr r 8) 7)
 else if tk r 8=4 then((0,1),tr r 8)
 else if tk r 8=7/\g=true then
  ((Fr.num (tk (tr r 8) (10^30)*(if tk (tr (tr r 8) (10^30)) 2=0 then 1 else -1)) (1+tk (tr (tr (tr r 8) (10^30)) 2) (10^29)),Fr.den (tk (tr r 8) (10^30)*(if tk (tr (tr r 8) (10^30)) 2=0 then 1 else -1)) (1+tk (tr (tr (tr r 8) (10^30)) 2) (10^29))),tr (tr (tr (tr r 8) (10^30)) 2) (10^29))
 else((Fr.num (tk (tr r 8) 41-20) (1+tk (tr (tr r 8) 41) 12),Fr.den (tk (tr r 8) 41-20) (1+tk (tr (tr r 8) 41) 12)),tr (tr (tr r 8) 41) 12)
theorem Bu{d:Int}(h:0<d)(hn:n.natAbs<2^100)(hd:d.natAbs<2^100):Sm (Fr.num n d,Fr.den n d):=
 ⟨Fr.den_pos (by omega),Fr.Am (by omega),lt_of_le_of_lt (Fr.uT (by omega)) hn,lt_of_le_of_lt (Fr.uU (by omega)) hd⟩
variable {g:Bool}
theorem rJ{r:R}(h:gJ r):Sm (dQ r g).1/\gJ (dQ r g).2:=by
 have o1:=fc (m:=8) h;unfold dQ;split
 ·have b:=hG (tr r 8) (m:=7) (by decide);exact⟨⟨show(0:Int)<1 by decide,Int.gcd_one_right _,by show(tk (tr r 8) 7-3).natAbs<_;omega,show(1:Int).natAbs<2^100 by decide⟩,fc o1⟩
 ·split
  ·exact⟨⟨show(0:Int)<1 by decide,show gcd 0 1=1 by decide,show(0:Int).natAbs<2^100 by decide,show(1:Int).natAbs<2^100 by decide⟩,o1⟩
  ·split
   ·have b1:=hG (tr r 8) (m:=10^30) (by decide);have b2:=hG (tr (tr (tr r 8) (10^30)) 2) (m:=10^29) (by decide);refine⟨Bu (by omega) ?_ (by omega),fc (fc (fc o1))⟩;split
    ·rw[Int.mul_one];omega
    ·rw[Int.mul_neg,Int.mul_one,natAbs_neg];omega
   ·have b1:=hG (tr r 8) (m:=41) (by decide);have b2:=hG (tr (tr r 8) 41) (m:=12) (by decide);exact⟨Bu (by omega) (by omega) (by omega),fc (fc o1)⟩
def mV:List Dat->List Dat->Option (Dat×List Dat)
 |[.int a,.int b],[.bool g]=>if gJ (a,b)then some (jP (dQ (a,b) g).1,rD (dQ (a,b) g).2)else none
 |_,_=>none
theorem qS{r:R}(h:gJ r):mV [.int r.1,.int r.2] [.bool g]=some (jP (dQ r g).1,rD (dQ r g).2):=if_pos h
theorem QY:sS (.int 10) (.int 29)=some (.int (10^29)):=iE (by unfold wq;decide)
theorem PQ(T:TX P K mg)(cL:iW P w K mg base 41 "_law_take" ["reel","many"] 2 ju)(jW:Dn P w K mg base 41 "_law_make" ["n","d"] 2 jV)(U:FnAt K mg "_law_fraction" (top 52) ["reel","great"]):iW P w K mg base 42 "_law_fraction" ["reel","great"] 2 mV:=by
 obtain⟨f,fd,U,hm,hB⟩:=U.ex;have nd:(["reel","great","way","number"]:List Str).Nodup:=by decide +kernel
 refine rn U hm hB (N:=["reel","great","way","number"]) ⟨rfl,rfl,rfl,by decide +kernel,rfl,by decide +kernel,by decide +kernel⟩ rfl (fun bG A outer s H E hr=>
  (ae (fA 2 nd (cy 0 cL hr (aP (aM a8) bw)))
  (ae (aT (nU (a5 2) a8) (ag (fB (vw (aP (BF (cy 0 cL hr (aP (aM a8) bw)) (aM a8)) (aP (aM a8) bw))))) aL)
  (ae (aT (bZ hr (a5 2) a8) (ag (fB (aM (bo (k:=0) (a6 a8 (a6 a8 a9)))))) aL)
  (ae (aT (cC (fP (bZ hr (a5 2) a8) (eV (bf (a5 1))))) (ae (fA 3 nd (LI (cy 0 cL hr (aP (aM (rj a8 a8)) bw)) (uf (aM (ij (a6 a8 (a6 (dr a8) a9)))) (cy 0 cL hr (aP (aM a8) bw)))))
  (ag (fB (yN jW hr (aP (aM (a5 3)) (aP (BG (aM a8) (cy 0 cL hr (aP (aM (rj a8 a8)) bw))) bw)))))) aL)
  (ag (fB (yN jW hr (aP (BF (cy 0 cL hr (aP (aM a8) bw)) (aM a8)) (aP (BG (aM a8) (cy 0 cL hr (aP (aM a8) bw))) bw)))))))))) ?_
 intro ds es d dN hl hF;unfold mV at hF;split at hF
 ·rename_i a b g;split at hF
  ·rename_i hR;have o1:=fc (m:=8) hR;have f8:=cR (m:=8) hR (by decide) (by decide);have z2:2<=sizeLine:=sz (by decide);by_cases c4:tk (a,b) 8<4
   ·have ef:dQ (a,b) g=((tk (tr (a,b) 8) 7-3,1),tr (tr (a,b) 8) 7):=by unfold dQ;rw[if_pos c4]
    rw[ef]at hF;cases hF;have f7:=cR (m:=7) o1 (by decide) (by decide);simp![f8,f7,d6,fN,eq_true c4,z2]
   ·by_cases e4:tk (a,b) 8=4
    ·have ef:dQ (a,b) g=((0,1),tr (a,b) 8):=by unfold dQ;rw[if_neg c4,if_pos e4]
     rw[ef]at hF;cases hF;simp![f8,d6,d7,eq_false c4,eq_true e4,z2]
    ·by_cases e7:tk (a,b) 8=7/\g=true
     ·have ef:=(show dQ (a,b) g=_ by unfold dQ;rw[if_neg c4,if_neg e4,if_pos e7]);rw[ef]at hF;cases hF;obtain⟨e7,eg⟩:=e7;subst eg;have o2:=fc (m:=10^30) o1;have o3:=fc (m:=2) o2;have Xb:=cR (m:=10^30) o1 (by decide) (by decide);have Xd:=cR (m:=2) o2 (by decide) (by decide);have Xc:=cR (m:=10^29) o3 (by decide) (by decide);have b2:=hG (tr (tr (a,b) 8) (10^30)) (m:=2) (by decide);have b29:=hG (tr (tr (tr (a,b) 8) (10^30)) 2) (m:=10^29) (by decide);have ix:fS [Dat.int 1,Dat.int (-1)] (tk (tr (tr (a,b) 8) (10^30)) 2)=some (.int (if tk (tr (tr (a,b) 8) (10^30)) 2=0 then 1 else -1)):=by
       rcases(show tk (tr (tr (a,b) 8) (10^30)) 2=0\/tk (tr (tr (a,b) 8) (10^30)) 2=1 by omega)with h|h
       ·rw[h];rfl
       ·rw[h];rfl
      have em:jE (.int (tk (tr (a,b) 8) (10^30))) (.int (if tk (tr (tr (a,b) 8) (10^30)) 2=0 then 1 else -1))=some (.int (tk (tr (a,b) 8) (10^30)*(if tk (tr (tr (a,b) 8) (10^30)) 2=0 then 1 else -1))):=mulR _ (by split<;>decide) (by split<;>decide);generalize hs:(if tk (tr (tr (a,b) 8) (10^30)) 2=0 then(1:Int)else -1)=sg at ix em ⊢;have Kl:=mz (n:=tk (tr (a,b) 8) (10^30)*sg) (d:=1+tk (tr (tr (tr (a,b) 8) (10^30)) 2) (10^29)) (by omega) (lt_of_lt_of_le (show _<2^100 by omega) (pow_le_pow_right (by decide) (by decide)));simp![f8,Xb,Xd,Xc,QX,QY,d6,d7,cD,ix,em,Kl,eq_false c4,eq_false e4,eq_true e7,z2]
     ·have ef:=(show dQ (a,b) g=_ by unfold dQ;rw[if_neg c4,if_neg e4,if_neg e7]);rw[ef]at hF;cases hF;have o2:=fc (m:=41) o1;have T2:=cR (m:=41) o1 (by decide) (by decide);have T3:=cR (m:=12) o2 (by decide) (by decide);have b12:=hG (tr (tr (a,b) 8) 41) (m:=12) (by decide);have Kl:=mz (n:=tk (tr (a,b) 8) 41-20) (d:=1+tk (tr (tr (a,b) 8) 41) 12) (by omega) (lt_of_lt_of_le (show _<2^100 by omega) (pow_le_pow_right (by decide) (by decide)));by_cases Pl:tk (a,b) 8=7
      ·have eg:g=false:=by cases g with|false=>rfl|true=>exact absurd ⟨Pl,rfl⟩ e7
       subst eg;simp![f8,T2,T3,d6,d7,cD,fN,Kl,eq_false c4,eq_false e4,eq_true Pl,z2]
      ·simp![f8,T2,T3,d6,d7,cD,fN,Kl,eq_false c4,eq_false e4,eq_false Pl,z2]
  ·cases hF
 ·cases hF
def nM (xs:List (Int×Int)):Dat:=.tuple (xs.map jP)
abbrev Ko (kind:Str) (xs:List (Int×Int)) (b:Int×Int):Dat:=.tuple [.str kind,nM xs,jP b]
def Kd (k:Str):Prop:=k="="\/k="<"\/k="<="
def o9:Nat->R->Bool->List (Int×Int)×R
 |0,r,_=>([],r)
 |n+1,r,g=>((dQ r g).1::(o9 n (dQ r g).2 g).1,(o9 n (dQ r g).2 g).2)
theorem Ah:∀(n:Nat) {r:R} {g:Bool},gJ r->(∀x∈(o9 n r g).1,Sm x)/\gJ (o9 n r g).2/\(o9 n r g).1.length=n
 |0,r,g,h=>⟨fun x hx=>by simp[o9]at hx,h,rfl⟩
 |n+1,r,g,h=>by
  obtain⟨h1,h2⟩:=rJ (g:=g) h;obtain⟨i1,i2,i3⟩:=Ah n (g:=g) h2;refine⟨fun x hx=>?_,i2,by show(o9 n (dQ r g).2 g).1.length+1=_;rw[i3]⟩;rcases mem_cons.mp (show x∈(dQ r g).1::(o9 n (dQ r g).2 g).1 from hx)with e|h
  ·rw[e];exact h1
  ·exact i1 x h
theorem xB{gt:Dat->Option cW}{fe:HF}{tl:ax}{g:Bool}(SE:∀d,∃as,gt d=some as/\∀r:R,gJ r->∃EG,fe (setG (some (.own (rD r))::tl) as)=some (jP (dQ r g).1,some (.own (rD (dQ r g).2))::EG)):
  ∀(ao:List Dat) (r:R),gJ r->kh gt fe tl ao (rD r)=some ((o9 ao.length r g).1.map jP,rD (o9 ao.length r g).2)
 |[],r,_=>rfl
 |d::ao,r,h=>by
  obtain⟨as,e1,e2⟩:=SE d;obtain⟨EG,e3⟩:=e2 r h;have ih:=xB SE ao (dQ r g).2 (rJ h).2;show(gt d).bind _=_;rw[e1];show(fe (setG (some (.own (rD r))::tl) as)).bind _=_;rw[e3];show((kh gt fe tl ao (rD (dQ r g).2)).map _)=_;rw[ih];rfl
def VQ:List Str:=["<=","<","<=","=","<"]
def zy (i:Int):Str:=VQ.getD i.toNat "<"
theorem Kr{i:Int}(h:0<=i/\i<5):fS [Dat.str "<=",Dat.str "<",Dat.str "<=",Dat.str "=",Dat.str "<"] i=some (.str (zy i))/\Kd (zy i):=by
 rcases(show i=0\/i=1\/i=2\/i=3\/i=4 by omega)with e|e|e|e|e
 ·rw[e];exact⟨rfl,.inr (.inr rfl)⟩
 ·rw[e];exact⟨rfl,.inr (.inl rfl)⟩
 ·rw[e];exact⟨rfl,.inr (.inr rfl)⟩
 ·rw[e];exact⟨rfl,.inl rfl⟩
 ·rw[e];exact⟨rfl,.inr (.inl rfl)⟩
abbrev Om (r:R) (m:Int) (g:Bool):List (Int×Int)×R:=o9 m.toNat (tr r 5) g
abbrev Gg (r:R) (m:Int) (g:Bool):(Int×Int)×R:=dQ (Om r m g).2 g
def lu:List Dat->List Dat->Option (Dat×List Dat)
 |[.int a,.int b],[.int m,.bool g]=>if gJ (a,b)/\0<=m/\m<=9 then some (Ko (zy (tk (a,b) 5)) (Om (a,b) m g).1 (Gg (a,b) m g).1,rD (Gg (a,b) m g).2)else none
 |_,_=>none
theorem HK{r:R}(h:gJ r)(h1:0<=m)(h2:m<=9):lu [.int r.1,.int r.2] [.int m,.bool g]=some (Ko (zy (tk r 5)) (Om r m g).1 (Gg r m g).1,rD (Gg r m g).2):=if_pos ⟨h,h1,h2⟩
theorem fW(lo:Int)(n:Nat):(fO lo n).length=n:=by unfold fO;rw[length_map,length_range]
theorem PK(T:TX P K mg)(cL:iW P w K mg base 42 "_law_take" ["reel","many"] 2 ju)(kS:iW P w K mg base 42 "_law_fraction" ["reel","great"] 2 mV)(U:FnAt K mg "_law_line" (top 53) ["reel","many","great"]):iW P w K mg base 43 "_law_line" ["reel","many","great"] 3 lu:=by
 obtain⟨f,fd,U,hm,hB⟩:=U.ex;have nd:(["reel","many","great","kind","parts"]:List Str).Nodup:=by decide +kernel
 refine rn U hm hB (N:=["reel","many","great","kind","parts"]) ⟨rfl,rfl,rfl,by decide +kernel,rfl,by decide +kernel,by decide +kernel⟩ rfl (fun bG A outer s H E hr=>
  (ae (fA 3 nd (uf (aM (ij (a6 aY (a6 aY (a6 aY (a6 aY (a6 aY a9))))))) (cy 0 cL hr (aP (aM a8) bw))))
  (ae (fA 4 nd (q9 T.tuple (aP (sP (wQ 0 rfl (p7 (tn:=["k"]) (fv:=["reel","great"]) (js:=[0,2]) rfl (by decide +kernel) (by decide +kernel) rfl (by decide +kernel) (by decide +kernel) rfl
   (fun x hx=>by((have fj:x="reel"\/x="great":=(by simpa using hx));(rcases fj with rfl|rfl<;>exact⟨_,rfl⟩)))
   (fun p hp=>by((have fu:p=(("reel" : Str),(0:Nat))\/p=(("great" : Str),(2:Nat)):=(by simpa using hp));(rcases fu with rfl|rfl<;>exact⟨rfl,.inr (.inl rfl),.inl rfl,fun z=>by cases z⟩)))) (kJ T.range (a6 (a5 1) a9)) (fun _ _ _ _=>(ar 2 (show(["reel","great","k"]:List Str).Nodup by decide +kernel))) (fun _ _ _ _=>(cy 0 kS hr (aP (aM (a5 1)) bw))) (d4 rfl))) bw)))
  (ag (fB (vw (aP (aM (a5 3)) (aP (aM (a5 4)) (aP (cy 0 kS hr (aP (aM (a5 2)) bw)) bw))))))))) ?_
 intro ds es d dN hl hF;unfold lu at hF;split at hF
 ·rename_i a b m g;split at hF
  ·rename_i h;obtain⟨hR,h1,h2⟩:=h;cases hF;have o1:=fc (m:=5) hR;have f5:=cR (m:=5) hR (by decide) (by decide);have k5:=(Kr (hG (a,b) (m:=5) (by decide))).1;obtain⟨p1,p2,p3⟩:=Ah m.toNat (g:=g) o1;have ff:=qS (g:=g) p2;have z5:5<=sizeLine:=sz (by decide);have z3:3<=sizeLine:=sz (by decide);have z10:m.toNat<sizeLine:=lt_of_lt_of_le (show m.toNat<1000 by omega) (sz (by decide));have eR:ip [.int m]=some (fO 0 m.toNat):=if_pos ⟨by omega,by omega⟩;have ec:=xB (gt:=aName 2) (fe:=oV 0 2 mV (eM (j3 (aH 1)) iO)) (tl:=[some (.a7 (.bool g)),none]) (g:=g) (fun d=>⟨[(2,d)],rfl,fun r hr=>⟨[some (.a7 (.bool g)),some (.a7 d)],by
    have e:=qS (g:=g) hr;simp![e]⟩⟩) (fO 0 m.toNat) (tr (a,b) 5) o1
   rw[fW]at ec;simp![f5,k5,z5,lO,kb,eR,ec,z10,fW,p3,length_map,ff,z3];rfl
  ·cases hF
 ·cases hF
variable {n m:Nat}
theorem Oc{a b:Nat}(ha:a<2^n)(hb:b<2^m):a*b<2^(n+m):=by
 have h:=Nat.mul_lt_mul'' ha hb;rw[pw]at h;exact h
def VH (n d:Int):Int×Int:=(Fr.num n d,Fr.den n d)
def pl (x y:Int×Int):Int×Int:=VH (x.1*y.2+y.1*x.2) (x.2*y.2)
def Oe (x y:Int×Int):Bool:=decide (x.1*y.2<y.1*x.2)
theorem jm{α β γ:Type}{f:α->β->γ}{z:γ}:∀{xs:List α} {ys:List β},z∈zipWith f xs ys->∃x∈xs,∃y∈ys,z=f x y
 |[],ys,h=>by simp at h
 |x::xs,[],h=>by simp at h
 |x::xs,y::ys,h=>by
  rw[List.zipWith_cons_cons]at h;rcases mem_cons.mp h with e|h
  ·exact⟨x,mem_cons_self,y,mem_cons_self,e⟩
  ·obtain⟨a,ha,b,hb,e⟩:=jm h;exact⟨a,mem_cons_of_mem _ ha,b,mem_cons_of_mem _ hb,e⟩
theorem Cw{x y:Int×Int}(h:jP x=jP y):x=y:=by
 simp only[PySem.W.Dat.tuple.injEq,List.cons.injEq,PySem.W.Dat.int.injEq,and_true]at h;exact Prod.ext h.1 h.2
theorem J6{xs ys:List (Int×Int)}(h:nM xs=nM ys):xs=ys:=by
 unfold nM at h;rw[PySem.W.Dat.tuple.injEq]at h;exact(List.map_inj_right fun x y e=>Cw e).mp h
theorem FV(xs:List (Int×Int)):kqdOk 9 (nM xs)=true:=by
 show(xs.map jP).all (kqdOk 8)=true;rw[all_map,all_eq_true];exact fun x _=>rfl
theorem CH{d e:Dat}(h1:kqdOk 9 d=true)(h2:kqdOk 9 e=true)(n1:∀b,d≠.bool b)(n2:∀b,d≠.str b):eqB d e=some (lz d e):=by
 unfold eqB;split
 ·exact absurd rfl (n1 _)
 ·exact absurd rfl (n2 _)
 ·exact if_pos ⟨h1,h2⟩
theorem Mm(xs ys:List (Int×Int)):cU (nM xs) (nM ys)=some (.bool (decide (xs=ys))):=by
 unfold cU;rw[CH (FV xs) (FV ys) (fun b h=>by cases h) (fun b h=>by cases h)];by_cases e:xs=ys
 ·subst e;rw[mM rfl,decide_eq_true rfl];rfl
 ·rw[mN fun z=>e (J6 z),decide_eq_false e];rfl
theorem CF(x y:Int×Int):cU (jP x) (jP y)=some (.bool (decide (x=y))):=by
 unfold cU;rw[CH rfl rfl (fun b h=>by cases h) (fun b h=>by cases h)];by_cases e:x=y
 ·subst e;rw[mM rfl,decide_eq_true rfl];rfl
 ·rw[mN fun z=>e (Cw z),decide_eq_false e];rfl
theorem Mc(x y:Int×Int):gk (jP x) (jP y)=some (.bool (!decide (x=y))):=by
 have h:=CF x y;unfold cU at h;unfold gk;obtain⟨k,e1,e2⟩:=ba h;rw[e1];injection e2 with e2;show some (Dat.bool (!k))=_;rw[e2]
theorem cP(x y:Str):cU (.str x) (.str y)=some (.bool (decide (x=y))):=rfl
theorem jD(x y:Str):gk (.str x) (.str y)=some (.bool (!decide (x=y))):=rfl
theorem Vk(x y z:Dat):fS [x,y,z] 0=some x:=rfl
theorem Vj(x y z:Dat):fS [x,y,z] 1=some y:=rfl
theorem Vi(x y z:Dat):fS [x,y,z] 2=some z:=rfl
def kept (k:Str) (b:Int×Int) (kd:Str) (B:Int×Int):Bool:=if B=b then decide (k="<=") || decide (kd="<")else Oe B b
abbrev qD (q:Rat):Dat:=.tuple [.int q.num,.int (q.den:Int)]
structure SR (n:Nat) (q:Rat):Prop where
 ln:q.num.natAbs<2^n
 ld:q.den<2^n
variable {q:Rat}
theorem SR.up(h:SR n q)(hn:n<=m):SR m q:=⟨lt_of_lt_of_le h.ln (pow_le_pow_right (by decide) hn),lt_of_lt_of_le h.ld (pow_le_pow_right (by decide) hn)⟩
theorem SR.gd(h:SR n q)(hn:n<=4000000):Gd q.num (q.den:Int):=⟨by have:=q.den_pos;omega,by show Nat.gcd _ _=1;rw[natAbs_natCast];exact q.reduced,⟨(h.up hn).ln⟩,⟨by rw[natAbs_natCast];exact(h.up hn).ld⟩⟩
variable {a b:Rat}
theorem ie(ha:SR n a)(hb:SR m b)(hn:n<=4000000)(hm:m<=4000000):f6 [qD a,qD b]=some (qD (a+b)):=by
 have:=mU (g:=fun p q r s=>some (mk (p*s+r*q) (q*s))) (ha.gd hn) (hb.gd hm);obtain⟨e1,e2⟩:=Fr.BD a b;refine this.trans (congrArg some ?_);show Dat.tuple [.int (Fr.num _ _),.int (Fr.den _ _)]=_;rw[e1,e2]
theorem lY(ha:SR n a)(hb:SR m b)(hn:n<=4000000)(hm:m<=4000000):fm [qD a,qD b]=some (qD (a-b)):=by
 have:=mU (g:=fun p q r s=>some (mk (p*s-r*q) (q*s))) (ha.gd hn) (hb.gd hm);obtain⟨e1,e2⟩:=Fr.BA a b;refine this.trans (congrArg some ?_);show Dat.tuple [.int (Fr.num _ _),.int (Fr.den _ _)]=_;rw[e1,e2]
theorem w4(ha:SR n a)(hb:SR m b)(hn:n<=4000000)(hm:m<=4000000):jU [qD a,qD b]=some (qD (a*b)):=by
 have:=mU (g:=fun p q r s=>some (mk (p*r) (q*s))) (ha.gd hn) (hb.gd hm);obtain⟨e1,e2⟩:=Fr.BB a b;refine this.trans (congrArg some ?_);show Dat.tuple [.int (Fr.num _ _),.int (Fr.den _ _)]=_;rw[e1,e2]
theorem HD(ha:SR n a)(hb:SR m b)(hn:n<=4000000)(hm:m<=4000000)(h0:b.num≠0):oh [qD a,qD b]=some (qD (a/b)):=by
 have:=mU (g:=fun p q r s=>if r≠0 then some (mk (p*s) (q*r))else none) (ha.gd hn) (hb.gd hm);rw[if_pos h0]at this;obtain⟨e1,e2⟩:=Fr.BC a b h0;refine this.trans (congrArg some ?_);show Dat.tuple [.int (Fr.num _ _),.int (Fr.den _ _)]=_;rw[e1,e2]
theorem lZ(ha:SR n a)(hb:SR m b)(hn:n<=4000000)(hm:m<=4000000):fJ [qD a,qD b]=some (.bool (decide (a<b))):=by
 have:=mU (g:=fun p q r s=>some (.bool (decide (p*s<r*q)))) (ha.gd hn) (hb.gd hm);rw[show fJ [qD a,qD b]=_ from this];congr 2
 exact decide_eq_decide.mpr (Fr.yJ a b).symm
theorem tW{N D:Int}(hD:D≠0)(h1:Fr.num N D=q.num)(h2:Fr.den N D=(q.den:Int))(hn:N.natAbs<2^n)(hd:D.natAbs<2^n):SR n q:=by
 have a:=Fr.uT (n:=N) (d:=D) hD;have b:=Fr.uU (n:=N) (d:=D) hD;rw[h1]at a;rw[h2,natAbs_natCast]at b;exact⟨lt_of_le_of_lt a hn,lt_of_le_of_lt b hd⟩
theorem sh(q:Rat):(q.den:Int)≠0:=by have:=q.den_pos;omega
variable {a b:Int}
theorem cQ(ha:a.natAbs<2^n)(hb:b.natAbs<2^m):(a*b).natAbs<2^(n+m):=by rw[natAbs_mul];exact Oc ha hb
theorem qM(ha:a.natAbs<2^n)(hb:b.natAbs<2^n):(a+b).natAbs<2^(n+1):=by
 have e:(2:Nat)^(n+1)=2^n*2:=Nat.pow_succ 2 n;rw[e];generalize (2:Nat)^n=z at *;omega
theorem Hx(ha:a.natAbs<2^n)(hb:b.natAbs<2^n):(a-b).natAbs<2^(n+1):=by
 have e:(2:Nat)^(n+1)=2^n*2:=Nat.pow_succ 2 n;rw[e];generalize (2:Nat)^n=z at *;omega
theorem dR{x:Nat}(h:x<2^n)(hn:n<=m):x<2^m:=lt_of_lt_of_le h (pow_le_pow_right (by decide) hn)
theorem SR.dn(h:SR n q):(q.den:Int).natAbs<2^n:=by rw[natAbs_natCast];exact h.ld
variable {a b:Rat}
theorem SR.add(ha:SR n a)(hb:SR m b):SR (n+m+1) (a+b):=by
 obtain⟨e1,e2⟩:=Fr.BD a b;refine tW (mul_ne_zero (sh a) (sh b)) e1 e2 (qM (cQ ha.ln hb.dn) (by rw[add_comm n m];exact cQ hb.ln ha.dn)) (dR (cQ ha.dn hb.dn) (by omega))
theorem SR.sub(ha:SR n a)(hb:SR m b):SR (n+m+1) (a-b):=by
 obtain⟨e1,e2⟩:=Fr.BA a b;refine tW (mul_ne_zero (sh a) (sh b)) e1 e2 (Hx (cQ ha.ln hb.dn) (by rw[add_comm n m];exact cQ hb.ln ha.dn)) (dR (cQ ha.dn hb.dn) (by omega))
theorem SR.mul(ha:SR n a)(hb:SR m b):SR (n+m) (a*b):=by
 obtain⟨e1,e2⟩:=Fr.BB a b;exact tW (mul_ne_zero (sh a) (sh b)) e1 e2 (cQ ha.ln hb.ln) (cQ ha.dn hb.dn)
theorem SR.div(ha:SR n a)(hb:SR m b)(h0:b.num≠0):SR (n+m) (a/b):=by
 obtain⟨e1,e2⟩:=Fr.BC a b h0;exact tW (mul_ne_zero (sh a) h0) e1 e2 (cQ ha.ln hb.dn) (cQ ha.dn hb.ln)
theorem MA(T:TX P K mg)(kR:Dn P w K mg base 42 "make" ["n","d"] 2 iV)(U:FnAt K mg "minus" (top 4) ["a","b"]):Dn P w K mg base 43 "minus" ["a","b"] 2 fm:=by
 obtain⟨f,fd,U,hm,hB⟩:=U.ex;have nd:(["a","b"]:List Str).Nodup:=by decide +kernel
 refine ib U hm hB (N:=["a","b"]) ⟨rfl,rfl,rfl,by decide +kernel,rfl,by decide +kernel,by decide +kernel⟩ rfl (fun bG A outer s H E hr=>
  (ag (aq (az kR hr (a6 (nV (bK (ah (a5 0) a8) (ah (a5 1) a8)) (bK (ah (a5 1) a8) (ah (a5 0) a8))) (a6 (bK (ah (a5 0) a8) (ah (a5 1) a8)) a9 (hs:=dC)) (hs:=dC)))))) ?_
 intro ds d hl hF;obtain⟨p,q,r,s,rfl,g1,g2,e⟩:=fG hF;have z:=mul_pos g1.pos g2.pos;cases e;simp![lh,l9,mulM g1.mp g2.mq,mulM g2.mp g1.mq,mulM g1.mq g2.mq,fN,o6 (ne_of_gt z) (g1.mq.mul g2.mq)]
theorem Py(T:TX P K mg)(kR:Dn P w K mg base 42 "make" ["n","d"] 2 iV)(U:FnAt K mg "over" (top 6) ["a","b"]):Dn P w K mg base 43 "over" ["a","b"] 2 oh:=by
 obtain⟨f,fd,U,hm,hB⟩:=U.ex;have nd:(["a","b"]:List Str).Nodup:=by decide +kernel
 refine ib U hm hB (N:=["a","b"]) ⟨rfl,rfl,rfl,by decide +kernel,rfl,by decide +kernel,by decide +kernel⟩ rfl (fun bG A outer s H E hr=>
  (ag (aq (az kR hr (a6 (bK (ah (a5 0) a8) (ah (a5 1) a8)) (a6 (bK (ah (a5 0) a8) (ah (a5 1) a8)) a9 (hs:=dC)) (hs:=dC)))))) ?_
 intro ds d hl hF;obtain⟨p,q,r,s,rfl,g1,g2,e⟩:=fG hF;by_cases h0:r≠0
 ·rw[if_pos h0]at e;have z:q*r≠0:=mul_ne_zero (ne_of_gt g1.pos) h0;cases e;simp![lh,l9,mulM g1.mp g2.mq,mulM g1.mq g2.mp,o6 z (g1.mq.mul g2.mp)]
 ·rw[if_neg h0]at e;cases e
def aN:FM.Kn->Str
 | .eq=>"="
 | .le=>"<="
 | .lt=>"<"
def aI (r:FM.Row):Dat:=dP (aN r.1,r.2)
abbrev fw (l:List Int):Dat:=.tuple (l.map Dat.int)
theorem Mg{a b:FM.Kn}(h:aN a=aN b):a=b:=by cases a<;>cases b<;>first|rfl|exact absurd h (by decide +kernel)
theorem By{a b:FM.Row}(h:aI a=aI b):a=b:=by
 have:=oB h;obtain⟨e1,e2⟩:=Prod.mk.inj this;exact Prod.ext (Mg e1) e2
theorem i7(k:FM.Kn):(aN k="=")↔k=.eq:=by cases k<;>simp[aN]<;>decide +kernel
theorem y7(k:FM.Kn):(aN k="<")↔k=.lt:=by cases k<;>simp[aN]<;>decide +kernel
theorem kx(r:FM.Row):bz (aI r) (.int 0)=some (.str (aN r.1)):=rfl
theorem iB(r:FM.Row):bz (aI r) (.int 1)=some (fw r.2):=rfl
variable {j:Nat}
theorem gT{l:List Int}(h:j<l.length):bz (fw l) (.int (j:Int))=some (.int (l.getD j 0)):=by
 show fS (l.map Dat.int) (j:Int)=_;unfold L2.fS L2.lE;rw[if_pos (by omega),if_pos (by rw[length_map];omega)];show(l.map Dat.int)[((j:Int)).toNat]?=_;rw[toNat_natCast,getElem?_map,getD_eq_getElem?_getD,getElem?_eq_getElem h];rfl
theorem Oh{l:List Int}{x:Int}(h:x∈l)(hx:x≠0):FM.lowG l<=x.natAbs:=le_of_dvd (by omega) (Int.ofNat_dvd_left.mp (FM.my h))
theorem Hj(T:TX P K mg)(gD:Dn P w K mg base 41 "common_divisor" ["a","b"] 2 pd)(U:FnAt K mg "lowered" (top 12) ["numbers"]):
  ∃F,Dn P w K mg base 42 "lowered" ["numbers"] 1 F/\∀(l:List Int),l.length<=900->(∀x∈l,x.natAbs<2^9000000)->(∃x∈l,x≠0)->F [.list (l.map .int)]=some (fw (FM.lowered l)):=by
 refine⟨_,cG ["numbers","divisor","number"] U fun nd _ _ _ _ _ _ _ hr=>
  (ae (aB 1 nd a8)
  (ae (dD PassesOwn.never rfl (a5 0) (ar 2 nd)
  (ag (aB 1 nd (az gD hr (a6 (a5 1) (a6 (lT T.abs (a6 (a5 2) a9)) a9 (hs:=aX)))))))
  (ag (aq (gW T.tuple (a6 (cI (gV rfl (fI (tn:=["number"]) (fv:=["divisor"]) (js:=[1]) rfl (by decide +kernel) (by decide +kernel) rfl (by decide +kernel) (by decide +kernel) rfl
   (fun x hx=>by((have fj:x="divisor":=(by simpa using hx));(rcases fj with rfl<;>exact⟨_,rfl⟩)))
   (fun p hp=>by((have fu:p=(("divisor" : Str),(1:Nat)):=(by simpa using hp));(rcases fu with rfl<;>exact⟨rfl,.inr (.inl rfl),.inl rfl,fun z=>by cases z⟩)))) (a5 0) (fun _ _ _ _=>(ar 0 (show(["number","divisor"]:List Str).Nodup by decide +kernel))) (fun _ _ _ _=>dm) (fun _ _ _ _=>(gg T.seer hr (a5 0) (a5 1))) (d4 rfl))) a9)))))),?_⟩
 intro l hl hb ⟨x0,j9,cE⟩;have hp:=FM.sY j9 cE;have Wg:((FM.lowG l:Int)).natAbs.log2<9000000:=by
  refine log2_small (k:=9000000) (by decide) ?_;rw[natAbs_natCast];exact lt_of_le_of_lt (Oh j9 cE) (hb x0 j9)
 have zl:l.length<sizeLine:=lt_of_lt_of_le (show l.length<1000 by omega) (sz (by decide));refine bP ?_;simp!;rw[ak (af:=[some (.a7 (.list (l.map .int))),some (.a7 (.int 0)),none]) (by simp![])];refine gc (I:=_) (gY (l:=l) (s:=0) Dat.int (fun(g:Nat) Γ=>∃u,Γ=[some (.a7 (.list (l.map .int))),some (.a7 (.int (g:Int))),u]) (fun _ _=>True) (fun g x=>Nat.gcd g x.natAbs) (d:=.list (l.map .int)) rfl rfl trivial ⟨none,rfl⟩ ?_) ?_
 ·rintro g x l' Γ _ ⟨u,rfl⟩;refine⟨[(2,.int x)],rfl,?_⟩;dsimp!;have e1:pd [.int (g:Int),.int (x.natAbs:Int)]=some (.int ((Nat.gcd g x.natAbs:Nat):Int)):=by
   show(if 0<=(g:Int)/\0<=(x.natAbs:Int)then some (Dat.int (gcd (g:Int) (x.natAbs:Int)))else none)=_;rw[if_pos ⟨by omega,by omega⟩];rfl
  exact⟨[some (.a7 (.list (l.map .int))),some (.a7 (.int ((Nat.gcd g x.natAbs:Nat):Int))),some (.a7 (.int x))],by simp![jH,e1],⟨_,rfl⟩,trivial⟩
 ·rintro af ⟨u,rfl⟩;have eG:(l.foldl (fun g x=>Nat.gcd g x.natAbs) 0:Nat)=FM.lowG l:=rfl;rw[eG];have ec:cf (aName 0) gL (L3.f2 rK (aH 0) (aH 1)) [none,some (.int (FM.lowG l:Int))] (l.map .int)=some ((FM.lowered l).map .int):=by
   refine cZ _ _ (by rw[length_map,length_map,FM.rV]) fun i d o h1 h2=>?_;unfold FM.lowered at h2;rw[getElem?_map]at h1 h2;rw[getElem?_map]at h2;cases hq:l[i]? with
   |none=>rw[hq]at h1;cases h1
   |some x=>
    rw[hq]at h1 h2;cases h1;cases h2;refine⟨[(0,.int x)],rfl,?_⟩;have e:=iQ (a:=x) (b:=(FM.lowG l:Int)) (by omega) Wg;simp![e]
  simp![length_map,zl,ec]
theorem yf:∀(xs ys:List Int),dz (xs.map Dat.int) (ys.map Dat.int)=(xs.zip ys).map fun z=>Dat.tuple [.int z.1,.int z.2]
 |[],ys=>by simp[dz]
 |x::xs,[]=>by simp[dz]
 |x::xs,y::ys=>by simp only[map_cons,dz,zip_cons_cons,yf xs ys]
theorem Mz(T:TX P K mg){Fl:List Dat->Option Dat}(JG:Dn P w K mg base 42 "lowered" ["numbers"] 1 Fl)(hL:∀(l:List Int),l.length<=900->(∀x∈l,x.natAbs<2^9000000)->(∃x∈l,x≠0)->Fl [.list (l.map .int)]=some (fw (FM.lowered l)))(U:FnAt K mg "mixed" (top 15) ["one","much","other","more"]):
  ∃F,Dn P w K mg base 43 "mixed" ["one","much","other","more"] 4 F/\∀(b:Nat) (one other:List Int) (bO more:Int),b<=4400000->one.length<=900->(∀x∈one,x.natAbs<2^b)->(∀x∈other,x.natAbs<2^b)->bO.natAbs<2^b->more.natAbs<2^b->(∃x∈FM.fQ one bO other more,x≠0)->
   F [fw one,.int bO,fw other,.int more]=some (fw (FM.mixed one bO other more))/\∀x∈FM.mixed one bO other more,x.natAbs<2^(2*b+1):=by
 refine⟨_,cG ["one","much","other","more"] U fun nd _ _ _ _ _ _ _ hr=>
  (ag (aq (az JG hr (a6 (cI (k8 rfl (fI (tn:=["a","b"]) (fv:=["much","more"]) (js:=[1,3]) rfl (by decide +kernel) (by decide +kernel) rfl (by decide +kernel) (by decide +kernel) rfl
   (fun x hx=>by((have fj:x="much"\/x="more":=(by simpa using hx));(rcases fj with rfl|rfl<;>exact⟨_,rfl⟩)))
   (fun p hp=>by((have fu:p=(("much" : Str),(1:Nat))\/p=(("more" : Str),(3:Nat)):=(by simpa using hp));(rcases fu with rfl|rfl<;>exact⟨rfl,.inr (.inl rfl),.inl rfl,fun z=>by cases z⟩)))) (mm T.zip (a6 (a5 0) (a6 (a5 2) a9))) (fun _ _ _ _=>(dh (n:=2) rfl (aW (ar 0 (show(["a","b","much","more"]:List Str).Nodup by decide +kernel)) (aW (ar 1 (show(["a","b","much","more"]:List Str).Nodup by decide +kernel)) cM)))) (fun _ _ _ _=>dm) (fun _ _ _ _=>(fg (bK (a5 2) (a5 0)) (bK (a5 3) (a5 1)))) (tR rfl rfl))) a9)))),?_⟩
 intro b one other bO more hb h9 h1 h2 h3 h4 cE;have bd:∀x∈FM.fQ one bO other more,x.natAbs<2^(2*b+1):=fun x hx=>by
  obtain⟨p,hp,q,hq,rfl⟩:=jm (show x∈zipWith (fun a b=>bO*a+more*b) one other from hx);rw[show 2*b=b+b by omega];exact qM (cQ h3 (h1 p hp)) (cQ h4 (h2 q hq))
 have ml:(FM.fQ one bO other more).length<=900:=by
  show(zipWith _ one other).length<=900;rw[length_zipWith];omega
 have eL:=hL (FM.fQ one bO other more) ml (fun x hx=>dR (bd x hx) (by omega)) cE;constructor
 ·have zl:(one.zip other).length<sizeLine:=by rw[length_zip];exact lt_of_lt_of_le (show min one.length other.length<1000 by omega) (sz (by decide))
  have ec:cf (kG 2 (gM (aName 0) (gM (aName 1) mR))) gL (L3.f2 lA (L3.f2 jE (aH 2) (aH 0)) (L3.f2 jE (aH 3) (aH 1))) [none,none,some (.int bO),some (.int more)] ((one.zip other).map fun z=>Dat.tuple [.int z.1,.int z.2])=some ((FM.fQ one bO other more).map .int):=by
   have es:FM.fQ one bO other more=(one.zip other).map fun z=>bO*z.1+more*z.2:=by
    show zipWith _ one other=_;clear eL ml bd cE h1 h2 h9 zl;induction one generalizing other with
    |nil=>simp
    |cons x one ih=>
     cases other with
     |nil=>simp
     |cons y other=>rw[List.zipWith_cons_cons,zip_cons_cons,map_cons,ih]
   rw[es];refine cZ _ _ (by rw[length_map,length_map,length_map]) fun i d o g1 g2=>?_;rw[getElem?_map]at g1 g2;rw[getElem?_map]at g2;cases hq:(one.zip other)[i]? with
   |none=>rw[hq]at g1;cases g1
   |some z=>
    rw[hq]at g1 g2;cases g1;cases g2;obtain⟨OJ,OI⟩:=of_mem_zip (mem_of_getElem? hq);refine⟨[(0,.int z.1),(1,.int z.2)],rfl,?_⟩;have e1:=DJ (a:=bO) (b:=z.1) (dR h3 (by omega)) (dR (h1 z.1 OJ) (by omega));have e2:=DJ (a:=more) (b:=z.2) (dR h4 (by omega)) (dR (h2 z.2 OI) (by omega));simp![e1,e2,cD]
  simp![gS,yf,length_map,zl,ec,eL];rfl
 ·intro x hx;obtain⟨y,hy,rfl⟩:=mem_map.mp (show x∈(FM.fQ one bO other more).map (fun x=>x.fdiv (FM.lowG (FM.fQ one bO other more):Int))from hx);refine lt_of_le_of_lt ?_ (bd y hy);obtain⟨c,hc⟩:=FM.my hy;obtain⟨x0,j9,h0⟩:=cE;have gp:=FM.sY j9 h0;generalize (FM.lowG (FM.fQ one bO other more))=g at hc gp;rw[hc,mul_comm,Int.mul_fdiv_cancel _ (by omega),natAbs_mul,natAbs_natCast];exact Nat.le_mul_of_pos_right _ gp
structure gZ (m b:Nat) (rows:List FM.Row):Prop where
 len:∀r∈rows,r.2.length=m
 bd:∀r∈rows,∀x∈r.2,x.natAbs<2^b
theorem cV{r:FM.Row}{b:Nat}(h:∀x∈r.2,x.natAbs<2^b):(FM.ent r j).natAbs<2^b:=by
 by_cases c:FM.ent r j=0
 ·rw[c];exact pow_pos (by decide)
 ·exact h _ (FM.mem_getD c)
def sU:Option FM.Row->Dat
 |none=>.none
 |some r=>aI r
theorem MG(T:TX P K mg)(U:FnAt K mg "equal_row" (top 16) ["rows","place"]):
  ∃F,Dn P w K mg base 41 "equal_row" ["rows","place"] 2 F/\∀(rows:List FM.Row) (j m:Nat),(∀r∈rows,r.2.length=m)->j<m->F [.list (rows.map aI),.int (j:Int)]=some (sU (FM.ey j rows)):=by
 refine⟨_,cG ["rows","place","row"] U fun nd _ _ _ _ _ _ _ hr=>
  (ae (dD PassesOwn.never rfl (a5 0) (ar 2 nd)
  (ag (aT (cC (fP (bZ hr (ah (a5 2) a8) aY) (eV (d5 hr (ah (ah (a5 2) a8) (a5 1)) a8)))) (ag (aq (a5 2))) aL)))
  (ag (aq cz))),?_⟩
 intro rows j m hl hj;refine bP ?_;simp!;refine(xo (l:=rows) aI (fun Γ=>∃u,Γ=[some (.a7 (.list (rows.map aI))),some (.a7 (.int (j:Int))),u]) (fun r=>decide (r.1=.eq/\FM.ent r j≠0)) aI (d:=.list (rows.map aI)) (fl:=fun o=>.rt (sU o)) rfl rfl ⟨none,rfl⟩ ?_ (fun _=>rfl) ?_)
 ·rintro r hr Γ ⟨u,rfl⟩;refine⟨[(2,aI r)],rfl,?_⟩;dsimp!;have a1:=gT (l:=r.2) (j:=j) (by rw[hl r hr];exact hj);have a0:FM.ent r j=r.2.getD j 0:=rfl;by_cases c1:r.1=.eq
  ·have k1:=(i7 r.1).mpr c1;by_cases c2:r.2.getD j 0=0
   ·rw[if_neg (by rw[a0,decide_eq_true_eq];exact fun z=>z.2 c2)];refine⟨[some (.a7 (.list (rows.map aI))),some (.a7 (.int (j:Int))),some (.a7 (aI r))],?_,_,rfl⟩;dsimp![kx,iB,a1,cP,dI,eq_true k1,eq_true c2]
   ·rw[if_pos (by rw[a0];exact decide_eq_true ⟨c1,c2⟩)];dsimp![kx,iB,a1,cP,dI,eq_true k1,eq_false c2]
  ·have k1:¬aN r.1="=":=fun z=>c1 ((i7 r.1).mp z);rw[if_neg (by simp[c1])];refine⟨[some (.a7 (.list (rows.map aI))),some (.a7 (.int (j:Int))),some (.a7 (aI r))],?_,_,rfl⟩;dsimp![kx,iB,a1,cP,dI,eq_false k1]
 ·rintro af ⟨u,rfl⟩;simp![sU]
abbrev Qf (Fm:List Dat->Option Dat):Prop:=∀(b:Nat) (one other:List Int) (bO more:Int),b<=4400000->one.length<=900->(∀x∈one,x.natAbs<2^b)->(∀x∈other,x.natAbs<2^b)->bO.natAbs<2^b->more.natAbs<2^b->(∃x∈FM.fQ one bO other more,x≠0)->
   Fm [fw one,.int bO,fw other,.int more]=some (fw (FM.mixed one bO other more))/\∀x∈FM.mixed one bO other more,x.natAbs<2^(2*b+1)
abbrev Tb (F:List Dat->Option Dat):Prop:=∀(b m j:Nat) (r q:FM.Row),b<=4400000->m<=900->j<m->r.2.length=m->q.2.length=m->(∀x∈r.2,x.natAbs<2^b)->(∀x∈q.2,x.natAbs<2^b)->(∃x∈FM.fQ r.2 ((FM.ent q j).natAbs:Int) q.2 (if 0<FM.ent q j then -FM.ent r j else FM.ent r j),x≠0)->
   F [aI r,aI q,.int (j:Int)]=some (aI (FM.wo q j r))/\∀x∈(FM.wo q j r).2,x.natAbs<2^(2*b+1)
theorem Hh(T:TX P K mg){Fm:List Dat->Option Dat}(AL:Dn P w K mg base 43 "mixed" ["one","much","other","more"] 4 Fm)(hM:Qf Fm)(U:FnAt K mg "without" (top 17) ["row","equal","place"]):
  ∃F,Dn P w K mg base 44 "without" ["row","equal","place"] 3 F/\Tb F:=by
 refine⟨_,cG ["row","equal","place","part","more"] U fun nd _ _ _ _ _ _ _ hr=>
  (ae (aB 3 nd (ah (ah (a5 1) a8) (a5 2)))
  (ae (aB 4 nd (gf (rh (a5 3) a8) (dr (ah (ah (a5 0) a8) (a5 2))) (ah (ah (a5 0) a8) (a5 2))))
  (ag (aq (bo (k:=0) (a6 (ah (a5 0) a8) (a6 (az AL hr (a6 (ah (a5 0) a8) (a6 (lT T.abs (a6 (a5 3) a9)) (a6 (ah (a5 1) a8) (a6 (a5 4) a9) (hs:=aJ)) (hs:=aX)) (hs:=aJ))) a9 (hs:=aX)) (hs:=aJ))))))),?_⟩
 intro b m j r q hb mE hj hr hq br bq cE;have z2:2<=sizeLine:=sz (by decide);have a1:=gT (l:=r.2) (j:=j) (by omega);have a2:=gT (l:=q.2) (j:=j) (by omega);have m1:(((FM.ent q j).natAbs:Int)).natAbs<2^b:=by rw[natAbs_natCast];exact cV bq
 have m2:(if 0<FM.ent q j then -FM.ent r j else FM.ent r j).natAbs<2^b:=by
  split
  ·rw[natAbs_neg];exact cV br
  ·exact cV br
 obtain⟨e,P0⟩:=hM b r.2 q.2 _ _ hb (by omega) br bq m1 m2 cE;refine⟨?_,P0⟩;have Xh:q.2.getD j 0=FM.ent q j:=rfl;have Xg:r.2.getD j 0=FM.ent r j:=rfl;rw[Xg]at a1;rw[Xh]at a2;have er:aI (FM.wo q j r)=.tuple [.str (aN r.1),fw (FM.mixed r.2 ((FM.ent q j).natAbs:Int) q.2 (if 0<FM.ent q j then -FM.ent r j else FM.ent r j))]:=rfl;rw[er];by_cases c:0<FM.ent q j
 ·rw[if_pos c]at e ⊢;dsimp![kx,iB,a1,a2,gR,jH,eq_true c,e,z2]
 ·rw[if_neg c]at e ⊢;dsimp![kx,iB,a1,a2,gR,jH,eq_false c,e,z2]
abbrev TH (F:List Dat->Option Dat):Prop:=∀(b m j:Nat) (u l:FM.Row),b<=4400000->m<=900->j<m->u.2.length=m->l.2.length=m->(∀x∈u.2,x.natAbs<2^b)->(∀x∈l.2,x.natAbs<2^b)->(∃x∈FM.fQ u.2 (-FM.ent l j) l.2 (FM.ent u j),x≠0)->
   F [aI u,aI l,.int (j:Int)]=some (aI (FM.joined j u l))/\∀x∈(FM.joined j u l).2,x.natAbs<2^(2*b+1)
theorem Jo(T:TX P K mg){Fm:List Dat->Option Dat}(AL:Dn P w K mg base 43 "mixed" ["one","much","other","more"] 4 Fm)(hM:Qf Fm)(U:FnAt K mg "joined" (top 18) ["upper","lower","place"]):
  ∃F,Dn P w K mg base 44 "joined" ["upper","lower","place"] 3 F/\TH F:=by
 refine⟨_,cG ["upper","lower","place","kind"] U fun nd _ _ _ _ _ _ _ hr=>
  (ae (aB 3 nd (gf (BH aY (bo (k:=0) (a6 (ah (a5 0) a8) (a6 (ah (a5 1) a8) a9 (hs:=aJ)) (hs:=aJ)))) aY aY))
  (ag (aq (bo (k:=0) (a6 (a5 3) (a6 (az AL hr (a6 (ah (a5 0) a8) (a6 (dr (ah (ah (a5 1) a8) (a5 2))) (a6 (ah (a5 1) a8) (a6 (ah (ah (a5 0) a8) (a5 2)) a9 (hs:=aJ)) (hs:=aJ)) (hs:=gN)) (hs:=aJ))) a9 (hs:=aX))))))),?_⟩
 intro b m j u l hb mE hj hu hl bu bl cE;have z2:2<=sizeLine:=sz (by decide);have a1:=gT (l:=u.2) (j:=j) (by omega);have a2:=gT (l:=l.2) (j:=j) (by omega);obtain⟨e,P0⟩:=hM b u.2 l.2 (-FM.ent l j) (FM.ent u j) hb (by omega) bu bl (by rw[natAbs_neg];exact cV bl) (cV bu) cE;refine⟨?_,P0⟩;have Xf:u.2.getD j 0=FM.ent u j:=rfl;have Xk:l.2.getD j 0=FM.ent l j:=rfl;rw[Xf]at a1;rw[Xk]at a2;have er:aI (FM.joined j u l)=.tuple [.str (aN (if u.1=.lt\/l.1=.lt then .lt else .le)),fw (FM.mixed u.2 (-FM.ent l j) l.2 (FM.ent u j))]:=rfl;rw[er];have ei:inD (.str "<") (.tuple [.str (aN u.1),.str (aN l.1)])=some (.bool (decide (u.1=.lt\/l.1=.lt))):=by
  cases zH:u.1<;>cases zN:l.1<;>rfl
 by_cases c:u.1=.lt\/l.1=.lt
 ·rw[decide_eq_true c]at ei;rw[if_pos c];have ks:aN .lt="<":=rfl;dsimp![kx,iB,a1,a2,ei,e,z2,ks]
 ·rw[decide_eq_false c]at ei;rw[if_neg c];have ks:aN .le="<=":=rfl;dsimp![kx,iB,a1,a2,ei,e,z2,ks]
variable {α:Type}
theorem jw(g:α->Dat)(xs:List α):i6 [.list (xs.map g)]=some (.int xs.length):=by show some (Dat.int ((xs.map g).length:Nat))=_;rw[length_map]
abbrev nat (p:Nat):Dat:=.int (p:Int)
abbrev TV (F:List Dat->Option Dat):Prop:=∀(m:Nat) (aC:List Nat) (u l:FM.Row),aC.length<=900->u.2.length=m->l.2.length=m->(∀p∈aC,p<m)->F [aI u,aI l,.list (aC.map nat)]=some (.int (FM.drawn aC u l:Nat))
theorem MI(T:TX P K mg)(U:FnAt K mg "drawn_on" (top 19) ["one","other","weighed"]):
  ∃F,Dn P w K mg base 41 "drawn_on" ["one","other","weighed"] 3 F/\TV F:=by
 refine⟨_,cG ["one","other","weighed"] U fun nd _ _ _ _ _ _ _ hr=>
  (ag (aq (cA T.len (a6 (cI (gV rfl (fI (tn:=["place"]) (fv:=["other","one"]) (js:=[1,0]) rfl (by decide +kernel) (by decide +kernel) rfl (by decide +kernel) (by decide +kernel) rfl
   (fun x hx=>by((have fj:x="other"\/x="one":=(by simpa using hx));(rcases fj with rfl|rfl<;>exact⟨_,rfl⟩)))
   (fun p hp=>by((have fu:p=(("other" : Str),(1:Nat))\/p=(("one" : Str),(0:Nat)):=(by simpa using hp));(rcases fu with rfl|rfl<;>exact⟨rfl,.inr (.inl rfl),.inl rfl,fun z=>by cases z⟩)))) (a5 2) (fun _ _ _ _=>(ar 0 (show(["place","other","one"]:List Str).Nodup by decide +kernel))) (fun _ _ _ _=>(kU (cC (cS (d5 hr (ah (ah (a5 2) a8) (a5 0)) a8) (dj (d5 hr (ah (ah (a5 1) a8) (a5 0)) a8)))))) (fun _ _ _ _=>(a5 0)) (d4 rfl))) a9)))),?_⟩
 intro m aC u l hw hu hl hp;have zl:aC.length<sizeLine:=lt_of_lt_of_le (show aC.length<1000 by omega) (sz (by decide));have ec:cf (aName 0) (iw (cc (L3.f2 gk (L3.f2 bz (L3.f2 bz (aH 2) (fC (.int 1))) (aH 0)) (fC (.int 0)))) (cc (L3.f2 gk (L3.f2 bz (L3.f2 bz (aH 1) (fC (.int 1))) (aH 0)) (fC (.int 0))))) (aH 0) [none,some (aI l),some (aI u)] (aC.map nat)=some ((aC.filter fun p=>decide (FM.ent u p≠0\/FM.ent l p≠0)).map nat):=by
  refine j6 nat nat _ aC fun p Gv=>⟨[(0,nat p)],rfl,?_,fun _=>rfl⟩;have a1:bz (fw u.2) (nat p)=some (.int (FM.ent u p)):=gT (by rw[hu];exact hp p Gv);have a2:bz (fw l.2) (nat p)=some (.int (FM.ent l p)):=gT (by rw[hl];exact hp p Gv);by_cases c1:FM.ent u p=0
  ·by_cases c2:FM.ent l p=0
   ·rw[decide_eq_false (by rw[c1,c2];simp)];dsimp![iB,a1,a2,dI,eq_true c1,eq_true c2]
   ·rw[decide_eq_true (.inr c2)];dsimp![iB,a1,a2,dI,eq_true c1,eq_false c2]
  ·rw[decide_eq_true (.inl c1)];dsimp![iB,a1,a2,dI,eq_false c1]
 have le:=jw nat (aC.filter fun p=>decide (FM.ent u p≠0\/FM.ent l p≠0));simp![length_map,zl,ec,le];rfl
abbrev rk (r:FM.Row):RK:=(aN r.1,r.2)
theorem NG{a b:FM.Row}(h:rk a=rk b):a=b:=By (congrArg dP h)
abbrev kO (w:World) (ks:List FM.Row):Slot:=.obj (jr w (ks.map rk)) ((ks.map rk).map dP)
theorem LN(ks:List FM.Row)(r:FM.Row):hZ (ks.map rk) (rk r)=(FM.ins ks r).map rk:=by
 unfold hZ FM.ins;have e:rk r∈ks.map rk↔r∈ks:=⟨fun h=>by obtain⟨x,hx,e⟩:=mem_map.mp h;rw[<- NG e];exact hx,fun h=>mem_map.mpr ⟨r,h,rfl⟩⟩;by_cases c:r∈ks
 ·rw[if_pos (e.mpr c),if_pos c]
 ·rw[if_neg (fun z=>c (e.mp z)),if_neg c,map_append];rfl
theorem uv(k:FM.Kn):PyData.strOk (aN k)=true:=by cases k<;>decide +kernel
variable {i:Nat} {Γ:ax}
theorem FA{g:aw->Option Dat}{ks:List FM.Row}{r:FM.Row}(hi:Γ[i]?=some (some (kO w ks)))(hf:g (bx Γ)=some (aI r))(hz:ks.length<sizeLine):tZ w i g Γ=some (.nx (Γ.set i (some (kO w (FM.ins ks r))))):=by
 have:=Ie (k:=rk r) hi hf (fun k hk=>by obtain⟨x,_,rfl⟩:=mem_map.mp hk;exact uv x.1) (uv r.1) (by rw[length_map];exact hz);rw[LN]at this;exact this
theorem o7(ks:List FM.Row)(r:FM.Row):(FM.ins ks r).length<=ks.length+1:=by
 unfold FM.ins;split
 ·omega
 ·rw[length_append];exact le_refl _
def Tp (F:List Dat->Option Dat):Prop:=∀(b m j most:Nat) (aC:List Nat) (rows:List FM.Row),b<=4400000->m<=900->j<m->gZ m b rows->aC.length<=900->(∀p∈aC,p<m)->
   (∀u∈rows,∀l∈rows,0<FM.ent u j->FM.ent l j<0->∃x∈FM.fQ u.2 (-FM.ent l j) l.2 (FM.ent u j),x≠0)->rows.length+(rows.filter fun r=>decide (0<FM.ent r j)).length*(rows.filter fun r=>decide (FM.ent r j<0)).length<sizeLine->
   F [.list (rows.map aI),.int (j:Int),.list (aC.map nat),.int (most:Int)]=some (.list ((FM.paired j aC most rows).map aI))
theorem lP{α β:Type}(p:β->Bool)(h:α->β->α):∀(l:List β) (s:α),l.foldl (fun s x=>if p x=true then h s x else s) s=(l.filter p).foldl h s
 |[],s=>rfl
 |x::l,s=>by
  rw[foldl_cons,filter_cons];by_cases c:p x=true
  ·rw[if_pos c,if_pos c,foldl_cons];exact lP p h l _
  ·rw[if_neg c,if_neg c];exact lP p h l _
theorem Ji(T:TX P K mg){Fd Fj:List Dat->Option Dat}(HN:Dn P w K mg base 44 "drawn_on" ["one","other","weighed"] 3 Fd)(hD:TV Fd)(MV:Dn P w K mg base 44 "joined" ["upper","lower","place"] 3 Fj)(hJ:TH Fj)(U:FnAt K mg "paired" (top 20) ["rows","place","weighed","most"]):
  ∃F,Dn P w K mg base 45 "paired" ["rows","place","weighed","most"] 4 F/\Tp F:=by
 refine⟨_,cG ["rows","place","weighed","most","kept","row","lowers","upper","lower"] U fun nd _ _ _ _ _ _ _ hr=>
  (ae (F9 w 4 nd)
  (ae (dD PassesOwn.never rfl (a5 0) (ar 5 nd)
  (ag (aT (bZ hr (ah (ah (a5 5) a8) (a5 1)) a8) (ag (wL w 4 hr cF (a5 5))) aL)))
  (ae (q5 6 nd rfl (fI (tn:=["row"]) (fv:=["place"]) (js:=[1]) rfl (by decide +kernel) (by decide +kernel) rfl (by decide +kernel) (by decide +kernel) rfl
   (fun x hx=>by((have fj:x="place":=(by simpa using hx));(rcases fj with rfl<;>exact⟨_,rfl⟩)))
   (fun p hp=>by((have fu:p=(("place" : Str),(1:Nat)):=(by simpa using hp));(rcases fu with rfl<;>exact⟨rfl,.inr (.inl rfl),.inl rfl,fun z=>by cases z⟩)))) (a5 0) (fun _ _ _ _=>(ar 0 (show(["row","place"]:List Str).Nodup by decide +kernel))) (fun _ _ _ _=>(kU (nU (ah (ah (a5 0) a8) (a5 1)) a8))) (fun _ _ _ _=>(a5 0)) (d4 rfl))
  (ae (dD PassesOwn.never rfl (cI (gV rfl (fI (tn:=["row"]) (fv:=["place"]) (js:=[1]) rfl (by decide +kernel) (by decide +kernel) rfl (by decide +kernel) (by decide +kernel) rfl
   (fun x hx=>by((have fj:x="place":=(by simpa using hx));(rcases fj with rfl<;>exact⟨_,rfl⟩)))
   (fun p hp=>by((have fu:p=(("place" : Str),(1:Nat)):=(by simpa using hp));(rcases fu with rfl<;>exact⟨rfl,.inr (.inl rfl),.inl rfl,fun z=>by cases z⟩)))) (a5 0) (fun _ _ _ _=>(ar 0 (show(["row","place"]:List Str).Nodup by decide +kernel))) (fun _ _ _ _=>(kU (rh (ah (ah (a5 0) a8) (a5 1)) a8))) (fun _ _ _ _=>(a5 0)) (d4 rfl))) (ar 7 nd)
  (ag (dD PassesOwn.never rfl (a5 6) (ar 8 nd)
  (ag (aT (LJ (az HN hr (a6 (a5 7) (a6 (a5 8) (a6 (a5 2) a9)))) (a5 3)) (ag (wL w 4 hr cF (az MV hr (a6 (a5 7) (a6 (a5 8) (a6 (a5 1) a9)))))) aL)))))
  (ag (F8 w 4 hr T.list)))))),?_⟩
 intro b m j most aC rows hb mE hj hR hw OM W8 hN;have ai:∀r∈rows,bz (fw r.2) (.int (j:Int))=some (.int (FM.ent r j)):=fun r hr=>gT (by rw[hR.len r hr];exact hj);have zr:rows.length<sizeLine:=by omega
 generalize IT:(rows.filter fun r=>decide (0<FM.ent r j))=ups at hN;generalize DT:(rows.filter fun r=>decide (FM.ent r j<0))=lows at hN;refine bP ?_;simp!;rw[ak (af:=[some (.a7 (.list (rows.map aI))),some (.a7 (.int (j:Int))),some (.a7 (.list (aC.map nat))),some (.a7 (.int (most:Int))),some (kO w []),none,none,none,none]) rfl]

 refine gc (I:=_) (gY (l:=rows) (s:=[]) aI (fun(ks:List FM.Row) Γ=>∃u,Γ=[some (.a7 (.list (rows.map aI))),some (.a7 (.int (j:Int))),some (.a7 (.list (aC.map nat))),some (.a7 (.int (most:Int))),some (kO w ks),u,none,none,none]) (fun ks l=>ks.length+l.length<=rows.length/\∀r∈l,r∈rows) (fun ks r=>if decide (FM.ent r j=0)=true then FM.ins ks r else ks) (d:=.list (rows.map aI)) rfl rfl ⟨by simp,fun _ h=>h⟩ ⟨none,rfl⟩ ?_) ?_
 ·rintro ks r l Γ ⟨hq,iF⟩ ⟨u,rfl⟩;rw[length_cons]at hq;have a1:=ai r (iF r mem_cons_self);refine⟨[(5,aI r)],rfl,?_⟩;dsimp!;by_cases c:FM.ent r j=0
  ·refine⟨[some (.a7 (.list (rows.map aI))),some (.a7 (.int (j:Int))),some (.a7 (.list (aC.map nat))),some (.a7 (.int (most:Int))),some (kO w (FM.ins ks r)),some (.a7 (aI r)),none,none,none],?_,⟨_,by rw[if_pos (decide_eq_true c)]⟩,?_,fun x hx=>iF x (mem_cons_of_mem _ hx)⟩
   ·rw[ng (by dsimp![iB,a1,d7,eq_true c])];exact FA rfl rfl (by omega)
   ·rw[if_pos (decide_eq_true c)];have:=o7 ks r;omega
  ·refine⟨[some (.a7 (.list (rows.map aI))),some (.a7 (.int (j:Int))),some (.a7 (.list (aC.map nat))),some (.a7 (.int (most:Int))),some (kO w ks),some (.a7 (aI r)),none,none,none],?_,⟨_,by rw[if_neg (by rw[decide_eq_true_eq];exact c)]⟩,?_,fun x hx=>iF x (mem_cons_of_mem _ hx)⟩
   ·rw[r9 (by dsimp![iB,a1,d7,eq_false c])];rfl
   ·rw[if_neg (by rw[decide_eq_true_eq];exact c)];omega
 rintro Γ ⟨u,rfl⟩;rw[lP];generalize SD:(rows.filter fun r=>decide (FM.ent r j=0)).foldl FM.ins []=Kp;have hk0l:Kp.length<=rows.length:=by
  rw[<- SD];have:∀(l s:List FM.Row),(l.foldl FM.ins s).length<=s.length+l.length:=fun l=>by
   induction l with
   |nil=>intro s;exact le_refl _
   |cons x l ih=>intro s;rw[foldl_cons,length_cons];have:=ih (FM.ins s x);have:=o7 s x;omega
  have h1:=this (rows.filter fun r=>decide (FM.ent r j=0)) [];have h2:=length_filter_le (fun r=>decide (FM.ent r j=0)) rows;simp only[length_nil,zero_add]at h1;omega
 have Xm:cf (aName 0) (cc (L3.f2 Ge (L3.f2 bz (L3.f2 bz (aH 0) (fC (.int 1))) (aH 1)) (fC (.int 0)))) (aH 0) [none,some (.int (j:Int))] (rows.map aI)=some (lows.map aI):=by
  rw[<- DT];refine j6 aI aI _ rows fun r hr=>⟨[(0,aI r)],rfl,?_,fun _=>rfl⟩;have a1:=ai r hr;dsimp![iB,a1,d6]
 have Xl:cf (aName 0) (cc (L3.f2 GN (L3.f2 bz (L3.f2 bz (aH 0) (fC (.int 1))) (aH 1)) (fC (.int 0)))) (aH 0) [none,some (.int (j:Int))] (rows.map aI)=some (ups.map aI):=by
  rw[<- IT];refine j6 aI aI _ rows fun r hr=>⟨[(0,aI r)],rfl,?_,fun _=>rfl⟩;have a1:=ai r hr;dsimp![iB,a1,gR]
 rw[ak (af:=[some (.a7 (.list (rows.map aI))),some (.a7 (.int (j:Int))),some (.a7 (.list (aC.map nat))),some (.a7 (.int (most:Int))),some (kO w Kp),u,some (.a7 (.list (lows.map aI))),none,none]) (by simp![oA,length_map,zr,Xm])];have UN:∀r∈ups,r∈rows/\0<FM.ent r j:=fun r hr=>by rw[<- IT]at hr;exact⟨(mem_filter.mp hr).1,of_decide_eq_true (mem_filter.mp hr).2⟩
 have UW:∀r∈lows,r∈rows/\FM.ent r j<0:=fun r hr=>by rw[<- DT]at hr;exact⟨(mem_filter.mp hr).1,of_decide_eq_true (mem_filter.mp hr).2⟩
 refine gc (I:=_) (gY (l:=ups) (s:=Kp) aI (fun(ks:List FM.Row) Γ=>∃x7 x8,Γ=[some (.a7 (.list (rows.map aI))),some (.a7 (.int (j:Int))),some (.a7 (.list (aC.map nat))),some (.a7 (.int (most:Int))),some (kO w ks),u,some (.a7 (.list (lows.map aI))),x7,x8]) (fun ks l=>ks.length+l.length*lows.length<sizeLine/\∀r∈l,r∈ups) (fun ks up=>lows.foldl (fun ks lo=>if decide (FM.drawn aC up lo<=most)=true then FM.ins ks (FM.joined j up lo)else ks) ks) (d:=.list (ups.map aI)) (by simp![length_map,zr,Xl]) rfl ⟨by omega,fun _ h=>h⟩ ⟨none,none,rfl⟩ ?_) ?_
 ·rintro ks up l Γ ⟨hq,iF⟩ ⟨x7,x8,rfl⟩;rw[length_cons,succ_mul]at hq;obtain⟨zH,OO⟩:=UN up (iF up mem_cons_self);refine⟨[(7,aI up)],rfl,?_⟩;dsimp!;refine Mk (gY (l:=lows) (s:=ks) aI (fun(wY:List FM.Row) Γ=>∃x8,Γ=[some (.a7 (.list (rows.map aI))),some (.a7 (.int (j:Int))),some (.a7 (.list (aC.map nat))),some (.a7 (.int (most:Int))),some (kO w wY),u,some (.a7 (.list (lows.map aI))),some (.a7 (aI up)),x8]/\wY.length<=ks.length+lows.length) (fun wY l=>wY.length+l.length<=ks.length+lows.length/\∀r∈l,r∈lows) (fun ks lo=>if decide (FM.drawn aC up lo<=most)=true then FM.ins ks (FM.joined j up lo)else ks) (d:=.list (lows.map aI)) rfl rfl ⟨le_refl _,fun _ h=>h⟩ ⟨x8,rfl,by omega⟩ ?_) ?_
  ·rintro wY lo l' Γ ⟨xc,vI⟩ ⟨x8,rfl,hk⟩;rw[length_cons]at xc;obtain⟨zN,rZ⟩:=UW lo (vI lo mem_cons_self);refine⟨[(8,aI lo)],rfl,?_⟩;dsimp!;have ed:=hD m aC up lo hw (hR.len up zH) (hR.len lo zN) OM;obtain⟨ej,_⟩:=hJ b m j up lo hb mE hj (hR.len up zH) (hR.len lo zN) (hR.bd up zH) (hR.bd lo zN) (W8 up zH lo zN OO rZ);by_cases c:FM.drawn aC up lo<=most
   ·have c':((FM.drawn aC up lo:Nat):Int)<=(most:Int):=by omega
    have KA:=o7 wY (FM.joined j up lo);refine⟨[some (.a7 (.list (rows.map aI))),some (.a7 (.int (j:Int))),some (.a7 (.list (aC.map nat))),some (.a7 (.int (most:Int))),some (kO w (FM.ins wY (FM.joined j up lo))),u,some (.a7 (.list (lows.map aI))),some (.a7 (aI up)),some (.a7 (aI lo))],?_,⟨_,by rw[if_pos (decide_eq_true c)],by rw[if_pos (decide_eq_true c)];omega⟩,by rw[if_pos (decide_eq_true c)];omega,fun x hx=>vI x (mem_cons_of_mem _ hx)⟩;rw[ng (by simp![ed,Cb,eq_true c'])];exact FA rfl (by simp![ej]) (by omega)
   ·have c':¬((FM.drawn aC up lo:Nat):Int)<=(most:Int):=by omega
    refine⟨[some (.a7 (.list (rows.map aI))),some (.a7 (.int (j:Int))),some (.a7 (.list (aC.map nat))),some (.a7 (.int (most:Int))),some (kO w wY),u,some (.a7 (.list (lows.map aI))),some (.a7 (aI up)),some (.a7 (aI lo))],?_,⟨_,by rw[if_neg (by rw[decide_eq_true_eq];exact c)],by rw[if_neg (by rw[decide_eq_true_eq];exact c)];omega⟩,by rw[if_neg (by rw[decide_eq_true_eq];exact c)];omega,fun x hx=>vI x (mem_cons_of_mem _ hx)⟩;rw[r9 (by simp![ed,Cb,eq_false c'])];rfl
  ·rintro tN ⟨x8',rfl,Kz⟩;exact⟨⟨_,_,rfl⟩,by omega,fun x hx=>iF x (mem_cons_of_mem _ hx)⟩
 ·rintro af ⟨x7,x8,rfl⟩;have er:ups.foldl (fun ks up=>lows.foldl (fun ks lo=>if decide (FM.drawn aC up lo<=most)=true then FM.ins ks (FM.joined j up lo)else ks) ks) Kp=FM.paired j aC most rows:=by
   unfold FM.paired FM.pairsOf;rw[List.foldl_append,SD,IT,DT,List.foldl_flatMap];congr 1
   funext ks up
   rw[lP,List.foldl_map]
  rw[er];have:=HY (w:=w) (i:=4) (Γ:=[some (.a7 (.list (rows.map aI))),some (.a7 (.int (j:Int))),some (.a7 (.list (aC.map nat))),some (.a7 (.int (most:Int))),some (kO w (FM.paired j aC most rows)),u,some (.a7 (.list (lows.map aI))),x7,x8]) rfl;rw[map_map]at this;exact this
def fk (qs:List Rat):Nat:=qs.foldr (fun q m=>q.den*m) 1
theorem CM:∀qs:List Rat,0<fk qs
 |[]=>Nat.one_pos
 |q::qs=>Nat.mul_pos q.den_pos (CM qs)
theorem zt(a b:Nat):((a:Int)).fdiv (b:Int)=((a/b:Nat):Int):=by
 rw[Int.fdiv_eq_ediv_of_nonneg _ (by omega),Int.natCast_ediv]
theorem Ou(m d:Nat):((m:Int)*(d:Int)).fdiv ((Nat.gcd m d:Nat):Int)=((lcm m d:Nat):Int):=by
 rw[<- Int.natCast_mul,zt];rfl
theorem Gj(m d:Nat)(h:0<m)(h2:0<d):lcm m d<=m*d:=le_of_dvd (Nat.mul_pos h h2) (Nat.lcm_dvd (Nat.dvd_mul_right m d) (Nat.dvd_mul_left d m))
abbrev Tc (F:List Dat->Option Dat):Prop:=∀(c e:Nat) (k:FM.Kn) (qs:List Rat),qs.length<=900->c<=4000000->e<=4000000->(∀q∈qs,SR c q)->fk qs<2^e->F [.str (aN k),.list (qs.map qD)]=some (aI (FM.whole k qs))/\∀x∈(FM.whole k qs).2,x.natAbs<2^(c+e)
theorem vH:∀(qs:List Rat) (m:Nat),0<m->qs.foldl (fun m q=>lcm m q.den) m<=m*fk qs
 |[],m,_=>by show m<=m*1;omega
 |q::qs,m,h=>by
  have p:=q.den_pos;have h1:=vH qs (lcm m q.den) (Nat.lcm_pos h p);refine le_trans h1 ?_;show _<=m*(q.den*fk qs);rw[<- Nat.mul_assoc];exact Nat.mul_le_mul_right _ (Gj m q.den h p)
theorem Mr(T:TX P K mg)(gD:Dn P w K mg base 41 "common_divisor" ["a","b"] 2 pd)(U:FnAt K mg "whole_row" (top 13) ["kind","fractions"]):
  ∃F,Dn P w K mg base 42 "whole_row" ["kind","fractions"] 2 F/\Tc F:=by
 refine⟨_,cG ["kind","fractions","multiple","n","d"] U fun nd _ _ _ _ _ _ _ hr=>
  (ae (aB 2 nd a8)
  (ae (dD PassesOwn.never rfl (a5 1) (dh (n:=2) rfl (aW (ar 3 nd) (aW (ar 4 nd) cM)))
  (ag (aB 2 nd (gg T.seer hr (bK (a5 2) (a5 4)) (az gD hr (a6 (a5 2) (a6 (a5 4) a9)))))))
  (ag (aq (bo (k:=0) (a6 (a5 0) (a6 (gW T.tuple (a6 (cI (k8 rfl (fI (tn:=["n","d"]) (fv:=["multiple"]) (js:=[2]) rfl (by decide +kernel) (by decide +kernel) rfl (by decide +kernel) (by decide +kernel) rfl
   (fun x hx=>by((have fj:x="multiple":=(by simpa using hx));(rcases fj with rfl<;>exact⟨_,rfl⟩)))
   (fun p hp=>by((have fu:p=(("multiple" : Str),(2:Nat)):=(by simpa using hp));(rcases fu with rfl<;>exact⟨rfl,.inr (.inl rfl),.inl rfl,fun z=>by cases z⟩)))) (yL (a5 1)) (fun _ _ _ _=>(dh (n:=2) rfl (aW (ar 0 (show(["n","d","multiple"]:List Str).Nodup by decide +kernel)) (aW (ar 1 (show(["n","d","multiple"]:List Str).Nodup by decide +kernel)) cM)))) (fun _ _ _ _=>dm) (fun _ _ _ _=>(bK (a5 0) (gg T.seer hr (a5 2) (a5 1)))) (tR rfl rfl))) a9)) a9 (hs:=aX)))))))),?_⟩
 intro c e k qs hl hc he hq hP;have z2:2<=sizeLine:=sz (by decide);have zl:qs.length<sizeLine:=lt_of_lt_of_le (show qs.length<1000 by omega) (sz (by decide));have hL:FM.iq qs<2^e:=by
  have:=vH qs 1 (by decide);rw[one_mul]at this;exact lt_of_le_of_lt this hP
 have hLp:0<FM.iq qs:=FM.t5 qs;constructor
 ·refine bP ?_;simp!;rw[ak (af:=[some (.a7 (.str (aN k))),some (.a7 (.list (qs.map qD))),some (.a7 (.int 1)),none,none]) (by simp![])];refine gc (I:=_) (gY (l:=qs) (s:=1) qD (fun(m:Nat) Γ=>∃x3 x4,Γ=[some (.a7 (.str (aN k))),some (.a7 (.list (qs.map qD))),some (.a7 (.int (m:Int))),x3,x4]) (fun m l=>0<m/\m*fk l<2^e/\∀q∈l,q∈qs) (fun m q=>lcm m q.den) (d:=.list (qs.map qD)) rfl rfl ⟨by decide,by rw[one_mul];exact hP,fun _ h=>h⟩ ⟨none,none,rfl⟩ ?_) ?_
  ·rintro m q l Γ ⟨h1,h2,h3⟩ ⟨x3,x4,rfl⟩;have p:=q.den_pos;have SW:m*q.den*fk l<2^e:=by rw[Nat.mul_assoc];exact h2
   have lp:=CM l;have Sz:m*q.den<2^e:=lt_of_le_of_lt (Nat.le_mul_of_pos_right _ lp) SW;have xg:m<2^e:=lt_of_le_of_lt (Nat.le_mul_of_pos_right _ p) Sz;have SF:q.den<2^e:=lt_of_le_of_lt (Nat.le_mul_of_pos_left _ h1) Sz;refine⟨[(3,.int q.num),(4,.int (q.den:Int))],rfl,?_⟩;dsimp!;have e1:pd [.int (m:Int),.int (q.den:Int)]=some (.int ((Nat.gcd m q.den:Nat):Int)):=by
    show(if 0<=(m:Int)/\0<=(q.den:Int)then some (Dat.int (gcd (m:Int) (q.den:Int)))else none)=_;rw[if_pos ⟨by omega,by omega⟩];rfl
   have gp:0<Nat.gcd m q.den:=Nat.gcd_pos_of_pos_left _ h1;have e2:=DJ (a:=(m:Int)) (b:=(q.den:Int)) (by rw[natAbs_natCast];exact dR xg (by omega)) (by rw[natAbs_natCast];exact dR SF (by omega));have e3:=iQ (a:=(m:Int)*(q.den:Int)) (b:=((Nat.gcd m q.den:Nat):Int)) (by omega) (lt_trans (log2_small (k:=4000000) (by decide) (by rw[natAbs_natCast];exact lt_of_le_of_lt (Nat.gcd_le_left _ h1) (dR xg he))) (by decide));rw[Ou]at e3;refine⟨[some (.a7 (.str (aN k))),some (.a7 (.list (qs.map qD))),some (.a7 (.int ((lcm m q.den:Nat):Int))),some (.a7 (.int q.num)),some (.a7 (.int (q.den:Int)))],by simp![e1,e2,e3],⟨_,_,rfl⟩,Nat.lcm_pos h1 p,lt_of_le_of_lt (Nat.mul_le_mul_right _ (Gj m q.den h1 p)) SW,fun x hx=>h3 x (mem_cons_of_mem _ hx)⟩
  ·rintro af ⟨x3,x4,rfl⟩;have eL:(qs.foldl (fun m q=>lcm m q.den) 1:Nat)=FM.iq qs:=rfl;rw[eL];have ec:cf (kG 2 (gM (aName 0) (gM (aName 1) mR))) gL (L3.f2 jE (aH 0) (L3.f2 rK (aH 2) (aH 1))) [none,none,some (.int (FM.iq qs:Int))] (qs.map qD)=some ((FM.whole k qs).2.map .int):=by
    refine cZ _ _ (by rw[length_map,length_map];show _=(qs.map _).length;rw[length_map]) fun i d o g1 g2=>?_;unfold FM.whole at g2;rw[getElem?_map]at g1 g2;rw[getElem?_map]at g2;cases hz:qs[i]? with
    |none=>rw[hz]at g1;cases g1
    |some q=>
     rw[hz]at g1 g2;cases g1;cases g2;have rX:=hq q (mem_of_getElem? hz);have p:=q.den_pos;refine⟨[(0,.int q.num),(1,.int (q.den:Int))],rfl,?_⟩;have e3:=iQ (a:=(FM.iq qs:Int)) (b:=(q.den:Int)) (by omega) (lt_trans (log2_small (k:=4000000) (by decide) (by rw[natAbs_natCast];exact dR rX.ld hc)) (by decide));rw[zt]at e3;have e2:=DJ (a:=q.num) (b:=((FM.iq qs/q.den:Nat):Int)) (dR rX.ln (by omega)) (by rw[natAbs_natCast];exact lt_of_le_of_lt (Nat.div_le_self _ _) (dR hL (by omega)));simp![e3,e2]
   simp![gS,length_map,zl,ec,z2];rfl
 ·intro x hx;obtain⟨q,rX,rfl⟩:=mem_map.mp (show x∈qs.map (fun q=>q.num*((FM.iq qs/q.den:Nat):Int))from hx);exact cQ (hq q rX).ln (by rw[natAbs_natCast];exact lt_of_le_of_lt (Nat.div_le_self _ _) hL)
abbrev aA (o:FM.Ol):Dat:=.tuple [.str (aN o.1),.tuple (o.2.1.map qD),qD o.2.2]
def eN:Nat->List FM.Ol->List (Nat×FM.Ol)
 |_,[]=>[]
 |i,o::os=>(i,o)::eN (i+1) os
abbrev CJ (p:Nat×FM.Ol):Dat:=.tuple [.int (p.1:Int),aA p.2]
theorem E6:∀(os:List FM.Ol) (i:Nat),kf i (os.map aA)=(eN i os).map CJ
 |[],i=>rfl
 |o::os,i=>by rw[map_cons,kf,eN,map_cons,E6 os (i+1)]
theorem Ac:∀(os:List FM.Ol) (i:Nat),(eN i os).length=os.length
 |[],i=>rfl
 |o::os,i=>by rw[eN,length_cons,length_cons,Ac os]
theorem A8(k:Nat):∀(os:List FM.Ol) (i:Nat),(FM.cx k i os).length=os.length
 |[],i=>rfl
 |o::os,i=>by rw[FM.cx,length_cons,length_cons,A8 k os]
theorem CI(k:Nat):∀(os:List FM.Ol) (i:Nat) (acc:List FM.Row),(eN i os).foldl (fun acc (p:Nat×FM.Ol)=>acc++[FM.whole p.2.1 (p.2.2.1++[0,p.2.2.2]++FM.dw k p.1)]) acc=acc++FM.cx k i os
 |[],i,acc=>by show acc=acc++[];rw[append_nil]
 |o::os,i,acc=>by
  rw[eN,foldl_cons,CI k os (i+1),FM.cx,append_assoc];rfl
theorem H9:∀{os:List FM.Ol} {i:Nat} {p:Nat×FM.Ol},p∈eN i os->p.2∈os/\p.1<i+os.length
 |[],i,p,h=>by simp[eN]at h
 |o::os,i,p,h=>by
  rw[eN]at h;rcases mem_cons.mp h with e|h
  ·rw[e];exact⟨mem_cons_self,by rw[length_cons];omega⟩
  ·obtain⟨h1,h2⟩:=H9 h;exact⟨mem_cons_of_mem _ h1,by rw[length_cons];omega⟩
theorem uS(a b:List Rat)(h:a.length+b.length<=1000):tw (.list (a.map qD)) (.list (b.map qD))=some (.list ((a++b).map qD)):=by
 show(if(a.map qD).length+(b.map qD).length<=sizeLine then some (Dat.list (a.map qD++b.map qD))else none)=_;rw[if_pos (by rw[length_map,length_map];exact sz h),map_append]
theorem KW{α:Type}(d:α):∀m:Nat,(List.replicate m [d]).flatten=List.replicate m d
 |0=>rfl
 |m+1=>by rw[replicate_succ,flatten_cons,KW d m,replicate_succ];rfl
theorem NB(j:Int)(h1:0<=j)(h2:j<=2000000):ip [.int j]=some (fO 0 j.toNat):=if_pos ⟨by omega,by omega⟩
theorem yG(n:Nat)(h:n<=2000000):ip [.int (n:Int)]=some (fO 0 n):=by
 have:=NB (n:Int) (by omega) (by omega);rw[toNat_natCast]at this;exact this
variable {ρ:aw}
theorem yI{fb:aw->Option Dat}(h:fb ρ=some (.int n))(hn:n<=100):oX (nr (aU (fC (.tuple [.int 0,.int 1])) bS)) fb ρ=some ((List.replicate n (0:Rat)).map qD):=by
 have z1:1<=sizeLine:=sz (by decide);have zm:1*((n:Int).toNat)<=sizeLine:=by rw[one_mul,toNat_natCast];exact sz (by omega)
 have e1:nr (aU (fC (.tuple [.int 0,.int 1])) bS) ρ=some [.tuple [.int 0,.int 1]]:=by
  show(if 1<=sizeLine then some [Dat.tuple [.int 0,.int 1]]else none)=_;exact if_pos z1
 unfold oX;rw[e1,Option.bind_some,h,Option.bind_some];show(if _ then some (List.replicate ((n:Int).toNat) [Dat.tuple [Dat.int 0,Dat.int 1]]).flatten else none)=_;rw[if_pos ⟨⟨by omega,by omega⟩,zm⟩,KW,List.map_replicate,toNat_natCast];rfl
theorem q0:qD 0=.tuple [.int 0,.int 1]:=rfl
theorem q1:qD 1=.tuple [.int 1,.int 1]:=rfl
variable {c:Nat}
theorem kr(h:1<=c):SR c 0:=⟨pow_pos (by decide),one_lt_two_pow (by omega)⟩
theorem wF(h:1<=c):SR c 1:=⟨one_lt_two_pow (by omega),one_lt_two_pow (by omega)⟩
theorem j5:∀a b:List Rat,fk (a++b)=fk a*fk b
 |[],b=>by show fk b=1*fk b;omega
 |q::a,b=>by show q.den*fk (a++b)=q.den*fk a*fk b;rw[j5 a b,Nat.mul_assoc]
theorem og:∀{a:List Rat},(∀q∈a,q.den=1)->fk a=1
 |[],_=>rfl
 |q::a,h=>by show q.den*fk a=1;rw[h q mem_cons_self,og fun x hx=>h x (mem_cons_of_mem _ hx)]
theorem oq(h:q∈FM.dw k i):q=0\/q=1:=by
 obtain⟨c,_,rfl⟩:=mem_map.mp h;split
 ·exact .inr rfl
 ·exact .inl rfl
structure w6 (c e n:Nat) (o:FM.Ol):Prop where
 len:o.2.1.length=n
 sq:∀q∈o.2.1,SR c q
 bd:SR c o.2.2
 dn:fk o.2.1*o.2.2.den<2^e
abbrev TU (F:List Dat->Option Dat):Prop:=∀(c e:Nat) (p:List Rat) (os:List FM.Ol),1<=c->c<=3000000->e<=4000000->p.length<=100->os.length<=100->(∀q∈p,SR c q)->fk p<2^e->(∀o∈os,w6 c e p.length o)->F [.tuple (p.map qD),.list (os.map aA)]=some (.list ((FM.bj p os).map aI))
theorem neg_den(q:Rat):(0-q).den=q.den:=by
 have:(0:Rat)-q=-q:=by grind
 rw[this];exact Rat.neg_den q
theorem iM(h:SR c q):SR c (0-q):=by
 refine⟨?_,by rw[neg_den];exact h.ld⟩;have:(0:Rat)-q=-q:=by grind
 rw[this,Rat.neg_num,natAbs_neg];exact h.ln
theorem rL:∀p:List Rat,fk (p.map fun q=>0-q)=fk p
 |[]=>rfl
 |q::p=>by show(0-q).den*fk (p.map fun q=>0-q)=q.den*fk p;rw[neg_den,rL p]
variable {a1:Addr}
theorem MF(T:TX P K mg){a2:Addr}(Z1:TC K mg "ZERO_elimination" [.int 0,.int 1] a1)(Z2:TC K mg "ONE" [.int 1,.int 1] a2){Fw:List Dat->Option Dat}(vc:Dn P w K mg base 43 "whole_row" ["kind","fractions"] 2 Fw)(hW:Tc Fw)(jv:Dn P w K mg base 43 "minus" ["a","b"] 2 fm)(U:FnAt K mg "first_rows" (top 14) ["parts","others"]):
  ∃F,Dn P w K mg base 44 "first_rows" ["parts","others"] 2 F/\TU F:=by
 refine⟨_,cG ["parts","others","rows","place","other","weights","less"] U fun nd _ _ _ _ _ _ _ hr=>
  (ae (mj 2 nd (iJ a9))
  (ae (jK PassesOwn.never rfl (q8 T.enumerate (a6 (a5 1) a9)) (dh (n:=2) rfl (aW (ar 3 nd) (aW (ar 4 nd) cM)))
  (ae (ue 5 nd rfl (fI (tn:=["one"]) (fv:=["place"]) (js:=[3]) rfl (by decide +kernel) (by decide +kernel) rfl (by decide +kernel) (by decide +kernel) rfl
   (fun x hx=>by((have fj:x="place":=(by simpa using hx));(rcases fj with rfl<;>exact⟨_,rfl⟩)))
   (fun p hp=>by((have fu:p=(("place" : Str),(3:Nat)):=(by simpa using hp));(rcases fu with rfl<;>exact⟨rfl,.inr (.inl rfl),.inl rfl,fun z=>by cases z⟩)))) (kJ T.range (a6 (cA T.len (a6 (a5 1) a9)) a9 (hs:=aX))) (fun _ _ _ _=>(ar 0 (show(["one","place"]:List Str).Nodup by decide +kernel))) (fun _ _ _ _=>dm) (fun _ _ _ _=>(gf (bZ hr (a5 1) (a5 0)) (c9 Z2.mg Z2.tup) (c9 Z1.mg Z1.tup))) (d4 rfl))
  (ag (jl 2 (az vc hr (a6 (ah (a5 4) a8) (a6 (mn (mn (cI (qa T.list (a6 (ah (a5 4) a8) a9 (hs:=aJ)))) (ij (a6 (c9 Z1.mg Z1.tup) (a6 (ah (a5 4) a8) a9 (hs:=aJ))))) (a5 5)) a9 (hs:=dC)) (hs:=aJ)))))))
  (ae (q5 6 nd rfl (jT (N':=["part"])) (a5 0) (fun _ _ _ _=>(ar 0 (show(["part"]:List Str).Nodup by decide +kernel))) (fun _ _ _ _=>dm) (fun _ _ _ _=>(az jv hr (a6 (c9 Z1.mg Z1.tup) (a6 (a5 0) a9)))) (d4 rfl))
  (ae (jl 2 (az vc hr (a6 aY (a6 (mn (mn (a5 6) (ij (a6 (c9 Z2.mg Z2.tup) (a6 (c9 Z1.mg Z1.tup) a9)))) (cI (sQ (iJ (a6 (c9 Z1.mg Z1.tup) a9)) (cA T.len (a6 (a5 1) a9))))) a9 (hs:=dC)))))
  (ag (aq (a5 2))))))),?_⟩
 intro c e p os ke hc he hp kY lF uJ bF;have z0:0<=sizeLine:=zero_le _;have z1:1<=sizeLine:=sz (by decide);have z2:2<=sizeLine:=sz (by decide);have lo:=jw aA os;have uI:qw (aU (aH 1) bS) (bx [some (.a7 (.tuple (p.map qD))),some (.a7 (.list (os.map aA))),some (.own ([])),none,none,none,none])=some ((eN 0 os).map CJ):=by
  rw[<- E6];rfl
 refine bP ?_;simp!;rw[ak (af:=[some (.a7 (.tuple (p.map qD))),some (.a7 (.list (os.map aA))),some (.own ([])),none,none,none,none]) (by simp![z0])];refine gc (I:=_) (l6 (l:=eN 0 os) (s:=[]) CJ (fun(acc:List FM.Row) Γ=>∃x3 x4 x5,Γ=[some (.a7 (.tuple (p.map qD))),some (.a7 (.list (os.map aA))),some (.own (acc.map aI)),x3,x4,x5,none]) (fun acc l=>acc.length+l.length<=100/\∀x∈l,x∈eN 0 os) (fun acc (q:Nat×FM.Ol)=>acc++[FM.whole q.2.1 (q.2.2.1++[0,q.2.2.2]++FM.dw os.length q.1)]) uI ⟨by
   rw[Ac];exact le_trans (le_of_eq (zero_add _)) kY,fun _ h=>h⟩ ⟨none,none,none,rfl⟩ ?_) ?_
 ·rintro acc ⟨i,o⟩ l Γ ⟨hq,iF⟩ ⟨x3,x4,x5,rfl⟩;rw[length_cons]at hq;obtain⟨W6,KA⟩:=H9 (iF (i,o) mem_cons_self);have ho:=bF o W6;refine⟨[(3,.int (i:Int)),(4,aA o)],rfl,?_⟩;dsimp!;have eR:ip [.int ((os.length:Nat):Int)]=some (fO 0 os.length):=yG os.length (by omega);have ec:cf (aName 0) gL (uL (cc (L3.f2 cU (aH 1) (aH 0))) (fC (.tuple [.int 1,.int 1])) (fC (.tuple [.int 0,.int 1]))) [none,some (.int (i:Int))] (fO 0 os.length)=some ((FM.dw os.length i).map qD):=by
   refine cZ _ _ (by rw[fW,length_map,FM.oo]) fun n d o' h1 h2=>?_;obtain⟨hn,rfl⟩:=sM h1;refine⟨[(0,.int (0+(n:Int)))],rfl,?_⟩;rw[getElem?_map]at h2;have hu:(FM.dw os.length i)[n]?=some (if i=n then 1 else 0):=by
    unfold FM.dw;rw[getElem?_map,List.getElem?_range hn];rfl
   rw[hu]at h2;cases h2;by_cases ci:i=n
   ·have PV:(i:Int)=0+(n:Int):=by omega
    rw[if_pos ci,q1];simp![d7,eq_true PV]
   ·have PV:¬(i:Int)=0+(n:Int):=by omega
    rw[if_neg ci,q0];simp![d7,eq_false PV]
  have zn:os.length<sizeLine:=lt_of_lt_of_le (show os.length<1000 by omega) (sz (by decide));rw[ak (af:=[some (.a7 (.tuple (p.map qD))),some (.a7 (.list (os.map aA))),some (.own (acc.map aI)),some (.a7 (.int (i:Int))),some (.a7 (aA o)),some (.a7 (.list ((FM.dw os.length i).map qD))),none]) (Bv (An (oP (as:=[.int ((os.length:Nat):Int)]) (by simp![lo]) eR) (by rw[fW];exact zn) ec))];have a1:=uS o.2.1 [0,o.2.2] (by rw[ho.len];show _+2<=_;omega);have a2:=uS (o.2.1++[0,o.2.2]) (FM.dw os.length i) (by rw[length_append,ho.len,FM.oo];show _+2+_<=_;omega);have a1:tw (.list (o.2.1.map qD)) (.list [.tuple [.int 0,.int 1],qD o.2.2])=some (.list ((o.2.1++[0,o.2.2]).map qD)):=a1;obtain⟨ew,_⟩:=hW c e o.1 (o.2.1++[0,o.2.2]++FM.dw os.length i) (by rw[length_append,length_append,ho.len,FM.oo];show _+2+_<=_;omega) (by omega) he (fun q hq=>by
   rcases mem_append.mp hq with h|h
   ·rcases mem_append.mp h with h|h
    ·exact ho.sq q h
    ·rcases mem_cons.mp h with h|h
     ·rw[h];exact kr ke
     ·rw[mem_singleton.mp h];exact ho.bd
   ·rcases oq h with e|e
    ·rw[e];exact kr ke
    ·rw[e];exact wF ke) (by
   rw[j5,j5,og (a:=FM.dw os.length i) (fun q hq=>by rcases oq hq with e|e<;>(rw[e];rfl)),mul_one];show fk o.2.1*(1*(o.2.2.den*1))<_;rw[one_mul,mul_one];exact ho.dn)
  have l1:uk [.tuple (o.2.1.map qD)]=some (o.2.1.map qD):=rfl;have zs:acc.length<sizeLine:=lt_of_lt_of_le (show acc.length<1000 by omega) (sz (by decide));refine⟨[some (.a7 (.tuple (p.map qD))),some (.a7 (.list (os.map aA))),some (.own (acc.map aI++[aI (FM.whole o.1 (o.2.1++[0,o.2.2]++FM.dw os.length i))])),some (.a7 (.int (i:Int))),some (.a7 (aA o)),some (.a7 (.list ((FM.dw os.length i).map qD))),none],?_,⟨_,_,_,by rw[map_append];rfl⟩,by rw[length_append];show acc.length+1+l.length<=100;omega,fun x hx=>iF x (mem_cons_of_mem _ hx)⟩;simp![Vk,Vj,Vi,l1,a1,a2,ew,length_map,zs,z2]
 ·rintro af ⟨x3,x4,x5,rfl⟩;rw[CI,nil_append];have zp:p.length<sizeLine:=lt_of_lt_of_le (show p.length<1000 by omega) (sz (by decide));have ec:cf (aName 0) gL (iS 2 fm (aU (fC (.tuple [.int 0,.int 1])) (aU (aH 0) bS))) [none] (p.map qD)=some ((p.map fun q=>0-q).map qD):=by
   refine cZ _ _ (by rw[length_map,length_map,length_map]) fun n d o' h1 h2=>?_;rw[getElem?_map]at h1 h2;rw[getElem?_map]at h2;cases hz:p[n]? with
   |none=>rw[hz]at h1;cases h1
   |some q=>
    rw[hz]at h1 h2;cases h1;cases h2;refine⟨[(0,qD q)],rfl,?_⟩;have em:fm [.tuple [.int 0,.int 1],qD q]=some (qD (0-q)):=lY (kr (c:=1) (by decide)) (lF q (mem_of_getElem? hz)) (by decide) (by omega);simp![em]
  rw[ak (af:=[some (.a7 (.tuple (p.map qD))),some (.a7 (.list (os.map aA))),some (.own ((FM.cx os.length 0 os).map aI)),x3,x4,x5,some (.a7 (.list ((p.map fun q=>0-q).map qD)))]) (by simp![oA,length_map,zp,ec])];have a1:=uS (p.map fun q=>0-q) [1,0] (by rw[length_map];show _+2<=_;omega);have a2:=uS ((p.map fun q=>0-q)++[1,0]) (List.replicate os.length 0) (by rw[length_append,length_map,length_replicate];show _+2+_<=_;omega);have a1:tw (.list ((p.map fun q=>0-q).map qD)) (.list [.tuple [.int 1,.int 1],.tuple [.int 0,.int 1]])=some (.list ((p.map (fun q=>0-q)++[1,0]).map qD)):=a1;obtain⟨ew,_⟩:=hW c e .eq ((p.map fun q=>0-q)++[1,0]++List.replicate os.length 0) (by rw[length_append,length_append,length_map,length_replicate];show _+2+_<=_;omega) (by omega) he (fun q hq=>by
   rcases mem_append.mp hq with h|h
   ·rcases mem_append.mp h with h|h
    ·obtain⟨x,hx,rfl⟩:=mem_map.mp h;exact iM (lF x hx)
    ·rcases mem_cons.mp h with h|h
     ·rw[h];exact wF ke
     ·rw[mem_singleton.mp h];exact kr ke
   ·rw[(mem_replicate.mp h).2];exact kr ke) (by
   rw[j5,j5,og (a:=List.replicate os.length 0) (fun q hq=>by rw[(mem_replicate.mp hq).2];rfl),mul_one,rL];show fk p*1<_;rw[mul_one];exact uJ)
  have er:fL (oX (nr (aU (fC (.tuple [.int 0,.int 1])) bS)) (gy i6 (aU (aH 1) bS))) (bx [some (.a7 (.tuple (p.map qD))),some (.a7 (.list (os.map aA))),some (.own ((FM.cx os.length 0 os).map aI)),x3,x4,x5,some (.a7 (.list ((p.map fun q=>0-q).map qD)))])=some (.list ((List.replicate os.length (0:Rat)).map qD)):=by
   unfold fL;rw[yI (n:=os.length) lo kY];rfl
  have zf:(FM.cx os.length 0 os).length<sizeLine:=by
   rw[A8];exact lt_of_lt_of_le (show os.length<1000 by omega) (sz (by decide))
  have ks:aN .eq="=":=rfl;rw[ks]at ew;have Vc:(FM.bj p os).map aI=(FM.cx os.length 0 os).map aI++[aI (FM.whole .eq (p.map (fun q=>0-q)++[1,0]++List.replicate os.length 0))]:=by
   show(FM.cx os.length 0 os++[_]).map aI=_;rw[map_append];rfl
  rw[Vc];generalize fL (oX (nr (aU (fC (.tuple [.int 0,.int 1])) bS)) (gy i6 (aU (aH 1) bS)))=gr at *;have er2:∀(y3 y4 y5:Option Dat),True:=fun _ _ _=>trivial;rw[ak (af:=[some (.a7 (.tuple (p.map qD))),some (.a7 (.list (os.map aA))),some (.own ((FM.cx os.length 0 os).map aI++[aI (FM.whole .eq (p.map (fun q=>0-q)++[1,0]++List.replicate os.length 0))])),x3,x4,x5,some (.a7 (.list ((p.map fun q=>0-q).map qD)))]) (by
   simp only[bx,map_cons,map_nil]at er;simp![er,a1,a2,ew,length_map,zf,z2])]
  simp![]
theorem DB:((a.num,(a.den:Int)):Int×Int)=(b.num,(b.den:Int))↔a=b:=by
 constructor
 ·intro h;obtain⟨h1,h2⟩:=Prod.mk.inj h;exact Rat.ext h1 (by omega)
 ·intro h;rw[h]
theorem oY(a b:Rat):cU (qD a) (qD b)=some (.bool (decide (a=b))):=by
 have:=CF (a.num,(a.den:Int)) (b.num,(b.den:Int));rw[show decide ((a.num,(a.den:Int))=(b.num,(b.den:Int)))=decide (a=b)from decide_eq_decide.mpr DB]at this;exact this
theorem Ri(a b:Rat):gk (qD a) (qD b)=some (.bool (!decide (a=b))):=by
 have:=Mc (a.num,(a.den:Int)) (b.num,(b.den:Int));rw[show decide ((a.num,(a.den:Int))=(b.num,(b.den:Int)))=decide (a=b)from decide_eq_decide.mpr DB]at this;exact this
theorem Hk(T:TX P K mg)(Z1:TC K mg "ZERO_elimination" [.int 0,.int 1] a1)(mW:Dn P w K mg base 43 "below" ["a","b"] 2 fJ)(U:FnAt K mg "is_never" (top 27) ["kind","bound"]):
  ∃F,Dn P w K mg base 44 "is_never" ["kind","bound"] 2 F/\∀(n:Nat) (k:FM.Kn) (b:Rat),n<=4000000->SR n b->F [.str (aN k),qD b]=some (.bool (FM.cH k b)):=by
 refine⟨_,cG ["kind","bound"] U fun nd _ _ _ _ _ _ _ hr=>
  (ae (aT (bZ hr (a5 0) aY) (ag (aq (NM hr (a5 1) (c9 Z1.mg Z1.tup)))) aL)
  (ag (aq (qb (az mW hr (a6 (a5 1) (a6 (c9 Z1.mg Z1.tup) a9))) (dG (fH (gh hr (a5 0) aY) (dG (gh hr (a5 1) (c9 Z1.mg Z1.tup))))))))),?_⟩
 intro n k b hn hb;have e1:gk (qD b) (.tuple [.int 0,.int 1])=some (.bool (!decide (b=0))):=Ri b 0;have e2:cU (qD b) (.tuple [.int 0,.int 1])=some (.bool (decide (b=0))):=oY b 0;have e3:fJ [qD b,.tuple [.int 0,.int 1]]=some (.bool (decide (b<0))):=lZ hb (kr (c:=1) (by decide)) hn (by decide);by_cases c1:aN k="="
 ·have:=(i7 k).mp c1;subst this;have er:FM.cH .eq b=!decide (b=0):=by show decide (b≠0)=_;rw[decide_not]
  rw[er];simp![cP,eq_true c1,e1]
 ·by_cases c2:aN k="<"
  ·have:=(y7 k).mp c2;subst this;have er:FM.cH .lt b=(decide (b<0) || decide (b=0)):=rfl;rw[er];by_cases c3:b<0
   ·rw[decide_eq_true c3]at e3 ⊢;simp![cP,eq_false c1,eq_true c2,e3,Bool.true_or]
   ·rw[decide_eq_false c3]at e3 ⊢;simp![cP,eq_false c1,eq_true c2,e3,e2,Bool.false_or]
  ·have hk:k=.le:=by
    cases k with
    |eq=>exact absurd rfl c1
    |lt=>exact absurd rfl c2
    |le=>rfl
   subst hk;have er:FM.cH .le b=decide (b<0):=rfl;rw[er];by_cases c3:b<0
   ·rw[decide_eq_true c3]at e3 ⊢;simp![cP,eq_false c1,eq_false c2,e3]
   ·rw[decide_eq_false c3]at e3 ⊢;simp![cP,eq_false c1,eq_false c2,e3]
abbrev eX (b:Bool):Str:=if b=true then "<" else "<="
def de:Option FM.fz->Dat
 |none=>.none
 |some b=>.tuple [.str (eX b.1),qD b.2.1,.list (b.2.2.map qD)]
def iK:Option Rat->Dat
 |none=>.none
 |some q=>qD q
theorem jx:ka .none .none=some (.bool true):=rfl
theorem uw(q:Rat):ka (qD q) .none=some (.bool false):=rfl
theorem lN(b:FM.fz):ka (de (some b)) .none=some (.bool false):=rfl
theorem Mw(T:TX P K mg)(U:FnAt K mg "number_of" (top 31) ["end"]):
  ∃F,Dn P w K mg base 41 "number_of" ["end"] 1 F/\∀b,F [de b]=some (iK (FM.gF b)):=by
 refine⟨_,cG ["end"] U fun nd _ _ _ _ _ _ _ hr=>
  (ag (aq (gf (dk (a5 0) cz) cz (ah (a5 0) a8)))),?_⟩
 intro b;cases b with
 |none=>rfl
 |some b=>rfl
theorem Jg(T:TX P K mg)(Z1:TC K mg "ZERO_elimination" [.int 0,.int 1] a1)(jv:Dn P w K mg base 43 "minus" ["a","b"] 2 fm)(U:FnAt K mg "turned_number_of" (top 32) ["end"]):
  ∃F,Dn P w K mg base 44 "turned_number_of" ["end"] 1 F/\∀(n:Nat) b,n<=4000000->(∀x,b=some x->SR n x.2.1)->F [de b]=some (iK (FM.fZ b)):=by
 refine⟨_,cG ["end"] U fun nd _ _ _ _ _ _ _ hr=>
  (ag (aq (gf (dk (a5 0) cz) cz (az jv hr (a6 (c9 Z1.mg Z1.tup) (a6 (ah (a5 0) a8) a9 (hs:=aJ))))))),?_⟩
 intro n b hn hb;cases b with
 |none=>rfl
 |some b=>
  have e:fm [.tuple [.int 0,.int 1],qD b.2.1]=some (qD (0-b.2.1)):=lY (kr (c:=1) (by decide)) (hb b rfl) (by decide) hn;have a1:bz (de (some b)) (.int 1)=some (qD b.2.1):=rfl;have er:iK (FM.fZ (some b))=qD (0-b.2.1):=rfl;rw[er];dsimp![lN,a1,e]
theorem RV(h:2<=c):SR c 2:=⟨lt_of_lt_of_le (show(2:Nat)<2^2 by decide) (pow_le_pow_right (by decide) h),one_lt_two_pow (by omega)⟩
theorem Hm(T:TX P K mg){a2 a3:Addr}(Z1:TC K mg "ZERO_elimination" [.int 0,.int 1] a1)(Z2:TC K mg "ONE" [.int 1,.int 1] a2)(Z3:TC K mg "TWO" [.int 2,.int 1] a3)(vd:Dn P w K mg base 43 "plus" ["a","b"] 2 f6)(jv:Dn P w K mg base 43 "minus" ["a","b"] 2 fm)(Et:Dn P w K mg base 43 "over" ["a","b"] 2 oh)(U:FnAt K mg "between" (top 33) ["least","greatest"]):
  ∃F,Dn P w K mg base 44 "between" ["least","greatest"] 2 F/\∀(n:Nat) l g,n<=1900000->(∀x,l=some x->SR n x)->(∀x,g=some x->SR n x)->F [iK l,iK g]=some (qD (FM.gI l g)):=by
 refine⟨_,cG ["least","greatest"] U fun nd _ _ _ _ _ _ _ hr=>
  (ae (aT (cC (fP (dk (a5 0) cz) (eV (dk (a5 1) cz)))) (ag (aq (c9 Z1.mg Z1.tup))) aL)
  (ae (aT (dk (a5 1) cz) (ag (aq (az vd hr (a6 (a5 0) (a6 (c9 Z2.mg Z2.tup) a9))))) aL)
  (ae (aT (dk (a5 0) cz) (ag (aq (az jv hr (a6 (a5 1) (a6 (c9 Z2.mg Z2.tup) a9))))) aL)
  (ag (aq (az Et hr (a6 (az vd hr (a6 (a5 0) (a6 (a5 1) a9))) (a6 (c9 Z3.mg Z3.tup) a9) (hs:=aX)))))))),?_⟩
 intro n l g hn hl hg;cases l with
 |none=>
  cases g with
  |none=>rfl
  |some g=>
   have e:fm [qD g,.tuple [.int 1,.int 1]]=some (qD (g-1)):=lY (hg g rfl) (wF (c:=1) (by decide)) (by omega) (by decide);simp![iK,jx,uw,e,FM.gI]
 |some l=>
  cases g with
  |none=>
   have e:f6 [qD l,.tuple [.int 1,.int 1]]=some (qD (l+1)):=ie (hl l rfl) (wF (c:=1) (by decide)) (by omega) (by decide);simp![iK,jx,uw,e,FM.gI]
  |some g=>
   have e1:=ie (hl l rfl) (hg g rfl) (by omega) (by omega);have e2:oh [qD (l+g),.tuple [.int 2,.int 1]]=some (qD ((l+g)/2)):=HD ((hl l rfl).add (hg g rfl)) (RV (c:=2) (by decide)) (by omega) (by decide) (by decide);simp![iK,jx,uw,e1,e2,FM.gI]
theorem qI(z:Int):qD (z:Rat)=.tuple [.int z,.int 1]:=rfl
variable {b:Nat} {z:Int}
theorem EM(hb:1<=b)(h:z.natAbs<2^b):SR b (z:Rat):=⟨h,one_lt_two_pow (by omega)⟩
def eQ:Nat->List Rat->List (Nat×Rat)
 |_,[]=>[]
 |i,x::xs=>(i,x)::eQ (i+1) xs
abbrev Ja (p:Nat×Rat):Dat:=.tuple [.int (p.1:Int),qD p.2]
theorem L5:∀(xs:List Rat) (i:Nat),kf i (xs.map qD)=(eQ i xs).map Ja
 |[],i=>rfl
 |x::xs,i=>by rw[map_cons,kf,eQ,map_cons,L5 xs (i+1)]
theorem Hb:∀{xs:List Rat} {i:Nat} {p:Nat×Rat},p∈eQ i xs->p.2∈xs/\p.1<i+xs.length
 |[],i,p,h=>by simp[eQ]at h
 |x::xs,i,p,h=>by
  rw[eQ]at h;rcases mem_cons.mp h with e|h
  ·rw[e];exact⟨mem_cons_self,by rw[length_cons];omega⟩
  ·obtain⟨h1,h2⟩:=Hb h;exact⟨mem_cons_of_mem _ h1,by rw[length_cons];omega⟩
theorem CK(r:FM.Row):∀(xs:List Rat) (i:Nat) (acc:Rat),(eQ i xs).foldl (fun acc (p:Nat×Rat)=>if FM.ent r p.1≠0 then acc-(FM.ent r p.1:Rat)*p.2 else acc) acc=FM.rG r i xs acc
 |[],i,acc=>rfl
 |x::xs,i,acc=>by
  rw[eQ,foldl_cons,CK r xs (i+1)];rfl
inductive gK:List Rat->Nat->Prop
 |nil:gK [] 0
 |zero {xs:List Rat} {C:Nat} {q:Rat}:q=0->gK xs C->gK (q::xs) C
 |cons {xs:List Rat} {C s:Nat} {q:Rat}:SR s q->gK xs C->gK (q::xs) (C+s+1)
variable {xs:List Rat} {C:Nat}
theorem gK.mem(h:gK xs C):∀q∈xs,SR (C+1) q:=by
 induction h with
 |nil=>intro q hq;cases hq
 |zero h0 _ ih=>
  intro q hq;rcases mem_cons.mp hq with e|e
  ·rw[e,h0];exact⟨pow_pos (by decide),one_lt_two_pow (by omega)⟩
  ·exact ih q e
 |cons hs _ ih=>
  intro q hq;rcases mem_cons.mp hq with e|e
  ·rw[e];exact hs.up (by omega)
  ·exact(ih q e).up (by omega)
def Nd (u d:Nat) (q:Rat):Prop:=∃N D:Int,D≠0/\N.natAbs<2^u/\D.natAbs<=2^d/\q=(N:Rat)/(D:Rat)
theorem lQ(h0:p≠0)(hz:z.natAbs<2^b)(hp:p.natAbs<2^b):SR b ((z:Rat)/(p:Rat)):=by
 obtain⟨e1,e2⟩:=Fr.kI z p h0;exact tW h0 e1 e2 hz hp
variable {u:Nat}
theorem Nd.sr{d:Nat}(h:Nd u d q)(hd:d<u):SR u q:=by
 obtain⟨N,D,h0,hN,hD,rfl⟩:=h;exact lQ h0 hN (lt_of_le_of_lt hD (Nat.pow_lt_pow_right (by decide) hd))
theorem zo(h:z.natAbs<2^b):Nd b 0 (z:Rat):=⟨z,1,by decide,h,by decide,by
 have:((1:Int):Rat)=1:=rfl;rw[this];grind⟩
theorem C5{s:Nat}{acc y:Rat}{a:Int}(h:Nd (b+C) C acc)(ha:a.natAbs<2^b)(hy:SR s y):Nd (b+(C+s+1)) (C+s+1) (acc-(a:Rat)*y):=by
 obtain⟨N,D,h0,hN,hD,rfl⟩:=h;have yp:(y.den:Int)≠0:=sh y;refine⟨N*(y.den:Int)-a*y.num*D,D*(y.den:Int),mul_ne_zero h0 yp,?_,?_,?_⟩
 ·have h1:(N*(y.den:Int)).natAbs<2^(b+C+s):=cQ hN hy.dn;have h2:(a*y.num*D).natAbs<2^(b+C+s):=by
   rw[natAbs_mul,show b+C+s=(b+s)+C by omega,pow_add];have h3:=cQ ha hy.ln;have p:=pow_pos (n:=C) (show 0<2 by decide);exact lt_of_le_of_lt (mul_le_mul_left _ hD) (Nat.mul_lt_mul_of_pos_right h3 p)
  rw[show b+(C+s+1)=b+C+s+1 by omega];exact Hx h1 h2
 ·rw[natAbs_mul];refine le_trans (mul_le_mul hD (Nat.le_of_lt hy.dn)) ?_;rw[<- pow_add];exact pow_le_pow_right (by decide) (by omega)
 ·have e1:y=(y.num:Rat)/((y.den:Int):Rat):=by
   have:((y.den:Int):Rat)=(y.den:Rat):=rfl;rw[this,<- Rat.mkRat_eq_div,mkRat_self]
  have d1:((D:Int):Rat)≠0:=fun z=>h0 (FM.bN.mp z);have d2:(((y.den:Int)):Rat)≠0:=fun z=>yp (FM.bN.mp z);rw[Rat.intCast_sub,intCast_mul,intCast_mul,intCast_mul,intCast_mul];conv=>lhs;rw[e1]
  generalize ((y.den:Int):Rat)=dd at *;generalize (y.num:Rat)=nn at *;grind
theorem Nd.up{d u' d':Nat}(h:Nd u d q)(hu:u<=u')(hd:d<=d'):Nd u' d' q:=by
 obtain⟨N,D,h0,hN,hD,e⟩:=h;exact⟨N,D,h0,dR hN hu,le_trans hD (pow_le_pow_right (by decide) hd),e⟩
theorem vG(r:FM.Row){b:Nat}(hr:∀z∈r.2,z.natAbs<2^b):∀(xs:List Rat) (i C C1:Nat) (acc:Rat),Nd (b+C) C acc->gK xs C1->Nd (b+(C+C1)) (C+C1) (FM.rG r i xs acc)
 |[],i,C,C1,acc,h,hx=>by cases hx;exact h
 |x::xs,i,C,C1,acc,h,hx=>by
  have key:∃C2 C3,C2+C3=C+C1/\gK xs C3/\Nd (b+C2) C2 (if FM.ent r i≠0 then acc-(FM.ent r i:Rat)*x else acc):=by
   cases hx with
   |zero h0 hx=>
    refine⟨C,C1,rfl,hx,?_⟩;rw[h0,show acc-(FM.ent r i:Rat)*0=acc by grind];split<;>exact h
   | @cons _ C' s _ hs hx=>
    refine⟨C+s+1,C',by omega,hx,?_⟩;split
    ·exact C5 h (cV hr) hs
    ·exact h.up (by omega) (by omega)
  obtain⟨C2,C3,e,h3,h4⟩:=key;rw[<- e];exact vG r hr xs (i+1) C2 C3 _ h4 h3
abbrev eI (F:List Dat->Option Dat):Prop:=∀(b C:Nat) (r:FM.Row) (x:List Rat),1<=b->x.length<r.2.length->x.length<=100->(∀z∈r.2,z.natAbs<2^b)->gK x C->b+C+1<=4000000->F [aI r,.list (x.map qD)]=some (qD (FM.lM r x))/\Nd (b+C) C (FM.lM r x)
theorem Ha:∀(xs:List Rat) (i:Nat),(eQ i xs).map (fun p=>p.2)=xs
 |[],i=>rfl
 |x::xs,i=>by show x::(eQ (i+1) xs).map _=_;rw[Ha xs]
theorem PL(T:TX P K mg)(jv:Dn P w K mg base 43 "minus" ["a","b"] 2 fm)(Qk:Dn P w K mg base 43 "times" ["a","b"] 2 jU)(U:FnAt K mg "left_over" (top 22) ["row","point"]):
  ∃F,Dn P w K mg base 44 "left_over" ["row","point"] 2 F/\eI F:=by
 refine⟨_,cG ["row","point","left","place","number","part"] U fun nd _ _ _ _ _ _ _ hr=>
  (ae (aB 2 nd (bo (k:=0) (a6 (ah (ah (a5 0) a8) (cA T.len (a6 (a5 1) a9))) (a6 a8 a9) (hs:=aJ))))
  (ae (jK PassesOwn.never rfl (q8 T.enumerate (a6 (a5 1) a9)) (dh (n:=2) rfl (aW (ar 3 nd) (aW (ar 4 nd) cM)))
  (ae (aB 5 nd (ah (ah (a5 0) a8) (a5 3)))
  (ag (aT (d5 hr (a5 5) a8) (ag (aB 2 nd (az jv hr (a6 (a5 2) (a6 (az Qk hr (a6 (bo (k:=0) (a6 (a5 5) (a6 a8 a9))) (a6 (a5 4) a9) (hs:=dB))) a9 (hs:=aX)))))) aL))))
  (ag (aq (a5 2))))),?_⟩
 intro b C r x hb hl DY hr hx hbud;have z2:2<=sizeLine:=sz (by decide);have lo:=jw qD x;have a0:bz (fw r.2) (.int (x.length:Int))=some (.int (FM.ent r x.length)):=gT hl;refine⟨?_,by
  have:=vG r hr x 0 0 C (FM.ent r x.length:Rat) (zo (cV hr)) hx;rw[zero_add]at this;exact this⟩
 have uI:qw (aU (aH 1) bS) (bx [some (.a7 (aI r)),some (.a7 (.list (x.map qD))),some (.a7 (qD (FM.ent r x.length:Rat))),none,none,none])=some ((eQ 0 x).map Ja):=by
  rw[<- L5];rfl
 refine bP ?_;simp!;rw[ak (af:=[some (.a7 (aI r)),some (.a7 (.list (x.map qD))),some (.a7 (qD (FM.ent r x.length:Rat))),none,none,none]) (by rw[qI];dsimp![iB,lo,a0,z2])];refine gc (I:=_) (l6 (l:=eQ 0 x) (s:=(FM.ent r x.length:Rat)) Ja (fun(acc:Rat) Γ=>∃x3 x4 x5,Γ=[some (.a7 (aI r)),some (.a7 (.list (x.map qD))),some (.a7 (qD acc)),x3,x4,x5]) (fun acc l=>∃C2 C3,C2+C3=C/\Nd (b+C2) C2 acc/\gK (l.map fun p=>p.2) C3/\∀p∈l,p∈eQ 0 x) (fun acc (p:Nat×Rat)=>if FM.ent r p.1≠0 then acc-(FM.ent r p.1:Rat)*p.2 else acc) uI ⟨0,C,by omega,zo (cV hr),by rw[Ha];exact hx,fun _ h=>h⟩ ⟨none,none,none,rfl⟩ ?_) ?_
 ·rintro acc ⟨i,y⟩ l Γ ⟨C2,C3,hC,hs,Sq,iF⟩ ⟨x3,x4,x5,rfl⟩;obtain⟨hy,hi⟩:=Hb (iF (i,y) mem_cons_self);have sy:=hx.mem y hy;have vI:∀p∈l,p∈eQ 0 x:=fun p hp=>iF p (mem_cons_of_mem _ hp);have hQ:∃C2 C3,C2+C3=C/\Nd (b+C2) C2 (if FM.ent r i≠0 then acc-(FM.ent r i:Rat)*y else acc)/\gK (l.map fun p=>p.2) C3/\∀p∈l,p∈eQ 0 x:=by
   rw[map_cons]at Sq;cases Sq with
   |zero h0 hx=>
    refine⟨C2,C3,hC,?_,hx,vI⟩;have h0:y=0:=h0;rw[h0,show acc-(FM.ent r i:Rat)*0=acc by grind];split<;>exact hs
   | @cons _ C' s _ rW hx=>
    refine⟨C2+s+1,C',by omega,?_,hx,vI⟩;split
    ·exact C5 hs (cV hr) rW
    ·exact hs.up (by omega) (by omega)
  refine⟨[(3,.int (i:Int)),(4,qD y)],rfl,?_⟩;dsimp!;have a1:bz (fw r.2) (.int (i:Int))=some (.int (FM.ent r i)):=gT (by have:i<0+x.length:=hi;omega);rw[ak (af:=[some (.a7 (aI r)),some (.a7 (.list (x.map qD))),some (.a7 (qD acc)),some (.a7 (.int (i:Int))),some (.a7 (qD y)),some (.a7 (.int (FM.ent r i)))]) (by dsimp![iB,a1])];by_cases c:FM.ent r i=0
  ·refine⟨[some (.a7 (aI r)),some (.a7 (.list (x.map qD))),some (.a7 (qD acc)),some (.a7 (.int (i:Int))),some (.a7 (qD y)),some (.a7 (.int (FM.ent r i)))],?_,⟨_,_,_,by rw[if_neg (fun z=>z c)]⟩,hQ⟩;simp![dI,eq_true c]
  ·have e1:jU [.tuple [.int (FM.ent r i),.int 1],qD y]=some (qD ((FM.ent r i:Rat)*y)):=w4 (EM hb (cV hr)) sy (by omega) (by omega);have sp:SR (b+(C+1)) ((FM.ent r i:Rat)*y):=(EM hb (cV (j:=i) hr)).mul sy;have e2:=lY (hs.sr (by omega)) sp (by omega) (by omega);refine⟨[some (.a7 (aI r)),some (.a7 (.list (x.map qD))),some (.a7 (qD (acc-(FM.ent r i:Rat)*y))),some (.a7 (.int (i:Int))),some (.a7 (qD y)),some (.a7 (.int (FM.ent r i)))],?_,⟨_,_,_,by rw[if_pos c]⟩,hQ⟩;simp![dI,eq_false c,z2,e1,e2]
 ·rintro af ⟨x3,x4,x5,rfl⟩;rw[CK];simp![];rfl
theorem Hn(h:m<=ds.length):L3.cutD ds (some (m:Int)) none=ds.drop m:=by
 unfold L3.cutD;rw[HT.qZ,HT.sJ,Nat.min_eq_left h,List.take_of_length_le (by rw[length_drop];omega)]
theorem Nr(l:List Int)(h:j+1<=l.length):yy (fw l) (some ((j:Int)+1)) none=some (fw (l.drop (j+1))):=by
 show(if ¬(HT.bY (l.map Dat.int).length 0 (some ((j+1:Nat):Int))=0/\HT.bY (l.map Dat.int).length (l.map Dat.int).length none=(l.map Dat.int).length)then some (Dat.tuple (L3.cutD (l.map Dat.int) (some ((j+1:Nat):Int)) none))else none)=_;rw[if_pos (by rw[HT.qZ,length_map];omega),Hn (by rw[length_map];exact h),<- List.map_drop]
theorem UE(h:p≠0)(hb:p.natAbs<2^8000000):iV [.int z,.int p]=some (qD ((z:Rat)/(p:Rat))):=by
 obtain⟨e1,e2⟩:=Fr.kI z p h;rw[o6 h hb,e1,e2]
abbrev Q8 (F:List Dat->Option Dat):Prop:=∀(b C m j:Nat) (rows:List FM.Row) (x:List Rat) (way:Int),(way=1\/way=-1)->1<=b->gZ m b rows->x.length<m->m<=900->x.length<=100->j<m->gK x C->b+C+1<=4000000->F [.list (rows.map aI),.int (j:Int),.list (x.map qD),.int way]=some (de (FM.c7 rows j x way))/\∀t,FM.c7 rows j x way=some t->SR (b+C) t.2.1
theorem C6(h:Nd (b+C) C q)(hz:z.natAbs<2^b)(h0:z≠0):SR (b+C) (q/(z:Rat)):=by
 obtain⟨N,D,SQ,hN,hD,rfl⟩:=h;have e:(N:Rat)/(D:Rat)/(z:Rat)=(N:Rat)/((D*z:Int):Rat):=by
  have d1:((D:Int):Rat)≠0:=fun z=>SQ (FM.bN.mp z);have d2:((z:Int):Rat)≠0:=fun y=>h0 (FM.bN.mp y);rw[intCast_mul];grind
 rw[e];refine lQ (mul_ne_zero SQ h0) hN ?_;rw[natAbs_mul,add_comm b C,pow_add];exact lt_of_le_of_lt (Nat.mul_le_mul_right _ hD) (Nat.mul_lt_mul_of_pos_left hz (pow_pos (by decide)))
theorem O7(h:z≠0):((z:Rat)).num≠0:=h
theorem Mu(T:TX P K mg){Fl:List Dat->Option Dat}(Eu:Dn P w K mg base 44 "left_over" ["row","point"] 2 Fl)(hL:eI Fl)(Et:Dn P w K mg base 44 "over" ["a","b"] 2 oh)(mW:Dn P w K mg base 44 "below" ["a","b"] 2 fJ)(kR:Dn P w K mg base 44 "make" ["n","d"] 2 iV)(U:FnAt K mg "tightest" (top 23) ["rows","place","point","way"]):
  ∃F,Dn P w K mg base 45 "tightest" ["rows","place","point","way"] 4 F/\Q8 F:=by
 refine⟨_,cG ["rows","place","point","way","best","row","part","kind","number"] U fun nd _ _ _ _ _ _ _ hr=>
  (ae (aB 4 nd cz)
  (ae (dD PassesOwn.never rfl (a5 0) (ar 5 nd)
  (ae (aB 6 nd (bK (a5 3) (ah (ah (a5 5) a8) (a5 1))))
  (ag (aT (cC (cS (rh (a5 6) a8) (dj (cC (fP (nU (a5 6) a8) (eV (bZ hr (ah (a5 5) a8) aY))))))) (ae (aB 7 nd (gf (bZ hr (ah (a5 5) a8) aY) aY aY))
  (ae (aB 8 nd (az Et hr (a6 (az Eu hr (a6 (a5 5) (a6 (a5 2) a9))) (a6 (bo (k:=0) (a6 (a5 6) (a6 a8 a9))) a9 (hs:=dB)) (hs:=aX))))
  (ag (aT (cC (cS (dk (a5 4) cz) (cS (bf (az mW hr (a6 (a5 8) (a6 (ah (a5 4) a8) a9 (hs:=aJ))))) (dj (cC (fP (bZ hr (a5 8) (ah (a5 4) a8)) (eV (bZ hr (a5 7) aY)))))))) (ag (aB 4 nd (bo (k:=0) (a6 (a5 7) (a6 (a5 8) (a6 (cI (gV rfl (fI (tn:=["weight"]) (fv:=["part"]) (js:=[6]) rfl (by decide +kernel) (by decide +kernel) rfl (by decide +kernel) (by decide +kernel) rfl
   (fun x hx=>by((have fj:x="part":=(by simpa using hx));(rcases fj with rfl<;>exact⟨_,rfl⟩)))
   (fun p hp=>by((have fu:p=(("part" : Str),(6:Nat)):=(by simpa using hp));(rcases fu with rfl<;>exact⟨rfl,.inr (.inl rfl),.inl rfl,fun z=>by cases z⟩)))) (k9 (ah (a5 5) a8) (kW (fg (cA T.len (a6 (a5 2) a9)) a8)) kX) (fun _ _ _ _=>(ar 0 (show(["weight","part"]:List Str).Nodup by decide +kernel))) (fun _ _ _ _=>dm) (fun _ _ _ _=>(az kR hr (a6 (a5 0) (a6 (a5 1) a9)))) (d4 rfl))) a9)))))) aL)))) aL))))
  (ag (aq (a5 4))))),?_⟩
 intro b C m j rows x way ir hb hR So mE DY hj hx hsz;have z2:2<=sizeLine:=sz (by decide);have z3:3<=sizeLine:=sz (by decide);have lo:=jw qD x;have wb:∀r∈rows,(way*FM.ent r j).natAbs<2^b:=fun r hr=>by
  have:=cV (j:=j) (hR.bd r hr);rcases ir with e|e
  ·rw[e,Int.one_mul];exact this
  ·rw[e,Int.neg_mul,Int.one_mul,natAbs_neg];exact this
 have O8:∀r∈rows,way*FM.ent r j≠0->SR (b+C) (FM.dE j way x r):=fun r hr h0=>by
  obtain⟨_,sl⟩:=hL b C r x hb (by rw[hR.len r hr];exact So) DY (hR.bd r hr) hx hsz;exact C6 sl (wb r hr) h0
 have tS:∀(l:List FM.Row) (t:Option FM.fz),(∀r∈l,r∈rows)->(∀y,t=some y->SR (b+C) y.2.1)->∀y,l.foldl (FM.jX j way x) t=some y->SR (b+C) y.2.1:=fun l=>by
  induction l with
  |nil=>intro t _ h;exact h
  |cons r l ih=>
   intro t iF h;refine ih (FM.jX j way x t r) (fun q hq=>iF q (mem_cons_of_mem _ hq)) fun y hy=>?_;unfold FM.jX at hy;split at hy
   ·rename_i hc;split at hy
    ·cases hy;refine O8 r (iF r mem_cons_self) ?_;rcases hc with h|h
     ·omega
     ·have:=h.1;omega
    ·exact h y hy
   ·exact h y hy
 refine⟨?_,tS rows none (fun _ h=>h) (fun y h=>by cases h)⟩;refine bP ?_;simp!;rw[ak (af:=[some (.a7 (.list (rows.map aI))),some (.a7 (.int (j:Int))),some (.a7 (.list (x.map qD))),some (.a7 (.int way)),some (.a7 (de none)),none,none,none,none]) (by simp![de])];refine gc (I:=_) (gY (l:=rows) (s:=(none:Option FM.fz)) aI (fun(t:Option FM.fz) Γ=>∃x5 x6 x7 x8,Γ=[some (.a7 (.list (rows.map aI))),some (.a7 (.int (j:Int))),some (.a7 (.list (x.map qD))),some (.a7 (.int way)),some (.a7 (de t)),x5,x6,x7,x8]) (fun t l=>(∀y,t=some y->SR (b+C) y.2.1)/\∀r∈l,r∈rows) (FM.jX j way x) (d:=.list (rows.map aI)) rfl rfl ⟨fun y h=>(by cases h),fun _ h=>h⟩ ⟨none,none,none,none,rfl⟩ ?_) ?_
 ·rintro t r l Γ ⟨ht,iF⟩ ⟨x5,x6,x7,x8,rfl⟩;have hr:=iF r mem_cons_self;have hQ:(∀y,FM.jX j way x t r=some y->SR (b+C) y.2.1)/\∀q∈l,q∈rows:=⟨tS [r] t (fun q hq=>by rw[mem_singleton.mp hq];exact hr) ht,fun q hq=>iF q (mem_cons_of_mem _ hq)⟩;have a1:bz (fw r.2) (.int (j:Int))=some (.int (FM.ent r j)):=gT (by rw[hR.len r hr];exact hj);have em:jE (.int way) (.int (FM.ent r j))=some (.int (way*FM.ent r j)):=mulL _ (by rcases ir with e|e<;>(rw[e];decide)) (by rcases ir with e|e<;>(rw[e];decide));refine⟨[(5,aI r)],rfl,?_⟩;dsimp!;rw[ak (af:=[some (.a7 (.list (rows.map aI))),some (.a7 (.int (j:Int))),some (.a7 (.list (x.map qD))),some (.a7 (.int way)),some (.a7 (de t)),some (.a7 (aI r)),some (.a7 (.int (way*FM.ent r j))),x7,x8]) (by dsimp![iB,a1,em])];by_cases hc:FM.mO j way r
  ·have h0:way*FM.ent r j≠0:=by
    rcases hc with h|h
    ·omega
    ·have:=h.1;omega
   rw[ng (by
    rcases hc with h|⟨h,hk⟩
    ·dsimp![gR,eq_true h]
    ·have h':¬0<way*FM.ent r j:=by omega
     have k1:=(i7 r.1).mpr hk;dsimp![gR,d6,kx,cP,eq_false h',eq_true h,eq_true k1])]
   obtain⟨eL,sl⟩:=hL b C r x hb (by rw[hR.len r hr];exact So) DY (hR.bd r hr) hx hsz;have eo:oh [qD (FM.lM r x),.tuple [.int (way*FM.ent r j),.int 1]]=some (qD (FM.dE j way x r)):=HD (sl.sr (by omega)) (EM hb (wb r hr)) (by omega) (by omega) (O7 h0);have sn:=O8 r hr h0;have ek:(if r.1=.lt then("<" : Str)else "<=")=eX (decide (r.1=.lt)):=by unfold eX;by_cases c:r.1=.lt<;>simp[c]
   rw[ak (af:=[some (.a7 (.list (rows.map aI))),some (.a7 (.int (j:Int))),some (.a7 (.list (x.map qD))),some (.a7 (.int way)),some (.a7 (de t)),some (.a7 (aI r)),some (.a7 (.int (way*FM.ent r j))),some (.a7 (.str (eX (decide (r.1=.lt))))),x8]) (by
    by_cases c:r.1=.lt
    ·have k1:=(y7 r.1).mpr c;rw[decide_eq_true c];dsimp![kx,cP,eq_true k1,eX]
    ·have k1:¬aN r.1="<":=fun z=>c ((y7 r.1).mp z);rw[decide_eq_false c];dsimp![kx,cP,eq_false k1,eX])]
   rw[ak (af:=[some (.a7 (.list (rows.map aI))),some (.a7 (.int (j:Int))),some (.a7 (.list (x.map qD))),some (.a7 (.int way)),some (.a7 (de t)),some (.a7 (aI r)),some (.a7 (.int (way*FM.ent r j))),some (.a7 (.str (eX (decide (r.1=.lt))))),some (.a7 (qD (FM.dE j way x r)))]) (by dsimp![eL,eo,z2])];have eb:FM.jX j way x t r=if FM.better t (decide (r.1=.lt)) (FM.dE j way x r)=true then some (decide (r.1=.lt),FM.dE j way x r,FM.mY j way x r)else t:=if_pos hc;generalize xh:decide (r.1=.lt)=kt at *;generalize hv:FM.dE j way x r=v at *;have hN:b+C<=4000000:=by omega
   have SA:cU (.str (eX kt)) (.str "<")=some (.bool kt):=by cases kt<;>rfl
   have test:iw (cc (L3.f2 ka (aH 4) (fC .none))) (iw (iR (iS 2 fJ (aU (aH 8) (aU (L3.f2 bz (aH 4) (fC (.int 1))) bS)))) (jz (cc (L3.f2 cU (aH 8) (L3.f2 bz (aH 4) (fC (.int 1))))) (cc (L3.f2 cU (aH 7) (fC (.str "<")))))) (bX [some (.a7 (.list (rows.map aI))),some (.a7 (.int (j:Int))),some (.a7 (.list (x.map qD))),some (.a7 (.int way)),some (.a7 (de t)),some (.a7 (aI r)),some (.a7 (.int (way*FM.ent r j))),some (.a7 (.str (eX kt))),some (.a7 (qD v))])=some (FM.better t kt v):=by
    cases t with
    |none=>
     have e0:de none=.none:=rfl;have er:FM.better none kt v=true:=rfl;rw[er,e0];dsimp![jx]
    |some y=>
     have er:FM.better (some y) kt v=(decide (v<y.2.1) || (decide (v=y.2.1)&&kt)):=rfl;have a2:bz (de (some y)) (.int 1)=some (qD y.2.1):=rfl;have e1:=lZ sn (ht y rfl) hN hN;have e2:=oY v y.2.1;rw[er];by_cases c1:v<y.2.1
     ·rw[decide_eq_true c1]at e1 ⊢;dsimp![lN,a2,e1,Bool.true_or]
     ·rw[decide_eq_false c1]at e1 ⊢;by_cases c2:v=y.2.1
      ·rw[decide_eq_true c2]at e2 ⊢;cases kt with
       |true=>dsimp![lN,a2,e1,e2,SA,Bool.false_or,Bool.true_and]
       |false=>dsimp![lN,a2,e1,e2,SA,Bool.false_or,Bool.true_and]
      ·rw[decide_eq_false c2]at e2 ⊢;dsimp![lN,a2,e1,e2,Bool.false_or,Bool.false_and]
   cases pC:FM.better t kt v with
   |false=>
    rw[pC]at test eb;rw[if_neg Bool.false_ne_true]at eb;refine⟨[some (.a7 (.list (rows.map aI))),some (.a7 (.int (j:Int))),some (.a7 (.list (x.map qD))),some (.a7 (.int way)),some (.a7 (de t)),some (.a7 (aI r)),some (.a7 (.int (way*FM.ent r j))),some (.a7 (.str (eX kt))),some (.a7 (qD v))],?_,⟨_,_,_,_,by rw[eb]⟩,hQ⟩;rw[r9 test];rfl
   |true=>
    rw[pC]at test eb;rw[if_pos rfl]at eb;refine⟨[some (.a7 (.list (rows.map aI))),some (.a7 (.int (j:Int))),some (.a7 (.list (x.map qD))),some (.a7 (.int way)),some (.a7 (de (some (kt,v,FM.mY j way x r)))),some (.a7 (aI r)),some (.a7 (.int (way*FM.ent r j))),some (.a7 (.str (eX kt))),some (.a7 (qD v))],?_,⟨_,_,_,_,by rw[eb]⟩,hQ⟩;rw[ng test];have es:=Nr r.2 (j:=x.length) (by rw[hR.len r hr];omega);have zd:(r.2.drop (x.length+1)).length<sizeLine:=by rw[length_drop,hR.len r hr];exact lt_of_lt_of_le (show m-(x.length+1)<1000 by omega) (sz (by decide))
    have ec:cf (aName 0) gL (iS 2 iV (aU (aH 0) (aU (aH 1) bS))) [none,some (.int (way*FM.ent r j))] ((r.2.drop (x.length+1)).map .int)=some ((FM.mY j way x r).map qD):=by
     refine cZ _ _ (by unfold FM.mY;rw[length_map,length_map,length_map]) fun i d o h1 h2=>?_;unfold FM.mY at h2;rw[getElem?_map]at h1 h2;rw[getElem?_map]at h2;cases hz:(r.2.drop (x.length+1))[i]? with
     |none=>rw[hz]at h1;cases h1
     |some z=>
      rw[hz]at h1 h2;cases h1;cases h2;refine⟨[(0,.int z)],rfl,?_⟩;have e:=UE (z:=z) h0 (dR (wb r hr) (by omega));simp![e]
    have Xq:de (some (kt,v,FM.mY j way x r))=.tuple [.str (eX kt),qD v,.list ((FM.mY j way x r).map qD)]:=rfl;rw[Xq];dsimp![iB,qF,oG,oH,qL,lo,cD,es,length_map,zd,ec,z3]
  ·have eb:FM.jX j way x t r=t:=if_neg hc;refine⟨[some (.a7 (.list (rows.map aI))),some (.a7 (.int (j:Int))),some (.a7 (.list (x.map qD))),some (.a7 (.int way)),some (.a7 (de t)),some (.a7 (aI r)),some (.a7 (.int (way*FM.ent r j))),x7,x8],?_,⟨_,_,_,_,by rw[eb]⟩,hQ⟩;rw[r9 (by
    have h1:¬0<way*FM.ent r j:=fun z=>hc (.inl z);by_cases h2:way*FM.ent r j<0
    ·have k1:¬aN r.1="=":=fun z=>hc (.inr ⟨h2,(i7 r.1).mp z⟩);dsimp![gR,d6,kx,cP,eq_false h1,eq_true h2,eq_false k1]
    ·dsimp![gR,d6,kx,cP,eq_false h1,eq_false h2])]
   rfl
 ·rintro af ⟨x5,x6,x7,x8,rfl⟩;simp![];rfl
abbrev cq (rows:List FM.Row):Dat:=.list (rows.map aI)
theorem CV(g:α->Dat){xs:List α}{x:α}(hl:xs.length=n+1)(h:xs[n]?=some x):bz (.list (xs.map g)) (.int (-1))=some (g x):=by
 show fS (xs.map g) (-1)=_;unfold L2.fS L2.lE;rw[if_neg (by decide),if_pos (by rw[length_map];omega)];show(xs.map g)[((-1:Int)+((xs.map g).length:Int)).toNat]?=_;rw[length_map,hl,show((-1:Int)+((n+1:Nat):Int)).toNat=n by omega,getElem?_map,h];rfl
theorem tp:∀n:Nat,gK (List.replicate n 0) 0
 |0=>.nil
 |n+1=>.zero rfl (tp n)
abbrev XM (F:List Dat->Option Dat):Prop:=∀(b n m:Nat) (Ls:List (List FM.Row)) (rows:List FM.Row) (way:Int),(way=1\/way=-1)->1<=b->Ls.length=n+1->Ls[n]?=some rows->gZ m b rows->n+1<m->m<=900->n<=90->b<=3900000->F [.list (Ls.map cq),.int way]=some (de (FM.endOf n rows way))/\∀t,FM.endOf n rows way=some t->SR b t.2.1
variable {Ft:List Dat->Option Dat}
theorem MH(T:TX P K mg)(Z1:TC K mg "ZERO_elimination" [.int 0,.int 1] a1)(nB:Dn P w K mg base 45 "tightest" ["rows","place","point","way"] 4 Ft)(hT:Q8 Ft)(U:FnAt K mg "end_of" (top 24) ["stages","way"]):
  ∃F,Dn P w K mg base 46 "end_of" ["stages","way"] 2 F/\XM F:=by
 refine⟨_,cG ["stages","way","place"] U fun nd _ _ _ _ _ _ _ hr=>
  (ae (aB 2 nd (nV (cA T.len (a6 (a5 0) a9)) a8))
  (ag (aq (az nB hr (a6 (ah (a5 0) (dr a8)) (a6 (a5 2) (a6 (cI (sQ (iJ (a6 (c9 Z1.mg Z1.tup) a9)) (fg (a5 2) a8))) (a6 (a5 1) a9) (hs:=dC))) (hs:=aJ)))))),?_⟩
 intro b n m Ls rows way ir hb hl hn hR Gw mE rY hsz;have lo:=jw cq Ls;have al:=CV cq hl hn;have er:∀ρ:aw,(L3.f2 lA (aH 2) (fC (.int 1))) ρ=some (.int ((n+1:Nat):Int))->oX (nr (aU (fC (.tuple [.int 0,.int 1])) bS)) (L3.f2 lA (aH 2) (fC (.int 1))) ρ=some ((List.replicate (n+1) (0:Rat)).map qD):=fun ρ h=>yI h (by omega);have e1:=hT b 0 m n rows (List.replicate (n+1) 0) way ir hb hR (by rw[length_replicate];omega) mE (by rw[length_replicate];omega) (by omega) (tp _) (by omega);obtain⟨e1,e2⟩:=e1;refine⟨?_,e2⟩;refine bP ?_;simp!;have hp:((Ls.length:Nat):Int)-1=(n:Int):=by omega
 rw[ak (af:=[some (.a7 (.list (Ls.map cq))),some (.a7 (.int way)),some (.a7 (.int (n:Int)))]) (by simp![lo,fN,hp])];have T4:=er (bX [some (.a7 (.list (Ls.map cq))),some (.a7 (.int way)),some (.a7 (.int (n:Int)))]) rfl;clear er;generalize (List.replicate (n+1) (0:Rat)).map qD=zs at *;generalize oX (nr (aU (fC (.tuple [.int 0,.int 1])) bS)) (L3.f2 lA (aH 2) (fC (.int 1)))=gr at *;simp only[bX,map_cons,map_nil]at T4;dsimp![al,T4,e1];rfl
variable {Fe:List Dat->Option Dat}
theorem Ms(T:TX P K mg)(wm:Dn P w K mg base 46 "end_of" ["stages","way"] 2 Fe)(U:FnAt K mg "upper_end" (top 25) ["stages"]):
  ∃F,Dn P w K mg base 47 "upper_end" ["stages"] 1 F/\∀s d,Fe [s,.int 1]=some d->F [s]=some d:=by
 refine⟨_,cG ["stages"] U fun nd _ _ _ _ _ _ _ hr=>
  (ag (aq (az wm hr (a6 (a5 0) (a6 a8 a9))))),?_⟩
 intro s d h;simp![h]
theorem Pz(T:TX P K mg)(wm:Dn P w K mg base 46 "end_of" ["stages","way"] 2 Fe)(U:FnAt K mg "opposite_end" (top 26) ["stages"]):
  ∃F,Dn P w K mg base 47 "opposite_end" ["stages"] 1 F/\∀s d,Fe [s,.int (-1)]=some d->F [s]=some d:=by
 refine⟨_,cG ["stages"] U fun nd _ _ _ _ _ _ _ hr=>
  (ag (aq (az wm hr (a6 (a5 0) (a6 (dr a8) a9 (hs:=gN)))))),?_⟩
 intro s d h;simp![h]
def mw:Option (List Rat)->Dat
 |none=>.none
 |some ws=>.list (ws.map qD)
theorem QP(l:List Int)(h:j+2<=l.length):yy (fw l) (some ((j:Int)+2)) none=some (fw (l.drop (j+2))):=by
 have:=Nr l (j:=j+1) h;rw[show((j+1:Nat):Int)+1=(j:Int)+2 by omega]at this;exact this
variable {way:Int}
theorem tP(ir:way=1\/way=-1)(h:z.natAbs<2^b):(way*z).natAbs<2^b:=by
 rcases ir with e|e
 ·rw[e,Int.one_mul];exact h
 ·rw[e,Int.neg_mul,Int.one_mul,natAbs_neg];exact h
variable {rows:List FM.Row}
theorem mK(ir:way=1\/way=-1)(hR:gZ m b rows){t:FM.fz}(h:FM.endOf n rows way=some t):SR b t.2.1/\∀w∈t.2.2,SR b w:=by
 obtain⟨⟨r,hr,hc,k1,k2,k3⟩,_⟩:=(FM.jA rows n (List.replicate (n+1) 0) way).some t h;have oQ:way*FM.ent r n≠0:=by rcases hc with hc|⟨hc,_⟩<;>omega
 have hb:=tP ir (cV (j:=n) (hR.bd r hr));have e:FM.lM r (List.replicate (n+1) 0)=((FM.ent r (n+1):Int):Rat):=FM.wX;rw[k2,k3];unfold FM.dE;rw[e];refine⟨lQ oQ (cV (hR.bd r hr)) hb,fun w hw=>?_⟩;unfold FM.mY at hw;obtain⟨z,hz,rfl⟩:=mem_map.mp hw;exact lQ oQ (hR.bd r hr z (List.mem_of_mem_drop hz)) hb
abbrev TN (F:List Dat->Option Dat):Prop:=∀(n:Nat) (k:FM.Kn) (b:Rat),n<=4000000->SR n b->F [.str (aN k),qD b]=some (.bool (FM.cH k b))
def BZ (n:Nat) (r:FM.Row):List Rat:=(r.2.drop (n+2)).map fun(w:Int)=>(((if r.1=.eq/\0<FM.ent r (n+1)then -1 else 1:Int)*w:Int):Rat)
abbrev Tw (F:List Dat->Option Dat):Prop:=∀(b n m:Nat) (Ls:List (List FM.Row)) (rows:List FM.Row),1<=b->Ls.length=n+1->Ls[n]?=some rows->gZ m b rows->n+2<=m->m<=900->b<=4000000->F [.list (Ls.map cq)]=some (mw (FM.fq n rows))
variable {Fi:List Dat->Option Dat}
theorem My(T:TX P K mg)(qV:Dn P w K mg base 44 "is_never" ["kind","bound"] 2 Fi)(hI:TN Fi)(U:FnAt K mg "never_by_a_row" (top 28) ["stages"]):
  ∃F,Dn P w K mg base 45 "never_by_a_row" ["stages"] 1 F/\Tw F:=by
 refine⟨_,cG ["stages","place","row","bound","way"] U fun nd _ _ _ _ _ _ _ hr=>
  (ae (aB 1 nd (nV (cA T.len (a6 (a5 0) a9)) a8))
  (ae (dD PassesOwn.never rfl (ah (a5 0) (dr a8)) (ar 2 nd)
  (ae (aB 3 nd (ah (ah (a5 2) a8) (fg (a5 1) a8)))
  (ag (aT (cC (fP (bZ hr (ah (ah (a5 2) a8) (a5 1)) a8) (eV (bf (az qV hr (a6 (ah (a5 2) a8) (a6 (bo (k:=0) (a6 (a5 3) (a6 a8 a9))) a9 (hs:=dB)) (hs:=aJ))))))) (ae (aB 4 nd (gf (cC (fP (bZ hr (ah (a5 2) a8) aY) (eV (rh (a5 3) a8)))) (dr a8) a8))
  (ag (aq (cI (gV rfl (fI (tn:=["weight"]) (fv:=["way"]) (js:=[4]) rfl (by decide +kernel) (by decide +kernel) rfl (by decide +kernel) (by decide +kernel) rfl
   (fun x hx=>by((have fj:x="way":=(by simpa using hx));(rcases fj with rfl<;>exact⟨_,rfl⟩)))
   (fun p hp=>by((have fu:p=(("way" : Str),(4:Nat)):=(by simpa using hp));(rcases fu with rfl<;>exact⟨rfl,.inr (.inl rfl),.inl rfl,fun z=>by cases z⟩)))) (k9 (ah (a5 2) a8) (kW (fg (a5 1) a8)) kX) (fun _ _ _ _=>(ar 0 (show(["weight","way"]:List Str).Nodup by decide +kernel))) (fun _ _ _ _=>dm) (fun _ _ _ _=>(bo (k:=0) (a6 (bK (a5 1) (a5 0)) (a6 a8 a9) (hs:=dC)))) (d4 rfl)))))) aL))))
  (ag (aq cz)))),?_⟩
 intro b n m Ls rows hb hl hn hR Gw mE Co;have z2:2<=sizeLine:=sz (by decide);have lo:=jw cq Ls;have al:=CV cq hl hn;have hp:((Ls.length:Nat):Int)-1=(n:Int):=by omega
 refine bP ?_;simp!;rw[ak (af:=[some (.a7 (.list (Ls.map cq))),some (.a7 (.int (n:Int))),none,none,none]) (by simp![lo,fN,hp])];refine(xo (l:=rows) aI (fun Γ=>∃x2 x3 x4,Γ=[some (.a7 (.list (Ls.map cq))),some (.a7 (.int (n:Int))),x2,x3,x4]) (fun r=>decide (FM.ent r n=0)&&FM.cH r.1 (FM.ent r (n+1):Rat)) (fun r=>.list ((BZ n r).map qD)) (d:=cq rows) (fl:=fun o=>.rt (mw (o.map (BZ n)))) (by dsimp![al]) rfl ⟨none,none,none,rfl⟩ ?_ (fun _=>rfl) ?_)
 ·rintro r hr Γ ⟨x2,x3,x4,rfl⟩;refine⟨[(2,aI r)],rfl,?_⟩;dsimp!;have a0:bz (fw r.2) (.int (n:Int))=some (.int (FM.ent r n)):=gT (by rw[hR.len r hr];omega);have a1:bz (fw r.2) (.int ((n:Int)+1))=some (.int (FM.ent r (n+1))):=gT (j:=n+1) (by rw[hR.len r hr];omega);have hN:Fi [.str (aN r.1),.tuple [.int (FM.ent r (n+1)),.int 1]]=some (.bool (FM.cH r.1 (FM.ent r (n+1):Rat))):=hI b r.1 _ Co (EM hb (cV (hR.bd r hr)));rw[ak (af:=[some (.a7 (.list (Ls.map cq))),some (.a7 (.int (n:Int))),some (.a7 (aI r)),some (.a7 (.int (FM.ent r (n+1)))),x4]) (by dsimp![iB,cD,a1])];by_cases c1:FM.ent r n=0
  ·cases c2:FM.cH r.1 (FM.ent r (n+1):Rat)with
   |false=>
    rw[c2]at hN;rw[if_neg (by rw[Bool.and_false];exact Bool.false_ne_true)];refine⟨[some (.a7 (.list (Ls.map cq))),some (.a7 (.int (n:Int))),some (.a7 (aI r)),some (.a7 (.int (FM.ent r (n+1)))),x4],?_,_,_,_,rfl⟩;dsimp![kx,iB,a0,d7,eq_true c1,hN,z2]
   |true=>
    rw[c2]at hN;rw[if_pos (by rw[decide_eq_true c1];rfl)];rw[ng (by dsimp![kx,iB,a0,d7,eq_true c1,hN,z2])];have es:=QP r.2 (j:=n) (by rw[hR.len r hr];omega);have zd:(r.2.drop (n+2)).length<sizeLine:=by rw[length_drop,hR.len r hr];exact lt_of_lt_of_le (show m-(n+2)<1000 by omega) (sz (by decide))
    have fin:∀way:Int,(way=1\/way=-1)->cf (aName 0) gL (ly (aU (L3.f2 jE (aH 1) (aH 0)) (aU (fC (.int 1)) bS))) [none,some (.int way)] ((r.2.drop (n+2)).map .int)=some (((r.2.drop (n+2)).map fun(w:Int)=>((way*w:Int):Rat)).map qD):=by
     intro way ir;refine cZ _ _ (by rw[length_map,length_map,length_map]) fun i d o h1 h2=>?_;rw[getElem?_map]at h1 h2;rw[getElem?_map]at h2;cases hz:(r.2.drop (n+2))[i]? with
     |none=>rw[hz]at h1;cases h1
     |some z=>
      rw[hz]at h1 h2;cases h1;cases h2;refine⟨[(0,.int z)],rfl,?_⟩;have em:jE (.int way) (.int z)=some (.int (way*z)):=mulL _ (by rcases ir with e|e<;>(rw[e];decide)) (by rcases ir with e|e<;>(rw[e];decide));have eq:qD ((way*z:Int):Rat)=.tuple [.int (way*z),.int 1]:=qI _;simp![em,eq,z2]
    by_cases c3:r.1=.eq/\0<FM.ent r (n+1)
    ·have k1:=(i7 r.1).mpr c3.1;rw[ak (af:=[some (.a7 (.list (Ls.map cq))),some (.a7 (.int (n:Int))),some (.a7 (aI r)),some (.a7 (.int (FM.ent r (n+1)))),some (.a7 (.int (-1)))]) (by dsimp![kx,cP,eq_true k1,gR,eq_true c3.2])];have ew:BZ n r=(r.2.drop (n+2)).map fun(w:Int)=>(((-1:Int)*w:Int):Rat):=by unfold BZ;rw[if_pos c3]
     rw[ew];have ec:=fin (-1) (.inr rfl);dsimp![iB,qF,oG,oH,qL,cD,es,length_map,zd,ec]
    ·rw[ak (af:=[some (.a7 (.list (Ls.map cq))),some (.a7 (.int (n:Int))),some (.a7 (aI r)),some (.a7 (.int (FM.ent r (n+1)))),some (.a7 (.int 1))]) (by
      by_cases c4:r.1=.eq
      ·have k1:=(i7 r.1).mpr c4;have c5:¬0<FM.ent r (n+1):=fun z=>c3 ⟨c4,z⟩;dsimp![kx,cP,eq_true k1,gR,eq_false c5]
      ·have k1:¬aN r.1="=":=fun z=>c4 ((i7 r.1).mp z);dsimp![kx,cP,eq_false k1])]
     have ew:BZ n r=(r.2.drop (n+2)).map fun(w:Int)=>(((1:Int)*w:Int):Rat):=by unfold BZ;rw[if_neg c3]
     rw[ew];have ec:=fin 1 (.inl rfl);dsimp![iB,qF,oG,oH,qL,cD,es,length_map,zd,ec]
  ·rw[if_neg (by rw[decide_eq_false c1];exact Bool.false_ne_true)];refine⟨[some (.a7 (.list (Ls.map cq))),some (.a7 (.int (n:Int))),some (.a7 (aI r)),some (.a7 (.int (FM.ent r (n+1)))),x4],?_,_,_,_,rfl⟩;dsimp![kx,iB,a0,d7,eq_false c1]
 ·rintro af ⟨x2,x3,x4,rfl⟩;simp![mw,map_none]
theorem JM:∀(xs ys:List Rat),dz (xs.map qD) (ys.map qD)=(xs.zip ys).map fun z=>Dat.tuple [qD z.1,qD z.2]
 |[],ys=>by simp[dz]
 |x::xs,[]=>by simp[dz]
 |x::xs,y::ys=>by simp only[map_cons,dz,zip_cons_cons,JM xs ys]
abbrev Tv (F:List Dat->Option Dat):Prop:=∀(b n m:Nat) (Ls:List (List FM.Row)) (rows:List FM.Row),1<=b->Ls.length=n+1->Ls[n]?=some rows->gZ m b rows->n+2<=m->m<=900->n<=90->b<=1900000->F [.list (Ls.map cq)]=some (mw (FM.fD n rows))
abbrev Ay (way:Int) (F:List Dat->Option Dat):Prop:=∀(b n m:Nat) (Ls:List (List FM.Row)) (rows:List FM.Row),1<=b->Ls.length=n+1->Ls[n]?=some rows->gZ m b rows->n+1<m->m<=900->n<=90->b<=1900000->F [.list (Ls.map cq)]=some (de (FM.endOf n rows way))
theorem Bg(hl:∀r∈rows,r.2.length=m){t:FM.fz}(h:FM.endOf n rows way=some t):t.2.2.length=m-(n+2):=by
 obtain⟨⟨r,hr,hc,k1,k2,k3⟩,_⟩:=(FM.jA rows n (List.replicate (n+1) 0) way).some t h;rw[k3];unfold FM.mY;rw[length_map,length_drop,hl r hr,length_replicate]
variable {Fu:List Dat->Option Dat}
theorem Jj(T:TX P K mg){Fo:List Dat->Option Dat}(km:Dn P w K mg base 47 "upper_end" ["stages"] 1 Fu)(hU:Ay 1 Fu)(lD:Dn P w K mg base 47 "opposite_end" ["stages"] 1 Fo)(hO:Ay (-1) Fo)(qV:Dn P w K mg base 47 "is_never" ["kind","bound"] 2 Fi)(hI:TN Fi)(vd:Dn P w K mg base 47 "plus" ["a","b"] 2 f6)(U:FnAt K mg "never_by_ends" (top 29) ["stages"]):
  ∃F,Dn P w K mg base 48 "never_by_ends" ["stages"] 1 F/\Tv F:=by
 refine⟨_,cG ["stages","top","bottom","kind"] U fun nd _ _ _ _ _ _ _ hr=>
  (ae (aB 1 nd (az km hr (a6 (a5 0) a9)))
  (ae (aB 2 nd (az lD hr (a6 (a5 0) a9)))
  (ae (aT (cC (cS (dk (a5 1) cz) (dj (dk (a5 2) cz)))) (ag (aq cz)) aL)
  (ae (aB 3 nd (gf (BH aY (bo (k:=0) (a6 (ah (a5 1) a8) (a6 (ah (a5 2) a8) a9 (hs:=aJ)) (hs:=aJ)))) aY aY))
  (ae (aT (bf (az qV hr (a6 (a5 3) (a6 (az vd hr (a6 (ah (a5 1) a8) (a6 (ah (a5 2) a8) a9 (hs:=aJ)) (hs:=aJ))) a9 (hs:=aX))))) (ag (aq (cI (k8 rfl (jT (N':=["a","b"])) (mm T.zip (a6 (ah (a5 1) a8) (a6 (ah (a5 2) a8) a9 (hs:=aJ)) (hs:=aJ))) (fun _ _ _ _=>(dh (n:=2) rfl (aW (ar 0 (show(["a","b"]:List Str).Nodup by decide +kernel)) (aW (ar 1 (show(["a","b"]:List Str).Nodup by decide +kernel)) cM)))) (fun _ _ _ _=>dm) (fun _ _ _ _=>(az vd hr (a6 (a5 0) (a6 (a5 1) a9)))) (tR rfl rfl))))) aL)
  (ag (aq cz))))))),?_⟩
 intro b n m Ls rows hb hl hn hR Gw mE rY hsz;have z2:2<=sizeLine:=sz (by decide);have eu:=hU b n m Ls rows hb hl hn hR (by omega) mE rY hsz;have eo:=hO b n m Ls rows hb hl hn hR (by omega) mE rY hsz;refine bP ?_;simp!;rw[ak (af:=[some (.a7 (.list (Ls.map cq))),some (.a7 (de (FM.endOf n rows 1))),none,none]) (by dsimp![eu])];rw[ak (af:=[some (.a7 (.list (Ls.map cq))),some (.a7 (de (FM.endOf n rows 1))),some (.a7 (de (FM.endOf n rows (-1)))),none]) (by dsimp![eo])];have nE:FM.fD n rows=(match FM.endOf n rows 1,FM.endOf n rows (-1)with
  |some t,some b=>if FM.cH (if t.1=true\/b.1=true then .lt else .le) (t.2.1+b.2.1)=true then some (zipWith (fun x y=>x+y) t.2.2 b.2.2)else none
  |_,_=>none):=rfl
 rw[nE];cases ht:FM.endOf n rows 1 with
 |none=>
  have e0:de none=.none:=rfl;rw[e0];dsimp![jx,mw]
 |some t=>
  cases ho:FM.endOf n rows (-1)with
  |none=>
   have e0:de none=.none:=rfl;rw[e0];dsimp![jx,lN,mw]
  |some o=>
   obtain⟨s1,s2⟩:=mK (.inl rfl) hR ht;obtain⟨s3,s4⟩:=mK (.inr rfl) hR ho;have w1:=Bg hR.len ht;have w2:=Bg hR.len ho;have Co:b+b+1<=4000000:=by omega
   have t0:bz (de (some t)) (.int 0)=some (.str (eX t.1)):=rfl;have t1:bz (de (some t)) (.int 1)=some (qD t.2.1):=rfl;have t2:bz (de (some t)) (.int 2)=some (.list (t.2.2.map qD)):=rfl;have o0:bz (de (some o)) (.int 0)=some (.str (eX o.1)):=rfl;have o1:bz (de (some o)) (.int 1)=some (qD o.2.1):=rfl;have o2:bz (de (some o)) (.int 2)=some (.list (o.2.2.map qD)):=rfl;have ei:inD (.str "<") (.tuple [.str (eX t.1),.str (eX o.1)])=some (.bool (decide (t.1=true\/o.1=true))):=by
    cases t.1<;>cases o.1<;>rfl
   have ep:=ie s1 s3 (by omega) (by omega);have eN:=hI (b+b+1) (if t.1=true\/o.1=true then .lt else .le) (t.2.1+o.2.1) Co (s1.add s3);show _=some (Fl.rt (mw (if FM.cH (if t.1=true\/o.1=true then .lt else .le) (t.2.1+o.2.1)=true then some (zipWith (fun x y=>x+y) t.2.2 o.2.2)else none)));rw[ak (af:=[some (.a7 (.list (Ls.map cq))),some (.a7 (de (some t))),some (.a7 (de (some o))),none]) (by dsimp![lN])];rw[ak (af:=[some (.a7 (.list (Ls.map cq))),some (.a7 (de (some t))),some (.a7 (de (some o))),some (.a7 (.str (aN (if t.1=true\/o.1=true then .lt else .le))))]) (by
    by_cases c:t.1=true\/o.1=true
    ·rw[decide_eq_true c]at ei;rw[if_pos c];have ks:aN .lt="<":=rfl;dsimp![t0,o0,ei,z2,ks]
    ·rw[decide_eq_false c]at ei;rw[if_neg c];have ks:aN .le="<=":=rfl;dsimp![t0,o0,ei,z2,ks])]
   generalize (if t.1=true\/o.1=true then FM.Kn.lt else .le)=kn at *;cases c2:FM.cH kn (t.2.1+o.2.1)with
   |false=>
    rw[c2]at eN;rw[if_neg Bool.false_ne_true];dsimp![t1,o1,ep,eN,mw]
   |true=>
    rw[c2]at eN;rw[if_pos rfl];have zl:(t.2.2.zip o.2.2).length<sizeLine:=by rw[length_zip,w1,w2];exact lt_of_lt_of_le (show min (m-(n+2)) (m-(n+2))<1000 by omega) (sz (by decide))
    have ec:cf (kG 2 (gM (aName 0) (gM (aName 1) mR))) gL (iS 2 f6 (aU (aH 0) (aU (aH 1) bS))) [none,none] ((t.2.2.zip o.2.2).map fun z=>Dat.tuple [qD z.1,qD z.2])=some ((zipWith (fun x y=>x+y) t.2.2 o.2.2).map qD):=by
     have es:zipWith (fun x y=>x+y) t.2.2 o.2.2=(t.2.2.zip o.2.2).map fun z=>z.1+z.2:=by rw[List.zip,List.map_zipWith]
     rw[es];refine cZ _ _ (by rw[length_map,length_map,length_map]) fun i d o' g1 g2=>?_;rw[getElem?_map]at g1 g2;rw[getElem?_map]at g2;cases hq:(t.2.2.zip o.2.2)[i]? with
     |none=>rw[hq]at g1;cases g1
     |some z=>
      rw[hq]at g1 g2;cases g1;cases g2;obtain⟨OJ,OI⟩:=of_mem_zip (mem_of_getElem? hq);refine⟨[(0,qD z.1),(1,qD z.2)],rfl,?_⟩;have e1:=ie (s2 z.1 OJ) (s4 z.2 OI) (by omega) (by omega);simp![e1]
    dsimp![t1,t2,o1,o2,ep,eN,gS,JM,length_map,zl,ec,mw]
abbrev Tt (F:List Dat->Option Dat):Prop:=∀(b n m:Nat) (Ls:List (List FM.Row)) (rows:List FM.Row),1<=b->Ls.length=n+1->Ls[n]?=some rows->gZ m b rows->n+2<=m->m<=900->n<=90->b<=1900000->F [.list (Ls.map cq)]=some (mw (FM.never n rows))
theorem Mx(T:TX P K mg){Fr:List Dat->Option Dat}(ve:Dn P w K mg base 48 "never_by_a_row" ["stages"] 1 Fr)(hR:Tw Fr)(w9:Dn P w K mg base 48 "never_by_ends" ["stages"] 1 Fe)(hE:Tv Fe)(U:FnAt K mg "never" (top 30) ["stages"]):
  ∃F,Dn P w K mg base 49 "never" ["stages"] 1 F/\Tt F:=by
 refine⟨_,cG ["stages","weights"] U fun nd _ _ _ _ _ _ _ hr=>
  (ae (aB 1 nd (az ve hr (a6 (a5 0) a9)))
  (ag (aq (gf (dk (a5 1) cz) (az w9 hr (a6 (a5 0) a9)) (a5 1))))),?_⟩
 intro b n m Ls rows hb hl hn fR Gw mE rY hsz;have e1:=hR b n m Ls rows hb hl hn fR Gw mE (by omega);have e2:=hE b n m Ls rows hb hl hn fR Gw mE rY hsz;have nE:FM.never n rows=(match FM.fq n rows with
  |some w=>some w
  |none=>FM.fD n rows):=rfl
 rw[nE];cases hw:FM.fq n rows with
 |none=>
  rw[hw]at e1;have e0:mw none=.none:=rfl;rw[e0]at e1;simp![e1,jx,e2]
 |some ws=>
  rw[hw]at e1;have e0:mw (some ws)=.list (ws.map qD):=rfl;rw[e0]at e1;have n0:ka (.list (ws.map qD)) .none=some (.bool false):=rfl;simp![e1,n0,e0]
theorem Mj{g x:Int}(h:g∣x):(x.fdiv g).natAbs<=x.natAbs:=by
 obtain⟨c,rfl⟩:=h;by_cases g0:g=0
 ·rw[g0];simp
 ·rw[mul_comm,Int.mul_fdiv_cancel _ g0,natAbs_mul];exact Nat.le_mul_of_pos_right _ (by omega)
theorem zu{one other:List Int}{bO more:Int}(h1:∀x∈one,x.natAbs<2^b)(h2:∀x∈other,x.natAbs<2^b)(h3:bO.natAbs<2^b)(h4:more.natAbs<2^b):∀x∈FM.mixed one bO other more,x.natAbs<2^(2*b+1):=by
 intro x hx;obtain⟨y,hy,rfl⟩:=mem_map.mp (show x∈(FM.fQ one bO other more).map (fun x=>x.fdiv (FM.lowG (FM.fQ one bO other more):Int))from hx);refine lt_of_le_of_lt (Mj (FM.my hy)) ?_;obtain⟨p,hp,q,hq,rfl⟩:=jm (show y∈zipWith (fun a b=>bO*a+more*b) one other from hy);rw[show 2*b=b+b by omega];exact qM (cQ h3 (h1 p hp)) (cQ h4 (h2 q hq))
theorem C4{most:Nat}{aC:List Nat}(hR:gZ m b rows):gZ m (2*b+1) (FM.cX aC j most rows):=by
 have up:∀{x:Int},x.natAbs<2^b->x.natAbs<2^(2*b+1):=fun h=>dR h (by omega);unfold FM.cX;split
 ·refine⟨fun r hr=>?_,fun r hr x hx=>?_⟩
  ·rcases FM.i4.mp hr with⟨h1,h2⟩|⟨u,hu,l,hl,pu,pl,_,e⟩
   ·exact hR.len r h1
   ·rw[e];show(FM.mixed u.2 _ l.2 _).length=_;rw[FM.nj (by rw[hR.len u hu,hR.len l hl]),hR.len u hu]
  ·rcases FM.i4.mp hr with⟨h1,h2⟩|⟨u,hu,l,hl,pu,pl,_,e⟩
   ·exact up (hR.bd r h1 x hx)
   ·rw[e]at hx;exact zu (hR.bd u hu) (hR.bd l hl) (by rw[natAbs_neg];exact cV (hR.bd l hl)) (cV (hR.bd u hu)) x hx
 ·rename_i q hq;have hm:=mem_of_find?_eq_some hq;refine⟨fun r hr=>?_,fun r hr x hx=>?_⟩
  ·obtain⟨s,hs,rfl⟩:=mem_map.mp hr;have hs:=(mem_filter.mp hs).1;show(FM.mixed s.2 _ q.2 _).length=_;rw[FM.nj (by rw[hR.len s hs,hR.len q hm]),hR.len s hs]
  ·obtain⟨s,hs,rfl⟩:=mem_map.mp hr;have hs:=(mem_filter.mp hs).1;exact zu (hR.bd s hs) (hR.bd q hm) (by rw[natAbs_natCast];exact cV (hR.bd q hm)) (by split<;>(try rw[natAbs_neg])<;>exact cV (hR.bd s hs)) x hx
theorem EZ{M:Nat}(aC:List Nat):∀(m j most b:Nat) (rows:List FM.Row),gZ M b rows->∀i,i<=m->∃rs,(FM.lL aC m j most rows)[i]?=some rs/\gZ M (FM.bt b i) rs
 |0,j,most,b,rows,h,i,hi=>by
  have:i=0:=by omega
  subst this;exact⟨rows,rfl,h⟩
 |m+1,j,most,b,rows,h,0,hi=>⟨rows,rfl,h⟩
 |m+1,j,most,b,rows,h,i+1,hi=>EZ aC m (j+1) _ (2*b+1) _ (C4 h) i (by omega)
theorem vt(aC:List Nat):∀(m j most:Nat) (rows:List FM.Row),(FM.lL aC m j most rows).length=m+1
 |0,j,most,rows=>rfl
 |m+1,j,most,rows=>by
  show(FM.lL aC m (j+1) _ _).length+1=_;rw[vt]
variable {e:Nat}
theorem yh{k:FM.Kn}{qs:List Rat}(hq:∀q∈qs,SR c q)(hP:fk qs<2^e):∀x∈(FM.whole k qs).2,x.natAbs<2^(c+e):=by
 have hL:FM.iq qs<2^e:=by
  have:=vH qs 1 (by decide);rw[one_mul]at this;exact lt_of_le_of_lt this hP
 intro x hx;obtain⟨q,rX,rfl⟩:=mem_map.mp (show x∈qs.map (fun q=>q.num*((FM.iq qs/q.den:Nat):Int))from hx);exact cQ (hq q rX).ln (by rw[natAbs_natCast];exact lt_of_le_of_lt (Nat.div_le_self _ _) hL)
theorem KZ{c e n k:Nat}(ke:1<=c):∀(l:List FM.Ol) (i:Nat),(∀o∈l,w6 c e n o)->∀r∈FM.cx k i l,∀x∈r.2,x.natAbs<2^(c+e)
 |[],i,_,r,hr=>by simp[FM.cx]at hr
 |o::l,i,h,r,hr=>by
  rcases mem_cons.mp (show r∈FM.whole o.1 (o.2.1++[0,o.2.2]++FM.dw k i)::FM.cx k (i+1) l from hr)with e|hr
  ·subst e;have ho:=h o mem_cons_self;refine yh (fun q hq=>?_) ?_
   ·rcases mem_append.mp hq with h|h
    ·rcases mem_append.mp h with h|h
     ·exact ho.sq q h
     ·rcases mem_cons.mp h with h|h
      ·rw[h];exact kr ke
      ·rw[mem_singleton.mp h];exact ho.bd
    ·rcases oq h with e|e
     ·rw[e];exact kr ke
     ·rw[e];exact wF ke
   ·rw[j5,j5,og (a:=FM.dw k i) (fun q hq=>by rcases oq hq with e|e<;>(rw[e];rfl)),mul_one];show fk o.2.1*(1*(o.2.2.den*1))<_;rw[one_mul,mul_one];exact ho.dn
  ·exact KZ ke l (i+1) (fun o ho=>h o (mem_cons_of_mem _ ho)) r hr
variable {p:List Rat} {os:List FM.Ol}
theorem A7(ke:1<=c)(lF:∀q∈p,SR c q)(uJ:fk p<2^e)(bF:∀o∈os,w6 c e p.length o):gZ (p.length+2+os.length) (c+e) (FM.bj p os):=by
 refine⟨(FM.tj fun o ho=>(bF o ho).len).len,fun r hr=>?_⟩;unfold FM.bj at hr;rcases mem_append.mp hr with h|h
 ·exact KZ ke os 0 bF r h
 ·rw[mem_singleton.mp h];refine yh (fun q hq=>?_) ?_
  ·rcases mem_append.mp hq with h|h
   ·rcases mem_append.mp h with h|h
    ·obtain⟨x,hx,rfl⟩:=mem_map.mp h;exact iM (lF x hx)
    ·rcases mem_cons.mp h with h|h
     ·rw[h];exact wF ke
     ·rw[mem_singleton.mp h];exact kr ke
   ·rw[(mem_replicate.mp h).2];exact kr ke
  ·rw[j5,j5,og (a:=List.replicate os.length 0) (fun q hq=>by rw[(mem_replicate.mp hq).2];rfl),mul_one,rL];show fk p*1<_;rw[mul_one];exact uJ
theorem Mn(a b:FM.Row):eqB (aI a) (aI b)=some (decide (a=b)):=by
 have h:eqB (aI a) (aI b)=if kqdOk 9 (aI a)=true/\kqdOk 9 (aI b)=true then some (lz (aI a) (aI b))else none:=rfl;rw[h,if_pos ⟨lS (uv a.1),lS (uv b.1)⟩];congr 1
 by_cases e:a=b
 ·rw[mM (by rw[e]),decide_eq_true e]
 ·rw[mN (fun z=>e (By z)),decide_eq_false e]
theorem Mb(a b:FM.Row):gk (aI a) (aI b)=some (.bool (!decide (a=b))):=by unfold gk;rw[Mn];rfl
theorem yk{os:List FM.Ol}{n:Nat}:∀(l:List FM.Ol) (i:Nat),(∀t,t<l.length->os[i+t]?=l[t]?)->((eN i l).filter fun p=>!decide (p.2.1=.eq)).map (fun p=>nat (n+2+p.1))=(((range' i l.length).filter fun i=>FM.jO os i).map fun i=>n+2+i).map nat
 |[],i,_=>rfl
 |o::l,i,h=>by
  have ih:=yk l (i+1) (n:=n) (os:=os) fun t ht=>by
   have:=h (t+1) (by rw[length_cons];omega);rw[show i+1+t=i+(t+1) by omega];exact this
  have h0:=h 0 (by rw[length_cons];omega);have hk:FM.knd os i=o.1:=by
   unfold FM.knd;rw[getD_eq_getElem?_getD,show i=i+0 by omega,h0];rfl
  have hj:FM.jO os i=!decide (o.1=.eq):=by unfold FM.jO;rw[hk,decide_not]
  rw[length_cons,List.range'_succ];show(((i,o)::eN (i+1) l).filter _).map _=_;rw[filter_cons,filter_cons];show(if(!decide (o.1=.eq))=true then _ else _:List (Nat×FM.Ol)).map _=_;rw[hj];by_cases c:(!decide (o.1=.eq))=true
  ·rw[if_pos c,if_pos c,map_cons,map_cons,map_cons,ih]
  ·rw[if_neg c,if_neg c,ih]
abbrev Tg (F:List Dat->Option Dat):Prop:=∀(c e:Nat) (p:List Rat) (os:List FM.Ol),1<=c->c<=3000000->e<=4000000->p.length<=50->os.length<=100->(∀q∈p,SR c q)->fk p<2^e->(∀o∈os,w6 c e p.length o)->FM.bt (c+e) p.length<=4400000->FM.cb (os.length+1) p.length<sizeLine->F [.tuple (p.map qD),.list (os.map aA)]=some (.list ((FM.bH p os).map cq))
variable {Fp:List Dat->Option Dat}
theorem Jh(T:TX P K mg){Ff Fw:List Dat->Option Dat}(Bc:Dn P w K mg base 45 "first_rows" ["parts","others"] 2 Ff)(hF:TU Ff)(Ew:Dn P w K mg base 45 "equal_row" ["rows","place"] 2 Fe)(hE:∀(rows:List FM.Row) (j m:Nat),(∀r∈rows,r.2.length=m)->j<m->Fe [.list (rows.map aI),.int (j:Int)]=some (sU (FM.ey j rows)))(MS:Dn P w K mg base 45 "paired" ["rows","place","weighed","most"] 4 Fp)(hP:Tp Fp)(JF:Dn P w K mg base 45 "without" ["row","equal","place"] 3 Fw)(hW:Tb Fw)(U:FnAt K mg "stages_of" (top 21) ["parts","others"]):
  ∃F,Dn P w K mg base 46 "stages_of" ["parts","others"] 2 F/\Tg F:=by
 refine⟨_,cG ["parts","others","rows","ahead","weighed","most","stages","place","equal"] U fun nd _ _ _ _ _ _ _ hr=>
  (ae (aB 2 nd (az Bc hr (a6 (a5 0) (a6 (a5 1) a9))))
  (ae (aB 3 nd (fg (cA T.len (a6 (a5 0) a9)) a8))
  (ae (ue 4 nd rfl (fI (tn:=["place","other"]) (fv:=["ahead"]) (js:=[3]) rfl (by decide +kernel) (by decide +kernel) rfl (by decide +kernel) (by decide +kernel) rfl
   (fun x hx=>by((have fj:x="ahead":=(by simpa using hx));(rcases fj with rfl<;>exact⟨_,rfl⟩)))
   (fun p hp=>by((have fu:p=(("ahead" : Str),(3:Nat)):=(by simpa using hp));(rcases fu with rfl<;>exact⟨rfl,.inr (.inl rfl),.inl rfl,fun z=>by cases z⟩)))) (q8 T.enumerate (a6 (a5 1) a9)) (fun _ _ _ _=>(dh (n:=2) rfl (aW (ar 0 (show(["place","other","ahead"]:List Str).Nodup by decide +kernel)) (aW (ar 1 (show(["place","other","ahead"]:List Str).Nodup by decide +kernel)) cM)))) (fun _ _ _ _=>(kU (d5 hr (ah (a5 1) a8) aY))) (fun _ _ _ _=>(fg (a5 2) (a5 0))) (tR rfl rfl))
  (ae (aB 5 nd a8)
  (ae (mj 6 nd (iJ a9))
  (ae (oC PassesOwn.never rfl T.range (a6 (cA T.len (a6 (a5 0) a9)) a9 (hs:=aX)) (ar 7 nd) (ae (jl 6 (a5 2))
  (ae (aB 8 nd (az Ew hr (a6 (a5 2) (a6 (a5 7) a9))))
  (ag (aT (dk (a5 8) cz) (ae (aB 5 nd (fg (a5 5) a8))
  (ag (aB 2 nd (az MS hr (a6 (a5 2) (a6 (a5 7) (a6 (a5 4) (a6 (a5 5) a9)))))))) (ag (q5 2 nd rfl (fI (tn:=["row"]) (fv:=["place","equal"]) (js:=[7,8]) rfl (by decide +kernel) (by decide +kernel) rfl (by decide +kernel) (by decide +kernel) rfl
   (fun x hx=>by((have fj:x="place"\/x="equal":=(by simpa using hx));(rcases fj with rfl|rfl<;>exact⟨_,rfl⟩)))
   (fun p hp=>by((have fu:p=(("place" : Str),(7:Nat))\/p=(("equal" : Str),(8:Nat)):=(by simpa using hp));(rcases fu with rfl|rfl<;>exact⟨rfl,.inr (.inl rfl),.inl rfl,fun z=>by cases z⟩)))) (a5 2) (fun _ _ _ _=>(ar 0 (show(["row","place","equal"]:List Str).Nodup by decide +kernel))) (fun _ _ _ _=>(kU (d5 hr (a5 0) (a5 2)))) (fun _ _ _ _=>(az JF hr (a6 (a5 0) (a6 (a5 2) (a6 (a5 1) a9))))) (d4 rfl))))))))
  (ae (jl 6 (a5 2))
  (ag (aq (a5 6)))))))))),?_⟩
 intro c e p os ke hc he hp kY lF uJ bF pC xi;have z0:0<=sizeLine:=zero_le _;have hlen:∀o∈os,o.2.1.length=p.length:=fun o ho=>(bF o ho).len;have lp:i6 [.tuple (p.map qD)]=some (.int p.length):=by show some (Dat.int ((p.map qD).length:Nat))=_;rw[length_map]
 have eF:=hF c e p os ke hc he (by omega) kY lF uJ bF;generalize Gs:FM.cB p.length os.length (FM.jO os)=wd;have Gr:wd.length<=900:=by
  rw[<- Gs];unfold FM.cB;rw[length_map];have:=length_filter_le (fun i=>FM.jO os i) (List.range os.length);rw[length_range]at this;omega
 have OM:∀q∈wd,q<p.length+2+os.length:=fun q hq=>by
  rw[<- Gs]at hq;unfold FM.cB at hq;obtain⟨i,hi,rfl⟩:=mem_map.mp hq;have:=List.mem_range.mp (mem_filter.mp hi).1;omega
 refine bP ?_;simp!;rw[ak (af:=[some (.a7 (.tuple (p.map qD))),some (.a7 (.list (os.map aA))),some (.a7 (.list ((FM.bj p os).map aI))),none,none,none,none,none,none]) (by simp![eF])];rw[ak (af:=[some (.a7 (.tuple (p.map qD))),some (.a7 (.list (os.map aA))),some (.a7 (.list ((FM.bj p os).map aI))),some (.a7 (.int ((p.length:Int)+2))),none,none,none,none,none]) (by simp![lp,cD])];have zn:os.length<sizeLine:=lt_of_lt_of_le (show os.length<1000 by omega) (sz (by decide));have uI:qw (aU (aH 1) bS) (bx [some (.a7 (.tuple (p.map qD))),some (.a7 (.list (os.map aA))),some (.a7 (.list ((FM.bj p os).map aI))),some (.a7 (.int ((p.length:Int)+2))),none,none,none,none,none])=some ((eN 0 os).map CJ):=by
  rw[<- E6];rfl
 have ec:cf (kG 2 (gM (aName 0) (gM (aName 1) mR))) (cc (L3.f2 gk (L3.f2 bz (aH 1) (fC (.int 0))) (fC (.str "=")))) (L3.f2 lA (aH 2) (aH 0)) [none,none,some (.int ((p.length:Int)+2))] ((eN 0 os).map CJ)=some (wd.map nat):=by
  rw[j6 CJ (fun q=>nat (p.length+2+q.1)) (fun q=>!decide (q.2.1=.eq)) (eN 0 os) (fun q hq=>?_)]
  ·rw[yk os 0 (fun t _=>by rw[zero_add]),<- Gs];unfold FM.cB;rw[List.range_eq_range']
  ·refine⟨[(0,.int (q.1:Int)),(1,aA q.2)],rfl,?_,fun _=>?_⟩
   ·have e0:bz (aA q.2) (.int 0)=some (.str (aN q.2.1)):=rfl;by_cases ck:q.2.1=.eq
    ·have k1:=(i7 q.2.1).mpr ck;rw[decide_eq_true ck];dsimp![e0,jD,eq_true k1]
    ·have k1:¬aN q.2.1="=":=fun z=>ck ((i7 q.2.1).mp z);rw[decide_eq_false ck];dsimp![e0,jD,eq_false k1]
   ·have en:nat (p.length+2+q.1)=.int ((p.length:Int)+2+(q.1:Int)):=rfl;rw[en];simp![cD]
 rw[ak (af:=[some (.a7 (.tuple (p.map qD))),some (.a7 (.list (os.map aA))),some (.a7 (.list ((FM.bj p os).map aI))),some (.a7 (.int ((p.length:Int)+2))),some (.a7 (.list (wd.map nat))),none,none,none,none]) (Bv (An uI (by rw[length_map,Ac];exact zn) ec))];rw[ak (af:=[some (.a7 (.tuple (p.map qD))),some (.a7 (.list (os.map aA))),some (.a7 (.list ((FM.bj p os).map aI))),some (.a7 (.int ((p.length:Int)+2))),some (.a7 (.list (wd.map nat))),some (.a7 (.int 1)),none,none,none]) (by simp![])];rw[ak (af:=[some (.a7 (.tuple (p.map qD))),some (.a7 (.list (os.map aA))),some (.a7 (.list ((FM.bj p os).map aI))),some (.a7 (.int ((p.length:Int)+2))),some (.a7 (.list (wd.map nat))),some (.a7 (.int 1)),some (.own ([])),none,none]) (by simp![z0])];have OR:ip [.int ((p.length:Nat):Int)]=some ((range' 0 p.length).map nat):=by
  rw[yG p.length (by omega)];unfold fO;rw[List.range_eq_range'];congr 1
  exact map_congr_left fun i _=>by rw[Int.zero_add]
 refine gc (I:=_) (qC (as:=[.int ((p.length:Nat):Int)]) (l:=range' 0 p.length) (s:=((FM.bj p os,1,[]):FM.Nx)) nat (fun(s:FM.Nx) Γ=>∃x7 x8,Γ=[some (.a7 (.tuple (p.map qD))),some (.a7 (.list (os.map aA))),some (.a7 (.list (s.1.map aI))),some (.a7 (.int ((p.length:Int)+2))),some (.a7 (.list (wd.map nat))),some (.a7 (.int (s.2.1:Int))),some (.own (s.2.2.map cq)),x7,x8])
  (fun s l=>∃(j m b r:Nat) (E:List Nat) (B:Nat->Nat->Rat) (β:Nat->Rat),l=range' j m/\j+m=p.length/\s.2.1=E.length+1/\FM.Rs p.length os.length s.1/\FM.Sg p.length os.length j (FM.jO os) (FM.sO os) E B β (s.1.map (FM.aD p.length))/\gZ (p.length+2+os.length) b s.1/\s.1.length<=r/\FM.bt b m<=4400000/\FM.cb r m<sizeLine/\s.2.2.length<=j)
  (FM.dA wd) (by simp![lp]) OR ⟨0,p.length,c+e,os.length+1,[],_,_,rfl,by omega,rfl,FM.tj hlen,FM.A6 hlen,A7 ke lF uJ bF,by
   unfold FM.bj;rw[length_append,A8];exact le_refl _,pC,xi,le_refl _⟩ ⟨none,none,rfl⟩ ?_) ?_
 ·rintro⟨rows,most,acc⟩ j0 l Γ ⟨j,m,b,r,E,B,β,hl,hjm,Ky,KP,KO,fR,zJ,Co,SG,vL⟩ ⟨x7,x8,rfl⟩;cases m with
  |zero=>cases hl
  |succ m=>
   rw[List.range'_succ]at hl;obtain⟨rfl,rfl⟩:=List.cons.inj hl;dsimp only at Ky KP KO fR zJ vL;have Su:=FM.C0 KP KO (by omega) Ky;rw[Gs]at Su;obtain⟨V4,⟨E',B',pO,V3,Cj⟩,_⟩:=Su;have hQ:∃(j m2 b r:Nat) (E:List Nat) (B:Nat->Nat->Rat) (β:Nat->Rat),range' (j0+1) m=range' j m2/\j+m2=p.length/\(FM.dA wd (rows,most,acc) j0).2.1=E.length+1/\FM.Rs p.length os.length (FM.dA wd (rows,most,acc) j0).1/\FM.Sg p.length os.length j (FM.jO os) (FM.sO os) E B β ((FM.dA wd (rows,most,acc) j0).1.map (FM.aD p.length))/\gZ (p.length+2+os.length) b (FM.dA wd (rows,most,acc) j0).1/\(FM.dA wd (rows,most,acc) j0).1.length<=r/\FM.bt b m2<=4400000/\FM.cb r m2<sizeLine/\(FM.dA wd (rows,most,acc) j0).2.2.length<=j:=by
    refine⟨j0+1,m,2*b+1,r+r*r/4,E',B',pO,rfl,by omega,Cj,V4,V3,C4 fR,?_,Co,SG,?_⟩
    ·exact le_trans (FM.II rows j0 most wd) (add_le_add zJ (Nat.div_le_div_right (mul_le_mul zJ zJ)))
    ·show(acc++[rows]).length<=_;rw[length_append];exact Nat.add_le_add_right vL 1
   have xj:b<=4400000:=le_trans (le_trans (show b<=2*b+1 by omega) (FM.p6 m (2*b+1))) Co;have OQ:r+r*r/4<sizeLine:=lt_of_le_of_lt (FM.L7 m _) SG;have zr:rows.length<sizeLine:=by omega
   have za:acc.length<sizeLine:=lt_of_lt_of_le (show acc.length<1000 by omega) (sz (by decide));refine⟨[(7,nat j0)],rfl,?_⟩;dsimp!;rw[ak (af:=[some (.a7 (.tuple (p.map qD))),some (.a7 (.list (os.map aA))),some (.a7 (.list (rows.map aI))),some (.a7 (.int ((p.length:Int)+2))),some (.a7 (.list (wd.map nat))),some (.a7 (.int (most:Int))),some (.own (acc.map cq++[cq rows])),some (.a7 (nat j0)),x8]) (by simp![length_map,za])];have eE:=hE rows j0 (p.length+2+os.length) fR.len (by omega);rw[ak (af:=[some (.a7 (.tuple (p.map qD))),some (.a7 (.list (os.map aA))),some (.a7 (.list (rows.map aI))),some (.a7 (.int ((p.length:Int)+2))),some (.a7 (.list (wd.map nat))),some (.a7 (.int (most:Int))),some (.own (acc.map cq++[cq rows])),some (.a7 (nat j0)),some (.a7 (sU (FM.ey j0 rows)))]) (by simp![eE])];cases hq:FM.ey j0 rows with
   |none=>
    have e0:sU none=.none:=rfl;have en:FM.dA wd (rows,most,acc) j0=(FM.paired j0 wd (most+1) rows,most+1,acc++[rows]):=by
     unfold FM.dA FM.cX FM.iL;dsimp only;rw[hq]
    have eP:=hP b (p.length+2+os.length) j0 (most+1) wd rows xj (by omega) (by omega) fR Gr OM (FM.M5 KP KO hq) (lt_of_le_of_lt (le_trans (FM.zb rows j0) (add_le_add zJ (Nat.div_le_div_right (mul_le_mul zJ zJ)))) OQ);refine⟨[some (.a7 (.tuple (p.map qD))),some (.a7 (.list (os.map aA))),some (.a7 (.list ((FM.paired j0 wd (most+1) rows).map aI))),some (.a7 (.int ((p.length:Int)+2))),some (.a7 (.list (wd.map nat))),some (.a7 (.int ((most+1:Nat):Int))),some (.own (acc.map cq++[cq rows])),some (.a7 (nat j0)),some (.a7 (.none))],?_,⟨_,_,by rw[en,map_append];rfl⟩,hQ⟩;rw[e0,ng (by dsimp![jx])];rw[ak (af:=[some (.a7 (.tuple (p.map qD))),some (.a7 (.list (os.map aA))),some (.a7 (.list (rows.map aI))),some (.a7 (.int ((p.length:Int)+2))),some (.a7 (.list (wd.map nat))),some (.a7 (.int ((most+1:Nat):Int))),some (.own (acc.map cq++[cq rows])),some (.a7 (nat j0)),some (.a7 (.none))]) (by simp![cD];rfl)];simp![eP]
   |some q=>
    have rX:=mem_of_find?_eq_some hq;have W4:=find?_some hq;have OT:q.1=.eq/\FM.ent q j0≠0:=by simpa using W4
    have e0:sU (some q)=aI q:=rfl;have en:FM.dA wd (rows,most,acc) j0=((rows.filter fun r=>decide (r≠q)).map (FM.wo q j0),most,acc++[rows]):=by
     unfold FM.dA FM.cX FM.iL;dsimp only;rw[hq]
    have ec:cf (aName 0) (cc (L3.f2 gk (aH 0) (aH 2))) (iS 3 Fw (aU (aH 0) (aU (aH 2) (aU (aH 1) bS)))) [none,some (nat j0),some (aI q)] (rows.map aI)=some (((rows.filter fun r=>decide (r≠q)).map (FM.wo q j0)).map aI):=by
     rw[j6 aI (fun r=>aI (FM.wo q j0 r)) (fun r=>decide (r≠q)) rows (fun r hr=>?_)]
     ·rw[map_map];rfl
     ·refine⟨[(0,aI r)],rfl,?_,fun hd=>?_⟩
      ·have er:(!decide (r=q))=decide (r≠q):=(decide_not).symm;rw[<- er];simp![Mb]
      ·have cE:r≠q:=of_decide_eq_true hd;obtain⟨eW,_⟩:=hW b (p.length+2+os.length) j0 r q xj (by omega) (by omega) (fR.len r hr) (fR.len q rX) (fR.bd r hr) (fR.bd q rX) (FM.Qt KP KO rX OT.1 OT.2 hr cE);simp![eW]
    refine⟨[some (.a7 (.tuple (p.map qD))),some (.a7 (.list (os.map aA))),some (.a7 (.list (((rows.filter fun r=>decide (r≠q)).map (FM.wo q j0)).map aI))),some (.a7 (.int ((p.length:Int)+2))),some (.a7 (.list (wd.map nat))),some (.a7 (.int (most:Int))),some (.own (acc.map cq++[cq rows])),some (.a7 (nat j0)),some (.a7 (aI q))],?_,⟨_,_,by rw[en,map_append];rfl⟩,hQ⟩;have n0:ka (aI q) .none=some (.bool false):=rfl;rw[e0,r9 (by dsimp![n0])];simp![oA,length_map,zr,ec]
 ·rintro af ⟨x7,x8,rfl⟩;have OP:=FM.yD wd p.length 0 1 (FM.bj p os) [];generalize hfs:(range' 0 p.length).foldl (FM.dA wd) (FM.bj p os,1,[])=fs at *;have hl:fs.2.2.length=p.length:=by
   have:=congrArg List.length OP;rw[length_append,nil_append,vt]at this;exact Nat.succ.inj this
  have za:fs.2.2.length<sizeLine:=lt_of_lt_of_le (show fs.2.2.length<1000 by omega) (sz (by decide));have es:FM.bH p os=fs.2.2++[fs.1]:=by
   unfold FM.bH;rw[Gs,OP,nil_append]
  rw[es,map_append];simp![length_map,za,map_cons,map_nil]
theorem qK{l g:Option Rat}(hn:1<=n+m)(hl:∀x,l=some x->SR n x)(hg:∀x,g=some x->SR m x):SR (n+m+3) (FM.gI l g):=by
 cases l with
 |none=>
  cases g with
  |none=>exact kr (by omega)
  |some g=>exact((hg g rfl).sub (wF (c:=1) (by decide))).up (by omega)
 |some l=>
  cases g with
  |none=>exact((hl l rfl).add (wF (c:=1) (by decide))).up (by omega)
  |some g=>exact(((hl l rfl).add (hg g rfl)).div (RV (c:=2) (by decide)) (by decide)).up (by omega)
variable {ys:List Rat}
theorem gK.app{D:Nat}(h:gK xs C)(h2:gK ys D):gK (xs++ys) (C+D):=by
 induction h with
 |nil=>rw[zero_add];exact h2
 |zero h0 _ ih=>exact .zero h0 ih
 | @cons _ C s _ hs _ ih=>rw[show C+s+1+D=(C+D)+s+1 by omega];exact .cons hs ih
theorem gK.set(h:gK xs C){v:Rat}{s:Nat}(hv:SR s v):∀{m:Nat},m<xs.length->xs.getD m 0=0->∃C',C'<=C+s+1/\gK (xs.set m v) C':=by
 induction h with
 |nil=>intro m hm;simp at hm
 | @zero xs C q h0 h ih=>
  intro m hm e;cases m with
  |zero=>exact⟨C+s+1,le_refl _,.cons hv h⟩
  |succ m=>
   obtain⟨C',h1,h2⟩:=ih (m:=m) (by rw[length_cons]at hm;omega) e;exact⟨C',h1,.zero h0 h2⟩
 | @cons xs C t q hs h ih=>
  intro m hm e;cases m with
  |zero=>exact⟨C+s+1,by omega,.cons hv h⟩
  |succ m=>
   obtain⟨C',h1,h2⟩:=ih (m:=m) (by rw[length_cons]at hm;omega) e;exact⟨C'+t+1,by omega,.cons hs h2⟩
def BM (bs:Nat->Nat):Nat->Nat->Nat
 |0,C=>C
 |m+1,C=>BM bs m (C+(bs m+C+(bs m+C)+3)+1)
def qd (bs:Nat->Nat):Nat->Nat->Prop
 |0,_=>True
 |m+1,C=>bs m+C<=1900000/\qd bs m (C+(bs m+C+(bs m+C)+3)+1)
theorem yQ(bs:Nat->Nat):∀(m:Nat) {C D:Nat},C<=D->BM bs m C<=BM bs m D
 |0,_,_,h=>h
 |m+1,_,_,h=>yQ bs m (by omega)
theorem qc(bs:Nat->Nat):∀(m:Nat) {C D:Nat},C<=D->qd bs m D->qd bs m C
 |0,_,_,_,_=>trivial
 |m+1,_,_,h,h2=>⟨by have:=h2.1;omega,qc bs m (by omega) h2.2⟩
def nX (Ls:List (List FM.Row)) (x:List Rat) (m:Nat):List Rat:=x.set m (FM.gI (FM.fZ (FM.c7 (Ls.getD m []) m x (-1))) (FM.gF (FM.c7 (Ls.getD m []) m x 1)))
theorem BK(Ls:List (List FM.Row)):∀(m:Nat) (x:List Rat),(List.range m).reverse.foldl (nX Ls) x=FM.dX Ls m x
 |0,x=>rfl
 |m+1,x=>by
  rw[range_succ,List.reverse_append];show(List.range m).reverse.foldl (nX Ls) (nX Ls x m)=_;rw[BK Ls m];rfl
theorem down_eq:∀n:Nat,iY ((n:Int)-1) n=(List.range n).reverse.map nat
 |0=>rfl
 |n+1=>by
  have ih:=down_eq n;rw[range_succ,List.reverse_append];show iY _ _=nat n::(List.range n).reverse.map nat;rw[<- ih];unfold iY;rw[List.range_succ_eq_map,map_cons,map_map];congr 1
  ·show Dat.int _=Dat.int _;congr 1
   omega
  ·refine map_congr_left fun i _=>?_;show Dat.int _=Dat.int _;congr 1
   show((n+1:Nat):Int)-1-((i+1:Nat):Int)=(n:Int)-1-(i:Int);omega
theorem xA(h:m<=ds.length):L3.cutD ds none (some (m:Int))=ds.take m:=by
 unfold L3.cutD;rw[HT.qZ,HT.sJ,Nat.min_eq_left h,drop_zero,sub_zero]
abbrev Uc (F:List Dat->Option Dat):Prop:=∀(n:Nat) l g,n<=1900000->(∀x,l=some x->SR n x)->(∀x,g=some x->SR n x)->F [iK l,iK g]=some (qD (FM.gI l g))
abbrev Td (F:List Dat->Option Dat):Prop:=∀(n:Nat) b,n<=4000000->(∀x,b=some x->SR n x.2.1)->F [de b]=some (iK (FM.fZ b))
abbrev Tu (F:List Dat->Option Dat):Prop:=∀b,F [de b]=some (iK (FM.gF b))
theorem Au(g:α->Dat){xs:List α}{x:α}(h:xs[n]?=some x):bz (.list (xs.map g)) (nat n)=some (g x):=by
 show fS (xs.map g) (n:Int)=_;have hl:n<xs.length:=(List.getElem?_eq_some_iff.mp h).1;unfold L2.fS L2.lE;rw[if_pos (by omega),if_pos (by rw[length_map];omega)];show(xs.map g)[((n:Int)).toNat]?=_;rw[toNat_natCast,getElem?_map,h];rfl
abbrev Tj (F:List Dat->Option Dat):Prop:=∀(bs:Nat->Nat) (n M s:Nat) (Ls:List (List FM.Row)) (t:Rat),Ls.length=n+1->(∀i,i<n->1<=bs i/\∃rs,Ls[i]?=some rs/\gZ M (bs i) rs)->n+1<M->M<=900->n<=90->SR s t->qd bs n (s+1)->F [.list (Ls.map cq),qD t]=some (.tuple ((FM.dH Ls n t).map qD))/\∀q∈FM.dH Ls n t,SR (BM bs n (s+1)+1) q
theorem rz(n:Nat)(t:Rat):(List.replicate n (0:Rat)++[t]).length=n+1:=by rw[length_append,length_replicate];rfl
theorem sR(n:Nat)(t:Rat):∀c,c<n->(List.replicate n (0:Rat)++[t]).getD c 0=0:=fun c hc=>by
 rw[getD_eq_getElem?_getD,getElem?_append_left (by rw[length_replicate];exact hc),getElem?_replicate,if_pos hc];rfl
theorem vA{s:Nat}{t:Rat}(ht:SR s t):gK (List.replicate n (0:Rat)++[t]) (s+1):=by
 have:=(tp n).app (gK.cons ht .nil);rw[show 0+(0+s+1)=s+1 by omega]at this;exact this
theorem FK(Ls:List (List FM.Row)):∀(m:Nat) (x:List Rat),(FM.dX Ls m x).length=x.length
 |0,x=>rfl
 |m+1,x=>by
  show(FM.dX Ls m (x.set m _)).length=_;rw[FK Ls m,length_set]
theorem ot{x:List Rat}(ir:way=1\/way=-1)(hR:gZ m b rows)(hC:gK x C){t:FM.fz}(h:FM.c7 rows j x way=some t):SR (b+C) t.2.1:=by
 obtain⟨⟨r,hr,hc,k1,k2,k3⟩,_⟩:=(FM.jA rows j x way).some t h;have oQ:way*FM.ent r j≠0:=by rcases hc with hc|⟨hc,_⟩<;>omega
 have hb:=tP ir (cV (j:=j) (hR.bd r hr));rw[k2];unfold FM.dE;have:=vG r (hR.bd r hr) x 0 0 C (FM.ent r x.length:Rat) (zo (cV (hR.bd r hr))) hC;rw[zero_add]at this;exact C6 this hb oQ
theorem FL{bs:Nat->Nat}{n M:Nat}{Ls:List (List FM.Row)}(hl:Ls.length=n+1)(hst:∀i,i<n->1<=bs i/\∃rs,Ls[i]?=some rs/\gZ M (bs i) rs):∀(m C:Nat) (x:List Rat),m<=n->x.length=n+1->(∀c,c<m->x.getD c 0=0)->gK x C->qd bs m C->∃C',C'<=BM bs m C/\gK (FM.dX Ls m x) C'
 |0,C,x,_,_,_,hC,_=>⟨C,le_refl _,hC⟩
 |m+1,C,x,hm,uE,j9,hC,hO=>by
  obtain⟨b1,rs,Cg,fR⟩:=hst m (by omega);have eD:Ls.getD m []=rs:=by rw[getD_eq_getElem?_getD,Cg];rfl
  have v1:∀y,FM.fZ (FM.c7 (Ls.getD m []) m x (-1))=some y->SR (bs m+C) y:=fun y hy=>by
   rw[eD]at hy;cases ho:FM.c7 rs m x (-1)with
   |none=>rw[ho]at hy;cases hy
   |some o=>
    rw[ho]at hy;cases hy;exact iM (ot (.inr rfl) fR hC ho)
  have v2:∀y,FM.gF (FM.c7 (Ls.getD m []) m x 1)=some y->SR (bs m+C) y:=fun y hy=>by
   rw[eD]at hy;cases ho:FM.c7 rs m x 1 with
   |none=>rw[ho]at hy;cases hy
   |some o=>
    rw[ho]at hy;cases hy;exact ot (.inl rfl) fR hC ho
  have sv:=qK (by omega) v1 v2;obtain⟨C',zY,zX⟩:=hC.set sv (m:=m) (by omega) (j9 m (by omega));obtain⟨C2,h1,h2⟩:=FL hl hst m C' _ (by omega) (by rw[length_set];exact uE) (fun c hc=>by
   rw[FM.jF (by omega),if_neg (by omega)];exact j9 c (by omega)) zX (qc bs m zY hO.2)
  exact⟨C2,le_trans h1 (yQ bs m zY),h2⟩
variable {Fn Fb:List Dat->Option Dat}
theorem Mv(T:TX P K mg)(Z1:TC K mg "ZERO_elimination" [.int 0,.int 1] a1)(nB:Dn P w K mg base 45 "tightest" ["rows","place","point","way"] 4 Ft)(hT:Q8 Ft)(ji:Dn P w K mg base 45 "turned_number_of" ["end"] 1 Fu)(hU:Td Fu)(pf:Dn P w K mg base 45 "number_of" ["end"] 1 Fn)(hN:Tu Fn)(tL:Dn P w K mg base 45 "between" ["least","greatest"] 2 Fb)(xm:Uc Fb)(U:FnAt K mg "point_of" (top 34) ["stages","number"]):
  ∃F,Dn P w K mg base 46 "point_of" ["stages","number"] 2 F/\Tj F:=by
 refine⟨_,cG ["stages","number","many","point","place","least","greatest"] U fun nd _ _ _ _ _ _ _ hr=>
  (ae (aB 2 nd (nV (cA T.len (a6 (a5 0) a9)) a8))
  (ae (mj 3 nd (Il (sQ (iJ (a6 (c9 Z1.mg Z1.tup) a9)) (a5 2)) (iJ (a6 (a5 1) a9))))
  (ae (jK PassesOwn.never rfl (Fc T.range (a6 (nV (a5 2) a8) (a6 (dr a8) (a6 (dr a8) a9 (hs:=gN)) (hs:=gN)) (hs:=dC))) (ar 4 nd)
  (ae (wK 5 nd (az ji hr (a6 (az nB hr (a6 (ah (a5 0) (a5 4)) (a6 (a5 4) (a6 (a5 3) (a6 (dr a8) a9 (hs:=gN)))) (hs:=aJ))) a9 (hs:=aX))))
  (ae (wK 6 nd (az pf hr (a6 (az nB hr (a6 (ah (a5 0) (a5 4)) (a6 (a5 4) (a6 (a5 3) (a6 a8 a9))) (hs:=aJ))) a9 (hs:=aX))))
  (ag (AQ 3 (az tL hr (a6 (a5 5) (a6 (a5 6) a9))) (a5 4))))))
  (ag (aq (gW T.tuple (a6 (k9 (a5 3) kX (kW (a5 2))) a9 (hs:=aJ)))))))),?_⟩
 intro bs n M s Ls t hl hst Sx Cq rY ht bF;have z1:1<=sizeLine:=sz (by decide);have lo:=jw cq Ls;have hp:((Ls.length:Nat):Int)-1=(n:Int):=by omega
 refine⟨?_,?_⟩
 ·refine bP ?_;simp!;rw[ak (af:=[some (.a7 (.list (Ls.map cq))),some (.a7 (qD t)),some (.a7 (.int (n:Int))),none,none,none,none]) (by simp![lo,fN,hp])];have er:oX (nr (aU (fC (.tuple [.int 0,.int 1])) bS)) (aH 2) (bX [some (.a7 (.list (Ls.map cq))),some (.a7 (qD t)),some (.a7 (.int (n:Int))),none,none,none,none])=some ((List.replicate n (0:Rat)).map qD):=yI rfl (by omega);rw[ak (af:=[some (.a7 (.list (Ls.map cq))),some (.a7 (qD t)),some (.a7 (.int (n:Int))),some (.own ((List.replicate n (0:Rat)++[t]).map qD)),none,none,none]) (by
   rw[map_append];have zl:((List.replicate n (0:Rat)).map qD).length+1<=sizeLine:=by rw[length_map,length_replicate];exact sz (by omega)
   generalize (List.replicate n (0:Rat)).map qD=zs at *;generalize oX (nr (aU (fC (.tuple [.int 0,.int 1])) bS)) (aH 2)=gr at *;simp only[bX,map_cons,map_nil]at er;simp![er,E5,zl,z1])]
  have OR:qv Du (aU (L3.f2 Dm (aH 2) (fC (.int 1))) (aU (fC (.int (-1))) (aU (fC (.int (-1))) bS))) (bx [some (.a7 (.list (Ls.map cq))),some (.a7 (qD t)),some (.a7 (.int (n:Int))),some (.own ((List.replicate n (0:Rat)++[t]).map qD)),none,none,none])=some ((List.range n).reverse.map nat):=by
   refine oP (as:=[.int ((n:Int)-1),.int (-1),.int (-1)]) (by
    generalize (List.replicate n (0:Rat)++[t]).map qD=zs;simp![fN]) ?_
   rw[<- down_eq];have e2:((n:Int)-1-(-1)).toNat=n:=by omega
   show(if(-1:Int)=-1/\(-(2^62)<=(n:Int)-1/\(n:Int)-1<2^62)/\(-(2^62)<=(-1:Int)/\(-1:Int)<2^62)then some (iY ((n:Int)-1) ((n:Int)-1-(-1)).toNat)else none)=_;rw[if_pos ⟨rfl,by omega,by omega⟩,e2]
  refine gc (I:=_) (l6 (l:=(List.range n).reverse) (s:=List.replicate n (0:Rat)++[t]) nat (fun(x:List Rat) Γ=>∃x4 x5 x6,Γ=[some (.a7 (.list (Ls.map cq))),some (.a7 (qD t)),some (.a7 (.int (n:Int))),some (.own (x.map qD)),x4,x5,x6])
   (fun x l=>∃m C,l=(List.range m).reverse/\m<=n/\x.length=n+1/\(∀c,c<m->x.getD c 0=0)/\gK x C/\qd bs m C) (nX Ls) OR ⟨n,s+1,rfl,le_refl _,rz n t,sR n t,vA ht,bF⟩ ⟨none,none,none,rfl⟩ ?_) ?_
  ·rintro x m0 l Γ ⟨m,C,OV,hmn,uE,j9,hC,hO⟩ ⟨x4,x5,x6,rfl⟩;cases m with
   |zero=>cases OV
   |succ m=>
    rw[range_succ,List.reverse_append]at OV;obtain⟨rfl,rfl⟩:=List.cons.inj (show m0::l=m::(List.range m).reverse from OV);obtain⟨b1,rs,Cg,fR⟩:=hst m0 (by omega);have WM:=hO.1;have eD:Ls.getD m0 []=rs:=by rw[getD_eq_getElem?_getD,Cg];rfl
    obtain⟨t1,s1⟩:=hT (bs m0) C M m0 rs x (-1) (.inr rfl) b1 fR (by omega) Cq (by omega) (by omega) hC (by omega);obtain⟨t2,s2⟩:=hT (bs m0) C M m0 rs x 1 (.inl rfl) b1 fR (by omega) Cq (by omega) (by omega) hC (by omega);have e1:=hU (bs m0+C) (FM.c7 rs m0 x (-1)) (by omega) s1;have e2:=hN (FM.c7 rs m0 x 1);have v1:∀y,FM.fZ (FM.c7 rs m0 x (-1))=some y->SR (bs m0+C) y:=fun y hy=>by
     cases ho:FM.c7 rs m0 x (-1)with
     |none=>rw[ho]at hy;cases hy
     |some o=>
      rw[ho]at hy;cases hy;exact iM (s1 o ho)
    have v2:∀y,FM.gF (FM.c7 rs m0 x 1)=some y->SR (bs m0+C) y:=fun y hy=>by
     cases ho:FM.c7 rs m0 x 1 with
     |none=>rw[ho]at hy;cases hy
     |some o=>
      rw[ho]at hy;cases hy;exact s2 o ho
    have e3:=xm (bs m0+C) _ _ WM v1 v2;have sv:=qK (by omega) v1 v2;have es:nX Ls x m0=x.set m0 (FM.gI (FM.fZ (FM.c7 rs m0 x (-1))) (FM.gF (FM.c7 rs m0 x 1))):=by unfold nX;rw[eD]
    have as:=Au cq Cg;have n5:∀o:Option Rat,FY 9 (iK o)=true:=fun o=>by cases o<;>rfl
    generalize FM.fZ (FM.c7 rs m0 x (-1))=o1 at *;generalize FM.gF (FM.c7 rs m0 x 1)=o2 at *;have Wm:lE (x.map qD).length (m0:Int)=some m0:=by
     unfold L2.lE;rw[if_pos (by omega),if_pos (by rw[length_map];omega),toNat_natCast]
    refine⟨[(4,nat m0)],rfl,?_⟩;dsimp!;refine⟨[some (.a7 (.list (Ls.map cq))),some (.a7 (qD t)),some (.a7 (.int (n:Int))),some (.own ((x.map qD).set m0 (qD (FM.gI o1 o2)))),some (.a7 (nat m0)),some (.a7 (iK o1)),some (.a7 (iK o2))],?_,⟨_,_,_,by rw[es,List.map_set]⟩,?_⟩
    ·rw[ak (af:=[some (.a7 (.list (Ls.map cq))),some (.a7 (qD t)),some (.a7 (.int (n:Int))),some (.own (x.map qD)),some (.a7 (nat m0)),some (.a7 (iK o1)),x6]) (by dsimp![xW,as,t1,e1,n5])];rw[ak (af:=[some (.a7 (.list (Ls.map cq))),some (.a7 (qD t)),some (.a7 (.int (n:Int))),some (.own (x.map qD)),some (.a7 (nat m0)),some (.a7 (iK o1)),some (.a7 (iK o2))]) (by dsimp![xW,as,t2,e2,n5])];dsimp![vp,e3,qL,Wm]
    ·obtain⟨C',zY,zX⟩:=hC.set sv (m:=m0) (by omega) (j9 m0 (by omega));refine⟨m0,C',rfl,by omega,by rw[es,length_set];exact uE,fun c hc=>?_,by rw[es];exact zX,qc bs m0 zY hO.2⟩;rw[es,FM.jF (by omega),if_neg (by omega)];exact j9 c (by omega)
  ·rintro af ⟨x4,x5,x6,rfl⟩;rw[BK];have eP:FM.dH Ls n t=(FM.dX Ls n (List.replicate n 0++[t])).take n:=rfl;have hy:=FK Ls n (List.replicate n 0++[t]);rw[rz]at hy;rw[eP];generalize FM.dX Ls n (List.replicate n 0++[t])=y at *;have ec:yy (.list (y.map qD)) none (some (n:Int))=some (.list ((y.take n).map qD)):=by
    show some (Dat.list (L3.cutD (y.map qD) none (some (n:Int))))=_;rw[xA (by rw[length_map];omega),map_take]
   dsimp![qF,oG,oH,qL,ec,fM]
 ·intro q hq;have h1:=FL hl hst n (s+1) (List.replicate n 0++[t]) (le_refl _) (rz n t) (sR n t) (vA ht) bF;obtain⟨C',zY,zX⟩:=h1;exact(zX.mem q (List.mem_of_mem_take hq)).up (by omega)
abbrev To (F:List Dat->Option Dat):Prop:=∀(bs:Nat->Nat) (n M b:Nat) (Ls:List (List FM.Row)) (rows:List FM.Row) (β:Rat),Ls.length=n+1->Ls[n]?=some rows->gZ M b rows->1<=b->b<=1900000->(∀i,i<n->1<=bs i/\∃rs,Ls[i]?=some rs/\gZ M (bs i) rs)->n+1<M->M<=900->n<=90->SR b β->qd bs n (b+b+3+1)->
 F [.list (Ls.map cq),qD β]=some (.tuple ((FM.dH Ls n (FM.eC n rows β)).map qD))/\∀q∈FM.dH Ls n (FM.eC n rows β),SR (BM bs n (b+b+3+1)+1) q
def Km (β:Rat):Option Rat->Rat
 |none=>β
 |some l=>if l<β then β else l
theorem Jq(T:TX P K mg){Fo:List Dat->Option Dat}(km:Dn P w K mg base 47 "upper_end" ["stages"] 1 Fu)(hU:Ay 1 Fu)(lD:Dn P w K mg base 47 "opposite_end" ["stages"] 1 Fo)(hO:Ay (-1) Fo)(ji:Dn P w K mg base 47 "turned_number_of" ["end"] 1 Ft)(hT:Td Ft)(pf:Dn P w K mg base 47 "number_of" ["end"] 1 Fn)(hN:Tu Fn)(tL:Dn P w K mg base 47 "between" ["least","greatest"] 2 Fb)(xm:Uc Fb)(mW:Dn P w K mg base 47 "below" ["a","b"] 2 fJ)(HL:Dn P w K mg base 47 "point_of" ["stages","number"] 2 Fp)(hP:Tj Fp)(U:FnAt K mg "point_beyond" (top 35) ["stages","bound"]):
  ∃F,Dn P w K mg base 48 "point_beyond" ["stages","bound"] 2 F/\To F:=by
 refine⟨_,cG ["stages","bound","least"] U fun nd _ _ _ _ _ _ _ hr=>
  (ae (aB 2 nd (az ji hr (a6 (az lD hr (a6 (a5 0) a9)) a9 (hs:=aX))))
  (ae (aT (cC (cS (dk (a5 2) cz) (dj (bf (az mW hr (a6 (a5 2) (a6 (a5 1) a9))))))) (ag (aB 2 nd (a5 1))) aL)
  (ag (aq (az HL hr (a6 (a5 0) (a6 (az tL hr (a6 (a5 2) (a6 (az pf hr (a6 (az km hr (a6 (a5 0) a9)) a9 (hs:=aX))) a9 (hs:=aX)))) a9 (hs:=aX)))))))),?_⟩
 intro bs n M b Ls rows β hl hn hR hb Ww hst Sx Cq rY dt bF;have eu:=hU b n M Ls rows hb hl hn hR (by omega) Cq rY (by omega);have eo:=hO b n M Ls rows hb hl hn hR (by omega) Cq rY (by omega);have s1:∀t,FM.endOf n rows 1=some t->SR b t.2.1:=fun t h=>(mK (.inl rfl) hR h).1;have s2:∀t,FM.endOf n rows (-1)=some t->SR b t.2.1:=fun t h=>(mK (.inr rfl) hR h).1;have e1:=hT b (FM.endOf n rows (-1)) (by omega) s2;have e2:=hN (FM.endOf n rows 1);have bT:FM.eC n rows β=FM.gI (some (Km β (FM.fZ (FM.endOf n rows (-1))))) (FM.gF (FM.endOf n rows 1)):=by
  unfold FM.eC;cases FM.fZ (FM.endOf n rows (-1))<;>rfl
 have v2:∀y,FM.gF (FM.endOf n rows 1)=some y->SR b y:=fun y hy=>by
  cases ho:FM.endOf n rows 1 with
  |none=>rw[ho]at hy;cases hy
  |some o=>
   rw[ho]at hy;cases hy;exact s1 o ho
 have v1:∀y,FM.fZ (FM.endOf n rows (-1))=some y->SR b y:=fun y hy=>by
  cases ho:FM.endOf n rows (-1)with
  |none=>rw[ho]at hy;cases hy
  |some o=>
   rw[ho]at hy;cases hy;exact iM (s2 o ho)
 rw[bT];generalize FM.gF (FM.endOf n rows 1)=o2 at *;generalize FM.fZ (FM.endOf n rows (-1))=o1 at *;have key:∃l:Rat,SR b l/\Km β o1=l/\∀g,dO (kv (iw (cc (L3.f2 ka (aH 2) (fC .none))) (iR (iS 2 fJ (aU (aH 2) (aU (aH 1) bS))))) (ik 2 (aH 1)) iA) g [some (.a7 (.list (Ls.map cq))),some (.a7 (qD β)),some (.a7 (iK o1))]=g [some (.a7 (.list (Ls.map cq))),some (.a7 (qD β)),some (.a7 (qD l))]:=by
  cases o1 with
  |none=>exact⟨β,dt,rfl,fun g=>by rw[ak (af:=[some (.a7 (.list (Ls.map cq))),some (.a7 (qD β)),some (.a7 (qD β))]) (by simp![iK,jx])]⟩
  |some l=>
   have sl:=v1 l rfl;have e3:=lZ sl dt (by omega) (by omega);have eq:iK (some l)=qD l:=rfl;rw[eq];by_cases c:l<β
   ·rw[decide_eq_true c]at e3;exact⟨β,dt,if_pos c,fun g=>by rw[ak (af:=[some (.a7 (.list (Ls.map cq))),some (.a7 (qD β)),some (.a7 (qD β))]) (by simp![uw,e3])]⟩
   ·rw[decide_eq_false c]at e3;exact⟨l,sl,if_neg c,fun g=>by rw[ak (af:=[some (.a7 (.list (Ls.map cq))),some (.a7 (qD β)),some (.a7 (qD l))]) (by simp![uw,e3])]⟩
 obtain⟨l,sl,el,hg⟩:=key;rw[el];have e3:=xm b (some l) o2 Ww (fun x hx=>by cases hx;exact sl) v2;have sb:SR (b+b+3) (FM.gI (some l) o2):=qK (by omega) (fun x hx=>by cases hx;exact sl) v2;obtain⟨e4,e5⟩:=hP bs n M (b+b+3) Ls _ hl hst Sx Cq rY sb bF;refine⟨?_,e5⟩;have eq:iK (some l)=qD l:=rfl;rw[eq]at e3;refine bP ?_;simp!;rw[ak (af:=[some (.a7 (.list (Ls.map cq))),some (.a7 (qD β)),some (.a7 (iK o1))]) (by dsimp![eo,e1])];rw[hg];dsimp![eu,e2,e3,e4]
theorem Jp(T:TX P K mg){a4:Addr}(Z4:TC K mg "ZERO_follows" [.int 0,.int 1] a4)(jv:Dn P w K mg base 43 "minus" ["a","b"] 2 fm)(U:FnAt K mg "halves" (top 38) ["line"]):
  ∃F,Dn P w K mg base 44 "halves" ["line"] 1 F/\∀(c:Nat) (o:FM.Ol),c<=4000000->o.2.1.length<=900->(∀q∈o.2.1,SR c q)->SR c o.2.2->F [aA o]=some (.list [aA (.le,o.2.1,o.2.2),aA (.le,o.2.1.map (fun q=>0-q),0-o.2.2)]):=by
 refine⟨_,cG ["line","parts"] U fun nd _ _ _ _ _ _ _ hr=>
  (ae (aB 1 nd (gW T.tuple (a6 (cI (gV rfl (jT (N':=["part"])) (ah (a5 0) a8) (fun _ _ _ _=>(ar 0 (show(["part"]:List Str).Nodup by decide +kernel))) (fun _ _ _ _=>dm) (fun _ _ _ _=>(az jv hr (a6 (c9 Z4.mg Z4.tup) (a6 (a5 0) a9)))) (d4 rfl))) a9)))
  (ag (aq (ij (a6 (bo (k:=0) (a6 aY (a6 (ah (a5 0) a8) (a6 (ah (a5 0) a8) a9 (hs:=aJ)) (hs:=aJ)))) (a6 (bo (k:=0) (a6 aY (a6 (a5 1) (a6 (az jv hr (a6 (c9 Z4.mg Z4.tup) (a6 (ah (a5 0) a8) a9 (hs:=aJ)))) a9 (hs:=aX))))) a9 (hs:=dB)) (hs:=dB)))))),?_⟩
 intro c o hc hl hq hb;have z3:3<=sizeLine:=sz (by decide);have z2:2<=sizeLine:=sz (by decide);have zl:o.2.1.length<sizeLine:=lt_of_lt_of_le (show o.2.1.length<1000 by omega) (sz (by decide));have o1:bz (aA o) (.int 1)=some (.tuple (o.2.1.map qD)):=rfl;have o2:bz (aA o) (.int 2)=some (qD o.2.2):=rfl;have ec:cf (aName 0) gL (iS 2 fm (aU (fC (.tuple [.int 0,.int 1])) (aU (aH 0) bS))) [none] (o.2.1.map qD)=some ((o.2.1.map fun q=>0-q).map qD):=by
  refine cZ _ _ (by rw[length_map,length_map,length_map]) fun n d o' h1 h2=>?_;rw[getElem?_map]at h1 h2;rw[getElem?_map]at h2;cases hz:o.2.1[n]? with
  |none=>rw[hz]at h1;cases h1
  |some q=>
   rw[hz]at h1 h2;cases h1;cases h2;refine⟨[(0,qD q)],rfl,?_⟩;have em:fm [.tuple [.int 0,.int 1],qD q]=some (qD (0-q)):=lY (kr (c:=1) (by decide)) (hq q (mem_of_getElem? hz)) (by decide) hc;simp![em]
 have em:fm [.tuple [.int 0,.int 1],qD o.2.2]=some (qD (0-o.2.2)):=lY (kr (c:=1) (by decide)) hb (by decide) hc;have ks:aN .le="<=":=rfl;dsimp![o1,o2,gS,length_map,zl,ec,em,fM,z2,z3,ks];rfl
abbrev TL (F:List Dat->Option Dat):Prop:=∀(c:Nat) (s:Bool) (p:List Rat) (β:Rat) (kt:Bool) (v:Rat),c<=4000000->SR c β->SR c v->F [aA (if s=true then .lt else .le,p,β),.str (eX kt),qD v]=some (.bool (FM.gn s β kt v))
theorem RH(T:TX P K mg)(mW:Dn P w K mg base 43 "below" ["a","b"] 2 fJ)(U:FnAt K mg "is_kept" (top 39) ["line","kind","bound"]):
  ∃F,Dn P w K mg base 44 "is_kept" ["line","kind","bound"] 3 F/\TL F:=by
 refine⟨_,cG ["line","kind","bound"] U fun nd _ _ _ _ _ _ _ hr=>
  (ae (aT (bZ hr (a5 2) (ah (a5 0) a8)) (ag (aq (qb (gh hr (ah (a5 0) a8) aY) (dG (gh hr (a5 1) aY))))) aL)
  (ag (aq (az mW hr (a6 (a5 2) (a6 (ah (a5 0) a8) a9 (hs:=aJ))))))),?_⟩
 intro c s p β kt v hc dt hv;have e1:=oY v β;have e2:=lZ hv dt hc hc;have o0:bz (aA (if s=true then .lt else .le,p,β)) (.int 0)=some (.str (eX s)):=by cases s<;>rfl
 have o2:bz (aA (if s=true then .lt else .le,p,β)) (.int 2)=some (qD β):=rfl;have k1:cU (.str (eX s)) (.str "<=")=some (.bool (!s)):=by cases s<;>rfl
 have k2:cU (.str (eX kt)) (.str "<")=some (.bool kt):=by cases kt<;>rfl
 have eK:FM.gn s β kt v=if v=β then(!s || kt)else decide (v<β):=rfl;rw[eK];generalize aA (if s=true then .lt else .le,p,β)=dl at *;generalize eX s=a at *;generalize eX kt=c' at *;by_cases c1:v=β
 ·rw[decide_eq_true c1]at e1;rw[if_pos c1];cases s<;>cases kt<;>dsimp![o0,o2,e1,k1,k2]<;>rfl
 ·rw[decide_eq_false c1]at e1;rw[if_neg c1];dsimp![o0,o2,e1,e2]
structure Q9 (c e n k:Nat):Prop where
 c1:1<=c
 c3:c<=3000000
 e4:e<=4000000
 n5:n<=50
 k1:k<=100
 bt:FM.bt (c+e) n<=1900000
 cb:FM.cb (k+1) n<sizeLine
 pt:qd (FM.bt (c+e)) n (FM.bt (c+e) n+FM.bt (c+e) n+3+1)
abbrev jN (h:Bool×List Rat):Dat:=if h.1=true then .tuple [.str "follows",.list (h.2.map qD)]else .tuple [.str "breaks",.tuple (h.2.map qD)]
structure tE (c e:Nat) (p:List Rat) (os:List FM.Ol):Prop where
 sz:Q9 c e p.length os.length
 sp:∀q∈p,SR c q
 dp:fk p<2^e
 ok:∀o∈os,w6 c e p.length o
theorem tV(h:tE c e p os):∀i,i<=p.length->∃rs,(FM.bH p os)[i]?=some rs/\gZ (p.length+2+os.length) (FM.bt (c+e) i) rs:=
 fun i hi=>EZ _ p.length 0 1 (c+e) _ (A7 h.sz.c1 h.sp h.dp h.ok) i hi
theorem Nn(p:List Rat)(os:List FM.Ol):(FM.bH p os).length=p.length+1:=vt _ _ _ _ _
abbrev TQ (F:List Dat->Option Dat):Prop:=∀(c e:Nat) (s:Bool) (p:List Rat) (β:Rat) (os:List FM.Ol),tE c e p os->SR (FM.bt (c+e) p.length) β->F [aA (if s=true then .lt else .le,p,β),.list (os.map aA)]=some (jN (FM.aZ s p β os))
variable {Fs:List Dat->Option Dat}
theorem PN(T:TX P K mg){Fk:List Dat->Option Dat}(Es:Dn P w K mg base 49 "stages_of" ["parts","others"] 2 Fs)(hS:Tg Fs)(Ql:Dn P w K mg base 49 "never" ["stages"] 1 Fn)(hN:Tt Fn)(km:Dn P w K mg base 49 "upper_end" ["stages"] 1 Fu)(hU:Ay 1 Fu)(JH:Dn P w K mg base 49 "is_kept" ["line","kind","bound"] 3 Fk)(hK:TL Fk)(xR:Dn P w K mg base 49 "point_beyond" ["stages","bound"] 2 Fb)(xm:To Fb)(U:FnAt K mg "half_follows" (top 40) ["line","others"]):
  ∃F,Dn P w K mg base 50 "half_follows" ["line","others"] 2 F/\TQ F:=by
 refine⟨_,cG ["line","others","stages","paper","top"] U fun nd _ _ _ _ _ _ _ hr=>
  (ae (aB 2 nd (az Es hr (a6 (ah (a5 0) a8) (a6 (a5 1) a9) (hs:=aJ))))
  (ae (aB 3 nd (az Ql hr (a6 (a5 2) a9)))
  (ae (aT (dk (a5 3) cz) (ae (aB 4 nd (az km hr (a6 (a5 2) a9)))
  (ae (aT (cC (cS (dk (a5 4) cz) (dj (cN (bf (az JH hr (a6 (a5 0) (a6 (ah (a5 4) a8) (a6 (ah (a5 4) a8) a9 (hs:=aJ)) (hs:=aJ))))))))) (ag (aq (bo (k:=0) (a6 aY (a6 (az xR hr (a6 (a5 2) (a6 (ah (a5 0) a8) a9 (hs:=aJ)))) a9 (hs:=aX)))))) aL)
  (ag (aB 3 nd (ah (a5 4) a8))))) aL)
  (ag (aq (bo (k:=0) (a6 aY (a6 (a5 3) a9)))))))),?_⟩
 intro c e s p β os hL dt;have z2:2<=sizeLine:=sz (by decide);have S:=hL.sz;have KN:1<=FM.bt (c+e) p.length:=le_trans (show 1<=c+e by have:=S.c1;omega) (FM.p6 _ _);have pC:=S.bt;have Wb:=S.n5;have hk1:=S.k1;have eS:=hS c e p os S.c1 S.c3 S.e4 S.n5 S.k1 hL.sp hL.dp hL.ok (by omega) S.cb;obtain⟨rows,nk,fR⟩:=tV hL p.length (le_refl _);have hst:∀i,i<p.length->1<=FM.bt (c+e) i/\∃rs,(FM.bH p os)[i]?=some rs/\gZ (p.length+2+os.length) (FM.bt (c+e) i) rs:=fun i hi=>
  ⟨le_trans (show 1<=c+e by have:=S.c1;omega) (FM.p6 _ _),tV hL i (Nat.le_of_lt hi)⟩
 have hlen:=Nn p os;have eN:=hN _ p.length _ (FM.bH p os) rows KN hlen nk fR (by omega) (by omega) (by omega) pC;have eU:=hU _ p.length _ (FM.bH p os) rows KN hlen nk fR (by omega) (by omega) (by omega) (by omega);obtain⟨eB,_⟩:=xm (FM.bt (c+e)) p.length _ _ (FM.bH p os) rows β hlen nk fR KN pC hst (by omega) (by omega) (by omega) dt S.pt;have uG:FM.aG p os=rows:=by unfold FM.aG;rw[getD_eq_getElem?_getD,nk];rfl
 have hh:FM.aZ s p β os=(match FM.never p.length rows with
  |some w=>(true,w)
  |none=>match FM.endOf p.length rows 1 with
   |none=>(false,FM.dH (FM.bH p os) p.length (FM.eC p.length rows β))
   |some t=>if FM.gn s β t.1 t.2.1=true then(true,t.2.2)else(false,FM.dH (FM.bH p os) p.length (FM.eC p.length rows β))):=by
  unfold FM.aZ FM.beyond;cases uG;cases FM.never p.length (FM.aG p os)with
  |some w=>rfl
  |none=>cases FM.endOf p.length (FM.aG p os) 1<;>rfl
 rw[hh];generalize FM.dH (FM.bH p os) p.length (FM.eC p.length rows β)=pt at *;have o1:bz (aA (if s=true then .lt else .le,p,β)) (.int 1)=some (.tuple (p.map qD)):=rfl;have o2:bz (aA (if s=true then .lt else .le,p,β)) (.int 2)=some (qD β):=rfl;have WU:∀kt v,SR (FM.bt (c+e) p.length) v->Fk [aA (if s=true then .lt else .le,p,β),.str (eX kt),qD v]=some (.bool (FM.gn s β kt v)):=fun kt v hv=>hK _ s p β kt v (by omega) dt hv;have sE:∀t,FM.endOf p.length rows 1=some t->SR (FM.bt (c+e) p.length) t.2.1:=fun t h=>(mK (.inl rfl) fR h).1;generalize aA (if s=true then .lt else .le,p,β)=dl at *;refine bP ?_;simp!;rw[ak (af:=[some (.a7 (dl)),some (.a7 (.list (os.map aA))),some (.a7 (.list ((FM.bH p os).map cq))),none,none]) (by dsimp![o1,eS])];rw[ak (af:=[some (.a7 (dl)),some (.a7 (.list (os.map aA))),some (.a7 (.list ((FM.bH p os).map cq))),some (.a7 (mw (FM.never p.length rows))),none]) (by dsimp![eN])];cases hnv:FM.never p.length rows with
 |some ws=>
  have e0:mw (some ws)=.list (ws.map qD):=rfl;have n0:ka (.list (ws.map qD)) .none=some (.bool false):=rfl;rw[e0];rw[ak (af:=[some (.a7 (dl)),some (.a7 (.list (os.map aA))),some (.a7 (.list ((FM.bH p os).map cq))),some (.a7 (.list (ws.map qD))),none]) (by dsimp![n0])];dsimp![z2];rfl
 |none=>
  have e0:mw none=.none:=rfl;rw[e0];cases uI:FM.endOf p.length rows 1 with
  |none=>
   rw[uI]at eU;have eb:de none=.none:=rfl;rw[eb]at eU;dsimp![jx,eU,o2,eB,z2];rfl
  |some t=>
   rw[uI]at eU;have t0:bz (de (some t)) (.int 0)=some (.str (eX t.1)):=rfl;have t1:bz (de (some t)) (.int 1)=some (qD t.2.1):=rfl;have t2:bz (de (some t)) (.int 2)=some (.list (t.2.2.map qD)):=rfl;have eK:=WU t.1 t.2.1 (sE t uI);cases hk:FM.gn s β t.1 t.2.1 with
   |false=>
    rw[hk]at eK;rw[show(match some t with|none=>(false,pt)|some t=>if FM.gn s β t.1 t.2.1=true then(true,t.2.2)else(false,pt))=((false,pt):Bool×List Rat) by show(if FM.gn s β t.1 t.2.1=true then(true,t.2.2)else(false,pt))=_;rw[hk];rfl]
    dsimp![jx,lN,eU,t0,t1,eK,o2,eB,z2];rfl
   |true=>
    rw[hk]at eK;rw[show(match some t with|none=>(false,pt)|some t=>if FM.gn s β t.1 t.2.1=true then(true,t.2.2)else(false,pt))=((true,t.2.2):Bool×List Rat) by show(if FM.gn s β t.1 t.2.1=true then(true,t.2.2)else(false,pt))=_;rw[hk];rfl]
    rw[ak (af:=[some (.a7 (dl)),some (.a7 (.list (os.map aA))),some (.a7 (.list ((FM.bH p os).map cq))),some (.a7 (.list (t.2.2.map qD))),some (.a7 (de (some t)))]) (by dsimp![jx,lN,eU,t0,t1,t2,eK])];dsimp![z2];rfl
def uK (k:FM.Kn) (p:List Rat) (β:Rat) (os:List FM.Ol):Dat:=match k with
 | .lt=>jN (FM.aZ true p β os)
 | .le=>jN (FM.aZ false p β os)
 | .eq=>if(FM.aZ false p β os).1=true then(if(FM.aZ false (p.map fun q=>0-q) (0-β) os).1=true then .tuple [.str "follows",.tuple [.list ((FM.aZ false p β os).2.map qD),.list ((FM.aZ false (p.map fun q=>0-q) (0-β) os).2.map qD)]]else jN (FM.aZ false (p.map fun q=>0-q) (0-β) os))else jN (FM.aZ false p β os)
theorem tE.neg(h:tE c e p os):tE c e (p.map fun q=>0-q) os:=by
 refine⟨by rw[length_map];exact h.sz,fun q hq=>?_,by rw[rL];exact h.dp,by rw[length_map];exact h.ok⟩;obtain⟨x,hx,rfl⟩:=mem_map.mp hq;exact iM (h.sp x hx)
variable {gt:Dat->Option cW} {gb:ax->Option Fl} {d:Dat} {af:ax} {as:cW}
theorem kE(h1:gt d=some as)(h2:gb (setG Γ as)=some (.nx af)):forL gt gb (d::ds) Γ=forL gt gb ds af:=by
 show(gt d).bind _=_;rw[h1];show(gb (setG Γ as)).bind _=_;rw[h2];rfl
theorem Cz{v:Dat}(h1:gt d=some as)(h2:gb (setG Γ as)=some (.rt v)):forL gt gb (d::ds) Γ=some (.rt v):=by
 show(gt d).bind _=_;rw[h1];show(gb (setG Γ as)).bind _=_;rw[h2];rfl
theorem k7{f:aw->Option Dat}(hf:f (bx Γ)=some d)(hi:cJ d=some ds):nK gt gb f Γ=forL gt gb ds Γ:=by
 unfold nK;rw[hf];show(cJ d).bind _=_;rw[hi];rfl
theorem yC{g1 g2:ax->Option Fl}(h:g1 Γ=some (.rt d)):dO g1 g2 Γ=some (.rt d):=by
 unfold dO;rw[h];rfl
abbrev XH (F:List Dat->Option Dat):Prop:=∀(c:Nat) (o:FM.Ol),c<=4000000->o.2.1.length<=900->(∀q∈o.2.1,SR c q)->SR c o.2.2->F [aA o]=some (.list [aA (.le,o.2.1,o.2.2),aA (.le,o.2.1.map (fun q=>0-q),0-o.2.2)])
abbrev TR (F:List Dat->Option Dat):Prop:=∀(c e:Nat) (o:FM.Ol) (os:List FM.Ol),tE c e o.2.1 os->SR (FM.bt (c+e) o.2.1.length) o.2.2->F [aA o,.list (os.map aA)]=some (uK o.1 o.2.1 o.2.2 os)
variable {Fh:List Dat->Option Dat}
theorem Hl(T:TX P K mg){Fv:List Dat->Option Dat}(pJ:Dn P w K mg base 50 "half_follows" ["line","others"] 2 Fh)(hH:TQ Fh)(MW:Dn P w K mg base 50 "halves" ["line"] 1 Fv)(hV:XH Fv)(U:FnAt K mg "follows" (top 41) ["line","others"]):
  ∃F,Dn P w K mg base 51 "follows" ["line","others"] 2 F/\TR F:=by
 refine⟨_,cG ["line","others","papers","half","verdict"] U fun nd _ _ _ _ _ _ _ hr=>
  (ae (aT (d5 hr (ah (a5 0) a8) aY) (ag (aq (az pJ hr (a6 (a5 0) (a6 (a5 1) a9))))) aL)
  (ae (mj 2 nd (iJ a9))
  (ae (dD PassesOwn.never rfl (az MW hr (a6 (a5 0) a9)) (ar 3 nd)
  (ae (aB 4 nd (az pJ hr (a6 (a5 3) (a6 (a5 1) a9))))
  (ae (aT (bZ hr (ah (a5 4) a8) aY) (ag (aq (a5 4))) aL)
  (ag (jl 2 (ah (a5 4) a8))))))
  (ag (aq (bo (k:=0) (a6 aY (a6 (gW T.tuple (a6 (a5 2) a9)) a9 (hs:=aX))))))))),?_⟩
 rintro c e ⟨k,p,β⟩ os hL dt;dsimp only at hL dt ⊢;have z2:2<=sizeLine:=sz (by decide);have z0:0<=sizeLine:=zero_le _;have RQ:0<sizeLine:=lt_of_lt_of_le (show 0<1000 by decide) (sz (by decide));have Vp:1<sizeLine:=lt_of_lt_of_le (show 1<1000 by decide) (sz (by decide));have S:=hL.sz;have pC:=S.bt;have Wb:=S.n5;have xi:c<=FM.bt (c+e) p.length:=le_trans (le_add_right _ _) (FM.p6 _ _);have o0:bz (aA (k,p,β)) (.int 0)=some (.str (aN k)):=rfl;cases k with
 |lt=>
  have e1:=hH c e true p β os hL dt;have e1:Fh [aA (.lt,p,β),.list (os.map aA)]=some (uK .lt p β os):=e1;have k1:gk (.str (aN .lt)) (.str "=")=some (.bool true):=rfl;dsimp![o0,k1,e1]
 |le=>
  have e1:=hH c e false p β os hL dt;have e1:Fh [aA (.le,p,β),.list (os.map aA)]=some (uK .le p β os):=e1;have k1:gk (.str (aN .le)) (.str "=")=some (.bool true):=rfl;dsimp![o0,k1,e1]
 |eq=>
  have e1:=hH c e false p β os hL dt;have e1:Fh [aA (.le,p,β),.list (os.map aA)]=some (jN (FM.aZ false p β os)):=e1;have e2:=hH c e false (p.map fun q=>0-q) (0-β) os hL.neg (by rw[length_map];exact iM dt);have e2:Fh [aA (.le,p.map fun q=>0-q,0-β),.list (os.map aA)]=some (jN (FM.aZ false (p.map fun q=>0-q) (0-β) os)):=e2;have e3:=hV (FM.bt (c+e) p.length) (.eq,p,β) (by omega) (by show p.length<=900;omega) (fun q hq=>(hL.sp q hq).up xi) dt;have e3:Fv [aA (.eq,p,β)]=some (.list [aA (.le,p,β),aA (.le,p.map fun q=>0-q,0-β)]):=e3;have k1:gk (.str (aN .eq)) (.str "=")=some (.bool false):=rfl;have eF:uK .eq p β os=if(FM.aZ false p β os).1=true then(if(FM.aZ false (p.map fun q=>0-q) (0-β) os).1=true then .tuple [.str "follows",.tuple [.list ((FM.aZ false p β os).2.map qD),.list ((FM.aZ false (p.map fun q=>0-q) (0-β) os).2.map qD)]]else jN (FM.aZ false (p.map fun q=>0-q) (0-β) os))else jN (FM.aZ false p β os):=rfl;rw[eF];generalize FM.aZ false p β os=h1 at *;generalize FM.aZ false (p.map fun q=>0-q) (0-β) os=h2 at *;generalize aA (.le,p,β)=d1 at *;generalize aA (.le,p.map fun q=>0-q,0-β)=d2 at *;generalize aA (.eq,p,β)=dl at *;have kB:cU (.str "breaks") (.str "breaks")=some (.bool true):=rfl;have kF:cU (.str "follows") (.str "breaks")=some (.bool false):=rfl;refine bP ?_;simp!;rw[ak (af:=[some (.a7 (dl)),some (.a7 (.list (os.map aA))),none,none,none]) (by dsimp![o0,k1])];rw[ak (af:=[some (.a7 (dl)),some (.a7 (.list (os.map aA))),some (.own ([])),none,none]) (by dsimp![z0])];have hi:cJ (.list [d1,d2])=some [d1,d2]:=rfl;have it:∀x:Bool×List Rat,x.1=true->jN x=.tuple [.str "follows",.list (x.2.map qD)]:=fun x h=>if_pos h;have Ku:∀x:Bool×List Rat,¬x.1=true->jN x=.tuple [.str "breaks",.tuple (x.2.map qD)]:=fun x h=>if_neg h;have a0:∀(s:Str) (d:Dat),bz (.tuple [.str s,d]) (.int 0)=some (.str s):=fun _ _=>rfl;have a1:∀(s:Str) (d:Dat),bz (.tuple [.str s,d]) (.int 1)=some d:=fun _ _=>rfl;by_cases c1:h1.1=true
  ·rw[if_pos c1];rw[it h1 c1]at e1;by_cases c2:h2.1=true
   ·rw[if_pos c2];rw[it h2 c2]at e2;rw[ak (af:=[some (.a7 (dl)),some (.a7 (.list (os.map aA))),some (.own ([.list (h1.2.map qD),.list (h2.2.map qD)])),some (.a7 (d2)),some (.a7 (.tuple [.str "follows",.list (h2.2.map qD)]))]) (by
     rw[k7 (d:=.list [d1,d2]) (by dsimp![e3]) hi];rw[kE (as:=[(3,d1)]) (af:=[some (.a7 (dl)),some (.a7 (.list (os.map aA))),some (.own ([.list (h1.2.map qD)])),some (.a7 (d1)),some (.a7 (.tuple [.str "follows",.list (h1.2.map qD)]))]) rfl (by dsimp![e1,a0,a1,kF,RQ])];rw[kE (as:=[(3,d2)]) (af:=[some (.a7 (dl)),some (.a7 (.list (os.map aA))),some (.own ([.list (h1.2.map qD),.list (h2.2.map qD)])),some (.a7 (d2)),some (.a7 (.tuple [.str "follows",.list (h2.2.map qD)]))]) rfl (by dsimp![e2,a0,a1,kF,Vp])];rfl)]
    dsimp![fM,z2]
   ·rw[if_neg c2];have e2':=e2;rw[Ku h2 c2]at e2;rw[Ku h2 c2];refine yC ?_;rw[k7 (d:=.list [d1,d2]) (by dsimp![e3]) hi];rw[kE (as:=[(3,d1)]) (af:=[some (.a7 (dl)),some (.a7 (.list (os.map aA))),some (.own ([.list (h1.2.map qD)])),some (.a7 (d1)),some (.a7 (.tuple [.str "follows",.list (h1.2.map qD)]))]) rfl (by dsimp![e1,a0,a1,kF,RQ])];rw[Cz (as:=[(3,d2)]) (v:=.tuple [.str "breaks",.tuple (h2.2.map qD)]) rfl (by dsimp![e2,a0,a1,kB])]
  ·rw[if_neg c1];rw[Ku h1 c1]at e1;rw[Ku h1 c1];refine yC ?_;rw[k7 (d:=.list [d1,d2]) (by dsimp![e3]) hi];rw[Cz (as:=[(3,d1)]) (v:=.tuple [.str "breaks",.tuple (h1.2.map qD)]) rfl (by dsimp![e1,a0,a1,kB])]
theorem Jk(T:TX P K mg)(jW:Dn P w K mg base 41 "_law_make" ["n","d"] 2 jV)(U:FnAt K mg "_law_times" (top 48) ["a","b"]):Dn P w K mg base 42 "_law_times" ["a","b"] 2 jU:=by
 obtain⟨f,fd,U,hm,hB⟩:=U.ex;have nd:(["a","b"]:List Str).Nodup:=by decide +kernel
 refine ib U hm hB (N:=["a","b"]) ⟨rfl,rfl,rfl,by decide +kernel,rfl,by decide +kernel,by decide +kernel⟩ rfl (fun bG A outer s H E hr=>
  (ag (aq (az jW hr (a6 (bK (ah (a5 0) a8) (ah (a5 1) a8)) (a6 (bK (ah (a5 0) a8) (ah (a5 1) a8)) a9 (hs:=dC)) (hs:=dC)))))) ?_
 intro ds d hl hF;obtain⟨p,q,r,s,rfl,g1,g2,e⟩:=fG hF;have z:=mul_pos g1.pos g2.pos;cases e;simp![lh,l9,mulM g1.mp g2.mp,mulM g1.mq g2.mq,mz z (g1.mq.mul g2.mq)]
theorem Jn(T:TX P K mg)(U:FnAt K mg "_law_below" (top 49) ["a","b"]):Dn P w K mg base 41 "_law_below" ["a","b"] 2 fJ:=by
 obtain⟨f,fd,U,hm,hB⟩:=U.ex;have nd:(["a","b"]:List Str).Nodup:=by decide +kernel
 refine ib U hm hB (N:=["a","b"]) ⟨rfl,rfl,rfl,by decide +kernel,rfl,by decide +kernel,by decide +kernel⟩ rfl (fun bG A outer s H E hr=>
  (ag (aq (yO (bK (ah (a5 0) a8) (ah (a5 1) a8)) (bK (ah (a5 1) a8) (ah (a5 0) a8)))))) ?_
 intro ds d hl hF;obtain⟨p,q,r,s,rfl,g1,g2,e⟩:=fG hF;cases e;simp![lh,l9,mulM g1.mp g2.mq,mulM g2.mp g1.mq,d6]
abbrev v7:=FM.Ol×Rat
abbrev NT (p:v7):Dat:=.tuple [aA p.1,qD p.2]
theorem vg:∀(os:List FM.Ol) (ws:List Rat),dz (os.map aA) (ws.map qD)=(os.zip ws).map NT
 |[],ws=>by simp[dz]
 |x::xs,[]=>by simp[dz]
 |x::xs,y::ys=>by simp only[map_cons,dz,zip_cons_cons,vg xs ys]
def dU (a:List Rat) (p:v7):List Rat:=zipWith (fun x q=>x+p.2*q) a (p.1.2.1++[p.1.2.2])
def jj (n:Nat) (l:List v7):List Rat:=l.foldl dU (List.replicate (n+1) 0)
structure uZ (D:Int) (u c j n:Nat) (a:List Rat):Prop where
 len:a.length=n+1
 nd:∀x∈a,∃N E:Int,E≠0/\N.natAbs<2^(u+(c+1)*(j+1))/\E.natAbs<=2^(c*j)/\x=(N:Rat)/((D*E:Int):Rat)
abbrev uV (D:Int) (u:Nat) (w:Rat):Prop:=∃W:Int,W.natAbs<2^u/\w=(W:Rat)/(D:Rat)
abbrev v8 (c n:Nat) (o:FM.Ol):Prop:=o.2.1.length=n/\(∀q∈o.2.1,SR c q)/\SR c o.2.2
variable {o:FM.Ol}
theorem C8(h:v8 c n o):∀q∈o.2.1++[o.2.2],SR c q:=fun q hq=>by
 rcases mem_append.mp hq with h'|h'
 ·exact h.2.1 q h'
 ·rw[mem_singleton.mp h'];exact h.2.2
theorem F5(q:Rat):q=(q.num:Rat)/((q.den:Int):Rat):=by
 have:((q.den:Int):Rat)=(q.den:Rat):=rfl;rw[this,<- Rat.mkRat_eq_div,mkRat_self]
variable {D:Int} {a:List Rat}
theorem Bm{w:Rat}(hD:D≠0)(h:uZ D u c j n a)(ho:v8 c n o)(hw:uV D u w):uZ D u c (j+1) n (dU a (o,w)):=by
 refine⟨?_,fun x hx=>?_⟩
 ·unfold dU;rw[length_zipWith,h.len,length_append,ho.1];exact min_self _
 ·obtain⟨y,hy,q,hq,rfl⟩:=jm (show x∈zipWith (fun x q=>x+w*q) a (o.2.1++[o.2.2])from hx);obtain⟨N,E,hE,hN,KR,rfl⟩:=h.nd y hy;obtain⟨W,hW,rfl⟩:=hw;have sq:=C8 ho q hq;have yp:=sh q;refine⟨N*(q.den:Int)+W*q.num*E,E*(q.den:Int),mul_ne_zero hE yp,?_,?_,?_⟩
  ·have h1:(N*(q.den:Int)).natAbs<2^(u+(c+1)*(j+1)+c):=cQ hN sq.dn;have h2:(W*q.num*E).natAbs<2^(u+(c+1)*(j+1)+c):=by
    have h3:=cQ hW sq.ln;rw[natAbs_mul];have p:=pow_pos (n:=c*j) (show 0<2 by decide);have h4:=lt_of_le_of_lt (mul_le_mul_left _ KR) (Nat.mul_lt_mul_of_pos_right h3 p);rw[<- pow_add]at h4;refine dR h4 ?_;rw[Nat.add_mul,one_mul,mul_add];omega
   have:=qM h1 h2;rw[show u+(c+1)*(j+1+1)=u+(c+1)*(j+1)+c+1 by rw[mul_add (c+1) (j+1) 1];omega];exact this
  ·rw[natAbs_mul,mul_add c j 1,mul_one,pow_add];exact mul_le_mul KR (Nat.le_of_lt sq.dn)
  ·have d1:((D:Int):Rat)≠0:=fun z=>hD (FM.bN.mp z);have d2:(((q.den:Int)):Rat)≠0:=fun z=>yp (FM.bN.mp z);have d3:((E:Int):Rat)≠0:=fun z=>hE (FM.bN.mp z);have e1:=F5 q;rw[Rat.intCast_add,intCast_mul,intCast_mul,intCast_mul,intCast_mul,intCast_mul,intCast_mul];conv=>lhs;rw[e1]
   generalize ((q.den:Int):Rat)=dd at *;generalize (q.num:Rat)=nn at *;grind
theorem Bl:uZ D u c 0 n (List.replicate (n+1) 0):=by
 refine⟨length_replicate,fun x hx=>⟨0,1,by decide,pow_pos (by decide),pow_pos (by decide),?_⟩⟩;rw[(mem_replicate.mp hx).2];have:((0:Int):Rat)=0:=rfl;rw[this];grind
variable {d:Nat}
theorem JS(hD:D≠0)(hd:D.natAbs<=2^d)(h:uZ D u c j n a):∀x∈a,SR (u+d+(c+1)*(j+1)) x:=fun x hx=>by
 obtain⟨N,E,hE,hN,KR,rfl⟩:=h.nd x hx;refine lQ (mul_ne_zero hD hE) (dR hN (by omega)) ?_;rw[natAbs_mul];have:=mul_le_mul hd KR;rw[<- pow_add]at this;refine lt_of_le_of_lt this (Nat.pow_lt_pow_right (by decide) ?_);rw[Nat.add_mul,one_mul,mul_add];omega
theorem JN{w:Rat}(hD:D≠0)(hd:D.natAbs<=2^d)(h:uV D u w):SR (u+d+1) w:=by
 obtain⟨W,hW,rfl⟩:=h;exact lQ hD (dR hW (by omega)) (lt_of_le_of_lt hd (Nat.pow_lt_pow_right (by decide) (by omega)))
theorem yo{D:Int}{u c n:Nat}(hD:D≠0):∀(l:List v7) (j:Nat) (a:List Rat),(∀p∈l,v8 c n p.1/\uV D u p.2)->uZ D u c j n a->uZ D u c (j+l.length) n (l.foldl dU a)
 |[],j,a,_,h=>h
 |p::l,j,a,hp,h=>by
  rw[foldl_cons,length_cons,show j+(l.length+1)=j+1+l.length by omega];exact yo hD l (j+1) _ (fun q hq=>hp q (mem_cons_of_mem _ hq)) (Bm hD h (hp p mem_cons_self).1 (hp p mem_cons_self).2)
theorem Aw{x:Rat}(h:xs[i]?=some x):bz (.list (xs.map qD)) (.int (0+(i:Int)))=some (qD x):=by
 rw[Int.zero_add];exact Au qD h
theorem yg{α β γ:Type}{f:α->β->γ}:∀{xs:List α} {ys:List β} {i:Nat} {z:γ},(zipWith f xs ys)[i]?=some z->∃x y,xs[i]?=some x/\ys[i]?=some y/\z=f x y
 |[],ys,i,z,h=>by simp at h
 |x::xs,[],i,z,h=>by simp at h
 |x::xs,y::ys,0,z,h=>by simp at h;exact⟨x,y,rfl,rfl,h.symm⟩
 |x::xs,y::ys,i+1,z,h=>by
  obtain⟨a,b,h1,h2,h3⟩:=yg (xs:=xs) (ys:=ys) (i:=i) (by simpa using h);exact⟨a,b,by simpa using h1,by simpa using h2,h3⟩
theorem LG(n:Nat)(h:n<=1000):ip [.int ((n:Int)+1)]=some (fO 0 (n+1)):=by
 have e:((n:Int)+1).toNat=n+1:=by omega
 rw[NB _ (by omega) (by omega),e]
variable {fi:aw->Option (List Dat)} {out:List Dat}
theorem xp{bh:List (Option Nat)}{ft:aw->Option Bool}{fe:aw->Option Dat}(h:fi ρ=some ds)(hl:ds.length<sizeLine)(hc:cf gt ft fe (dF bh ρ) ds=some out):fL (gS bh gt ft fe fi) ρ=some (.list out):=by
 unfold fL gS;rw[h,Option.bind_some,if_pos hl,hc];rfl
structure xJ (D:Int) (u d c n:Nat) (os:List FM.Ol) (ws:List Rat):Prop where
 D0:D≠0
 Dd:D.natAbs<=2^d
 ol:∀o∈os,v8 c n o
 wt:∀w∈ws,uV D u w
 sz:u+d+(c+1)*(os.length+1)<=3900000
 n1:n<=100
abbrev Te (F:List Dat->Option Dat):Prop:=∀(D:Int) (u d c n:Nat) (os:List FM.Ol) (ws:List Rat),xJ D u d c n os ws->F [.list (os.map aA),.list (ws.map qD),.int (n:Int)]=some (.tuple [.tuple (((jj n (os.zip ws)).take n).map qD),qD ((jj n (os.zip ws)).getD n 0)])
theorem PC(T:TX P K mg)(j7:Dn P w K mg base 42 "_law_plus" ["a","b"] 2 f6)(tG:Dn P w K mg base 42 "_law_times" ["a","b"] 2 jU)(U:FnAt K mg "_law_together" (top 54) ["others","weights","many"]):
  ∃F,Dn P w K mg base 43 "_law_together" ["others","weights","many"] 3 F/\Te F:=by
 refine⟨_,cG ["others","weights","many","sums","other","weight","numbers"] U fun nd _ _ _ _ _ _ _ hr=>
  (ae (aB 3 nd (cI (k8 rfl (jT (N':=["k"])) (kJ T.range (a6 (fg (a5 2) a8) a9 (hs:=dC))) (fun _ _ _ _=>(ar 0 (show(["k"]:List Str).Nodup by decide +kernel))) (fun _ _ _ _=>dm) (fun _ _ _ _=>(bo (k:=0) (a6 a8 (a6 a8 a9)))) (d4 rfl))))
  (ae (jK PassesOwn.never rfl (mm T.zip (a6 (a5 0) (a6 (a5 1) a9))) (dh (n:=2) rfl (aW (ar 4 nd) (aW (ar 5 nd) cM)))
  (ae (aB 6 nd (mn (cI (qa T.list (a6 (ah (a5 4) a8) a9 (hs:=aJ)))) (ij (a6 (ah (a5 4) a8) a9 (hs:=aJ)))))
  (ag (aB 3 nd (cI (k8 rfl (fI (tn:=["k"]) (fv:=["weight","sums","numbers"]) (js:=[5,3,6]) rfl (by decide +kernel) (by decide +kernel) rfl (by decide +kernel) (by decide +kernel) rfl
   (fun x hx=>by((have fj:x="weight"\/x="sums"\/x="numbers":=(by simpa using hx));(rcases fj with rfl|rfl|rfl<;>exact⟨_,rfl⟩)))
   (fun p hp=>by((have fu:p=(("weight" : Str),(5:Nat))\/p=(("sums" : Str),(3:Nat))\/p=(("numbers" : Str),(6:Nat)):=(by simpa using hp));(rcases fu with rfl|rfl|rfl<;>exact⟨rfl,.inr (.inl rfl),.inl rfl,fun z=>by cases z⟩)))) (kJ T.range (a6 (fg (a5 2) a8) a9 (hs:=dC))) (fun _ _ _ _=>(ar 0 (show(["k","weight","sums","numbers"]:List Str).Nodup by decide +kernel))) (fun _ _ _ _=>dm) (fun _ _ _ _=>(az j7 hr (a6 (ah (a5 2) (a5 0)) (a6 (az tG hr (a6 (a5 1) (a6 (ah (a5 3) (a5 0)) a9 (hs:=aJ)))) a9 (hs:=aX)) (hs:=aJ)))) (d4 rfl)))))))
  (ag (aq (bo (k:=0) (a6 (gW T.tuple (a6 (k9 (a5 3) kX (kW (a5 2))) a9 (hs:=aJ))) (a6 (ah (a5 3) (a5 2)) a9 (hs:=aJ)) (hs:=aX))))))),?_⟩
 intro D u d c m os ws hI;have hm100:=hI.n1;have z2:2<=sizeLine:=sz (by decide);have z1:1<=sizeLine:=sz (by decide);have zm:m+1<sizeLine:=lt_of_lt_of_le (show m+1<1000 by omega) (sz (by decide));have zc:m+1<=sizeLine:=Nat.le_of_lt zm;have eR:=LG m (by omega);have T7:cf (aName 0) gL (ly (aU (fC (.int 0)) (aU (fC (.int 1)) bS))) [none] (fO 0 (m+1))=some ((List.replicate (m+1) (0:Rat)).map qD):=by
  refine cZ _ _ (by rw[fW,length_map,length_replicate]) fun i d o h1 h2=>⟨[(0,d)],rfl,?_⟩;have:o=qD 0:=by
   obtain⟨x,hx,rfl⟩:=mem_map.mp (mem_of_getElem? h2);rw[(mem_replicate.mp hx).2]
  rw[this,q0];simp![z2]
 have Kw:∀p∈os.zip ws,v8 c m p.1/\uV D u p.2:=fun p hp=>⟨hI.ol p.1 (of_mem_zip hp).1,hI.wt p.2 (of_mem_zip hp).2⟩;have VU:(os.zip ws).length<=os.length:=by rw[length_zip];exact Nat.min_le_left _ _
 have hsz:=hI.sz;refine bP ?_;simp!;generalize Sn:(List.replicate (m+1) (0:Rat))=a0 at T7;have SJ:uZ D u c 0 m a0:=by rw[<- Sn];exact Bl
 rw[ak (af:=[some (.a7 (.list (os.map aA))),some (.a7 (.list (ws.map qD))),some (.a7 (.int (m:Int))),some (.a7 (.list (a0.map qD))),none,none,none]) (lR (xp (oP (as:=[.int ((m:Int)+1)]) (by simp![cD]) eR) (by rw[fW];exact zm) T7))];refine gc (I:=_) (l6 (l:=os.zip ws) (s:=a0) NT (fun(a:List Rat) Γ=>∃x4 x5 x6,Γ=[some (.a7 (.list (os.map aA))),some (.a7 (.list (ws.map qD))),some (.a7 (.int (m:Int))),some (.a7 (.list (a.map qD))),x4,x5,x6])
   (fun(a:List Rat) l=>∃j,uZ D u c j m a/\j+l.length<=os.length/\∀p∈l,v8 c m p.1/\uV D u p.2) dU (by rw[<- vg];rfl) ⟨0,SJ,by omega,Kw⟩ ⟨none,none,none,rfl⟩ ?_) ?_
 ·rintro a ⟨o,x⟩ l Γ ⟨j,hA,Wl,iF⟩ ⟨x4,x5,x6,rfl⟩;rw[length_cons]at Wl;obtain⟨ho,hx⟩:=iF (o,x) mem_cons_self;dsimp only at ho hx;have hS:=Bm hI.D0 hA ho hx;have Wd:(c+1)*(j+1)<=(c+1)*os.length:=mul_le_mul_left _ (by omega);have hmm:(c+1)*(os.length+1)=(c+1)*os.length+(c+1):=by rw[mul_add,mul_one]
  have hmo:(c+1)<=(c+1)*os.length:=Nat.le_mul_of_pos_right _ (by omega);refine⟨[(4,aA o),(5,qD x)],rfl,?_⟩;dsimp!;have Ve:tw (.list (o.2.1.map qD)) (.list [qD o.2.2])=some (.list ((o.2.1++[o.2.2]).map qD)):=uS o.2.1 [o.2.2] (by rw[ho.1];show m+1<=1000;omega);have RE:uk [.tuple (o.2.1.map qD)]=some (o.2.1.map qD):=rfl;have o1:bz (aA o) (.int 1)=some (.tuple (o.2.1.map qD)):=rfl;have o2:bz (aA o) (.int 2)=some (qD o.2.2):=rfl;have ec:cf (aName 0) gL (iS 2 f6 (aU (L3.f2 bz (aH 2) (aH 0)) (aU (iS 2 jU (aU (aH 1) (aU (L3.f2 bz (aH 3) (aH 0)) bS))) bS))) [none,some (qD x),some (.list (a.map qD)),some (.list ((o.2.1++[o.2.2]).map qD))] (fO 0 (m+1))=some ((dU a (o,x)).map qD):=by
   refine cZ _ _ (by rw[fW,length_map,hS.len]) fun i d' o' h1 h2=>?_;obtain⟨hi,rfl⟩:=sM h1;refine⟨[(0,.int (0+(i:Int)))],rfl,?_⟩;rw[getElem?_map]at h2;cases hz:(dU a (o,x))[i]? with
   |none=>rw[hz]at h2;cases h2
   |some z=>
    rw[hz]at h2;cases h2;obtain⟨p,q,g1,g2,rfl⟩:=yg (show(zipWith (fun y q=>y+x*q) a (o.2.1++[o.2.2]))[i]?=some z from hz);have sp:=JS hI.D0 hI.Dd hA p (mem_of_getElem? g1);have sq:=C8 ho q (mem_of_getElem? g2);have sx:=JN hI.D0 hI.Dd hx;have a1:=Aw g1;have a2:=Aw g2;have e1:=w4 sx sq (by omega) (by omega);have e2:=ie sp (sx.mul sq) (by omega) (by omega);dsimp![a1,a2,e1,e2]
  rw[ak (af:=[some (.a7 (.list (os.map aA))),some (.a7 (.list (ws.map qD))),some (.a7 (.int (m:Int))),some (.a7 (.list (a.map qD))),some (.a7 (aA o)),some (.a7 (qD x)),some (.a7 (.list ((o.2.1++[o.2.2]).map qD)))]) (by dsimp![o1,o2,RE,z1,Ve])];refine⟨[some (.a7 (.list (os.map aA))),some (.a7 (.list (ws.map qD))),some (.a7 (.int (m:Int))),some (.a7 (.list ((dU a (o,x)).map qD))),some (.a7 (aA o)),some (.a7 (qD x)),some (.a7 (.list ((o.2.1++[o.2.2]).map qD)))],?_,⟨_,_,_,rfl⟩,j+1,hS,by omega,fun p hp=>iF p (mem_cons_of_mem _ hp)⟩;exact lR (xp (oP (as:=[.int ((m:Int)+1)]) (by simp![cD]) eR) (by rw[fW];exact zm) ec)
 ·rintro af ⟨x4,x5,x6,rfl⟩;have eT:(os.zip ws).foldl dU a0=jj m (os.zip ws):=by unfold jj;rw[Sn]
  have hT:=yo hI.D0 (os.zip ws) 0 a0 Kw SJ;rw[eT]at hT ⊢;generalize jj m (os.zip ws)=y at *;have hyl:=hT.len;have ec:yy (.list (y.map qD)) none (some (m:Int))=some (.list ((y.take m).map qD)):=by
   show some (Dat.list (L3.cutD (y.map qD) none (some (m:Int))))=_;rw[xA (by rw[length_map];omega),map_take]
  have ei:bz (.list (y.map qD)) (.int (m:Int))=some (qD (y.getD m 0)):=Au qD (by rw[getD_eq_getElem?_getD,getElem?_eq_getElem (by omega)];rfl);dsimp![qF,oG,oH,qL,ec,ei,fM,z2]
abbrev Ka (q:Rat):Int×Int:=(q.num,(q.den:Int))
abbrev bA (xs:List Rat):Dat:=.tuple (xs.map qD)
theorem F7(xs:List Rat):bA xs=nM (xs.map Ka):=by
 show Dat.tuple (xs.map qD)=Dat.tuple ((xs.map Ka).map jP);rw[map_map];rfl
theorem LR:xs.map Ka=ys.map Ka↔xs=ys:=by
 constructor
 ·intro h;induction xs generalizing ys with
  |nil=>cases ys with|nil=>rfl|cons y ys=>cases h
  |cons x xs ih=>
   cases ys with
   |nil=>cases h
   |cons y ys=>
    rw[map_cons,map_cons]at h;obtain⟨h1,h2⟩:=List.cons.inj h;rw[DB.mp h1,ih h2]
 ·intro h;rw[h]
theorem L4(xs ys:List Rat):cU (bA xs) (bA ys)=some (.bool (decide (xs=ys))):=by
 rw[F7,F7,Mm];congr 2
 exact decide_eq_decide.mpr LR
def Ec (p:v7):Prop:=p.1.1≠.eq/\p.2<0
def wG (s:Bool) (p:v7):Bool:=s || (decide (p.1.1=.lt)&&decide (0<p.2))
def ub (s:Bool) (p:List Rat) (β:Rat) (l:List v7):Bool:=open Classical in if ∃q∈l,Ec q then false else
 (decide ((jj p.length l).take p.length=p)&&(decide ((jj p.length l).getD p.length 0<β) || (decide ((jj p.length l).getD p.length 0=β)&&(!s || l.foldl wG false)))) || (decide ((jj p.length l).take p.length=List.replicate p.length 0)&&(decide ((jj p.length l).getD p.length 0<0) || (decide ((jj p.length l).getD p.length 0=0)&&l.foldl wG false)))
theorem vC(q:Rat):q.num<0↔q<0:=by
 have:=Fr.yJ q 0;have e1:(0:Rat).num=0:=rfl;have e2:((0:Rat).den:Int)=1:=rfl;rw[e1,e2,Int.mul_one,Int.zero_mul]at this;exact this.symm
theorem M9(q:Rat):0<q.num↔0<q:=by
 have:=Fr.yJ 0 q;have e1:(0:Rat).num=0:=rfl;have e2:((0:Rat).den:Int)=1:=rfl;rw[e1,e2,Int.mul_one,Int.zero_mul]at this;exact this.symm
theorem IG(q:Rat):q.num=0↔q=0:=Rat.num_eq_zero
theorem wR(q:Rat):bz (qD q) (.int 0)=some (.int q.num):=rfl
theorem NO(q:Rat):bz (qD q) (.int 1)=some (.int (q.den:Int)):=rfl
abbrev Th (F:List Dat->Option Dat):Prop:=∀(D:Int) (u d c:Nat) (s:Bool) (p:List Rat) (β:Rat) (os:List FM.Ol) (ws:List Rat),xJ D u d c p.length os ws->SR 3900000 β->F [.str (eX s),bA p,qD β,.list (os.map aA),.list (ws.map qD)]=some (.bool (ub s p β (os.zip ws)))
theorem Jl(T:TX P K mg)(Bb:Dn P w K mg base 43 "_law_together" ["others","weights","many"] 3 Ft)(P4:Te Ft)(tJ:Dn P w K mg base 43 "_law_below" ["a","b"] 2 fJ)(U:FnAt K mg "_law_right" (top 55) ["kind","parts","bound","others","weights"]):
  ∃F,Dn P w K mg base 44 "_law_right" ["kind","parts","bound","others","weights"] 5 F/\Th F:=by
 refine⟨_,cG ["kind","parts","bound","others","weights","strict","other","weight","found","sum_of","less","nought"] U fun nd _ _ _ _ _ _ _ hr=>
  (ae (aB 5 nd cF)
  (ae (jK PassesOwn.never rfl (mm T.zip (a6 (a5 3) (a6 (a5 4) a9))) (dh (n:=2) rfl (aW (ar 6 nd) (aW (ar 7 nd) cM)))
  (ae (aT (cC (fP (d5 hr (ah (a5 6) a8) aY) (eV (nU (ah (a5 7) a8) a8)))) (ag (aq cF)) aL)
  (ag (aB 5 nd (qb (a5 5) (dG (fH (gh hr (ah (a5 6) a8) aY) (dG (Fy (ah (a5 7) a8) a8)))))))))
  (ae (sN (az Bb hr (a6 (a5 3) (a6 (a5 4) (a6 (cA T.len (a6 (a5 1) a9)) a9 (hs:=aX))))) (dh (n:=2) rfl (aW (ar 8 nd) (aW (ar 9 nd) cM))))
  (ae (aB 10 nd (az tJ hr (a6 (a5 9) (a6 (a5 2) a9))))
  (ae (aT (cC (fP (bZ hr (a5 8) (a5 1)) (eV (cC (cS (bf (a5 10)) (dj (cC (fP (bZ hr (a5 9) (a5 2)) (eV (cC (cS (bZ hr (a5 0) aY) (dj (bf (a5 5)))))))))))))) (ag (aq cF)) aL)
  (ae (aB 11 nd (gW T.tuple (a6 (cI (gV rfl (jT (N':=["part"])) (a5 1) (fun _ _ _ _=>(ar 0 (show(["part"]:List Str).Nodup by decide +kernel))) (fun _ _ _ _=>dm) (fun _ _ _ _=>(bo (k:=0) (a6 a8 (a6 a8 a9)))) (d4 rfl))) a9)))
  (ag (aq (fH (gh hr (a5 8) (a5 11)) (dG (qb (yO (ah (a5 9) a8) a8) (dG (fH (gh hr (ah (a5 9) a8) a8) (dG (a5 5))))))))))))))),?_⟩
 intro D u d c s p β os ws hI dt;have z2:2<=sizeLine:=sz (by decide);have hn1:=hI.n1;have zl:p.length<sizeLine:=lt_of_lt_of_le (show p.length<1000 by omega) (sz (by decide));have e2:=P4 D u d c p.length os ws hI;have Kw:∀q∈os.zip ws,v8 c p.length q.1/\uV D u q.2:=fun q hq=>⟨hI.ol q.1 (of_mem_zip hq).1,hI.wt q.2 (of_mem_zip hq).2⟩;have hT:=yo hI.D0 (os.zip ws) 0 _ Kw (Bl (n:=p.length));have hT:uZ D u c (0+(os.zip ws).length) p.length (jj p.length (os.zip ws)):=hT;have VU:(os.zip ws).length<=os.length:=by rw[length_zip];exact Nat.min_le_left _ _
 have hsz:=hI.sz;have Wd:(c+1)*((os.zip ws).length+1)<=(c+1)*(os.length+1):=mul_le_mul_left _ (by omega);have WE:SR 3900000 ((jj p.length (os.zip ws)).getD p.length 0):=by
  have hl:=hT.len;refine(JS hI.D0 hI.Dd hT _ ?_).up (by rw[zero_add];omega);rw[getD_eq_getElem?_getD,getElem?_eq_getElem (by omega)];exact List.getElem_mem _
 have lp:i6 [bA p]=some (.int p.length):=by show some (Dat.int ((p.map qD).length:Nat))=_;rw[length_map]
 have k1:cU (.str (eX s)) (.str "<=")=some (.bool (!s)):=by cases s<;>rfl
 refine bP ?_;simp!;rw[ak (af:=[some (.a7 (.str (eX s))),some (.a7 (bA p)),some (.a7 (qD β)),some (.a7 (.list (os.map aA))),some (.a7 (.list (ws.map qD))),some (.a7 (.bool false)),none,none,none,none,none,none]) (by simp![])];refine LC (J7 (l:=os.zip ws) (s:=false) (r:=.bool false) NT (fun(t:Bool) Γ=>∃x6 x7,Γ=[some (.a7 (.str (eX s))),some (.a7 (bA p)),some (.a7 (qD β)),some (.a7 (.list (os.map aA))),some (.a7 (.list (ws.map qD))),some (.a7 (.bool t)),x6,x7,none,none,none,none]) wG Ec (by rw[<- vg];rfl) ⟨none,none,rfl⟩ ?_ ?_) ?_ ?_
 ·rintro t ⟨o,x⟩ Γ vK ⟨x6,x7,rfl⟩;refine⟨[(6,aA o),(7,qD x)],rfl,?_⟩;dsimp!;have o0:bz (aA o) (.int 0)=some (.str (aN o.1)):=rfl;refine⟨[some (.a7 (.str (eX s))),some (.a7 (bA p)),some (.a7 (qD β)),some (.a7 (.list (os.map aA))),some (.a7 (.list (ws.map qD))),some (.a7 (.bool (wG t (o,x)))),some (.a7 (aA o)),some (.a7 (qD x)),none,none,none,none],?_,_,_,rfl⟩;rw[ak (af:=[some (.a7 (.str (eX s))),some (.a7 (bA p)),some (.a7 (qD β)),some (.a7 (.list (os.map aA))),some (.a7 (.list (ws.map qD))),some (.a7 (.bool t)),some (.a7 (aA o)),some (.a7 (qD x)),none,none,none,none]) (by
   by_cases c1:o.1=.eq
   ·have k1:=(i7 o.1).mpr c1;dsimp![o0,jD,eq_true k1]
   ·have k1:¬aN o.1="=":=fun z=>c1 ((i7 o.1).mp z);have c2:¬x.num<0:=fun z=>vK ⟨c1,(vC x).mp z⟩;dsimp![o0,wR,jD,d6,eq_false k1,eq_false c2])]
  have e1:cU (.str (aN o.1)) (.str "<")=some (.bool (decide (o.1=.lt))):=by rw[cP];congr 2;exact decide_eq_decide.mpr (y7 o.1)
  have e2:GN (.int x.num) (.int 0)=some (.bool (decide (0<x))):=by rw[gR];congr 2;exact decide_eq_decide.mpr (M9 x)
  exact lR (L0 (b:=decide (o.1=.lt)&&decide (0<x)) (by simp![]) (A9 (by dsimp![o0,e1]) (by dsimp![wR,e2])))
 ·rintro t ⟨o,x⟩ Γ vK ⟨x6,x7,rfl⟩;refine⟨[(6,aA o),(7,qD x)],rfl,?_⟩;dsimp!;have o0:bz (aA o) (.int 0)=some (.str (aN o.1)):=rfl;have k1:¬aN o.1="=":=fun z=>vK.1 ((i7 o.1).mp z);have c2:x.num<0:=(vC x).mpr vK.2;dsimp![o0,wR,jD,d6,eq_false k1,eq_true c2]
 ·rintro af Rx ⟨x6,x7,rfl⟩;have W9:¬ ∃p∈os.zip ws,Ec p:=fun⟨p,hp,hb⟩=>Rx p hp hb;unfold ub;rw[if_neg W9];generalize jj p.length (os.zip ws)=y at *;generalize ph:(os.zip ws).foldl wG false=sB at *;generalize hb0:y.getD p.length 0=b0 at *;have e3:=lZ WE dt (by decide) (by decide);have e5:=L4 (y.take p.length) p;have e6:=L4 (y.take p.length) (List.replicate p.length 0);have e7:=oY b0 β;have e8:Ge (.int b0.num) (.int 0)=some (.bool (decide (b0<0))):=by rw[d6];congr 2;exact decide_eq_decide.mpr (vC b0)
  have e9:cU (.int b0.num) (.int 0)=some (.bool (decide (b0=0))):=by rw[d7];congr 2;exact decide_eq_decide.mpr (IG b0)
  rw[ak (af:=[some (.a7 (.str (eX s))),some (.a7 (bA p)),some (.a7 (qD β)),some (.a7 (.list (os.map aA))),some (.a7 (.list (ws.map qD))),some (.a7 (.bool sB)),x6,x7,some (.a7 (bA (y.take p.length))),some (.a7 (qD b0)),none,none]) (by dsimp![lp,e2])];rw[ak (af:=[some (.a7 (.str (eX s))),some (.a7 (bA p)),some (.a7 (qD β)),some (.a7 (.list (os.map aA))),some (.a7 (.list (ws.map qD))),some (.a7 (.bool sB)),x6,x7,some (.a7 (bA (y.take p.length))),some (.a7 (qD b0)),some (.a7 (.bool (decide (b0<β)))),none]) (by dsimp![e3])];have JQ:=CA (ft:=cc (L3.f2 cU (aH 8) (aH 1))) (gt:=iw (iR (aH 10)) (jz (cc (L3.f2 cU (aH 9) (aH 2))) (iw (cc (L3.f2 cU (aH 0) (fC (.str "<=")))) (iR (aH 5)))))
   (ρ:=bX [some (.a7 (.str (eX s))),some (.a7 (bA p)),some (.a7 (qD β)),some (.a7 (.list (os.map aA))),some (.a7 (.list (ws.map qD))),some (.a7 (.bool sB)),x6,x7,some (.a7 (bA (y.take p.length))),some (.a7 (qD b0)),some (.a7 (.bool (decide (b0<β)))),none])
   (a:=decide (y.take p.length=p)) (by dsimp![e5]) (GU (a:=decide (b0<β)) (by dsimp![]) (CA (a:=decide (b0=β)) (by dsimp![e7]) (GU (a:=!s) (b:=sB) (by dsimp![k1]) (by dsimp![]))))
  cases q:(decide (y.take p.length=p)&&(decide (b0<β) || (decide (b0=β)&&(!s || sB))))with
  |true=>
   rw[q]at JQ;rw[Bool.true_or];exact(LF (ng JQ)).trans rfl
  |false=>
   rw[q]at JQ;rw[Bool.false_or];refine(ak (r9 JQ)).trans ?_;have ec:cf (aName 0) gL (ly (aU (fC (.int 0)) (aU (fC (.int 1)) bS))) [none] (p.map qD)=some ((List.replicate p.length (0:Rat)).map qD):=by
    refine cZ _ _ (by rw[length_map,length_map,length_replicate]) fun i d o h1 h2=>⟨[(0,d)],rfl,?_⟩;have:o=qD 0:=by
     obtain⟨x,hx,rfl⟩:=mem_map.mp (mem_of_getElem? h2);rw[(mem_replicate.mp hx).2]
    rw[this,q0];simp![z2]
   refine(ak (af:=[some (.a7 (.str (eX s))),some (.a7 (bA p)),some (.a7 (qD β)),some (.a7 (.list (os.map aA))),some (.a7 (.list (ws.map qD))),some (.a7 (.bool sB)),x6,x7,some (.a7 (bA (y.take p.length))),some (.a7 (qD b0)),some (.a7 (.bool (decide (b0<β)))),some (.a7 (bA (List.replicate p.length 0)))]) (by
    dsimp![gS,length_map,zl,ec,fM])).trans ?_
   refine Bx (A9 (by dsimp![e6]) (L0 (by dsimp![wR,e8]) (A9 (by dsimp![wR,e9]) (by dsimp![]))))
 ·intro vK;unfold ub;rw[if_pos vK]
theorem DZ(d:α)(x:α)(xs:List α)(i:Nat):(x::xs).getD (i+1) d=xs.getD i d:=by
 rw[getD_eq_getElem?_getD,getD_eq_getElem?_getD,getElem?_cons_succ]
theorem Lv{w:Rat}(ha:a.length=n+1)(ho:o.2.1.length=n)(hc:c<=n):(dU a (o,w)).getD c 0=a.getD c 0+w*(if c<n then o.2.1.getD c 0 else o.2.2):=by
 show(zipWith (fun x q=>x+w*q) a (o.2.1++[o.2.2])).getD c 0=_;rw[getD_eq_getElem?_getD,getD_eq_getElem?_getD,List.getElem?_zipWith];have h1:c<a.length:=by omega
 have h2:c<(o.2.1++[o.2.2]).length:=by rw[length_append,ho];show c<n+1;omega
 rw[getElem?_eq_getElem h1,getElem?_eq_getElem h2];show a[c]+w*(o.2.1++[o.2.2])[c]=a[c]+_;congr 2
 by_cases Cm:c<n
 ·rw[if_pos Cm,List.getElem_append_left (by omega),getD_eq_getElem?_getD,getElem?_eq_getElem (by omega)];rfl
 ·rw[if_neg Cm,List.getElem_append_right (by omega)];simp
theorem Bk{w:Rat}(ha:a.length=n+1)(ho:o.2.1.length=n):(dU a (o,w)).length=n+1:=by
 show(zipWith _ a (o.2.1++[o.2.2])).length=_;rw[length_zipWith,ha,length_append,ho];exact min_self _
theorem yn{n c:Nat}(hc:c<=n):∀(os:List FM.Ol) (ws a:List Rat),(∀o∈os,o.2.1.length=n)->ws.length=os.length->a.length=n+1->
  ((os.zip ws).foldl dU a).getD c 0=a.getD c 0+FM.sm os.length (fun i=>ws.getD i 0*(if c<n then FM.iC os i c else FM.jS os i))
 |[],ws,a,_,_,_=>by show a.getD c 0=a.getD c 0+0;grind
 |o::os,[],a,_,h,_=>by cases h
 |o::os,w::ws,a,ho,hl,ha=>by
  rw[zip_cons_cons,foldl_cons,yn hc os ws _ (fun p hp=>ho p (mem_cons_of_mem _ hp)) (Nat.succ.inj hl) (Bk ha (ho o mem_cons_self)),Lv ha (ho o mem_cons_self) hc,length_cons,FM.sG];have e0:(w::ws).getD 0 0*(if c<n then FM.iC (o::os) 0 c else FM.jS (o::os) 0)=w*(if c<n then o.2.1.getD c 0 else o.2.2):=rfl;have e1:FM.sm os.length (fun i=>(w::ws).getD (i+1) 0*(if c<n then FM.iC (o::os) (i+1) c else FM.jS (o::os) (i+1)))=FM.sm os.length (fun i=>ws.getD i 0*(if c<n then FM.iC os i c else FM.jS os i)):=FM.aO fun i _=>by
   unfold FM.iC FM.jS;rw[DZ,DZ]
  rw[e0,e1];grind
variable {ws:List Rat}
theorem ym(ho:∀o∈os,o.2.1.length=n)(hl:ws.length=os.length)(hc:c<n):(jj n (os.zip ws)).getD c 0=FM.g9 os ws c:=by
 unfold jj;rw[yn (Nat.le_of_lt hc) os ws _ ho hl length_replicate,FM.oj];unfold FM.g9;rw[FM.aO (g:=fun i=>ws.getD i 0*FM.iC os i c) (fun i _=>by rw[if_pos hc])];grind
theorem Lu(ho:∀o∈os,o.2.1.length=n)(hl:ws.length=os.length):(jj n (os.zip ws)).getD n 0=FM.k0 os ws:=by
 unfold jj;rw[yn (le_refl _) os ws _ ho hl length_replicate,FM.oj];unfold FM.k0;rw[FM.aO (g:=fun i=>ws.getD i 0*FM.jS os i) (fun i _=>by rw[if_neg (lt_irrefl n)])];grind
theorem Lr:∀{os:List FM.Ol} {ws:List Rat},(∀o∈os,o.2.1.length=n)->(jj n (os.zip ws)).length=n+1:=by
 have key:∀(os:List FM.Ol) (ws a:List Rat),(∀o∈os,o.2.1.length=n)->a.length=n+1->((os.zip ws).foldl dU a).length=n+1:=by
  intro os;induction os with
  |nil=>intro ws a _ h;exact h
  |cons o os ih=>
   intro ws a ho h;cases ws with
   |nil=>exact h
   |cons w ws=>exact ih ws _ (fun p hp=>ho p (mem_cons_of_mem _ hp)) (Bk h (ho o mem_cons_self))
 intro os ws ho;exact key os ws _ ho length_replicate
theorem zv(hl:xs.length=ys.length)(h:∀c,c<ys.length->xs.getD c 0=ys.getD c 0):xs=ys:=by
 refine List.ext_getElem hl fun i h1 h2=>?_;have:=h i h2;rw[getD_eq_getElem?_getD,getD_eq_getElem?_getD,getElem?_eq_getElem h1,getElem?_eq_getElem h2]at this;exact this
theorem pT(h:c<n):(xs.take n).getD c 0=xs.getD c 0:=by
 rw[getD_eq_getElem?_getD,getD_eq_getElem?_getD,List.getElem?_take_of_lt h]
theorem ER:∀(l:List v7) (s:Bool),l.foldl wG s=(s || l.any fun p=>decide (p.1.1=.lt)&&decide (0<p.2))
 |[],s=>by simp
 |p::l,s=>by rw[foldl_cons,ER l,any_cons];unfold wG;rw[Bool.or_assoc]
theorem MZ(h:i<os.length)(hl:ws.length=os.length):(os.getD i (.eq,[],0),ws.getD i 0)∈os.zip ws:=by
 have h1:(os.zip ws)[i]?=some (os[i],ws[i]):=by rw[List.getElem?_zip_eq_some];exact⟨getElem?_eq_getElem h,getElem?_eq_getElem (by omega)⟩
 have h2:=mem_of_getElem? h1;rw[getD_eq_getElem?_getD,getD_eq_getElem?_getD,getElem?_eq_getElem h,getElem?_eq_getElem (show i<ws.length by omega)];exact h2
theorem MY{q:v7}(h:q∈os.zip ws):∃i,i<os.length/\q.1=os.getD i (.eq,[],0)/\q.2=ws.getD i 0:=by
 obtain⟨i,hi⟩:=List.getElem?_of_mem h;rw[List.getElem?_zip_eq_some]at hi;refine⟨i,(List.getElem?_eq_some_iff.mp hi.1).1,?_,?_⟩
 ·rw[getD_eq_getElem?_getD,hi.1];rfl
 ·rw[getD_eq_getElem?_getD,hi.2];rfl
variable {β:Rat}
theorem pZ{s:Bool}(ho:∀o∈os,o.2.1.length=p.length)(h:FM.Right os ws s p β):ub s p β (os.zip ws)=true:=by
 obtain⟨ha,h⟩:=h;have hl:=ha.len;have nb:¬ ∃q∈os.zip ws,Ec q:=fun aQ=>by
  obtain⟨q,hq,hb⟩:=aQ;obtain⟨i,hi,e1,e2⟩:=MY hq;have:=ha.nn i hi (by unfold FM.knd;rw[<- e1];exact hb.1);rw[<- e2]at this;have:=hb.2;grind
 have hst:FM.sF os ws->(os.zip ws).foldl wG false=true:=fun aQ=>by
  obtain⟨i,hi,h1,h2⟩:=aQ;rw[ER,Bool.false_or,List.any_eq_true];exact⟨_,MZ hi hl,by
   show(decide ((os.getD i (.eq,[],0)).1=.lt)&&decide (0<ws.getD i 0))=true;rw[decide_eq_true h2,decide_eq_true (show(os.getD i (.eq,[],0)).1=.lt from h1)];rfl⟩
 have dJ:=Lr (n:=p.length) (ws:=ws) ho;unfold ub;rw[if_neg nb,Lu ho hl];rcases h with⟨h1,h2⟩|⟨h1,h2⟩
 ·have e:(jj p.length (os.zip ws)).take p.length=p:=zv (by rw[length_take,dJ];omega) fun c hc=>by rw[pT hc,ym ho hl hc];exact h1 c hc
  rw[decide_eq_true e];rcases h2 with h2|⟨h2,h3⟩
  ·rw[decide_eq_true h2];rfl
  ·rw[decide_eq_true h2];rcases h3 with h3|h3
   ·rw[h3,Bool.not_false,Bool.true_or];simp
   ·rw[hst h3,Bool.or_true];simp
 ·have e:(jj p.length (os.zip ws)).take p.length=List.replicate p.length 0:=zv (by rw[length_take,dJ,length_replicate];omega) fun c hc=>by
   rw[length_replicate]at hc;rw[pT hc,ym ho hl hc,FM.oj];exact h1 c hc
  rw[decide_eq_true e];rcases h2 with h2|⟨h2,h3⟩
  ·rw[decide_eq_true h2];simp
  ·rw[decide_eq_true h2,hst h3];simp
abbrev Ti (b:Nat) (ws:List Rat):Prop:=∃D:Int,D≠0/\D.natAbs<=2^(b+b)/\∀w∈ws,uV D (b+b+1) w
theorem Ab(ir:way=1\/way=-1)(hR:gZ m b rows){t:FM.fz}(h:FM.endOf n rows way=some t):∃D:Int,D≠0/\D.natAbs<2^b/\∀w∈t.2.2,uV D b w:=by
 obtain⟨⟨r,hr,hc,k1,k2,k3⟩,_⟩:=(FM.jA rows n (List.replicate (n+1) 0) way).some t h;have oQ:way*FM.ent r n≠0:=by rcases hc with hc|⟨hc,_⟩<;>omega
 refine⟨way*FM.ent r n,oQ,tP ir (cV (hR.bd r hr)),fun w hw=>?_⟩;rw[k3]at hw;unfold FM.mY at hw;obtain⟨z,hz,rfl⟩:=mem_map.mp hw;exact⟨z,hR.bd r hr z (List.mem_of_mem_drop hz),rfl⟩
theorem IJ(hR:gZ m b rows)(h:FM.never n rows=some ws):Ti b ws:=by
 unfold FM.never at h;cases hr:FM.fq n rows with
 |some w=>
  rw[hr]at h;cases h;unfold FM.fq at hr;rw[Option.map_eq_some_iff]at hr;obtain⟨r,hf,e⟩:=hr;have hm:=mem_of_find?_eq_some hf;refine⟨1,by decide,pow_pos (by decide),fun w hw=>?_⟩;rw[<- e]at hw;obtain⟨z,hz,rfl⟩:=mem_map.mp hw;refine⟨(if r.1=.eq/\0<FM.ent r (n+1)then -1 else 1)*z,dR (tP ?_ (hR.bd r hm z (List.mem_of_mem_drop hz))) (by omega),?_⟩
  ·split
   ·exact .inr rfl
   ·exact .inl rfl
  ·have:((1:Int):Rat)=1:=rfl;rw[this];grind
 |none=>
  rw[hr]at h;have h:FM.fD n rows=some ws:=h;unfold FM.fD at h;cases h1:FM.endOf n rows 1 with
  |none=>rw[h1]at h;cases h
  |some t=>
   cases h2:FM.endOf n rows (-1)with
   |none=>rw[h1,h2]at h;cases h
   |some o=>
    rw[h1,h2]at h;dsimp only at h;generalize (if t.1=true\/o.1=true then FM.Kn.lt else FM.Kn.le)=kn at h;split at h
    ·cases h;obtain⟨D1,d1,e1,w1⟩:=Ab (.inl rfl) hR h1;obtain⟨D2,d2,e2,w2⟩:=Ab (.inr rfl) hR h2;refine⟨D1*D2,mul_ne_zero d1 d2,Nat.le_of_lt (cQ e1 e2),fun w hw=>?_⟩;obtain⟨x,hx,y,hy,rfl⟩:=jm hw;obtain⟨X,hX,rfl⟩:=w1 x hx;obtain⟨Y,hY,rfl⟩:=w2 y hy;refine⟨X*D2+Y*D1,qM (cQ hX e2) (cQ hY e1),?_⟩;have f1:((D1:Int):Rat)≠0:=fun z=>d1 (FM.bN.mp z);have f2:((D2:Int):Rat)≠0:=fun z=>d2 (FM.bN.mp z);rw[Rat.intCast_add,intCast_mul,intCast_mul,intCast_mul];grind
    ·cases h
def FC (bs:Nat->Nat):Nat->Nat->Nat
 |0,_=>0
 |m+1,C=>max (bs m+C+(bs m+C)+3) (FC bs m (C+(bs m+C+(bs m+C)+3)+1))
theorem yP(bs:Nat->Nat):∀(m:Nat) {C D:Nat},C<=D->FC bs m C<=FC bs m D
 |0,_,_,_=>le_refl _
 |m+1,C,D,h=>by
  have:=yP bs m (C:=C+(bs m+C+(bs m+C)+3)+1) (D:=D+(bs m+D+(bs m+D)+3)+1) (by omega);show max _ _<=max _ _;omega
theorem Ke{bs:Nat->Nat}{n M:Nat}{Ls:List (List FM.Row)}(hst:∀i,i<n->1<=bs i/\∃rs,Ls[i]?=some rs/\gZ M (bs i) rs):∀(m C:Nat) (x:List Rat),m<=n->x.length=n+1->(∀c,c<m->x.getD c 0=0)->gK x C->∀c,c<m->SR (FC bs m C) ((FM.dX Ls m x).getD c 0)
 |0,C,x,_,_,_,hC=>fun c hc=>by omega
 |m+1,C,x,hm,uE,j9,hC=>by
  obtain⟨b1,rs,Cg,fR⟩:=hst m (by omega);have eD:Ls.getD m []=rs:=by rw[getD_eq_getElem?_getD,Cg];rfl
  have v1:∀y,FM.fZ (FM.c7 (Ls.getD m []) m x (-1))=some y->SR (bs m+C) y:=fun y hy=>by
   rw[eD]at hy;cases ho:FM.c7 rs m x (-1)with
   |none=>rw[ho]at hy;cases hy
   |some o=>
    rw[ho]at hy;cases hy;exact iM (ot (.inr rfl) fR hC ho)
  have v2:∀y,FM.gF (FM.c7 (Ls.getD m []) m x 1)=some y->SR (bs m+C) y:=fun y hy=>by
   rw[eD]at hy;cases ho:FM.c7 rs m x 1 with
   |none=>rw[ho]at hy;cases hy
   |some o=>
    rw[ho]at hy;cases hy;exact ot (.inl rfl) fR hC ho
  have sv:=qK (by omega) v1 v2;obtain⟨C',zY,zX⟩:=hC.set sv (m:=m) (by omega) (j9 m (by omega));intro c hc;have ih:=Ke hst m C' _ (by omega) (by rw[length_set];exact uE) (fun c hc=>by
   rw[FM.jF (by omega),if_neg (by omega)];exact j9 c (by omega)) zX
  show SR (max _ _) ((FM.dX Ls m (x.set m _)).getD c 0);by_cases e:c=m
  ·subst e;rw[FM.BR Ls c _ c (le_refl _),FM.jF (by omega),if_pos rfl];exact sv.up (Nat.le_max_left _ _)
  ·exact(ih c (by omega)).up (le_trans (yP bs m zY) (Nat.le_max_right _ _))
theorem Kk(q:Rat):qD (0-q)=.tuple [.int (-q.num),.int (q.den:Int)]:=by
 have e:(0:Rat)-q=-q:=by grind
 rw[e];show Dat.tuple [.int (-q).num,.int ((-q).den:Int)]=_;rw[Rat.neg_num,Rat.neg_den]
theorem Hi(T:TX P K mg)(U:FnAt K mg "_law_turned" (top 56) ["parts","bound"]):
  ∃F,Dn P w K mg base 41 "_law_turned" ["parts","bound"] 2 F/\∀(p:List Rat) (β:Rat),p.length<=100->F [bA p,qD β]=some (.tuple [bA (p.map fun q=>0-q),qD (0-β)]):=by
 refine⟨_,cG ["parts","bound"] U fun nd _ _ _ _ _ _ _ hr=>
  (ag (aq (bo (k:=0) (a6 (gW T.tuple (a6 (cI (gV rfl (jT (N':=["part"])) (a5 0) (fun _ _ _ _=>(ar 0 (show(["part"]:List Str).Nodup by decide +kernel))) (fun _ _ _ _=>dm) (fun _ _ _ _=>(bo (k:=0) (a6 (dr (ah (a5 0) a8)) (a6 (ah (a5 0) a8) a9 (hs:=aJ)) (hs:=gN)))) (d4 rfl))) a9)) (a6 (bo (k:=0) (a6 (dr (ah (a5 1) a8)) (a6 (ah (a5 1) a8) a9 (hs:=aJ)) (hs:=gN))) a9 (hs:=dB)) (hs:=aX))))),?_⟩
 intro p β DY;have z2:2<=sizeLine:=sz (by decide);have zl:p.length<sizeLine:=lt_of_lt_of_le (show p.length<1000 by omega) (sz (by decide));have ec:cf (aName 0) gL (ly (aU (L3.f1 nL (L3.f2 bz (aH 0) (fC (.int 0)))) (aU (L3.f2 bz (aH 0) (fC (.int 1))) bS))) [none] (p.map qD)=some ((p.map fun q=>0-q).map qD):=by
  refine cZ _ _ (by rw[length_map,length_map,length_map]) fun i d o h1 h2=>?_;rw[getElem?_map]at h1 h2;rw[getElem?_map]at h2;cases hp:p[i]? with
  |none=>rw[hp]at h1;cases h1
  |some x=>
   rw[hp]at h1 h2;cases h1;cases h2;refine⟨[(0,qD x)],rfl,?_⟩;have e:=Kk x;dsimp![wR,NO,z2,e]
 have e:=Kk β;dsimp![gS,length_map,zl,ec,wR,NO,z2,fM,e]
def Dl (l:List (Rat×Rat)) (a:Rat):Rat:=l.foldl (fun a q=>a+q.1*q.2) a
theorem n6:∀(p x:List Rat) (a:Rat),x.length=p.length->Dl (p.zip x) a=a+FM.aF p x
 |[],x,a,_=>by show a=a+0;grind
 |p::ps,[],a,h=>by cases h
 |p::ps,x::xs,a,h=>by
  show Dl (ps.zip xs) (a+p*x)=_;rw[n6 ps xs _ (Nat.succ.inj h)];unfold FM.aF;rw[length_cons,FM.sG];have e1:FM.sm ps.length (fun i=>(p::ps).getD (i+1) 0*(x::xs).getD (i+1) 0)=FM.sm ps.length (fun c=>ps.getD c 0*xs.getD c 0):=FM.aO fun i _=>by rw[DZ,DZ]
  have e0:(p::ps).getD 0 0*(x::xs).getD 0 0=p*x:=rfl;rw[e1,e0];grind
abbrev Ld (c s n:Nat):Nat:=1+n*(c+s+1)
theorem yu{c s:Nat}:∀(l:List (Rat×Rat)) (n:Nat) (a:Rat),(∀q∈l,SR c q.1/\SR s q.2)->SR n a->SR (n+l.length*(c+s+1)) (Dl l a)
 |[],n,a,_,h=>by show SR (n+0*_) a;exact h.up (by omega)
 |q::l,n,a,hq,h=>by
  show SR _ (Dl l (a+q.1*q.2));have:=yu l (n+(c+s)+1) (a+q.1*q.2) (fun y hy=>hq y (mem_cons_of_mem _ hy)) (h.add ((hq q mem_cons_self).1.mul (hq q mem_cons_self).2));rw[length_cons,succ_mul];exact this.up (by omega)
abbrev NS (p:Rat×Rat):Dat:=.tuple [qD p.1,qD p.2]
theorem Ey:∀(xs ys:List Rat),dz (xs.map qD) (ys.map qD)=(xs.zip ys).map NS
 |[],ys=>by simp[dz]
 |x::xs,[]=>by simp[dz]
 |x::xs,y::ys=>by simp only[map_cons,dz,zip_cons_cons,Ey xs ys]
structure CY (c s:Nat) (p x:List Rat):Prop where
 len:x.length=p.length
 sp:∀q∈p,SR c q
 sx:∀q∈x,SR s q
 sz:Ld c s p.length<=3900000
 cs:c+s<=3900000
abbrev Lc (F:List Dat->Option Dat):Prop:=∀(c s:Nat) (p x:List Rat),CY c s p x->F [bA p,bA x]=some (qD (FM.aF p x))
theorem QN{s:Nat}{x:List Rat}(h:CY c s p x):SR 3900000 (FM.aF p x):=by
 have h1:=yu (c:=c) (s:=s) (p.zip x) 1 0 (fun q hq=>⟨h.sp q.1 (of_mem_zip hq).1,h.sx q.2 (of_mem_zip hq).2⟩) (kr (by decide));have e:=n6 p x 0 h.len;rw[e,length_zip,h.len,min_self]at h1;rw[show(0:Rat)+FM.aF p x=FM.aF p x by grind]at h1;exact h1.up h.sz
theorem PD(T:TX P K mg)(j7:Dn P w K mg base 42 "_law_plus" ["a","b"] 2 f6)(tG:Dn P w K mg base 42 "_law_times" ["a","b"] 2 jU)(U:FnAt K mg "_law_sum" (top 59) ["parts","point"]):
  ∃F,Dn P w K mg base 43 "_law_sum" ["parts","point"] 2 F/\Lc F:=by
 refine⟨_,cG ["parts","point","found","part","number"] U fun nd _ _ _ _ _ _ _ hr=>
  (ae (aB 2 nd (bo (k:=0) (a6 a8 (a6 a8 a9))))
  (ae (jK PassesOwn.never rfl (mm T.zip (a6 (a5 0) (a6 (a5 1) a9))) (dh (n:=2) rfl (aW (ar 3 nd) (aW (ar 4 nd) cM)))
  (ag (aB 2 nd (az j7 hr (a6 (a5 2) (a6 (az tG hr (a6 (a5 3) (a6 (a5 4) a9))) a9 (hs:=aX)))))))
  (ag (aq (a5 2))))),?_⟩
 intro c s p x hI;have z2:2<=sizeLine:=sz (by decide);have hsz:=hI.sz;have KI:=hI.cs;refine bP ?_;simp!;rw[ak (af:=[some (.a7 (bA p)),some (.a7 (bA x)),some (.a7 (qD 0)),none,none]) (by rw[q0];simp![z2])];refine gc (I:=_) (l6 (l:=p.zip x) (s:=(0:Rat)) NS (fun(a:Rat) Γ=>∃x3 x4,Γ=[some (.a7 (bA p)),some (.a7 (bA x)),some (.a7 (qD a)),x3,x4])
   (fun(a:Rat) l=>∃n,SR n a/\n+l.length*(c+s+1)<=3900000/\∀q∈l,SR c q.1/\SR s q.2) (fun a q=>a+q.1*q.2) (by rw[<- Ey];rfl) ⟨1,kr (by decide),by rw[length_zip,hI.len,min_self];exact hsz,fun q hq=>⟨hI.sp q.1 (of_mem_zip hq).1,hI.sx q.2 (of_mem_zip hq).2⟩⟩ ⟨none,none,rfl⟩ ?_) ?_
 ·rintro a ⟨y,z⟩ l Γ ⟨n,hn,Gx,iF⟩ ⟨x3,x4,rfl⟩;rw[length_cons,succ_mul]at Gx;obtain⟨hy,hz⟩:=iF (y,z) mem_cons_self;dsimp only at hy hz;refine⟨[(3,qD y),(4,qD z)],rfl,?_⟩;dsimp!;have e1:=w4 hy hz (by omega) (by omega);have e2:=ie hn (hy.mul hz) (by omega) (by omega);exact⟨[some (.a7 (bA p)),some (.a7 (bA x)),some (.a7 (qD (a+y*z))),some (.a7 (qD y)),some (.a7 (qD z))],by dsimp![e1,e2],⟨_,_,rfl⟩,n+(c+s)+1,hn.add (hy.mul hz),by omega,fun q hq=>iF q (mem_cons_of_mem _ hq)⟩
 ·rintro af ⟨x3,x4,rfl⟩;have e:=n6 p x 0 hI.len;rw[show(0:Rat)+FM.aF p x=FM.aF p x by grind]at e;have e:(p.zip x).foldl (fun a q=>a+q.1*q.2) 0=FM.aF p x:=e;rw[e];simp![]
def KL (o:FM.Ol) (x:List Rat):Bool:=match o.1 with
 | .eq=>decide (FM.aF o.2.1 x=o.2.2)
 | .lt=>decide (FM.aF o.2.1 x<o.2.2)
 | .le=>decide (FM.aF o.2.1 x<o.2.2) || decide (FM.aF o.2.1 x=o.2.2)
theorem Cn(o:FM.Ol)(x:List Rat):KL o x=true↔FM.cK o x:=by
 unfold KL FM.cK;cases h:o.1 with
 |eq=>show decide _=true↔_=_;rw[decide_eq_true_eq]
 |lt=>show decide _=true↔_<_;rw[decide_eq_true_eq]
 |le=>
  show(decide _ || decide _)=true↔_<=_;rw[or_eq_true,decide_eq_true_eq,decide_eq_true_eq];constructor
  ·rintro(z|z)<;>grind
  ·intro z;by_cases c:FM.aF o.2.1 x=o.2.2
   ·exact .inr c
   ·left;grind
abbrev Qj (F:List Dat->Option Dat):Prop:=∀(c s:Nat) (o:FM.Ol) (x:List Rat),CY c s o.2.1 x->SR 3900000 o.2.2->F [aA o,bA x]=some (.bool (KL o x))
theorem Jm(T:TX P K mg)(qU:Dn P w K mg base 43 "_law_sum" ["parts","point"] 2 Fs)(hS:Lc Fs)(tJ:Dn P w K mg base 43 "_law_below" ["a","b"] 2 fJ)(U:FnAt K mg "_law_holds" (top 60) ["line","point"]):
  ∃F,Dn P w K mg base 44 "_law_holds" ["line","point"] 2 F/\Qj F:=by
 refine⟨_,cG ["line","point","found"] U fun nd _ _ _ _ _ _ _ hr=>
  (ae (aB 2 nd (az qU hr (a6 (ah (a5 0) a8) (a6 (a5 1) a9) (hs:=aJ))))
  (ae (aT (bZ hr (ah (a5 0) a8) aY) (ag (aq (gh hr (a5 2) (ah (a5 0) a8)))) aL)
  (ag (aq (qb (az tJ hr (a6 (a5 2) (a6 (ah (a5 0) a8) a9 (hs:=aJ)))) (dG (fH (gh hr (ah (a5 0) a8) aY) (dG (gh hr (a5 2) (ah (a5 0) a8)))))))))),?_⟩
 intro c s o x hI hb;have e1:=hS c s o.2.1 x hI;have o0:bz (aA o) (.int 0)=some (.str (aN o.1)):=rfl;have o1:bz (aA o) (.int 1)=some (bA o.2.1):=rfl;have o2:bz (aA o) (.int 2)=some (qD o.2.2):=rfl;have e2:=oY (FM.aF o.2.1 x) o.2.2;have e3:=lZ (QN hI) hb (by decide) (by decide);have eH:KL o x=(match o.1 with
  | .eq=>decide (FM.aF o.2.1 x=o.2.2)
  | .lt=>decide (FM.aF o.2.1 x<o.2.2)
  | .le=>decide (FM.aF o.2.1 x<o.2.2) || decide (FM.aF o.2.1 x=o.2.2)):=rfl
 rw[eH];generalize FM.aF o.2.1 x=v at *;generalize aA o=dl at *;cases hk:o.1 with
 |eq=>
  have k1:cU (.str (aN .eq)) (.str "=")=some (.bool true):=rfl;rw[hk]at o0;dsimp![o0,o1,o2,e1,e2,k1]
 |lt=>
  have k1:cU (.str (aN .lt)) (.str "=")=some (.bool false):=rfl;have k2:cU (.str (aN .lt)) (.str "<=")=some (.bool false):=rfl;rw[hk]at o0;by_cases c1:v<o.2.2
  ·rw[decide_eq_true c1]at e3 ⊢;dsimp![o0,o1,o2,e1,e2,e3,k1,k2]
  ·rw[decide_eq_false c1]at e3 ⊢;dsimp![o0,o1,o2,e1,e2,e3,k1,k2]
 |le=>
  have k1:cU (.str (aN .le)) (.str "=")=some (.bool false):=rfl;have k2:cU (.str (aN .le)) (.str "<=")=some (.bool true):=rfl;rw[hk]at o0;by_cases c1:v<o.2.2
  ·rw[decide_eq_true c1]at e3 ⊢;dsimp![o0,o1,o2,e1,e2,e3,k1,k2,Bool.true_or]
  ·rw[decide_eq_false c1]at e3 ⊢;dsimp![o0,o1,o2,e1,e2,e3,k1,k2,Bool.false_or]
theorem Me(q:Rat):mk q.num (q.den:Int)=qD q:=by
 obtain⟨e1,e2⟩:=Fr.kI q.num (q.den:Int) (sh q);rw[<- F5 q]at e1 e2;show Dat.tuple [.int (Fr.num _ _),.int (Fr.den _ _)]=_;rw[e1,e2]
abbrev TM (F:List Dat->Option Dat):Prop:=∀q:Rat,SR 8000000 q->F [qD q]=some (.bool true)
theorem PJ(T:TX P K mg)(jW:Dn P w K mg base 41 "_law_make" ["n","d"] 2 jV)(U:FnAt K mg "_law_is_fraction" (top 50) ["found"]):
  ∃F,Dn P w K mg base 42 "_law_is_fraction" ["found"] 1 F/\TM F:=by
 refine⟨_,cG ["found","part"] U fun nd _ _ _ _ _ _ _ hr=>
  (ae (aT (cC (cS (cN (bf (bQ "tuple" T.isinstance T.tuple (a5 0)))) (dj (d5 hr (cA T.len (a6 (a5 0) a9)) a8)))) (ag (aq cF)) aL)
  (ae (dD PassesOwn.never rfl (a5 0) (ar 1 nd)
  (ag (aT (cC (cS (cN (bf (bQ "int" T.isinstance T.int (a5 1)))) (dj (bf (bQ "bool" T.isinstance T.bool (a5 1)))))) (ag (aq cF)) aL)))
  (ag (aq (fH (Fy (ah (a5 0) a8) a8) (dG (gh hr (az jW hr (a6 (ah (a5 0) a8) (a6 (ah (a5 0) a8) a9 (hs:=aJ)) (hs:=aJ))) (a5 0)))))))),?_⟩
 intro q hq;have e1:jV [.int q.num,.int (q.den:Int)]=some (qD q):=by rw[mz (by have:=q.den_pos;omega) hq.dn,Me]
 have e2:=oY q q;rw[decide_eq_true rfl]at e2;have i1:gP "tuple" (qD q)=some (.bool true):=rfl;have i2:∀z:Int,gP "int" (.int z)=some (.bool true):=fun _=>rfl;have i3:∀z:Int,gP "bool" (.int z)=some (.bool false):=fun _=>rfl;have l1:i6 [qD q]=some (.int 2):=rfl;have n1:gk (.int 2) (.int 2)=some (.bool false):=by rw[dI];rfl
 have gp:(0:Int)<(q.den:Int):=by have:=q.den_pos;omega
 have hi:cJ (qD q)=some [.int q.num,.int (q.den:Int)]:=rfl;refine bP ?_;simp!;rw[ak (af:=[some (.a7 (qD q)),none]) (by dsimp![i1,l1,n1])];rw[ak (af:=[some (.a7 (qD q)),some (.a7 (.int (q.den:Int)))]) (by
  rw[k7 (d:=qD q) (by dsimp![]) hi];rw[kE (as:=[(1,.int q.num)]) (af:=[some (.a7 (qD q)),some (.a7 (.int q.num))]) rfl (by dsimp![i2,i3])];rw[kE (as:=[(1,.int (q.den:Int))]) (af:=[some (.a7 (qD q)),some (.a7 (.int (q.den:Int)))]) rfl (by dsimp![i2,i3])];rfl)]
 dsimp![wR,NO,gR,eq_true gp,e1,e2]
abbrev Qs (F:List Dat->Option Dat):Prop:=∀(dl:Dat) (ws:List Rat),i6 [dl]=some (.int (ws.length:Int))->cJ dl=some (ws.map qD)->(∀w∈ws,SR 8000000 w)->F [dl,.int (ws.length:Int)]=some (.bool true)
theorem PM(T:TX P K mg)(wg:Dn P w K mg base 42 "_law_is_fraction" ["found"] 1 Fi)(hI:TM Fi)(U:FnAt K mg "_law_are_fractions" (top 51) ["found","many"]):
  ∃F,Dn P w K mg base 43 "_law_are_fractions" ["found","many"] 2 F/\Qs F:=by
 refine⟨_,cG ["found","many","one"] U fun nd _ _ _ _ _ _ _ hr=>
  (ae (aT (d5 hr (cA T.len (a6 (a5 0) a9)) (a5 1)) (ag (aq cF)) aL)
  (ae (dD PassesOwn.never rfl (a5 0) (ar 2 nd)
  (ag (aT (cN (bf (az wg hr (a6 (a5 2) a9)))) (ag (aq cF)) aL)))
  (ag (aq cF)))),?_⟩
 intro dl ws h1 h2 VV;have n1:=dI (ws.length:Int) (ws.length:Int);rw[decide_eq_true rfl]at n1;refine bP ?_;simp!;rw[ak (af:=[some (.a7 (dl)),some (.a7 (.int (ws.length:Int))),none]) (by dsimp![h1,n1])];refine gc (I:=_) (gY (l:=ws) (s:=()) qD (fun _ Γ=>∃u,Γ=[some (.a7 (dl)),some (.a7 (.int (ws.length:Int))),u]) (fun _ l=>∀w∈l,SR 8000000 w) (fun _ _=>()) (d:=dl) rfl h2 VV ⟨none,rfl⟩ ?_) ?_
 ·rintro _ x l Γ hl ⟨u,rfl⟩;have e:=hI x (hl x mem_cons_self);refine⟨[(2,qD x)],rfl,?_⟩;dsimp!;exact⟨[some (.a7 (dl)),some (.a7 (.int (ws.length:Int))),some (.a7 (qD x))],by dsimp![e],⟨_,rfl⟩,fun w hw=>hl w (mem_cons_of_mem _ hw)⟩
 ·rintro af ⟨u,rfl⟩;simp![]
abbrev bL (c e n:Nat):Nat:=FM.bt (c+e) n
abbrev xL (c e n:Nat):Nat:=FC (FM.bt (c+e)) n (bL c e n+bL c e n+3+1)
structure nD (c e:Nat) (p:List Rat) (os:List FM.Ol):Prop where
 ln:tE c e p os
 pz:(bL c e p.length+bL c e p.length+1)+(bL c e p.length+bL c e p.length)+(c+1)*(os.length+1)<=3900000
 sz:Ld c (xL c e p.length) p.length<=3900000
 cs:c+xL c e p.length<=3900000
theorem nD.neg(h:nD c e p os):nD c e (p.map fun q=>0-q) os:=
 ⟨h.ln.neg,by rw[length_map];exact h.pz,by rw[length_map];exact h.sz,by rw[length_map];exact h.cs⟩
theorem t7(h:nD c e p os){s:Bool}(h1:(FM.aZ s p β os).1=true):FM.Right os (FM.aZ s p β os).2 s p β/\∃D,xJ D (bL c e p.length+bL c e p.length+1) (bL c e p.length+bL c e p.length) c p.length os (FM.aZ s p β os).2:=by
 have hlen:∀o∈os,o.2.1.length=p.length:=fun o ho=>(h.ln.ok o ho).len;have hr:FM.Right os (FM.aZ s p β os).2 s p β:=by
  rcases FM.rH hlen s β with⟨_,r⟩|⟨z,_⟩
  ·exact r
  ·rw[h1]at z;cases z
 refine⟨hr,?_⟩;obtain⟨rows,nk,fR⟩:=tV h.ln p.length (le_refl _);have uG:FM.aG p os=rows:=by unfold FM.aG;rw[getD_eq_getElem?_getD,nk];rfl
 have key:Ti (bL c e p.length) (FM.aZ s p β os).2:=by
  unfold FM.aZ at h1 ⊢;rw[uG]at h1 ⊢;cases hn:FM.never p.length rows with
  |some w=>exact IJ fR hn
  |none=>
   rw[hn]at h1;dsimp only at h1 ⊢;cases he:FM.endOf p.length rows 1 with
   |none=>rw[he]at h1;cases h1
   |some t=>
    rw[he]at h1;dsimp only at h1 ⊢;by_cases hk:FM.gn s β t.1 t.2.1=true
    ·rw[if_pos hk];obtain⟨D,d0,d1,hw⟩:=Ab (.inl rfl) fR he;refine⟨D,d0,Nat.le_of_lt (dR d1 (le_add_right _ _)),fun w zG=>?_⟩;obtain⟨W,h2,h3⟩:=hw w zG;exact⟨W,dR h2 (le_trans (le_add_right _ _) (le_add_right _ _)),h3⟩
    ·rw[if_neg hk]at h1;cases h1
 obtain⟨D,d0,d1,hw⟩:=key;exact⟨D,d0,d1,fun o ho=>⟨(h.ln.ok o ho).len,(h.ln.ok o ho).sq,(h.ln.ok o ho).bd⟩,hw,h.pz,by have:=h.ln.sz.n5;omega⟩
theorem td(h:nD c e p os){s:Bool}(dt:SR (bL c e p.length) β)(h1:(FM.aZ s p β os).1=false):FM.vf os s p β (FM.aZ s p β os).2/\∀q∈(FM.aZ s p β os).2,SR (xL c e p.length) q:=by
 have hlen:∀o∈os,o.2.1.length=p.length:=fun o ho=>(h.ln.ok o ho).len;have hr:FM.vf os s p β (FM.aZ s p β os).2:=by
  rcases FM.rH hlen s β with⟨z,_⟩|⟨_,r⟩
  ·rw[h1]at z;cases z
  ·exact r
 refine⟨hr,?_⟩;obtain⟨rows,nk,fR⟩:=tV h.ln p.length (le_refl _);have uG:FM.aG p os=rows:=by unfold FM.aG;rw[getD_eq_getElem?_getD,nk];rfl
 have hb:(FM.aZ s p β os).2=FM.dH (FM.bH p os) p.length (FM.eC p.length rows β):=by
  unfold FM.aZ at h1 ⊢;unfold FM.beyond;rw[uG]at h1 ⊢;cases hn:FM.never p.length rows with
  |some w=>rw[hn]at h1;cases h1
  |none=>
   rw[hn]at h1;dsimp only at h1 ⊢;cases he:FM.endOf p.length rows 1 with
   |none=>rfl
   |some t=>
    rw[he]at h1;dsimp only at h1 ⊢;by_cases hk:FM.gn s β t.1 t.2.1=true
    ·rw[if_pos hk]at h1;cases h1
    ·rw[if_neg hk]
 rw[hb];have hst:∀i,i<p.length->1<=FM.bt (c+e) i/\∃rs,(FM.bH p os)[i]?=some rs/\gZ (p.length+2+os.length) (FM.bt (c+e) i) rs:=fun i hi=>
  ⟨le_trans (show 1<=c+e by have:=h.ln.sz.c1;omega) (FM.p6 _ _),tV h.ln i (Nat.le_of_lt hi)⟩
 have KN:1<=bL c e p.length:=le_trans (show 1<=c+e by have:=h.ln.sz.c1;omega) (FM.p6 _ _);have st:SR (bL c e p.length+bL c e p.length+3) (FM.eC p.length rows β):=by
  have v2:∀y,FM.gF (FM.endOf p.length rows 1)=some y->SR (bL c e p.length) y:=fun y hy=>by
   cases ho:FM.endOf p.length rows 1 with
   |none=>rw[ho]at hy;cases hy
   |some o=>
    rw[ho]at hy;cases hy;exact(mK (.inl rfl) fR ho).1
  unfold FM.eC;refine qK (by omega) (fun x hx=>?_) v2;cases hx;cases ho:FM.endOf p.length rows (-1)with
  |none=>exact dt
  |some o=>
   show SR _ (if 0-o.2.1<β then β else 0-o.2.1);split
   ·exact dt
   ·exact iM (mK (.inr rfl) fR ho).1
 intro q hq;have xc:q∈(FM.dX (FM.bH p os) p.length (List.replicate p.length 0++[FM.eC p.length rows β])).take p.length:=hq;obtain⟨i,hi⟩:=List.getElem?_of_mem xc;have KA:i<p.length:=by
  have:=(List.getElem?_eq_some_iff.mp hi).1;rw[length_take]at this;omega
 have:=Ke hst p.length (bL c e p.length+bL c e p.length+3+1) _ (le_refl _) (rz p.length (FM.eC p.length rows β)) (sR _ _) (vA st) i KA;rw[<- pT KA,getD_eq_getElem?_getD,hi]at this;exact this
abbrev Gk (k:FM.Kn):Bool:=decide (k=.lt)
theorem Rk{k:FM.Kn}(h:k≠.eq):aN k=eX (Gk k):=by cases k<;>first|rfl|exact absurd rfl h
structure Tn (F:List Dat->Option Dat):Prop where
 one:∀(D:Int) (u d c:Nat) (o:FM.Ol) (os:List FM.Ol) (ws:List Rat),o.1≠.eq->xJ D u d c o.2.1.length os ws->ws.length=os.length->SR 3900000 o.2.2->ub (Gk o.1) o.2.1 o.2.2 (os.zip ws)=true->F [aA o,.list (os.map aA),.list (ws.map qD)]=some (.bool true)
 two:∀(D D2:Int) (u d c:Nat) (o:FM.Ol) (os:List FM.Ol) (ws vs:List Rat),o.1=.eq->xJ D u d c o.2.1.length os ws->xJ D2 u d c o.2.1.length os vs->ws.length=os.length->vs.length=os.length->SR 3900000 o.2.2->ub false o.2.1 o.2.2 (os.zip ws)=true->ub false (o.2.1.map fun q=>0-q) (0-o.2.2) (os.zip vs)=true->F [aA o,.list (os.map aA),.tuple [.list (ws.map qD),.list (vs.map qD)]]=some (.bool true)
theorem DF(h:xJ D u d c n os ws):∀w∈ws,SR 8000000 w:=fun w hw=>(JN h.D0 h.Dd (h.wt w hw)).up (by have:=h.sz;omega)
variable {Fa:List Dat->Option Dat}
theorem MC(T:TX P K mg){Fr:List Dat->Option Dat}(i9:Dn P w K mg base 44 "_law_are_fractions" ["found","many"] 2 Fa)(hA:Qs Fa)(tI:Dn P w K mg base 44 "_law_right" ["kind","parts","bound","others","weights"] 5 Fr)(hR:Th Fr)(HM:Dn P w K mg base 44 "_law_turned" ["parts","bound"] 2 Ft)(hT:∀(p:List Rat) (β:Rat),p.length<=100->Ft [bA p,qD β]=some (.tuple [bA (p.map fun q=>0-q),qD (0-β)]))(U:FnAt K mg "_law_paper_shows" (top 57) ["line","others","paper"]):
  ∃F,Dn P w K mg base 45 "_law_paper_shows" ["line","others","paper"] 3 F/\Tn F:=by
 refine⟨_,cG ["line","others","paper","kind","parts","bound","one","less","more"] U fun nd _ _ _ _ _ _ _ hr=>
  (ae (sN (a5 0) (dh (n:=3) rfl (aW (ar 3 nd) (aW (ar 4 nd) (aW (ar 5 nd) cM)))))
  (ae (aT (d5 hr (a5 3) aY) (ag (aq (fH (bQ "list" T.isinstance T.list (a5 2)) (fH (az i9 hr (a6 (a5 2) (a6 (cA T.len (a6 (a5 1) a9)) a9 (hs:=aX)))) (dG (az tI hr (a6 (a5 3) (a6 (a5 4) (a6 (a5 5) (a6 (a5 1) (a6 (a5 2) a9))))))))))) aL)
  (ae (aT (cC (cS (cN (bf (bQ "tuple" T.isinstance T.tuple (a5 2)))) (dj (d5 hr (cA T.len (a6 (a5 2) a9)) a8)))) (ag (aq cF)) aL)
  (ae (dD PassesOwn.never rfl (a5 2) (ar 6 nd)
  (ag (aT (cC (cS (cN (bf (bQ "list" T.isinstance T.list (a5 6)))) (dj (cN (bf (az i9 hr (a6 (a5 6) (a6 (cA T.len (a6 (a5 1) a9)) a9 (hs:=aX))))))))) (ag (aq cF)) aL)))
  (ae (sN (az HM hr (a6 (a5 4) (a6 (a5 5) a9))) (dh (n:=2) rfl (aW (ar 7 nd) (aW (ar 8 nd) cM))))
  (ag (aq (fH (az tI hr (a6 aY (a6 (a5 4) (a6 (a5 5) (a6 (a5 1) (a6 (ah (a5 2) a8) a9 (hs:=aJ))))))) (dG (az tI hr (a6 aY (a6 (a5 7) (a6 (a5 8) (a6 (a5 1) (a6 (ah (a5 2) a8) a9 (hs:=aJ)))))))))))))))),?_⟩
 have il:∀xs:List Dat,gP "list" (.list xs)=some (.bool true):=fun _=>rfl;refine⟨?_,?_⟩
 ·intro D u d c o os ws hk hI hl hb hr;have e1:=hA (.list (ws.map qD)) ws (jw qD ws) rfl (DF hI);rw[hl]at e1;have e2:=hR D u d c (Gk o.1) o.2.1 o.2.2 os ws hI hb;rw[hr,<- Rk hk]at e2;have lo:=jw aA os;have k1:¬aN o.1="=":=fun z=>hk ((i7 o.1).mp z);refine bP ?_;simp!;rw[ak (af:=[some (.a7 (aA o)),some (.a7 (.list (os.map aA))),some (.a7 (.list (ws.map qD))),some (.a7 (.str (aN o.1))),some (.a7 (bA o.2.1)),some (.a7 (qD o.2.2)),none,none,none]) (by simp![])];dsimp![jD,eq_false k1,il,lo,e1,e2]
 ·intro D D2 u d c o os ws vs hk hI Cr hl rZ hb hr lG;have e1:=hA (.list (ws.map qD)) ws (jw qD ws) rfl (DF hI);have CL:=hA (.list (vs.map qD)) vs (jw qD vs) rfl (DF Cr);rw[hl]at e1;rw[rZ]at CL;have e2:=hR D u d c false o.2.1 o.2.2 os ws hI hb;have e2:Fr [.str "<=",bA o.2.1,qD o.2.2,.list (os.map aA),.list (ws.map qD)]=some (.bool true):=by rw[hr]at e2;exact e2
  have e3:=hR D2 u d c false (o.2.1.map fun q=>0-q) (0-o.2.2) os vs (by rw[length_map];exact Cr) (iM hb);have e3:Fr [.str "<=",bA (o.2.1.map fun q=>0-q),qD (0-o.2.2),.list (os.map aA),.list (vs.map qD)]=some (.bool true):=by rw[lG]at e3;exact e3
  have e4:=hT o.2.1 o.2.2 hI.n1;have lo:=jw aA os;have k1:=(i7 o.1).mpr hk;have it:∀a b:Dat,gP "tuple" (.tuple [a,b])=some (.bool true):=fun _ _=>rfl;have l2:∀a b:Dat,i6 [.tuple [a,b]]=some (.int 2):=fun _ _=>rfl;have n1:gk (.int 2) (.int 2)=some (.bool false):=by rw[dI];rfl
  have a0:∀a b:Dat,bz (.tuple [a,b]) (.int 0)=some a:=fun _ _=>rfl;have a1:∀a b:Dat,bz (.tuple [a,b]) (.int 1)=some b:=fun _ _=>rfl;generalize VX:Dat.list (ws.map qD)=d1 at *;generalize VW:Dat.list (vs.map qD)=d2 at *;have i1:gP "list" d1=some (.bool true):=by rw[<- VX];rfl
  have i2:gP "list" d2=some (.bool true):=by rw[<- VW];rfl
  have hi:cJ (.tuple [d1,d2])=some [d1,d2]:=rfl;refine bP ?_;simp!;rw[ak (af:=[some (.a7 (aA o)),some (.a7 (.list (os.map aA))),some (.a7 (.tuple [d1,d2])),some (.a7 (.str (aN o.1))),some (.a7 (bA o.2.1)),some (.a7 (qD o.2.2)),none,none,none]) (by simp![])];rw[ak (af:=[some (.a7 (aA o)),some (.a7 (.list (os.map aA))),some (.a7 (.tuple [d1,d2])),some (.a7 (.str (aN o.1))),some (.a7 (bA o.2.1)),some (.a7 (qD o.2.2)),none,none,none]) (by dsimp![jD,eq_true k1])];rw[ak (af:=[some (.a7 (aA o)),some (.a7 (.list (os.map aA))),some (.a7 (.tuple [d1,d2])),some (.a7 (.str (aN o.1))),some (.a7 (bA o.2.1)),some (.a7 (qD o.2.2)),none,none,none]) (by dsimp![it,l2,n1])];rw[ak (af:=[some (.a7 (aA o)),some (.a7 (.list (os.map aA))),some (.a7 (.tuple [d1,d2])),some (.a7 (.str (aN o.1))),some (.a7 (bA o.2.1)),some (.a7 (qD o.2.2)),some (.a7 (d2)),none,none]) (by
   rw[k7 (d:=.tuple [d1,d2]) (by dsimp![]) hi];rw[kE (as:=[(6,d1)]) (af:=[some (.a7 (aA o)),some (.a7 (.list (os.map aA))),some (.a7 (.tuple [d1,d2])),some (.a7 (.str (aN o.1))),some (.a7 (bA o.2.1)),some (.a7 (qD o.2.2)),some (.a7 (d1)),none,none]) rfl (by dsimp![i1,lo,e1])];rw[kE (as:=[(6,d2)]) (af:=[some (.a7 (aA o)),some (.a7 (.list (os.map aA))),some (.a7 (.tuple [d1,d2])),some (.a7 (.str (aN o.1))),some (.a7 (bA o.2.1)),some (.a7 (qD o.2.2)),some (.a7 (d2)),none,none]) rfl (by dsimp![i2,lo,CL])];rfl)]
  rw[ak (af:=[some (.a7 (aA o)),some (.a7 (.list (os.map aA))),some (.a7 (.tuple [d1,d2])),some (.a7 (.str (aN o.1))),some (.a7 (bA o.2.1)),some (.a7 (qD o.2.2)),some (.a7 (d2)),some (.a7 (bA (o.2.1.map fun q=>0-q))),some (.a7 (qD (0-o.2.2)))]) (by dsimp![e4])];dsimp![a0,a1,e2,e3]
abbrev Tf (F:List Dat->Option Dat):Prop:=∀(c e:Nat) (o:FM.Ol) (os:List FM.Ol),nD c e o.2.1 os->SR (bL c e o.2.1.length) o.2.2->F [aA o,.list (os.map aA),uK o.1 o.2.1 o.2.2 os]=some (.bool true)
theorem pP(p x:List Rat):FM.aF (p.map fun q=>0-q) x=0-FM.aF p x:=by
 unfold FM.aF;rw[length_map];rw[FM.aO (g:=fun c=>(-1)*(p.getD c 0*x.getD c 0)) (fun c hc=>?_),FM.bE]
 ·grind
 ·rw[getD_eq_getElem?_getD,getElem?_map,getD_eq_getElem?_getD (l:=p),getElem?_eq_getElem hc];show(0-p[c])*_=(-1)*(p[c]*_);grind
structure Q7 (Fp Fh F:List Dat->Option Dat):Prop where
 T1:∀(dl Pm pp:Dat),Fp [dl,Pm,pp]=some (.bool true)->F [dl,Pm,.tuple [.str "follows",pp]]=some (.bool true)
 brk:∀(o:FM.Ol) (os:List FM.Ol) (x:List Rat),x.length=o.2.1.length->(∀q∈x,SR 8000000 q)->(∀q∈os,Fh [aA q,bA x]=some (.bool true))->Fh [aA o,bA x]=some (.bool false)->F [aA o,.list (os.map aA),.tuple [.str "breaks",bA x]]=some (.bool true)
theorem MB(T:TX P K mg)(wc:Dn P w K mg base 45 "_law_paper_shows" ["line","others","paper"] 3 Fp)(i9:Dn P w K mg base 45 "_law_are_fractions" ["found","many"] 2 Fa)(hA:Qs Fa)(AN:Dn P w K mg base 45 "_law_holds" ["line","point"] 2 Fh)(U:FnAt K mg "_law_told" (top 58) ["line","others","found"]):
  ∃F,Dn P w K mg base 46 "_law_told" ["line","others","found"] 3 F/\Q7 Fp Fh F:=by
 refine⟨_,cG ["line","others","found","other"] U fun nd _ _ _ _ _ _ _ hr=>
  (ae (aT (cC (cS (cN (bf (bQ "tuple" T.isinstance T.tuple (a5 2)))) (cS (d5 hr (cA T.len (a6 (a5 2) a9)) a8) (dj (cN (bf (bQ "str" T.isinstance T.str (ah (a5 2) a8)))))))) (ag (aq cF)) aL)
  (ae (aT (bZ hr (ah (a5 2) a8) aY) (ag (aq (az wc hr (a6 (a5 0) (a6 (a5 1) (a6 (ah (a5 2) a8) a9 (hs:=aJ))))))) aL)
  (ae (aT (cC (cS (d5 hr (ah (a5 2) a8) aY) (cS (cN (bf (bQ "tuple" T.isinstance T.tuple (ah (a5 2) a8)))) (dj (cN (bf (az i9 hr (a6 (ah (a5 2) a8) (a6 (cA T.len (a6 (ah (a5 0) a8) a9 (hs:=aJ))) a9 (hs:=aX)) (hs:=aJ))))))))) (ag (aq cF)) aL)
  (ae (dD PassesOwn.never rfl (a5 1) (ar 3 nd)
  (ag (aT (cN (bf (az AN hr (a6 (a5 3) (a6 (ah (a5 2) a8) a9 (hs:=aJ)))))) (ag (aq cF)) aL)))
  (ag (aq (BI (az AN hr (a6 (a5 0) (a6 (ah (a5 2) a8) a9 (hs:=aJ))))))))))),?_⟩
 have i1:∀a b:Dat,gP "tuple" (.tuple [a,b])=some (.bool true):=fun _ _=>rfl;have i2:∀s:Str,gP "str" (.str s)=some (.bool true):=fun _=>rfl;have l2:∀a b:Dat,i6 [.tuple [a,b]]=some (.int 2):=fun _ _=>rfl;have n1:gk (.int 2) (.int 2)=some (.bool false):=by rw[dI];rfl
 have a0:∀a b:Dat,bz (.tuple [a,b]) (.int 0)=some a:=fun _ _=>rfl;have a1:∀a b:Dat,bz (.tuple [a,b]) (.int 1)=some b:=fun _ _=>rfl;have kF:cU (.str "follows") (.str "follows")=some (.bool true):=rfl;have kB:cU (.str "breaks") (.str "follows")=some (.bool false):=rfl;have VR:gk (.str "breaks") (.str "breaks")=some (.bool false):=rfl;refine⟨?_,?_⟩
 ·intro dl Pm pp h;dsimp![i1,i2,l2,n1,a0,a1,kF,h]
 ·intro o os x hx hs ho hn;have e1:=hA (bA x) x (by show some (Dat.int ((x.map qD).length:Nat))=_;rw[length_map]) rfl hs;rw[hx]at e1;have o1:bz (aA o) (.int 1)=some (bA o.2.1):=rfl;have lp:i6 [bA o.2.1]=some (.int o.2.1.length):=by show some (Dat.int ((o.2.1.map qD).length:Nat))=_;rw[length_map]
  have i3:gP "tuple" (bA x)=some (.bool true):=rfl;have hd:∀dx:Dat,dx=bA x->True:=fun _ _=>trivial;generalize bA x=dx at *;refine bP ?_;simp!;rw[ak (af:=[some (.a7 (aA o)),some (.a7 (.list (os.map aA))),some (.a7 (.tuple [.str "breaks",dx])),none]) (by dsimp![i1,i2,l2,n1,a0])];rw[ak (af:=[some (.a7 (aA o)),some (.a7 (.list (os.map aA))),some (.a7 (.tuple [.str "breaks",dx])),none]) (by dsimp![a0,kB])];rw[ak (af:=[some (.a7 (aA o)),some (.a7 (.list (os.map aA))),some (.a7 (.tuple [.str "breaks",dx])),none]) (by dsimp![a0,a1,VR,i3,o1,lp,e1])];refine gc (I:=_) (gY (l:=os) (s:=()) aA (fun _ Γ=>∃u,Γ=[some (.a7 (aA o)),some (.a7 (.list (os.map aA))),some (.a7 (.tuple [.str "breaks",dx])),u]) (fun _ l=>∀q∈l,q∈os) (fun _ _=>()) (d:=.list (os.map aA)) rfl rfl (fun _ h=>h) ⟨none,rfl⟩ ?_) ?_
  ·rintro _ q l Γ hl ⟨u,rfl⟩;have e:=ho q (hl q mem_cons_self);refine⟨[(3,aA q)],rfl,?_⟩;dsimp!;exact⟨[some (.a7 (aA o)),some (.a7 (.list (os.map aA))),some (.a7 (.tuple [.str "breaks",dx])),some (.a7 (aA q))],by dsimp![a1,e],⟨_,rfl⟩,fun w hw=>hl w (mem_cons_of_mem _ hw)⟩
  ·rintro af ⟨u,rfl⟩;dsimp![a1,hn]
theorem As(hB:nD c e o.2.1 os)(dt:SR (bL c e o.2.1.length) o.2.2){F:List Dat->Option Dat}(hH:Qj Fh)(hT:Q7 Fp Fh F){x:List Rat}(uE:x.length=o.2.1.length)(hx:∀q∈x,SR (xL c e o.2.1.length) q)(kY:∀q∈os,FM.cK q x)(hn:¬FM.cK o x):
  F [aA o,.list (os.map aA),.tuple [.str "breaks",bA x]]=some (.bool true):=by
 have pC:=hB.ln.sz.bt;have KI:=hB.cs;refine hT.brk o os x uE (fun q hq=>(hx q hq).up (by omega)) (fun q hq=>?_) ?_
 ·have xc:=hB.ln.ok q hq;have:=hH c (xL c e o.2.1.length) q x ⟨by rw[uE,xc.len],xc.sq,hx,by rw[xc.len];exact hB.sz,hB.cs⟩ (xc.bd.up (by omega));rw[(Cn q x).mpr (kY q hq)]at this;exact this
 ·have:=hH c (xL c e o.2.1.length) o x ⟨uE,hB.ln.sp,hx,hB.sz,hB.cs⟩ (dt.up (le_trans pC (by decide)));rw[eq_false_iff.mpr (fun z=>hn ((Cn o x).mp z))]at this;exact this
theorem Lq{F:List Dat->Option Dat}(hP:Tn Fp)(hH:Qj Fh)(hT:Q7 Fp Fh F):Tf F:=by
 rintro c e ⟨k,p,β⟩ os hB dt;dsimp only at hB dt ⊢;have hlen:∀q∈os,q.2.1.length=p.length:=fun q hq=>(hB.ln.ok q hq).len;have pC:=hB.ln.sz.bt;have OH:SR 3900000 β:=dt.up (le_trans pC (by decide));have one:∀(s:Bool),k=(if s=true then .lt else .le)->F [aA (k,p,β),.list (os.map aA),jN (FM.aZ s p β os)]=some (.bool true):=fun s hk=>by
  have xh:Gk k=s:=by rw[hk];cases s<;>rfl
  have Wk:k≠.eq:=by rw[hk];cases s<;>simp
  cases h1:(FM.aZ s p β os).1 with
  |true=>
   obtain⟨hr,D,hI⟩:=t7 hB h1;have e:jN (FM.aZ s p β os)=.tuple [.str "follows",.list ((FM.aZ s p β os).2.map qD)]:=if_pos h1;rw[e];exact hT.T1 _ _ _ (hP.one D _ _ c (k,p,β) os _ Wk hI hr.1.len OH (by show ub (Gk k) p β _=true;rw[xh];exact pZ hlen hr))
  |false=>
   obtain⟨hr,hx⟩:=td hB dt h1;have e:jN (FM.aZ s p β os)=.tuple [.str "breaks",bA (FM.aZ s p β os).2]:=if_neg (by rw[h1];exact Bool.false_ne_true);rw[e];refine As (o:=(k,p,β)) hB dt hH hT hr.len hx hr.others ?_;show ¬FM.rel k _ _;rw[hk];exact hr.line
 cases k with
 |lt=>exact one true rfl
 |le=>exact one false rfl
 |eq=>
  show F [aA (.eq,p,β),.list (os.map aA),if(FM.aZ false p β os).1=true then(if(FM.aZ false (p.map fun q=>0-q) (0-β) os).1=true then .tuple [.str "follows",.tuple [.list ((FM.aZ false p β os).2.map qD),.list ((FM.aZ false (p.map fun q=>0-q) (0-β) os).2.map qD)]]else jN (FM.aZ false (p.map fun q=>0-q) (0-β) os))else jN (FM.aZ false p β os)]=_;have UM:SR (bL c e (p.map fun q=>0-q).length) (0-β):=by rw[length_map];exact iM dt
  cases h1:(FM.aZ false p β os).1 with
  |false=>
   rw[if_neg Bool.false_ne_true];obtain⟨hr,hx⟩:=td hB dt h1;have e:jN (FM.aZ false p β os)=.tuple [.str "breaks",bA (FM.aZ false p β os).2]:=if_neg (by rw[h1];exact Bool.false_ne_true);rw[e];refine As (o:=(.eq,p,β)) hB dt hH hT hr.len hx hr.others ?_;intro(z:FM.aF p _=β);exact hr.line (show FM.aF p _<=β by rw[z];grind)
  |true=>
   rw[if_pos rfl];obtain⟨hr,D,hI⟩:=t7 hB h1;cases h2:(FM.aZ false (p.map fun q=>0-q) (0-β) os).1 with
   |false=>
    rw[if_neg Bool.false_ne_true];obtain⟨lG,fj⟩:=td hB.neg UM h2;have e:jN (FM.aZ false (p.map fun q=>0-q) (0-β) os)=.tuple [.str "breaks",bA (FM.aZ false (p.map fun q=>0-q) (0-β) os).2]:=if_neg (by rw[h2];exact Bool.false_ne_true);rw[e];have rZ:=lG.len;rw[length_map]at rZ fj;refine As (o:=(.eq,p,β)) hB dt hH hT rZ fj lG.others ?_;intro(z:FM.aF p _=β);exact lG.line (show FM.aF (p.map fun q=>0-q) _<=0-β by rw[pP,z];grind)
   |true=>
    rw[if_pos rfl];obtain⟨lG,D2,Cr⟩:=t7 hB.neg h2;have Cr:xJ D2 (bL c e p.length+bL c e p.length+1) (bL c e p.length+bL c e p.length) c p.length os (FM.aZ false (p.map fun q=>0-q) (0-β) os).2:=by
     have:=Cr;rw[length_map]at this;exact this
    exact hT.T1 _ _ _ (hP.two D D2 _ _ c (.eq,p,β) os _ _ rfl hI Cr hr.1.len lG.1.len OH (pZ hlen hr) (pZ (by rw[length_map];exact hlen) lG))
def Al:Nat->Dat->Prop
 |0,_=>False
 |n+1,.tuple ds=>ds.length<=1000/\∀d∈ds,Al n d
 |n+1,.list ds=>ds.length<=1000/\∀d∈ds,Al n d
 |_+1,.int _=>True
 |_+1,.str _=>True
 |_+1,_=>False
abbrev Ug (n:Nat) (F:List Dat->Option Dat):Prop:=∀d,Al n d->F [d,d]=some (.bool true)
theorem NA(h:n<=1000):ip [.int (n:Int)]=some ((range' 0 n).map nat):=by
 rw[yG n (by omega)];unfold fO;rw[List.range_eq_range'];congr 1
 exact map_congr_left fun i _=>by rw[Int.zero_add]
variable {d:Dat}
theorem Ta(h:ds[i]?=some d):fS ds (i:Int)=some d:=by
 have hl:i<ds.length:=(List.getElem?_eq_some_iff.mp h).1;unfold L2.fS L2.lE;rw[if_pos (by omega),if_pos (by omega)];simpa using h
theorem CQ(T:TX P K mg)(U:FnAt K mg "_law_alike" (top 61) ["found","due"]):∀n:Nat,
  ∃F,Dn P w K mg base (40+n) "_law_alike" ["found","due"] 2 F/\Ug n F
 |0=>by
  obtain⟨f,fd,U,hm,hB⟩:=U.ex;exact⟨fun _=>none,Mq U hm hB,fun d h=>h.elim⟩
 |n+1=>by
  obtain⟨F0,tK,h0⟩:=CQ T U n;refine⟨_,cG ["found","due","k"] U fun nd _ _ _ _ _ _ _ hr=>
   (ae (aT (dk (a5 1) cz) (ag (aq (LL (a5 0) cz))) aL)
  (ae (aT (bf (bQ "bool" T.isinstance T.bool (a5 1))) (ag (aq (fH (bQ "bool" T.isinstance T.bool (a5 0)) (dG (gh hr (a5 0) (a5 1)))))) aL)
  (ae (aT (bf (bQ "int" T.isinstance T.int (a5 1))) (ag (aq (fH (bQ "int" T.isinstance T.int (a5 0)) (fH (BI (bQ "bool" T.isinstance T.bool (a5 0))) (dG (gh hr (a5 0) (a5 1))))))) aL)
  (ae (aT (bf (bQ "str" T.isinstance T.str (a5 1))) (ag (aq (fH (bQ "str" T.isinstance T.str (a5 0)) (dG (gh hr (a5 0) (a5 1)))))) aL)
  (ae (aT (bf (bQ "tuple" T.isinstance T.tuple (a5 1))) (ag (aT (cN (bf (bQ "tuple" T.isinstance T.tuple (a5 0)))) (ag (aq cF)) aL)) (ag (aT (cN (bf (bQ "list" T.isinstance T.list (a5 0)))) (ag (aq cF)) aL)))
  (ae (aT (d5 hr (cA T.len (a6 (a5 0) a9)) (cA T.len (a6 (a5 1) a9))) (ag (aq cF)) aL)
  (ae (oC PassesOwn.never rfl T.range (a6 (cA T.len (a6 (a5 1) a9)) a9 (hs:=aX)) (ar 2 nd) (ag (aT (cN (bf (az tK hr (a6 (ah (a5 0) (a5 2)) (a6 (ah (a5 1) (a5 2)) a9 (hs:=aJ)) (hs:=aJ))))) (ag (aq cF)) aL)))
  (ag (aq cF))))))))),?_⟩
  intro d hd;have nb:∀x,gP "bool" (.str x)=some (.bool false):=fun _=>rfl;have ni:∀x,gP "int" (.str x)=some (.bool false):=fun _=>rfl;have tb:∀x,gP "bool" (.tuple x)=some (.bool false):=fun _=>rfl;have ti:∀x,gP "int" (.tuple x)=some (.bool false):=fun _=>rfl;have ts:∀x,gP "str" (.tuple x)=some (.bool false):=fun _=>rfl;have lb:∀x,gP "bool" (.list x)=some (.bool false):=fun _=>rfl;have li:∀x,gP "int" (.list x)=some (.bool false):=fun _=>rfl;have ls:∀x,gP "str" (.list x)=some (.bool false):=fun _=>rfl;have lt:∀x,gP "tuple" (.list x)=some (.bool false):=fun _=>rfl;have ll:∀x,gP "list" (.list x)=some (.bool true):=fun _=>rfl;have Sb:∀x:List Dat,i6 [.tuple x]=some (.int (x.length:Int)):=fun _=>rfl;have Sd:∀x:List Dat,i6 [.list x]=some (.int (x.length:Int)):=fun _=>rfl;have fin:∀{ds:List Dat} {dl:Dat} (hn:ds.length<=1000) (ha:∀d∈ds,Al n d) (hl:i6 [dl]=some (.int (ds.length:Int))) (hx:∀i d,ds[i]?=some d->bz dl (nat i)=some d) (hp:F0=F0),
    dO (xX ip (aName 2) (kv (j4 (iR (iS 2 F0 (aU (L3.f2 bz (aH 0) (aH 2)) (aU (L3.f2 bz (aH 1) (aH 2)) bS))))) (k6 (fC (.bool false))) iA) (aU (gy i6 (aU (aH 1) bS)) bS)) (k6 (fC (.bool true))) [some (.a7 (dl)),some (.a7 (dl)),none]=some (.rt (.bool true)):=by
   intro ds dl hn ha hl hx _;obtain⟨af,e1,u,e2⟩:=qC (as:=[.int ((ds.length:Nat):Int)]) (l:=range' 0 ds.length) (s:=()) (rg:=ip) (gt:=aName 2) (gb:=kv (j4 (iR (iS 2 F0 (aU (L3.f2 bz (aH 0) (aH 2)) (aU (L3.f2 bz (aH 1) (aH 2)) bS))))) (k6 (fC (.bool false))) iA) (fs:=aU (gy i6 (aU (aH 1) bS)) bS) (Γ:=[some (.a7 (dl)),some (.a7 (dl)),none]) nat (fun _ Γ=>∃u,Γ=[some (.a7 (dl)),some (.a7 (dl)),u]) (fun _ l=>∀i∈l,i<ds.length) (fun s _=>s) (by simp![hl]) (NA hn) (fun i hi=>by rw[List.mem_range']at hi;omega) ⟨none,rfl⟩ (by
     rintro s i l Γ hi ⟨u,rfl⟩;refine⟨[(2,nat i)],rfl,[some (.a7 (dl)),some (.a7 (dl)),some (.a7 (nat i))],?_,⟨_,rfl⟩,fun j hj=>hi j (mem_cons_of_mem _ hj)⟩;have dJ:=hi i mem_cons_self;have e:=hx i ds[i] (getElem?_eq_getElem dJ);have t:=h0 ds[i] (ha _ (List.getElem_mem _));dsimp![e,t])
   rw[ak e1,e2];simp![]
  cases d with
  |int i=>simp![ka,oN,OA,OB,d7]
  |str x=>simp![ka,oN,nb,ni,Rn,jQ rfl]
  |tuple ds=>
   refine bP ?_;simp!;rw[ak (af:=[some (.a7 (.tuple ds)),some (.a7 (.tuple ds)),none]) (by simp![ka,oN]),ak (af:=[some (.a7 (.tuple ds)),some (.a7 (.tuple ds)),none]) (by simp![tb]),ak (af:=[some (.a7 (.tuple ds)),some (.a7 (.tuple ds)),none]) (by simp![ti]),ak (af:=[some (.a7 (.tuple ds)),some (.a7 (.tuple ds)),none]) (by simp![ts]),ak (af:=[some (.a7 (.tuple ds)),some (.a7 (.tuple ds)),none]) (by simp![Rm]),ak (af:=[some (.a7 (.tuple ds)),some (.a7 (.tuple ds)),none]) (by simp![Sb,dI])];exact fin hd.1 hd.2 (Sb _) (fun i d hi=>Ta hi) rfl
  |list ds=>
   refine bP ?_;simp!;rw[ak (af:=[some (.a7 (.list ds)),some (.a7 (.list ds)),none]) (by simp![ka,oN]),ak (af:=[some (.a7 (.list ds)),some (.a7 (.list ds)),none]) (by simp![lb]),ak (af:=[some (.a7 (.list ds)),some (.a7 (.list ds)),none]) (by simp![li]),ak (af:=[some (.a7 (.list ds)),some (.a7 (.list ds)),none]) (by simp![ls]),ak (af:=[some (.a7 (.list ds)),some (.a7 (.list ds)),none]) (by simp![lt,ll]),ak (af:=[some (.a7 (.list ds)),some (.a7 (.list ds)),none]) (by simp![Sd,dI])];exact fin hd.1 hd.2 (Sd _) (fun i d hi=>Ta hi) rfl
  |_=>exact hd.elim
theorem HW{x:Int×Int}(h:Sm x):∃q:Rat,jP x=qD q/\SR 100 q:=by
 refine⟨⟨x.1,x.2.natAbs,by have:=h.pos;omega,h.Am⟩,?_,⟨h.ln,h.ld⟩⟩;show Dat.tuple [.int x.1,.int x.2]=Dat.tuple [.int x.1,.int (x.2.natAbs:Int)];rw[show(x.2.natAbs:Int)=x.2 by have:=h.pos;omega]
theorem K2:∀{xs:List (Int×Int)},(∀x∈xs,Sm x)->∃qs:List Rat,nM xs=bA qs/\qs.length=xs.length/\∀q∈qs,SR 100 q
 |[],_=>⟨[],rfl,rfl,fun q hq=>by simp at hq⟩
 |x::xs,h=>by
  obtain⟨q,e,s⟩:=HW (h x mem_cons_self);obtain⟨qs,e2,hl,s2⟩:=K2 (xs:=xs) fun y hy=>h y (mem_cons_of_mem _ hy);refine⟨q::qs,?_,by rw[length_cons,length_cons,hl],fun y hy=>?_⟩
  ·show Dat.tuple (jP x::xs.map jP)=Dat.tuple (qD q::qs.map qD);have:xs.map jP=qs.map qD:=by
    have e2:Dat.tuple (xs.map jP)=Dat.tuple (qs.map qD):=e2;injection e2
   rw[e,this]
  ·rcases mem_cons.mp hy with e|hy
   ·rw[e];exact s
   ·exact s2 y hy
theorem Rl{k:Str}(h:Kd k):∃n:FM.Kn,k=aN n:=by
 rcases h with e|e|e
 ·exact⟨.eq,e⟩
 ·exact⟨.lt,e⟩
 ·exact⟨.le,e⟩
theorem Ca{r:R}(h:gJ r)(hm:m<=9)(g:Bool):∃(o:FM.Ol) (r':R),lu (rD r) [.int (m:Int),.bool g]=some (aA o,rD r')/\gJ r'/\v8 100 m o:=by
 have o1:=fc (m:=5) h;have e:=HK (g:=g) (m:=(m:Int)) h (by omega) (by omega);obtain⟨p1,p2,p3⟩:=Ah ((m:Int)).toNat (g:=g) o1;obtain⟨b1,b2⟩:=rJ (g:=g) p2;obtain⟨kn,hk⟩:=Rl (Kr (hG r (m:=5) (by decide))).2;obtain⟨qs,e2,hl,s2⟩:=K2 p1;obtain⟨q,e3,s3⟩:=HW b1;refine⟨(kn,qs,q),(Gg r (m:Int) g).2,?_,b2,by show qs.length=m;rw[hl,p3];rfl,s2,s3⟩;refine e.trans ?_;show some (Dat.tuple [.str (zy (tk r 5)),nM (o9 ((m:Int)).toNat (tr r 5) g).1,jP (dQ (o9 ((m:Int)).toNat (tr r 5) g).2 g).1],_)=_;rw[hk,e2,e3]
variable {dN:List Dat}
theorem iX{N:List Str}{g:ax->Option Fl}{es:List Dat}(h:g (startM N ds es)=some (.rm d Γ))(h0:Γ[0]?=some (some (.own dN))):runM N g ds es=some (d,dN):=by
 unfold runM;rw[h];show(match (Γ[0]? : Option (Option Slot))with|some (some (.own dN))=>some (d,dN)|_=>none)=_
 rw[h0]
theorem rN{gt:Dat->Option cW}{fe:HF}{tl:ax}{β:Type}(enc:β->Dat)(Pp:β->Prop):∀(ao:List Dat),(∀d∈ao,∀r:R,gJ r->∃as,gt d=some as/\∃(x:β) (r':R) (EG:ax),fe (setG (some (.own (rD r))::tl) as)=some (enc x,some (.own (rD r'))::EG)/\gJ r'/\Pp x)->
  ∀r:R,gJ r->∃(xs:List β) (r':R),kh gt fe tl ao (rD r)=some (xs.map enc,rD r')/\gJ r'/\xs.length=ao.length/\∀x∈xs,Pp x
 |[],_,r,h=>⟨[],r,rfl,h,rfl,fun x hx=>by simp at hx⟩
 |d::ao,st,r,h=>by
  obtain⟨as,e1,x,r1,EG,e2,h1,px⟩:=st d mem_cons_self r h;obtain⟨xs,r2,e3,h2,hl,hp⟩:=rN enc Pp ao (fun d hd=>st d (mem_cons_of_mem _ hd)) r1 h1;refine⟨x::xs,r2,?_,h2,by rw[length_cons,length_cons,hl],fun y hy=>?_⟩
  ·show(gt d).bind _=_;rw[e1];show(fe (setG (some (.own (rD r))::tl) as)).bind _=_;rw[e2];show((kh gt fe tl ao (rD r1)).map _)=_;rw[e3];rfl
  ·rcases mem_cons.mp hy with e|h
   ·rw[e];exact px
   ·exact hp y h
theorem Nk{s:Nat}{x:List Rat}(h:CY c s p x):SR (Ld c s p.length) (FM.aF p x):=by
 have h1:=yu (c:=c) (s:=s) (p.zip x) 1 0 (fun q hq=>⟨h.sp q.1 (of_mem_zip hq).1,h.sx q.2 (of_mem_zip hq).2⟩) (kr (by decide));have e:=n6 p x 0 h.len;rw[e,length_zip,h.len,min_self]at h1;rw[show(0:Rat)+FM.aF p x=FM.aF p x by grind]at h1;exact h1
theorem Ml:cU (.list []) (.list [])=some (.bool true):=by
 unfold cU;rw[Jb rfl (fun b h=>by cases h) (fun b h=>by cases h)];rfl
theorem J9(c:Int)(cs:List Int)(h:kqdOk 9 (.list ((c::cs).map .int))=true):cU (.list ((c::cs).map .int)) (.list [])=some (.bool false):=by
 have e:eqB (.list ((c::cs).map .int)) (.list [])=if kqdOk 9 (.list ((c::cs).map .int))=true/\kqdOk 9 (.list [])=true then some (lz (.list ((c::cs).map .int)) (.list []))else none:=rfl;unfold cU;rw[e,if_pos ⟨h,rfl⟩,mN (fun z=>by cases z)];rfl
def NF (c:Int):R:=((c.natAbs:Int),((c.fmod 2147483647+1)*742938285).fmod 2147483647)
theorem ND(c:Int):gJ (NF c):=by
 have:=lX ((c.fmod 2147483647+1)*742938285) (b:=2147483647) (by decide);exact⟨this.1,by show((c.fmod 2147483647+1)*742938285).fmod 2147483647<_;omega⟩
abbrev HJ:List Dat->Option (List Dat):=fun ds=>match ds with|[.int c]=>some (rD ((c.natAbs:Int),((c.fmod 2147483647+1)*742938285).fmod 2147483647))|_=>none
def Ep:List Dat->Option Dat:=open Classical in fun ds=>if ∃ns:List Int,ds=[.list (ns.map .int)]/\ns.length<=63 then some (.bool true)else none
theorem M7(cs:List Int)(h:cs.length<=63):kqdOk 9 (.list (cs.map .int))=true:=by
 show(cs.map Dat.int).all (kqdOk 8)=true;rw[all_map,all_eq_true];exact fun x _=>rfl
theorem Lp{I:ax->Prop}(h:gt d=some as)(h2:∃af,gb (setG Γ as)=some (.nx af)/\I af):∃as af,gt d=some as/\gb (setG Γ as)=some (.nx af)/\I af:=⟨as,h2.choose,h,h2.choose_spec⟩
variable {Γ1:ax}
theorem mJ{g1 g2:ax->Option Fl}{I:ax->Prop}(h:g1 Γ=some (.nx Γ1))(h2:∃af,g2 Γ1=some (.nx af)/\I af):∃af,dO g1 g2 Γ=some (.nx af)/\I af:=by
 obtain⟨af,e,i⟩:=h2;exact⟨af,by rw[ak h];exact e,i⟩
theorem PR(ds:List Dat)(m:Nat):L3.cutD ds none (some (m:Int))=ds.take m:=by
 unfold L3.cutD;rw[HT.qZ,HT.sJ,drop_zero,sub_zero];by_cases h:m<=ds.length
 ·rw[Nat.min_eq_left h]
 ·rw[Nat.min_eq_right (by omega),List.take_of_length_le (le_refl _),List.take_of_length_le (by omega)]
variable {cg:List (Option Nat)} {fe:HF} {ao:List Dat}
theorem J4(h0:Γ[i]?=some (some (.own ds)))(hf:fi (bx Γ)=some ao)(hl:ao.length<sizeLine)(hc:kh gt fe (kb (dF cg (bx Γ))) ao ds=some (out,dN)):lO i cg gt fe fi Γ=some (out,Γ.set i (some (.own dN))):=by
 unfold lO;rw[h0];show((fi (bx Γ)).bind _)=_;rw[hf,Option.bind_some,if_pos hl,hc];rfl
theorem EU(hv:lO i cg gt fe fi Γ=some (out,af)):nc j (kL fM (eM (hL (lO i cg gt fe fi)) iO)) Γ=some (.nx (af.set j (some (.a7 (.tuple out))))):=by
 unfold nc kL eM hL iO;rw[hv];rfl
def vN (o:FM.Ol) (os:List FM.Ol):Bool:=match o.1 with
 | .lt=>(FM.aZ true o.2.1 o.2.2 os).1
 | .le=>(FM.aZ false o.2.1 o.2.2 os).1
 | .eq=>(FM.aZ false o.2.1 o.2.2 os).1&&(FM.aZ false (o.2.1.map fun q=>0-q) (0-o.2.2) os).1
theorem DV(h:Bool×List Rat):bz (jN h) (.int 0)=some (.str (if h.1=true then "follows" else "breaks")):=by
 unfold jN;by_cases c:h.1=true
 ·rw[if_pos c,if_pos c];rfl
 ·rw[if_neg c,if_neg c];rfl
theorem Va(o:FM.Ol)(os:List FM.Ol):bz (uK o.1 o.2.1 o.2.2 os) (.int 0)=some (.str (if vN o os=true then "follows" else "breaks")):=by
 unfold uK vN;cases o.1 with
 |lt=>exact DV _
 |le=>exact DV _
 |eq=>
  dsimp only;by_cases c1:(FM.aZ false o.2.1 o.2.2 os).1=true
  ·rw[if_pos c1,c1,Bool.true_and];by_cases c2:(FM.aZ false (o.2.1.map fun q=>0-q) (0-o.2.2) os).1=true
   ·rw[if_pos c2,if_pos c2];rfl
   ·rw[if_neg c2];exact DV _
  ·rw[if_neg c1,DV];rw[Bool.not_eq_true]at c1;rw[c1];rfl
theorem oU{s:Bool}(hl:∀o∈os,o.2.1.length=p.length):(FM.aZ s p β os).1=true↔∀x:List Rat,x.length=p.length->(∀q∈os,FM.cK q x)->FM.rel (if s=true then .lt else .le) (FM.aF p x) β:=by
 constructor
 ·intro h x _ hx;rcases FM.rH hl s β with⟨_,r⟩|⟨z,_⟩
  ·exact FM.AO hl r hx
  ·rw[h]at z;cases z
 ·intro h;rcases FM.rH hl s β with⟨z,_⟩|⟨_,r⟩
  ·exact z
  ·exact absurd (h _ r.len r.others) r.line
theorem Mi(hl:∀q∈os,q.2.1.length=o.2.1.length):vN o os=true↔∀x:List Rat,x.length=o.2.1.length->(∀q∈os,FM.cK q x)->FM.cK o x:=by
 unfold vN FM.cK;cases o.1 with
 |lt=>exact oU hl
 |le=>exact oU hl
 |eq=>
  dsimp only;rw[and_eq_true,oU hl,oU (fun q hq=>by rw[length_map];exact hl q hq)];constructor
  ·rintro⟨h1,h2⟩ x j9 hx;have a:FM.aF o.2.1 x<=o.2.2:=h1 x j9 hx;have b:FM.aF (o.2.1.map fun q=>0-q) x<=0-o.2.2:=h2 x (by rw[length_map];exact j9) hx;rw[pP]at b;show FM.aF o.2.1 x=o.2.2;grind
  ·intro h;refine⟨fun x j9 hx=>?_,fun x j9 hx=>?_⟩
   ·have a:FM.aF o.2.1 x=o.2.2:=h x j9 hx;show FM.aF o.2.1 x<=o.2.2;grind
   ·have a:FM.aF o.2.1 x=o.2.2:=h x (by rw[length_map]at j9;exact j9) hx;show FM.aF (o.2.1.map fun q=>0-q) x<=0-o.2.2;rw[pP];grind
abbrev xK (m:Nat) (o:FM.Ol):Prop:=o.2.1.length=m/\(∀q∈o.2.1,SR 100 q)/\SR 1000 o.2.2
def Xw:List Dat:=[.tuple [.int 0,.int 1],.tuple [.int 1,.int 7],.tuple [.int 3,.int 1],.tuple [.int 1,.int 100]]
theorem PX{t:Int}(h:0<=t/\t<4):∃q:Rat,bz (.list Xw) (.int t)=some (qD q)/\SR 10 q/\0<=q:=by
 rcases(show t=0\/t=1\/t=2\/t=3 by omega)with e|e|e|e
 ·subst e;exact⟨0,rfl,⟨by decide,by decide⟩,by decide⟩
 ·subst e;exact⟨⟨1,7,by decide,by decide⟩,rfl,⟨by decide,by decide⟩,by decide⟩
 ·subst e;exact⟨⟨3,1,by decide,by decide⟩,rfl,⟨by decide,by decide⟩,by decide⟩
 ·subst e;exact⟨⟨1,100,by decide,by decide⟩,rfl,⟨by decide,by decide⟩,by decide⟩
abbrev TB (F:List Dat->List Dat->Option (Dat×List Dat)):Prop:=∀(r:R) (x:List Rat),gJ r->x.length<=3->(∀q∈x,SR 200 q)->∃(o:FM.Ol) (r':R),F (rD r) [bA x]=some (aA o,rD r')/\gJ r'/\xK x.length o/\FM.cK o x
theorem Nl{k:FM.Kn}{x:List Rat}(hL:v8 100 m (k,p,β))(hm:x.length=m)(h3:m<=3)(hx:∀q∈x,SR 200 q):CY 100 200 p x/\SR 910 (FM.aF p x):=by
 have hl:p.length=m:=hL.1;have hI:CY 100 200 p x:=⟨by omega,hL.2.1,hx,by rw[hl];show 1+m*301<=_;omega,by decide⟩;exact⟨hI,(Nk hI).up (by rw[hl];show 1+m*301<=_;omega)⟩
theorem Ot(x:List Rat):i6 [bA x]=some (.int (x.length:Int)):=by show some (Dat.int ((x.map qD).length:Nat))=_;rw[length_map]
theorem AV(T:TX P K mg)(qU:Dn P w K mg base 43 "_law_sum" ["parts","point"] 2 Fs)(hS:Lc Fs)(we:iW P w K mg base 43 "_law_line" ["reel","many","great"] 3 lu)(cL:iW P w K mg base 43 "_law_take" ["reel","many"] 2 ju)(j7:Dn P w K mg base 43 "_law_plus" ["a","b"] 2 f6)(U:FnAt K mg "_law_kept_line" (top 62) ["reel","point"]):
  ∃F,iW P w K mg base 44 "_law_kept_line" ["reel","point"] 2 F/\TB F:=by
 refine⟨_,K7 ["reel","point","kind","parts","bound","there","by"] U fun nd _ _ _ _ _ _ _ hr=>
  (ae (wM (cy 0 we hr (aP (aM (cA T.len (a6 (a5 1) a9))) (aP (aM cF) bw) (hst:=aX))) (dh (n:=3) rfl (aW (ar 2 nd) (aW (ar 3 nd) (aW (ar 4 nd) cM)))))
  (ae (aB 5 nd (az qU hr (a6 (a5 3) (a6 (a5 1) a9))))
  (ae (aT (bZ hr (a5 2) aY) (ag (fB (aM (bo (k:=0) (a6 (a5 2) (a6 (a5 3) (a6 (a5 5) a9))))))) aL)
  (ae (fA 6 nd (uf (aM (ij (a6 (bo (k:=0) (a6 a8 (a6 a8 a9))) (a6 (bo (k:=0) (a6 a8 (a6 a8 a9))) (a6 (bo (k:=0) (a6 a8 (a6 a8 a9))) (a6 (bo (k:=0) (a6 a8 (a6 a8 a9))) a9 (hs:=dB)) (hs:=dB)) (hs:=dB)) (hs:=dB)))) (cy 0 cL hr (aP (aM a8) bw))))
  (ae (aT (cC (fP (bZ hr (a5 2) aY) (eV (bZ hr (a5 6) (bo (k:=0) (a6 a8 (a6 a8 a9))))))) (ag (aB 6 nd (bo (k:=0) (a6 a8 (a6 a8 a9))))) aL)
  (ag (fB (aM (bo (k:=0) (a6 (a5 2) (a6 (a5 3) (a6 (az j7 hr (a6 (a5 5) (a6 (a5 6) a9))) a9 (hs:=aX))))))))))))),?_⟩
 intro r x hR h3 hx;have z2:2<=sizeLine:=sz (by decide);have z3:3<=sizeLine:=sz (by decide);have z4:4<=sizeLine:=sz (by decide);obtain⟨⟨k,p,β⟩,r1,eL,R1,hL⟩:=Ca (m:=x.length) hR (by omega) false;obtain⟨hI,ss⟩:=Nl hL rfl h3 hx;have es:=hS 100 200 p x hI;have lx:=Ot x;have f4:=cR (m:=4) R1 (by decide) (by decide);have b4:=hG r1 (m:=4) (by decide);have R2:=fc (m:=4) R1;generalize tk r1 4=t4 at f4 b4;generalize tr r1 4=r2 at f4 R2;obtain⟨cv,Pk,rR,VL⟩:=PX b4;have p4:bz (.list [.tuple [.int 0,.int 1],.tuple [.int 1,.int 7],.tuple [.int 3,.int 1],.tuple [.int 1,.int 100]]) (.int t4)=some (qD cv):=Pk
 have RY:SR 10 (⟨1,11,by decide,by decide⟩:Rat):=⟨by decide,by decide⟩;have eo:∀(k:FM.Kn) (pO:Rat),aA (k,p,pO)=.tuple [.str (aN k),bA p,qD pO]:=fun _ _=>rfl;have el:lu [.int r.1,.int r.2] [.int (x.length:Int),.bool false]=some (.tuple [.str (aN k),bA p,qD β],rD r1):=eL;have hw:FM.aF p x=FM.aF p x:=rfl;generalize OK:FM.aF p x=wx at es ss;have ep:=ie ss rR (by decide) (by decide);have Xj:=ie ss RY (by decide) (by decide);have e0:cU (qD cv) (.tuple [.int 0,.int 1])=some (.bool (decide (cv=0))):=oY cv 0;generalize bA x=dx at *;generalize uJ:bA p=dp at *;cases k with
 |eq=>
  refine⟨(.eq,p,wx),r1,?_,R1,⟨hL.1,hL.2.1,ss.up (by decide)⟩,OK⟩;rw[eo];refine iX (Γ:=[some (.own (rD r1)),some (.a7 (dx)),some (.a7 (.str (aN .eq))),some (.a7 (dp)),some (.a7 (qD β)),some (.a7 (qD wx)),none]) ?_ rfl;simp only[startM,map_cons,map_nil,length_cons,length_nil,cons_append,nil_append,List.replicate];rw[ak (af:=[some (.own (rD r1)),some (.a7 (dx)),some (.a7 (.str (aN .eq))),some (.a7 (dp)),some (.a7 (qD β)),none,none]) (by dsimp![lx,el])];rw[ak (af:=[some (.own (rD r1)),some (.a7 (dx)),some (.a7 (.str (aN .eq))),some (.a7 (dp)),some (.a7 (qD β)),some (.a7 (qD wx)),none]) (by dsimp![es])];dsimp![aN,jQ rfl,z3]
 |le=>
  refine⟨(.le,p,wx+cv),r2,?_,R2,⟨hL.1,hL.2.1,(ss.add rR).up (by decide)⟩,by show FM.aF p x<=wx+cv;grind⟩;rw[eo];refine iX (Γ:=[some (.own (rD r2)),some (.a7 (dx)),some (.a7 (.str (aN .le))),some (.a7 (dp)),some (.a7 (qD β)),some (.a7 (qD wx)),some (.a7 (qD cv))]) ?_ rfl;simp only[startM,map_cons,map_nil,length_cons,length_nil,cons_append,nil_append,List.replicate];rw[ak (af:=[some (.own (rD r1)),some (.a7 (dx)),some (.a7 (.str (aN .le))),some (.a7 (dp)),some (.a7 (qD β)),none,none]) (by dsimp![lx,el])];rw[ak (af:=[some (.own (rD r1)),some (.a7 (dx)),some (.a7 (.str (aN .le))),some (.a7 (dp)),some (.a7 (qD β)),some (.a7 (qD wx)),none]) (by dsimp![es])];rw[ak (af:=[some (.own (rD r1)),some (.a7 (dx)),some (.a7 (.str (aN .le))),some (.a7 (dp)),some (.a7 (qD β)),some (.a7 (qD wx)),none]) (by dsimp![aN,fE (show("<=" : Str)≠"=" by decide)])];rw[ak (af:=[some (.own (rD r2)),some (.a7 (dx)),some (.a7 (.str (aN .le))),some (.a7 (dp)),some (.a7 (qD β)),some (.a7 (qD wx)),some (.a7 (qD cv))]) (by dsimp![z2,z4,f4,p4])];rw[ak (af:=[some (.own (rD r2)),some (.a7 (dx)),some (.a7 (.str (aN .le))),some (.a7 (dp)),some (.a7 (qD β)),some (.a7 (qD wx)),some (.a7 (qD cv))]) (by dsimp![aN,fE (show("<=" : Str)≠"<" by decide)])];dsimp![ep,z3]
 |lt=>
  by_cases c0:cv=0
  ·rw[decide_eq_true c0]at e0;refine⟨(.lt,p,wx + ⟨1,11,by decide,by decide⟩),r2,?_,R2,⟨hL.1,hL.2.1,(ss.add RY).up (by decide)⟩,?_⟩
   ·rw[eo];refine iX (Γ:=[some (.own (rD r2)),some (.a7 (dx)),some (.a7 (.str (aN .lt))),some (.a7 (dp)),some (.a7 (qD β)),some (.a7 (qD wx)),some (.a7 (.tuple [.int 1,.int 11]))]) ?_ rfl;simp only[startM,map_cons,map_nil,length_cons,length_nil,cons_append,nil_append,List.replicate];rw[ak (af:=[some (.own (rD r1)),some (.a7 (dx)),some (.a7 (.str (aN .lt))),some (.a7 (dp)),some (.a7 (qD β)),none,none]) (by dsimp![lx,el])];rw[ak (af:=[some (.own (rD r1)),some (.a7 (dx)),some (.a7 (.str (aN .lt))),some (.a7 (dp)),some (.a7 (qD β)),some (.a7 (qD wx)),none]) (by dsimp![es])];rw[ak (af:=[some (.own (rD r1)),some (.a7 (dx)),some (.a7 (.str (aN .lt))),some (.a7 (dp)),some (.a7 (qD β)),some (.a7 (qD wx)),none]) (by dsimp![aN,fE (show("<" : Str)≠"=" by decide)])];rw[ak (af:=[some (.own (rD r2)),some (.a7 (dx)),some (.a7 (.str (aN .lt))),some (.a7 (dp)),some (.a7 (qD β)),some (.a7 (qD wx)),some (.a7 (qD cv))]) (by dsimp![z2,z4,f4,p4])];rw[ak (af:=[some (.own (rD r2)),some (.a7 (dx)),some (.a7 (.str (aN .lt))),some (.a7 (dp)),some (.a7 (qD β)),some (.a7 (qD wx)),some (.a7 (.tuple [.int 1,.int 11]))]) (by dsimp![aN,jQ rfl,e0,z2])];have Xi:f6 [qD wx,.tuple [.int 1,.int 11]]=some (qD (wx + ⟨1,11,by decide,by decide⟩)):=Xj;dsimp![Xi,z3]
   ·show FM.aF p x<wx+(⟨1,11,by decide,by decide⟩:Rat);have:(0:Rat) < ⟨1,11,by decide,by decide⟩:=by decide
    grind
  ·rw[decide_eq_false c0]at e0;refine⟨(.lt,p,wx+cv),r2,?_,R2,⟨hL.1,hL.2.1,(ss.add rR).up (by decide)⟩,by show FM.aF p x<wx+cv;grind⟩;rw[eo];refine iX (Γ:=[some (.own (rD r2)),some (.a7 (dx)),some (.a7 (.str (aN .lt))),some (.a7 (dp)),some (.a7 (qD β)),some (.a7 (qD wx)),some (.a7 (qD cv))]) ?_ rfl;simp only[startM,map_cons,map_nil,length_cons,length_nil,cons_append,nil_append,List.replicate];rw[ak (af:=[some (.own (rD r1)),some (.a7 (dx)),some (.a7 (.str (aN .lt))),some (.a7 (dp)),some (.a7 (qD β)),none,none]) (by dsimp![lx,el])];rw[ak (af:=[some (.own (rD r1)),some (.a7 (dx)),some (.a7 (.str (aN .lt))),some (.a7 (dp)),some (.a7 (qD β)),some (.a7 (qD wx)),none]) (by dsimp![es])];rw[ak (af:=[some (.own (rD r1)),some (.a7 (dx)),some (.a7 (.str (aN .lt))),some (.a7 (dp)),some (.a7 (qD β)),some (.a7 (qD wx)),none]) (by dsimp![aN,fE (show("<" : Str)≠"=" by decide)])];rw[ak (af:=[some (.own (rD r2)),some (.a7 (dx)),some (.a7 (.str (aN .lt))),some (.a7 (dp)),some (.a7 (qD β)),some (.a7 (qD wx)),some (.a7 (qD cv))]) (by dsimp![z2,z4,f4,p4])];rw[ak (af:=[some (.own (rD r2)),some (.a7 (dx)),some (.a7 (.str (aN .lt))),some (.a7 (dp)),some (.a7 (qD β)),some (.a7 (qD wx)),some (.a7 (qD cv))]) (by dsimp![aN,jQ rfl,e0,z2])];dsimp![ep,z3]
def Xx:List Dat:=[.tuple [.int (-1),.int 1000],.tuple [.int (-1),.int 3],.tuple [.int (-1000),.int 1]]
theorem PY{t:Int}(h:0<=t/\t<3):∃q:Rat,bz (.list Xx) (.int t)=some (qD q)/\SR 11 q/\q<0:=by
 rcases(show t=0\/t=1\/t=2 by omega)with e|e|e
 ·subst e;exact⟨⟨-1,1000,by decide,by decide⟩,rfl,⟨by decide,by decide⟩,by decide⟩
 ·subst e;exact⟨⟨-1,3,by decide,by decide⟩,rfl,⟨by decide,by decide⟩,by decide⟩
 ·subst e;exact⟨⟨-1000,1,by decide,by decide⟩,rfl,⟨by decide,by decide⟩,by decide⟩
abbrev Ub (F:List Dat->List Dat->Option (Dat×List Dat)):Prop:=∀(r:R) (x:List Rat),gJ r->x.length<=3->(∀q∈x,SR 200 q)->∃(o:FM.Ol) (r':R),F (rD r) [bA x]=some (aA o,rD r')/\gJ r'/\xK x.length o/\¬FM.cK o x
theorem Ob(q:Rat):(.tuple [.int (-q.num),.int (q.den:Int)]:Dat)=qD (0-q):=by
 have e:(0-q:Rat)=-q:=by grind
 rw[e];rfl
theorem xP(T:TX P K mg)(qU:Dn P w K mg base 43 "_law_sum" ["parts","point"] 2 Fs)(hS:Lc Fs)(we:iW P w K mg base 43 "_law_line" ["reel","many","great"] 3 lu)(cL:iW P w K mg base 43 "_law_take" ["reel","many"] 2 ju)(j7:Dn P w K mg base 43 "_law_plus" ["a","b"] 2 f6)(U:FnAt K mg "_law_broken_line" (top 63) ["reel","point"]):
  ∃F,iW P w K mg base 44 "_law_broken_line" ["reel","point"] 2 F/\Ub F:=by
 refine⟨_,K7 ["reel","point","kind","parts","bound","there","by"] U fun nd _ _ _ _ _ _ _ hr=>
  (ae (wM (cy 0 we hr (aP (aM (cA T.len (a6 (a5 1) a9))) (aP (aM cF) bw) (hst:=aX))) (dh (n:=3) rfl (aW (ar 2 nd) (aW (ar 3 nd) (aW (ar 4 nd) cM)))))
  (ae (aB 5 nd (az qU hr (a6 (a5 3) (a6 (a5 1) a9))))
  (ae (fA 6 nd (uf (aM (ij (a6 (bo (k:=0) (a6 (dr a8) (a6 a8 a9) (hs:=gN))) (a6 (bo (k:=0) (a6 (dr a8) (a6 a8 a9) (hs:=gN))) (a6 (bo (k:=0) (a6 (dr a8) (a6 a8 a9) (hs:=gN))) a9 (hs:=dB)) (hs:=dB)) (hs:=dB)))) (cy 0 cL hr (aP (aM a8) bw))))
  (ae (yK (Fq (yM (wO (bZ hr (a5 2) aY)) (wN (BE hr (cy 0 cL hr (aP (aM a8) bw)) (aM a8))))) (ag (aB 6 nd (bo (k:=0) (a6 (dr (ah (a5 6) a8)) (a6 (ah (a5 6) a8) a9 (hs:=aJ)) (hs:=gN))))) aL)
  (ae (yK (Fq (yM (wO (bZ hr (a5 2) aY)) (wN (BE hr (cy 0 cL hr (aP (aM a8) bw)) (aM a8))))) (ag (aB 6 nd (bo (k:=0) (a6 a8 (a6 a8 a9))))) aL)
  (ag (fB (aM (bo (k:=0) (a6 (a5 2) (a6 (a5 3) (a6 (az j7 hr (a6 (a5 5) (a6 (a5 6) a9))) a9 (hs:=aX))))))))))))),?_⟩
 intro r x hR h3 hx;have z2:2<=sizeLine:=sz (by decide);have z3:3<=sizeLine:=sz (by decide);obtain⟨⟨k,p,β⟩,r1,eL,R1,hL⟩:=Ca (m:=x.length) hR (by omega) false;obtain⟨hI,ss⟩:=Nl hL rfl h3 hx;have es:=hS 100 200 p x hI;have lx:=Ot x;have f3:=cR (m:=3) R1 (by decide) (by decide);have b3:=hG r1 (m:=3) (by decide);have R2:=fc (m:=3) R1;generalize tk r1 3=t3 at f3 b3;generalize tr r1 3=r2 at f3 R2;have f2:=cR (m:=2) R2 (by decide) (by decide);have R3:=fc (m:=2) R2;generalize tk r2 2=t2 at f2;generalize tr r2 2=r3 at f2 R3;obtain⟨cv,Pk,rR,VL⟩:=PY b3;have p4:bz (.list [.tuple [.int (-1),.int 1000],.tuple [.int (-1),.int 3],.tuple [.int (-1000),.int 1]]) (.int t3)=some (qD cv):=Pk
 have s0:SR 11 (0:Rat):=kr (by decide);have sn:SR 11 (0-cv):=⟨by rw[show(0-cv:Rat)=-cv by grind];show(-cv.num).natAbs<_;rw[natAbs_neg];exact rR.ln,by rw[neg_den];exact rR.ld⟩;have eo:∀(k:FM.Kn) (pO:Rat),aA (k,p,pO)=.tuple [.str (aN k),bA p,qD pO]:=fun _ _=>rfl;have el:lu [.int r.1,.int r.2] [.int (x.length:Int),.bool false]=some (.tuple [.str (aN k),bA p,qD β],rD r1):=eL;generalize OK:FM.aF p x=wx at es ss;have ep:=ie ss rR (by decide) (by decide);have T6:f6 [qD wx,.tuple [.int 0,.int 1]]=some (qD (wx+0)):=ie ss s0 (by decide) (by decide);have T5:=ie ss sn (by decide) (by decide);have b0:bz (qD cv) (.int 0)=some (.int cv.num):=rfl;have b1:bz (qD cv) (.int 1)=some (.int (cv.den:Int)):=rfl;have nq:=Ob cv;generalize bA x=dx at *;generalize uJ:bA p=dp at *;have fin:∀(k:FM.Kn) (q:Rat) (rr:R) (dq:Dat),dq=qD q->SR 11 q->f6 [qD wx,dq]=some (qD (wx+q))->gJ rr->¬FM.rel k wx (wx+q)->
   (∀g2:ax->Option Fl,True)->((.lt=k\/.le=k\/.eq=k))->xK x.length (k,p,wx+q)/\¬FM.cK (k,p,wx+q) x:=fun k q rr dq _ sq _ _ hn _ _=>⟨⟨hL.1,hL.2.1,(ss.add sq).up (by decide)⟩,by unfold FM.cK;dsimp only;rw[OK];exact hn⟩
 cases k with
 |eq=>
  by_cases c2:t2=0
  ·obtain⟨q1,q2⟩:=fin .eq (0-cv) r3 _ rfl sn T5 R3 (by show ¬wx=wx+(0-cv);grind) (fun _=>trivial) (.inr (.inr rfl));refine⟨(.eq,p,wx+(0-cv)),r3,?_,R3,q1,q2⟩;rw[eo];refine iX (Γ:=[some (.own (rD r3)),some (.a7 (dx)),some (.a7 (.str (aN .eq))),some (.a7 (dp)),some (.a7 (qD β)),some (.a7 (qD wx)),some (.a7 (qD (0-cv)))]) ?_ rfl;simp only[startM,map_cons,map_nil,length_cons,length_nil,cons_append,nil_append,List.replicate];rw[ak (af:=[some (.own (rD r1)),some (.a7 (dx)),some (.a7 (.str (aN .eq))),some (.a7 (dp)),some (.a7 (qD β)),none,none]) (by dsimp![lx,el])];rw[ak (af:=[some (.own (rD r1)),some (.a7 (dx)),some (.a7 (.str (aN .eq))),some (.a7 (dp)),some (.a7 (qD β)),some (.a7 (qD wx)),none]) (by dsimp![es])];rw[ak (af:=[some (.own (rD r2)),some (.a7 (dx)),some (.a7 (.str (aN .eq))),some (.a7 (dp)),some (.a7 (qD β)),some (.a7 (qD wx)),some (.a7 (qD cv))]) (by dsimp![z2,z3,f3,p4])];rw[ak (af:=[some (.own (rD r3)),some (.a7 (dx)),some (.a7 (.str (aN .eq))),some (.a7 (dp)),some (.a7 (qD β)),some (.a7 (qD wx)),some (.a7 (qD (0-cv)))]) (by dsimp![aN,jQ rfl,f2,d7,eq_true c2,b0,b1,z2,nq])];rw[ak (af:=[some (.own (rD r3)),some (.a7 (dx)),some (.a7 (.str (aN .eq))),some (.a7 (dp)),some (.a7 (qD β)),some (.a7 (qD wx)),some (.a7 (qD (0-cv)))]) (by dsimp![aN,fE (show("=" : Str)≠"<" by decide)])];dsimp![T5,z3]
  ·obtain⟨q1,q2⟩:=fin .eq cv r3 _ rfl rR ep R3 (by show ¬wx=wx+cv;grind) (fun _=>trivial) (.inr (.inr rfl));refine⟨(.eq,p,wx+cv),r3,?_,R3,q1,q2⟩;rw[eo];refine iX (Γ:=[some (.own (rD r3)),some (.a7 (dx)),some (.a7 (.str (aN .eq))),some (.a7 (dp)),some (.a7 (qD β)),some (.a7 (qD wx)),some (.a7 (qD cv))]) ?_ rfl;simp only[startM,map_cons,map_nil,length_cons,length_nil,cons_append,nil_append,List.replicate];rw[ak (af:=[some (.own (rD r1)),some (.a7 (dx)),some (.a7 (.str (aN .eq))),some (.a7 (dp)),some (.a7 (qD β)),none,none]) (by dsimp![lx,el])];rw[ak (af:=[some (.own (rD r1)),some (.a7 (dx)),some (.a7 (.str (aN .eq))),some (.a7 (dp)),some (.a7 (qD β)),some (.a7 (qD wx)),none]) (by dsimp![es])];rw[ak (af:=[some (.own (rD r2)),some (.a7 (dx)),some (.a7 (.str (aN .eq))),some (.a7 (dp)),some (.a7 (qD β)),some (.a7 (qD wx)),some (.a7 (qD cv))]) (by dsimp![z2,z3,f3,p4])];rw[ak (af:=[some (.own (rD r3)),some (.a7 (dx)),some (.a7 (.str (aN .eq))),some (.a7 (dp)),some (.a7 (qD β)),some (.a7 (qD wx)),some (.a7 (qD cv))]) (by dsimp![aN,jQ rfl,f2,d7,eq_false c2])];rw[ak (af:=[some (.own (rD r3)),some (.a7 (dx)),some (.a7 (.str (aN .eq))),some (.a7 (dp)),some (.a7 (qD β)),some (.a7 (qD wx)),some (.a7 (qD cv))]) (by dsimp![aN,fE (show("=" : Str)≠"<" by decide)])];dsimp![ep,z3]
 |le=>
  obtain⟨q1,q2⟩:=fin .le cv r2 _ rfl rR ep R2 (by show ¬wx<=wx+cv;grind) (fun _=>trivial) (.inr (.inl rfl));refine⟨(.le,p,wx+cv),r2,?_,R2,q1,q2⟩;rw[eo];refine iX (Γ:=[some (.own (rD r2)),some (.a7 (dx)),some (.a7 (.str (aN .le))),some (.a7 (dp)),some (.a7 (qD β)),some (.a7 (qD wx)),some (.a7 (qD cv))]) ?_ rfl;simp only[startM,map_cons,map_nil,length_cons,length_nil,cons_append,nil_append,List.replicate];rw[ak (af:=[some (.own (rD r1)),some (.a7 (dx)),some (.a7 (.str (aN .le))),some (.a7 (dp)),some (.a7 (qD β)),none,none]) (by dsimp![lx,el])];rw[ak (af:=[some (.own (rD r1)),some (.a7 (dx)),some (.a7 (.str (aN .le))),some (.a7 (dp)),some (.a7 (qD β)),some (.a7 (qD wx)),none]) (by dsimp![es])];rw[ak (af:=[some (.own (rD r2)),some (.a7 (dx)),some (.a7 (.str (aN .le))),some (.a7 (dp)),some (.a7 (qD β)),some (.a7 (qD wx)),some (.a7 (qD cv))]) (by dsimp![z2,z3,f3,p4])];rw[ak (af:=[some (.own (rD r2)),some (.a7 (dx)),some (.a7 (.str (aN .le))),some (.a7 (dp)),some (.a7 (qD β)),some (.a7 (qD wx)),some (.a7 (qD cv))]) (by dsimp![aN,fE (show("<=" : Str)≠"=" by decide)])];rw[ak (af:=[some (.own (rD r2)),some (.a7 (dx)),some (.a7 (.str (aN .le))),some (.a7 (dp)),some (.a7 (qD β)),some (.a7 (qD wx)),some (.a7 (qD cv))]) (by dsimp![aN,fE (show("<=" : Str)≠"<" by decide)])];dsimp![ep,z3]
 |lt=>
  by_cases c2:t2=0
  ·obtain⟨q1,q2⟩:=fin .lt 0 r3 _ rfl s0 T6 R3 (by show ¬wx<wx+0;grind) (fun _=>trivial) (.inl rfl);refine⟨(.lt,p,wx+0),r3,?_,R3,q1,q2⟩;rw[eo];refine iX (Γ:=[some (.own (rD r3)),some (.a7 (dx)),some (.a7 (.str (aN .lt))),some (.a7 (dp)),some (.a7 (qD β)),some (.a7 (qD wx)),some (.a7 (.tuple [.int 0,.int 1]))]) ?_ rfl;simp only[startM,map_cons,map_nil,length_cons,length_nil,cons_append,nil_append,List.replicate];rw[ak (af:=[some (.own (rD r1)),some (.a7 (dx)),some (.a7 (.str (aN .lt))),some (.a7 (dp)),some (.a7 (qD β)),none,none]) (by dsimp![lx,el])];rw[ak (af:=[some (.own (rD r1)),some (.a7 (dx)),some (.a7 (.str (aN .lt))),some (.a7 (dp)),some (.a7 (qD β)),some (.a7 (qD wx)),none]) (by dsimp![es])];rw[ak (af:=[some (.own (rD r2)),some (.a7 (dx)),some (.a7 (.str (aN .lt))),some (.a7 (dp)),some (.a7 (qD β)),some (.a7 (qD wx)),some (.a7 (qD cv))]) (by dsimp![z2,z3,f3,p4])];rw[ak (af:=[some (.own (rD r2)),some (.a7 (dx)),some (.a7 (.str (aN .lt))),some (.a7 (dp)),some (.a7 (qD β)),some (.a7 (qD wx)),some (.a7 (qD cv))]) (by dsimp![aN,fE (show("<" : Str)≠"=" by decide)])];rw[ak (af:=[some (.own (rD r3)),some (.a7 (dx)),some (.a7 (.str (aN .lt))),some (.a7 (dp)),some (.a7 (qD β)),some (.a7 (qD wx)),some (.a7 (.tuple [.int 0,.int 1]))]) (by dsimp![aN,jQ rfl,f2,d7,eq_true c2,z2])];dsimp![T6,z3]
  ·obtain⟨q1,q2⟩:=fin .lt cv r3 _ rfl rR ep R3 (by show ¬wx<wx+cv;grind) (fun _=>trivial) (.inl rfl);refine⟨(.lt,p,wx+cv),r3,?_,R3,q1,q2⟩;rw[eo];refine iX (Γ:=[some (.own (rD r3)),some (.a7 (dx)),some (.a7 (.str (aN .lt))),some (.a7 (dp)),some (.a7 (qD β)),some (.a7 (qD wx)),some (.a7 (qD cv))]) ?_ rfl;simp only[startM,map_cons,map_nil,length_cons,length_nil,cons_append,nil_append,List.replicate];rw[ak (af:=[some (.own (rD r1)),some (.a7 (dx)),some (.a7 (.str (aN .lt))),some (.a7 (dp)),some (.a7 (qD β)),none,none]) (by dsimp![lx,el])];rw[ak (af:=[some (.own (rD r1)),some (.a7 (dx)),some (.a7 (.str (aN .lt))),some (.a7 (dp)),some (.a7 (qD β)),some (.a7 (qD wx)),none]) (by dsimp![es])];rw[ak (af:=[some (.own (rD r2)),some (.a7 (dx)),some (.a7 (.str (aN .lt))),some (.a7 (dp)),some (.a7 (qD β)),some (.a7 (qD wx)),some (.a7 (qD cv))]) (by dsimp![z2,z3,f3,p4])];rw[ak (af:=[some (.own (rD r2)),some (.a7 (dx)),some (.a7 (.str (aN .lt))),some (.a7 (dp)),some (.a7 (qD β)),some (.a7 (qD wx)),some (.a7 (qD cv))]) (by dsimp![aN,fE (show("<" : Str)≠"=" by decide)])];rw[ak (af:=[some (.own (rD r3)),some (.a7 (dx)),some (.a7 (.str (aN .lt))),some (.a7 (dp)),some (.a7 (qD β)),some (.a7 (qD wx)),some (.a7 (qD cv))]) (by dsimp![aN,jQ rfl,f2,d7,eq_false c2])];dsimp![ep,z3]
theorem Ai{c:Nat}:∀{p:List Rat},(∀q∈p,SR c q)->fk p<=2^(c*p.length)
 |[],_=>by show 1<=2^(c*0);rw[Nat.mul_zero];exact le_refl _
 |q::p,h=>by
  show q.den*fk p<=_;rw[length_cons,Nat.mul_succ,add_comm,pow_add];exact mul_le_mul (Nat.le_of_lt (h q mem_cons_self).ld) (Ai fun x hx=>h x (mem_cons_of_mem _ hx))
theorem rO:∀(i:Nat) {r s:Nat},r<=s->FM.cb r i<=FM.cb s i
 |0,_,_,h=>h
 |i+1,r,s,h=>rO i (add_le_add h (Nat.div_le_div_right (mul_le_mul h h)))
theorem Rh(hm:m<=3)(h:xK m o):w6 1000 1400 m o:=by
 refine⟨h.1,fun q hq=>(h.2.1 q hq).up (by decide),h.2.2,?_⟩;have h1:fk o.2.1<=2^300:=le_trans (Ai h.2.1) (pow_le_pow_right (by decide) (by rw[h.1];omega));have h2:=h.2.2.ld;calc fk o.2.1*o.2.2.den<=2^300*2^1000:=mul_le_mul h1 (Nat.le_of_lt h2)
  _=2^1300:=(pow_add 2 300 1000).symm
  _<2^1400:=Nat.pow_lt_pow_right (by decide) (by decide)
theorem QM(hm:m<=3)(hk:k<=13):Q9 1000 1400 m k/\(bL 1000 1400 m+bL 1000 1400 m+1)+(bL 1000 1400 m+bL 1000 1400 m)+(1000+1)*(k+1)<=3900000/\Ld 1000 (xL 1000 1400 m) m<=3900000/\1000+xL 1000 1400 m<=3900000/\1000<=bL 1000 1400 m:=by
 have xi:FM.cb (k+1) m<sizeLine:=by
  refine lt_of_le_of_lt (rO m (show k+1<=14 by omega)) ?_;rw[sizeLine_eq];rcases(show m=0\/m=1\/m=2\/m=3 by omega)with e|e|e|e<;>subst e<;>decide
 rcases(show m=0\/m=1\/m=2\/m=3 by omega)with e|e|e|e<;>subst e
 ·refine⟨⟨by decide,by decide,by decide,by decide,by omega,by decide,xi,trivial⟩,?_,by decide,by decide,by decide⟩;show(2400+2400+1)+(2400+2400)+(1000+1)*(k+1)<=3900000;omega
 ·refine⟨⟨by decide,by decide,by decide,by decide,by omega,by decide,xi,by decide,trivial⟩,?_,by decide,by decide,by decide⟩;show(4801+4801+1)+(4801+4801)+(1000+1)*(k+1)<=3900000;omega
 ·refine⟨⟨by decide,by decide,by decide,by decide,by omega,by decide,xi,by decide,by decide,trivial⟩,?_,by decide,by decide,by decide⟩;show(9603+9603+1)+(9603+9603)+(1000+1)*(k+1)<=3900000;omega
 ·refine⟨⟨by decide,by decide,by decide,by decide,by omega,by decide,xi,by decide,by decide,by decide,trivial⟩,?_,by decide,by decide,by decide⟩;show(19207+19207+1)+(19207+19207)+(1000+1)*(k+1)<=3900000;omega
theorem PZ(hm:m<=3)(ho:xK m o)(kY:∀q∈os,xK m q)(hk:os.length<=13):nD 1000 1400 o.2.1 os/\SR (bL 1000 1400 o.2.1.length) o.2.2:=by
 obtain⟨s1,s2,s3,s4,s5⟩:=QM hm hk;rw[<- ho.1]at s1 s2 s3 s4 s5;refine⟨⟨⟨s1,fun q hq=>(ho.2.1 q hq).up (by decide),?_,fun q hq=>by rw[ho.1];exact Rh hm (kY q hq)⟩,s2,s3,s4⟩,ho.2.2.up s5⟩;exact lt_of_le_of_lt (Ai ho.2.1) (Nat.pow_lt_pow_right (by decide) (by rw[ho.1];omega))
theorem Q3(q:Rat):Al 2 (qD q):=⟨by show 2<=1000;decide,fun d hd=>by
 rcases mem_cons.mp hd with e|hd
 ·rw[e];exact trivial
 ·rw[mem_singleton.mp hd];exact trivial⟩
theorem Al.up:∀{n:Nat} {d:Dat},Al n d->Al (n+1) d
 |0,_,h=>h.elim
 |n+1,.tuple ds,h=>⟨h.1,fun d hd=>(h.2 d hd).up⟩
 |n+1,.list ds,h=>⟨h.1,fun d hd=>(h.2 d hd).up⟩
 |n+1,.int _,_=>trivial
 |n+1,.str _,_=>trivial
theorem RJ(h:o.2.1.length<=1000):Al 4 (aA o):=⟨by show 3<=1000;decide,fun d hd=>by
 rcases mem_cons.mp hd with e|hd
 ·rw[e];exact trivial
 ·rcases mem_cons.mp hd with e|hd
  ·rw[e];refine⟨by rw[length_map];exact h,fun d hd=>?_⟩;obtain⟨q,_,rfl⟩:=mem_map.mp hd;exact Q3 q
  ·rw[mem_singleton.mp hd];exact(Q3 _).up⟩
theorem RI(h:∀o∈os,o.2.1.length<=1000)(hl:os.length<=1000):Al 5 (.list (os.map aA)):=⟨by rw[length_map];exact hl,fun d hd=>by
 obtain⟨o,ho,rfl⟩:=mem_map.mp hd;exact RJ (h o ho)⟩
theorem xk{hI:ax->Option (List Dat×ax)}(hf:hI Γ=some (ao,Γ1))(h0:Γ1[i]?=some (some (.own ds)))(hl:ao.length<sizeLine)(hc:kh gt fe (kb (dF cg (bx Γ1))) ao ds=some (out,dN)):mG i cg gt fe hI Γ=some (out,Γ1.set i (some (.own dN))):=by
 unfold mG;rw[hf,Option.bind_some];show(match (Γ1[i]? : Option (Option Slot))with|some (some (.own ds))=>_|_=>_)=_
 rw[h0];show(if ao.length<sizeLine then _ else none)=_;rw[if_pos hl,hc];rfl
theorem HX{f:ax->Option (List Dat×ax)}(h:f Γ=some (out,Γ1)):yB j f Γ=some (.nx (Γ1.set j (some (.a7 (.list out))))):=by
 unfold yB;rw[h];rfl
theorem Dr{hI:ax->Option (List Dat×ax)}(hv:mG i cg gt fe hI Γ=some (out,af)):nc j (kL fM (eM (hL (mG i cg gt fe hI)) iO)) Γ=some (.nx (af.set j (some (.a7 (.tuple out))))):=by
 unfold nc kL eM hL iO;rw[hv];rfl
theorem Cp{rg:List Dat->Option (List Dat)}{hs:ax->Option (List Dat×ax)}{as:List Dat}(h:hs Γ=some (as,af))(h2:rg as=some ao):J2 rg hs Γ=some (ao,af):=by
 unfold J2;rw[h];show(rg as).map _=_;rw[h2];rfl
theorem OE{f:aw->Option Dat}(h:f ρ=some d)(h2:cJ d=some ds):Cf f ρ=some ds:=by
 unfold Cf;rw[h];exact h2
theorem QZ:sS (.int 10) (.int 20)=some (.int (10^20)):=iE (by unfold wq;decide)
variable {fd:FuncData} {f:Addr}
theorem RG(T:TX P K mg){Ff:List Dat->Option Dat}{Fk Fb:List Dat->List Dat->Option (Dat×List Dat)}(MU:xM P w K mg base 51 "_law_reel" ["cell"] 1 HJ)(cL:iW P w K mg base 51 "_law_take" ["reel","many"] 2 ju)(kS:iW P w K mg base 51 "_law_fraction" ["reel","great"] 2 mV)(j7:Dn P w K mg base 51 "_law_plus" ["a","b"] 2 f6)(AM:iW P w K mg base 51 "_law_kept_line" ["reel","point"] 2 Fk)(hK:TB Fk)(wj:iW P w K mg base 51 "_law_broken_line" ["reel","point"] 2 Fb)(hB:Ub Fb)(JI:Dn P w K mg base 51 "follows" ["line","others"] 2 Ff)(hF:TR Ff)(MT:Dn P w K mg base 51 "_law_told" ["line","others","found"] 3 Ft)(hT:Tf Ft)(tK:Dn P w K mg base 51 "_law_alike" ["found","due"] 2 Fa)(hA:Ug 5 Fa)(U:mT K "law" "law" (top 64) f fd):
  gG P w K mg base je 52 f fd ["script"] (EN K 1 Ep):=by
 have nd:(["script","cells","cell","reel","great","point","others","line","handed","turn","found"]:List Str).Nodup:=by decide +kernel
 refine NN U (N:=["script","cells","cell","reel","great","point","others","line","handed","turn","found"]) ⟨rfl,rfl,rfl,by decide +kernel,rfl,by decide +kernel,by decide +kernel⟩ rfl (fun bG A outer s H E hr=>
  (ae (aB 1 nd (k9 (a5 0) kX (kW a8)))
  (ae (aT (bZ hr (a5 1) (ij a9)) (ag (aB 1 nd (ij (a6 a8 a9)))) aL)
  (ae (dD PassesOwn.never rfl (a5 1) (ar 2 nd)
  (ae (mj 3 nd (Ik MU hr (a6 (a5 2) a9)))
  (ae (fA 4 nd (NL hr (cy 3 cL hr (aP (aM a8) bw)) (aM a8)))
  (ae (fA 5 nd (q9 T.tuple (aP (sP (DA 3 rfl (p7 (tn:=["k"]) (fv:=["reel"]) (js:=[3]) rfl (by decide +kernel) (by decide +kernel) rfl (by decide +kernel) (by decide +kernel) rfl
   (fun x hx=>by((have fj:x="reel":=(by simpa using hx));(rcases fj with rfl<;>exact⟨_,rfl⟩)))
   (fun p hp=>by((have fu:p=(("reel" : Str),(3:Nat)):=(by simpa using hp));(rcases fu with rfl<;>exact⟨rfl,.inr (.inl rfl),.inl rfl,fun z=>by cases z⟩)))) (rS T.range (aP (cy 3 cL hr (aP (aM a8) bw)) bw (hst:=aX))) (fun _ _ _ _=>(ar 1 (show(["reel","k"]:List Str).Nodup by decide +kernel))) (fun _ _ _ _=>(cy 0 kS hr (aP (aM cF) bw))) (d4 rfl))) bw)))
  (ae (aT (bf (a5 4)) (ag (fA 5 nd (q9 T.tuple (aP (sP (wQ 3 rfl (p7 (tn:=["one"]) (fv:=["reel"]) (js:=[3]) rfl (by decide +kernel) (by decide +kernel) rfl (by decide +kernel) (by decide +kernel) rfl
   (fun x hx=>by((have fj:x="reel":=(by simpa using hx));(rcases fj with rfl<;>exact⟨_,rfl⟩)))
   (fun p hp=>by((have fu:p=(("reel" : Str),(3:Nat)):=(by simpa using hp));(rcases fu with rfl<;>exact⟨rfl,.inr (.inl rfl),.inl rfl,fun z=>by cases z⟩)))) (yL (a5 5)) (fun _ _ _ _=>(ar 1 (show(["reel","one"]:List Str).Nodup by decide +kernel))) (fun _ _ _ _=>(yN j7 hr (aP (aM (a5 1)) (aP (vw (aP (cy 0 cL hr (aP (aM (rj a8 a8)) bw (hst:=dC))) (aP (aM a8) bw) (hst:=aX))) bw (hst:=dB))))) (d4 rfl))) bw)))) aL)
  (ae (Dw 6 3 nd rfl (p7 (tn:=["k"]) (fv:=["reel","point"]) (js:=[3,5]) rfl (by decide +kernel) (by decide +kernel) rfl (by decide +kernel) (by decide +kernel) rfl
   (fun x hx=>by((have fj:x="reel"\/x="point":=(by simpa using hx));(rcases fj with rfl|rfl<;>exact⟨_,rfl⟩)))
   (fun p hp=>by((have fu:p=(("reel" : Str),(3:Nat))\/p=(("point" : Str),(5:Nat)):=(by simpa using hp));(rcases fu with rfl|rfl<;>exact⟨rfl,.inr (.inl rfl),.inl rfl,fun z=>by cases z⟩)))) (rS T.range (aP (cy 3 cL hr (aP (aM a8) bw)) bw (hst:=aX))) (fun _ _ _ _=>(ar 2 (show(["reel","point","k"]:List Str).Nodup by decide +kernel))) (fun _ _ _ _=>(cy 0 AM hr (aP (aM (a5 1)) bw))) (d4 rfl))
  (ae (fA 7 nd (cy 3 wj hr (aP (aM (a5 5)) bw)))
  (ae (aB 8 nd (cI (qa T.list (a6 (a5 6) a9))))
  (ag (oC PassesOwn.never rfl T.range (a6 a8 a9) (ar 9 nd) (ae (aB 10 nd (az JI hr (a6 (a5 7) (a6 (a5 8) a9))))
  (ag (aT (cC (cS (cN (bf (az MT hr (a6 (a5 7) (a6 (a5 6) (a6 (a5 10) a9)))))) (cS (d5 hr (ah (a5 10) a8) aY) (dj (cN (bf (az tK hr (a6 (a5 8) (a6 (a5 6) a9))))))))) (ag (aq cF)) aL)))))))))))))
  (ag (aq cF)))))) ?_
 intro ds d hl KQ;unfold Ep at KQ;split at KQ
 ·rename_i h;obtain⟨ns,rfl,h63⟩:=h;cases KQ;have z0:0<=sizeLine:=zero_le _;have z1:1<=sizeLine:=sz (by decide);have z2:2<=sizeLine:=sz (by decide);refine bP ?_;simp!;have s1:yy (.list (ns.map .int)) none (some 12)=some (.list ((ns.take 12).map .int)):=by
   show some (Dat.list (L3.cutD (ns.map Dat.int) none (some ((12:Nat):Int))))=_;rw[PR,map_take]
  have pA:(ns.take 12).length<=63:=by rw[length_take];omega
  generalize ns.take 12=PU at s1 pA;rw[ak (af:=[some (.a7 (.list (ns.map .int))),some (.a7 (.list (PU.map .int))),none,none,none,none,none,none,none,none,none]) (by dsimp![qF,oG,oH,qL,s1])];have hc:∃cs:List Int,∀g2:ax->Option Fl,dO (kv (cc (L3.f2 cU (aH 1) (nN bS))) (ik 1 (nN (aU (fC (.int 0)) bS))) iA) g2 [some (.a7 (.list (ns.map .int))),some (.a7 (.list (PU.map .int))),none,none,none,none,none,none,none,none,none]=g2 [some (.a7 (.list (ns.map .int))),some (.a7 (.list (cs.map .int))),none,none,none,none,none,none,none,none,none]:=by
   cases PU with
   |nil=>exact⟨[0],fun g2=>by rw[ak (af:=[some (.a7 (.list (ns.map .int))),some (.a7 (.list (([0]:List Int).map .int))),none,none,none,none,none,none,none,none,none]) (by dsimp![Ml,z0,z1])]⟩
   |cons c cs=>
    refine⟨c::cs,fun g2=>?_⟩;have en:=J9 c cs (M7 (c::cs) pA);rw[ak (af:=[some (.a7 (.list (ns.map .int))),some (.a7 (.list ((c::cs).map .int))),none,none,none,none,none,none,none,none,none]) (by
     rw[map_cons]at en;dsimp![en,z0])]
  obtain⟨cs,hg⟩:=hc;rw[hg];generalize Dat.list (ns.map .int)=mL;refine gc (I:=fun Γ=>∃x2 x3 x4 x5 x6 x7 x8 x9 mX,Γ=[some (.a7 (mL)),some (.a7 (.list (cs.map .int))),x2,x3,x4,x5,x6,x7,x8,x9,mX]) (Pc _ (d:=.list (cs.map .int)) (ds:=cs.map .int) rfl rfl ⟨_,_,_,_,_,_,_,_,_,rfl⟩ ?_) ?_
  ·rintro d hd Γ ⟨x2,x3,x4,x5,x6,x7,x8,x9,mX,rfl⟩;obtain⟨c,_,rfl⟩:=mem_map.mp hd;refine Lp (as:=[(2,.int c)]) rfl ?_;dsimp!;generalize Dat.list (cs.map .int)=nv;have er:HJ [.int c]=some (rD (NF c)):=rfl;have hR:=ND c;generalize NF c=r0 at hR er;have f4:=cR (m:=4) hR (by decide) (by decide);have R1:=fc (m:=4) hR;generalize tk r0 4=t4 at f4;generalize tr r0 4=r1 at f4 R1;have Pf:=cR (m:=4) R1 (by decide) (by decide);have Xy:=hG r1 (m:=4) (by decide);have R2:=fc (m:=4) R1;generalize tk r1 4=Nh at Pf Xy;generalize tr r1 4=r2 at Pf R2;obtain⟨n,hn⟩:∃n:Nat,Nh=(n:Int):=⟨Nh.toNat,by omega⟩;have eR:ip [.int Nh]=some (fO 0 n):=by rw[hn];exact yG n (by omega)
   have zn:n<sizeLine:=lt_of_lt_of_le (show n<1000 by omega) (sz (by decide));refine mJ (Γ1:=[some (.a7 (mL)),some (.a7 (nv)),some (.a7 (.int c)),some (.own (rD r0)),x4,x5,x6,x7,x8,x9,mX]) (by simp![er]) ?_;refine mJ (Γ1:=[some (.a7 (mL)),some (.a7 (nv)),some (.a7 (.int c)),some (.own (rD r1)),some (.a7 (.bool (decide (t4=0)))),x5,x6,x7,x8,x9,mX]) (by simp![f4,d7]) ?_;generalize decide (t4=0)=g;obtain⟨xs,r3,ec,R3,xl,hx⟩:=rN (gt:=aName 1) (fe:=oV 0 2 mV (eM (j3 (fC (.bool false))) iO)) (tl:=[none]) qD (SR 100) (fO 0 n) (fun d _ r hr=>by
    have e:=qS (g:=false) hr;obtain⟨s1,s2⟩:=rJ (g:=false) hr;obtain⟨q,eq,sq⟩:=HW s1;refine⟨[(1,d)],rfl,q,(dQ r false).2,[some (.a7 d)],?_,s2,sq⟩;rw[<- eq];simp![e]) r2 R2
   rw[fW]at xl;refine mJ (Γ1:=[some (.a7 (mL)),some (.a7 (nv)),some (.a7 (.int c)),some (.own (rD r3)),some (.a7 (.bool g)),some (.a7 (bA xs)),x6,x7,x8,x9,mX]) (Dr (xk (Cp (af:=[some (.a7 (mL)),some (.a7 (nv)),some (.a7 (.int c)),some (.own (rD r2)),some (.a7 (.bool g)),x5,x6,x7,x8,x9,mX]) (by simp![Pf]) eR) rfl (by rw[fW];exact zn) ec)) ?_;obtain⟨ys,r4,R4,yl,hy,e5⟩:∃(ys:List Rat) (r4:R),gJ r4/\ys.length=n/\(∀q∈ys,SR 200 q)/\(kv (iR (aH 4)) (nc 5 (kL fM (eM (hL (lO 3 [none] (aName 1) (GJ 2 f6 (eM (j3 (aH 1)) (eM (zT (eM (oV 0 2 ju (eM (j3 (L3.f2 sS (fC (.int 10)) (fC (.int 20)))) iO)) (eM (j3 (fC (.int 1))) iO))) iO))) (Cf (aH 5)))) iO))) iA) [some (.a7 (mL)),some (.a7 (nv)),some (.a7 (.int c)),some (.own (rD r3)),some (.a7 (.bool g)),some (.a7 (bA xs)),x6,x7,x8,x9,mX]=some (.nx [some (.a7 (mL)),some (.a7 (nv)),some (.a7 (.int c)),some (.own (rD r4)),some (.a7 (.bool g)),some (.a7 (bA ys)),x6,x7,x8,x9,mX]):=by
    cases g with
    |false=>exact⟨xs,r3,R3,xl,fun q hq=>(hx q hq).up (by decide),by simp![]⟩
    |true=>
     obtain⟨ys,r4,Xo,R4,yl,hy⟩:=rN (gt:=aName 1) (fe:=GJ 2 f6 (eM (j3 (aH 1)) (eM (zT (eM (oV 0 2 ju (eM (j3 (L3.f2 sS (fC (.int 10)) (fC (.int 20)))) iO)) (eM (j3 (fC (.int 1))) iO))) iO))) (tl:=[none]) qD (SR 200) (xs.map qD) (fun d hd r hr=>by
      obtain⟨q,hq,rfl⟩:=mem_map.mp hd;have fb:=cR (m:=10^20) hr (by decide) (by decide);have bb:=hG r (m:=10^20) (by decide);have Rb:=fc (m:=10^20) hr;generalize tk r (10^20)=tb at fb bb;generalize tr r (10^20)=rb at fb Rb;have sb:SR 70 ((tb:Int):Rat):=EM (by decide) (by omega);have ep:=ie (hx q hq) sb (by decide) (by decide);have eq:(.tuple [.int tb,.int 1]:Dat)=qD ((tb:Int):Rat):=rfl;refine⟨[(1,qD q)],rfl,q+((tb:Int):Rat),rb,[some (.a7 (qD q))],?_,Rb,((hx q hq).add sb).up (by decide)⟩;simp![QZ,fb,z2,eq,ep]) r3 R3
     rw[length_map]at yl;refine⟨ys,r4,R4,by omega,hy,?_⟩;rw[ng (by simp![])];exact EU (J4 rfl (OE (d:=bA xs) rfl rfl) (by rw[length_map,xl];exact zn) Xo)
   refine mJ e5 ?_;have f9:=cR (m:=9) R4 (by decide) (by decide);have b9:=hG r4 (m:=9) (by decide);have R5:=fc (m:=9) R4;generalize tk r4 9=t9 at f9 b9;generalize tr r4 9=r5 at f9 R5;obtain⟨m9,mE⟩:∃n:Nat,t9=(n:Int):=⟨t9.toNat,by omega⟩;have Xr:ip [.int t9]=some (fO 0 m9):=by rw[mE];exact yG m9 (by omega)
   have zm:m9<sizeLine:=lt_of_lt_of_le (show m9<1000 by omega) (sz (by decide));obtain⟨os,r6,Xn,R6,ol,kY⟩:=rN (gt:=aName 2) (fe:=oV 0 2 Fk (eM (j3 (aH 1)) iO)) (tl:=[some (.a7 (bA ys)),none]) aA (fun o=>xK n o/\FM.cK o ys) (fO 0 m9) (fun d _ r hr=>by
    obtain⟨o,r',e,R',h1,h2⟩:=hK r ys hr (by omega) hy;have e':Fk [.int r.1,.int r.2] [bA ys]=some (aA o,rD r'):=e;rw[yl]at h1;refine⟨[(2,d)],rfl,o,r',[some (.a7 (bA ys)),some (.a7 d)],?_,R',h1,h2⟩;generalize bA ys=dy at *;simp![e']) r5 R5
   rw[fW]at ol;refine mJ (Γ1:=[some (.a7 (mL)),some (.a7 (nv)),some (.a7 (.int c)),some (.own (rD r6)),some (.a7 (.bool g)),some (.a7 (bA ys)),some (.a7 (.list (os.map aA))),x7,x8,x9,mX]) (HX (xk (Cp (af:=[some (.a7 (mL)),some (.a7 (nv)),some (.a7 (.int c)),some (.own (rD r5)),some (.a7 (.bool g)),some (.a7 (bA ys)),x6,x7,x8,x9,mX]) (by simp![f9]) Xr) rfl (by rw[fW];exact zm) Xn)) ?_;obtain⟨o,r7,eB,R7,ho,uF⟩:=hB r6 ys R6 (by omega) hy;have Xs:Fb [.int r6.1,.int r6.2] [bA ys]=some (aA o,rD r7):=eB;rw[yl]at ho;have IV:∀q∈os,xK n q:=fun q hq=>(kY q hq).1;obtain⟨P9,hb⟩:=PZ (by omega) ho IV (by omega);have eF:=hF 1000 1400 o os P9.ln hb;have eT:=hT 1000 1400 o os P9 hb;have eA:=hA _ (RI (os:=os) (fun q hq=>by rw[(IV q hq).1];omega) (by omega));have Wq:vN o os=false:=by
    cases hf:vN o os with
    |false=>rfl
    |true=>exact absurd ((Mi (fun q hq=>by rw[(IV q hq).1,ho.1])).mp hf ys (by rw[ho.1,yl]) fun q hq=>(kY q hq).2) uF
   have f0:=Va o os;rw[Wq]at f0;have Xe:bz (uK o.1 o.2.1 o.2.2 os) (.int 0)=some (.str "breaks"):=f0;have li:uk [.list (os.map aA)]=some (os.map aA):=rfl;generalize uK o.1 o.2.1 o.2.2 os=fo at *;refine mJ (Γ1:=[some (.a7 (mL)),some (.a7 (nv)),some (.a7 (.int c)),some (.own (rD r7)),some (.a7 (.bool g)),some (.a7 (bA ys)),some (.a7 (.list (os.map aA))),some (.a7 (aA o)),x8,x9,mX]) (by
    generalize bA ys=dy at *;simp![Xs]) ?_
   refine mJ (Γ1:=[some (.a7 (mL)),some (.a7 (nv)),some (.a7 (.int c)),some (.own (rD r7)),some (.a7 (.bool g)),some (.a7 (bA ys)),some (.a7 (.list (os.map aA))),some (.a7 (aA o)),some (.a7 (.list (os.map aA))),x9,mX]) (by dsimp![li]) ?_;obtain⟨af,e1,y9,N0,e2⟩:=qC (as:=[.int 2]) (l:=range' 0 2) (s:=()) (rg:=ip) (gt:=aName 9) (gb:=dO (ik 10 (iS 2 Ff (aU (aH 7) (aU (aH 8) bS)))) (kv (iw (j4 (iR (iS 3 Ft (aU (aH 7) (aU (aH 6) (aU (aH 10) bS)))))) (iw (cc (L3.f2 gk (L3.f2 bz (aH 10) (fC (.int 0))) (fC (.str "breaks")))) (j4 (iR (iS 2 Fa (aU (aH 8) (aU (aH 6) bS))))))) (k6 (fC (.bool false))) iA)) (fs:=aU (fC (.int 2)) bS) (Γ:=[some (.a7 (mL)),some (.a7 (nv)),some (.a7 (.int c)),some (.own (rD r7)),some (.a7 (.bool g)),some (.a7 (bA ys)),some (.a7 (.list (os.map aA))),some (.a7 (aA o)),some (.a7 (.list (os.map aA))),x9,mX]) nat (fun _ Γ=>∃y9 N0,Γ=[some (.a7 (mL)),some (.a7 (nv)),some (.a7 (.int c)),some (.own (rD r7)),some (.a7 (.bool g)),some (.a7 (bA ys)),some (.a7 (.list (os.map aA))),some (.a7 (aA o)),some (.a7 (.list (os.map aA))),y9,N0]) (fun _ _=>True) (fun s _=>s) rfl (NA (n:=2) (by decide)) trivial ⟨_,_,rfl⟩ (by
     rintro s i l Γ _ ⟨y9,N0,rfl⟩;refine⟨[(9,nat i)],rfl,[some (.a7 (mL)),some (.a7 (nv)),some (.a7 (.int c)),some (.own (rD r7)),some (.a7 (.bool g)),some (.a7 (bA ys)),some (.a7 (.list (os.map aA))),some (.a7 (aA o)),some (.a7 (.list (os.map aA))),some (.a7 (nat i)),some (.a7 (fo))],?_,⟨_,_,rfl⟩,trivial⟩;dsimp!;generalize bA ys=dy at *;rw[ak (af:=[some (.a7 (mL)),some (.a7 (nv)),some (.a7 (.int c)),some (.own (rD r7)),some (.a7 (.bool g)),some (.a7 (dy)),some (.a7 (.list (os.map aA))),some (.a7 (aA o)),some (.a7 (.list (os.map aA))),some (.a7 (nat i)),some (.a7 (fo))]) (by dsimp![eF])];dsimp![eT,Xe,Ma,eA])
   exact⟨af,e1,_,_,_,_,_,_,_,_,_,e2⟩
  ·rintro af ⟨x2,x3,x4,x5,x6,x7,x8,x9,mX,rfl⟩;simp![]
 ·cases KQ
theorem all_mk{lw:PySem.W.OpenLaw}{h:Heap}{fa:Addr}{od an:Option Addr}{sl:Array (Option Value)}{oc kV dc pm cd ct:Value}(X:K.In h)(G:h.Ns mainGlobals mg)(Wr:mg "law"=some (.ref fa))(tB:FnAt K mg "common_divisor" (top 1) ["a","b"])(Q6:FnAt K mg "make" (top 2) ["n","d"])(Q4:FnAt K mg "plus" (top 3) ["a","b"])(MP:FnAt K mg "minus" (top 4) ["a","b"])(MM:FnAt K mg "times" (top 5) ["a","b"])(Q5:FnAt K mg "over" (top 6) ["a","b"])(MQ:FnAt K mg "below" (top 7) ["a","b"])(Hz:FnAt K mg "lowered" (top 12) ["numbers"])(AZ:FnAt K mg "whole_row" (top 13) ["kind","fractions"])(Az:FnAt K mg "first_rows" (top 14) ["parts","others"])(MO:FnAt K mg "mixed" (top 15) ["one","much","other","more"])(B4:FnAt K mg "equal_row" (top 16) ["rows","place"])(Hy:FnAt K mg "without" (top 17) ["row","equal","place"])(Jx:FnAt K mg "joined" (top 18) ["upper","lower","place"])(Ei:FnAt K mg "drawn_on" (top 19) ["one","other","weighed"])(Jw:FnAt K mg "paired" (top 20) ["rows","place","weighed","most"])(B1:FnAt K mg "stages_of" (top 21) ["parts","others"])(B3:FnAt K mg "left_over" (top 22) ["row","point"])(Ef:FnAt K mg "tightest" (top 23) ["rows","place","point","way"])(Jz:FnAt K mg "end_of" (top 24) ["stages","way"])(B0:FnAt K mg "upper_end" (top 25) ["stages"])(vX:FnAt K mg "opposite_end" (top 26) ["stages"])(Eh:FnAt K mg "is_never" (top 27) ["kind","bound"])(tx:FnAt K mg "never_by_a_row" (top 28) ["stages"])(uW:FnAt K mg "never_by_ends" (top 29) ["stages"])(MN:FnAt K mg "never" (top 30) ["stages"])(B2:FnAt K mg "number_of" (top 31) ["end"])(qO:FnAt K mg "turned_number_of" (top 32) ["end"])(HC:FnAt K mg "between" (top 33) ["least","greatest"])(Eg:FnAt K mg "point_of" (top 34) ["stages","number"])(vW:FnAt K mg "point_beyond" (top 35) ["stages","bound"])(Jy:FnAt K mg "halves" (top 38) ["line"])(HA:FnAt K mg "is_kept" (top 39) ["line","kind","bound"])(vY:FnAt K mg "half_follows" (top 40) ["line","others"])(HB:FnAt K mg "follows" (top 41) ["line","others"])(B7:FnAt K mg "_law_reel" (top 44) ["cell"])(B6:FnAt K mg "_law_take" (top 45) ["reel","many"])(B9:FnAt K mg "_law_make" (top 46) ["n","d"])(B8:FnAt K mg "_law_plus" (top 47) ["a","b"])(AA:FnAt K mg "_law_times" (top 48) ["a","b"])(AE:FnAt K mg "_law_below" (top 49) ["a","b"])(qQ:FnAt K mg "_law_is_fraction" (top 50) ["found"])(p8:FnAt K mg "_law_are_fractions" (top 51) ["found","many"])(uY:FnAt K mg "_law_fraction" (top 52) ["reel","great"])(Ba:FnAt K mg "_law_line" (top 53) ["reel","many","great"])(uX:FnAt K mg "_law_together" (top 54) ["others","weights","many"])(AB:FnAt K mg "_law_right" (top 55) ["kind","parts","bound","others","weights"])(xQ:FnAt K mg "_law_turned" (top 56) ["parts","bound"])(qP:FnAt K mg "_law_paper_shows" (top 57) ["line","others","paper"])(Ej:FnAt K mg "_law_sum" (top 59) ["parts","point"])(AD:FnAt K mg "_law_holds" (top 60) ["line","point"])(B5:FnAt K mg "_law_told" (top 58) ["line","others","found"])(AF:FnAt K mg "_law_alike" (top 61) ["found","due"])(tD:FnAt K mg "_law_kept_line" (top 62) ["reel","point"])(qR:FnAt K mg "_law_broken_line" (top 63) ["reel","point"])(qN:∃a,TC K mg "ZERO_elimination" [.int (0),.int (1)] a)(RN:∃a,TC K mg "ONE" [.int (1),.int (1)] a)(RM:∃a,TC K mg "TWO" [.int (2),.int (1)] a)(vV:∃a,TC K mg "ZERO_follows" [.int (0),.int (1)] a)(a:nsIn K mainGlobals "law"=some (some (.ref f)))(l:K.lookup f=some ⟨oc,od,.func (fnOf "law" "law" (jR (top 64)) (d8 (top 64)) (bc (top 64)) .none kV dc pm an cd ct),sl⟩)(c:codeIn K cd "law"=true)(k:keepIn K (.ref f)=true)(T:TX lw.prog K mg)
  : ∃fd:FuncData,(∀(s:Shared) (v:Value),BindsTo s fd ⟨[v],[]⟩ [("script",v)])/\∀base:Heap,K.In base->base.Ns mainGlobals mg->gG lw.prog w K mg base je 100 fa fd ["script"] (xV K):=by
 have e:=Wr.symm.trans (mg_of X G a);cases e;obtain⟨_,du⟩:=qN;obtain⟨_,L9⟩:=RN;obtain⟨_,RL⟩:=RM;obtain⟨_,vU⟩:=vV;refine⟨fnOf "law" "law" (jR (top 64)) (d8 (top 64)) (bc (top 64)) .none kV dc pm an cd ct,fun s v=>.of_eq rfl,fun base _ _=>?_⟩;have RO:=A3 (st:=top 64) l c k;have D1:=Vg (P:=lw.prog) (w:=w) (base:=base) T tB;have D2:=PB T D1 Q6;have D3:=Px T D2 Q4;have D4:=MA T D2 MP;have D5:=Mt T D2 MM;have D6:=Py T D2 Q5;have D7:=MJ T D2 MQ;obtain⟨G8,D8,V6⟩:=Hj T D1 Hz;obtain⟨G9,D9,Wz⟩:=Mr T D1 AZ;obtain⟨G10,Yg,X2⟩:=MF T du L9 (D9.up (by decide)) Wz (D4.up (by decide)) Az;obtain⟨G11,Ua,P6⟩:=Mz T D8 V6 MO;obtain⟨G12,Yf,X3⟩:=MG (P:=lw.prog) (w:=w) (base:=base) T B4;obtain⟨G13,Ye,Wy⟩:=Hh T Ua P6 Hy;obtain⟨G14,Yd,WV⟩:=Jo T Ua P6 Jx;obtain⟨G15,Yc,X4⟩:=MI (P:=lw.prog) (w:=w) (base:=base) T Ei;obtain⟨G16,Yb,WL⟩:=Ji T (Yc.up (by decide)) X4 (Yd.up (by decide)) WV Jw;obtain⟨G17,Ya,WD⟩:=Jh T (Yg.up (by decide)) X2 (Yf.up (by decide)) X3 (Yb.up (by decide)) WL (Ye.up (by decide)) Wy B1;obtain⟨G18,Y9,WR⟩:=PL T (D4.up (by decide)) (D5.up (by decide)) B3;obtain⟨G19,U9,SI⟩:=Mu T (Y9.up (by decide)) WR (D6.up (by decide)) (D7.up (by decide)) (D2.up (by decide)) Ef;obtain⟨G20,U8,SO⟩:=MH T du (U9.up (by decide)) SI Jz;obtain⟨XJ,Qo,V1⟩:=Ms T (U8.up (by decide)) B0;obtain⟨XI,U7,V5⟩:=Pz T (U8.up (by decide)) vX;have P2:Ay 1 XJ:=fun b n m Ls rows h1 h2 h3 h4 h5 h6 h7 h8=>V1 _ _ (SO b n m Ls rows 1 (.inl rfl) h1 h2 h3 h4 h5 h6 h7 (by omega)).1;have SK:Ay (-1) XI:=fun b n m Ls rows h1 h2 h3 h4 h5 h6 h7 h8=>V5 _ _ (SO b n m Ls rows (-1) (.inr rfl) h1 h2 h3 h4 h5 h6 h7 (by omega)).1;obtain⟨G23,U6,hIn⟩:=Hk T du (D7.up (by decide)) Eh;obtain⟨G24,Y8,WQ⟩:=My T (U6.up (by decide)) hIn tx;obtain⟨G25,Y7,WO⟩:=Jj T (Qo.up (by decide)) P2 (U7.up (by decide)) SK (U6.up (by decide)) hIn (D3.up (by decide)) uW;obtain⟨G26,Y6,WN⟩:=Mx T (Y8.up (by decide)) WQ (Y7.up (by decide)) WO MN;obtain⟨G27,U5,SM⟩:=Mw (P:=lw.prog) (w:=w) (base:=base) T B2;obtain⟨G28,U4,SH⟩:=Jg T du (D4.up (by decide)) qO;obtain⟨G29,U3,xm⟩:=Hm T du L9 RL (D3.up (by decide)) (D4.up (by decide)) (D6.up (by decide)) HC;obtain⟨G30,Y5,WI⟩:=Mv T du (U9.up (by decide)) SI (U4.up (by decide)) SH (U5.up (by decide)) SM (U3.up (by decide)) xm Eg
 obtain⟨G31,Y4,WK⟩:=Jq T (Qo.up (by decide)) P2 (U7.up (by decide)) SK (U4.up (by decide)) SH (U5.up (by decide)) SM (U3.up (by decide)) xm (D7.up (by decide)) (Y5.up (by decide)) WI vW;obtain⟨G32,Y3,WY⟩:=Jp T vU (D4.up (by decide)) Jy;obtain⟨G33,Y2,WW⟩:=RH T (D7.up (by decide)) HA;obtain⟨G34,Y1,X0⟩:=PN T (Ya.up (by decide)) WD (Y6.up (by decide)) WN (Qo.up (by decide)) P2 (Y2.up (by decide)) WW (Y4.up (by decide)) WK vY;obtain⟨G35,Y0,X1⟩:=Hl T (Y1.up (by decide)) X0 (Y3.up (by decide)) WY HB;have XZ:=Pw (P:=lw.prog) (w:=w) (base:=base) T B7;have HQ:=Pu (P:=lw.prog) (w:=w) (base:=base) T B6;have Ll:=ME (P:=lw.prog) (w:=w) (base:=base) T B9;have HP:=MD T Ll B8;have U2:=Jk T Ll AA;have U1:=Jn (P:=lw.prog) (w:=w) (base:=base) T AE;obtain⟨G43,XY,WX⟩:=PJ T Ll qQ;obtain⟨G44,U0,SV⟩:=PM T XY WX p8;have TZ:=PQ T HQ Ll uY;have TY:=PK T (HQ.up (by decide)) TZ Ba;obtain⟨G47,XX,P4⟩:=PC T HP U2 uX;obtain⟨G48,XW,WG⟩:=Jl T XX P4 (U1.up (by decide)) AB;obtain⟨G49,XU,WB⟩:=Hi (P:=lw.prog) (w:=w) (base:=base) T xQ;obtain⟨G50,XT,WJ⟩:=MC T (U0.up (by decide)) SV (XW.up (by decide)) WG (XU.up (by decide)) WB qP;obtain⟨G52,Qn,P5⟩:=PD T HP U2 Ej;obtain⟨G53,XR,WZ⟩:=Jm T Qn P5 (U1.up (by decide)) AD;obtain⟨G51,XS,V2⟩:=MB T XT (U0.up (by decide)) SV (XR.up (by decide)) B5;have WC:=Lq WJ WZ V2;obtain⟨G60,XQ,X9⟩:=CQ (P:=lw.prog) (w:=w) (base:=base) T AF 5;obtain⟨G61,XO,WT⟩:=AV T (Qn.up (by decide)) P5 (TY.up (by decide)) (HQ.up (by decide)) (HP.up (by decide)) tD;obtain⟨G62,XN,X8⟩:=xP T (Qn.up (by decide)) P5 (TY.up (by decide)) (HQ.up (by decide)) (HP.up (by decide)) qR;have DL:=RG T (XZ.up (by decide)) (HQ.up (by decide)) (TZ.up (by decide)) (HP.up (by decide)) (XO.up (by decide)) WT (XN.up (by decide)) X8 (Y0.up (by decide)) X1 (XS.up (by decide)) WC (XQ.up (by decide)) X9 RO;exact(Ov DL fun ns hl=>by unfold Ep;exact if_pos ⟨ns,rfl,hl⟩).mono (by decide)
end
end TF
namespace PySem.W.Fast
def tw4367131200369233245:=0
def tw342109022636305482:=0
def tw6244660862928145078:=0
def tw16268081587636840824:=0
def tw3982759731024498043:=0
def tw11905779428699206445:=0
def tw441945811897703264:=0
def tw7542415154851637706:=0
def tw910652782928365442:=0
def tw6649504815335827521:=0
def tw6993940278599457518:=0
def tw11674352235029795222:=0
def tw3782654654772386588:=0
def tw15675211164277706033:=0
def tw6318675375675744637:=0
def tw6038379470237823987:=0
def tw17699915728741133706:=0
def tw17475339062436619144:=0
def tw4432785850125685312:=0
def tw13696140881019669499:=0
def tw6980668628507649766:=0
def tw3564009350516187462:=0
def tw18224161220006469013:=0
def tw1010155287970966323:=0
def tw12539142254042480811:=0
def tw2912583986677292883:=0
def tw10373233517760684846:=0
def tw4559610840792312975:=0
def tw9390414134695501197:=0
def tw9146293682251099812:=0
def tw11121840502925177041:=0
def tw17102366921941618775:=0
def tw8440086206142908763:=0
def tw16237919475578561772:=0
def tw4426624416966255536:=0
def tw7423562122623118683:=0
def tw9504486821995923680:=0
def tw5304921250015374671:=0
def tw14782039025072290776:=0
def tw16233823420951906372:=0
def tw13607133451200751856:=0
def tw17590292006731081881:=0
def tw18147708281103357092:=0
def tw4268169114795025856:=0
def tw16770916221731016304:=0
def tw4059487712224487592:=0
def tw9801593433558342529:=0
def tw10257683860110614158:=0
def tw14964000834101020795:=0
def tw113993305013160824:=0
def tw1002062462117909850:=0
def tw12568102083468798610:=0
def tw6660614914234716871:=0
def tw18248447724855857197:=0
def tw15674332976143948578:=0
def tw6783614462155415774:=0
def tw18045868365963222622:=0
def tw8257288048065229845:=0
def tw18030333424259126:=0
def tw6973632554085668573:=0
def tw11576040923647277456:=0
def tw5959320029703248726:=0
def tw7449326638265234585:=0
def tw5896141621955383835:=0
def tw8681211306821028151:=0
def tw4131938857296947087:=0
def tw9948373957971512195:=0
def tw1318047201454962121:=0
def tw4754165495012731172:=0
def tw7713859352462385608:=0
def tw6289873559183643407:=0
def tw4673183015783505146:=0
def tw15064012853303103102:=0
def tw1575219087469136185:=0
def tw2299995856900515144:=0
def tw5974693032363609485:=0
def tw1310560820833226856:=0
def tw5352216467089643795:=0
def tw1856429038138988904:=0
def tw11423620418865546006:=0
def tw4232985766342851823:=0
def tw15681761777321319104:=0
def tw15437982823866037849:=0
def tw15313263267980073937:=0
def tw18263773766101434466:=0
def tw8233009901283216514:=0
def tw11911229045660122940:=0
def tw9480070445228062844:=0
def tw17426372983889139258:=0
def tw9731102309990268502:=0
def tw11749652669718128589:=0
def tw16336501113463590465:=0
def tw5721601877043825529:=0
def tw1493209127620376046:=0
def tw11977533771137492877:=0
def tw1110162528632721736:=0
def tw7851223899051827912:=0
def tw10641422835072925674:=0
def tw9048648910475331199:=0
def tw4963739063033319227:=0
def tw6356051342646326166:=0
def tw6247171425646562504:=0
def tw13877203698777163206:=0
def tw2416175499259103453:=0
def tw5051395945261154514:=0
def tw8193391559244260144:=0
def tw13468988325501401595:=0
def tw2083781431123703729:=0
def tw14420070759707293036:=0
def tw1946007743403637147:=0
def tw4158511236078054402:=0
def tw15925969098576163902:=0
def tw13073594565061224266:=0
def tw13680093581729051075:=0
def tw18050395121340592748:=0
def tw9534779334750232222:=0
def tw4391920567984567119:=0
def tw14724664755204732493:=0
def tw7215935395349700577:=0
def tw5519564342054437621:=0
def tw5012774959632197257:=0
def tw1913828799465218891:=0
def tw18130207773432491643:=0
def tw8991385189409344330:=0
def tw8160097389884607415:=0
def tw18398767033593839582:=0
def tw11510096760308953159:=0
def tw5495093168247436892:=0
def tw846427552702544242:=0
def tw9016273688571199725:=0
def tw7922891519143466186:=0
def tw14211459089954831280:=0
def tw13691217453347754357:=0
def tw11005676808639037567:=0
def tw16457041256358825243:=0
def tw15953198647412845980:=0
def tw2334826246830345707:=0
def tw15658123956088931368:=0
def tw6886759870991217236:=0
def tw10619361315964916881:=0
def tw473156008881688992:=0
def tw1767950139313156617:=0
def tw16293123237520724096:=0
def tw1546181009737446785:=0
def tw856920776215807389:=0
def tw5326744871586007505:=0
def tw5240420204278093874:=0
def tw18284666916970196243:=0
def tw1676149646675510906:=0
def tw14354456013490253609:=0
def tw12508643798843589512:=0
def tw10475677467128011675:=0
def tw7651925210199712667:=0
def tw10005807706495558218:=0
def tw15954016742330080957:=0
def tw8358217052013944679:=0
def tw13247169312446042303:=0
def tw12970525252826586424:=0
def tw9653328388356810728:=0
def tw13433884969667698268:=0
def tw12701276153785252437:=0
def tw5162048355492195257:=0
def tw9534338674175571848:=0
def tw9425227348708614678:=0
def tw12249410282828288796:=0
def tw7329320613324054222:=0
def tw2870423281991763758:=0
def tw667742033714504142:=0
def tw4252208359031364153:=0
def tw14453848819147527624:=0
def tw1311641890671955804:=0
def tw4355077686014971945:=0
def tw1355252586737267386:=0
def tw6907523310767323536:=0
def tw2929548991129687995:=0
def tw208469110112430109:=0
def tw16464359609455893385:=0
def tw14108277747724734056:=0
def tw6867010243943292376:=0
def tw11637870689215516636:=0
def tw13898503358864525894:=0
def tw13718575053748717112:=0
def tw11208283821586191697:=0
def tw16281109117700767689:=0
def tw840108835839026234:=0
def tw18336019119630507123:=0
def tw1812151973385020717:=0
def tw16450621752584376006:=0
def tw11903792784477145847:=0
def tw6903668790706550811:=0
def tw5107280077106548299:=0
def tw5024158210093021637:=0
def tw18425290135098059896:=0
def tw7749620531804941975:=0
def tw16856987823422488386:=0
def tw16787766680229606655:=0
def tw10202437872653940853:=0
def tw7619816528772558153:=0
def tw522540014655512513:=0
def tw13921125691283565273:=0
def tw17610887396421896223:=0
def tw13389179636817168168:=0
def tw3364970097944625786:=0
def tw865908539149339285:=0
def tw14439205450222080313:=0
end PySem.W.Fast
open PySem PySem.W PyProof.Rows
local macro_rules | `(tactic| simp_all!) => `(tactic| (refine' L3.Vb (by assumption) (by assumption) ?a ?l ?c ?k ?b; (case a => k_is); (case l => k_is); (case c => k_is); (case k => k_is); (case b => intro _ _ _ _ _ _ us hl; rcases us with _ | ⟨_, _ | ⟨_, _ | ⟨_, _ | ⟨_, _ | ⟨_, _ | ⟨_, _⟩⟩⟩⟩⟩⟩ <;> first | rfl | cases hl)))
set_option maxRecDepth 100000 in
set_option maxHeartbeats 0 in
theorem PySem.Challenge.cw_stepjudge_k17_lines_that_break_holds : PySem.Challenge.rw_stepjudge_k17_lines_that_break.Holds := by
 w_on;o_law;x_head;(case hw=>w_witness2)
 k_fill
 refine L3.Qw (k:=1) (by decide) (l:=PySem.Challenge.rw_stepjudge_k17_lines_that_break) rfl rfl (fun w h Y=>PySem.W.kIn_of Y) ?F;case F=>
  intro w mg fa h KX G Gy;refine' TF.all_mk KX G Gy ?u1 ?u2 ?u3 ?u4 ?u5 ?u6 ?u7 ?u8 ?u9 ?u10 ?u11 ?u12 ?u13 ?u14 ?u15 ?u16 ?u17 ?u18 ?u19 ?u20 ?u21 ?u22 ?u23 ?u24 ?u25 ?u26 ?u27 ?u28 ?u29 ?u30 ?u31 ?u32 ?u33 ?u34 ?u35 ?u36 ?u37 ?u38 ?u39 ?u40 ?u41 ?u42 ?u43 ?u44 ?u45 ?u46 ?u47 ?u48 ?u49 ?u50 ?u51 ?u52 ?u53 ?u54 ?u55 ?t1 ?t2 ?t3 ?t4 ?a ?l ?c ?k ⟨?se,mg_none_of KX G ?z1,mg_none_of KX G ?z2,mg_none_of KX G ?z3,mg_none_of KX G ?z4,mg_none_of KX G ?z5,mg_none_of KX G ?z6,mg_none_of KX G ?z7,mg_none_of KX G ?z8,mg_none_of KX G ?z9,mg_none_of KX G ?z10,mg_none_of KX G ?z11,mg_none_of KX G ?z12,mg_none_of KX G ?z13⟩
  (case se=>refine' L3.LD KX G rfl ?s1 ?s3 ?s4 ?s5 ?s7 ?s8 ?s9 ?s2 ?s6;(case s1=>k_is);(case s3=>k_is);(case s4=>k_is);(case s5=>k_is);(case s7=>k_is);(case s8=>k_is);(case s9=>k_is);(case s2=>rfl);(case s6=>rfl))
  case u1|u2|u3|u4|u5|u6|u7|u8|u9|u10|u11|u12|u13|u14|u15|u16|u17|u18|u19|u20|u21|u22|u23|u24|u25|u26|u27|u28|u29|u30|u31|u32|u33|u34|u35|u36|u37|u38|u39|u40|u41|u42|u43|u44|u45|u46|u47|u48|u49|u50|u51|u52|u53|u54|u55=>simp_all!
  case t1|t2|t3|t4=>refine' L3.xS KX G ?ta ?tl;(case ta=>k_is);(case tl=>k_is)
  case a|l|c|k=>k_is
  case z1|z2|z3|z4|z5|z6|z7|z8|z9|z10|z11|z12|z13=>k_is
